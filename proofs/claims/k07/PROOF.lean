import PyProof.Rows.All
import Wide.All
import OpenK.AllK
import Wide.FinOn
import KE.KStateDown
import HandS.Base
import HandS.Call
import HandS.Ends
import HandS.More
import HandS.Words
import HandS.WordsExc
import HandS.Defaults
import HandS.ForMost
import HandS.MakeKw
import HandS.IsInst
import HandS.TupLe
import HandS.TupAny
import HandS.TupSets
import HandS.Conv
import HandS.Keys
import HandS.Head0
import HandS.Head1
import HandS.Head2
import HandS.HeadEnd
import HandS.HeadHook1
import HandS.HeadHook2
import HandS.HeadHook3
import HandS.FStr
import HandS.RaiseMore
import HandS.OwnEq
import HandS.Text
import HandS.Iter
import HandS.Wide
import HandS.WideBits
import HandS.Zip
import KE.GoesMore
import KE.GoesNew
import PyProof.FString2
import PySem.Challenge.RW_roadpence_k07_rules_alike
set_option Elab.async false
set_option linter.all false
set_option maxRecDepth 100000
set_option maxHeartbeats 4000000
namespace Rp
open PySem PySem.Spec PyProof.Rows L2
/-! ### wishes -/
/-! each a structure, so that no unification unfolds it -/
structure wE (X : Cx) (e : Expr) (σ : L2.St) (H : Hp) (Q : VK) : Prop where
  run : ∀ (pins : List (Addr × Obj)) (s : Shared), Inv X pins σ H s → wpAny (model X.prog X.w) X.A (eval e X.env) (EP X pins σ Q) X.xe s
structure wT (X : Cx) (e : Expr) (σ : L2.St) (H : Hp) (Q : Bool → Hp → Prop) : Prop where
  run : ∀ (pins : List (Addr × Obj)) (s : Shared), Inv X pins σ H s → wpAny (model X.prog X.w) X.A (isTrue e X.env (eval e X.env)) (TP X pins σ Q) X.xe s
structure wW (X : Cx) (e : Expr) (σ : L2.St) (H : Hp) (Q : Bool → Hp → Prop) : Prop where
  run : ∀ (whole : Sem Value) (pins : List (Addr × Obj)) (s : Shared), Inv X pins σ H s → wpAny (model X.prog X.w) X.A (isTrue e X.env whole) (TP X pins σ Q) X.xe s
structure wA (X : Cx) (es : List Expr) (σ : L2.St) (H : Hp) (Q : List V → Hp → Prop) : Prop where
  run : ∀ (pos : Pos) (pins : List (Addr × Obj)) (s : Shared), Inv X pins σ H s → wpAny (model X.prog X.w) X.A (spliced (backTo pos (starEach es X.env))) (AP X pins σ Q) X.xe s
structure wK (X : Cx) (kws : List Keyword) (σ : L2.St) (H : Hp) (Q : List V → Hp → Prop) : Prop where
  run : ∀ (pos : Pos) (pins : List (Addr × Obj)) (s : Shared), Inv X pins σ H s → wpAny (model X.prog X.w) X.A (evalAll ((backToKw pos (keywordEach kws X.env)).map (·.2))) (AP X pins σ Q) X.xe s
structure wS (X : Cx) (st : Stmt) (D : Ends) (σ : L2.St) (H : Hp) : Prop where
  run : ∀ (pins : List (Addr × Obj)) (s : Shared), Inv X pins σ H s → wpAny (model X.prog X.w) X.A (exec st X.env) (SP X pins D) X.xe s
structure wB (X : Cx) (st : List Stmt) (D : Ends) (σ : L2.St) (H : Hp) : Prop where
  run : ∀ (pins : List (Addr × Obj)) (s : Shared), Inv X pins σ H s → wpAny (model X.prog X.w) X.A (execs st X.env) (SP X pins D) X.xe s
structure wG (X : Cx) (tg : Expr) (v : V) (σ : L2.St) (H : Hp) (Q : L2.St → Hp → Prop) : Prop where
  run : ∀ (pins : List (Addr × Obj)) (s : Shared) (u : Value), Inv X pins σ H s → RelV v u →
  wpAny (model X.prog X.w) X.A (assign tg X.env u) (fun _ s' => ∃ σ' H', Inv X pins σ' H' s' ∧ Q σ' H') X.xe s
structure wGs (X : Cx) (ts : List Expr) (vs : List V) (σ : L2.St) (H : Hp) (Q : L2.St → Hp → Prop) : Prop where
  run : ∀ (pins : List (Addr × Obj)) (s : Shared) (us : List Value), Inv X pins σ H s → Vals vs us →
  wpAny (model X.prog X.w) X.A (assignInOrder ((assignEach ts X.env).map (·.2)) us) (fun _ s' => ∃ σ' H', Inv X pins σ' H' s' ∧ Q σ' H') X.xe s
structure wO (X : Cx) (f : Value → Value → Sem Value) (x y : V) (H : Hp) (Q : VK) : Prop where
  run : ∀ (pins : List (Addr × Obj)) (s : Shared) (σ : L2.St) (v u : Value), Inv X pins σ H s → RelV x v → RelV y u →
  wpAny (model X.prog X.w) X.A (f v u) (EP X pins σ Q) X.xe s
structure wU (X : Cx) (f : Value → Sem Value) (x : V) (H : Hp) (Q : VK) : Prop where
  run : ∀ (pins : List (Addr × Obj)) (s : Shared) (σ : L2.St) (v : Value), Inv X pins σ H s → RelV x v →
  wpAny (model X.prog X.w) X.A (f v) (EP X pins σ Q) X.xe s
structure wC (X : Cx) (f : Value) (xs : List V) (H : Hp) (Q : VK) : Prop where
  run : ∀ (pins : List (Addr × Obj)) (s : Shared) (σ : L2.St) (us : List Value), Inv X pins σ H s → Vals xs us →
  wpAny (model X.prog X.w) X.A (call f us) (EP X pins σ Q) X.xe s
structure wIx (X : Cx) (value slice : Expr) (x y : V) (H : Hp) (Q : VK) : Prop where
  run : ∀ (pins : List (Addr × Obj)) (s : Shared) (σ : L2.St) (v u : Value), Inv X pins σ H s → RelV x v → RelV y u →
  wpAny (model X.prog X.w) X.A (subscriptTail value slice v u) (EP X pins σ Q) X.xe s
section
variable {X : Cx} {e a b c : Expr} {es : List Expr} {kws : List Keyword} {st : Stmt} {sts rest : List Stmt} {t : TE} {tt : TT} {ta : TA} {ts : TS} {r : R2} {σ : L2.St} {H : Hp} {Q : VK} {QB : Bool → Hp → Prop} {QA : List V → Hp → Prop} {D : Ends} {pos : Pos}
theorem wE.pe : PE X e (wE X e) := ⟨fun pins s σ H Q I h => h.run pins s I⟩
theorem wE.of (h : PE X e t) (q : t σ H Q) : wE X e σ H Q := ⟨fun pins s I => h.run pins s σ H Q I q⟩
theorem wT.pt : PT X e (wT X e) := ⟨fun pins s σ H Q I h => h.run pins s I⟩
theorem wT.of (h : PT X e tt) (q : tt σ H QB) : wT X e σ H QB := ⟨fun pins s I => h.run pins s σ H QB I q⟩
theorem wW.pw : PW X e (wW X e) := ⟨fun wh pins s σ H Q I h => h.run wh pins s I⟩
theorem wW.of (h : PW X e tt) (q : tt σ H QB) : wW X e σ H QB := ⟨fun wh pins s I => h.run wh pins s σ H QB I q⟩
theorem wA.pa : PA X es (wA X es) := ⟨fun pos pins s σ H Q I h => h.run pos pins s I⟩
theorem wA.of (h : PA X es ta) (q : ta σ H QA) : wA X es σ H QA := ⟨fun pos pins s I => h.run pos pins s σ H QA I q⟩
theorem wK.pk : PK X kws (wK X kws) := ⟨fun pos pins s σ H Q I h => h.run pos pins s I⟩
theorem wK.of (h : PK X kws ta) (q : ta σ H QA) : wK X kws σ H QA := ⟨fun pos pins s I => h.run pos pins s σ H QA I q⟩
theorem wS.ps : PS X st (wS X st) := ⟨fun pins s σ H D I h => h.run pins s I⟩
theorem wS.of (h : PS X st ts) (q : ts D σ H) : wS X st D σ H := ⟨fun pins s I => h.run pins s σ H D I q⟩
theorem wB.pss : PSs X sts (wB X sts) := ⟨fun pins s σ H D I h => h.run pins s I⟩
theorem wB.of (h : PSs X sts ts) (q : ts D σ H) : wB X sts D σ H := ⟨fun pins s I => h.run pins s σ H D I q⟩
theorem wG.pg : PG X e (wG X e) := ⟨fun pins s σ H v u Q I r h => h.run pins s u I r⟩
theorem wG.of {g : TG} {v : V} {QS : L2.St → Hp → Prop} (h : PG X e g) (q : g v σ H QS) : wG X e v σ H QS := ⟨fun pins s u I r => h.run pins s σ H v u QS I r q⟩
theorem wGs.pgs : PGs X es (wGs X es) := ⟨fun pins s σ H v u Q I r h => h.run pins s u I r⟩
theorem wGs.of {g : TGs} {vs : List V} {QS : L2.St → Hp → Prop} (h : PGs X es g) (q : g vs σ H QS) : wGs X es vs σ H QS := ⟨fun pins s u I r => h.run pins s σ H vs u QS I r q⟩
theorem wO.op {f : Value → Value → Sem Value} : OpR X f (wO X f) := fun pins s σ H x y v u Q I rx ry q => q.run pins s σ v u I rx ry
theorem wO.of {f : Value → Value → Sem Value} {x y : V} (h : OpR X f r) (q : r x y H Q) : wO X f x y H Q := ⟨fun pins s σ v u I rx ry => h pins s σ H x y v u Q I rx ry q⟩
theorem wU.un {f : Value → Sem Value} : UnR X f (wU X f) := fun pins s σ H x v Q I rx q => q.run pins s σ v I rx
theorem wU.of {f : Value → Sem Value} {x : V} {ru : V → Hp → VK → Prop} (h : UnR X f ru) (q : ru x H Q) : wU X f x H Q := ⟨fun pins s σ v I rx => h pins s σ H x v Q I rx q⟩
theorem wC.call {f : Value} : CallR X f (wC X f) := fun pins s σ H xs us Q I r q => q.run pins s σ us I r
theorem wC.of {f : Value} {vs : List V} {rc : List V → Hp → VK → Prop} (h : CallR X f rc) (q : rc vs H Q) : wC X f vs H Q := ⟨fun pins s σ us I r => h pins s σ H vs us Q I r q⟩
def IsB (z : V) (R : Bool → Prop) : Prop := ∃ k, z = .bl k ∧ R k
theorem isB {k : Bool} {R : Bool → Prop} (q : R k) : IsB (.bl k) R := ⟨k, rfl, q⟩
/-! ### names -/
/-- the name x stands with the value v -/
inductive Lk : List Str → L2.St → Str → V → Prop where
  | here {N σ x v} : Lk (x :: N) (some v :: σ) x v
  | there {N σ x v y w} : Lk N σ x v → Lk (y :: N) (w :: σ) x v
inductive Pt : List Str → L2.St → Str → V → L2.St → Prop where
  | here {N σ x v w} : Pt (x :: N) (w :: σ) x v (some v :: σ)
  | there {N σ σ' x v y w} : Pt N σ x v σ' → Pt (y :: N) (w :: σ) x v (w :: σ')
def Put (N : List Str) (σ : L2.St) (x : Str) (v : V) (R : L2.St → Prop) : Prop := ∃ σ', Pt N σ x v σ' ∧ R σ'
theorem put_i {N : List Str} {σ σ1 : L2.St} {x : Str} {v : V} {R : L2.St → Prop} (pt : Pt N σ x v σ1) (q : R σ1) : Put N σ x v R := ⟨_, pt, q⟩
theorem Lk.ix : ∀ {N σ x v}, Lk N σ x v → ∃ i : Nat, N[i]? = some x ∧ σ[i]? = some (some v)
  | _, _, _, _, .here => ⟨0, rfl, rfl⟩
  | _, _, _, _, .there h => let ⟨i, a, b⟩ := h.ix; ⟨i + 1, a, b⟩
theorem Pt.ix : ∀ {N σ x v σ'}, Pt N σ x v σ' → ∃ i : Nat, N[i]? = some x ∧ σ' = σ.set i (some v)
  | _, _, _, _, _, .here => ⟨0, rfl, rfl⟩
  | _, _, _, _, _, .there h => let ⟨i, a, b⟩ := h.ix; ⟨i + 1, a, by rw [b]; rfl⟩
/-- what of the names must be: V the names that are seen, S those that are stored, G the globals and built-ins -/
def namesOk (V S G : List Str) (sc : Scope) : Bool :=
  (V.all fun x => ((sc.names.lookup x == some .local) || (sc.names.lookup x == some .cell) || (sc.names.lookup x == some .free)) && !(x == ("__debug__" : Str)) && !(x == ("__classdict__" : Str))) &&
  (S.all fun x => (sc.names.lookup x == some .local) || (sc.names.lookup x == some .cell)) &&
  (G.all fun x => (sc.names.lookup x == some .globalImplicit) && !(x == ("__debug__" : Str)) && !(x == ("__name__" : Str)))
structure CxI (P : Program) (w : World) (K : PySem.W.Frag) (mg : Str → Option Value) (base : Heap) (k : Nat) (N Vz Sz G : List Str) (sc : Scope) (X : Cx) : Prop where
  eP : X.prog = P
  ew : X.w = w
  eK : X.K = K
  em : X.mg = mg
  eb : X.base = base
  eN : X.N = N
  es : X.env.scope = sc
  room : Room k X.A
  calm : X.calm = true
  fn : (∀ x, X.fn x = true) ∨ ∀ x ∈ Sz, sc.names.lookup x = some .local
  po : PassesOwn (model X.prog X.w) X.A X.env X.xe
  nd : N.Nodup
  ok : namesOk Vz Sz G sc = true
  fk : sc.kind = .function
section
variable {P : Program} {w : World} {K : PySem.W.Frag} {mg : Str → Option Value} {base : Heap} {k : Nat} {N Vz Sz G : List Str} {sc : Scope} {x : Str} {v : V} {p : Pos}
theorem CxI.vis (C : CxI P w K mg base k N Vz Sz G sc X) (h : x ∈ Vz) : Vis X.env.scope x ∧ (x == ("__debug__" : Str)) = false ∧ (x == ("__classdict__" : Str)) = false := by
  have q := C.ok
  unfold namesOk at q
  rw [Bool.and_eq_true, Bool.and_eq_true] at q
  have q1 := List.all_eq_true.mp q.1.1 x h
  rw [Bool.and_eq_true, Bool.and_eq_true, Bool.or_eq_true, Bool.or_eq_true] at q1
  obtain ⟨⟨a, b⟩, c⟩ := q1
  rw [C.es]
  refine ⟨?_, by simpa using b, by simpa using c⟩
  rcases a with (a | a) | a
  · exact .inl (eq_of_beq a)
  · exact .inr (.inl (eq_of_beq a))
  · exact .inr (.inr (eq_of_beq a))
theorem CxI.loc (C : CxI P w K mg base k N Vz Sz G sc X) (h : x ∈ Sz) : Loc X.env.scope x ∧ (X.fn x = true ∨ X.env.scope.names.lookup x = some .local) := by
  have q := C.ok
  unfold namesOk at q
  rw [Bool.and_eq_true, Bool.and_eq_true] at q
  have q1 := List.all_eq_true.mp q.1.2 x h
  rw [Bool.or_eq_true] at q1
  rw [C.es]
  refine ⟨?_, ?_⟩
  · rcases q1 with a | a
    · exact .inl (eq_of_beq a)
    · exact .inr (eq_of_beq a)
  · rcases C.fn with f | f
    · exact .inl (f x)
    · exact .inr (f x h)
theorem CxI.glo (C : CxI P w K mg base k N Vz Sz G sc X) (h : x ∈ G) : Gl X x ∧ (x == ("__debug__" : Str)) = false ∧ x ≠ "__name__" := by
  have q := C.ok
  unfold namesOk at q
  rw [Bool.and_eq_true, Bool.and_eq_true] at q
  have q1 := List.all_eq_true.mp q.2 x h
  rw [Bool.and_eq_true, Bool.and_eq_true] at q1
  obtain ⟨⟨a, b⟩, c⟩ := q1
  refine ⟨?_, by simpa using b, by simpa using c⟩
  show X.env.scope.names.lookup x = _
  rw [C.es]
  exact eq_of_beq a
theorem wE_name (C : CxI P w K mg base k N Vz Sz G sc X) (hx : x ∈ Vz) (h : Lk N σ x v) (q : Q v H) : wE X (.Name x p) σ H Q := by
  obtain ⟨i, h1, h2⟩ := h.ix
  obtain ⟨l, d1, d2⟩ := C.vis hx
  exact wE.of (pe_var (i := i) (by rw [C.eN]; exact h1) l d1 d2) ⟨v, h2, q⟩
theorem wE_glob {u : Value} (C : CxI P w K mg base k N Vz Sz G sc X) (h : x ∈ G) (hm : mg x = some u) (r : RelV v u) (q : Q v H) : wE X (.Name x p) σ H Q := by
  obtain ⟨l, d1, d2⟩ := C.glo h
  exact wE.of (pe_glob l (by rw [C.em]; exact hm) r d1) q
/-! ### constants and displays -/
theorem wE_int {i j} (q : Q (.int i) H) : wE X (.Constant (.int i) j p) σ H Q := wE.of pe_int q
theorem wE_bl {i j} (q : Q (.bl i) H) : wE X (.Constant (.bool i) j p) σ H Q := wE.of pe_bl q
theorem wE_non {j} (q : Q .non H) : wE X (.Constant .none j p) σ H Q := wE.of pe_non q
theorem wE_str {z j} (q : Q (.str z) H) : wE X (.Constant (.str z) j p) σ H Q := wE.of pe_str q
theorem wA_nil (q : QA [] H) : wA X [] σ H QA := wA.of pa_nil q
theorem wA_cons (hs : starEach (e :: es) X.env = (false, eval e X.env) :: starEach es X.env) (q : wE X e σ H fun x H1 => wA X es σ H1 fun xs H2 => QA (x :: xs) H2) : wA X (e :: es) σ H QA := wA.of (pa_cons wE.pe wA.pa hs) q
theorem wK_nil (q : QA [] H) : wK X [] σ H QA := wK.of pk_nil q
theorem wK_cons {nm kp} (q : wE X e σ H fun x H1 => wK X kws σ H1 fun xs H2 => QA (x :: xs) H2) : wK X (⟨nm, e, kp⟩ :: kws) σ H QA := wK.of (pk_cons wE.pe wK.pk) q
/-! ### heaps -/
/-- all that is known stays -/
def Ex (H H' : Hp) : Prop := ∀ a o, H a = some o → H' a = some o
theorem Ex.refl (H : Hp) : Ex H H := fun _ _ h => h
theorem Ex.trans {H H1 H2 : Hp} (a : Ex H H1) (b : Ex H1 H2) : Ex H H2 := fun c o h => b c o (a c o h)
/-- but for the object at b -/
def Exb (b0 : Addr) (H H' : Hp) : Prop := ∀ a o, a ≠ b0 → H a = some o → H' a = some o
theorem Ex.upd {H : Hp} {p : Addr} {o : HO} (h : H p = none) : Ex H (upd H p o) := fun a u e => by rw [upd_ne (ne_of_none e h)]; exact e
theorem Exb.upd {H : Hp} {p : Addr} {o : HO} : Exb p H (upd H p o) := fun a u n e => by rw [upd_ne n]; exact e
theorem Ex.toB {H H' : Hp} {b0 : Addr} (h : Ex H H') : Exb b0 H H' := fun a o _ q => h a o q
theorem Exb.trans {b0 : Addr} {H H1 H2 : Hp} (x : Exb b0 H H1) (y : Exb b0 H1 H2) : Exb b0 H H2 := fun c o n h => y c o n (x c o n h)
theorem wE_tup {x1} (q : wA X es σ H fun xs H1 => xs.length ≤ sizeLine ∧ ∀ p H2, H1 p = none → Ex H1 H2 → H2 p = some (.tup xs) → Q (.ref p) H2) : wE X (.Tuple es x1 pos) σ H Q :=
  wE.of (pe_tup wA.pa) (⟨fun pos pins s I => wpAny_mono (q.run pos pins s I) (fun us s' ⟨xs, H1, I1, r, z, q1⟩ => ⟨xs, H1, I1, r, z, fun p hp => q1 p _ hp (Ex.upd hp) upd_same⟩) fun _ _ z => z⟩)
theorem wE_lst (q : wA X es σ H fun xs H1 => xs.length ≤ sizeLine ∧ ∀ p H2, H1 p = none → Ex H1 H2 → H2 p = some (.lst xs) → Q (.ref p) H2) : wE X (.List es pos) σ H Q :=
  wE.of (pe_lst wA.pa) (⟨fun pos pins s I => wpAny_mono (q.run pos pins s I) (fun us s' ⟨xs, H1, I1, r, z, q1⟩ => ⟨xs, H1, I1, r, z, fun p hp => q1 p _ hp (Ex.upd hp) upd_same⟩) fun _ _ z => z⟩)
/-! ### operators -/
theorem wE_bin {op} (q : wE X a σ H fun x H1 => wE X b σ H1 fun y H2 => wO X (binaryOp op) x y H2 Q) : wE X (.BinOp a op b pos) σ H Q := wE.of (pe_op wO.op wE.pe wE.pe) q
theorem wE_un {op} (q : wE X a σ H fun x H1 => wU X (unaryOp op) x H1 Q) : wE X (.UnaryOp op a pos) σ H Q := wE.of (pe_un wU.un wE.pe) q
theorem wE_cmp {op} (hm : behindInMarks op b = false) (q : wE X a σ H fun x H1 => wE X b σ H1 fun y H2 => wO X (compareOp op) x y H2 Q) : wE X (.Compare a [op] [b] pos) σ H Q := wE.of (pe_cmpR wO.op wE.pe wE.pe hm) q
theorem wE_chain {op op'} (hm : lastMarks [op, op'] [b, c] = false) (q : wE X a σ H fun x H1 => wE X b σ H1 fun y H2 => wO X (compareOp op) x y H2 fun z H3 => IsB z fun k =>
    (if k = true then wE X c σ H3 fun w H4 => wO X (compareOp op') y w H4 Q else Q (.bl false) H3)) : wE X (.Compare a [op, op'] [b, c] pos) σ H Q := wE.of (pe_chain wO.op wO.op wE.pe wE.pe wE.pe hm) q
theorem wE_ifexp (q : wT X c σ H fun k H1 => if k = true then wE X a σ H1 Q else wE X b σ H1 Q) : wE X (.IfExp c a b pos) σ H Q := wE.of (pe_ifExp wT.pt wE.pe wE.pe) q
theorem wE_and {rest : List Expr} (q : wE X a σ H fun x H1 => IsB x fun c => if c = true then wE X (.BoolOp .And (b :: rest) pos) σ H1 Q else Q (.bl false) H1) : wE X (.BoolOp .And (a :: b :: rest) pos) σ H Q := wE.of (pe_and wE.pe wE.pe) q
theorem wE_or {rest : List Expr} (q : wE X a σ H fun x H1 => IsB x fun c => if c = true then Q (.bl true) H1 else wE X (.BoolOp .Or (b :: rest) pos) σ H1 Q) : wE X (.BoolOp .Or (a :: b :: rest) pos) σ H Q := wE.of (pe_or wE.pe wE.pe) q
theorem wE_one {op} (q : wE X a σ H Q) : wE X (.BoolOp op [a] pos) σ H Q := wE.of (pe_one wE.pe) q
theorem wE_not (q : wE X a σ H fun x H1 => IsB x fun c => Q (.bl (!c)) H1) : wE X (.UnaryOp .Not a pos) σ H Q := wE.of (pe_not wE.pe) q
theorem wE_ix (hs : PlainIx b) (q : wE X a σ H fun x H1 => wE X b σ H1 fun y H2 => wIx X a b x y H2 Q) : wE X (.Subscript a b pos) σ H Q :=
  wE.of (t := tOp (wIx X a b) (wE X a) (wE X b)) ⟨fun pins s σ H Q I h => Subscript_ (binT wE.pe wE.pe I h fun v u s2 x y H2 I2 rx ry q => q.run pins s2 σ v u I2 rx ry)⟩ q
theorem wIx_of {value slice : Expr} {x y : V} (hr : IxR X r) (hs : PlainIx slice) (q : r x y H Q) : wIx X value slice x y H Q := ⟨fun pins s σ v u I rx ry => hr value slice pins s σ H x y v u Q I rx ry q (hs _ _)⟩
/-! tests -/
theorem wT_cmp {op} (hm : behindInMarks op b = false) (q : wE X a σ H fun x H1 => wE X b σ H1 fun y H2 => wO X (compareOp op) x y H2 fun z H3 => IsB z fun k => QB k H3) : wT X (.Compare a [op] [b] pos) σ H QB := wT.of (pt_cmpR wO.op wE.pe wE.pe hm) q
theorem wT_chain {op op'} (hm : lastMarks [op, op'] [b, c] = false) (q : wE X a σ H fun x H1 => wE X b σ H1 fun y H2 => wO X (compareOp op) x y H2 fun z H3 => IsB z fun k =>
    (if k = true then wE X c σ H3 fun w H4 => wO X (compareOp op') y w H4 fun z H5 => IsB z fun k => QB k H5 else IsB (V.bl false) fun k => QB k H3)) : wT X (.Compare a [op, op'] [b, c] pos) σ H QB := wT.of (pt_chain wO.op wO.op wE.pe wE.pe wE.pe hm) q
theorem wT_val (he : ∀ whole, isTrue e X.env whole = (do let v ← whole; standAt e.pos; holding [v] (truthy v))) (q : wE X e σ H fun x H1 => IsB x fun k => QB k H1) : wT X e σ H QB := wT.of (pt_val wE.pe he) q
theorem wT_truth (he : ∀ whole, isTrue e X.env whole = (do let v ← whole; standAt e.pos; holding [v] (truthy v))) (q : wE X e σ H fun x H1 => ∃ k, TruV X.K x H1 k ∧ QB k H1) : wT X e σ H QB := wT.of (pt_truth wE.pe he) q
theorem wT_not (q : wT X a σ H fun k H1 => QB (!k) H1) : wT X (.UnaryOp .Not a pos) σ H QB := wT.of (pt_not wT.pt) q
theorem wT_and (q : wW X (.BoolOp .And es pos) σ H QB) : wT X (.BoolOp .And es pos) σ H QB := wT.of wW.pw.pt q
theorem wT_or (q : wW X (.BoolOp .Or es pos) σ H QB) : wT X (.BoolOp .Or es pos) σ H QB := wT.of wW.pw.pt q
theorem wW_and {rest : List Expr} (q : wT X a σ H fun c H1 => if c = true then wW X (.BoolOp .And (b :: rest) pos) σ H1 QB else QB false H1) : wW X (.BoolOp .And (a :: b :: rest) pos) σ H QB := wW.of (pw_and wT.pt wW.pw) q
theorem wW_or {rest : List Expr} (q : wT X a σ H fun c H1 => if c = true then QB true H1 else wW X (.BoolOp .Or (b :: rest) pos) σ H1 QB) : wW X (.BoolOp .Or (a :: b :: rest) pos) σ H QB := wW.of (pw_or wT.pt wW.pw) q
theorem wW_and1 (q : wT X a σ H QB) : wW X (.BoolOp .And [a] pos) σ H QB := wW.of (pw_and1 wT.pt) q
theorem wW_or1 (q : wT X a σ H QB) : wW X (.BoolOp .Or [a] pos) σ H QB := wW.of (pw_or1 wT.pt) q
/-! ### statements -/
theorem wB_nil (q : D.nx σ H) : wB X [] D σ H := wB.of pss_nil q
theorem wB_cons (q : wS X st { D with nx := fun σ' H' => wB X rest D σ' H' } σ H) : wB X (st :: rest) D σ H := wB.of (pss_cons wS.ps wB.pss) q
theorem wS_pass (q : D.nx σ H) : wS X (.Pass pos) D σ H := wS.of ps_pass q
theorem wS_ret (q : wE X e σ H D.rt) : wS X (.Return (some e) pos) D σ H := wS.of (ps_ret wE.pe) q
theorem wS_retN (q : D.rt .non H) : wS X (.Return none pos) D σ H := wS.of ps_retN q
theorem wS_if {s1 s2 : List Stmt} (q : wT X c σ H fun k H1 => if k = true then wB X s1 D σ H1 else wB X s2 D σ H1) : wS X (.If c s1 s2 pos) D σ H := wS.of (ps_if wT.pt wB.pss wB.pss) q
theorem wS_expr (hs : swapsWith e none pos.line X.env = pure false) (q : wE X e σ H fun _ H1 => D.nx σ H1) : wS X (.Expr e pos) D σ H := wS.of (ps_expr wE.pe hs) q
theorem wS_set {pos' : Pos} (C : CxI P w K mg base k N Vz Sz G sc X) (hx : x ∈ Sz) (hs : swapsWith e (some (.Name x pos')) pos.line X.env = pure false) (q : wE X e σ H fun v H1 => Put N σ x v fun σ' => D.nx σ' H1) : wS X (.Assign [.Name x pos'] e pos) D σ H := by
  refine ⟨fun pins s I => ?_⟩
  refine wpAny_Assign_Name (thn (q.run pins s I) fun v s1 ⟨y, H1, I1, r1, σ', hp, q1⟩ => ?_) hs
  obtain ⟨i, h1, rfl⟩ := hp.ix
  obtain ⟨l, hf⟩ := C.loc hx
  exact store_ok I1 (by rw [C.eN]; exact C.nd) (i := i) (by rw [C.eN]; exact h1) l r1 (fun s2 I2 => ⟨_, H1, I2, q1⟩) hf
theorem wS_asg {tg : Expr} (hs : swapsWithSole [tg] e pos.line X.env = pure false) (hw : swappedStores [tg] e X.env = pure none) (h1 : (assignEach [tg] X.env).map (·.2) = [assign tg X.env])
    (q : wE X e σ H fun v H1 => wG X tg v σ H1 D.nx) : wS X (.Assign [tg] e pos) D σ H := wS.of (ps_asg wE.pe wG.pg hs hw h1) q
theorem wG_name {QS : L2.St → Hp → Prop} (C : CxI P w K mg base k N Vz Sz G sc X) (hx : x ∈ Sz) (q : Put N σ x v fun σ' => QS σ' H) : wG X (.Name x pos) v σ H QS := by
  obtain ⟨σ', hp, q⟩ := q
  obtain ⟨i, h1, rfl⟩ := hp.ix
  obtain ⟨l, hf⟩ := C.loc hx
  exact wG.of (pg_name (i := i) (by rw [C.eN]; exact C.nd) (by rw [C.eN]; exact h1) l hf) q
theorem wGs_nil {QS : L2.St → Hp → Prop} (q : QS σ H) : wGs X [] [] σ H QS := wGs.of pgs_nil ⟨rfl, q⟩
theorem wGs_cons {QS : L2.St → Hp → Prop} {vs : List V} (hs : (assignEach (e :: es) X.env).map (·.2) = assign e X.env :: (assignEach es X.env).map (·.2)) (q : wG X e v σ H fun σ' H' => wGs X es vs σ' H' QS) : wGs X (e :: es) (v :: vs) σ H QS :=
  wGs.of (pgs_cons wG.pg wGs.pgs hs) ⟨v, vs, rfl, q⟩
theorem wG_tup {QS : L2.St → Hp → Prop} {x1} {ad : Addr} {xs : List V} (C : CxI P w K mg base k N Vz Sz G sc X) (hq : SqT K H ad xs) (hn : (assignEach es X.env).length = xs.length) (hst : (assignEach es X.env).findIdx? (·.1) = none)
    (q : wGs X es xs σ H QS) : wG X (.Tuple es x1 pos) (.ref ad) σ H QS :=
  wG.of (pg_tup C.calm wGs.pgs rfl hst) ⟨ad, xs, rfl, by rw [C.eK]; exact hq, hn.symm, q⟩
theorem wG_sub {QS : L2.St → Hp → Prop} {o i : Expr} {tS : TSet} (hS : PSet X tS) (ha : ∀ v, assign (.Subscript o i pos) X.env v = (do
      let ov ← holding [v] (eval o X.env)
      let iv ← holding [v, ov] (eval i X.env)
      standAt pos
      holding [v, ov, iv] (setItem ov iv v)
      release [v, ov, iv] [])) (q : wE X o σ H fun ov H1 => wE X i σ H1 fun iv H2 => tS ov iv v H2 fun H3 => QS σ H3) : wG X (.Subscript o i pos) v σ H QS := wG.of (pg_sub wE.pe wE.pe hS ha) q
end
end
end Rp
namespace Rp
open PySem PySem.Spec PyProof.Rows L2
section
variable {P : Program} {w : World} {K : PySem.W.Frag} {mg : Str → Option Value} {base : Heap} {k j : Nat} {N Vz Sz G ps : List Str} {sc : Scope} {x : Str} {v : V} {p : Pos} {X : Cx} {f : Addr} {fd : FuncData} {sp : Sp} {st : Stmt} {qual : Str}
/-- a def of the text, with whatever defaults -/
structure Fn (K : PySem.W.Frag) (x qual : Str) (st : Stmt) (f : Addr) (fd : FuncData) : Prop where
  ex : ∃ (dvs : List V) (kws : List (Str × V)), FunD K x qual (defArgs st) (defBody st) (defScope st) dvs kws f fd
/-- a def by its body -/
theorem fn_w (F : Fn K x qual st f fd) (S : FnScope N ps (defScope st)) (ok : namesOk Vz Vz G (defScope st) = true) (len : ∀ vs H Q E, sp vs H Q E → vs.length = ps.length)
    (body : ∀ (X : Cx) (vs : List V) (H : Hp) (Q : VK) (E : XK), CxI P w K mg base k N Vz Vz G (defScope st) X → sp vs H Q E → wB X (defBody st) { nx := fun _ H' => Q .non H', rt := Q } (start N vs) H) : FnOk P w K mg base CX0 (k + 1) f fd ps sp := by
  obtain ⟨dvs, kws, F⟩ := F.ex
  refine FunD.ok F S len fun cdv A outer s H vs Q E hr h => ?_
  exact ⟨_, PSs.nox wB.pss, body _ vs H Q E ⟨rfl, rfl, rfl, rfl, rfl, rfl, rfl, hr, rfl, .inl fun _ => rfl, PassesOwn.never, S.nd, ok, S.kind⟩ h⟩
/-- a def of the text as its callers see it -/
structure Df (P : Program) (w : World) (K : PySem.W.Frag) (mg : Str → Option Value) (base : Heap) (k : Nat) (x : Str) (ps : List Str) (dvs : List V) (sp : Sp) : Prop where
  ex : ∃ f fd ds, FnOk P w K mg base CX0 k f fd ps sp ∧ mg x = some (.ref f) ∧ PySem.W.keepIn K (.ref f) = true ∧ Binds K fd ps ds ∧ Vals dvs ds
variable {e a b : Expr} {es : List Expr} {σ : L2.St} {H : Hp} {Q : VK} {pos : Pos} {dvs : List V}
theorem wE_call (C : CxI P w K mg base k N Vz Sz G sc X) (D : Df P w K mg base j x ps dvs sp) (hx : x ∈ G) (hj : j ≤ k) (he : starEach (e :: es) X.env = (false, eval e X.env) :: starEach es X.env) (hpl : (backTo pos (starEach es X.env)).any (·.1) = false)
    (q : wA X (e :: es) σ H fun vs H1 => sp (vs ++ dvs) H1 Q E0) : wE X (.Call (.Name x p) (e :: es) [] pos) σ H Q := by
  obtain ⟨f, fd, ds, Fk, hm, kp, hb, hd⟩ := D.ex
  obtain ⟨l, d1, _⟩ := C.glo hx
  obtain ⟨rfl, rfl, rfl, rfl, rfl, _, _, hr, _, _, _, _, _⟩ := C
  exact wE.of (pe_call Fk (hr.mono hj) l hm kp hb hd pass0 wA.pa d1 he hpl) q
theorem wE_callB {id : String} (C : CxI P w K mg base k N Vz Sz G sc X) (hm : mg x = none) (hx : x ∈ G) (hv : bootBuiltins x = some (.builtin id)) (he : starEach (e :: es) X.env = (false, eval e X.env) :: starEach es X.env) (hpl : (backTo pos (starEach es X.env)).any (·.1) = false)
    (q : wA X (e :: es) σ H fun vs H1 => wC X (.builtin id) vs H1 Q) : wE X (.Call (.Name x p) (e :: es) [] pos) σ H Q := by
  obtain ⟨l, d1, d2⟩ := C.glo hx
  exact wE.of (pe_callB wC.call l (by rw [C.em]; exact hm) hv wA.pa d2 d1 he hpl) q
theorem wE_callT {id : String} (C : CxI P w K mg base k N Vz Sz G sc X) (hm : mg x = none) (hx : x ∈ G) (hv : bootBuiltins x = some (.type id)) (he : starEach (e :: es) X.env = (false, eval e X.env) :: starEach es X.env) (hpl : (backTo pos (starEach es X.env)).any (·.1) = false)
    (q : wA X (e :: es) σ H fun vs H1 => wC X (.type id) vs H1 Q) : wE X (.Call (.Name x p) (e :: es) [] pos) σ H Q := by
  obtain ⟨l, d1, d2⟩ := C.glo hx
  exact wE.of (pe_callTy wC.call l (by rw [C.em]; exact hm) hv wA.pa d2 d1 he hpl) q
/-! ### for over a range from 0, a list, a tuple -/
theorem wS_range1 {tg : Expr} {sts : List Stmt} {p1 p2 : Pos} {D : Ends} (C : CxI P w K mg base k N Vz Sz G sc X) (hm : mg "range" = none) (hx : ("range" : Str) ∈ G) (hs : starEach [e] X.env = [(false, eval e X.env)])
    (q : wE X e σ H fun v H1 => ∃ n : Nat, v = .int n ∧ n < 1000000 ∧ ∃ Pv : Nat → L2.St → Hp → Prop, Pv 0 σ H1 ∧ (∀ i σ H, i < n → Pv i σ H → wG X tg (.int i) σ H fun σ2 H2 => wB X sts { D with nx := Pv (i + 1), ct := Pv (i + 1), bk := D.nx } σ2 H2) ∧ ∀ σ H, Pv n σ H → D.nx σ H) :
    wS X (.For tg (.Call (.Name "range" p1) [e] [] p2) sts [] pos) D σ H := by
  obtain ⟨l, _, _⟩ := C.glo hx
  refine wS.of (ps_for C.po C.calm (pi_range1 l (by rw [C.em]; exact hm) (pa_cons wE.pe pa_nil hs) hs) wG.pg wB.pss (fun _ => rfl)) ?_
  refine ⟨fun pins s I => ?_⟩
  refine thn (q.run pins s I) ?_
  rintro u s' ⟨v, H1, I1, r, n, rfl, hn, Pv, h0, hs, hd⟩
  refine ⟨_, H1, I1, r, n, rfl, by omega, by omega, ?_⟩
  rw [show ((n : Int).toNat) = n from Int.toNat_natCast n]
  exact for_range (lo := 0) (n := n) Pv h0 (fun i σ H hi hp => by rw [Int.zero_add]; exact hs i σ H hi hp) hd
theorem wS_list {tg it : Expr} {sts : List Stmt} {D : Ends} (C : CxI P w K mg base k N Vz Sz G sc X) (hf : ∀ x, foldedSetIterable it X.env x = pure x) (q : wE X it σ H fun v H1 => ∃ ad xs, v = .ref ad ∧ SqL K H1 ad xs ∧ ∃ Pv : Nat → L2.St → Hp → Prop, Pv 0 σ H1 ∧
      (∀ i σ H, i ≤ xs.length → Pv i σ H → SqL K H ad xs) ∧ (∀ i y σ H, xs[i]? = some y → Pv i σ H → wG X tg y σ H fun σ2 H2 => wB X sts { D with nx := Pv (i + 1), ct := Pv (i + 1), bk := D.nx } σ2 H2) ∧ ∀ σ H, Pv xs.length σ H → D.nx σ H)
    (hi : PI X tg it (iList X.K (wE X it)) := by exact pi_list wE.pe) : wS X (.For tg it sts [] pos) D σ H := by
  refine wS.of (ps_for C.po C.calm hi wG.pg wB.pss hf) ?_
  refine ⟨fun pins s I => ?_⟩
  refine thn (q.run pins s I) ?_
  rintro u s' ⟨v, H1, I1, r, ad, xs, rfl, hS, Pv, h0, hl, hs, hd⟩
  exact ⟨_, H1, I1, r, ad, rfl, ⟨xs, by rw [C.eK]; exact hS⟩, for_list (xs := xs) Pv h0 (fun i σ H hi hp => by rw [C.eK]; exact hl i σ H hi hp) hs hd⟩
theorem wS_tup {tg it : Expr} {sts : List Stmt} {D : Ends} (C : CxI P w K mg base k N Vz Sz G sc X) (hf : ∀ x, foldedSetIterable it X.env x = pure x) (q : wE X it σ H fun v H1 => ∃ ad xs, v = .ref ad ∧ SqT K H1 ad xs ∧ ∃ Pv : Nat → L2.St → Hp → Prop, Pv 0 σ H1 ∧
      (∀ i σ H, i ≤ xs.length → Pv i σ H → SqT K H ad xs) ∧ (∀ i y σ H, xs[i]? = some y → Pv i σ H → wG X tg y σ H fun σ2 H2 => wB X sts { D with nx := Pv (i + 1), ct := Pv (i + 1), bk := D.nx } σ2 H2) ∧ ∀ σ H, Pv xs.length σ H → D.nx σ H)
    : wS X (.For tg it sts [] pos) D σ H := by
  refine wS.of (ps_for C.po C.calm (pi_tup wE.pe) wG.pg wB.pss hf) ?_
  refine ⟨fun pins s I => ?_⟩
  refine thn (q.run pins s I) ?_
  rintro u s' ⟨v, H1, I1, r, ad, xs, rfl, hS, Pv, h0, hl, hs, hd⟩
  exact ⟨_, H1, I1, r, ad, rfl, ⟨xs, by rw [C.eK]; exact hS⟩, for_tup (xs := xs) Pv h0 (fun i σ H hi hp => by rw [C.eK]; exact hl i σ H hi hp) hs hd⟩
/-! ### operations by values -/
variable {m n : Int}
theorem o_add (q : Q (.int (m + n)) H) : wO X (binaryOp .Add) (.int m) (.int n) H Q := wO.of op_add ⟨m, n, rfl, rfl, q⟩
theorem o_sub (q : Q (.int (m - n)) H) : wO X (binaryOp .Sub) (.int m) (.int n) H Q := wO.of op_sub ⟨m, n, rfl, rfl, q⟩
theorem o_mulL (h1 : -(2 ^ 64) < m) (h2 : m < 2 ^ 64) (q : Q (.int (m * n)) H) : wO X (binaryOp .Mult) (.int m) (.int n) H Q := wO.of op_mul ⟨m, n, rfl, rfl, .inl ⟨h1, h2⟩, q⟩
theorem o_mulR (h1 : -(2 ^ 64) < n) (h2 : n < 2 ^ 64) (q : Q (.int (m * n)) H) : wO X (binaryOp .Mult) (.int m) (.int n) H Q := wO.of op_mul ⟨m, n, rfl, rfl, .inr ⟨h1, h2⟩, q⟩
theorem o_div (h1 : 0 < n) (h2 : n < 1073741824) (q : Q (.int (m / n)) H) : wO X (binaryOp .FloorDiv) (.int m) (.int n) H Q := wO.of op_fdiv ⟨m, n, rfl, rfl, ⟨h1, h2⟩, q⟩
theorem o_mod (h1 : 0 < n) (q : Q (.int (m % n)) H) : wO X (binaryOp .Mod) (.int m) (.int n) H Q := wO.of op_mod ⟨m, n, rfl, rfl, h1, q⟩
theorem o_pow (h0 : 0 ≤ n) (h1 : n ≤ 1000000) (h2 : m.natAbs < 2 ^ 64) (q : Q (.int (m ^ n.toNat)) H) : wO X (binaryOp .Pow) (.int m) (.int n) H Q := wO.of op_pow ⟨m, n, rfl, rfl, ⟨h0, h1, h2⟩, q⟩
theorem o_lt (q : Q (.bl (decide (m < n))) H) : wO X (compareOp .Lt) (.int m) (.int n) H Q := wO.of op_lt ⟨m, n, rfl, rfl, q⟩
theorem o_le (q : Q (.bl (decide (m ≤ n))) H) : wO X (compareOp .LtE) (.int m) (.int n) H Q := wO.of op_le ⟨m, n, rfl, rfl, q⟩
theorem o_gt (q : Q (.bl (decide (n < m))) H) : wO X (compareOp .Gt) (.int m) (.int n) H Q := wO.of op_gt ⟨m, n, rfl, rfl, q⟩
theorem o_ge (q : Q (.bl (decide (n ≤ m))) H) : wO X (compareOp .GtE) (.int m) (.int n) H Q := wO.of op_ge ⟨m, n, rfl, rfl, q⟩
theorem o_eqI (q : Q (.bl (decide (m = n))) H) : wO X (compareOp .Eq) (.int m) (.int n) H Q := wO.of op_eq ⟨rfl, by rw [show decide (V.int m = V.int n) = decide (m = n) by simp]; exact q⟩
theorem o_neI (q : Q (.bl (decide (m ≠ n))) H) : wO X (compareOp .NotEq) (.int m) (.int n) H Q := wO.of op_ne ⟨rfl, by rw [show (!decide (V.int m = V.int n)) = decide (m ≠ n) by simp]; exact q⟩
theorem o_isN {y : V} (q : Q (.bl (decide (y = .non))) H) : wO X (compareOp .Is) y .non H Q := wO.of op_isN ⟨rfl, q⟩
theorem o_notN {y : V} (q : Q (.bl (!decide (y = .non))) H) : wO X (compareOp .IsNot) y .non H Q := wO.of op_notN ⟨rfl, q⟩
theorem o_neg (q : Q (.int (-m)) H) : wU X (unaryOp .USub) (.int m) H Q := wU.of un_neg ⟨m, rfl, q⟩
theorem i_list {c d : Expr} {ad : Addr} {xs : List V} (C : CxI P w K mg base k N Vz Sz G sc X) (hs : PlainIx d) (h : SqL K H ad xs) (hi : atI xs m = some v) (q : Q v H) : wIx X c d (.ref ad) (.int m) H Q :=
  wIx_of ix_list hs ⟨ad, xs, m, v, rfl, rfl, by rw [C.eK]; exact h, hi, q⟩
theorem i_tup {c d : Expr} {ad : Addr} {xs : List V} (C : CxI P w K mg base k N Vz Sz G sc X) (hs : PlainIx d) (h : SqT K H ad xs) (hi : atI xs m = some v) (q : Q v H) : wIx X c d (.ref ad) (.int m) H Q :=
  wIx_of ix_tup hs ⟨ad, xs, m, v, rfl, rfl, by rw [C.eK]; exact h, hi, q⟩
theorem atI_mem {α : Type} {xs : List α} (h0 : 0 ≤ m) (h1 : m < xs.length) : ∃ v, atI xs m = some v ∧ v ∈ xs := by
  have e : ixN xs.length m = some m.toNat := by unfold ixN; rw [if_pos h0, if_pos h1]
  have hl : m.toNat < xs.length := by omega
  refine ⟨xs[m.toNat], ?_, List.getElem_mem hl⟩
  unfold atI
  rw [e]
  exact List.getElem?_eq_getElem hl
/-! ### calls of built-ins by values -/
theorem c_abs (q : Q (.int (if m < 0 then -m else m)) H) : wC X (.builtin "abs") [.int m] H Q := wC.of call_abs ⟨m, rfl, q⟩
theorem c_max (C : CxI P w K mg base k N Vz Sz G sc X) (q : Q (.int (if n > m then n else m)) H) : wC X (.builtin "max") [.int m, .int n] H Q := wC.of (call_max2 C.calm) ⟨m, n, rfl, q⟩
theorem c_min (C : CxI P w K mg base k N Vz Sz G sc X) (q : Q (.int (if n < m then n else m)) H) : wC X (.builtin "min") [.int m, .int n] H Q := wC.of (call_min2 C.calm) ⟨m, n, rfl, q⟩
theorem c_lenL {ad : Addr} {xs : List V} (C : CxI P w K mg base k N Vz Sz G sc X) (h : SqL K H ad xs) (q : Q (.int xs.length) H) : wC X (.builtin "len") [.ref ad] H Q := wC.of call_len ⟨.ref ad, xs.length, rfl, .inl ⟨xs, by rw [C.eK]; exact h, rfl⟩, q⟩
theorem c_lenT {ad : Addr} {xs : List V} (C : CxI P w K mg base k N Vz Sz G sc X) (h : SqT K H ad xs) (q : Q (.int xs.length) H) : wC X (.builtin "len") [.ref ad] H Q := wC.of call_len ⟨.ref ad, xs.length, rfl, .inr ⟨xs, by rw [C.eK]; exact h, rfl⟩, q⟩
theorem c_divmod (h1 : 0 < n) (h2 : n < 1073741824) (q : ∀ p H2, H p = none → Ex H H2 → H2 p = some (.tup [.int (m / n), .int (m % n)]) → Q (.ref p) H2) : wC X (.builtin "divmod") [.int m, .int n] H Q :=
  wC.of call_divmod ⟨m, n, rfl, ⟨h1, h2⟩, fun p hp => q p _ hp (Ex.upd hp) upd_same⟩
/-! ### a store into a list -/
theorem Ex.get {H H' : Hp} {a : Addr} {o : HO} (e : Ex H H') (h : H a = some o) : H' a = some o := e a o h
theorem Exb.get {H H' : Hp} {a b : Addr} {o : HO} (e : Exb b H H') (n : a ≠ b) (h : H a = some o) : H' a = some o := e a o n h
def SetLq (v ov iv : V) (H2 : Hp) (R : Hp → Prop) : Prop := ∃ p xs k j, ov = .ref p ∧ iv = .int k ∧ H2 p = some (.lst xs) ∧ ixN xs.length k = some j ∧ ∀ H3, Exb p H2 H3 → H3 p = some (.lst (xs.set j v)) → R H3
theorem wG_setL {QS : L2.St → Hp → Prop} {o i : Expr} (ha : ∀ v, assign (.Subscript o i pos) X.env v = (do
      let ov ← holding [v] (eval o X.env)
      let iv ← holding [v, ov] (eval i X.env)
      standAt pos
      holding [v, ov, iv] (setItem ov iv v)
      release [v, ov, iv] [])) (q : wE X o σ H fun ov H1 => wE X i σ H1 fun iv H2 => SetLq v ov iv H2 fun H3 => QS σ H3) :
    wG X (.Subscript o i pos) v σ H QS := by
  refine wG_sub (tS := rSetL) set_list ha ?_
  refine ⟨fun pins s I => ?_⟩
  refine thn (q.run pins s I) ?_
  rintro u s1 ⟨ov, H1, I1, r1, q1⟩
  refine ⟨ov, H1, I1, r1, ?_⟩
  refine ⟨fun pins2 s2 I2 => ?_⟩
  refine thn (q1.run pins2 s2 I2) ?_
  rintro u2 s3 ⟨iv, H2, I3, r2, p, xs, k, j, h1, h2, h3, h4, h5⟩
  exact ⟨iv, H2, I3, r2, p, xs, k, j, h1, h2, h3, h4, h5 _ Exb.upd upd_same⟩
theorem setL_i {H2 : Hp} {p : Addr} {xs : List V} {k : Int} {j : Nat} {v : V} {R : Hp → Prop} (h : H2 p = some (.lst xs)) (hj : ixN xs.length k = some j) (q : ∀ H3, Exb p H2 H3 → H3 p = some (.lst (xs.set j v)) → R H3) :
    SetLq v (.ref p) (.int k) H2 R := ⟨p, xs, k, j, rfl, rfl, h, hj, q⟩
theorem call_i {vs : List V} {R : V → Hp → Prop} {sp : Sp} (q : sp vs H R E0) : sp (vs ++ []) H R E0 := by rw [List.append_nil]; exact q
theorem wS_cut {st : Stmt} {D : Ends} (J : L2.St → Hp → Prop) (h1 : wS X st { D with nx := J } σ H) (h2 : ∀ σ' H', J σ' H' → D.nx σ' H') : wS X st D σ H := by
  refine ⟨fun pins s I => ?_⟩
  refine thn (h1.run pins s I) fun f s1 q => ?_
  cases f with
  | next => obtain ⟨σ', H', I', q⟩ := q; exact ⟨σ', H', I', h2 _ _ q⟩
  | ret v => exact q
  | brk => exact q
  | cont => exact q
theorem iteD {p A B : Prop} [Decidable p] (h1 : p → A) (h2 : ¬ p → B) : if decide p = true then A else B := by
  by_cases h : p
  · rw [decide_eq_true h]; exact iteT (h1 h)
  · rw [decide_eq_false h]; exact iteF (h2 h)
theorem iteDT {p A B : Prop} [Decidable p] (h : p) (a : A) : if decide p = true then A else B := by rw [decide_eq_true h]; exact iteT a
theorem iteDF {p A B : Prop} [Decidable p] (h : ¬ p) (a : B) : if decide p = true then A else B := by rw [decide_eq_false h]; exact iteF a
theorem bb_divmod : bootBuiltins "divmod" = some (.builtin "divmod") := by decide +kernel
end
end Rp
namespace Rp
open PySem PySem.Spec PyProof.Rows L2
section
variable {P : Program} {w : World} {K : PySem.W.Frag} {mg : Str → Option Value} {base : Heap} {k j n : Nat} {N Vz Sz G ps ks : List Str} {sc : Scope} {x m : Str} {v : V} {p apos : Pos} {X : Cx} {f C : Addr} {fd : FuncData} {sp : Sp} {st : Stmt} {qual : Str}
variable {e a b o : Expr} {es : List Expr} {kws : List Keyword} {σ : L2.St} {H : Hp} {Q : VK} {pos : Pos} {dvs : List V} {E : XK}
/-! ### isinstance -/
theorem c_isi {y c : V} {t u : Value} {r : Bool} (I : CxI P w K mg base k N Vz Sz G sc X) (hc : ClsV c u) (ty : TyX K H y t) (h : PySem.W.kitOne K t u = some r) (q : Q (.bl r) H) : wC X (.builtin "isinstance") [y, c] H Q :=
  wC.of call_isi ⟨y, c, t, u, r, rfl, hc, by rw [I.eK]; exact ty, by rw [I.eK]; exact h, q⟩
theorem wE_bltn {u : Value} (I : CxI P w K mg base k N Vz Sz G sc X) (hm : mg x = none) (hx : x ∈ G) (hv : bootBuiltins x = some u) (r : RelV v u) (q : Q v H) : wE X (.Name x p) σ H Q := by
  obtain ⟨l, d1, d2⟩ := I.glo hx
  exact wE.of (pe_bltn l (by rw [I.em]; exact hm) hv r d2 d1) q
/-! ### instances -/
theorem wE_fld {y : V} {pos' : Pos} (I : CxI P w K mg base k N Vz Sz G sc X) (hb : attributeBase e x X.env (eval e X.env) = eval e X.env)
    (q : wE X e σ H fun y H1 => ∃ a C dx fs v, y = .ref a ∧ H1 a = some (.ins C dx fs) ∧ Cls K C ∧ NoAttr K C x ∧ fs.lookup x = some v ∧ Q v H1) : wE X (.Attribute e x pos) σ H Q := by
  obtain ⟨rfl, rfl, rfl, rfl, rfl, _, _, _, _, _, _, _, _⟩ := I
  exact wE.of (pe_fld wE.pe hb) q
def FldQ (K : PySem.W.Frag) (y : V) (x : Str) (H : Hp) (R : V → Prop) : Prop := ∃ a C dx fs v, y = .ref a ∧ H a = some (.ins C dx fs) ∧ Cls K C ∧ NoAttr K C x ∧ fs.lookup x = some v ∧ R v
theorem wE_fldQ (I : CxI P w K mg base k N Vz Sz G sc X) (hb : attributeBase e x X.env (eval e X.env) = eval e X.env)
    (q : wE X e σ H fun y H1 => FldQ K y x H1 fun v => Q v H1) : wE X (.Attribute e x pos) σ H Q := by
  obtain ⟨rfl, rfl, rfl, rfl, rfl, _, _, _, _, _, _, _, _⟩ := I
  exact wE.of (pe_fld wE.pe hb) q
/-- o.x = e -/
def PutQ (K : PySem.W.Frag) (v y : V) (x : Str) (H : Hp) (R : Hp → Prop) : Prop := ∃ a C dx fs, y = .ref a ∧ H a = some (.ins C dx fs) ∧ Cls K C ∧ NoAttr K C x ∧ fs.length < 1000 ∧ R (upd H a (.ins C dx (putF x v fs)))
theorem wS_fld {pos' : Pos} {D : Ends} (I : CxI P w K mg base k N Vz Sz G sc X) (hs : swapsWith e (some (.Attribute o x pos')) pos.line X.env = pure false)
    (q : wE X e σ H fun v H1 => wE X o σ H1 fun y H2 => PutQ K v y x H2 fun H3 => D.nx σ H3) : wS X (.Assign [.Attribute o x pos'] e pos) D σ H := by
  obtain ⟨rfl, rfl, rfl, rfl, rfl, _, _, _, _, _, _, _, _⟩ := I
  exact wS.of (ps_fld wE.pe wE.pe hs) q
/-! ### a class of the text -/
/-- the class x, made by an __init__ whose promise is sp (self first) -/
structure Mf (P : Program) (w : World) (K : PySem.W.Frag) (mg : Str → Option Value) (base : Heap) (k : Nat) (x : Str) (C : Addr) (n : Nat) (ks : List Str) (gV : List V → List V → List V) (sp : Sp) : Prop where
  ex : ∃ f fd ps g, Mk K C f ∧ FnOk P w K mg base CX0 k f fd ps sp ∧ mg x = some (.ref C) ∧ KBn K fd ps (n + 1) ks g gV
theorem wE_makeN {gV : List V → List V → List V} (I : CxI P w K mg base k N Vz Sz G sc X) (M : Mf P w K mg base j x C n ks gV sp) (hx : x ∈ G) (hj : j + 1 ≤ k)
    (hall : (backToKw pos (keywordEach kws X.env)).all (·.1.isSome) = true) (hks : (backToKw pos (keywordEach kws X.env)).filterMap (·.1) = ks)
    (he : starEach (e :: es) X.env = (false, eval e X.env) :: starEach es X.env) (hpl : ((backTo pos (starEach (e :: es) X.env)).any (·.1) || (backToKw pos (keywordEach kws X.env)).any (·.1.isNone)) = false)
    (q : wA X (e :: es) σ H fun vs H1 => wK X kws σ H1 fun zs H2 => vs.length = n ∧ zs.length = ks.length ∧
      ∀ y dx, H2 y = none → H2 dx = none → dx ≠ y → sp (gV (.ref y :: vs) zs) (upd (upd H2 dx (.own y)) y (.ins C dx [])) (fun v H3 => v = .non ∧ Q (.ref y) H3) E0) : wE X (.Call (.Name x p) (e :: es) kws pos) σ H Q := by
  obtain ⟨f, fd, ps, g, Mk1, Fk, hm, hb⟩ := M.ex
  obtain ⟨l, d1, _⟩ := I.glo hx
  obtain ⟨rfl, rfl, rfl, rfl, rfl, _, _, hr, _, _, _, _, _⟩ := I
  exact wE.of (pe_makeN Mk1 Fk (hr.mono hj) l hm hb pass0 wA.pa wK.pk hall hks d1 he hpl) q
/-- the same without keywords, the defaults dvs behind -/
structure Mp (P : Program) (w : World) (K : PySem.W.Frag) (mg : Str → Option Value) (base : Heap) (k : Nat) (x : Str) (C : Addr) (dvs : List V) (sp : Sp) : Prop where
  ex : ∃ f fd ps ds, Mk K C f ∧ FnOk P w K mg base CX0 k f fd ps sp ∧ mg x = some (.ref C) ∧ Binds K fd ps ds ∧ Vals dvs ds
theorem wE_make (I : CxI P w K mg base k N Vz Sz G sc X) (M : Mp P w K mg base j x C dvs sp) (hx : x ∈ G) (hj : j + 1 ≤ k)
    (he : starEach (e :: es) X.env = (false, eval e X.env) :: starEach es X.env) (hpl : (backTo pos (starEach es X.env)).any (·.1) = false)
    (q : wA X (e :: es) σ H fun vs H1 => ∀ y dx, H1 y = none → H1 dx = none → dx ≠ y → sp (.ref y :: (vs ++ dvs)) (upd (upd H1 dx (.own y)) y (.ins C dx [])) (fun v H2 => v = .non ∧ Q (.ref y) H2) E0) :
    wE X (.Call (.Name x p) (e :: es) [] pos) σ H Q := by
  obtain ⟨f, fd, ps, ds, Mk1, Fk, hm, hb, hd⟩ := M.ex
  obtain ⟨l, d1, _⟩ := I.glo hx
  obtain ⟨rfl, rfl, rfl, rfl, rfl, _, _, hr, _, _, _, _, _⟩ := I
  exact wE.of (pe_make Mk1 Fk (hr.mono hj) l hm hb hd pass0 wA.pa d1 he hpl) q
/-- o.m(k = v, ..): keywords alone -/
structure Mm (P : Program) (w : World) (K : PySem.W.Frag) (mg : Str → Option Value) (base : Heap) (k : Nat) (C : Addr) (m : Str) (ks : List Str) (gV : List V → List V → List V) (sp : Sp) : Prop where
  ex : ∃ f fd ps g, Meth K C m f ∧ FnOk P w K mg base CX0 k f fd ps sp ∧ KBn K fd ps 1 ks g gV
def MetQ (C : Addr) (m : Str) (y : V) (H : Hp) (R : Prop) : Prop := ∃ a dx fs, y = .ref a ∧ H a = some (.ins C dx fs) ∧ fs.lookup m = none ∧ R
theorem wE_methK {pl : Sem Bool} {gV : List V → List V → List V} (I : CxI P w K mg base k N Vz Sz G sc X) (c : Cls K C) (M : Mm P w K mg base j C m ks gV sp) (hj : j ≤ k)
    (hall : (backToKw pos (keywordEach kws X.env)).all (·.1.isSome) = true) (hks : (backToKw pos (keywordEach kws X.env)).filterMap (·.1) = ks) (hpl : ((backTo pos (starEach [] X.env)).any (·.1) || (backToKw pos (keywordEach kws X.env)).any (·.1.isNone)) = false)
    (ht : eval (.Call (.Attribute o m apos) [] kws pos) X.env = (do
      let ov ← eval o X.env
      standAt apos.atName
      let (f, first) ← holding [ov] (getMethod ov m pl)
      callWith pos f first (backTo pos (starEach [] X.env)) (backToKw pos (keywordEach kws X.env))))
    (q : wE X o σ H fun y H1 => MetQ C m y H1 (wK X kws σ H1 fun zs H2 => zs.length = ks.length ∧ sp (gV [y] zs) H2 Q E0)) : wE X (.Call (.Attribute o m apos) [] kws pos) σ H Q := by
  obtain ⟨f, fd, ps, g, hm, Fk, hb⟩ := M.ex
  obtain ⟨rfl, rfl, rfl, rfl, rfl, _, _, hr, _, _, _, _, _⟩ := I
  refine ⟨fun pins s I => ?_⟩
  refine PySem.W.methodCall_KW (pl := pl) (thn (q.run pins s I) fun u s1 ⟨y, H1, I1, rx, a, dx, fs, ex, ea, l, q1⟩ => ?_) ht
  subst ex
  obtain rfl : u = Value.ref a := rx
  refine getmeth_ok I1 ea c hm l ?_
  refine PySem.W.callWith_KW0 (first := [.ref a]) (h₀ := X.base) I.ok.mod.kin hm.kp hall (thn (q1.run pos pins s1 I1) fun ws s2 ⟨zs, H2, I2, rz, l2, q2⟩ => ⟨I2.kIn, ?_⟩) hpl
  rw [hks]
  exact run_fnN (us := [.ref a]) (vs := [.ref a]) Fk (hr.mono hj) hb pass0 I2 (.cons rfl .nil) rz rfl l2 q2
/-! ### membership among flat things -/
theorem o_inT {ad : Addr} {xs : List V} (I : CxI P w K mg base k N Vz Sz G sc X) (h : SqT K H ad xs) (h1 : flatV v = true) (h2 : xs.all flatV = true) (q : Q (.bl (inV v xs)) H) : wO X (compareOp .In) v (.ref ad) H Q :=
  wO.of op_in_seq ⟨ad, xs, rfl, .inr (by rw [I.eK]; exact h), h1, h2, q⟩
/-! ### slices and + of tuples -/
theorem wE_sl {lo hi : Option Expr} {p2 : Pos} {r : V → Option Int → Option Int → Hp → VK → Prop} {tl th : TO} (hr : SlR X r) (h1 : PO X lo tl) (h2 : PO X hi th) (q : wE X e σ H fun x H1 => tl σ H1 fun l H2 => th σ H2 fun h H3 => r x l h H3 Q) :
    wE X (.Subscript e (.Slice lo hi none p2) pos) σ H Q := wE.of (pe_slice hr wE.pe h1 h2) q
theorem putq_i {H : Hp} {a dx : Addr} {fs : List (Str × V)} {R : Hp → Prop} {x : Str} {v : V} (h : H a = some (.ins C dx fs)) (c : Cls K C) (na : NoAttr K C x) (hl : fs.length < 1000)
    (q : ∀ H3, Exb a H H3 → H3 a = some (.ins C dx (putF x v fs)) → R H3) : PutQ K v (.ref a) x H R := ⟨a, C, dx, fs, rfl, h, c, na, hl, q _ Exb.upd upd_same⟩
theorem fldq_i {H : Hp} {a dx : Addr} {fs : List (Str × V)} {R : V → Prop} {x : Str} {v : V} (h : H a = some (.ins C dx fs)) (c : Cls K C) (na : NoAttr K C x) (hl : fs.lookup x = some v) (q : R v) : FldQ K (.ref a) x H R := ⟨a, C, dx, fs, v, rfl, h, c, na, hl, q⟩
theorem len_put {x : Str} {v : V} {fs : List (Str × V)} {n : Nat} (h : fs.length ≤ n) : (putF x v fs).length ≤ n + 1 := Nat.le_trans (length_putF x v fs) (Nat.succ_le_succ h)
/-- a new object may be changed: what was known ahead stays -/
theorem Ex.mut {H H1 H2 : Hp} {y : Addr} (a : Ex H H1) (h : H y = none) (b : Exb y H1 H2) : Ex H H2 := fun c o e => b c o (ne_of_none e h) (a c o e)
theorem Exb.mut {b y : Addr} {H H1 H2 : Hp} (a : Exb b H H1) (h : H y = none) (c : Exb y H1 H2) : Exb b H H2 := fun d o n e => c d o (ne_of_none e h) (a d o n e)
theorem Ex.new2 {H : Hp} {y dx : Addr} {o1 o2 : HO} (h1 : H dx = none) (h2 : H y = none) (n : dx ≠ y) : Ex H (L2.upd (L2.upd H dx o1) y o2) := fun c o e => by
  rw [upd_ne (ne_of_none e h2), upd_ne (ne_of_none e h1)]; exact e
end
end Rp
namespace Rp
open PySem PySem.Spec PyProof.Rows L2
theorem swapped2 {x y : Str} {px py pt pt2 : Pos} {kt k2} {a b : Expr} {env : Env} (hb : env.blockKind = .function) (hx : env.kindOf x = some .local) (hy : env.kindOf y = some .local) (hl : (py.line == px.line) = true) (hne : x ≠ y)
    (h1 : ([a, b].any fun | .Starred .. => true | _ => false) = false) (h2 : [a, b].all (foldedForSure 8) = false) (h3 : [a, b].all (constantsAlone 8) = false) :
    swappedStores [.Tuple [.Name x px, .Name y py] kt pt] (.Tuple [a, b] k2 pt2) env = pure (some [x, y]) := by
  have hl' : py.line = px.line := eq_of_beq hl
  have e0 : ((y == x) = false) := by simp [Ne.symm hne]
  unfold swappedStores
  simp only [hb, h1, h2, h3, List.length_cons, List.length_nil, List.filterMap_cons, List.filterMap_nil, hx, hy, Option.map_some, Option.getD_some, List.head?_cons, Expr.pos, hl', beq_self_eq_true, Bool.and_true, bne_self_eq_false, Bool.or_false, Bool.true_or, Bool.not_true, Bool.false_eq_true, if_false, if_true, ↓reduceIte]
  simp [List.eraseDups_cons, e0, hne, Ne.symm hne]
  intro h
  exfalso
  simp only [List.any_cons, List.any_nil, Bool.or_false, Bool.or_eq_false_iff] at h1
  rcases h with h | h
  · exact absurd (h1.1.symm.trans h) (by decide)
  · exact absurd (h1.2.symm.trans h) (by decide)
section
variable {P : Program} {w : World} {K : PySem.W.Frag} {mg : Str → Option Value} {base : Heap} {k : Nat} {N Vz Sz G : List Str} {sc : Scope} {x y : Str} {X : Cx}
variable {a b : Expr} {σ : L2.St} {H : Hp} {pos : Pos} {D : Ends}
theorem wS_par {px py pt pt2 : Pos} {kt k2} (C : CxI P w K mg base k N Vz Sz G sc X) (hx : (sc.names.lookup x == some .local) = true) (hy : (sc.names.lookup y == some .local) = true) (hl : (py.line == px.line) = true) (hne : (x == y) = false)
    (h1 : ([a, b].any fun | .Starred .. => true | _ => false) = false) (h2 : [a, b].all (foldedForSure 8) = false) (h3 : [a, b].all (constantsAlone 8) = false)
    (hs : swapsWithSole [.Tuple [.Name x px, .Name y py] kt pt] (.Tuple [a, b] k2 pt2) pos.line X.env = pure false)
    (q : wA X [a, b] σ H fun vs H1 => ∃ v w, vs = [v, w] ∧ Put N σ x v fun σ1 => Put N σ1 y w fun σ2 => D.nx σ2 H1) : wS X (.Assign [.Tuple [.Name x px, .Name y py] kt pt] (.Tuple [a, b] k2 pt2) pos) D σ H := by
  have ex : X.env.kindOf x = some .local := by show X.env.scope.names.lookup x = _; rw [C.es]; exact eq_of_beq hx
  have ey : X.env.kindOf y = some .local := by show X.env.scope.names.lookup y = _; rw [C.es]; exact eq_of_beq hy
  have hb : X.env.blockKind = .function := by unfold Env.blockKind; rw [C.es, C.fk]; rfl
  have ne : x ≠ y := fun z => by rw [z] at hne; simp at hne
  have hw := swapped2 (kt := kt) (pt := pt) (k2 := k2) (pt2 := pt2) hb ex ey hl ne h1 h2 h3
  refine ⟨fun pins s I => ?_⟩
  rw [exec_Assign_arm]
  refine wpAny_bind (wpAny_standAt ?_)
  rw [hs]
  refine wpAny_bind (wpAny_pure ?_)
  rw [if_neg (by decide)]
  refine wpAny_bind (Tuple_ (thn (q.run _ pins s I) fun us s1 ⟨vs, H1, I1, r1, q1⟩ => ?_))
  obtain ⟨v, w, e1, σ1, p1, σ2, p2, q1⟩ := q1
  subst e1
  obtain ⟨u1, u2, rfl, rv, rw'⟩ : ∃ u1 u2, us = [u1, u2] ∧ RelV v u1 ∧ RelV w u2 := by
    cases r1 with
    | cons p q =>
      cases q with
      | cons p' q' =>
        cases q'
        exact ⟨_, _, rfl, p, p'⟩
  obtain ⟨i, hi, rfl⟩ := p1.ix
  obtain ⟨j, hj, rfl⟩ := p2.ix
  have hij : i ≠ j := fun z => by
    rw [z] at hi
    exact ne (Option.some.inj (hi.symm.trans hj))
  have hN : X.N.Nodup := by rw [C.eN]; exact C.nd
  have hi' : X.N[i]? = some x := by rw [C.eN]; exact hi
  have hj' : X.N[j]? = some y := by rw [C.eN]; exact hj
  have hx2 : X.env.scope.names.lookup x = some .local := ex
  have hy2 : X.env.scope.names.lookup y = some .local := ey
  refine wpAny_newObj_type ?_ (by show 2 ≤ sizeLine; decide)
  have I2 : Inv X pins σ H1 { s1 with heap := s1.heap.push { cls := .type "tuple", data := .seq [u1, u2].toArray } } := I1.kept (t' := s1.toks) fun b o e => Heap.get?_push_of_some _ e
  rw [hw]
  refine wpAny_bind (wpAny_pure ?_)
  show wpAny (model X.prog X.w) X.A (do rule "assign.swapped-stores"; let items ← unpackItems (.ref s1.heap.objs.size) 2 none; assignInOrder [fun v => bindName X.env y v, fun v => bindName X.env x v] items.reverse; pure Flow.next) _ _ _
  refine wpAny_bind (wpAny_rule (wpAny_bind (unpackItems_tuple (items := #[u1, u2]) (I.ok.hd C.calm) (IsTup.new s1.heap _) fun h' hx' => ?_)))
  have I3 := I2.kept (h' := h') (t' := s1.toks) fun b o e => hx' b o (Nat.ne_of_lt (Heap.lt_size e)) e
  show wpAny _ _ (assignInOrder [fun v => bindName X.env y v, fun v => bindName X.env x v] [u2, u1] >>= fun _ => pure Flow.next) _ _ _
  refine wpAny_bind (assignInOrder_cons (wpAny_bindName (store_ok I3 hN hj' (.inl hy2) rw' (fun s2 I4 => ?_) (.inr hy2))))
  refine assignInOrder_cons (wpAny_bindName (store_ok I4 hN hi' (.inl hx2) rv (fun s3 I5 => assignInOrder_nil (wpAny_pure ?_)) (.inr hx2)))
  rw [List.set_comm _ _ (Ne.symm hij)] at I5
  exact ⟨_, H1, I5, q1⟩
end
section
variable {P : Program} {w : World} {K : PySem.W.Frag} {mg : Str → Option Value} {base : Heap} {k : Nat} {N Vz Sz G : List Str} {sc : Scope} {x y : Str} {X : Cx}
variable {σ : L2.St} {H : Hp} {pos : Pos} {Q : VK}
theorem o_pow6 (q : Q (.int 1000000) H) : wO X (binaryOp .Pow) (.int 10) (.int 6) H Q := o_pow (by decide) (by decide) (by decide) (by rw [show ((10 : Int) ^ (6 : Int).toNat) = 1000000 by decide]; exact q)
theorem pick {xs : List V} {d : Int} (h0 : 0 ≤ d) (h1 : d < xs.length) (Pr : V → Prop) (all : ∀ v ∈ xs, Pr v) : ∃ v, atI xs d = some v ∧ Pr v := by
  obtain ⟨v, e, m⟩ := atI_mem h0 h1
  exact ⟨v, e, all v m⟩
theorem all1 {Pr : V → Prop} {a : V} (h : Pr a) : ∀ v ∈ [a], Pr v := fun v hv => by rw [List.mem_singleton.mp hv]; exact h
theorem all2 {Pr : V → Prop} {a : V} {xs : List V} (h : Pr a) (t : ∀ v ∈ xs, Pr v) : ∀ v ∈ a :: xs, Pr v := fun v hv => by
  rcases List.mem_cons.mp hv with e | e
  · rw [e]; exact h
  · exact t v e
end
theorem ne_fresh {H : Hp} {p b : Addr} {o : HO} (hp : H p = none) (hb : H b = some o) : p ≠ b := (ne_of_none hb hp).symm
section
variable {P : Program} {w : World} {K : PySem.W.Frag} {mg : Str → Option Value} {base : Heap} {k : Nat} {N Vz Sz G : List Str} {sc : Scope} {x y : Str} {X : Cx}
variable {σ : L2.St} {H : Hp} {pos : Pos} {Q : VK} {v : V}
theorem atI_nat' {xs : List V} {j : Nat} (h : xs[j]? = some v) : atI xs (@OfNat.ofNat Int j (@instOfNat j)) = some v := by
  have hj : j < xs.length := (List.getElem?_eq_some_iff.mp h).1
  show (ixN xs.length ((j : Nat) : Int)).bind _ = _
  have e : ixN xs.length ((j : Nat) : Int) = some j := by unfold ixN; rw [if_pos (Int.natCast_nonneg j), if_pos (by omega)]; simp
  rw [e]
  exact h
theorem i_listL {c d : Expr} {ad : Addr} {xs : List V} {j : Nat} (C : CxI P w K mg base k N Vz Sz G sc X) (hs : PlainIx d) (h : SqL K H ad xs) (hi : xs[j]? = some v) (q : Q v H) : wIx X c d (.ref ad) (.int (@OfNat.ofNat Int j (@instOfNat j))) H Q :=
  i_list C hs h (atI_nat' hi) q
theorem i_tupL {c d : Expr} {ad : Addr} {xs : List V} {j : Nat} (C : CxI P w K mg base k N Vz Sz G sc X) (hs : PlainIx d) (h : SqT K H ad xs) (hi : xs[j]? = some v) (q : Q v H) : wIx X c d (.ref ad) (.int (@OfNat.ofNat Int j (@instOfNat j))) H Q :=
  i_tup C hs h (atI_nat' hi) q
end
section
variable {X : Cx} {st : Stmt} {rest : List Stmt} {D : Ends} {σ : L2.St} {H : Hp}
theorem wB_one (q : wS X st D σ H) : wB X [st] D σ H := wB.of (pss_one wS.ps) q
/-- what follows a statement, under a name of its own -/
structure Nx (X : Cx) (rest : List Stmt) (D : Ends) (R : L2.St → Hp → Prop) : Prop where
  h : ∀ σ' H', wB X rest D σ' H' → R σ' H'
theorem Nx.go {R : L2.St → Hp → Prop} (n : Nx X rest D R) (q : wB X rest D σ H) : R σ H := n.h _ _ q
theorem wB_cons' (q : ∀ R : L2.St → Hp → Prop, Nx X rest D R → wS X st { D with nx := R } σ H) : wB X (st :: rest) D σ H := wB_cons (q _ ⟨fun _ _ h => h⟩)
end
theorem Ex.free {H H' : Hp} {p : Addr} (e : Ex H H') (hp : H' p = none) : H p = none := by
  cases q : H p with
  | none => rfl
  | some o => rw [e p o q] at hp; cases hp
theorem Exb.free {b : Addr} {H H' : Hp} {p : Addr} {o : HO} (e : Exb b H H') (hb : H' b = some o) (hp : H' p = none) : H p = none := by
  cases q : H p with
  | none => rfl
  | some u =>
    by_cases z : p = b
    · rw [z, hb] at hp; cases hp
    · rw [e p u z q] at hp; cases hp
def IsI (z : V) (R : Int → Prop) : Prop := ∃ i, z = .int i ∧ R i
theorem isI {i : Int} {R : Int → Prop} (q : R i) : IsI (.int i) R := ⟨i, rfl, q⟩
def SlQ (K : PySem.W.Frag) (x : V) (l h : Option Int) (H : Hp) (R : Addr → Hp → Prop) : Prop := ∃ a xs, x = .ref a ∧ SqT K H a xs ∧ ¬ (HT.sIx xs.length 0 l = 0 ∧ HT.sIx xs.length xs.length h = xs.length) ∧
  ∀ p H', H p = none → Ex H H' → H' p = some (.tup (cutV xs l h)) → R p H'
section
variable {P : Program} {w : World} {K : PySem.W.Frag} {mg : Str → Option Value} {base : Heap} {k : Nat} {N Vz Sz G : List Str} {sc : Scope} {X : Cx} {e d : Expr} {σ : L2.St} {H : Hp} {pos p2 : Pos} {Q : VK}
theorem slq_i {a : Addr} {xs ys : List V} {l h : Option Int} {R : Addr → Hp → Prop} (hq : SqT K H a xs) (hn : ¬ (HT.sIx xs.length 0 l = 0 ∧ HT.sIx xs.length xs.length h = xs.length)) (hy : cutV xs l h = ys)
    (q : ∀ p H', H p = none → Ex H H' → H' p = some (.tup ys) → R p H') : SlQ K (.ref a) l h H R := ⟨a, xs, rfl, hq, hn, by rw [hy]; exact q⟩
theorem slq_run {x : V} {l h : Option Int} (C : CxI P w K mg base k N Vz Sz G sc X) (q : SlQ K x l h H fun p H' => Q (.ref p) H') : rSlT X.K x l h H Q := by
  obtain ⟨a, xs, rfl, hq, hn, q⟩ := q
  exact ⟨a, xs, rfl, by rw [C.eK]; exact hq, hn, fun p hp => q p _ hp (Ex.upd hp) upd_same⟩
theorem wE_slTo (C : CxI P w K mg base k N Vz Sz G sc X) (q : wE X e σ H fun x H1 => wE X d σ H1 fun y H2 => IsI y fun i => SlQ K x none (some i) H2 fun p H' => Q (.ref p) H') : wE X (.Subscript e (.Slice none (some d) none p2) pos) σ H Q := by
  refine wE_sl sl_tup po_none (po_some wE.pe) ⟨fun pins s I => ?_⟩
  refine thn (q.run pins s I) ?_
  rintro u s1 ⟨x, H1, I1, r1, q1⟩
  refine ⟨x, H1, I1, r1, ?_⟩
  show wE X d σ H1 _
  refine ⟨fun pins s I => ?_⟩
  refine thn (q1.run pins s I) ?_
  rintro u s1 ⟨y, H2, I2, r2, i, rfl, q2⟩
  exact ⟨_, H2, I2, r2, i, rfl, slq_run C q2⟩
theorem wE_slFrom (C : CxI P w K mg base k N Vz Sz G sc X) (q : wE X e σ H fun x H1 => wE X d σ H1 fun y H2 => IsI y fun i => SlQ K x (some i) none H2 fun p H' => Q (.ref p) H') : wE X (.Subscript e (.Slice (some d) none none p2) pos) σ H Q := by
  refine wE_sl sl_tup (po_some wE.pe) po_none ⟨fun pins s I => ?_⟩
  refine thn (q.run pins s I) ?_
  rintro u s1 ⟨x, H1, I1, r1, q1⟩
  refine ⟨x, H1, I1, r1, ?_⟩
  show wE X d σ H1 _
  refine ⟨fun pins s I => ?_⟩
  refine thn (q1.run pins s I) ?_
  rintro u s1 ⟨y, H2, I2, r2, i, rfl, q2⟩
  exact ⟨_, H2, I2, r2, i, rfl, slq_run C q2⟩
/-- <= of tuples of ints -/
theorem o_leT {a b : Addr} {ns ms : List Int} (C : CxI P w K mg base k N Vz Sz G sc X) (h1 : SqT K H a (ns.map V.int)) (h2 : SqT K H b (ms.map V.int))
    (q : Q (.bl (Ob.lexAt (fun j => decide (ns.getD j 0 = ms.getD j 0)) (fun j => decide (ns.getD j 0 ≤ ms.getD j 0)) (decide (ns.length ≤ ms.length)) 0 (min ns.length ms.length))) H) : wO X (compareOp .LtE) (.ref a) (.ref b) H Q :=
  wO.of (op_leT C.room.units0) ⟨a, b, ns, ms, rfl, rfl, by rw [C.eK]; exact h1, by rw [C.eK]; exact h2, q⟩
theorem dp_int {i : Int} : Dp K H (.int i) (.int i) := .int i
/-- == and != of tuples of ints -/
theorem dpa_ints : ∀ (ns : List Int), DpAll K H (ns.map V.int) (ns.map PyData.int)
  | [] => .nil
  | n :: ns => .cons (.int n) (dpa_ints ns)
end
section
variable {X : Cx} {e : Expr} {σ : L2.St} {H : Hp} {Q : VK}
theorem wE_val (v0 : V) (h : wE X e σ H fun v H' => v = v0 ∧ H' = H) (q : Q v0 H) : wE X e σ H Q := ⟨fun pins s I => thn (h.run pins s I) fun u s1 ⟨v, H1, I1, r, hv, hH⟩ => by
  subst hv
  subst hH
  exact ⟨_, _, I1, r, q⟩⟩
end
section
variable {P : Program} {w : World} {K : PySem.W.Frag} {mg : Str → Option Value} {base : Heap} {k : Nat} {N Vz Sz G : List Str} {sc : Scope} {X : Cx} {σ : L2.St} {H : Hp} {Q : VK}
theorem o_pow5 (q : Q (.int 100000) H) : wO X (binaryOp .Pow) (.int 10) (.int 5) H Q := o_pow (by decide) (by decide) (by decide) (by rw [show ((10 : Int) ^ (5 : Int).toNat) = 100000 by decide]; exact q)
end
section
variable {X : Cx} {e : Expr} {es : List Expr} {σ : L2.St} {H : Hp} {pos p2 : Pos} {D : Ends} {k1 : Nat}
theorem wS_asgT (hs : swapsWithSole [.Tuple es k1 p2] e pos.line X.env = pure false) (hw : swappedStores [.Tuple es k1 p2] e X.env = pure none) (h1 : (assignEach [.Tuple es k1 p2] X.env).map (·.2) = [assign (.Tuple es k1 p2) X.env])
    (q : wE X e σ H fun v H1 => wG X (.Tuple es k1 p2) v σ H1 D.nx) : wS X (.Assign [.Tuple es k1 p2] e pos) D σ H := wS_asg hs hw h1 q
end
end Rp
namespace Rp
open PySem PySem.Spec PyProof.Rows L2
section
variable {prog : Program} {w : World} {A : Around} {E : Value → Shared → Prop} {s : Shared}
/-- what is drawn of a tuple -/
theorem collect_tup {l : Addr} {vs : List Value} {Q : List Value → Shared → Prop} (hl : IsTup s.heap l vs.toArray)
    (h : Q vs { s with heap := (s.heap.push (seqObj "list" #[] 0)).update s.heap.objs.size (Obj.mapSeq (· ++ vs.toArray)) }) (hsz : vs.length ≤ sizeLine) :
    wpAny (model prog w) A (collect (.ref l)) Q E s := by
  obtain ⟨o, ho, hc, n, hd⟩ := id hl
  unfold collect
  refine wpAny_bind (wpAny_runValue (codeAny_builtin entry_proto_collect' ?_))
  show wpAny _ _ (do again (.builtin "list.__iadd__" ⟨[← newList [], .ref l], []⟩)) _ _ s
  refine wpAny_bind (wpAny_newList (wpAny_pure ⟨Code.quiet_builtin _ (by decide +kernel), codeAny_builtin entry_list_iadd' ?_⟩))
  show wpAny _ _ (Builtin.List.listExtendWith (.ref s.heap.objs.size) (.ref l) (.ref s.heap.objs.size)) _ _ { s with heap := s.heap.push (seqObj "list" #[] 0) }
  unfold Builtin.List.listExtendWith
  have ho' : (s.heap.push (seqObj "list" #[] 0)).get? l = some o := Heap.get?_push_of_some _ ho
  refine wpAny_bind (wpAny_typeOf (T := "tuple") ⟨o, ho', hc⟩ ?_)
  rw [if_pos (by rw [show (Value.type "tuple" == Value.type "tuple") = true by rfl]; simp)]
  refine wpAny_bind (listItems_at ho' hd ?_)
  refine wpAny_bind (listItems_at (xs := #[]) (n := 0) (Heap.get?_push_size _ rfl) rfl ?_)
  rw [if_neg (by simp)]
  refine wpAny_bind (listUpdate_at (xs := #[]) (n := 0) (Heap.get?_push_size _ rfl) rfl ?_ (Nat.zero_le _) (by show (#[] ++ vs.toArray).size ≤ sizeLine + 1; simp only [Array.size_append, List.size_toArray, List.length_nil]; omega))
  refine wpAny_pure ?_
  show wpAny (model prog w) A (do
      let o ← load s.heap.objs.size
      match o.data with
      | .seq xs _ => pure xs.toList
      | _ => unsupported "internal:collect") Q E { s with heap := (s.heap.push (seqObj "list" #[] 0)).update s.heap.objs.size (Obj.mapSeq (· ++ vs.toArray)) }
  refine wpAny_bind (wpAny_load (get?_update_seq (Heap.get?_push_size _ rfl) _) ?_)
  show wpAny _ _ (pure ((#[] : Array Value) ++ vs.toArray).toList) Q E _
  rw [show ((#[] : Array Value) ++ vs.toArray).toList = vs by simp]
  exact wpAny_pure h
end
theorem ext_upd {h : Heap} {vs : List Value} : ∀ b o, h.get? b = some o → ((h.push (seqObj "list" #[] 0)).update h.objs.size (Obj.mapSeq (· ++ vs.toArray))).get? b = some o := fun b o e => by
  have hlt : b < h.objs.size := Heap.lt_size e
  rw [Heap.get?_update_ne _ _ _ _ (Nat.ne_of_lt hlt)]
  exact Heap.get?_push_of_some _ e
theorem refs_of : ∀ us : List Value, (∀ u ∈ us, ∃ a, u = Value.ref a) → ∃ bs : List Addr, us = bs.map Value.ref
  | [], _ => ⟨[], rfl⟩
  | u :: us, h => by
    obtain ⟨a, rfl⟩ := h u List.mem_cons_self
    obtain ⟨bs, rfl⟩ := refs_of us fun v hv => h v (List.mem_cons_of_mem _ hv)
    exact ⟨a :: bs, rfl⟩
def unref : Value → Addr
  | .ref a => a
  | _ => 0
theorem unref_map (bs : List Addr) : (bs.map Value.ref).map unref = bs := by
  rw [List.map_map]
  exact List.map_id bs
theorem vals_refs' : ∀ bs : List Addr, Vals (bs.map V.ref) (bs.map Value.ref)
  | [] => .nil
  | _ :: r => .cons rfl (vals_refs' r)
section
variable {X : Cx} {pins : List (Addr × Obj)} {σ : L2.St} {H : Hp} {s : Shared}
/-- sorted of a thing that gives these tuples of ints -/
theorem sorted_src {src : Addr} {as : List Addr} {nss : List (List Int)} {d : Nat} {B : Int} {Q : VK} (I : Inv X pins σ H s)
    (hcol : ∀ R : List Value → Shared → Prop, (∀ h' tk, (∀ b o, s.heap.get? b = some o → h'.get? b = some o) → R (as.map Value.ref) { s with heap := h', toks := tk }) → wpAny (model X.prog X.w) X.A.in1 (collect (.ref src)) R X.xe s)
    (hT : Paired (fun a ns => SqT X.K H a (ns.map V.int)) as nss) (hB : ∀ ns ∈ nss, ns.length = d ∧ TS.Bd B ns) (hd : 1 ≤ d) (h64 : as.length < 64)
    (q : ∀ (ps : List (Addr × List Int)) (p : Addr), ps.Perm (as.zip nss) → ps.Pairwise (fun a b => TS.code B a.2 ≤ TS.code B b.2) → H p = none → Q (.ref p) (upd H p (.lst (ps.map fun x => V.ref x.1)))) :
    wpAny (model X.prog X.w) X.A (call (.builtin "sorted") [.ref src]) (EP X pins σ Q) X.xe s := by
  refine Calls.call_function_entry PyProof.Rows.kind_sorted PyProof.Rows.plain_sorted PyProof.Rows.entry_sorted (PyProof.Rows.args_sorted1 _) ?_
  unfold Builtin.«sorted»
  refine wpAny_bind (m := checkCount "sorted" 1 1 _) (wpAny_pure ?_)
  refine wpAny_bind (hcol _ fun h' tk hk => ?_)
  have I1 : Inv X pins σ H { s with heap := h', toks := tk } := I.kept hk
  have hal : (as.map Value.ref).length = as.length := List.length_map _
  refine wpAny_bind (wpAny_newList ?_ (by rw [hal, sizeLine_eq]; omega))
  have hoL : (h'.push (seqObj "list" (as.map Value.ref).toArray 0)).get? h'.objs.size = some (seqObj "list" (as.map Value.ref).toArray 0) := Heap.get?_push_size _ rfl
  show wpAny _ _ _ _ _ { s with heap := h'.push (seqObj "list" (as.map Value.ref).toArray 0), toks := tk }
  -- the ints of each
  have hraw : ∀ (as : List Addr) (nss : List (List Int)), Paired (fun a ns => SqT X.K H a (ns.map V.int)) as nss → ∀ a ∈ as, ∃ ns ∈ nss, TS.TupInts s.heap (.ref a) ns := by
    intro as nss h
    induction h with
    | nil => intro a ha; cases ha
    | cons z t ih =>
      intro a ha
      rcases List.mem_cons.mp ha with e | ha
      · rw [e]; exact ⟨_, List.mem_cons_self, tupI_raw I z⟩
      · obtain ⟨ns, m, x⟩ := ih a ha
        exact ⟨ns, List.mem_cons_of_mem _ m, x⟩
  have hzip : ∀ (as : List Addr) (nss : List (List Int)), Paired (fun a ns => SqT X.K H a (ns.map V.int)) as nss → as.zip nss = as.map fun a => (a, TS.intsOf s.heap (.ref a)) := by
    intro as nss h
    induction h with
    | nil => rfl
    | cons z t ih =>
      rw [List.zip_cons_cons, List.map_cons, ih, (tupI_raw I z).ints]
  have keep : ∀ b o, s.heap.get? b = some o → (h'.push (seqObj "list" (as.map Value.ref).toArray 0)).get? b = some o := fun b o e => Heap.get?_push_of_some _ (hk b o e)
  have ok : TS.TupsOk (h'.push (seqObj "list" (as.map Value.ref).toArray 0)) d B (as.map Value.ref) := fun v hv => by
    obtain ⟨a, ha, rfl⟩ := List.mem_map.mp hv
    obtain ⟨ns, m, x⟩ := hraw as nss hT a ha
    obtain ⟨h1, h2⟩ := hB ns m
    exact ⟨ns, x.keeps fun b o e _ => keep b o e, h1, h2⟩
  refine wpAny_bind (wpAny_holding (wpAny_call_entry PyProof.Rows.slot_list_sort ⟨_, hoL, rfl⟩ PyProof.Rows.entry_list_sort
    (TS.sort_tups (s := { s with heap := h'.push (seqObj "list" (as.map Value.ref).toArray 0), toks := tk }) hoL (by rw [hal]; exact h64) hd ok (fun v => TS.code B (TS.intsOf s.heap v)) (fun v hv ns t => ?_) fun out g1 g2 => ⟨_, rfl, ?_⟩) (PyProof.Rows.args_list_sort _)))
  · obtain ⟨a, ha, rfl⟩ := List.mem_map.mp hv
    obtain ⟨ns0, m, x⟩ := hraw as nss hT a ha
    have e : ns = ns0 := t.ints.symm.trans (x.keeps fun b o e _ => keep b o e).ints
    rw [e]
    show TS.code B (TS.intsOf s.heap (.ref a)) = _
    rw [x.ints]
  · obtain ⟨e', he'⟩ := PyProof.Rows.sortedHeap_at (vs := as.map Value.ref) (out := out) hoL
    have hrf : ∀ u ∈ out.toList, ∃ a, u = Value.ref a := fun u hu => by
      obtain ⟨a, _, e⟩ := List.mem_map.mp (g1.mem_iff.mp hu)
      exact ⟨a, e.symm⟩
    obtain ⟨bs, hbs⟩ := refs_of out.toList hrf
    have hperm : bs.Perm as := by
      have z := g1.map unref
      rw [hbs, unref_map, unref_map] at z
      exact z
    have hlen : (bs.map V.ref).length ≤ sizeLine := by
      rw [List.length_map, hperm.length_eq]
      exact Nat.le_trans (Nat.le_of_lt h64) (by decide)
    have hq := q (bs.map fun a => (a, TS.intsOf s.heap (.ref a))) h'.objs.size (by rw [hzip as nss hT]; exact hperm.map _) (by
      rw [hbs, List.pairwise_map] at g2
      rw [List.pairwise_map]
      refine List.Pairwise.imp_of_mem (fun {a b} ma mb z => ?_) g2
      have ea : ∀ c ∈ bs, TS.intsOf (h'.push (seqObj "list" (as.map Value.ref).toArray 0)) (.ref c) = TS.intsOf s.heap (.ref c) := fun c mc => by
        obtain ⟨ns, _, x⟩ := hraw as nss hT c (hperm.mem_iff.mp mc)
        rw [x.ints, (x.keeps fun b o e _ => keep b o e).ints]
      show TS.code B (TS.intsOf s.heap (.ref a)) ≤ TS.code B (TS.intsOf s.heap (.ref b))
      exact z) (I1.hok.fresh (Nat.le_refl _))
    rw [List.map_map] at hq
    refine wpAny_pure ⟨_, rfl, .ref h'.objs.size, upd H h'.objs.size (.lst (bs.map V.ref)), I1.laid (t' := tk) (fun b u e => ?_) (Nat.le_refl _)
      (show ObjOk X.prog X.w _ _ _ (.lst (bs.map V.ref)) from ⟨hlen, out.toList, e', by rw [hbs]; exact vals_refs' bs, by rw [Array.toArray_toList]; exact he'⟩), rfl, hq⟩
    have hb : b < h'.objs.size := Heap.lt_size e
    rw [PyProof.Rows.sortedHeap_old (Nat.ne_of_lt hb) (by rw [size_push']; exact Nat.lt_succ_of_lt hb)]
    exact Heap.get?_push_of_some _ e
/-- sorted(t), t a tuple of tuples of ints -/
theorem call_sortedTT {t : Addr} {as : List Addr} {nss : List (List Int)} {d : Nat} {B : Int} {Q : VK} (hq : SqT X.K H t (as.map V.ref)) (hT : Paired (fun a ns => SqT X.K H a (ns.map V.int)) as nss) (hB : ∀ ns ∈ nss, ns.length = d ∧ TS.Bd B ns) (hd : 1 ≤ d) (h64 : as.length < 64)
    (q : ∀ (ps : List (Addr × List Int)) (p : Addr), ps.Perm (as.zip nss) → ps.Pairwise (fun a b => TS.code B a.2 ≤ TS.code B b.2) → H p = none → Q (.ref p) (upd H p (.lst (ps.map fun x => V.ref x.1)))) : wC X (.builtin "sorted") [.ref t] H Q := by
  refine ⟨fun pins s σ us I r => ?_⟩
  obtain ⟨u, rfl, rx⟩ := vals1 r
  cases rx
  refine sorted_src I (fun R h => ?_) hT hB hd h64 q
  obtain ⟨its, rv, ht, hz⟩ := I.tuple hq
  have e : its = as.map Value.ref := by
    obtain ⟨e1, e2⟩ := bkV_refs rv fun y hy => by
      obtain ⟨a, _, rfl⟩ := List.mem_map.mp hy
      exact ⟨a, rfl⟩
    obtain ⟨bs, rfl⟩ := refs_of its e2
    rw [List.map_map] at e1
    have e3 : as = bs := by
      have z := congrArg (List.map fun x => match x with | V.ref a => a | _ => (0 : Addr)) e1
      rw [List.map_map, List.map_map] at z
      exact (List.map_id as).symm.trans (z.trans (List.map_id bs))
    rw [e3]
  rw [e] at ht
  exact collect_tup ht (h _ _ ext_upd) (by rw [List.length_map, sizeLine_eq]; omega)
end
def unI : Key → Int
  | .inl i => i
  | .inr _ => 0
theorem unI_map (ns : List Int) : (ns.map (Sum.inl : Int → Key)).map unI = ns := by
  rw [List.map_map]
  exact List.map_id ns
section
variable {X : Cx} {H : Hp}
/-- sorted(d), d a dict whose keys are tuples of ints -/
theorem call_sortedDT {d : Addr} {kvs : List (List Key × V)} {D : Nat} {B : Int} {Q : VK} (hcalm : X.calm = true) (hd : H d = some (.dT kvs)) (hB : ∀ kv ∈ kvs, ∃ ns : List Int, kv.1 = ns.map Sum.inl ∧ ns.length = D ∧ TS.Bd B ns) (hD : 1 ≤ D) (h64 : kvs.length < 64)
    (q : ∀ (ps : List (Addr × List Int)) (p : Addr), (ps.map fun x => x.2.map (Sum.inl : Int → Key)).Perm (kvs.map (·.1)) → (∀ x ∈ ps, H x.1 = some (.tup (x.2.map V.int))) → ps.Pairwise (fun a b => TS.code B a.2 ≤ TS.code B b.2) → H p = none → Q (.ref p) (upd H p (.lst (ps.map fun x => V.ref x.1)))) :
    wC X (.builtin "sorted") [.ref d] H Q := by
  refine ⟨fun pins s σ us I r => ?_⟩
  obtain ⟨u, rfl, rx⟩ := vals1 r
  cases rx
  obtain ⟨z, hs, ks, pr, o, es, ep, ho, hx, hdt, he, hn⟩ := (show ObjOk X.prog X.w H s.heap d (.dT kvs) from I.hok d _ hd)
  have l1 : es.size = ks.length := size_of_entries he
  have l2 : kvs.length = ks.length := Paired.length pr
  have hT : ∀ (kvs : List (List Key × V)) (ks : List (List Key × Addr × Value)), KT H kvs ks → (∀ kv ∈ kvs, ∃ ns : List Int, kv.1 = ns.map Sum.inl ∧ ns.length = D ∧ TS.Bd B ns) →
      Paired (fun a ns => H a = some (.tup (ns.map V.int))) (ks.map (·.2.1)) (kvs.map fun kv => kv.1.map unI) := by
    intro kvs ks h
    induction h with
    | nil => intro _; exact .nil
    | @cons p q r t hz ht ih =>
      intro hb
      obtain ⟨ns, e, _⟩ := hb p List.mem_cons_self
      refine .cons ?_ (ih fun kv m => hb kv (List.mem_cons_of_mem _ m))
      have e2 := hz.2.1
      rw [e, List.map_map] at e2
      show H q.2.1 = some (.tup ((p.1.map unI).map V.int))
      rw [e, unI_map]
      exact e2
  have hT0 := hT kvs ks pr hB
  have hmem : ∀ (as : List Addr) (nss : List (List Int)), Paired (fun a ns => H a = some (.tup (ns.map V.int))) as nss → ∀ x ∈ as.zip nss, H x.1 = some (.tup (x.2.map V.int)) := by
    intro as nss h
    induction h with
    | nil => intro x hx; cases hx
    | cons z t ih =>
      intro x hx
      rcases List.mem_cons.mp (show x ∈ _ :: _ from hx) with e | hx
      · rw [e]; exact z
      · exact ih x hx
  have hsnd : ∀ (as : List Addr) (nss : List (List Int)), Paired (fun a ns => H a = some (.tup (ns.map V.int))) as nss → (as.zip nss).map (·.2) = nss := by
    intro as nss h
    induction h with
    | nil => rfl
    | cons z t ih => rw [List.zip_cons_cons, List.map_cons, ih]
  refine sorted_src (as := ks.map (·.2.1)) (nss := kvs.map fun kv => kv.1.map unI) (d := D) (B := B) I (fun R h => ?_) (Paired.mapP hT0 fun a ns z => .inl (.inl z)) (fun ns m => ?_) hD (by rw [List.length_map]; omega) fun ps p h1 h2 h3 => q ps p ?_ (fun x hx => hmem _ _ hT0 x (h1.mem_iff.mp hx)) h2 h3
  · refine PySem.W.kdu_collect (kdl_raw hs hx hdt) (I.ok.hd hcalm) ho (by omega) fun h' tk acc' hk it => ?_
    have ea : acc'.toList = ks.map fun x => Value.ref x.2.1 := by
      have hl : acc'.toList.length = ks.length := by rw [Array.length_toList, it.1]; exact l1
      apply List.ext_getElem?
      intro j
      rw [List.getElem?_map]
      cases hj : acc'.toList[j]? with
      | none =>
        have h1 := List.getElem?_eq_none_iff.mp hj
        rw [List.getElem?_eq_none (by omega)]
        all_goals rfl
      | some v =>
        obtain ⟨en, hen, hv⟩ := it.2 j v (by rw [← Array.getElem?_toList]; exact hj)
        have qe := entry_at he j
        rw [hen] at qe
        cases hb : ks[j]? with
        | none =>
          rw [hb] at qe
          exact nomatch (show some en = none from qe)
        | some b =>
          rw [hb] at qe
          have e2 : en = entryOfKey (tupleKind (mixKind X.prog X.w)) b := Option.some.inj qe
          rw [hv, e2]
          all_goals rfl
    have hh := h h' tk hk
    rw [List.map_map] at hh
    rw [ea]
    exact hh
  · obtain ⟨kv, mk, rfl⟩ := List.mem_map.mp m
    obtain ⟨ns, e, h1, h2⟩ := hB kv mk
    rw [e, unI_map]
    exact ⟨h1, h2⟩
  · have e1 : (kvs.map (·.1)) = (kvs.map fun kv => kv.1.map unI).map fun ns => ns.map (Sum.inl : Int → Key) := by
      rw [List.map_map]
      refine List.map_congr_left fun kv m => ?_
      obtain ⟨ns, e, _⟩ := hB kv m
      show kv.1 = (kv.1.map unI).map Sum.inl
      rw [e, unI_map]
    rw [e1, ← hsnd _ _ hT0]
    have z := h1.map fun x => x.2.map (Sum.inl : Int → Key)
    rw [List.map_map]
    exact z
end
end Rp
namespace Rp
open PySem PySem.Spec PyProof.Rows L2
/-! ### dicts with tuple keys -/
def DgQ (H : Hp) (x y : V) (R : V → Prop) : Prop := ∃ a v, x = .ref a ∧ DGet H a y (some v) ∧ R v
def DpQ (v x y : V) (H : Hp) (R : Hp → Prop) : Prop := ∃ a H', x = .ref a ∧ DPut H a y v H' ∧ R H'
section
variable {P : Program} {w : World} {K : PySem.W.Frag} {mg : Str → Option Value} {base : Heap} {k : Nat} {N Vz Sz G : List Str} {sc : Scope} {X : Cx} {e o d : Expr} {σ : L2.St} {H : Hp} {pos pos' : Pos} {Q : VK} {D : Ends}
theorem wE_dnewT (q : ∀ p H2, H p = none → Ex H H2 → H2 p = some (.dT []) → Q (.ref p) H2) : wE X (.Dict [] [] pos) σ H Q := wE.of pe_dnewT fun p hp => q p _ hp (Ex.upd hp) upd_same
theorem wE_dget (C : CxI P w K mg base k N Vz Sz G sc X) (hs : NoSl d) (q : wE X o σ H fun x H1 => wE X d σ H1 fun y H2 => DgQ H2 x y fun v => Q v H2) : wE X (.Subscript o d pos) σ H Q := wE.of (pe_dget (hu_of C.room) wE.pe wE.pe hs) q
theorem wS_dput (C : CxI P w K mg base k N Vz Sz G sc X) (hs : swapsWith e (some (.Subscript o d pos')) pos.line X.env = pure false) (q : wE X e σ H fun v H1 => wE X o σ H1 fun x H2 => wE X d σ H2 fun y H3 => DpQ v x y H3 fun H4 => D.nx σ H4) :
    wS X (.Assign [.Subscript o d pos'] e pos) D σ H := wS.of (ps_dput (hu_of C.room) wE.pe wE.pe wE.pe hs) q
theorem dpq_t {a b : Addr} {kvs : List (List Key × V)} {ks : List Key} {v : V} {R : Hp → Prop} (e : H a = some (.dT kvs)) (eb : H b = some (.tup (ks.map kV))) (hl : kvs.length < sizeLine) (q : ∀ H', Exb a H H' → H' a = some (.dT (putK kvs ks v)) → R H') : DpQ v (.ref a) (.ref b) H R :=
  ⟨a, _, rfl, DPut.t e eb hl, q _ Exb.upd upd_same⟩
theorem dgq_t {a b : Addr} {kvs : List (List Key × V)} {ks : List Key} {v : V} {R : V → Prop} (e : H a = some (.dT kvs)) (eb : H b = some (.tup (ks.map kV))) (hv : valV kvs ks = some v) (q : R v) : DgQ H (.ref a) (.ref b) R :=
  ⟨a, v, rfl, by rw [← hv]; exact DGet.t e eb, q⟩
end
/-! ### comprehensions over a list, a tuple -/
section
variable {P : Program} {w : World} {K : PySem.W.Frag} {mg : Str → Option Value} {base : Heap} {k : Nat} {N Vz Sz G Vc Sc' Gc : List Str} {sc scope : Scope} {X : Cx} {elt tg it c : Expr} {ifs : List Expr} {σ : L2.St} {H : Hp} {pos : Pos} {Q : VK} {D : Ends}
/-- the contexts of a comprehension's block -/
def BlkE (P : Program) (w : World) (K : PySem.W.Frag) (mg : Str → Option Value) (base : Heap) (k : Nat) (N Vc Sc' Gc : List Str) (scope : Scope) (e : Expr) : TE := fun σ H Q => ∀ X, CxI P w K mg base k N Vc Sc' Gc scope X → wE X e σ H Q
def BlkT (P : Program) (w : World) (K : PySem.W.Frag) (mg : Str → Option Value) (base : Heap) (k : Nat) (N Vc Sc' Gc : List Str) (scope : Scope) (ifs : List Expr) : TT := fun σ H Q => match ifs with
  | [] => Q true H
  | [c] => ∀ X, CxI P w K mg base k N Vc Sc' Gc scope X → wT X c σ H Q
  | _ => False
def BlkG (P : Program) (w : World) (K : PySem.W.Frag) (mg : Str → Option Value) (base : Heap) (k : Nat) (N Vc Sc' Gc : List Str) (scope : Scope) (e : Expr) : TG := fun v σ H Q => ∀ X, CxI P w K mg base k N Vc Sc' Gc scope X → wG X e v σ H Q
def localsOk (S : List Str) (sc : Scope) : Bool := S.all fun x => sc.names.lookup x == some .local
theorem blk_cx (C : CxI P w K mg base k N Vz Sz G sc X) (ok : namesOk Vc Sc' Gc (relS scope sc) = true) (hl : localsOk Sc' (relS scope sc) = true) (hk : scope.kind = .function) (s : Shared) (H : Hp) (Ca : Addr) (cl : List (Str × Addr)) (fp : List Addr) :
    CxI P w K mg base k N Vc Sc' Gc (relS scope sc) (X.blk s H scope (compEnvC scope cl Ca X.env) fp) :=
  ⟨C.eP, C.ew, C.eK, C.em, C.eb, C.eN, by rw [← C.es]; rfl, C.room, C.calm, .inr fun x hx => eq_of_beq (List.all_eq_true.mp hl x hx), PassesOwn.never, C.nd, ok, hk⟩
theorem blk_pe (C : CxI P w K mg base k N Vz Sz G sc X) (ok : namesOk Vc Sc' Gc (relS scope sc) = true) (hl : localsOk Sc' (relS scope sc) = true) (hk : scope.kind = .function) (s : Shared) (H : Hp) (Ca : Addr) (cl : List (Str × Addr)) (fp : List Addr) :
    PE (X.blk s H scope (compEnvC scope cl Ca X.env) fp) elt (BlkE P w K mg base k N Vc Sc' Gc (relS scope sc) elt) := ⟨fun pins s' σ H' Q I h => (h _ (blk_cx C ok hl hk s H Ca cl fp)).run pins s' I⟩
theorem blk_pg (C : CxI P w K mg base k N Vz Sz G sc X) (ok : namesOk Vc Sc' Gc (relS scope sc) = true) (hl : localsOk Sc' (relS scope sc) = true) (hk : scope.kind = .function) (s : Shared) (H : Hp) (Ca : Addr) (cl : List (Str × Addr)) (fp : List Addr) :
    PG (X.blk s H scope (compEnvC scope cl Ca X.env) fp) tg (BlkG P w K mg base k N Vc Sc' Gc (relS scope sc) tg) := ⟨fun pins s' σ H' v u Q I r h => (h _ (blk_cx C ok hl hk s H Ca cl fp)).run pins s' u I r⟩
theorem blk_pts (C : CxI P w K mg base k N Vz Sz G sc X) (ok : namesOk Vc Sc' Gc (relS scope sc) = true) (hl : localsOk Sc' (relS scope sc) = true) (hk : scope.kind = .function) (s : Shared) (H : Hp) (Ca : Addr) (cl : List (Str × Addr)) (fp : List Addr) :
    ∀ ifs : List Expr, PTs (X.blk s H scope (compEnvC scope cl Ca X.env) fp) ifs (BlkT P w K mg base k N Vc Sc' Gc (relS scope sc) ifs)
  | [] => pts_nil
  | [c] => pts_one ⟨fun pins s' σ H' Q I h => (h _ (blk_cx C ok hl hk s H Ca cl fp)).run pins s' I⟩
  | _ :: _ :: _ => ⟨fun _ _ _ _ _ _ h => h.elim⟩
/-- the step of a comprehension, the new list at D -/
def LcStep (P : Program) (w : World) (K : PySem.W.Frag) (mg : Str → Option Value) (base : Heap) (k : Nat) (N Vc Sc' Gc : List Str) (scope : Scope) (vs : List Nat) (elt tg : Expr) (ifs : List Expr) (σ : L2.St) (D : Addr) (x : V) (H : Hp) (Nx : Hp → Prop) : Prop :=
  BlkG P w K mg base k N Vc Sc' Gc scope tg x (wipe σ vs) H fun σ2 H2 => wipe σ2 vs = wipe σ vs ∧ BlkT P w K mg base k N Vc Sc' Gc scope ifs σ2 H2 fun b H3 =>
    if b = true then BlkE P w K mg base k N Vc Sc' Gc scope elt σ2 H3 fun y H4 => ∃ acc, H4 D = some (.lst acc) ∧ acc.length < sizeLine ∧ Nx (L2.upd H4 D (.lst (acc ++ [y]))) else Nx H3
def LcL (P : Program) (w : World) (K : PySem.W.Frag) (mg : Str → Option Value) (base : Heap) (k : Nat) (N Vc Sc' Gc : List Str) (scope : Scope) (vs : List Nat) (elt tg : Expr) (ifs : List Expr) (σ : L2.St) (v : V) (H1 : Hp) (Q : Addr → Hp → Prop) : Prop :=
  ∃ ad xs, v = .ref ad ∧ SqL K H1 ad xs ∧ ∀ D, H1 D = none → ∃ Pv : Nat → Hp → Prop, Pv 0 (L2.upd H1 D (.lst [])) ∧ (∀ i H, i ≤ xs.length → Pv i H → SqL K H ad xs) ∧
    (∀ i x H, xs[i]? = some x → Pv i H → LcStep P w K mg base k N Vc Sc' Gc scope vs elt tg ifs σ D x H (Pv (i + 1))) ∧ ∀ H, Pv xs.length H → Q D H
def LcT (P : Program) (w : World) (K : PySem.W.Frag) (mg : Str → Option Value) (base : Heap) (k : Nat) (N Vc Sc' Gc : List Str) (scope : Scope) (vs : List Nat) (elt tg : Expr) (ifs : List Expr) (σ : L2.St) (v : V) (H1 : Hp) (Q : Addr → Hp → Prop) : Prop :=
  ∃ ad xs, v = .ref ad ∧ SqT K H1 ad xs ∧ ∀ D, H1 D = none → ∃ Pv : Nat → Hp → Prop, Pv 0 (L2.upd H1 D (.lst [])) ∧ (∀ i H, i ≤ xs.length → Pv i H → SqT K H ad xs) ∧
    (∀ i x H, xs[i]? = some x → Pv i H → LcStep P w K mg base k N Vc Sc' Gc scope vs elt tg ifs σ D x H (Pv (i + 1))) ∧ ∀ H, Pv xs.length H → Q D H
variable {own : List (Str × Nat)}
theorem lcL_read {s : Shared} {v : V} {u : Value} {pins : List (Addr × Obj)} {H1 : Hp} (C : CxI P w K mg base k N Vz Sz G sc X) (q : LcL P w K mg base k N Vc Sc' Gc (relS scope sc) (own.map (·.2)) elt tg ifs σ v H1 fun D H => Q (.ref D) H) :
    ∃ a, v = .ref a ∧ (∃ xs, SqL X.K H1 a xs) ∧ ∀ D, H1 D = none → ∃ W : Nat → Nat → Hp → Prop, (∃ m, W 0 m (L2.upd H1 D (.lst []))) ∧ ∀ i m H, W i m H →
      ((Itl X.K a).stop i H ∧ Q (.ref D) H) ∨ ((Itl X.K a).go i H ∧ ∃ Nx : Hp → Prop, (∀ H', Nx H' → ∃ m', m' < m ∧ W (i + 1) m' H') ∧ ∀ x H', (Itl X.K a).yld i H x H' → LcStep P w K mg base k N Vc Sc' Gc (relS scope sc) (own.map (·.2)) elt tg ifs σ D x H' Nx) := by
  obtain ⟨ad, xs, rfl, hS, q⟩ := q
  rw [← C.eK] at hS
  refine ⟨ad, rfl, ⟨xs, hS⟩, fun D hD => ?_⟩
  obtain ⟨Pv, h0, hl, hs, hd⟩ := q D hD
  exact lc_list (K := X.K) (xs := xs) Pv h0 (fun i H hi hp => by rw [C.eK]; exact hl i H hi hp) hs hd
theorem lcT_read {s : Shared} {v : V} {u : Value} {pins : List (Addr × Obj)} {H1 : Hp} (C : CxI P w K mg base k N Vz Sz G sc X) (q : LcT P w K mg base k N Vc Sc' Gc (relS scope sc) (own.map (·.2)) elt tg ifs σ v H1 fun D H => Q (.ref D) H) :
    ∃ a, v = .ref a ∧ (∃ xs, SqT X.K H1 a xs) ∧ ∀ D, H1 D = none → ∃ W : Nat → Nat → Hp → Prop, (∃ m, W 0 m (L2.upd H1 D (.lst []))) ∧ ∀ i m H, W i m H →
      ((Itt X.K a).stop i H ∧ Q (.ref D) H) ∨ ((Itt X.K a).go i H ∧ ∃ Nx : Hp → Prop, (∀ H', Nx H' → ∃ m', m' < m ∧ W (i + 1) m' H') ∧ ∀ x H', (Itt X.K a).yld i H x H' → LcStep P w K mg base k N Vc Sc' Gc (relS scope sc) (own.map (·.2)) elt tg ifs σ D x H' Nx) := by
  obtain ⟨ad, xs, rfl, hS, q⟩ := q
  rw [← C.eK] at hS
  refine ⟨ad, rfl, ⟨xs, hS⟩, fun D hD => ?_⟩
  obtain ⟨Pv, h0, hl, hs, hd⟩ := q D hD
  exact lc_tup (K := X.K) (xs := xs) Pv h0 (fun i H hi hp => by rw [C.eK]; exact hl i H hi hp) hs hd
theorem wE_lcL (own : List (Str × Nat)) (Vc Sc' Gc : List Str) (C : CxI P w K mg base k N Vz Sz G sc X) (ob : blkC N sc scope own = true) (ok : namesOk Vc Sc' Gc (relS scope sc) = true) (hl : localsOk Sc' (relS scope sc) = true) (hk : scope.kind = .function)
    (hf : ∀ x, foldedSetIterable it X.env x = pure x) (q : wE X it σ H fun v H1 => LcL P w K mg base k N Vc Sc' Gc (relS scope sc) (own.map (·.2)) elt tg ifs σ v H1 fun D H => Q (.ref D) H) :
    wE X (.ListComp elt [⟨tg, it, ifs, 0⟩] scope pos) σ H Q := by
  refine wE.of (pe_lc C.calm (by rw [C.eN]; exact C.nd) (pi_list wE.pe) (blkOk_by (own := own) (by rw [C.eN, C.es]; exact ob)) (blk_pg C ok hl hk) (fun s H Ca cl fp => blk_pts C ok hl hk s H Ca cl fp ifs) (blk_pe C ok hl hk) hf) ?_
  show wE X it σ H _
  refine ⟨fun pins s I => thn (q.run pins s I) ?_⟩
  rintro u s1 ⟨v, H1, I1, r1, q1⟩
  exact ⟨v, H1, I1, r1, lcL_read (s := s1) (u := u) (pins := pins) C q1⟩
theorem wE_lcT (own : List (Str × Nat)) (Vc Sc' Gc : List Str) (C : CxI P w K mg base k N Vz Sz G sc X) (ob : blkC N sc scope own = true) (ok : namesOk Vc Sc' Gc (relS scope sc) = true) (hl : localsOk Sc' (relS scope sc) = true) (hk : scope.kind = .function)
    (hf : ∀ x, foldedSetIterable it X.env x = pure x) (q : wE X it σ H fun v H1 => LcT P w K mg base k N Vc Sc' Gc (relS scope sc) (own.map (·.2)) elt tg ifs σ v H1 fun D H => Q (.ref D) H) :
    wE X (.ListComp elt [⟨tg, it, ifs, 0⟩] scope pos) σ H Q := by
  refine wE.of (pe_lc C.calm (by rw [C.eN]; exact C.nd) (pi_tup wE.pe) (blkOk_by (own := own) (by rw [C.eN, C.es]; exact ob)) (blk_pg C ok hl hk) (fun s H Ca cl fp => blk_pts C ok hl hk s H Ca cl fp ifs) (blk_pe C ok hl hk) hf) ?_
  show wE X it σ H _
  refine ⟨fun pins s I => thn (q.run pins s I) ?_⟩
  rintro u s1 ⟨v, H1, I1, r1, q1⟩
  exact ⟨v, H1, I1, r1, lcT_read (s := s1) (u := u) (pins := pins) C q1⟩
/-- y = [..] on one line -/
theorem wS_lcT {y : Str} {py spos : Pos} (own : List (Str × Nat)) (Vc Sc' Gc : List Str) (C : CxI P w K mg base k N Vz Sz G sc X) (ob : blkC N sc scope own = true) (ok : namesOk Vc Sc' Gc (relS scope sc) = true) (hl : localsOk Sc' (relS scope sc) = true) (hk : scope.kind = .function)
    (hyN : y ∈ N) (hy : (sc.names.lookup y == some .local) = true) (hp : (py.line == pos.line) = true) (ha : (scope.names.any fun (n, k) => n == y && (k == .local || k == .cell)) = false)
    (hf : ∀ x, foldedSetIterable it X.env x = pure x) (q : wE X it σ H fun v H1 => LcT P w K mg base k N Vc Sc' Gc (relS scope sc) (own.map (·.2)) elt tg ifs σ v H1 fun Da H => Put N σ y (.ref Da) fun σ' => D.nx σ' H) :
    wS X (.Assign [.Name y py] (.ListComp elt [⟨tg, it, ifs, 0⟩] scope pos) spos) D σ H := by
  have hyl : X.env.scope.names.lookup y = some .local := by rw [C.es]; exact eq_of_beq hy
  have hin : ∃ i, N[i]? = some y ∧ ∀ (v : V) R, Put N σ y v R → R (σ.set i (some v)) := by
    obtain ⟨i, hi⟩ := List.getElem?_of_mem hyN
    refine ⟨i, hi, fun v R q => ?_⟩
    obtain ⟨σ', p, r⟩ := q
    obtain ⟨j, hj, rfl⟩ := p.ix
    rw [nodup_ix C.nd hi hj]
    exact r
  obtain ⟨i, hi, hput⟩ := hin
  refine wS.of (ps_setLc (i := i) C.calm (by rw [C.eN]; exact C.nd) (by rw [C.eN]; exact hi) hyl (sw_true (by rw [C.es]; exact C.fk) hyl hp ha) (pi_tup wE.pe) (blkOk_by (own := own) (by rw [C.eN, C.es]; exact ob)) (blk_pg C ok hl hk) (fun s H Ca cl fp => blk_pts C ok hl hk s H Ca cl fp ifs) (blk_pe C ok hl hk) hf) ?_
  show wE X it σ H _
  refine ⟨fun pins s I => thn (q.run pins s I) ?_⟩
  rintro u s1 ⟨v, H1, I1, r1, q1⟩
  refine ⟨v, H1, I1, r1, lcT_read (Q := fun x H => gName i x σ H D.nx) (s := s1) (u := u) (pins := pins) C ?_⟩
  obtain ⟨ad, xs, e, hS, q1⟩ := q1
  refine ⟨ad, xs, e, hS, fun Da hD => ?_⟩
  obtain ⟨Pv, h0, hl, hs, hd⟩ := q1 Da hD
  exact ⟨Pv, h0, hl, hs, fun H hp => hput _ _ (hd H hp)⟩
end
section
variable {P : Program} {w : World} {K : PySem.W.Frag} {mg : Str → Option Value} {base : Heap} {k : Nat} {N Vz Sz G : List Str} {sc : Scope} {X : Cx} {σ : L2.St} {H : Hp} {Q : VK}
/-- + of two tuples, none empty -/
theorem o_catT {a b : Addr} {xs ys : List V} (C : CxI P w K mg base k N Vz Sz G sc X) (h1 : SqT K H a xs) (h2 : SqT K H b ys) (hz : xs.length + ys.length ≤ sizeLine) (n1 : xs ≠ []) (n2 : ys ≠ []) (q : ∀ p H2, H p = none → Ex H H2 → H2 p = some (.tup (xs ++ ys)) → Q (.ref p) H2) :
    wO X (binaryOp .Add) (.ref a) (.ref b) H Q :=
  wO.of op_catA ⟨a, b, xs, ys, rfl, rfl, by rw [C.eK]; exact h1, by rw [C.eK]; exact h2, hz, fun z => absurd z n1, fun _ z => absurd z n2, fun _ _ p hp => q p _ hp (Ex.upd hp) upd_same⟩
/-- tuple(xs) of a list -/
theorem c_tupL {a : Addr} {xs : List V} (C : CxI P w K mg base k N Vz Sz G sc X) (h : SqL K H a xs) (q : ∀ p H2, H p = none → Ex H H2 → H2 p = some (.tup xs) → Q (.ref p) H2) : wC X (.type "tuple") [.ref a] H Q :=
  wC.of call_tuple_of ⟨a, xs, rfl, .inl ⟨by rw [C.eK]; exact h, fun p hp => q p _ hp (Ex.upd hp) upd_same⟩⟩
theorem putK_mem {κ : Type} [DecidableEq κ] {kvs : List (κ × V)} {k : κ} {v : V} {x : κ × V} (h : x ∈ putK kvs k v) : x = (k, v) ∨ x ∈ kvs := by
  unfold putK at h
  split at h
  · obtain ⟨y, hy, rfl⟩ := List.mem_map.mp h
    split
    · rename_i e; exact .inl (by rw [e])
    · exact .inr hy
  · rcases List.mem_append.mp h with h | h
    · exact .inr h
    · exact .inl (List.mem_singleton.mp h)
theorem putK_nodup {κ : Type} [DecidableEq κ] {kvs : List (κ × V)} {k : κ} {v : V} (h : (kvs.map (·.1)).Nodup) : ((putK kvs k v).map (·.1)).Nodup := by
  unfold putK
  split
  · have e : (kvs.map fun kv => if kv.1 = k then (kv.1, v) else kv).map (·.1) = kvs.map (·.1) := by
      rw [List.map_map]
      refine List.map_congr_left fun y _ => ?_
      show (if y.1 = k then (y.1, v) else y).1 = y.1
      split <;> rfl
    first | (rw [e]; exact h) | (simpa using h)
  · rename_i hn
    rw [List.map_append, List.nodup_append]
    refine ⟨h, by simp, fun a ha b hb => ?_⟩
    have eb : b = k := by simpa using hb
    rw [eb]
    rintro rfl
    obtain ⟨y, hy, ey⟩ := List.mem_map.mp ha
    exact hn (List.any_eq_true.mpr ⟨y, hy, by simpa using ey⟩)
end
theorem ex_paired {α β : Type} {R : α → β → Prop} : ∀ l : List α, (∀ x ∈ l, ∃ y, R x y) → ∃ ys, Paired R l ys
  | [], _ => ⟨[], .nil⟩
  | x :: l, h => by
    obtain ⟨y, hy⟩ := h x List.mem_cons_self
    obtain ⟨ys, hys⟩ := ex_paired l fun z hz => h z (List.mem_cons_of_mem _ hz)
    exact ⟨y :: ys, .cons hy hys⟩
section
variable {P : Program} {w : World} {K : PySem.W.Frag} {mg : Str → Option Value} {base : Heap} {k : Nat} {N Vc Sc' Gc : List Str} {scope : Scope} {c : Expr} {σ : L2.St} {H : Hp} {Q : Bool → Hp → Prop}
theorem blkT_nil (h : Q true H) : BlkT P w K mg base k N Vc Sc' Gc scope [] σ H Q := h
theorem blkT_one (h : ∀ X, CxI P w K mg base k N Vc Sc' Gc scope X → wT X c σ H Q) : BlkT P w K mg base k N Vc Sc' Gc scope [c] σ H Q := h
end
end Rp
namespace Rp
open PySem PySem.Spec PyProof.Rows L2
theorem eqv_ints : ∀ ns ms : List Int, PyData.eqvAll (ns.map PyData.int) (ms.map PyData.int) = decide (ns = ms)
  | [], [] => rfl
  | [], _ :: _ => rfl
  | _ :: _, [] => rfl
  | n :: ns, m :: ms => by
    show ((n == m) && PyData.eqvAll (ns.map PyData.int) (ms.map PyData.int)) = _
    rw [eqv_ints ns ms]
    by_cases h : n = m
    · subst h; simp
    · simp [h]
theorem lay_ints : ∀ ns : List Int, PyData.canLayAll0 (ns.map PyData.int) = true
  | [] => rfl
  | n :: ns => by show (true && PyData.canLayAll0 (ns.map PyData.int)) = true; rw [lay_ints ns]; rfl
theorem dep_ints : ∀ ns : List Int, PyData.depthAll (ns.map PyData.int) ≤ 1
  | [] => by decide
  | n :: ns => by
    have h := dep_ints ns
    show max (PyData.depth (.int n)) (PyData.depthAll (ns.map PyData.int)) ≤ 1
    have : PyData.depth (.int n) ≤ 1 := by first | exact Nat.le_refl _ | exact Nat.zero_le _ | simp [PyData.depth]
    omega
theorem shp_ints (ns : List Int) : SeqAt.shaped (.tuple (ns.map PyData.int)) = true := by
  refine Bool.and_eq_true_iff.mpr ⟨lay_ints ns, decide_eq_true ?_⟩
  have h := dep_ints ns
  have e : PyData.depth (.tuple (ns.map PyData.int)) ≤ PyData.depthAll (ns.map PyData.int) + 1 := by first | exact Nat.le_refl _ | (show 1 + _ ≤ _ + 1; omega) | simp [PyData.depth]
  omega
theorem shp_rows : ∀ nss : List (List Int), PyData.canLayAll0 (nss.map fun ns => PyData.tuple (ns.map PyData.int)) = true ∧ PyData.depthAll (nss.map fun ns => PyData.tuple (ns.map PyData.int)) ≤ 2
  | [] => ⟨rfl, by decide⟩
  | ns :: nss => by
    obtain ⟨h1, h2⟩ := shp_rows nss
    refine ⟨?_, ?_⟩
    · show (PyData.canLayAll0 (ns.map PyData.int) && _) = true
      rw [lay_ints ns, h1]
      rfl
    · have h := dep_ints ns
      have e : PyData.depth (.tuple (ns.map PyData.int)) ≤ PyData.depthAll (ns.map PyData.int) + 1 := by first | exact Nat.le_refl _ | (show 1 + _ ≤ _ + 1; omega) | simp [PyData.depth]
      show max (PyData.depth (.tuple (ns.map PyData.int))) _ ≤ 2
      omega
theorem shp_list (nss : List (List Int)) : SeqAt.shaped (.list (nss.map fun ns => PyData.tuple (ns.map PyData.int))) = true := by
  obtain ⟨h1, h2⟩ := shp_rows nss
  refine Bool.and_eq_true_iff.mpr ⟨h1, decide_eq_true ?_⟩
  have e : PyData.depth (.list (nss.map fun ns => PyData.tuple (ns.map PyData.int))) ≤ PyData.depthAll (nss.map fun ns => PyData.tuple (ns.map PyData.int)) + 1 := by first | exact Nat.le_refl _ | (show 1 + _ ≤ _ + 1; omega) | simp [PyData.depth]
  omega
section
variable {P : Program} {w : World} {K : PySem.W.Frag} {mg : Str → Option Value} {base : Heap} {k : Nat} {N Vz Sz G : List Str} {sc : Scope} {X : Cx} {σ : L2.St} {H : Hp} {Q : VK}
theorem dp_ints {a : Addr} {ns : List Int} (h : SqT K H a (ns.map V.int)) : Dp K H (.ref a) (.tuple (ns.map PyData.int)) := .tup h (dpa_ints ns)
theorem o_eqTI {a b : Addr} {ns ms : List Int} (C : CxI P w K mg base k N Vz Sz G sc X) (h1 : SqT K H a (ns.map V.int)) (h2 : SqT K H b (ms.map V.int)) (q : Q (.bl (decide (ns = ms))) H) : wO X (compareOp .Eq) (.ref a) (.ref b) H Q :=
  wO.of (op_eqD C.room.units) ⟨_, _, by rw [C.eK]; exact dp_ints h1, by rw [C.eK]; exact dp_ints h2, shp_ints ns, shp_ints ms, by
    show Q (.bl (PyData.eqvAll (ns.map PyData.int) (ms.map PyData.int))) H
    rw [eqv_ints]; exact q⟩
theorem o_neTI {a b : Addr} {ns ms : List Int} (C : CxI P w K mg base k N Vz Sz G sc X) (h1 : SqT K H a (ns.map V.int)) (h2 : SqT K H b (ms.map V.int)) (q : Q (.bl (!decide (ns = ms))) H) : wO X (compareOp .NotEq) (.ref a) (.ref b) H Q :=
  wO.of (op_neD C.room.units) ⟨_, _, by rw [C.eK]; exact dp_ints h1, by rw [C.eK]; exact dp_ints h2, shp_ints ns, shp_ints ms, by
    show Q (.bl (!PyData.eqvAll (ns.map PyData.int) (ms.map PyData.int))) H
    rw [eqv_ints]; exact q⟩
/-- xs != [] of a list of tuples of ints -/
theorem dpa_rows : ∀ {qs : List Addr} {nss : List (List Int)}, Paired (fun q ns => SqT K H q (ns.map V.int)) qs nss → DpAll K H (qs.map V.ref) (nss.map fun ns => PyData.tuple (ns.map PyData.int))
  | _, _, .nil => .nil
  | _, _, .cons z t => .cons (dp_ints z) (dpa_rows t)
theorem o_neNil {a b : Addr} {qs : List Addr} {nss : List (List Int)} (C : CxI P w K mg base k N Vz Sz G sc X) (h1 : SqL K H a (qs.map V.ref)) (pr : Paired (fun q ns => SqT K H q (ns.map V.int)) qs nss) (h2 : SqL K H b []) (q : Q (.bl (decide (nss ≠ []))) H) :
    wO X (compareOp .NotEq) (.ref a) (.ref b) H Q :=
  wO.of (op_neD C.room.units) ⟨_, _, by rw [C.eK]; exact .lst h1 (dpa_rows pr), by rw [C.eK]; exact .lst h2 .nil, shp_list nss, by decide, by
    have e : (!PyData.eqv (.list (nss.map fun ns => PyData.tuple (ns.map PyData.int))) (.list [])) = decide (nss ≠ []) := by
      cases nss with
      | nil => rfl
      | cons n ns => rfl
    rw [e]; exact q⟩
theorem o_catL {a b : Addr} {xs ys : List V} (h1 : H a = some (.lst xs)) (h2 : H b = some (.lst ys)) (hz : xs.length + ys.length ≤ sizeLine) (q : ∀ p H2, H p = none → Ex H H2 → H2 p = some (.lst (xs ++ ys)) → Q (.ref p) H2) : wO X (binaryOp .Add) (.ref a) (.ref b) H Q :=
  wO.of op_cat ⟨a, b, xs, ys, rfl, rfl, h1, h2, hz, fun p hp => q p _ hp (Ex.upd hp) upd_same⟩
/-- + of two tuples, the right one not empty -/
theorem o_catT0 {a b : Addr} {xs ys : List V} (C : CxI P w K mg base k N Vz Sz G sc X) (h1 : SqT K H a xs) (h2 : SqT K H b ys) (hz : xs.length + ys.length ≤ sizeLine) (n2 : ys ≠ []) (q : ∀ p H2, Ex H H2 → SqT K H2 p (xs ++ ys) → Q (.ref p) H2) :
    wO X (binaryOp .Add) (.ref a) (.ref b) H Q :=
  wO.of op_catA ⟨a, b, xs, ys, rfl, rfl, by rw [C.eK]; exact h1, by rw [C.eK]; exact h2, hz, fun z => q b H (Ex.refl H) (by rw [z]; exact h2), fun _ z => absurd z n2, fun _ _ p hp => q p _ (Ex.upd hp) (SqT.of upd_same)⟩
theorem c_minL {a : Addr} {ns : List Int} (C : CxI P w K mg base k N Vz Sz G sc X) (h : SqL K H a (ns.map V.int)) (h0 : 0 < ns.length) (q : ∀ m, m ∈ ns → (∀ y ∈ ns, m ≤ y) → Q (.int m) H) : wC X (.builtin "min") [.ref a] H Q :=
  wC.of (cr_min C.calm) ⟨a, ns, rfl, by rw [C.eK]; exact h, h0, q⟩
end
section
variable {P : Program} {w : World} {K : PySem.W.Frag} {mg : Str → Option Value} {base : Heap} {k : Nat} {N Vz Sz G : List Str} {sc : Scope} {X : Cx} {σ : L2.St} {H : Hp} {D : Ends} {tg a b c : Expr} {sts : List Stmt} {p1 p2 pos : Pos}
theorem rg_step {d : Int} (h0 : 0 ≤ d) (h1 : d < 4) : ∃ n : Nat, RgC 0 60 (1 + d) n ∧ ∀ i : Nat, i < n → 0 ≤ (0 : Int) + (i : Nat) * (1 + d) ∧ (0 : Int) + (i : Nat) * (1 + d) < 60 := by
  have : d = 0 ∨ d = 1 ∨ d = 2 ∨ d = 3 := by omega
  rcases this with rfl | rfl | rfl | rfl
  · exact ⟨60, ⟨by decide, by decide, by decide +kernel, by decide +kernel⟩, fun i hi => by omega⟩
  · exact ⟨30, ⟨by decide, by decide, by decide +kernel, by decide +kernel⟩, fun i hi => by omega⟩
  · exact ⟨20, ⟨by decide, by decide, by decide +kernel, by decide +kernel⟩, fun i hi => by omega⟩
  · exact ⟨15, ⟨by decide, by decide, by decide +kernel, by decide +kernel⟩, fun i hi => by omega⟩
def Rg3Q (vs : List V) (R : Int → Int → Nat → Prop) : Prop := ∃ i j c n, vs = [.int i, .int j, .int c] ∧ RgC i j c n ∧ R i c n
theorem wS_range3 (C : CxI P w K mg base k N Vz Sz G sc X) (hm : mg "range" = none) (hx : ("range" : Str) ∈ G) (hs : starEach [a, b, c] X.env = (false, eval a X.env) :: starEach [b, c] X.env) (hpl : (backTo p2 (starEach [b, c] X.env)).any (·.1) = false)
    (q : wA X [a, b, c] σ H fun vs H1 => Rg3Q vs fun lo st n => ∃ Pv : Nat → L2.St → Hp → Prop, Pv 0 σ H1 ∧ (∀ i σ H, i < n → Pv i σ H → wG X tg (.int (lo + (i : Nat) * st)) σ H fun σ2 H2 => wB X sts { D with nx := Pv (i + 1), ct := Pv (i + 1), bk := D.nx } σ2 H2) ∧ ∀ σ H, Pv n σ H → D.nx σ H) :
    wS X (.For tg (.Call (.Name "range" p1) [a, b, c] [] p2) sts [] pos) D σ H := by
  obtain ⟨l, _, _⟩ := C.glo hx
  refine wS.of (ps_for C.po C.calm (pi_range3 l (by rw [C.em]; exact hm) wA.pa hs hpl) wG.pg wB.pss (fun _ => rfl)) ?_
  show wA X [a, b, c] σ H _
  refine ⟨fun pos pins s I => thn (q.run pos pins s I) ?_⟩
  rintro u s1 ⟨vs, H1, I1, r1, i, j, cc, n, e, hr, Pv, h0, hs, hd⟩
  exact ⟨vs, H1, I1, r1, i, j, cc, n, e, hr, for_rangeC (lo := i) (c := cc) (n := n) Pv h0 hs hd⟩
end
end Rp
namespace Rp
open PySem PySem.Spec PyProof.Rows L2
/-! ### comparisons by an own method -/
/-- what the model calls the type of what stands for y -/
def TyV (X : Cx) (y : V) (H : Hp) (tb : Value) : Prop := ∀ (pins : List (Addr × Obj)) (σ : L2.St) (s : Shared) (u : Value), Inv X pins σ H s → RelV y u → PySem.W.Looks (model X.prog X.w) s.heap (typeOf u) tb
/-- a class's own method for a mark (two places) -/
structure Mo (P : Program) (w : World) (K : PySem.W.Frag) (mg : Str → Option Value) (base : Heap) (k : Nat) (C : Addr) (m : Str) (sp : Sp) : Prop where
  ex : ∃ f fd ps, FnOk P w K mg base CX0 k f fd ps sp ∧ PySem.W.findIn K (.ref C) m = some (some (.ref f)) ∧ PySem.W.isFn K (.ref f) = true ∧ Binds K fd ps []
section
variable {P : Program} {w : World} {K : PySem.W.Frag} {mg : Str → Option Value} {base : Heap} {k j : Nat} {N Vz Sz G : List Str} {sc : Scope} {X : Cx} {H : Hp} {Q : VK} {sp : Sp} {y : V} {tb : Value} {a c dx : Addr} {fs : List (Str × V)}
theorem ty_ins {b dy : Addr} {gs : List (Str × V)} {D : Addr} (h : H b = some (.ins D dy gs)) : TyV X (.ref b) H (.ref D) := fun pins σ s u I r => by
  obtain rfl : u = Value.ref b := r
  obtain ⟨mB, J, _⟩ := ins_get I.hok h
  obtain ⟨od, J, _⟩ := J.look
  exact J.type
theorem ty_int {n : Int} : TyV X (.int n) H (.type "int") := fun pins σ s u I r => by
  obtain ⟨t, rfl⟩ := r
  exact .now
theorem ty_str {z : Str} : TyV X (.str z) H (.type "str") := fun pins σ s u I r => by
  obtain ⟨t, rfl⟩ := r
  exact .now
theorem ty_non : TyV X .non H (.type "NoneType") := fun pins σ s u I r => by
  obtain rfl : u = Value.none := r
  exact .now
theorem ty_bl {b : Bool} : TyV X (.bl b) H (.type "bool") := fun pins σ s u I r => by
  obtain rfl : u = Value.bool b := r
  exact .now
theorem ty_at {p : Addr} {o : Obj} {T : Value} {s : Shared} {M : Model} (h : s.heap.get? p = some o) (e : o.cls = T) : PySem.W.Looks M s.heap (typeOf (.ref p)) T := fun A R E s' k z => wpAny_typeOf_ref (k _ _ h) (by rw [e]; exact z)
theorem ty_lst {p : Addr} {xs : List V} (h : H p = some (.lst xs)) : TyV X (.ref p) H (.type "list") := fun pins σ s u I r => by
  obtain rfl : u = Value.ref p := r
  obtain ⟨_, its, n, _, e⟩ := (show ObjOk X.prog X.w H s.heap p (.lst xs) from I.hok p _ h)
  exact ty_at e rfl
theorem ty_tup {p : Addr} {xs : List V} (h : H p = some (.tup xs)) : TyV X (.ref p) H (.type "tuple") := fun pins σ s u I r => by
  obtain rfl : u = Value.ref p := r
  obtain ⟨_, its, _, o, ho, hc, _⟩ := (show ObjOk X.prog X.w H s.heap p (.tup xs) from I.hok p _ h)
  exact ty_at ho hc
theorem o_own {op : CmpOp} (C : CxI P w K mg base k N Vz Sz G sc X) (M : Mo P w K mg base j c (cmpInfo op).2.1 sp) (hj : j ≤ k) (h : H a = some (.ins c dx fs)) (ty : TyV X y H tb) (nf : PySem.W.notFirst K c tb = true)
    (hop : ∀ (v u : Value) (Q : Value → Shared → Prop) (E : Value → Shared → Prop) (s : Shared), wpAny (model X.prog X.w) X.A (richCompare op v u) Q E s → wpAny (model X.prog X.w) X.A (compareOp op v u) Q E s)
    (q : sp [.ref a, y] H (fun v H' => ∃ b : Bool, v = .bl b ∧ Q (.bl b) H') E0) : wO X (compareOp op) (.ref a) y H Q := by
  obtain ⟨f, fd, ps, Fk, hs, hf, hb⟩ := M.ex
  obtain ⟨rfl, rfl, rfl, rfl, rfl, _, _, hr, _, _, _, _, _⟩ := C
  refine ⟨fun pins s σ v u I rx ry => hop _ _ _ _ _ ?_⟩
  obtain rfl : v = Value.ref a := rx
  obtain ⟨mA, J, _⟩ := ins_get I.hok h
  obtain ⟨od, J, _⟩ := J.look
  obtain ⟨m, hF⟩ := I.fr
  have hr' := hr.mono hj
  refine PySem.W.cmp_K (op := op) (tb := tb) hr'.units0 hF I.ok.mod.kin J (ty pins σ s u I ry) nf hs hf ?_
  have hl := Fk.len _ _ _ _ q
  have r2 : Vals [V.ref a, y] [Value.ref a, u] := .cons rfl (.cons ry .nil)
  refine wpAny_call (codeAny_mono (Fk.run X.A X.stack s H ⟨[.ref a, u], []⟩ [.ref a, u] [.ref a, y] _ E0 hr' I.env0 (by
    have z := hb s [.ref a, u] I.kIn (by simpa using hl)
    simpa using z) r2 q) fun r s' hq => ?_)
  cases r with
  | error e => exact pass0 pins σ H s e s' I hq
  | ok fl =>
    cases fl with
    | ret w =>
      obtain ⟨z, H', I', rz, b, ez, q'⟩ := I.after hq
      subst ez
      cases rz
      exact ⟨.bl b, H', I', rfl, q'⟩
    | next => exact False.elim hq
    | brk => exact False.elim hq
    | cont => exact False.elim hq
/-- one == y by the own __eq__ -/
theorem o_eqOwn (C : CxI P w K mg base k N Vz Sz G sc X) (M : Mo P w K mg base j c "__eq__" sp) (hj : j ≤ k) (h : H a = some (.ins c dx fs)) (ty : TyV X y H tb) (nf : PySem.W.notFirst K c tb = true)
    (q : sp [.ref a, y] H (fun v H' => ∃ b : Bool, v = .bl b ∧ Q (.bl b) H') E0) : wO X (compareOp .Eq) (.ref a) y H Q :=
  o_own (op := .Eq) C M hj h ty nf (fun _ _ _ _ _ h => h) q
end
end Rp
namespace Rp
open PySem PySem.Spec PyProof.Rows L2
/-! ### texts of several parts -/
structure wJ (X : Cx) (es : List Expr) (acc : Str) (σ : L2.St) (H : Hp) (Q : Str → Hp → Prop) : Prop where
  h : tJs (es.map fun e => wE X e) acc σ H Q
section
variable {P : Program} {w : World} {K : PySem.W.Frag} {mg : Str → Option Value} {base : Heap} {k j : Nat} {N Vz Sz G : List Str} {sc : Scope} {X : Cx} {σ : L2.St} {H : Hp} {Q : VK} {QJ : Str → Hp → Prop} {e o v1 v2 : Expr} {es rest : List Expr} {acc : Str} {pos apos : Pos}
theorem pj_all : ∀ es : List Expr, PJ X es (es.map fun e => wE X e)
  | [] => .nil
  | _ :: es => .cons wE.pe (pj_all es)
theorem wE_joined (q : wJ X (v1 :: v2 :: rest) Str.empty σ H fun out H1 => Q (.str out) H1) : wE X (.JoinedStr (v1 :: v2 :: rest) pos) σ H Q := wE.of (pe_joined (pj_all _)) q.h
theorem wE_joined1 (q : wE X e σ H Q) : wE X (.JoinedStr [e] pos) σ H Q := wE.of (pe_joined1 wE.pe) q
def JnQ (x : V) (acc : Str) (R : Str → Prop) : Prop := ∃ y : Str, x = .str y ∧ (acc ++ y).length ≤ sizeLine ∧ R (acc ++ y)
theorem wJ_cons (q : wE X e σ H fun x H1 => JnQ x acc fun a2 => wJ X es a2 σ H1 QJ) : wJ X (e :: es) acc σ H QJ :=
  ⟨⟨fun pins s I => thn (q.run pins s I) fun u s1 ⟨x, H1, I1, r1, y, ex, hy, z⟩ => ⟨x, H1, I1, r1, y, ex, hy, z.h⟩⟩⟩
theorem wJ_nil (q : QJ acc H) : wJ X [] acc σ H QJ := ⟨q⟩
theorem jn_i {y : Str} {R : Str → Prop} (h : (acc ++ y).length ≤ sizeLine) (q : R (acc ++ y)) : JnQ (.str y) acc R := ⟨y, rfl, h, q⟩
def FmQ (x : V) (H : Hp) (Q : VK) : Prop := (∃ y : Str, x = .str y ∧ y.length ≤ sizeLine ∧ Q (.str y) H) ∨ ∃ i : Int, x = .int i ∧ i.natAbs.log2 < 1920 ∧ Q (.str (toString i)) H
theorem wE_fmt (q : wE X e σ H fun x H1 => FmQ x H1 Q) : wE X (.FormattedValue e (-1) none pos) σ H Q := wE.of (pe_fmt wE.pe) q
theorem fm_s {y : Str} (h : y.length ≤ sizeLine) (q : Q (.str y) H) : FmQ (.str y) H Q := .inl ⟨y, rfl, h, q⟩
theorem fm_i {i : Int} (h : i.natAbs.log2 < 1920) (q : Q (.str (toString i)) H) : FmQ (.int i) H Q := .inr ⟨i, rfl, h, q⟩
theorem c_reprI {i : Int} (h : i.natAbs.log2 < 1920) (q : Q (.str (toString i)) H) : wC X (.builtin "repr") [.int i] H Q := wC.of SkE.call_repr_int ⟨i, rfl, h, q⟩
theorem c_reprS {y : Str} (h : (reprText y).length ≤ sizeLine) (q : Q (.str (reprText y)) H) : wC X (.builtin "repr") [.str y] H Q := by
  refine ⟨fun pins s σ us I r => ?_⟩
  obtain ⟨u, rfl, t, rfl⟩ := Vals.one r
  exact PySem.P.repr_of_str ⟨.str (reprText y), H, I.tok _, ⟨_, rfl⟩, q⟩ h
theorem c_strI {i : Int} (h : i.natAbs.log2 < 1920) (q : Q (.str (toString i)) H) : wC X (.type "str") [.int i] H Q := wC.of call_str_int ⟨i, rfl, h, q⟩
/-- s.join(a list of texts) -/
def JoQ (x : V) (R : Str → Prop) : Prop := ∃ a, x = .str a ∧ R a
theorem wE_join (hs : starEach [e] X.env = [(false, eval e X.env)]) (hbase : attributeBase o "join" X.env (eval o X.env) = eval o X.env) (hline : (apos.endLine == pos.line) = true)
    (q : wE X o σ H fun x H1 => JoQ x fun a => wE X e σ H1 fun y H2 => ∃ p, ∃ ys : List Str, y = .ref p ∧ (SqL X.K H2 p (ys.map V.str) ∨ SqT X.K H2 p (ys.map V.str)) ∧ (ys.map (·.length)).sum + ys.length * a.length ≤ 16777216 ∧ Q (.str (Txt.join a ys)) H2) :
    wE X (.Call (.Attribute o "join" apos) [e] [] pos) σ H Q := by
  refine wE.of (pe_join wE.pe wE.pe hs hbase hline) ?_
  refine ⟨fun pins s I => thn (q.run pins s I) fun u s1 ⟨x, H1, I1, r1, a, ex, z⟩ => ⟨x, H1, I1, r1, ⟨a, ex⟩, ?_⟩⟩
  refine ⟨fun pins2 s2 I2 => thn (z.run pins2 s2 I2) fun u2 s3 ⟨y, H2, I3, r2, p, ys, ey, h1, h2, h3⟩ => ⟨y, H2, I3, r2, a, p, ys, ex, by rw [ey], h1, h2, h3⟩⟩
/-- xs.append(e) -/
theorem wE_append (hbase : attributeBase o "append" X.env (eval o X.env) = eval o X.env)
    (hfew : ((backTo pos (starEach [e] X.env)).all (fun x => !x.1) && (backToKw pos (keywordEach [] X.env)).all (fun x => x.1.isSome) && decide ([e].length + ([] : List Keyword).length + (if ([] : List Keyword).isEmpty then 0 else 1) < 30)) = true)
    (hline : (apos.endLine == pos.line) = true) (hs : starEach [e] X.env = (false, eval e X.env) :: starEach [] X.env) (hplain : (backTo pos (starEach [] X.env)).any (·.1) = false)
    (q : wE X o σ H fun x H1 => ∃ l xs, x = .ref l ∧ H1 l = some (.lst xs) ∧ wE X e σ H1 fun y H2 => H2 l = some (.lst xs) ∧ xs.length < sizeLine ∧ ∀ H3, Exb l H2 H3 → H3 l = some (.lst (xs ++ [y])) → Q .non H3) :
    wE X (.Call (.Attribute o "append" apos) [e] [] pos) σ H Q := by
  refine wE.of (pe_bm (T := "list") F.plainAttrs_list F.slot_list_append F.type_list_append mt_append wE.pe wA.pa hbase hfew hline hs hplain) ?_
  refine ⟨fun pins s I => thn (q.run pins s I) fun u s1 ⟨x, H1, I1, r1, l, xs, ex, hl, z⟩ => ⟨x, H1, I1, r1, ?_, ?_⟩⟩
  · subst ex
    exact .inl ⟨rfl, _, SqL.of hl⟩
  · refine wA_cons hs ?_
    refine ⟨fun pins2 s2 I2 => thn (z.run pins2 s2 I2) fun u2 s3 ⟨y, H2, I3, r2, h1, h2, h3⟩ => ⟨y, H2, I3, r2, ?_⟩⟩
    exact wA_nil ⟨l, xs, y, ex, rfl, h1, h2, h3 _ Exb.upd upd_same⟩
end
end Rp
namespace Rp
open PySem PySem.Spec PyProof.Rows L2
/-! ### != by an own __eq__ -/
section
variable {M : Model} {prog : Program} {w : World} {A : Around} {E : Value → Shared → Prop} {s : Shared} {K : PySem.W.Frag} {x C f : Addr} {u tb : Value} {ox : Obj} {od : Option Obj}
theorem ne_entry {Q : Fin → Shared → Prop} (hu : A.units < cLine) (X : K.In s.heap) (I : PySem.W.InstAt s.heap x ox C od) (hs : PySem.W.findIn K (.ref C) "__eq__" = some (some (.ref f))) (hf : PySem.W.isFn K (.ref f) = true)
    (hc : wpAny M A (call (.ref f) [.ref x, u]) (fun v s' => ∃ b : Bool, v = .bool b ∧ Q (.done (.ret (.bool (!b)))) s') E s) : wpAny M A (Builtin.«object.__ne__» ⟨[.ref x, u], []⟩) Q E s := by
  unfold Builtin.«object.__ne__»
  repeat (first
    | with_reducible refine wpAny_cRoomFor hu ?_
    | (refine wpAny_bind (m := callSpecialIfBound? (.ref x) (Str.ofString "__eq__") [u]) (PySem.W.ifBound_K X I hs hf (wpAny_mono hc (fun v s' z => ?_) fun _ _ e => e)); obtain ⟨b, rfl, z⟩ := z)
    | with_reducible refine wpAny_truthy_bool ?_
    | wp_step)
  all_goals exact z
theorem ne_call {Q : Value → Shared → Prop} (hu : A.in1.units < cLine) (X : K.In s.heap) (I : PySem.W.InstAt s.heap x ox C od) (hm : PySem.W.mroIn K C (.type "object") = some true) (hs : PySem.W.findIn K (.ref C) "__eq__" = some (some (.ref f)))
    (hf : PySem.W.isFn K (.ref f) = true) (hc : wpAny (model prog w) A.in1 (call (.ref f) [.ref x, u]) (fun v s' => ∃ b : Bool, v = .bool b ∧ Q (.bool (!b)) s') E s) : wpAny (model prog w) A (call (.builtin "object.__ne__") [.ref x, u]) Q E s :=
  wpAny_call (codeAny_call_builtin F.cmp_object.ne.plain F.cmpEntry_ne (PySem.W.check_slot F.cmpKind_ne F.cmpSplit_ne (I.type.andThen (PySem.W.looks_mroIn X hm)) (F.cmpArgs_ne _ _) (ne_entry hu X I hs hf hc)))
theorem ne_bound {args : List Value} {Q : Option Value → Shared → Prop} (X : K.In s.heap) (I : PySem.W.InstAt s.heap x ox C od) (hs : PySem.W.findIn K (.ref C) "__ne__" = some (some (.builtin "object.__ne__")))
    (h : wpAny M A (call (.builtin "object.__ne__") (.ref x :: args)) (fun v => Q (some v)) E s) : wpAny M A (callSpecialIfBound? (.ref x) "__ne__" args) Q E s := by
  simp only [callSpecialIfBound?, bindSpecialIfBound?]
  refine wpAny_holding (wpAny_bind (wpAny_bind (wpAny_bind (I.type.here ((PySem.W.looks_findIn X hs).here ?_)))))
  refine wpAny_bind (wpAny_askSetting (wpAny_ite ?_))
  have last : wpAny M A (call (.builtin "object.__ne__") ([.ref x] ++ args) >>= fun v => pure (some v)) Q E s := wpAny_bind (wpAny_mono h (fun v s' q => wpAny_pure q) fun _ _ q => q)
  split
  · exact wpAny_bind (wpAny_of_eq (F.cmp_object.ne.bind _) (wpAny_pure (by exact last)))
  · exact wpAny_tryCatch (wpAny_bind (wpAny_of_eq (F.cmp_object.ne.bind _) (wpAny_pure (by exact last))))
theorem ne_rich {Q : Value → Shared → Prop} (hu : A.units + 1 < cLine) (X : K.In s.heap) (I : PySem.W.InstAt s.heap x ox C od) (hb : PySem.W.Looks (model prog w) s.heap (typeOf u) tb) (hn : PySem.W.notFirst K C tb = true)
    (hm : PySem.W.mroIn K C (.type "object") = some true) (hne : PySem.W.findIn K (.ref C) "__ne__" = some (some (.builtin "object.__ne__"))) (hs : PySem.W.findIn K (.ref C) "__eq__" = some (some (.ref f))) (hf : PySem.W.isFn K (.ref f) = true)
    (hc : wpAny (model prog w) A.in1 (call (.ref f) [.ref x, u]) (fun v s' => ∃ b : Bool, v = .bool b ∧ Q (.bool (!b)) s') E s) : wpAny (model prog w) A (richCompare .NotEq (.ref x) u) Q E s := by
  have one : wpAny (model prog w) A (tryCompare (.ref x) "__ne__" u) (fun r s' => ∃ b : Bool, r = some (.bool (!b)) ∧ Q (.bool (!b)) s') E s := by
    unfold tryCompare
    refine wpAny_bind (ne_bound X I hne (ne_call (show A.in1.units < cLine from hu) X I hm hs hf (wpAny_mono hc (fun v s' z => ?_) fun _ _ e => e)))
    obtain ⟨b, e, z⟩ := z
    exact ⟨b, e, wpAny_pure ⟨b, rfl, z⟩⟩
  unfold richCompare
  simp only [oneThing_ref]
  refine wpAny_holding (wpAny_bind (wpAny_cRoomFor (Nat.lt_of_succ_lt hu) ?_))
  rw [cmpInfo_NotEq]
  dsimp only
  refine wpAny_bind (I.type.here (wpAny_bind (hb.here ?_)))
  split
  · rename_i q
    have e : PySem.W.subIn K tb (.ref C) = some false := by
      rcases Bool.or_eq_true_iff.mp hn with e | e
      · rw [beq_iff_eq.mp e] at q
        simp at q
      · exact beq_iff_eq.mp e
    refine wpAny_bind ((PySem.W.looks_subIn X e).here ?_)
    simp only [Bool.false_eq_true, if_false]
    refine wpAny_bind (wpAny_mono one (fun r s' z => ?_) fun _ _ e => e)
    obtain ⟨b, rfl, hq⟩ := z
    exact wpAny_pure hq
  · refine wpAny_bind (wpAny_pure ?_)
    simp only [Bool.false_eq_true, if_false]
    refine wpAny_bind (wpAny_mono one (fun r s' z => ?_) fun _ _ e => e)
    obtain ⟨b, rfl, hq⟩ := z
    exact wpAny_pure hq
end
section
variable {P : Program} {w : World} {K : PySem.W.Frag} {mg : Str → Option Value} {base : Heap} {k j : Nat} {N Vz Sz G : List Str} {sc : Scope} {X : Cx} {H : Hp} {Q : VK} {sp : Sp} {y : V} {tb : Value} {a c dx : Addr} {fs : List (Str × V)}
/-- one != y by the own __eq__ -/
theorem o_neOwn (C : CxI P w K mg base k N Vz Sz G sc X) (M : Mo P w K mg base j c "__eq__" sp) (hj : j + 1 ≤ k) (hm : PySem.W.mroIn K c (.type "object") = some true) (hne : PySem.W.findIn K (.ref c) "__ne__" = some (some (.builtin "object.__ne__")))
    (h : H a = some (.ins c dx fs)) (ty : TyV X y H tb) (nf : PySem.W.notFirst K c tb = true) (q : sp [.ref a, y] H (fun v H' => ∃ b : Bool, v = .bl b ∧ Q (.bl (!b)) H') E0) : wO X (compareOp .NotEq) (.ref a) y H Q := by
  obtain ⟨f, fd, ps, Fk, hs, hf, hb⟩ := M.ex
  obtain ⟨rfl, rfl, rfl, rfl, rfl, _, _, hr, _, _, _, _, _⟩ := C
  refine ⟨fun pins s σ v u I rx ry => ?_⟩
  obtain rfl : v = Value.ref a := rx
  obtain ⟨mA, J, _⟩ := ins_get I.hok h
  obtain ⟨od, J, _⟩ := J.look
  have hr' : Room j X.A.in1 := Room.in1 (hr.mono hj)
  show wpAny (model X.prog X.w) X.A (richCompare .NotEq (.ref a) u) (EP X pins σ Q) X.xe s
  refine ne_rich (tb := tb) hr'.units0 I.kIn J (ty pins σ s u I ry) nf hm hne hs hf ?_
  have hl := Fk.len _ _ _ _ q
  have r2 : Vals [V.ref a, y] [Value.ref a, u] := .cons rfl (.cons ry .nil)
  have e0 : Env0 X.prog X.w X.K X.mg X.base X.A.in1 X.stack s H := by
    have e := I.env0
    exact ⟨e.frames, e.mod, e.bs, e.bsz, e.funs, e.frf, e.hok, e.bare⟩
  refine wpAny_call (codeAny_mono (Fk.run X.A.in1 X.stack s H ⟨[.ref a, u], []⟩ [.ref a, u] [.ref a, y] _ E0 hr' e0 (by
    have z := hb s [.ref a, u] I.kIn (by simpa using hl)
    simpa using z) r2 q) fun r s' hq => ?_)
  cases r with
  | error e => exact pass0 pins σ H s e s' I hq
  | ok fl =>
    cases fl with
    | ret w =>
      obtain ⟨z, H', I', rz, b, ez, q'⟩ := I.after hq
      subst ez
      cases rz
      exact ⟨b, rfl, .bl (!b), H', I', rfl, q'⟩
    | next => exact False.elim hq
    | brk => exact False.elim hq
    | cont => exact False.elim hq
end
end Rp
namespace Rp
open PySem PySem.Spec PyProof.Rows L2
/-! ### thing == one, where thing is of a built-in type: one's own __eq__ is asked second -/
section
variable {prog : Program} {w : World} {A : Around} {E : Value → Shared → Prop} {s : Shared} {K : PySem.W.Frag} {x C f : Addr} {u : Value} {T : String} {ox : Obj} {od : Option Obj}
theorem rc_back {Q : Value → Shared → Prop} (hu : A.units < cLine) (X : K.In s.heap) (I : PySem.W.InstAt s.heap x ox C od) (hT : s.TypeIs u T) (hsub : PySem.W.subIn K (.ref C) (.type T) = some false) (hone : oneThing? .Eq u (.ref x) = none)
    (dec : ∀ E' : Value → Shared → Prop, wpAny (model prog w) A (tryCompare u "__eq__" (.ref x)) (fun r s' => r = none ∧ s' = s) E' s) (hs : PySem.W.findIn K (.ref C) "__eq__" = some (some (.ref f))) (hf : PySem.W.isFn K (.ref f) = true)
    (hc : wpAny (model prog w) A (call (.ref f) [.ref x, u]) (PySem.W.CmpBack Q) E s) : wpAny (model prog w) A (richCompare .Eq u (.ref x)) Q E s := by
  have two : wpAny (model prog w) A (tryCompare (.ref x) "__eq__" u) (fun r s' => ∃ v, r = some v ∧ Q v s') E s := by
    unfold tryCompare
    refine wpAny_bind (PySem.W.ifBound_K X I hs hf (wpAny_mono hc (fun v s' hv => ?_) fun _ _ e => e))
    cases v <;> first | exact hv.elim | exact wpAny_pure ⟨_, rfl, hv⟩
  simp only [richCompare, cmpInfo_Eq, hone]
  refine wpAny_holding (wpAny_bind (wpAny_cRoomFor hu ?_))
  refine wpAny_bind (wpAny_typeOf hT ?_)
  refine wpAny_bind (I.type.here ?_)
  have hne : (Value.type T != Value.ref C) = true := by simp
  rw [hne]
  simp only [if_true]
  refine wpAny_bind ((PySem.W.looks_subIn X hsub).here ?_)
  simp only [Bool.false_eq_true, if_false, Bool.not_false, if_true]
  refine wpAny_bind (m := tryCompare u _ (.ref x)) (wpAny_mono (dec E) (fun r s1 z => ?_) fun _ _ e => e)
  obtain ⟨z1, z2⟩ := z
  subst z1
  subst z2
  refine wpAny_bind (m := tryCompare (.ref x) _ u) (wpAny_mono two (fun r s2 z => ?_) fun _ _ e => e)
  obtain ⟨v, rfl, hq⟩ := z
  exact wpAny_pure hq
end
end Rp
namespace Rp
open PySem PySem.Spec PyProof.Rows L2
section
variable {prog : Program} {w : World} {A : Around} {E : Value → Shared → Prop} {s : Shared} {x C dx : Addr}
theorem dec_non : wpAny (model prog w) A (tryCompare .none "__eq__" (.ref x)) (fun r s' => r = none ∧ s' = s) E s :=
  wpAny_tryCompare_declines (show s.TypeIs .none "NoneType" from rfl) F.slot_NoneType_eq_refl (call_gives F.slot_NoneType_eq_refl rfl F.entry_NoneType_eq (F.args_NoneType_eq_2 _ _) (PySem.SeqAt.NoneType___eq___none_ref_0 x) ⟨rfl, rfl, rfl⟩)
theorem int_dec (b : Int) (u : Tok) : Meets (Builtin.«int.__eq__» ⟨[.int b u, .ref x], []⟩) (fun _ R s => s.heap.get? x = some (PySem.W.instObj C dx) ∧ R (.ok (.ret .notImplemented)) s) :=
  .of_wp fun prog w A R s h => by
    obtain ⟨hp, g, d, tk, os⟩ := s
    obtain ⟨hl, h⟩ := h
    wp_walk using wpAny_loadPart' hl, wpAny_load hl
    exact ⟨_, rfl, h⟩
theorem bool_dec (b : Bool) : Meets (Builtin.«int.__eq__» ⟨[.bool b, .ref x], []⟩) (fun _ R s => s.heap.get? x = some (PySem.W.instObj C dx) ∧ R (.ok (.ret .notImplemented)) s) :=
  .of_wp fun prog w A R s h => by
    obtain ⟨hp, g, d, tk, os⟩ := s
    obtain ⟨hl, h⟩ := h
    wp_walk using wpAny_loadPart' hl, wpAny_load hl
    exact ⟨_, rfl, h⟩
theorem str_dec (b : Str) (u : Tok) : Meets (Builtin.«str.__eq__» ⟨[.str b u, .ref x], []⟩) (fun _ R s => s.heap.get? x = some (PySem.W.instObj C dx) ∧ R (.ok (.ret .notImplemented)) s) :=
  .of_wp fun prog w A R s h => by
    obtain ⟨hp, g, d, tk, os⟩ := s
    obtain ⟨hl, h⟩ := h
    wp_walk using wpAny_loadPart' hl, wpAny_load hl
    exact ⟨_, rfl, h⟩
theorem dec_int (hx : s.heap.get? x = some (PySem.W.instObj C dx)) (b : Int) (u : Tok) : wpAny (model prog w) A (tryCompare (.int b u) "__eq__" (.ref x)) (fun r s' => r = none ∧ s' = s) E s :=
  wpAny_tryCompare_declines (typeIs_int s b u) F.slot_int_eq (call_meets F.slot_int_eq (typeIs_int s b u) F.entry_int_eq (F.args_int_eq_2 _ _) (int_dec (C := C) (dx := dx) b u) ⟨hx, rfl, rfl, rfl⟩)
theorem dec_str (hx : s.heap.get? x = some (PySem.W.instObj C dx)) (b : Str) (u : Tok) : wpAny (model prog w) A (tryCompare (.str b u) "__eq__" (.ref x)) (fun r s' => r = none ∧ s' = s) E s :=
  wpAny_tryCompare_declines (typeIs_str s b u) F.slot_str_eq (call_meets F.slot_str_eq (typeIs_str s b u) F.entry_str_eq (F.args_str_eq_2 _ _) (str_dec (C := C) (dx := dx) b u) ⟨hx, rfl, rfl, rfl⟩)
theorem dec_bl (hx : s.heap.get? x = some (PySem.W.instObj C dx)) (b : Bool) : wpAny (model prog w) A (tryCompare (.bool b) "__eq__" (.ref x)) (fun r s' => r = none ∧ s' = s) E s :=
  wpAny_tryCompare_declines (show s.TypeIs (.bool b) "bool" from rfl) F.slot_bool_eq (call_meets F.slot_bool_eq (show s.TypeIs (.bool b) "bool" from rfl) F.entry_int_eq (F.args_int_eq_2 _ _) (bool_dec (C := C) (dx := dx) b) ⟨hx, rfl, rfl, rfl⟩)
theorem lst_dec {K : PySem.W.Frag} {l : Addr} (items : Array Value) (n : Nat) (hs : PySem.W.subIn K (.ref C) (.type "list") = some false) : Meets (Builtin.«list.__eq__» ⟨[.ref l, .ref x], []⟩) (fun _ R s => K.In s.heap ∧ s.heap.get? l = some { cls := .type "list", data := .seq items n } ∧ s.heap.get? x = some (PySem.W.instObj C dx) ∧ R (.ok (.ret .notImplemented)) s) :=
  .of_wp fun prog w A R s h => by
    obtain ⟨hp, g, d, tk, os⟩ := s
    obtain ⟨X, hl, hx, h⟩ := h
    unfold Builtin.«list.__eq__»
    repeat (first | with_reducible refine wpAny_loadPart' hl ?_ | with_reducible refine wpAny_loadPart' hx ?_ | with_reducible refine (PySem.W.looks_subIn X hs).here ?_ | wp_step)
    all_goals exact ⟨_, rfl, h⟩
theorem tup_dec {K : PySem.W.Frag} {l : Addr} {o : Obj} (hs : PySem.W.subIn K (.ref C) (.type "tuple") = some false) : Meets (Builtin.«tuple.__eq__» ⟨[.ref l, .ref x], []⟩) (fun _ R s => K.In s.heap ∧ s.heap.get? l = some o ∧ s.heap.get? x = some (PySem.W.instObj C dx) ∧ R (.ok (.ret .notImplemented)) s) :=
  .of_wp fun prog w A R s h => by
    obtain ⟨hp, g, d, tk, os⟩ := s
    obtain ⟨X, hl, hx, h⟩ := h
    unfold Builtin.«tuple.__eq__»
    repeat (first | with_reducible refine wpAny_loadPart' hl ?_ | with_reducible refine wpAny_loadPart' hx ?_ | with_reducible refine (PySem.W.looks_subIn X hs).here ?_ | wp_step)
    all_goals exact ⟨_, rfl, h⟩
theorem dec_lst {K : PySem.W.Frag} {l : Addr} {items : Array Value} {n : Nat} (X : K.In s.heap) (hs : PySem.W.subIn K (.ref C) (.type "list") = some false) (hl : s.heap.get? l = some { cls := .type "list", data := .seq items n }) (hx : s.heap.get? x = some (PySem.W.instObj C dx)) :
    wpAny (model prog w) A (tryCompare (.ref l) "__eq__" (.ref x)) (fun r s' => r = none ∧ s' = s) E s :=
  wpAny_tryCompare_declines (show s.TypeIs (.ref l) "list" from ⟨_, hl, rfl⟩) F.slot_list_eq (call_meets F.slot_list_eq (show s.TypeIs (.ref l) "list" from ⟨_, hl, rfl⟩) F.entry_list_eq (F.args_list_eq_2 _ _) (lst_dec (K := K) (C := C) (dx := dx) items n hs) ⟨X, hl, hx, rfl, rfl, rfl⟩)
theorem dec_tup {K : PySem.W.Frag} {l : Addr} {o : Obj} (X : K.In s.heap) (hs : PySem.W.subIn K (.ref C) (.type "tuple") = some false) (hl : s.heap.get? l = some o) (ht : o.cls = .type "tuple") (hx : s.heap.get? x = some (PySem.W.instObj C dx)) :
    wpAny (model prog w) A (tryCompare (.ref l) "__eq__" (.ref x)) (fun r s' => r = none ∧ s' = s) E s :=
  wpAny_tryCompare_declines (show s.TypeIs (.ref l) "tuple" from ⟨_, hl, ht⟩) F.slot_tuple_eq (call_meets F.slot_tuple_eq (show s.TypeIs (.ref l) "tuple" from ⟨_, hl, ht⟩) F.entry_tuple_eq (F.args_tuple_eq_2 _ _) (tup_dec (K := K) (C := C) (dx := dx) (o := o) hs) ⟨X, hl, hx, rfl, rfl, rfl⟩)
theorem dct_dec {K : PySem.W.Frag} {l : Addr} {es : Array DictEntry} {n : Nat} {o : Obj} (hd : o.data = .dict es n) (ho : o.cls = .type "dict") (hs : PySem.W.subIn K (.ref C) (.type "dict") = some false) :
    Meets (Builtin.«dict.__eq__» ⟨[.ref l, .ref x], []⟩) (fun _ R s => K.In s.heap ∧ s.heap.get? l = some o ∧ s.heap.get? x = some (PySem.W.instObj C dx) ∧ R (.ok (.ret .notImplemented)) s) :=
  .of_wp fun prog w A R s h => by
    obtain ⟨hp, g, d, tk, os⟩ := s
    obtain ⟨X, hl, hx, h⟩ := h
    unfold Builtin.«dict.__eq__»
    repeat (first | with_reducible refine wpAny_loadPart' hl ?_ | with_reducible refine wpAny_loadPart' hx ?_ | with_reducible refine (PySem.W.looks_subIn X hs).here ?_ | wp_step)
    all_goals exact ⟨_, rfl, h⟩
theorem dec_dct {K : PySem.W.Frag} {l : Addr} {es : Array DictEntry} {n : Nat} {o : Obj} (X : K.In s.heap) (hd : o.data = .dict es n) (ho : o.cls = .type "dict") (hs : PySem.W.subIn K (.ref C) (.type "dict") = some false) (hl : s.heap.get? l = some o) (hx : s.heap.get? x = some (PySem.W.instObj C dx)) :
    wpAny (model prog w) A (tryCompare (.ref l) "__eq__" (.ref x)) (fun r s' => r = none ∧ s' = s) E s :=
  wpAny_tryCompare_declines (show s.TypeIs (.ref l) "dict" from ⟨_, hl, ho⟩) F.slot_dict_eq (call_meets F.slot_dict_eq (show s.TypeIs (.ref l) "dict" from ⟨_, hl, ho⟩) F.entry_dict_eq (F.args_dict_eq_2 _ _) (dct_dec (K := K) (C := C) (dx := dx) hd ho hs) ⟨X, hl, hx, rfl, rfl, rfl⟩)
end
end Rp
namespace Rp
open PySem PySem.Spec PyProof.Rows L2
/-- a thing of a built-in type whose own == declines -/
inductive Thg (H : Hp) : V → String → Prop where
  | non : Thg H .non "NoneType"
  | bl (b : Bool) : Thg H (.bl b) "bool"
  | int (i : Int) : Thg H (.int i) "int"
  | str (z : Str) : Thg H (.str z) "str"
  | lst {p : Addr} {xs : List V} (e : H p = some (.lst xs)) : Thg H (.ref p) "list"
  | tup {p : Addr} {xs : List V} (e : H p = some (.tup xs)) : Thg H (.ref p) "tuple"
  | dct {p : Addr} {kvs : List (Key × V)} (e : H p = some (.dK kvs)) : Thg H (.ref p) "dict"
section
variable {P : Program} {w : World} {K : PySem.W.Frag} {mg : Str → Option Value} {base : Heap} {k j : Nat} {N Vz Sz G : List Str} {sc : Scope} {X : Cx} {H : Hp} {Q : VK} {sp : Sp} {y : V} {T : String} {a c dx : Addr} {fs : List (Str × V)}
/-- thing == one -/
theorem o_eqBack (C : CxI P w K mg base k N Vz Sz G sc X) (M : Mo P w K mg base j c "__eq__" sp) (hj : j ≤ k) (h : H a = some (.ins c dx fs)) (th : Thg H y T) (hsub : PySem.W.subIn K (.ref c) (.type T) = some false)
    (q : sp [.ref a, y] H (fun v H' => ∃ b : Bool, v = .bl b ∧ Q (.bl b) H') E0) : wO X (compareOp .Eq) y (.ref a) H Q := by
  obtain ⟨f, fd, ps, Fk, hs, hf, hb⟩ := M.ex
  obtain ⟨rfl, rfl, rfl, rfl, rfl, _, _, hr, _, _, _, _, _⟩ := C
  refine ⟨fun pins s σ u v I ry rx => ?_⟩
  obtain rfl : v = Value.ref a := rx
  obtain ⟨mA, J, _⟩ := ins_get I.hok h
  have hx : s.heap.get? a = some (PySem.W.instObj c dx) := by
    obtain ⟨_, _, _, hx, _⟩ := (show ObjOk X.prog X.w H s.heap a (.ins c dx fs) from I.hok a _ h)
    exact hx
  obtain ⟨od, J, _⟩ := J.look
  have hr' := hr.mono hj
  have ty : s.TypeIs u T := by
    cases th with
    | non => obtain rfl : u = Value.none := ry
             rfl
    | bl b => obtain rfl : u = Value.bool b := ry
              rfl
    | int i => obtain ⟨t, rfl⟩ := ry
               exact typeIs_int s i t
    | str z => obtain ⟨t, rfl⟩ := ry
               exact typeIs_str s z t
    | @lst p xs e =>
      obtain rfl : u = Value.ref p := ry
      obtain ⟨_, its, n, _, e⟩ := (show ObjOk X.prog X.w H s.heap p (.lst xs) from I.hok p _ e)
      exact ⟨_, e, rfl⟩
    | @tup p xs e =>
      obtain rfl : u = Value.ref p := ry
      obtain ⟨_, its, _, o, ho, hc, _⟩ := (show ObjOk X.prog X.w H s.heap p (.tup xs) from I.hok p _ e)
      exact ⟨_, ho, hc⟩
    | @dct p kvs e =>
      obtain rfl : u = Value.ref p := ry
      obtain ⟨_, _, _, _, o, _, _, e, ex, _⟩ := (show ObjOk X.prog X.w H s.heap p (.dK kvs) from I.hok p _ e)
      exact ⟨o, e, ex.1⟩
  have dec : ∀ E' : Value → Shared → Prop, wpAny (model X.prog X.w) X.A (tryCompare u "__eq__" (.ref a)) (fun r s' => r = none ∧ s' = s) E' s := fun E' => by
    cases th with
    | non => obtain rfl : u = Value.none := ry
             exact dec_non
    | bl b => obtain rfl : u = Value.bool b := ry
              exact dec_bl hx b
    | int i => obtain ⟨t, rfl⟩ := ry
               exact dec_int hx i t
    | str z => obtain ⟨t, rfl⟩ := ry
               exact dec_str hx z t
    | @lst p xs e =>
      obtain rfl : u = Value.ref p := ry
      obtain ⟨_, its, n, _, e⟩ := (show ObjOk X.prog X.w H s.heap p (.lst xs) from I.hok p _ e)
      exact dec_lst I.kIn hsub e hx
    | @tup p xs e =>
      obtain rfl : u = Value.ref p := ry
      obtain ⟨_, its, _, o, ho, hc, _⟩ := (show ObjOk X.prog X.w H s.heap p (.tup xs) from I.hok p _ e)
      exact dec_tup I.kIn hsub ho hc hx
    | @dct p kvs e =>
      obtain rfl : u = Value.ref p := ry
      obtain ⟨_, _, _, _, o, es, ep, e, ex, hd, _⟩ := (show ObjOk X.prog X.w H s.heap p (.dK kvs) from I.hok p _ e)
      exact dec_dct I.kIn hd ex.1 hsub e hx
  show wpAny (model X.prog X.w) X.A (richCompare .Eq u (.ref a)) (EP X pins σ Q) X.xe s
  refine rc_back hr'.units0 I.kIn J ty hsub (ty.oneThing_none _ _) dec hs hf ?_
  have hl := Fk.len _ _ _ _ q
  have r2 : Vals [V.ref a, y] [Value.ref a, u] := .cons rfl (.cons ry .nil)
  refine wpAny_call (codeAny_mono (Fk.run X.A X.stack s H ⟨[.ref a, u], []⟩ [.ref a, u] [.ref a, y] _ E0 hr' I.env0 (by
    have z := hb s [.ref a, u] I.kIn (by simpa using hl)
    simpa using z) r2 q) fun r s' hq => ?_)
  cases r with
  | error e => exact pass0 pins σ H s e s' I hq
  | ok fl =>
    cases fl with
    | ret w =>
      obtain ⟨z, H', I', rz, b, ez, q'⟩ := I.after hq
      subst ez
      cases rz
      exact ⟨.bl b, H', I', rfl, q'⟩
    | next => exact False.elim hq
    | brk => exact False.elim hq
    | cont => exact False.elim hq
end
end Rp
namespace Rp
open PySem PySem.Spec PyProof.Rows L2
/-! ### `in`, == and != of lists whose things have an own ==, with whatever answer -/
section
open SeqAt MeetsSeq MeetsSeq2 MeetsSeq3 SeqRoads2
open AutoSeq1 (wpAny_loadPart')
variable {prog : Program} {w : World} {A : Around} {R : Result → Shared → Prop}
def ConI (prog : Program) (w : World) (A : Around) (E : Value → Shared → Prop) (l : Addr) (x : Value) (N : Nat) (e : Nat → Bool) (I : Nat → Shared → Prop) : Prop :=
  ∀ i s, I i s → ∃ (items : Array Value) (n : Nat), s.heap.get? l = some { cls := .type "list", data := .seq items n } ∧ items.size = N ∧
    ∀ (h1 : i < items.size), wpAny (model prog w) A.in1 (eqBool items[i] x) (fun r s' => r = e i ∧ I (i + 1) s') E s
theorem con_loopG (l : Addr) (x : Value) (N : Nat) (e : Nat → Bool) (I : Nat → Shared → Prop) (hl : ConI prog w A (fun e s' => R (.error e) s') l x N e I)
    (yes : ∀ i s, i < N → e i = true → I (i + 1) s → R (.ok (.ret (.bool true))) s) (no : (∀ i, i < N → e i = false) → ∀ s, I N s → R (.ok (.ret (.bool false))) s) (k : Nat) :
    ∀ i : Nat, N - i = k → i ≤ N → (∀ j, j < i → e j = false) → ∀ s, I i s →
      wpAny (model prog w) A.in1 (Builtin.«list.__contains__.loop» ⟨[.ref l, x, rawInt i], []⟩) (GQ.FinOf prog w A R) (fun e s' => R (.error e) s') s := by
  induction k with
  | zero =>
    intro i hk hi hf s h
    obtain ⟨items, n, hl1, hs1, _⟩ := hl _ _ h
    have hi' : i = N := by omega
    have hR : R (.ok (.ret (.bool false))) s := no (fun j hj => hf j (by omega)) s (hi' ▸ h)
    obtain ⟨hp, g, d, tk, os⟩ := s
    wp_walk using wpAny_loadPart' hl1
    have hi1 : items[((i : Nat) : Int).toNat]? = none := by simp; omega
    rw [hi1]
    wp_walk
    exact hR
  | succ k ih =>
    intro i hk hi hf s h
    obtain ⟨items, n, hl1, hs1, turn⟩ := hl _ _ h
    have hlt : i < items.size := by omega
    have ht := turn hlt
    obtain ⟨hp, g, d, tk, os⟩ := s
    wp_walk using wpAny_loadPart' hl1
    have hi1 : items[((i : Nat) : Int).toNat]? = some items[i] := by simp [hlt]
    have hc : ((i : Int) + 1) = ((i + 1 : Nat) : Int) := by omega
    rw [hi1]
    refine wpAny_bind (wpAny_mono ht (fun r s2 h2 => ?_) fun _ _ x => x)
    obtain ⟨hr, h2⟩ := h2
    cases hb : e i with
    | true =>
      rw [hb] at hr
      subst hr
      have hR := yes i s2 (by omega) hb h2
      obtain ⟨hp2, g2, d2, tk2, os2⟩ := s2
      wp_walk
      exact hR
    | false =>
      rw [hb] at hr
      subst hr
      have hrec := ih (i + 1) (by omega) (by omega) (fun j hj => (Nat.lt_or_eq_of_le (Nat.le_of_lt_succ hj)).elim (hf j) fun z => by rw [z]; exact hb) s2 h2
      obtain ⟨hp2, g2, d2, tk2, os2⟩ := s2
      wp_walk
      rw [hc]
      exact ⟨plainId_quiet plain_contains_loop _, codeAny_builtin entry_contains_loop (by
        rw [Around.under_plainId plain_contains_loop _]
        exact hrec)⟩
theorem list_conG (l : Addr) (x : Value) (N : Nat) (e : Nat → Bool) (I : Nat → Shared → Prop) (hl : ConI prog w A (fun e s' => R (.error e) s') l x N e I)
    (yes : ∀ i s, i < N → e i = true → I (i + 1) s → R (.ok (.ret (.bool true))) s) (no : (∀ i, i < N → e i = false) → ∀ s, I N s → R (.ok (.ret (.bool false))) s) {s : Shared} (h : I 0 s) :
    wpAny (model prog w) A.in1 (Builtin.«list.__contains__» ⟨[.ref l, x], []⟩) (GQ.FinOf prog w A R) (fun e s' => R (.error e) s') s := by
  obtain ⟨items, n, hl1, hs1, _⟩ := hl _ _ h
  have hrec := con_loopG (A := A) (R := R) l x N e I hl yes no _ 0 rfl (Nat.zero_le _) (fun j hj => absurd hj (Nat.not_lt_zero j)) s h
  obtain ⟨hp, g, d, tk, os⟩ := s
  wp_walk using wpAny_loadPart' hl1
  exact ⟨plainId_quiet plain_contains_loop _, codeAny_builtin entry_contains_loop (by
    rw [Around.under_plainId plain_contains_loop _]
    exact hrec)⟩
def EqI (prog : Program) (w : World) (A : Around) (E : Value → Shared → Prop) (l b : Addr) (N : Nat) (e : Nat → Bool) (I : Nat → Shared → Prop) : Prop :=
  ∀ i s, I i s → ∃ (items items2 : Array Value) (n n2 : Nat), s.heap.get? l = some { cls := .type "list", data := .seq items n } ∧ s.heap.get? b = some { cls := .type "list", data := .seq items2 n2 } ∧ items.size = N ∧ items2.size = N ∧
    ∀ (h1 : i < items.size) (h2 : i < items2.size), wpAny (model prog w) A.in1 (eqBool items[i] items2[i]) (fun r s' => r = e i ∧ I (i + 1) s') E s
theorem eqL_loop (l b : Addr) (N : Nat) (e : Nat → Bool) (I : Nat → Shared → Prop) (hl : EqI prog w A (fun e s' => R (.error e) s') l b N e I)
    (yes : (∀ i, i < N → e i = true) → ∀ s, I N s → R (.ok (.ret (.bool true))) s) (no : ∀ i s, i < N → e i = false → I (i + 1) s → R (.ok (.ret (.bool false))) s) (k : Nat) :
    ∀ i : Nat, N - i = k → i ≤ N → (∀ j, j < i → e j = true) → ∀ s, I i s →
      wpAny (model prog w) A.in1 (Builtin.«list.__eq__.loop» ⟨[.ref l, .ref b, rawInt i, rawInt 2], []⟩) (GQ.FinOf prog w A R) (fun e s' => R (.error e) s') s := by
  induction k with
  | zero =>
    intro i hk hi hf s h
    obtain ⟨items, items2, n, n2, hl1, hb1, hs1, hs2, _⟩ := hl _ _ h
    have hi' : i = N := by omega
    have hR : R (.ok (.ret (.bool true))) s := yes (fun j hj => hf j (by omega)) s (hi' ▸ h)
    obtain ⟨hp, g, d, tk, os⟩ := s
    wp_walk using wpAny_loadPart' hl1, wpAny_loadPart' hb1
    have hi1 : items[((i : Nat) : Int).toNat]? = none := by simp; omega
    have hi2 : items2[((i : Nat) : Int).toNat]? = none := by simp; omega
    rw [hi1, hi2]
    wp_walk using wpAny_loadPart' hl1, wpAny_loadPart' hb1
    show R (.ok (.ret (.bool (items.size == items2.size)))) _
    rw [hs1, hs2]
    simpa using hR
  | succ k ih =>
    intro i hk hi hf s h
    obtain ⟨items, items2, n, n2, hl1, hb1, hs1, hs2, turn⟩ := hl _ _ h
    have hlt : i < items.size := by omega
    have hlt2 : i < items2.size := by omega
    have ht := turn hlt hlt2
    obtain ⟨hp, g, d, tk, os⟩ := s
    wp_walk using wpAny_loadPart' hl1, wpAny_loadPart' hb1
    have hi1 : items[((i : Nat) : Int).toNat]? = some items[i] := by simp [hlt]
    have hi2 : items2[((i : Nat) : Int).toNat]? = some items2[i] := by simp [hlt2]
    have hc : ((i : Int) + 1) = ((i + 1 : Nat) : Int) := by omega
    rw [hi1, hi2]
    refine wpAny_bind (wpAny_mono ht (fun r s2 h2 => ?_) fun _ _ x => x)
    obtain ⟨hr, h2⟩ := h2
    cases hb : e i with
    | false =>
      rw [hb] at hr
      subst hr
      have hR := no i s2 (by omega) hb h2
      obtain ⟨it3, it4, n3, n4, hl3, hb3, hs3, hs4, _⟩ := hl _ _ h2
      have hlt3 : i < it3.size := by omega
      have hlt4 : i < it4.size := by omega
      obtain ⟨hp2, g2, d2, tk2, os2⟩ := s2
      wp_walk using wpAny_loadPart' hl3, wpAny_loadPart' hb3
      have hi3 : it3[((i : Nat) : Int).toNat]? = some it3[i] := by simp [hlt3]
      have hi4 : it4[((i : Nat) : Int).toNat]? = some it4[i] := by simp [hlt4]
      rw [hi3, hi4]
      wp_walk
      simpa using hR
    | true =>
      rw [hb] at hr
      subst hr
      have hrec := ih (i + 1) (by omega) (by omega) (fun j hj => (Nat.lt_or_eq_of_le (Nat.le_of_lt_succ hj)).elim (hf j) fun z => by rw [z]; exact hb) s2 h2
      obtain ⟨hp2, g2, d2, tk2, os2⟩ := s2
      wp_walk
      rw [hc]
      exact ⟨plainId_quiet plain_eq_loop _, codeAny_builtin entry_eq_loop (by
        rw [Around.under_plainId plain_eq_loop _]
        exact hrec)⟩
theorem list_eqL (l b : Addr) (N : Nat) (e : Nat → Bool) (I : Nat → Shared → Prop) (hl : EqI prog w A (fun e s' => R (.error e) s') l b N e I)
    (yes : (∀ i, i < N → e i = true) → ∀ s, I N s → R (.ok (.ret (.bool true))) s) (no : ∀ i s, i < N → e i = false → I (i + 1) s → R (.ok (.ret (.bool false))) s) {s : Shared} (h : I 0 s) :
    wpAny (model prog w) A.in1 (Builtin.«list.__eq__» ⟨[.ref l, .ref b], []⟩) (GQ.FinOf prog w A R) (fun e s' => R (.error e) s') s := by
  obtain ⟨items, items2, n, n2, hl1, hb1, hs1, hs2, _⟩ := hl _ _ h
  have hrec := eqL_loop (A := A) (R := R) l b N e I hl yes no _ 0 rfl (Nat.zero_le _) (fun j hj => absurd hj (Nat.not_lt_zero j)) s h
  obtain ⟨hp, g, d, tk, os⟩ := s
  have f3 := AutoSeq1.sub_list_list
  have hne : ¬ (items.size != items2.size) = true := by simp [hs1, hs2]
  wp_walk using wpAny_loadPart' hl1, wpAny_loadPart' hb1
  exact ⟨plainId_quiet plain_eq_loop _, codeAny_builtin entry_eq_loop (by
    rw [Around.under_plainId plain_eq_loop _]
    exact hrec)⟩
theorem neL_loop (l b : Addr) (N : Nat) (e : Nat → Bool) (I : Nat → Shared → Prop) (hl : EqI prog w A (fun e s' => R (.error e) s') l b N e I)
    (yes : (∀ i, i < N → e i = true) → ∀ s, I N s → R (.ok (.ret (.bool false))) s) (no : ∀ i s, i < N → e i = false → I (i + 1) s → R (.ok (.ret (.bool true))) s) (k : Nat) :
    ∀ i : Nat, N - i = k → i ≤ N → (∀ j, j < i → e j = true) → ∀ s, I i s →
      wpAny (model prog w) A.in1 (Builtin.«list.__eq__.loop» ⟨[.ref l, .ref b, rawInt i, rawInt 3], []⟩) (GQ.FinOf prog w A R) (fun e s' => R (.error e) s') s := by
  induction k with
  | zero =>
    intro i hk hi hf s h
    obtain ⟨items, items2, n, n2, hl1, hb1, hs1, hs2, _⟩ := hl _ _ h
    have hi' : i = N := by omega
    have hR : R (.ok (.ret (.bool false))) s := yes (fun j hj => hf j (by omega)) s (hi' ▸ h)
    obtain ⟨hp, g, d, tk, os⟩ := s
    wp_walk using wpAny_loadPart' hl1, wpAny_loadPart' hb1
    have hi1 : items[((i : Nat) : Int).toNat]? = none := by simp; omega
    have hi2 : items2[((i : Nat) : Int).toNat]? = none := by simp; omega
    rw [hi1, hi2]
    wp_walk using wpAny_loadPart' hl1, wpAny_loadPart' hb1
    show R (.ok (.ret (.bool (items.size != items2.size)))) _
    rw [hs1, hs2]
    simpa using hR
  | succ k ih =>
    intro i hk hi hf s h
    obtain ⟨items, items2, n, n2, hl1, hb1, hs1, hs2, turn⟩ := hl _ _ h
    have hlt : i < items.size := by omega
    have hlt2 : i < items2.size := by omega
    have ht := turn hlt hlt2
    obtain ⟨hp, g, d, tk, os⟩ := s
    wp_walk using wpAny_loadPart' hl1, wpAny_loadPart' hb1
    have hi1 : items[((i : Nat) : Int).toNat]? = some items[i] := by simp [hlt]
    have hi2 : items2[((i : Nat) : Int).toNat]? = some items2[i] := by simp [hlt2]
    have hc : ((i : Int) + 1) = ((i + 1 : Nat) : Int) := by omega
    rw [hi1, hi2]
    refine wpAny_bind (wpAny_mono ht (fun r s2 h2 => ?_) fun _ _ x => x)
    obtain ⟨hr, h2⟩ := h2
    cases hb : e i with
    | false =>
      rw [hb] at hr
      subst hr
      have hR := no i s2 (by omega) hb h2
      obtain ⟨it3, it4, n3, n4, hl3, hb3, hs3, hs4, _⟩ := hl _ _ h2
      have hlt3 : i < it3.size := by omega
      have hlt4 : i < it4.size := by omega
      obtain ⟨hp2, g2, d2, tk2, os2⟩ := s2
      wp_walk using wpAny_loadPart' hl3, wpAny_loadPart' hb3
      have hi3 : it3[((i : Nat) : Int).toNat]? = some it3[i] := by simp [hlt3]
      have hi4 : it4[((i : Nat) : Int).toNat]? = some it4[i] := by simp [hlt4]
      rw [hi3, hi4]
      wp_walk
      simpa using hR
    | true =>
      rw [hb] at hr
      subst hr
      have hrec := ih (i + 1) (by omega) (by omega) (fun j hj => (Nat.lt_or_eq_of_le (Nat.le_of_lt_succ hj)).elim (hf j) fun z => by rw [z]; exact hb) s2 h2
      obtain ⟨hp2, g2, d2, tk2, os2⟩ := s2
      wp_walk
      rw [hc]
      exact ⟨plainId_quiet plain_eq_loop _, codeAny_builtin entry_eq_loop (by
        rw [Around.under_plainId plain_eq_loop _]
        exact hrec)⟩
theorem list_neL (l b : Addr) (N : Nat) (e : Nat → Bool) (I : Nat → Shared → Prop) (hl : EqI prog w A (fun e s' => R (.error e) s') l b N e I)
    (yes : (∀ i, i < N → e i = true) → ∀ s, I N s → R (.ok (.ret (.bool false))) s) (no : ∀ i s, i < N → e i = false → I (i + 1) s → R (.ok (.ret (.bool true))) s) {s : Shared} (h : I 0 s) :
    wpAny (model prog w) A.in1 (Builtin.«list.__ne__» ⟨[.ref l, .ref b], []⟩) (GQ.FinOf prog w A R) (fun e s' => R (.error e) s') s := by
  obtain ⟨items, items2, n, n2, hl1, hb1, hs1, hs2, _⟩ := hl _ _ h
  have hrec := neL_loop (A := A) (R := R) l b N e I hl yes no _ 0 rfl (Nat.zero_le _) (fun j hj => absurd hj (Nat.not_lt_zero j)) s h
  obtain ⟨hp, g, d, tk, os⟩ := s
  have f3 := AutoSeq1.sub_list_list
  have hne : ¬ (items.size != items2.size) = true := by simp [hs1, hs2]
  wp_walk using wpAny_loadPart' hl1, wpAny_loadPart' hb1
  exact ⟨plainId_quiet plain_eq_loop _, codeAny_builtin entry_eq_loop (by
    rw [Around.under_plainId plain_eq_loop _]
    exact hrec)⟩
end
section
open SeqAt MeetsSeq MeetsSeq2 MeetsSeq3 SeqRoads2
variable {prog : Program} {w : World} {A : Around} {E : Value → Shared → Prop} {s : Shared}
theorem in_conG {l : Addr} {x : Value} {Q : Value → Shared → Prop} (N : Nat) (e : Nat → Bool) (I : Nat → Shared → Prop) (hl : ConI prog w A E l x N e I)
    (yes : ∀ i s, i < N → e i = true → I (i + 1) s → Q (.bool true) s) (no : (∀ i, i < N → e i = false) → ∀ s, I N s → Q (.bool false) s) (h : I 0 s) : wpAny (model prog w) A (compareOp .In x (.ref l)) Q E s := by
  obtain ⟨items, n, hl1, _⟩ := hl _ _ h
  show wpAny _ A (do return .bool (← contains (.ref l) x)) Q E s
  refine wpAny_bind (wpAny_contains_slot (T := "list") ⟨_, hl1, rfl⟩ F.slot_list_contains (wpAny_mono (GQ.call_here F.slot_list_contains ⟨_, hl1, rfl⟩ F.entry_list_contains (F.args_list_contains_2 _ _)
    (list_conG (R := wants (fun v s' => ∃ b, v = .bool b ∧ Q (.bool b) s') E) l x N e I hl (fun i s a b c => ⟨true, rfl, yes i s a b c⟩) (fun a s b => ⟨false, rfl, no a s b⟩) h)) (fun v s' hv => ?_) fun _ _ e => e))
  obtain ⟨b, rfl, hq⟩ := hv
  exact wpAny_truthy_bool (wpAny_pure hq)
theorem notIn_conG {l : Addr} {x : Value} {Q : Value → Shared → Prop} (N : Nat) (e : Nat → Bool) (I : Nat → Shared → Prop) (hl : ConI prog w A E l x N e I)
    (yes : ∀ i s, i < N → e i = true → I (i + 1) s → Q (.bool false) s) (no : (∀ i, i < N → e i = false) → ∀ s, I N s → Q (.bool true) s) (h : I 0 s) : wpAny (model prog w) A (compareOp .NotIn x (.ref l)) Q E s := by
  obtain ⟨items, n, hl1, _⟩ := hl _ _ h
  show wpAny _ A (do return .bool (!(← contains (.ref l) x))) Q E s
  refine wpAny_bind (wpAny_contains_slot (T := "list") ⟨_, hl1, rfl⟩ F.slot_list_contains (wpAny_mono (GQ.call_here F.slot_list_contains ⟨_, hl1, rfl⟩ F.entry_list_contains (F.args_list_contains_2 _ _)
    (list_conG (R := wants (fun v s' => ∃ b, v = .bool b ∧ Q (.bool (!b)) s') E) l x N e I hl (fun i s a b c => ⟨true, rfl, yes i s a b c⟩) (fun a s b => ⟨false, rfl, no a s b⟩) h)) (fun v s' hv => ?_) fun _ _ e => e))
  obtain ⟨b, rfl, hq⟩ := hv
  exact wpAny_truthy_bool (wpAny_pure hq)
theorem rc_eqL {l b : Addr} {Q : Value → Shared → Prop} (hu : A.units < cLine) (N : Nat) (e : Nat → Bool) (I : Nat → Shared → Prop) (hl : EqI prog w A E l b N e I)
    (yes : (∀ i, i < N → e i = true) → ∀ s, I N s → Q (.bool true) s) (no : ∀ i s, i < N → e i = false → I (i + 1) s → Q (.bool false) s) (h : I 0 s) : wpAny (model prog w) A (richCompare .Eq (.ref l) (.ref b)) Q E s := by
  obtain ⟨items, items2, n, n2, hl1, hb1, _⟩ := hl _ _ h
  refine wpAny_richCompare_same_room (op := .Eq) ⟨_, hl1, rfl⟩ ⟨_, hb1, rfl⟩ F.slot_list_eq (GQ.call_here F.slot_list_eq ⟨_, hl1, rfl⟩ F.entry_list_eq (F.args_list_eq_2 _ _) ?_) hu
  exact list_eqL (R := wants (fun v s' => v ≠ .notImplemented ∧ Q v s') E) l b N e I hl (fun a s' q => ⟨(fun x => nomatch x), yes a s' q⟩) (fun i s' a c q => ⟨(fun x => nomatch x), no i s' a c q⟩) h
theorem rc_neL {l b : Addr} {Q : Value → Shared → Prop} (hu : A.units < cLine) (N : Nat) (e : Nat → Bool) (I : Nat → Shared → Prop) (hl : EqI prog w A E l b N e I)
    (yes : (∀ i, i < N → e i = true) → ∀ s, I N s → Q (.bool false) s) (no : ∀ i s, i < N → e i = false → I (i + 1) s → Q (.bool true) s) (h : I 0 s) : wpAny (model prog w) A (richCompare .NotEq (.ref l) (.ref b)) Q E s := by
  obtain ⟨items, items2, n, n2, hl1, hb1, _⟩ := hl _ _ h
  refine wpAny_richCompare_same_room (op := .NotEq) ⟨_, hl1, rfl⟩ ⟨_, hb1, rfl⟩ F.slot_list_ne (GQ.call_here F.slot_list_ne ⟨_, hl1, rfl⟩ F.entry_list_ne (F.args_list_ne_2 _ _) ?_) hu
  exact list_neL (R := wants (fun v s' => v ≠ .notImplemented ∧ Q v s') E) l b N e I hl (fun a s' q => ⟨(fun x => nomatch x), yes a s' q⟩) (fun i s' a c q => ⟨(fun x => nomatch x), no i s' a c q⟩) h
end
/-! ### by values -/
/-- == inside a builtin: the answer, the heap as it was -/
def EqB (X : Cx) (n : Nat) (x y : V) (H : Hp) (r : Bool) : Prop :=
  ∀ (A : Around) (pins : List (Addr × Obj)) (s : Shared) (σ : L2.St) (u v : Value), Sub X n A → Inv X pins σ H s → RelV x u → RelV y v →
    wpAny (model X.prog X.w) A (eqBool u v) (fun r' s' => r' = r ∧ Inv X pins σ H s') X.xe s
section
variable {P : Program} {w : World} {K : PySem.W.Frag} {mg : Str → Option Value} {base : Heap} {k j n m : Nat} {N Vz Sz G : List Str} {sc : Scope} {X : Cx} {H : Hp} {Q : VK} {sp : Sp} {x y : V} {a b c dx dy : Addr} {fs gs : List (Str × V)} {r : Bool}
theorem EqB.mono (h : EqB X n x y H r) (hn : n ≤ m) : EqB X m x y H r := fun A pins s σ u v sb => h A pins s σ u v (sb.mono hn)
theorem eqB_same : EqB X n (.ref a) (.ref a) H true := by
  intro A pins s σ u v sb I ru rv
  obtain rfl : u = Value.ref a := ru
  obtain rfl : v = Value.ref a := rv
  exact SeqAt.EqAt.same (A := A) (s := s) (.ref a) X.prog X.w X.xe _ ⟨rfl, I⟩
theorem eqB_ins (C : CxI P w K mg base k N Vz Sz G sc X) (M : Mo P w K mg base j c "__eq__" sp) (hab : a ≠ b) (ha : H a = some (.ins c dx fs)) (hb' : H b = some (.ins c dy gs))
    (q : sp [.ref a, .ref b] H (fun v H' => v = .bl r ∧ H' = H) E0) : EqB X j (.ref a) (.ref b) H r := by
  intro A pins s σ u v sb I ru rv
  obtain rfl : u = Value.ref a := ru
  obtain rfl : v = Value.ref b := rv
  obtain ⟨f, fd, ps, Fk, hs, hf, hb⟩ := M.ex
  obtain ⟨rfl, rfl, rfl, rfl, rfl, _, _, hr, _, _, _, _, _⟩ := C
  obtain ⟨mA, J, _⟩ := ins_get I.hok ha
  obtain ⟨mB, J', _⟩ := ins_get I.hok hb'
  obtain ⟨od, J, _⟩ := J.look
  obtain ⟨od', J', _⟩ := J'.look
  obtain ⟨mm, hF⟩ := I.fr
  refine GQ.eqBool_refG hab (PySem.W.cmp_K (op := .Eq) (tb := .ref c) sb.room.units0 hF I.ok.mod.kin J J'.type (by simp [PySem.W.notFirst]) hs hf ?_)
  have e0 : Env0 X.prog X.w X.K X.mg X.base A X.stack s H := by
    have e := I.env0
    exact ⟨by rw [sb.fr]; exact e.frames, e.mod, e.bs, e.bsz, e.funs, e.frf, e.hok, e.bare⟩
  have hl := Fk.len _ _ _ _ q
  have r2 : Vals [V.ref a, V.ref b] [Value.ref a, Value.ref b] := .cons rfl (.cons rfl .nil)
  refine wpAny_call (codeAny_mono (Fk.run A X.stack s H ⟨[.ref a, .ref b], []⟩ [.ref a, .ref b] [.ref a, .ref b] _ E0 sb.room e0 (by
    have := hb s [.ref a, .ref b] I.kIn (by simpa using hl)
    simpa using this) r2 q) fun r' s' hq => ?_)
  cases r' with
  | error e => exact pass0 pins σ H s e s' I hq
  | ok fl =>
    cases fl with
    | ret w =>
      obtain ⟨z, H', I', rz, ez, eh⟩ := I.after hq
      subst ez
      subst eh
      cases rz
      exact ⟨r, rfl, rfl, I'⟩
    | next => exact False.elim hq
    | brk => exact False.elim hq
    | cont => exact False.elim hq
/-- the pairs of two lists -/
def PrsB (X : Cx) (n : Nat) (xs ys : List V) (H : Hp) (e : Nat → Bool) : Prop := xs.length = ys.length ∧ ∀ (i : Nat) x y, xs[i]? = some x → ys[i]? = some y → EqB X n x y H (e i)
theorem turnB {A : Around} (sb : Sub X (n + 1) A) {e : Nat → Bool} {pins : List (Addr × Obj)} {σ : L2.St} {xs ys : List V} {its its2 : List Value} (p : PrsB X n xs ys H e) (r : Vals xs its) (r2 : Vals ys its2)
    (i : Nat) (h1 : i < its.toArray.size) (h2 : i < its2.toArray.size) (s' : Shared) (I1 : Inv X pins σ H s') :
    wpAny (model X.prog X.w) A.in1 (eqBool its.toArray[i] its2.toArray[i]) (fun r s2 => r = e i ∧ Inv X pins σ H s2) X.xe s' := by
  have g1 : its[i]? = some its.toArray[i] := by
    have h1' : i < its.length := by simpa using h1
    rw [List.getElem?_eq_getElem h1'] <;> simp
  have g2 : its2[i]? = some its2.toArray[i] := by
    have h2' : i < its2.length := by simpa using h2
    rw [List.getElem?_eq_getElem h2'] <;> simp
  have k1 : i < xs.length := by rw [r.length]; simpa using h1
  have k2 : i < ys.length := by rw [r2.length]; simpa using h2
  obtain ⟨u, hu, ru⟩ := r.get (List.getElem?_eq_getElem k1)
  obtain ⟨v, hv, rv⟩ := r2.get (List.getElem?_eq_getElem k2)
  rw [g1] at hu
  rw [g2] at hv
  rw [Option.some.inj hu, Option.some.inj hv]
  exact p.2 i _ _ (List.getElem?_eq_getElem k1) (List.getElem?_eq_getElem k2) A.in1 pins s' σ u v sb.in1 I1 ru rv
theorem sub_cx (C : CxI P w K mg base k N Vz Sz G sc X) : Sub X k X.A := ⟨C.room, rfl⟩
theorem eqI_of {A : Around} (sb : Sub X (n + 1) A) {e : Nat → Bool} {pins : List (Addr × Obj)} {σ : L2.St} {xs ys : List V} {a b : Addr} (p : PrsB X n xs ys H e) (ha : H a = some (.lst xs)) (hb : H b = some (.lst ys)) :
    EqI X.prog X.w A X.xe a b xs.length e (fun _ s' => Inv X pins σ H s') := by
  intro i s' I1
  obtain ⟨z, its, k, r, e⟩ := I1.hok a _ ha
  obtain ⟨z2, its2, k2, r2, e2⟩ := I1.hok b _ hb
  exact ⟨its.toArray, its2.toArray, k, k2, e, e2, by rw [List.size_toArray, ← r.length], by rw [List.size_toArray, ← r2.length, ← p.1], fun h1 h2 => turnB sb p r r2 i h1 h2 s' I1⟩
theorem o_eqL {e : Nat → Bool} {xs ys : List V} (C : CxI P w K mg base k N Vz Sz G sc X) (hk : n + 1 ≤ k) (ha : H a = some (.lst xs)) (hb : H b = some (.lst ys)) (p : PrsB X n xs ys H e) (t : Bool)
    (ht : (t = true → ∀ i, i < xs.length → e i = true) ∧ (t = false → ∃ i, i < xs.length ∧ e i = false)) (q : Q (.bl t) H) : wO X (compareOp .Eq) (.ref a) (.ref b) H Q := by
  refine ⟨fun pins s σ v u I rx ry => ?_⟩
  obtain rfl : v = Value.ref a := rx
  obtain rfl : u = Value.ref b := ry
  have sb := (sub_cx C).mono hk
  show wpAny _ _ (richCompare .Eq (.ref a) (.ref b)) _ _ _
  refine rc_eqL sb.room.units0 xs.length e (fun _ s' => Inv X pins σ H s') (eqI_of sb p ha hb) (fun al s' I' => ?_) (fun i s' hi he I' => ?_) I
  · cases t with
    | true => exact ⟨.bl true, H, I', rfl, q⟩
    | false =>
      obtain ⟨i, hi, z⟩ := ht.2 rfl
      rw [al i hi] at z
      cases z
  · cases t with
    | false => exact ⟨.bl false, H, I', rfl, q⟩
    | true => rw [ht.1 rfl i hi] at he; cases he
theorem o_neL {e : Nat → Bool} {xs ys : List V} (C : CxI P w K mg base k N Vz Sz G sc X) (hk : n + 1 ≤ k) (ha : H a = some (.lst xs)) (hb : H b = some (.lst ys)) (p : PrsB X n xs ys H e) (t : Bool)
    (ht : (t = true → ∀ i, i < xs.length → e i = true) ∧ (t = false → ∃ i, i < xs.length ∧ e i = false)) (q : Q (.bl (!t)) H) : wO X (compareOp .NotEq) (.ref a) (.ref b) H Q := by
  refine ⟨fun pins s σ v u I rx ry => ?_⟩
  obtain rfl : v = Value.ref a := rx
  obtain rfl : u = Value.ref b := ry
  have sb := (sub_cx C).mono hk
  show wpAny _ _ (richCompare .NotEq (.ref a) (.ref b)) _ _ _
  refine rc_neL sb.room.units0 xs.length e (fun _ s' => Inv X pins σ H s') (eqI_of sb p ha hb) (fun al s' I' => ?_) (fun i s' hi he I' => ?_) I
  · cases t with
    | true => exact ⟨.bl false, H, I', rfl, q⟩
    | false =>
      obtain ⟨i, hi, z⟩ := ht.2 rfl
      rw [al i hi] at z
      cases z
  · cases t with
    | false => exact ⟨.bl true, H, I', rfl, q⟩
    | true => rw [ht.1 rfl i hi] at he; cases he
theorem conI_of {A : Around} (sb : Sub X (n + 1) A) {e : Nat → Bool} {pins : List (Addr × Obj)} {σ : L2.St} {xs : List V} {l : Addr} {v : Value} (rx : RelV x v) (p : ∀ (i : Nat) y, xs[i]? = some y → EqB X n y x H (e i)) (hl : H l = some (.lst xs)) :
    ConI X.prog X.w A X.xe l v xs.length e (fun _ s' => Inv X pins σ H s') := by
  intro i s' I1
  obtain ⟨z, its, k, r, ee⟩ := I1.hok l _ hl
  refine ⟨its.toArray, k, ee, by rw [List.size_toArray, ← r.length], fun h1 => ?_⟩
  have g1 : its[i]? = some its.toArray[i] := by
    have h1' : i < its.length := by simpa using h1
    rw [List.getElem?_eq_getElem h1'] <;> simp
  have k1 : i < xs.length := by rw [r.length]; simpa using h1
  obtain ⟨u, hu, ru⟩ := r.get (List.getElem?_eq_getElem k1)
  rw [g1] at hu
  rw [Option.some.inj hu]
  exact p i _ (List.getElem?_eq_getElem k1) A.in1 pins s' σ u v sb.in1 I1 ru rx
/-- x in xs -/
theorem o_inL {e : Nat → Bool} {xs : List V} (C : CxI P w K mg base k N Vz Sz G sc X) (hk : n + 1 ≤ k) (ha : H a = some (.lst xs)) (p : ∀ (i : Nat) y, xs[i]? = some y → EqB X n y x H (e i)) (t : Bool)
    (ht : (t = false → ∀ i, i < xs.length → e i = false) ∧ (t = true → ∃ i, i < xs.length ∧ e i = true)) (q : Q (.bl t) H) : wO X (compareOp .In) x (.ref a) H Q := by
  refine ⟨fun pins s σ v u I rx ry => ?_⟩
  obtain rfl : u = Value.ref a := ry
  have sb := (sub_cx C).mono hk
  refine in_conG xs.length e (fun _ s' => Inv X pins σ H s') (conI_of sb rx p ha) (fun i s' hi he I' => ?_) (fun al s' I' => ?_) I
  · cases t with
    | true => exact ⟨.bl true, H, I', rfl, q⟩
    | false => rw [ht.1 rfl i hi] at he; cases he
  · cases t with
    | false => exact ⟨.bl false, H, I', rfl, q⟩
    | true =>
      obtain ⟨i, hi, z⟩ := ht.2 rfl
      rw [al i hi] at z
      cases z
theorem o_notInL {e : Nat → Bool} {xs : List V} (C : CxI P w K mg base k N Vz Sz G sc X) (hk : n + 1 ≤ k) (ha : H a = some (.lst xs)) (p : ∀ (i : Nat) y, xs[i]? = some y → EqB X n y x H (e i)) (t : Bool)
    (ht : (t = false → ∀ i, i < xs.length → e i = false) ∧ (t = true → ∃ i, i < xs.length ∧ e i = true)) (q : Q (.bl (!t)) H) : wO X (compareOp .NotIn) x (.ref a) H Q := by
  refine ⟨fun pins s σ v u I rx ry => ?_⟩
  obtain rfl : u = Value.ref a := ry
  have sb := (sub_cx C).mono hk
  refine notIn_conG xs.length e (fun _ s' => Inv X pins σ H s') (conI_of sb rx p ha) (fun i s' hi he I' => ?_) (fun al s' I' => ?_) I
  · cases t with
    | true => exact ⟨.bl false, H, I', rfl, q⟩
    | false => rw [ht.1 rfl i hi] at he; cases he
  · cases t with
    | false => exact ⟨.bl true, H, I', rfl, q⟩
    | true =>
      obtain ⟨i, hi, z⟩ := ht.2 rfl
      rw [al i hi] at z
      cases z
end
/-! ### repr(one), by an own __repr__ -/
section
variable {prog : Program} {w : World} {A : Around} {E : Value → Shared → Prop} {s : Shared} {K : PySem.W.Frag} {x C f : Addr} {ox : Obj} {od : Option Obj}
theorem repr_K {Q : Value → Shared → Prop} (hu : A.in1.units < cLine) (X : K.In s.heap) (I : PySem.W.InstAt s.heap x ox C od) (hs : PySem.W.findIn K (.ref C) "__repr__" = some (some (.ref f))) (hf : PySem.W.isFn K (.ref f) = true)
    (hc : wpAny (model prog w) A.in1 (call (.ref f) [.ref x]) (fun r s' => ∃ m tk, r = .str m tk ∧ Q (.str m tk) s') E s) : wpAny (model prog w) A (call (.builtin "repr") [.ref x]) Q E s := by
  refine Calls.call_function_entry F.kind_repr F.plain_repr F.entry_repr (F.args_repr1 _) ?_
  unfold Builtin.«repr»
  refine wpAny_bind (m := oneArg "repr" _) (wpAny_pure ?_)
  refine wpAny_bind (wpAny_cRoomFor hu ?_)
  refine wpAny_bind (m := specialOf (.ref x) _) (wpAny_bind (I.type.here ((PySem.W.looks_findIn X hs).here ?_)))
  show wpAny _ _ (if (some (Value.ref f)).isNone = true then _ else _) _ _ _
  rw [if_neg (by simp)]
  refine wpAny_bind (m := callSpecialIfBound? (.ref x) (Str.ofString "__repr__") _) (PySem.W.ifBound_K X I hs hf (wpAny_mono hc (fun r s' hr => ?_) fun _ _ y => y))
  obtain ⟨m, tk, rfl, hq⟩ := hr
  refine wpAny_bind (wpAny_isInstance (typeIs_str _ _ _) isSubtype_str_str ?_)
  first
    | exact wpAny_pure ⟨_, rfl, hq⟩
    | (rw [if_pos rfl]; exact wpAny_pure ⟨_, rfl, hq⟩)
    | (simp only [if_true]; exact wpAny_pure ⟨_, rfl, hq⟩)
end
section
variable {P : Program} {w : World} {K : PySem.W.Frag} {mg : Str → Option Value} {base : Heap} {k j : Nat} {N Vz Sz G : List Str} {sc : Scope} {X : Cx} {H : Hp} {Q : VK} {sp : Sp} {a c dx : Addr} {fs : List (Str × V)}
theorem c_reprOwn (C : CxI P w K mg base k N Vz Sz G sc X) (M : Mo P w K mg base j c "__repr__" sp) (hj : j + 1 ≤ k) (ha : H a = some (.ins c dx fs)) (q : sp [.ref a] H (fun v H' => ∃ z : Str, v = .str z ∧ Q (.str z) H') E0) : wC X (.builtin "repr") [.ref a] H Q := by
  obtain ⟨f, fd, ps, Fk, hs, hf, hb⟩ := M.ex
  obtain ⟨rfl, rfl, rfl, rfl, rfl, _, _, hr, _, _, _, _, _⟩ := C
  refine ⟨fun pins s σ us I r => ?_⟩
  obtain ⟨u, rfl, rx⟩ := vals1 r
  obtain rfl : u = Value.ref a := rx
  obtain ⟨mA, J, _⟩ := ins_get I.hok ha
  obtain ⟨od, J, _⟩ := J.look
  have sb : Sub X (j + 1) X.A := ⟨hr.mono hj, rfl⟩
  have sb1 := sb.in1
  refine repr_K sb1.room.units0 I.kIn J hs hf ?_
  have e0 : Env0 X.prog X.w X.K X.mg X.base X.A.in1 X.stack s H := by
    have e := I.env0
    exact ⟨by rw [sb1.fr]; exact e.frames, e.mod, e.bs, e.bsz, e.funs, e.frf, e.hok, e.bare⟩
  have hl := Fk.len _ _ _ _ q
  have r2 : Vals [V.ref a] [Value.ref a] := .cons rfl .nil
  refine wpAny_call (codeAny_mono (Fk.run X.A.in1 X.stack s H ⟨[.ref a], []⟩ [.ref a] [.ref a] _ E0 sb1.room e0 (by
    have := hb s [.ref a] I.kIn (by simpa using hl)
    simpa using this) r2 q) fun r' s' hq => ?_)
  cases r' with
  | error e => exact pass0 pins σ H s e s' I hq
  | ok fl =>
    cases fl with
    | ret w =>
      obtain ⟨z, H', I', rz, t, ez, q'⟩ := I.after hq
      subst ez
      obtain ⟨tk, rfl⟩ := rz
      exact ⟨t, tk, rfl, .str t, H', I', ⟨tk, rfl⟩, q'⟩
    | next => exact False.elim hq
    | brk => exact False.elim hq
    | cont => exact False.elim hq
end
end Rp
namespace Rp
open PySem PySem.Spec PyProof.Rows L2
/-! ### sizes of texts -/
def Sz (s : Str) (n : Nat) : Prop := s.length ≤ n
theorem slen_app (a b : Str) : (a ++ b).length = a.length + b.length := by first | exact PySem.Str.length_append a b | simp
theorem Sz.app {a b : Str} {n m : Nat} (h : Sz a n) (k : Sz b m) : Sz (a ++ b) (n + m) := by unfold Sz at *; rw [slen_app]; omega
theorem Sz.lit (s : Str) : Sz s s.length := Nat.le_refl _
theorem Sz.mono {s : Str} {n m : Nat} (h : Sz s n) (k : n ≤ m) : Sz s m := Nat.le_trans h k
section
variable {P : Program} {w : World} {K : PySem.W.Frag} {mg : Str → Option Value} {base : Heap} {k j : Nat} {N Vz Sz' G : List Str} {sc : Scope} {X : Cx} {σ : L2.St} {H : Hp} {Q : VK} {x y : Str} {n m : Nat}
theorem o_addS (h1 : Sz x n) (h2 : Sz y m) (h : n + m ≤ sizeLine) (q : Q (.str (x ++ y)) H) : wO X (binaryOp .Add) (.str x) (.str y) H Q :=
  wO.of op_add_str ⟨x, y, rfl, rfl, Nat.le_trans (Nat.add_le_add h1 h2) h, q⟩
theorem o_neS (q : Q (.bl (decide (x ≠ y))) H) : wO X (compareOp .NotEq) (.str x) (.str y) H Q :=
  wO.of op_ne ⟨rfl, by rw [show (!decide (V.str x = V.str y)) = decide (x ≠ y) by simp]; exact q⟩
theorem o_eqSS (q : Q (.bl (decide (x = y))) H) : wO X (compareOp .Eq) (.str x) (.str y) H Q :=
  wO.of op_eq ⟨rfl, by rw [show decide (V.str x = V.str y) = decide (x = y) by simp]; exact q⟩
theorem o_neB {a b : Bool} (q : Q (.bl (decide (a ≠ b))) H) : wO X (compareOp .NotEq) (.bl a) (.bl b) H Q :=
  wO.of op_ne ⟨rfl, by rw [show (!decide (V.bl a = V.bl b)) = decide (a ≠ b) by simp]; exact q⟩
theorem c_strB {b : Bool} (q : Q (.str (if b then "True" else "False")) H) : wC X (.type "str") [.bl b] H Q := by
  refine ⟨fun pins s σ us I r => ?_⟩
  obtain ⟨u, rfl, rx⟩ := vals1 r
  obtain rfl : u = Value.bool b := rx
  exact PySem.P.str_of_bool ⟨.str _, H, I.tok _, ⟨_, rfl⟩, q⟩
theorem c_reprB {b : Bool} (q : Q (.str (if b then "True" else "False")) H) : wC X (.builtin "repr") [.bl b] H Q := by
  refine ⟨fun pins s σ us I r => ?_⟩
  obtain ⟨u, rfl, rx⟩ := vals1 r
  obtain rfl : u = Value.bool b := rx
  exact PySem.P.repr_of_bool ⟨.str _, H, I.tok _, ⟨_, rfl⟩, q⟩
theorem c_reprN (q : Q (.str "None") H) : wC X (.builtin "repr") [.non] H Q := by
  refine ⟨fun pins s σ us I r => ?_⟩
  obtain ⟨u, rfl, rx⟩ := vals1 r
  obtain rfl : u = Value.none := rx
  exact PySem.P.repr_of_none ⟨.str _, H, I.tok _, ⟨_, rfl⟩, q⟩
/-! ### dicts -/
variable {e o kx vx : Expr} {pos apos : Pos}
theorem wE_dnewK (q : ∀ p H2, H p = none → Ex H H2 → H2 p = some (.dK []) → Q (.ref p) H2) : wE X (.Dict [] [] pos) σ H Q := wE.of pe_dnewK fun p hp => q p _ hp (Ex.upd hp) upd_same
/-- {k: v} -/
theorem wE_disp1 (q : ∀ p H1, H p = none → Ex H H1 → H1 p = some (.dK []) → wE X kx σ H1 fun x H2 => wE X vx σ H2 fun y H3 => H3 p = some (.dK []) ∧ ∃ kk : Key, x = kV kk ∧ ∀ H4, Exb p H3 H4 → H4 p = some (.dK [(kk, y)]) → Q (.ref p) H4) :
    wE X (.Dict [some kx] [vx] pos) σ H Q := by
  refine wE.of (pe_disp (pps_cons (wE.pe (e := kx)) (wE.pe (e := vx)) pps_nil) rfl rfl (by simp) (by show 1 ≤ 15; decide)) fun p hp => ?_
  refine ⟨fun pins s I => thn ((q p _ hp (Ex.upd hp) upd_same).run pins s I) ?_⟩
  rintro u s1 ⟨x, H1, I1, r1, q1⟩
  refine ⟨x, H1, I1, r1, ⟨fun pins s I => thn (q1.run pins s I) ?_⟩⟩
  rintro u s1 ⟨y, H2, I2, r2, q2, kk, rfl, q3⟩
  exact ⟨y, H2, I2, r2, q2, [(kk, y)], rfl, by show 1 ≤ 15; decide, q3 _ Exb.upd upd_same⟩
/-- xs.index(e), flat things -/
def IxQ (K : PySem.W.Frag) (a : Addr) (ys : List V) (y : V) (H : Hp) (R : Int → Prop) : Prop := ∃ (j : Nat) (z : V), SqL K H a ys ∧ flatV y = true ∧ ys.all flatV = true ∧ ys[j]? = some z ∧ eqV z y = true ∧ (∀ (m : Nat) (z' : V), m < j → ys[m]? = some z' → eqV z' y = false) ∧ R (j : Nat)
theorem wE_index (C : CxI P w K mg base k N Vz Sz' G sc X) (hbase : attributeBase o "index" X.env (eval o X.env) = eval o X.env)
    (hfew : ((backTo pos (starEach [e] X.env)).all (fun x => !x.1) && (backToKw pos (keywordEach [] X.env)).all (fun x => x.1.isSome) && decide ([e].length + ([] : List Keyword).length + (if ([] : List Keyword).isEmpty then 0 else 1) < 30)) = true)
    (hline : (apos.endLine == pos.line) = true) (hs : starEach [e] X.env = (false, eval e X.env) :: starEach [] X.env) (hplain : (backTo pos (starEach [] X.env)).any (·.1) = false)
    (q : wE X o σ H fun x H1 => ∃ l xs, x = .ref l ∧ SqL K H1 l xs ∧ wE X e σ H1 fun y H2 => IxQ K l xs y H2 fun i => Q (.int i) H2) :
    wE X (.Call (.Attribute o "index" apos) [e] [] pos) σ H Q := by
  refine wE.of (pe_bm (T := "list") F.plainAttrs_list F.slot_list_index F.type_list_index mt_index wE.pe wA.pa hbase hfew hline hs hplain) ?_
  refine ⟨fun pins s I => thn (q.run pins s I) fun u s1 ⟨x, H1, I1, r1, l, xs, ex, hl, z⟩ => ⟨x, H1, I1, r1, ?_, ?_⟩⟩
  · subst ex
    exact .inl ⟨rfl, _, by rw [C.eK]; exact hl⟩
  · refine wA_cons hs ?_
    refine ⟨fun pins2 s2 I2 => thn (z.run pins2 s2 I2) fun u2 s3 ⟨y, H2, I3, r2, j, z', h1, h2, h3, h4, h5, h6, h7⟩ => ⟨y, H2, I3, r2, ?_⟩⟩
    exact wA_nil ⟨l, xs, y, j, z', ex, rfl, by rw [C.eK]; exact h1, h2, h3, h4, h5, h6, h7⟩
end
/-! ### texts of numbers, joined texts: which are alike -/
open TL
def numT (i : Int) : Str := Str.ofString (toString i)
theorem tl_of (s : String) : TL.tl (Str.ofString s) = s.toList.map Char.toNat := by rw [Str.ofString_eq_toList]
theorem numT_tl {i : Int} (h : 0 ≤ i) : TL.tl (numT i) = (Nat.toDigits 10 i.toNat).map Char.toNat := by
  obtain ⟨n, rfl⟩ := Int.eq_ofNat_of_zero_le h
  unfold numT
  rw [tl_of]
  have e : (toString (n : Int)) = n.repr := rfl
  rw [e, Nat.toList_repr, Int.toNat_natCast]
theorem numT_digit {i : Int} (h : 0 ≤ i) : ∀ c ∈ TL.tl (numT i), 48 ≤ c ∧ c ≤ 57 := by
  rw [numT_tl h]
  intro c hc
  obtain ⟨d, hd, rfl⟩ := List.mem_map.mp hc
  have z := Nat.isDigit_of_mem_toDigits (b := 10) (by decide) (by decide) hd
  unfold Char.isDigit at z
  rw [Bool.and_eq_true, decide_eq_true_eq, decide_eq_true_eq] at z
  obtain ⟨z1, z2⟩ := z
  have a1 : (48 : UInt32).toNat ≤ d.val.toNat := UInt32.le_iff_toNat_le.mp z1
  have a2 : d.val.toNat ≤ (57 : UInt32).toNat := UInt32.le_iff_toNat_le.mp z2
  exact ⟨a1, a2⟩
theorem numT_inj {i j : Int} (hi : 0 ≤ i) (hj : 0 ≤ j) (h : numT i = numT j) : i = j := by
  have z := congrArg TL.tl h
  rw [numT_tl hi, numT_tl hj] at z
  have inj : ∀ a b : Char, a.toNat = b.toNat → a = b := fun a b e => Char.ext (UInt32.toNat_inj.mp e)
  have z2 := List.map_inj_right (f := Char.toNat) (fun {a b} e => inj a b e) |>.mp z
  have z3 := congrArg (fun l => Nat.ofDigitChars 10 l 0) z2
  simp only [Nat.ofDigitChars_ten_toDigits] at z3
  omega
theorem app_left {a b c : Str} (h : a ++ b = a ++ c) : b = c := by
  have z := congrArg TL.tl h
  rw [TL.tl_append, TL.tl_append] at z
  exact TL.ext_tl (List.append_cancel_left z)
theorem app_right {a b c : Str} (h : a ++ c = b ++ c) : a = b := by
  have z := congrArg TL.tl h
  rw [TL.tl_append, TL.tl_append] at z
  exact TL.ext_tl (List.append_cancel_right z)
theorem join_inj {y : Str} {s : Nat} {S : List Nat} (ey : TL.tl y = s :: S) (hk : y.cps.all (· < 256) = true) {ps qs : List Str} (h1 : ps ≠ []) (h2 : qs ≠ []) (hp : ∀ p ∈ ps, s ∉ TL.tl p) (hq : ∀ p ∈ qs, s ∉ TL.tl p)
    (h : Txt.join y ps = Txt.join y qs) : ps = qs := by
  rw [← TL.split_join ey hk h1 hp, ← TL.split_join ey hk h2 hq, h]
/-- a part that may be left out -/
theorem opt_part {α : Type} (f : α → Nat) (c : Nat) {A A' B B' : List α} (hA : ∀ x ∈ A, f x = c) (hA' : ∀ x ∈ A', f x = c) (l : A.length ≤ 1) (l' : A'.length ≤ 1) (hB : ∀ x ∈ B, f x ≠ c) (hB' : ∀ x ∈ B', f x ≠ c) (h : A ++ B = A' ++ B') : A = A' ∧ B = B' := by
  match A, A', hA, hA', l, l', h with
  | [], [], _, _, _, _, h => exact ⟨rfl, h⟩
  | [x], [y], _, _, _, _, h => rw [List.cons_append, List.cons_append, List.nil_append, List.nil_append] at h; injection h with h1 h2; exact ⟨by rw [h1], h2⟩
  | [], [y], _, hA', _, _, h =>
    rw [List.nil_append, List.cons_append, List.nil_append] at h
    exact absurd (hA' y List.mem_cons_self) (hB y (by rw [h]; exact List.mem_cons_self))
  | [x], [], hA, _, _, _, h =>
    rw [List.nil_append, List.cons_append, List.nil_append] at h
    exact absurd (hA x List.mem_cons_self) (hB' x (by rw [← h]; exact List.mem_cons_self))
  | _ :: _ :: _, _, _, _, l, _, _ => simp at l
  | _, _ :: _ :: _, _, _, _, l', _ => simp at l'
/-- the first sign -/
def sgn (s : Str) : Nat := (TL.tl s).headD 0
end Rp
namespace Rp
open PySem PySem.Spec PyProof.Rows L2
section
variable {P : Program} {w : World} {K : PySem.W.Frag} {mg : Str → Option Value} {base : Heap} {k : Nat} {N Vz Sz G Vc Sc' Gc : List Str} {sc scope : Scope} {X : Cx} {elt tg it c : Expr} {ifs : List Expr} {σ : L2.St} {H : Hp} {pos : Pos} {Q : VK} {D : Ends}
/-- y = [.. for .. in a list] on one line -/
theorem wS_lcL {y : Str} {py spos : Pos} (own : List (Str × Nat)) (Vc Sc' Gc : List Str) (C : CxI P w K mg base k N Vz Sz G sc X) (ob : blkC N sc scope own = true) (ok : namesOk Vc Sc' Gc (relS scope sc) = true) (hl : localsOk Sc' (relS scope sc) = true) (hk : scope.kind = .function)
    (hyN : y ∈ N) (hy : (sc.names.lookup y == some .local) = true) (hp : (py.line == pos.line) = true) (ha : (scope.names.any fun (n, k) => n == y && (k == .local || k == .cell)) = false)
    (hf : ∀ x, foldedSetIterable it X.env x = pure x) (q : wE X it σ H fun v H1 => LcL P w K mg base k N Vc Sc' Gc (relS scope sc) (own.map (·.2)) elt tg ifs σ v H1 fun Da H => Put N σ y (.ref Da) fun σ' => D.nx σ' H) :
    wS X (.Assign [.Name y py] (.ListComp elt [⟨tg, it, ifs, 0⟩] scope pos) spos) D σ H := by
  have hyl : X.env.scope.names.lookup y = some .local := by rw [C.es]; exact eq_of_beq hy
  have hin : ∃ i, N[i]? = some y ∧ ∀ (v : V) R, Put N σ y v R → R (σ.set i (some v)) := by
    obtain ⟨i, hi⟩ := List.getElem?_of_mem hyN
    refine ⟨i, hi, fun v R q => ?_⟩
    obtain ⟨σ', p, r⟩ := q
    obtain ⟨j, hj, rfl⟩ := p.ix
    rw [nodup_ix C.nd hi hj]
    exact r
  obtain ⟨i, hi, hput⟩ := hin
  refine wS.of (ps_setLc (i := i) C.calm (by rw [C.eN]; exact C.nd) (by rw [C.eN]; exact hi) hyl (sw_true (by rw [C.es]; exact C.fk) hyl hp ha) (pi_list wE.pe) (blkOk_by (own := own) (by rw [C.eN, C.es]; exact ob)) (blk_pg C ok hl hk) (fun s H Ca cl fp => blk_pts C ok hl hk s H Ca cl fp ifs) (blk_pe C ok hl hk) hf) ?_
  show wE X it σ H _
  refine ⟨fun pins s I => thn (q.run pins s I) ?_⟩
  rintro u s1 ⟨v, H1, I1, r1, q1⟩
  refine ⟨v, H1, I1, r1, lcL_read (Q := fun x H => gName i x σ H D.nx) (s := s1) (u := u) (pins := pins) C ?_⟩
  obtain ⟨ad, xs, e, hS, q1⟩ := q1
  refine ⟨ad, xs, e, hS, fun Da hD => ?_⟩
  obtain ⟨Pv, h0, hl, hs, hd⟩ := q1 Da hD
  exact ⟨Pv, h0, hl, hs, fun H hp => hput _ _ (hd H hp)⟩
end
/-- the names of the built-in types of things -/
def oddTs : List String := ["NoneType", "bool", "int", "str", "list", "tuple", "dict"]
/-- what is known of a class with an own == -/
structure ClsF (K : PySem.W.Frag) (C : Addr) : Prop where
  sub1 : ∀ T ∈ oddTs, PySem.W.subIn K (.type T) (.ref C) = some false
  sub2 : ∀ T ∈ oddTs, PySem.W.subIn K (.ref C) (.type T) = some false
  kit : ∀ T ∈ oddTs, PySem.W.kitOne K (.type T) (.ref C) = some false
  mro : PySem.W.mroIn K C (.type "object") = some true
  hne : PySem.W.findIn K (.ref C) "__ne__" = some (some (.builtin "object.__ne__"))
  ha : PySem.W.findIn K (.ref C) "__class__" = some (some (.builtin "object.__class__"))
  hn : PySem.W.specialIn K (.builtin "object.__class__") "__get__" = some (some (.builtin "getset_descriptor.__get__"))
  ht : PySem.W.takesIn K (.builtin "object.__class__") = some true
def clsFB (K : PySem.W.Frag) (C : Addr) : Bool :=
  (oddTs.all fun T => decide (PySem.W.subIn K (.type T) (.ref C) = some false) && (decide (PySem.W.subIn K (.ref C) (.type T) = some false) && decide (PySem.W.kitOne K (.type T) (.ref C) = some false))) &&
  (decide (PySem.W.mroIn K C (.type "object") = some true) && (He.eqO (PySem.W.findIn K (.ref C) "__ne__") (some (some (.builtin "object.__ne__"))) && (He.eqO (PySem.W.findIn K (.ref C) "__class__") (some (some (.builtin "object.__class__"))) &&
  (He.eqO (PySem.W.specialIn K (.builtin "object.__class__") "__get__") (some (some (.builtin "getset_descriptor.__get__"))) && decide (PySem.W.takesIn K (.builtin "object.__class__") = some true)))))
theorem clsFB_ok {K : PySem.W.Frag} {C : Addr} (h : clsFB K C = true) : ClsF K C := by
  unfold clsFB at h
  rw [Bool.and_eq_true, Bool.and_eq_true, Bool.and_eq_true, Bool.and_eq_true, Bool.and_eq_true] at h
  obtain ⟨h1, h2, h3, h4, h5, h6⟩ := h
  have z := List.all_eq_true.mp h1
  refine ⟨fun T hT => ?_, fun T hT => ?_, fun T hT => ?_, of_decide_eq_true h2, He.eqO_ok h3, He.eqO_ok h4, He.eqO_ok h5, of_decide_eq_true h6⟩
  all_goals
    have y := z T hT
    rw [Bool.and_eq_true, Bool.and_eq_true] at y
  · exact of_decide_eq_true y.1
  · exact of_decide_eq_true y.2.1
  · exact of_decide_eq_true y.2.2
section
variable {K : PySem.W.Frag} {X : Cx} {H : Hp} {y : V} {T : String}
theorem ty_dct {p : Addr} {kvs : List (Key × V)} (h : H p = some (.dK kvs)) : TyV X (.ref p) H (.type "dict") := fun pins σ s u I r => by
  obtain rfl : u = Value.ref p := r
  obtain ⟨_, _, _, _, o, _, _, e, ex, _⟩ := (show ObjOk X.prog X.w H s.heap p (.dK kvs) from I.hok p _ h)
  exact ty_at e ex.1
theorem Thg.tyV (h : Thg H y T) : TyV X y H (.type T) := by
  cases h with
  | non => exact ty_non
  | bl b => exact ty_bl
  | int i => exact ty_int
  | str z => exact ty_str
  | lst e => exact ty_lst e
  | tup e => exact ty_tup e
  | dct e => exact ty_dct e
theorem Thg.tyX (h : Thg H y T) : TyX K H y (.type T) := by
  cases h with
  | non => exact .base .non
  | bl b => exact .base (.bl b)
  | int i => exact .base (.int i)
  | str z => exact .base (.str z)
  | lst e => exact .base (.lst e)
  | tup e => exact .base (.tup e)
  | dct e => exact .base (.dK e)
theorem Thg.odd (h : Thg H y T) : T ∈ oddTs := by
  cases h <;> decide
theorem Thg.ex {H' : Hp} (h : Thg H y T) (e : Ex H H') : Thg H' y T := by
  cases h with
  | non => exact .non
  | bl b => exact .bl b
  | int i => exact .int i
  | str z => exact .str z
  | lst q => exact .lst (e _ _ q)
  | tup q => exact .tup (e _ _ q)
  | dct q => exact .dct (e _ _ q)
theorem ClsF.nf {C : Addr} (F : ClsF K C) (h : T ∈ oddTs) : PySem.W.notFirst K C (.type T) = true := by
  unfold PySem.W.notFirst
  rw [F.sub1 T h]
  simp
theorem ClsF.ty {C a dx : Addr} {fs : List (Str × V)} (F : ClsF K C) (c : Cls K C) (h : H a = some (.ins C dx fs)) : TyX K H (.ref a) (.ref C) := .base (.ins h c F.ha F.hn F.ht F.mro)
theorem nf_self {C : Addr} : PySem.W.notFirst K C (.ref C) = true := by unfold PySem.W.notFirst; simp
end
end Rp
namespace Rp
open PySem PySem.Spec PyProof.Rows L2
section
variable {P : Program} {w : World} {K : PySem.W.Frag} {mg : Str → Option Value} {base : Heap} {k : Nat} {N Vz Sz' G Vc Sc' Gc : List Str} {sc scope : Scope} {X : Cx} {elt tg it c e o : Expr} {ifs : List Expr} {σ : L2.St} {H : Hp} {pos apos p1 p2 : Pos} {Q : VK} {D : Ends} {m n : Int} {x y : Str}
/-! ### wide division -/
theorem pylong_no {n : Int} (h0 : 0 < n) (h1 : n < 4611686018427387904) : Builtin.divisionGoesByPylong m n = false := PyProof.noPylong_of_log2 (by
  have z : n.natAbs < 2 ^ 62 := by
    have e : (2 : Nat) ^ 62 = 4611686018427387904 := by decide
    omega
  by_cases hz : n.natAbs = 0
  · rw [hz]; decide
  · exact Nat.lt_trans ((Nat.log2_lt hz).mpr z) (by decide))
theorem c_divmodW (h1 : 0 < n) (h2 : n < 4611686018427387904) (q : ∀ p H2, H p = none → Ex H H2 → H2 p = some (.tup [.int (m / n), .int (m % n)]) → Q (.ref p) H2) : wC X (.builtin "divmod") [.int m, .int n] H Q :=
  wC.of call_divmodW ⟨m, n, rfl, ⟨h1, pylong_no h1 h2⟩, fun p hp => q p _ hp (Ex.upd hp) upd_same⟩
/-! ### comprehensions over a text, a range -/
def LcS (P : Program) (w : World) (K : PySem.W.Frag) (mg : Str → Option Value) (base : Heap) (k : Nat) (N Vc Sc' Gc : List Str) (scope : Scope) (vs : List Nat) (elt tg : Expr) (ifs : List Expr) (σ : L2.St) (v : V) (H1 : Hp) (Q : Addr → Hp → Prop) : Prop :=
  ∃ z : Str, v = .str z ∧ ∀ D, H1 D = none → ∃ Pv : Nat → Hp → Prop, Pv 0 (L2.upd H1 D (.lst [])) ∧
    (∀ i c H, z.cps[i]? = some c → Pv i H → LcStep P w K mg base k N Vc Sc' Gc scope vs elt tg ifs σ D (.str ⟨#[c]⟩) H (Pv (i + 1))) ∧ ∀ H, Pv z.cps.size H → Q D H
theorem wE_lcS (own : List (Str × Nat)) (Vc Sc' Gc : List Str) (C : CxI P w K mg base k N Vz Sz' G sc X) (ob : blkC N sc scope own = true) (ok : namesOk Vc Sc' Gc (relS scope sc) = true) (hl : localsOk Sc' (relS scope sc) = true) (hk : scope.kind = .function)
    (hf : ∀ x, foldedSetIterable it X.env x = pure x) (q : wE X it σ H fun v H1 => LcS P w K mg base k N Vc Sc' Gc (relS scope sc) (own.map (·.2)) elt tg ifs σ v H1 fun D H => Q (.ref D) H) :
    wE X (.ListComp elt [⟨tg, it, ifs, 0⟩] scope pos) σ H Q := by
  refine wE.of (pe_lc C.calm (by rw [C.eN]; exact C.nd) (pi_str wE.pe) (blkOk_by (own := own) (by rw [C.eN, C.es]; exact ob)) (blk_pg C ok hl hk) (fun s H Ca cl fp => blk_pts C ok hl hk s H Ca cl fp ifs) (blk_pe C ok hl hk) hf) ?_
  show wE X it σ H _
  refine ⟨fun pins s I => thn (q.run pins s I) ?_⟩
  rintro u s1 ⟨v, H1, I1, r1, z, rfl, q1⟩
  refine ⟨_, H1, I1, r1, z, rfl, fun D hD => ?_⟩
  obtain ⟨Pv, h0, hs, hd⟩ := q1 D hD
  refine ⟨fun i m H => m = z.cps.size - i ∧ i ≤ z.cps.size ∧ Pv i H, ⟨z.cps.size, rfl, Nat.zero_le _, h0⟩, ?_⟩
  rintro i m H ⟨rfl, hi, p⟩
  by_cases hlt : i < z.cps.size
  · refine .inr ⟨hlt, Pv (i + 1), fun H' p' => ⟨z.cps.size - (i + 1), by omega, rfl, hlt, p'⟩, fun x H' y => ?_⟩
    obtain ⟨rfl, c, hc, rfl⟩ := y
    exact hs i c H' hc p
  · have e' : i = z.cps.size := by omega
    subst e'
    exact .inl ⟨Nat.le_refl _, hd H p⟩
def LcR (P : Program) (w : World) (K : PySem.W.Frag) (mg : Str → Option Value) (base : Heap) (k : Nat) (N Vc Sc' Gc : List Str) (scope : Scope) (vs : List Nat) (elt tg : Expr) (ifs : List Expr) (σ : L2.St) (v : V) (H1 : Hp) (Q : Addr → Hp → Prop) : Prop :=
  ∃ n : Nat, v = .int n ∧ n < 1000000 ∧ ∀ D, H1 D = none → ∃ Pv : Nat → Hp → Prop, Pv 0 (L2.upd H1 D (.lst [])) ∧
    (∀ i H, i < n → Pv i H → LcStep P w K mg base k N Vc Sc' Gc scope vs elt tg ifs σ D (.int i) H (Pv (i + 1))) ∧ ∀ H, Pv n H → Q D H
/-- [.. for .. in range(e)] -/
theorem wE_lcR (own : List (Str × Nat)) (Vc Sc' Gc : List Str) (C : CxI P w K mg base k N Vz Sz' G sc X) (ob : blkC N sc scope own = true) (ok : namesOk Vc Sc' Gc (relS scope sc) = true) (hl : localsOk Sc' (relS scope sc) = true) (hk : scope.kind = .function)
    (hm : mg "range" = none) (hx : ("range" : Str) ∈ G) (hst : starEach [e] X.env = [(false, eval e X.env)])
    (q : wE X e σ H fun v H1 => LcR P w K mg base k N Vc Sc' Gc (relS scope sc) (own.map (·.2)) elt tg ifs σ v H1 fun D H => Q (.ref D) H) :
    wE X (.ListComp elt [⟨tg, .Call (.Name "range" p1) [e] [] p2, ifs, 0⟩] scope pos) σ H Q := by
  obtain ⟨l, _, _⟩ := C.glo hx
  refine wE.of (pe_lc C.calm (by rw [C.eN]; exact C.nd) (pi_range1 l (by rw [C.em]; exact hm) (pa_cons wE.pe pa_nil hst) hst) (blkOk_by (own := own) (by rw [C.eN, C.es]; exact ob)) (blk_pg C ok hl hk) (fun s H Ca cl fp => blk_pts C ok hl hk s H Ca cl fp ifs) (blk_pe C ok hl hk) (fun _ => rfl)) ?_
  refine ⟨fun pins s I => thn (q.run pins s I) ?_⟩
  rintro u s1 ⟨v, H1, I1, r1, n, rfl, hn, q1⟩
  refine ⟨_, H1, I1, r1, n, rfl, by omega, by omega, ?_⟩
  rw [show ((n : Int).toNat) = n from Int.toNat_natCast n]
  intro D hD
  obtain ⟨Pv, h0, hs, hd⟩ := q1 D hD
  refine ⟨fun i m H => m = n - i ∧ i ≤ n ∧ Pv i H, ⟨n, rfl, Nat.zero_le _, h0⟩, ?_⟩
  rintro i m H ⟨rfl, hi, p⟩
  by_cases hlt : i < n
  · refine .inr ⟨hlt, Pv (i + 1), fun H' p' => ⟨n - (i + 1), by omega, rfl, hlt, p'⟩, fun x H' y => ?_⟩
    obtain ⟨rfl, rfl⟩ := y
    rw [Int.zero_add]
    exact hs i H' hlt p
  · have e' : i = n := by omega
    subst e'
    exact .inl ⟨Nat.le_refl _, hd H p⟩
/-! ### texts -/
theorem o_inSign {c : Nat} (q : Q (.bl (decide (c ∈ y.cps.toList))) H) : wO X (compareOp .In) (.str ⟨#[c]⟩) (.str y) H Q := wO.of op_in_sign ⟨c, y, rfl, rfl, q⟩
theorem c_all {a : Addr} {bs : List Bool} (C : CxI P w K mg base k N Vz Sz' G sc X) (h : SqL K H a (bs.map V.bl)) (q : Q (.bl (bs.all id)) H) : wC X (.builtin "all") [.ref a] H Q := wC.of (cr_all C.calm) ⟨a, bs, rfl, by rw [C.eK]; exact h, q⟩
theorem i_str {c d : Expr} {z : Str} {j : Nat} (hs : PlainIx d) (hz : z.length ≤ sizeLine) (hi : atI z.cps.toList m = some j) (q : Q (.str ⟨#[j]⟩) H) : wIx X c d (.str z) (.int m) H Q := wIx_of ix_str hs ⟨z, m, j, rfl, rfl, hz, hi, q⟩
theorem c_lenS {z : Str} (hz : z.length ≤ sizeLine) (q : Q (.int z.length) H) : wC X (.builtin "len") [.str z] H Q := wC.of call_len_str ⟨z, rfl, hz, q⟩
theorem c_intB {b : Bool} (q : Q (.int (if b then 1 else 0)) H) : wC X (.type "int") [.bl b] H Q := wC.of call_int1 (.inr ⟨b, rfl, q⟩)
theorem o_notB {a b : Bool} (q : Q (.bl (!decide (a = b))) H) : wO X (compareOp .IsNot) (.bl a) (.bl b) H Q := wO.of op_isnot_bl ⟨a, b, rfl, rfl, q⟩
/-- one sign so many times -/
theorem o_mulS {c : Nat} (h1 : 1 ≤ n) (h2 : n ≤ 1000) (q : Q (.str ⟨(List.replicate n.toNat c).toArray⟩) H) : wO X (binaryOp .Mult) (.str ⟨#[c]⟩) (.int n) H Q := by
  refine ⟨fun pins s σ v u I rx ry => ?_⟩
  obtain ⟨t, rfl⟩ := rx
  obtain ⟨t', rfl⟩ := ry
  have hl : (⟨#[c]⟩ : Str).length = 1 := rfl
  have fold : ∀ (k : Nat) (acc : Array Nat), (List.replicate k (#[c] : Array Nat)).foldl (· ++ ·) acc = acc ++ (List.replicate k c).toArray := by
    intro k
    induction k with
    | zero => intro acc; simp
    | succ k ih => intro acc; rw [List.replicate_succ, List.foldl_cons, ih, List.replicate_succ]; apply Array.ext'; simp
  refine PySem.P.mul_str ?_ (fun _ _ => ?_) (fun _ _ => ?_) ?_
  · have e1 : ¬ n < -(2 ^ 63 : Int) := by omega
    have e2 : ¬ n ≥ 2 ^ 63 := by omega
    rw [decide_eq_false e1, decide_eq_false e2]; rfl
  · rw [hl]
    have : (2 ^ 63 - 1) / 1000 ≤ ((2 ^ 63 - 1) / n : Int) := (by
      refine Int.le_ediv_of_mul_le (by omega) ?_
      have : (2 ^ 63 - 1) / 1000 * n ≤ (2 ^ 63 - 1) / 1000 * 1000 := Int.mul_le_mul_of_nonneg_left h2 (by decide)
      refine Int.le_trans this (by decide))
    have e : (1 : Int) ≤ (2 ^ 63 - 1) / 1000 := by decide
    have e' : ((1 : Nat) : Int) = 1 := rfl
    omega
  · rw [hl]
    unfold PySem.Builtin.Str.tooLong
    simp only [Nat.one_mul]
    have : n.toNat ≤ 1000 := by omega
    first
      | (rw [decide_eq_false]; rw [sizeLine_eq]; omega)
      | (simp only [decide_eq_false_iff_not]; rw [sizeLine_eq]; omega)
  · rw [if_neg (by omega)]
    split
    · rename_i z
      have hn : n = 1 := by
        rcases Bool.or_eq_true_iff.mp z with z | z
        · exact eq_of_beq z
        · rw [hl] at z; cases z
      subst hn
      exact ⟨.str ⟨#[c]⟩, H, I, ⟨t, rfl⟩, q⟩
    · rw [fold]
      refine ⟨?_, ⟨.str ⟨(List.replicate n.toNat c).toArray⟩, H, I.tok _, ⟨s.toks, by simp⟩, q⟩⟩
      show (#[] ++ (List.replicate n.toNat c).toArray).size ≤ sizeLine
      rw [sizeLine_eq]
      simp only [Array.size_append, List.size_toArray, List.length_replicate, List.length_nil]
      omega
/-! ### a table with text keys -/
theorem o_inTab {d : Addr} {es : Array DictEntry} {nn : Nat} {r : Option Value} (C : CxI P w K mg base k N Vz Sz' G sc X) (T : KDict K w d es nn) (h : PySem.W.nsIn K d x = some r) (q : Q (.bl r.isSome) H) : wO X (compareOp .In) (.str x) (.ref d) H Q := by
  obtain ⟨rfl, rfl, rfl, _⟩ := C
  exact wO.of (op_in_kd T) ⟨x, r, rfl, rfl, h, q⟩
theorem i_tab {c d : Expr} {p : Addr} {es : Array DictEntry} {nn : Nat} {u0 : Value} {v0 : V} (C : CxI P w K mg base k N Vz Sz' G sc X) (hs : PlainIx d) (T : KDict K w p es nn) (h : PySem.W.nsIn K p x = some (some u0)) (r : RelV v0 u0) (q : Q v0 H) : wIx X c d (.ref p) (.str x) H Q := by
  obtain ⟨rfl, rfl, rfl, _⟩ := C
  exact wIx_of ix_kdict hs ⟨p, x, v0, rfl, rfl, ⟨es, nn, u0, T.at_, T.lit, h, r⟩, q⟩
/-! ### f-strings, more -/
def FrQ (x : V) (H : Hp) (Q : VK) : Prop := (∃ y : Str, x = .str y ∧ (reprText y).length ≤ sizeLine ∧ Q (.str (reprText y)) H) ∨ ∃ i : Int, x = .int i ∧ i.natAbs.log2 < 1920 ∧ Q (.str (toString i)) H
theorem wE_fmtR (q : wE X e σ H fun x H1 => FrQ x H1 Q) : wE X (.FormattedValue e 114 none pos) σ H Q := wE.of (pe_fmtR wE.pe) q
theorem fr_s (h : (reprText y).length ≤ sizeLine) (q : Q (.str (reprText y)) H) : FrQ (.str y) H Q := .inl ⟨y, rfl, h, q⟩
/-- {x} of a truth -/
theorem wE_fmtB {e : Expr} (q : wE X e σ H fun x H1 => ∃ b : Bool, x = .bl b ∧ Q (.str (if b then "True" else "False")) H1) : wE X (.FormattedValue e (-1) none pos) σ H Q := by
  refine ⟨fun pins s I => ?_⟩
  refine wpAny_FormattedValue_plain (thn (q.run pins s I) ?_)
  rintro u s1 ⟨x, H1, I1, r1, b, rfl, q1⟩
  obtain rfl : u = Value.bool b := r1
  exact wpAny_formatField_bool ⟨.str _, H1, (I1.tok _).tok _, ⟨_, rfl⟩, q1⟩
end
end Rp
namespace Rp
open PySem PySem.Spec PyProof.Rows L2
/-! ### zip of three: a list, a tuple, a list; or three lists -/
/-- b: the second one is a tuple -/
def SqB (K : PySem.W.Frag) (b : Bool) (H : Hp) (a : Addr) (xs : List V) : Prop := if b = true then SqT K H a xs else SqL K H a xs
def Itz3 (K : PySem.W.Frag) (a b c : Addr) (k : Bool) : It :=
  ⟨fun i H => ∃ (xs ys us : List V) (x y u : V), SqL K H a xs ∧ SqB K k H b ys ∧ SqL K H c us ∧ xs[i]? = some x ∧ ys[i]? = some y ∧ us[i]? = some u,
    fun i H v H' => ∃ T x y u, v = .ref T ∧ H T = none ∧ H' = upd H T (.tup [x, y, u]) ∧ (∀ xs, SqL K H a xs → xs[i]? = some x) ∧ (∀ ys, SqB K k H b ys → ys[i]? = some y) ∧ ∀ us, SqL K H c us → us[i]? = some u,
    fun i H => ∃ xs ys us : List V, SqL K H a xs ∧ SqB K k H b ys ∧ SqL K H c us ∧ xs.length = i ∧ ys.length = i ∧ us.length = i⟩
def ItrB (k : Bool) (h : Heap) (it l : Addr) (i : Nat) : Prop := if k = true then h.IsTupleIter it l i else h.IsListIter it l i
def St3 (z TI TO i1 i2 i3 a b c : Addr) (k : Bool) (i : Nat) (h : Heap) : Prop := IsZip h z TI TO .none ∧ IsTupOf3 h TI (.ref i1) (.ref i2) (.ref i3) ∧ (∃ a1 a2 a3, IsTupOf3 h TO a1 a2 a3) ∧ h.IsListIter i1 a i ∧ ItrB k h i2 b i ∧ h.IsListIter i3 c i
def IsB2 (k : Bool) (h : Heap) (l : Addr) (its : Array Value) : Prop := if k = true then h.IsTuple l its else h.IsList l its
def drawsB {prog : Program} {w : World} {A : Around} (hh : A.handled = none) (k : Bool) (it l : Addr) (hne : l ≠ it) (items : Array Value) : Draws prog w A it [it, l] items.size (fun i v => items[i]? = some v) (fun i h => ItrB k h it l i ∧ IsB2 k h l items) := by
  cases k
  · exact Draws.list hh it l hne items
  · exact Draws.tuple hh it l hne items
section
variable {X : Cx} {pins : List (Addr × Obj)} {σ : L2.St} {H : Hp} {s : Shared}
theorem seqB_raw {k : Bool} {b : Addr} {ys : List V} (I : Inv X pins σ H s) (h : SqB X.K k H b ys) : ∃ its : List Value, Vals ys its ∧ IsB2 k s.heap b its.toArray := by
  cases k with
  | true =>
    obtain ⟨its, r, p, _⟩ := I.tuple (show SqT X.K H b ys from h)
    exact ⟨its, r, p⟩
  | false =>
    obtain ⟨its, r, p, _⟩ := I.list (show SqL X.K H b ys from h)
    exact ⟨its, r, p.isList⟩
theorem isB2_lt {k : Bool} {h : Heap} {b : Addr} {its : Array Value} (p : IsB2 k h b its) : b < h.objs.size := by
  cases k with
  | true => obtain ⟨o, ho, _⟩ := (show h.IsTuple b its from p); exact Heap.lt_size ho
  | false => obtain ⟨o, ho, _⟩ := (show h.IsList b its from p); exact Heap.lt_size ho
theorem itrB_obj {k : Bool} {h : Heap} {it l : Addr} {i : Nat} (p : ItrB k h it l i) : ∃ o, h.get? it = some o ∧ ∀ v, o.data ≠ .cell v := by
  cases k with
  | true => obtain ⟨o, e, _, d⟩ := (show h.IsTupleIter it l i from p); exact ⟨o, e, fun v q => by rw [d] at q; cases q⟩
  | false => obtain ⟨o, e, _, d⟩ := (show h.IsListIter it l i from p); exact ⟨o, e, fun v q => by rw [d] at q; cases q⟩
theorem itrB_at {k : Bool} {h h' : Heap} {it l : Addr} {i : Nat} (p : ItrB k h it l i) (q : ∀ o, h.get? it = some o → h'.get? it = some o) : ItrB k h' it l i := by
  cases k with
  | true => exact (show h.IsTupleIter it l i from p).at q
  | false => exact (show h.IsListIter it l i from p).at q
theorem sqB_inj {k : Bool} {b : Addr} {xs ys : List V} (I : Inv X pins σ H s) (h : SqB X.K k H b xs) (h2 : SqB X.K k H b ys) : xs = ys := by
  cases k with
  | true => exact I.tuple_inj (show SqT X.K H b xs from h) (show SqT X.K H b ys from h2)
  | false => exact I.list_inj (show SqL X.K H b xs from h) (show SqL X.K H b ys from h2)
end
theorem turn_zip3 {P : Program} {w : World} {K : PySem.W.Frag} {elts : List Expr} {kk : Nat} {tpos : Pos} {z TI TO i1 i2 i3 a b c : Addr} {k : Bool} (D : ZipSep3 z TI TO i1 i2 i3 [i1, a] [i2, b] [i3, c]) (n1 : a ≠ i1) (n2 : b ≠ i2) (n3 : c ≠ i3) :
    Turn P w K (.Tuple elts kk tpos) (Itz3 K a b c k) [z, TI, TO, i1, i2, i3] z (St3 z TI TO i1 i2 i3 a b c k) where
  mem := by simp
  obj := fun i h st d hd => by
    obtain ⟨hz, hTI, ⟨x, y, u, hTO⟩, h1, h2, h3⟩ := st
    have e' : d = z ∨ d = TI ∨ d = TO ∨ d = i1 ∨ d = i2 ∨ d = i3 := by simpa using hd
    rcases e' with q | q | q | q | q | q
    · rw [q]; exact ⟨_, hz, fun v q => nomatch q⟩
    · rw [q]; exact ⟨_, hTI, fun v q => nomatch q⟩
    · rw [q]; exact ⟨_, hTO, fun v q => nomatch q⟩
    · rw [q]; obtain ⟨o, e, _, d⟩ := h1; exact ⟨o, e, fun v q => by rw [d] at q; cases q⟩
    · rw [q]; exact itrB_obj h2
    · rw [q]; obtain ⟨o, e, _, d⟩ := h3; exact ⟨o, e, fun v q => by rw [d] at q; cases q⟩
  keep := fun i h h' st kp => by
    obtain ⟨hz, hTI, ⟨x, y, u, hTO⟩, h1, h2, h3⟩ := st
    exact ⟨kp z (by simp) _ hz, kp TI (by simp) _ hTI, ⟨x, y, u, kp TO (by simp) _ hTO⟩, h1.at fun o q => kp i1 (by simp) o q, itrB_at h2 fun o q => kp i2 (by simp) o q, h3.at fun o q => kp i3 (by simp) o q⟩
  item := by
    intro X hP hw hK hc i pins s σ H E I hf st hg
    subst hP hw hK
    obtain ⟨xs, ys, us, x, y, u, hqx, hqy, hqu, hx, hy, hu⟩ := hg
    obtain ⟨its, rv, p, _⟩ := I.list hqx
    obtain ⟨its2, rv2, p2⟩ := seqB_raw I hqy
    obtain ⟨its3, rv3, p3, _⟩ := I.list hqu
    have l1 : i < its.toArray.size := by have := (List.getElem?_eq_some_iff.mp hx).1; have := rv.length; simp only [List.size_toArray]; omega
    have l2 : i < its2.toArray.size := by have := (List.getElem?_eq_some_iff.mp hy).1; have := rv2.length; simp only [List.size_toArray]; omega
    have l3 : i < its3.toArray.size := by have := (List.getElem?_eq_some_iff.mp hu).1; have := rv3.length; simp only [List.size_toArray]; omega
    have hh : X.A.in1.handled = none := I.ok.hd hc
    have G := GoesN.zip3 (elts := elts) (x1 := kk) (pos := tpos) (w := X.w) (prog := X.prog) D (Draws.list (w := X.w) (prog := X.prog) hh i1 a n1 its.toArray) (drawsB hh k i2 b n2 its2.toArray) (Draws.list hh i3 c n3 its3.toArray)
    obtain ⟨hz, hTI, hTO, h1, h2, h3⟩ := st
    have hlt : ∀ d, d ∈ [z, TI, TO, i1, i2, i3] → d < s.heap.objs.size := fun d hd => by
      have e' : d = z ∨ d = TI ∨ d = TO ∨ d = i1 ∨ d = i2 ∨ d = i3 := by simpa using hd
      rcases e' with q | q | q | q | q | q
      · rw [q]; exact Heap.lt_size hz
      · rw [q]; exact Heap.lt_size hTI
      · rw [q]; obtain ⟨_, _, _, e⟩ := hTO; exact Heap.lt_size e
      · rw [q]; obtain ⟨_, e, _⟩ := h1; exact Heap.lt_size e
      · rw [q]; obtain ⟨_, e, _⟩ := itrB_obj h2; exact Heap.lt_size e
      · rw [q]; obtain ⟨_, e, _⟩ := h3; exact Heap.lt_size e
    refine wpAny_mono (G.goes i s (fun v s2 => ∃ x H', Inv X pins σ H' s2 ∧ RelV x v ∧ (Itz3 X.K a b c k).yld i H x H' ∧ St3 z TI TO i1 i2 i3 a b c k (i + 1) s2.heap ∧ ∀ d ∈ [z, TI, TO, i1, i2, i3], H' d = none) E (by omega) ⟨hz, hTI, hTO, ⟨h1, p.isList⟩, ⟨h2, p2⟩, ⟨h3, p3.isList⟩⟩ fun v h' tk hY hS hk _ => ?_) (fun _ _ q => q) fun _ _ q => q
    obtain ⟨T, v1, v2, v3, rfl, hT, e1, e2, e3, hTup⟩ := hY
    obtain ⟨u1, hu1, ru1⟩ := rv.get hx
    obtain ⟨u2, hu2, ru2⟩ := rv2.get hy
    obtain ⟨u3, hu3, ru3⟩ := rv3.get hu
    have q1 : u1 = v1 := by rw [show its.toArray[i]? = its[i]? by simp, hu1] at e1; exact Option.some.inj e1
    have q2 : u2 = v2 := by rw [show its2.toArray[i]? = its2[i]? by simp, hu2] at e2; exact Option.some.inj e2
    have q3 : u3 = v3 := by rw [show its3.toArray[i]? = its3[i]? by simp, hu3] at e3; exact Option.some.inj e3
    subst q1 q2 q3
    have new : ObjOk X.prog X.w (upd H T (.tup [x, y, u])) h' T (.tup [x, y, u]) := ⟨by show 3 ≤ sizeLine; decide, [u1, u2, u3], .cons ru1 (.cons ru2 (.cons ru3 .nil)), hTup⟩
    have I1 : Inv X pins σ (upd H T (.tup [x, y, u])) { s with heap := h', toks := tk } :=
      I.turnedNew (t' := tk) (ch := [z, TI, TO, i1, i2, i3]) (fun d o hb q => hk d o (fun hm => hb (by simp only [List.mem_cons, List.not_mem_nil, or_false] at hm ⊢; rcases hm with m | m | m | m | m <;> simp [m])) q) hf hT new
    refine ⟨.ref T, _, I1, rfl, ⟨T, x, y, u, rfl, I.hok.fresh hT, rfl, fun l hl => by rw [I.list_inj hl hqx]; exact hx, fun l hl => by rw [sqB_inj I hl hqy]; exact hy, fun l hl => by rw [I.list_inj hl hqu]; exact hu⟩, ?_, fun d hd => ?_⟩
    · obtain ⟨s1, s2, s3, s4, s5, s6⟩ := hS
      exact ⟨s1, s2, s3, s4.1, s5.1, s6.1⟩
    · rw [upd_ne (Nat.ne_of_lt (Nat.lt_of_lt_of_le (hlt d hd) hT))]
      exact (hf d hd).1
  done := by
    intro X hP hw hK hc i pins s σ H E I hf st hg
    subst hP hw hK
    obtain ⟨xs, ys, us, hqx, hqy, hqu, m1, m2, m3⟩ := hg
    obtain ⟨its, rv, p, _⟩ := I.list hqx
    obtain ⟨its2, rv2, p2⟩ := seqB_raw I hqy
    obtain ⟨its3, rv3, p3, _⟩ := I.list hqu
    have l1 : its.toArray.size = i := by have := rv.length; simp only [List.size_toArray]; omega
    have l2 : its2.toArray.size = i := by have := rv2.length; simp only [List.size_toArray]; omega
    have l3 : its3.toArray.size = i := by have := rv3.length; simp only [List.size_toArray]; omega
    have hh : X.A.in1.handled = none := I.ok.hd hc
    have G := GoesN.zip3 (elts := elts) (x1 := kk) (pos := tpos) (w := X.w) (prog := X.prog) D (Draws.list (w := X.w) (prog := X.prog) hh i1 a n1 its.toArray) (drawsB hh k i2 b n2 its2.toArray) (Draws.list hh i3 c n3 its3.toArray)
    obtain ⟨hz, hTI, hTO, h1, h2, h3⟩ := st
    have em : min (min its.toArray.size its2.toArray.size) its3.toArray.size = i := by rw [l1, l2, l3]; simp
    rw [em] at G
    refine G.stops s (fun s1 => Inv X pins σ H s1) E ⟨hz, hTI, hTO, ⟨h1, p.isList⟩, ⟨h2, p2⟩, ⟨h3, p3.isList⟩⟩ fun h' tk hk _ => ?_
    exact I.turnedL (t' := tk) (ch := [z, TI, TO, i1, i2, i3]) (fun d o hb q => hk d o (fun hm => hb (by simp only [List.mem_cons, List.not_mem_nil, or_false] at hm ⊢; rcases hm with m | m | m | m | m <;> simp [m])) q) hf
  self := fun A i s Q E st h => wpAny_pyIter_zip st.1 h
def iZip3 (K : PySem.W.Frag) (k : Bool) (ta : TA) : TI := fun σ H R => ta σ H fun vs H1 => ∃ a b c xs ys us, vs = [.ref a, .ref b, .ref c] ∧ SqL K H1 a xs ∧ SqB K k H1 b ys ∧ SqL K H1 c us ∧ R (Itz3 K a b c k) H1
theorem beginsB (k : Bool) (l : Addr) (items : Array Value) : ∃ o, Begins (.ref l) o (fun h => IsB2 k h l items) ∧ ∀ (h : Heap) it, h.get? it = some o → ItrB k h it l 0 := by
  cases k with
  | true => exact ⟨_, begins_tuple l items, fun h it e => ⟨_, e, rfl, rfl⟩⟩
  | false => exact ⟨_, begins_list l items, fun h it e => ⟨_, e, rfl, rfl⟩⟩
theorem pi_zip3 {X : Cx} {e e2 e3 : Expr} {ta : TA} {p pos tpos : Pos} {elts : List Expr} {kk : Nat} (k : Bool) (hg : Gl X "zip") (hm : X.mg "zip" = none) (ha : PA X [e, e2, e3] ta)
    (hs : starEach [e, e2, e3] X.env = (false, eval e X.env) :: starEach [e2, e3] X.env) (hpl : (backTo pos (starEach [e2, e3] X.env)).any (·.1) = false) :
    PI X (.Tuple elts kk tpos) (.Call (.Name "zip" p) [e, e2, e3] [] pos) (iZip3 X.K k ta) := by
  refine ⟨fun pins s σ H R I h => ?_⟩
  refine Call_ (ld_blt I hg hm PyProof.Rows.boot_zip (PyProof.Rows.callWith_type1 (thn (ha.run pos pins s σ H _ I h) fun us s1 ⟨vs, H1, I1, r1, q1⟩ => ?_) hs hpl))
  obtain ⟨a, b, c, xs, ys, zs, ex, hqx, hqy, hqz, q⟩ := q1
  subst ex
  obtain ⟨u1, u2, u3, rfl, r, r', r''⟩ : ∃ u1 u2 u3, us = [u1, u2, u3] ∧ RelV (.ref a) u1 ∧ RelV (.ref b) u2 ∧ RelV (.ref c) u3 := by
    cases r1 with
    | cons r rr => cases rr with
      | cons r' rr => cases rr with
        | cons r'' rr => cases rr; exact ⟨_, _, _, rfl, r, r', r''⟩
  cases r
  cases r'
  cases r''
  obtain ⟨its, rv, p1, _⟩ := I1.list hqx
  obtain ⟨its2, rv2, p2⟩ := seqB_raw I1 hqy
  obtain ⟨its3, rv3, p3, _⟩ := I1.list hqz
  have la : a < s1.heap.objs.size := p1.lt
  have lb : b < s1.heap.objs.size := isB2_lt p2
  have lc : c < s1.heap.objs.size := p3.lt
  obtain ⟨ob, Bb, hb0⟩ := beginsB k b its2.toArray
  refine zip_begins3 (begins_list a its.toArray) Bb (begins_list c its3.toArray) p1.isList p2 p3.isList fun h' hz hTI hTO g1 g2 g3 hsz hk => wpAny_pyIter_zip hz ?_
  have I2 : Inv X pins σ H1 { s1 with heap := h' } := I1.kept (t' := s1.toks) hk
  have S := zip_sep3 (N := s1.heap.objs.size) (fp1 := [a]) (fp2 := [b]) (fp3 := [c]) (fun d hd => by rw [List.mem_singleton.mp hd]; exact la) (fun d hd => by rw [List.mem_singleton.mp hd]; exact lb) (fun d hd => by rw [List.mem_singleton.mp hd]; exact lc)
  refine ⟨s1.heap.objs.size + 5, [s1.heap.objs.size + 5, s1.heap.objs.size + 3, s1.heap.objs.size + 4, s1.heap.objs.size, s1.heap.objs.size + 1, s1.heap.objs.size + 2], _, _, H1, rfl, I2, turn_zip3 S (Nat.ne_of_lt la) (Nat.ne_of_lt (Nat.lt_succ_of_lt lb)) (Nat.ne_of_lt (Nat.lt_succ_of_lt (Nat.lt_succ_of_lt lc))),
    ⟨hz, hTI, ⟨_, _, _, hTO⟩, ⟨_, g1, rfl, rfl⟩, hb0 _ _ g2, ⟨_, g3, rfl, rfl⟩⟩, fun d hdm => ?_, q⟩
  have hle : s1.heap.objs.size ≤ d := by
    have e' : d = s1.heap.objs.size + 5 ∨ d = s1.heap.objs.size + 3 ∨ d = s1.heap.objs.size + 4 ∨ d = s1.heap.objs.size ∨ d = s1.heap.objs.size + 1 ∨ d = s1.heap.objs.size + 2 := by simpa using hdm
    rcases e' with z | z | z | z | z | z
    · rw [z]; exact Nat.le_add_right _ _
    · rw [z]; exact Nat.le_add_right _ _
    · rw [z]; exact Nat.le_add_right _ _
    · rw [z]; exact Nat.le_refl _
    · rw [z]; exact Nat.le_add_right _ _
    · rw [z]; exact Nat.le_add_right _ _
  exact I1.fpOk hle (I1.hok.fresh hle)
section
variable {P : Program} {w : World} {K : PySem.W.Frag} {mg : Str → Option Value} {base : Heap} {k : Nat} {N Vz Sz G : List Str} {sc : Scope} {X : Cx} {σ : L2.St} {H : Hp} {D : Ends} {elts : List Expr} {e e2 e3 : Expr} {sts : List Stmt} {p1 p2 pos tpos : Pos} {kk : Nat}
/-- for .. in zip(xs, ys, us): all of one length -/
theorem wS_zip3 (t : Bool) (C : CxI P w K mg base k N Vz Sz G sc X) (hm : mg "zip" = none) (hx : ("zip" : Str) ∈ G) (hs : starEach [e, e2, e3] X.env = (false, eval e X.env) :: starEach [e2, e3] X.env) (hpl : (backTo p2 (starEach [e2, e3] X.env)).any (·.1) = false)
    (q : wA X [e, e2, e3] σ H fun vs H1 => ∃ a b c xs ys us, vs = [.ref a, .ref b, .ref c] ∧ SqL K H1 a xs ∧ SqB K t H1 b ys ∧ SqL K H1 c us ∧ xs.length = ys.length ∧ us.length = xs.length ∧ ∃ Pv : Nat → L2.St → Hp → Prop, Pv 0 σ H1 ∧
      (∀ i σ H, i ≤ xs.length → Pv i σ H → SqL K H a xs ∧ SqB K t H b ys ∧ SqL K H c us) ∧
      (∀ i x y u T σ H H', xs[i]? = some x → ys[i]? = some y → us[i]? = some u → Pv i σ H → H T = none → Ex H H' → H' T = some (.tup [x, y, u]) → wG X (.Tuple elts kk tpos) (.ref T) σ H' fun σ2 H2 => wB X sts { D with nx := Pv (i + 1), ct := Pv (i + 1), bk := D.nx } σ2 H2) ∧ ∀ σ H, Pv xs.length σ H → D.nx σ H) :
    wS X (.For (.Tuple elts kk tpos) (.Call (.Name "zip" p1) [e, e2, e3] [] p2) sts [] pos) D σ H := by
  obtain ⟨l, _, _⟩ := C.glo hx
  refine wS.of (ps_for C.po C.calm (pi_zip3 t l (by rw [C.em]; exact hm) wA.pa hs hpl) wG.pg wB.pss (fun _ => rfl)) ?_
  show wA X [e, e2, e3] σ H _
  refine ⟨fun pp pins s I => thn (q.run pp pins s I) ?_⟩
  rintro uu s1 ⟨vs, H1, I1, r1, a, b, c, xs, ys, us, ev, q1, q2, q3, l1, l2, Pv, h0, hq, hst, hd⟩
  refine ⟨vs, H1, I1, r1, a, b, c, xs, ys, us, ev, by rw [C.eK]; exact q1, by rw [C.eK]; exact q2, by rw [C.eK]; exact q3, ?_⟩
  refine ⟨fun i m σ H => m = xs.length - i ∧ i ≤ xs.length ∧ Pv i σ H, ⟨xs.length, rfl, Nat.zero_le _, h0⟩, ?_⟩
  rintro i m σ H ⟨rfl, hi, pv⟩
  obtain ⟨k1, k2, k3⟩ := hq i σ H hi pv
  by_cases hlt : i < xs.length
  · have g1 : xs[i]? = some xs[i] := List.getElem?_eq_getElem hlt
    have g2 : ys[i]? = some (ys[i]'(by omega)) := List.getElem?_eq_getElem _
    have g3 : us[i]? = some (us[i]'(by omega)) := List.getElem?_eq_getElem _
    refine .inr ⟨⟨xs, ys, us, _, _, _, by rw [C.eK]; exact k1, by rw [C.eK]; exact k2, by rw [C.eK]; exact k3, g1, g2, g3⟩, Pv (i + 1), fun σ' H' p' => ⟨xs.length - (i + 1), by omega, rfl, hlt, p'⟩, fun v H' y => ?_⟩
    obtain ⟨T, x', y', u', rfl, hT, rfl, f1, f2, f3⟩ := y
    exact hst i x' y' u' T σ H _ (f1 xs (by rw [C.eK]; exact k1)) (f2 ys (by rw [C.eK]; exact k2)) (f3 us (by rw [C.eK]; exact k3)) pv hT (Ex.upd hT) upd_same
  · have e' : i = xs.length := by omega
    subst e'
    exact .inl ⟨⟨xs, ys, us, by rw [C.eK]; exact k1, by rw [C.eK]; exact k2, by rw [C.eK]; exact k3, rfl, by omega, by omega⟩, hd σ H pv⟩
end
end Rp
namespace Rp
open PySem PySem.Spec PyProof.Rows L2
def topS (i : Nat) : Stmt := PySem.Challenge.pw_roadpence_k07_rules_alike.main.body.getD i (.Pass ⟨0, 0, 0, 0⟩)
abbrev s_NoRule_init : Stmt := inClass (topS 4) 0
abbrev N_NoRule_init : List Str := ["self", "part"]
abbrev V_NoRule_init : List Str := ["self", "part"]
abbrev G_NoRule_init : List Str := ["PenceError"]
theorem sc_NoRule_init : FnScope N_NoRule_init ["self", "part"] (defScope s_NoRule_init) := ⟨rfl, rfl, rfl, by decide +kernel, rfl, by decide +kernel, by decide +kernel⟩
theorem ok_NoRule_init : namesOk V_NoRule_init V_NoRule_init G_NoRule_init (defScope s_NoRule_init) = true := by decide +kernel
abbrev s_is_whole : Stmt := topS 10
abbrev N_is_whole : List Str := ["thing", "least", "most"]
abbrev V_is_whole : List Str := ["thing", "least", "most"]
abbrev G_is_whole : List Str := ["bool", "int", "isinstance"]
theorem sc_is_whole : FnScope N_is_whole ["thing", "least", "most"] (defScope s_is_whole) := ⟨rfl, rfl, rfl, by decide +kernel, rfl, by decide +kernel, by decide +kernel⟩
theorem ok_is_whole : namesOk V_is_whole V_is_whole G_is_whole (defScope s_is_whole) = true := by decide +kernel
abbrev s_is_truth : Stmt := topS 11
abbrev N_is_truth : List Str := ["thing"]
abbrev V_is_truth : List Str := ["thing"]
abbrev G_is_truth : List Str := ["bool", "isinstance"]
theorem sc_is_truth : FnScope N_is_truth ["thing"] (defScope s_is_truth) := ⟨rfl, rfl, rfl, by decide +kernel, rfl, by decide +kernel, by decide +kernel⟩
theorem ok_is_truth : namesOk V_is_truth V_is_truth G_is_truth (defScope s_is_truth) = true := by decide +kernel
abbrev s_is_kind : Stmt := topS 12
abbrev N_is_kind : List Str := ["thing"]
abbrev V_is_kind : List Str := ["thing"]
abbrev G_is_kind : List Str := ["KINDS"]
theorem sc_is_kind : FnScope N_is_kind ["thing"] (defScope s_is_kind) := ⟨rfl, rfl, rfl, by decide +kernel, rfl, by decide +kernel, by decide +kernel⟩
theorem ok_is_kind : namesOk V_is_kind V_is_kind G_is_kind (defScope s_is_kind) = true := by decide +kernel
abbrev s_is_town : Stmt := topS 13
abbrev N_is_town : List Str := ["thing"]
abbrev V_is_town : List Str := ["thing"]
abbrev G_is_town : List Str := ["LAST_TOWN", "is_whole"]
theorem sc_is_town : FnScope N_is_town ["thing"] (defScope s_is_town) := ⟨rfl, rfl, rfl, by decide +kernel, rfl, by decide +kernel, by decide +kernel⟩
theorem ok_is_town : namesOk V_is_town V_is_town G_is_town (defScope s_is_town) = true := by decide +kernel
abbrev s_is_day : Stmt := topS 14
abbrev N_is_day : List Str := ["thing"]
abbrev V_is_day : List Str := ["thing"]
abbrev G_is_day : List Str := ["LAST_DAY", "is_whole"]
theorem sc_is_day : FnScope N_is_day ["thing"] (defScope s_is_day) := ⟨rfl, rfl, rfl, by decide +kernel, rfl, by decide +kernel, by decide +kernel⟩
theorem ok_is_day : namesOk V_is_day V_is_day G_is_day (defScope s_is_day) = true := by decide +kernel
abbrev s_is_share : Stmt := topS 15
abbrev N_is_share : List Str := ["thing"]
abbrev V_is_share : List Str := ["thing"]
abbrev G_is_share : List Str := ["MOST_SHARE", "is_whole"]
theorem sc_is_share : FnScope N_is_share ["thing"] (defScope s_is_share) := ⟨rfl, rfl, rfl, by decide +kernel, rfl, by decide +kernel, by decide +kernel⟩
theorem ok_is_share : namesOk V_is_share V_is_share G_is_share (defScope s_is_share) = true := by decide +kernel
abbrev s_payment_of : Stmt := topS 18
abbrev N_payment_of : List Str := ["deed", "bound"]
abbrev V_payment_of : List Str := ["deed", "bound"]
abbrev G_payment_of : List Str := ["NO_BOUND"]
theorem sc_payment_of : FnScope N_payment_of ["deed", "bound"] (defScope s_payment_of) := ⟨rfl, rfl, rfl, by decide +kernel, rfl, by decide +kernel, by decide +kernel⟩
theorem ok_payment_of : namesOk V_payment_of V_payment_of G_payment_of (defScope s_payment_of) = true := by decide +kernel
abbrev s_paid_by : Stmt := topS 19
abbrev N_paid_by : List Str := ["payment", "share", "hundredths", "most"]
abbrev V_paid_by : List Str := ["payment", "share", "hundredths", "most"]
abbrev G_paid_by : List Str := ["min"]
theorem sc_paid_by : FnScope N_paid_by ["payment", "share"] (defScope s_paid_by) := ⟨rfl, rfl, rfl, by decide +kernel, rfl, by decide +kernel, by decide +kernel⟩
theorem ok_paid_by : namesOk V_paid_by V_paid_by G_paid_by (defScope s_paid_by) = true := by decide +kernel
abbrev s_is_spot : Stmt := topS 21
abbrev N_is_spot : List Str := ["thing", "kind", "town", "paper", "day", "share"]
abbrev V_is_spot : List Str := ["thing", "kind", "town", "paper", "day", "share"]
abbrev G_is_spot : List Str := ["is_day", "is_kind", "is_share", "is_town", "is_truth", "isinstance", "len", "tuple"]
theorem sc_is_spot : FnScope N_is_spot ["thing"] (defScope s_is_spot) := ⟨rfl, rfl, rfl, by decide +kernel, rfl, by decide +kernel, by decide +kernel⟩
theorem ok_is_spot : namesOk V_is_spot V_is_spot G_is_spot (defScope s_is_spot) = true := by decide +kernel
abbrev s_check_spot : Stmt := topS 22
abbrev N_check_spot : List Str := ["thing"]
abbrev V_check_spot : List Str := ["thing"]
abbrev G_check_spot : List Str := ["NoSpot", "is_spot"]
theorem sc_check_spot : FnScope N_check_spot ["thing"] (defScope s_check_spot) := ⟨rfl, rfl, rfl, by decide +kernel, rfl, by decide +kernel, by decide +kernel⟩
theorem ok_check_spot : namesOk V_check_spot V_check_spot G_check_spot (defScope s_check_spot) = true := by decide +kernel
abbrev s_check_share : Stmt := topS 23
abbrev N_check_share : List Str := ["thing"]
abbrev V_check_share : List Str := ["thing"]
abbrev G_check_share : List Str := ["NoShare", "is_share"]
theorem sc_check_share : FnScope N_check_share ["thing"] (defScope s_check_share) := ⟨rfl, rfl, rfl, by decide +kernel, rfl, by decide +kernel, by decide +kernel⟩
theorem ok_check_share : namesOk V_check_share V_check_share G_check_share (defScope s_check_share) = true := by decide +kernel
abbrev s_is_name : Stmt := topS 28
abbrev N_is_name : List Str := ["thing", "sign"]
abbrev V_is_name : List Str := ["thing"]
abbrev G_is_name : List Str := ["MOST_LETTERS", "all", "isinstance", "len", "str"]
theorem sc_is_name : FnScope N_is_name ["thing"] (defScope s_is_name) := ⟨rfl, rfl, rfl, by decide +kernel, rfl, by decide +kernel, by decide +kernel⟩
theorem ok_is_name : namesOk V_is_name V_is_name G_is_name (defScope s_is_name) = true := by decide +kernel
abbrev s_is_deed : Stmt := topS 29
abbrev N_is_deed : List Str := ["thing"]
abbrev V_is_deed : List Str := ["thing"]
abbrev G_is_deed : List Str := ["MOST_BOUNDS", "isinstance", "str"]
theorem sc_is_deed : FnScope N_is_deed ["thing"] (defScope s_is_deed) := ⟨rfl, rfl, rfl, by decide +kernel, rfl, by decide +kernel, by decide +kernel⟩
theorem ok_is_deed : namesOk V_is_deed V_is_deed G_is_deed (defScope s_is_deed) = true := by decide +kernel
abbrev s_check_parts : Stmt := topS 30
abbrev N_check_parts : List Str := ["name", "deed", "bound", "kind", "town", "first", "last", "over", "paper"]
abbrev V_check_parts : List Str := ["name", "deed", "bound", "kind", "town", "first", "last", "over", "paper"]
abbrev G_check_parts : List Str := ["LAST_DAY", "MOST_BOUNDS", "NoRule", "is_day", "is_deed", "is_kind", "is_name", "is_share", "is_town", "is_truth", "is_whole"]
theorem sc_check_parts : FnScope N_check_parts ["name", "deed", "bound", "kind", "town", "first", "last", "over", "paper"] (defScope s_check_parts) := ⟨rfl, rfl, rfl, by decide +kernel, rfl, by decide +kernel, by decide +kernel⟩
theorem ok_check_parts : namesOk V_check_parts V_check_parts G_check_parts (defScope s_check_parts) = true := by decide +kernel
abbrev s_Rule_init : Stmt := inClass (topS 31) 0
abbrev N_Rule_init : List Str := ["self", "name", "deed", "bound", "kind", "town", "first", "last", "over", "paper"]
abbrev V_Rule_init : List Str := ["self", "name", "deed", "bound", "kind", "town", "first", "last", "over", "paper"]
abbrev G_Rule_init : List Str := ["check_parts", "payment_of"]
theorem sc_Rule_init : FnScope N_Rule_init ["self", "name", "deed", "bound", "kind", "town", "first", "last", "over", "paper"] (defScope s_Rule_init) := ⟨rfl, rfl, rfl, by decide +kernel, rfl, by decide +kernel, by decide +kernel⟩
theorem ok_Rule_init : namesOk V_Rule_init V_Rule_init G_Rule_init (defScope s_Rule_init) = true := by decide +kernel
abbrev s_Rule_eq : Stmt := inClass (topS 31) 1
abbrev N_Rule_eq : List Str := ["self", "other"]
abbrev V_Rule_eq : List Str := ["self", "other"]
abbrev G_Rule_eq : List Str := ["Rule", "isinstance"]
theorem sc_Rule_eq : FnScope N_Rule_eq ["self", "other"] (defScope s_Rule_eq) := ⟨rfl, rfl, rfl, by decide +kernel, rfl, by decide +kernel, by decide +kernel⟩
theorem ok_Rule_eq : namesOk V_Rule_eq V_Rule_eq G_Rule_eq (defScope s_Rule_eq) = true := by decide +kernel
abbrev s_Rule_repr : Stmt := inClass (topS 31) 2
abbrev N_Rule_repr : List Str := ["self", "parts"]
abbrev V_Rule_repr : List Str := ["self", "parts"]
abbrev G_Rule_repr : List Str := ["LAST_DAY", "repr"]
theorem sc_Rule_repr : FnScope N_Rule_repr ["self"] (defScope s_Rule_repr) := ⟨rfl, rfl, rfl, by decide +kernel, rfl, by decide +kernel, by decide +kernel⟩
theorem ok_Rule_repr : namesOk V_Rule_repr V_Rule_repr G_Rule_repr (defScope s_Rule_repr) = true := by decide +kernel
abbrev s_Rule_fits : Stmt := inClass (topS 31) 3
abbrev N_Rule_fits : List Str := ["self", "kind", "town", "paper", "day"]
abbrev V_Rule_fits : List Str := ["self", "kind", "town", "paper", "day"]
abbrev G_Rule_fits : List Str := []
theorem sc_Rule_fits : FnScope N_Rule_fits ["self", "kind", "town", "paper", "day"] (defScope s_Rule_fits) := ⟨rfl, rfl, rfl, by decide +kernel, rfl, by decide +kernel, by decide +kernel⟩
theorem ok_Rule_fits : namesOk V_Rule_fits V_Rule_fits G_Rule_fits (defScope s_Rule_fits) = true := by decide +kernel
abbrev s_Rule_meets : Stmt := inClass (topS 31) 4
abbrev N_Rule_meets : List Str := ["self", "spot", "kind", "town", "paper", "day", "share"]
abbrev V_Rule_meets : List Str := ["self", "spot", "kind", "town", "paper", "day", "share"]
abbrev G_Rule_meets : List Str := ["check_spot"]
theorem sc_Rule_meets : FnScope N_Rule_meets ["self", "spot"] (defScope s_Rule_meets) := ⟨rfl, rfl, rfl, by decide +kernel, rfl, by decide +kernel, by decide +kernel⟩
theorem ok_Rule_meets : namesOk V_Rule_meets V_Rule_meets G_Rule_meets (defScope s_Rule_meets) = true := by decide +kernel
abbrev s_Rule_pays : Stmt := inClass (topS 31) 5
abbrev N_Rule_pays : List Str := ["self", "share"]
abbrev V_Rule_pays : List Str := ["self", "share"]
abbrev G_Rule_pays : List Str := ["check_share", "paid_by"]
theorem sc_Rule_pays : FnScope N_Rule_pays ["self", "share"] (defScope s_Rule_pays) := ⟨rfl, rfl, rfl, by decide +kernel, rfl, by decide +kernel, by decide +kernel⟩
theorem ok_Rule_pays : namesOk V_Rule_pays V_Rule_pays G_Rule_pays (defScope s_Rule_pays) = true := by decide +kernel
abbrev s__law_box : Stmt := topS 33
abbrev N__law_box : List Str := ["_law_script", "_law_k", "_law_here", "_law_number", "_law_j", "_law_piece"]
abbrev V__law_box : List Str := ["_law_script", "_law_k", "_law_here", "_law_number", "_law_j", "_law_piece"]
abbrev G__law_box : List Str := ["abs", "len", "range"]
theorem sc__law_box : FnScope N__law_box ["_law_script", "_law_k"] (defScope s__law_box) := ⟨rfl, rfl, rfl, by decide +kernel, rfl, by decide +kernel, by decide +kernel⟩
theorem ok__law_box : namesOk V__law_box V__law_box G__law_box (defScope s__law_box) = true := by decide +kernel
abbrev s__law_more : Stmt := topS 34
abbrev N__law_more : List Str := ["_law_box_here", "_law_number", "_law_j"]
abbrev V__law_more : List Str := ["_law_box_here", "_law_number", "_law_j"]
abbrev G__law_more : List Str := ["range"]
theorem sc__law_more : FnScope N__law_more ["_law_box_here"] (defScope s__law_more) := ⟨rfl, rfl, rfl, by decide +kernel, rfl, by decide +kernel, by decide +kernel⟩
theorem ok__law_more : namesOk V__law_more V__law_more G__law_more (defScope s__law_more) = true := by decide +kernel
abbrev s__law_take : Stmt := topS 35
abbrev N__law_take : List Str := ["_law_box_here", "_law_count", "_law_rest_of", "_law_digit"]
abbrev V__law_take : List Str := ["_law_box_here", "_law_count", "_law_rest_of", "_law_digit"]
abbrev G__law_take : List Str := ["_law_more", "divmod"]
theorem sc__law_take : FnScope N__law_take ["_law_box_here", "_law_count"] (defScope s__law_take) := ⟨rfl, rfl, rfl, by decide +kernel, rfl, by decide +kernel, by decide +kernel⟩
theorem ok__law_take : namesOk V__law_take V__law_take G__law_take (defScope s__law_take) = true := by decide +kernel
abbrev s__law_bound : Stmt := topS 36
abbrev N__law_bound : List Str := ["_law_box_here", "_law_act", "_law_far"]
abbrev V__law_bound : List Str := ["_law_box_here", "_law_act", "_law_far"]
abbrev G__law_bound : List Str := ["_law_take"]
theorem sc__law_bound : FnScope N__law_bound ["_law_box_here", "_law_act"] (defScope s__law_bound) := ⟨rfl, rfl, rfl, by decide +kernel, rfl, by decide +kernel, by decide +kernel⟩
theorem ok__law_bound : namesOk V__law_bound V__law_bound G__law_bound (defScope s__law_bound) = true := by decide +kernel
abbrev s__law_ruled : Stmt := topS 37
abbrev N__law_ruled : List Str := ["_law_box_here", "_law_name_here", "_law_act", "_law_ending", "_law_pick", "_law_sort", "_law_city", "_law_since", "_law_until", "_law_above", "_law_given"]
abbrev V__law_ruled : List Str := ["_law_box_here", "_law_name_here", "_law_act", "_law_ending", "_law_pick", "_law_sort", "_law_city", "_law_since", "_law_until", "_law_above", "_law_given"]
abbrev G__law_ruled : List Str := ["_law_bound", "_law_take", "int"]
theorem sc__law_ruled : FnScope N__law_ruled ["_law_box_here", "_law_name_here"] (defScope s__law_ruled) := ⟨rfl, rfl, rfl, by decide +kernel, rfl, by decide +kernel, by decide +kernel⟩
theorem ok__law_ruled : namesOk V__law_ruled V__law_ruled G__law_ruled (defScope s__law_ruled) = true := by decide +kernel
abbrev s__law_name : Stmt := topS 38
abbrev N__law_name : List Str := ["_law_box_here", "_law_letters", "_law_many", "_law_sign"]
abbrev V__law_name : List Str := ["_law_box_here", "_law_letters", "_law_many"]
abbrev G__law_name : List Str := ["_law_take", "range"]
theorem sc__law_name : FnScope N__law_name ["_law_box_here"] (defScope s__law_name) := ⟨rfl, rfl, rfl, by decide +kernel, rfl, by decide +kernel, by decide +kernel⟩
theorem ok__law_name : namesOk V__law_name V__law_name G__law_name (defScope s__law_name) = true := by decide +kernel
abbrev s__law_made : Stmt := topS 39
abbrev N__law_made : List Str := ["_law_row"]
abbrev V__law_made : List Str := ["_law_row"]
abbrev G__law_made : List Str := ["Rule"]
theorem sc__law_made : FnScope N__law_made ["_law_row"] (defScope s__law_made) := ⟨rfl, rfl, rfl, by decide +kernel, rfl, by decide +kernel, by decide +kernel⟩
theorem ok__law_made : namesOk V__law_made V__law_made G__law_made (defScope s__law_made) = true := by decide +kernel
abbrev s__law_rule_shown : Stmt := topS 40
abbrev N__law_rule_shown : List Str := ["_law_row", "_law_text", "_law_names", "_law_name_here", "_law_thing", "_law_plain"]
abbrev V__law_rule_shown : List Str := ["_law_row", "_law_text", "_law_names", "_law_name_here", "_law_thing", "_law_plain"]
abbrev G__law_rule_shown : List Str := ["bool", "isinstance", "repr", "zip"]
theorem sc__law_rule_shown : FnScope N__law_rule_shown ["_law_row"] (defScope s__law_rule_shown) := ⟨rfl, rfl, rfl, by decide +kernel, rfl, by decide +kernel, by decide +kernel⟩
theorem ok__law_rule_shown : namesOk V__law_rule_shown V__law_rule_shown G__law_rule_shown (defScope s__law_rule_shown) = true := by decide +kernel
abbrev s__law_odd : Stmt := topS 41
abbrev N__law_odd : List Str := ["_law_box_here", "_law_some"]
abbrev V__law_odd : List Str := ["_law_box_here", "_law_some"]
abbrev G__law_odd : List Str := ["_law_take"]
theorem sc__law_odd : FnScope N__law_odd ["_law_box_here"] (defScope s__law_odd) := ⟨rfl, rfl, rfl, by decide +kernel, rfl, by decide +kernel, by decide +kernel⟩
theorem ok__law_odd : namesOk V__law_odd V__law_odd G__law_odd (defScope s__law_odd) = true := by decide +kernel
abbrev s__law_others : Stmt := topS 42
abbrev N__law_others : List Str := ["_law_row", "_law_name_here", "_law_act", "_law_ending", "_law_sort", "_law_city", "_law_since", "_law_until", "_law_above", "_law_slip", "_law_found"]
abbrev V__law_others : List Str := ["_law_row", "_law_name_here", "_law_act", "_law_ending", "_law_sort", "_law_city", "_law_since", "_law_until", "_law_above", "_law_slip", "_law_found"]
abbrev G__law_others : List Str := ["len"]
theorem sc__law_others : FnScope N__law_others ["_law_row"] (defScope s__law_others) := ⟨rfl, rfl, rfl, by decide +kernel, rfl, by decide +kernel, by decide +kernel⟩
theorem ok__law_others : namesOk V__law_others V__law_others G__law_others (defScope s__law_others) = true := by decide +kernel
abbrev s_law : Stmt := topS 43
abbrev N_law : List Str := ["_law_script", "_law_k", "_law_box_here", "_law_turn", "_law_row", "_law_one", "_law_other", "_law_others_here", "_law_some", "_law_thing"]
abbrev V_law : List Str := ["_law_script", "_law_k", "_law_box_here", "_law_turn", "_law_row", "_law_one", "_law_other", "_law_others_here", "_law_some", "_law_thing"]
abbrev G_law : List Str := ["_law_box", "_law_made", "_law_name", "_law_odd", "_law_others", "_law_rule_shown", "_law_ruled", "len", "max", "min", "range", "repr"]
theorem sc_law : FnScope N_law ["_law_script"] (defScope s_law) := ⟨rfl, rfl, rfl, by decide +kernel, rfl, by decide +kernel, by decide +kernel⟩
theorem ok_law : namesOk V_law V_law G_law (defScope s_law) = true := by decide +kernel
end Rp
namespace Rp
open PySem PySem.Spec PyProof.Rows L2
theorem iteNT {A B : Prop} (h : B) : if (!true) = true then A else B := iteF h
theorem iteNF {A B : Prop} (h : A) : if (!false) = true then A else B := iteT h
theorem nx_mk {f : L2.St → Hp → Prop} {r : VK} {b c : L2.St → Hp → Prop} {σ : L2.St} {H : Hp} (h : f σ H) : Ends.nx ⟨f, r, b, c⟩ σ H := h
theorem rt_mk {f : L2.St → Hp → Prop} {r : VK} {b c : L2.St → Hp → Prop} {v : V} {H : Hp} (h : r v H) : Ends.rt ⟨f, r, b, c⟩ v H := h
theorem bk_mk {f : L2.St → Hp → Prop} {r : VK} {b c : L2.St → Hp → Prop} {σ : L2.St} {H : Hp} (h : b σ H) : Ends.bk ⟨f, r, b, c⟩ σ H := h
theorem ct_mk {f : L2.St → Hp → Prop} {r : VK} {b c : L2.St → Hp → Prop} {σ : L2.St} {H : Hp} (h : c σ H) : Ends.ct ⟨f, r, b, c⟩ σ H := h
local macro_rules | `(tactic| walk_at "lk") => `(tactic| first | with_reducible exact Lk.here | ((with_reducible apply Lk.there); walk_at "lk"))
local macro_rules | `(tactic| walk_at "pt") => `(tactic| first | with_reducible exact Pt.here | ((with_reducible apply Pt.there); walk_at "pt"))
local macro_rules | `(tactic| walk_at "mem") => `(tactic| first | with_reducible exact List.mem_cons_self | ((with_reducible refine List.mem_cons_of_mem _ ?_); walk_at "mem"))
local macro_rules | `(tactic| walk_at "hk") => `(tactic| first
  | assumption
  | ((with_reducible apply Ex.get (by assumption)); walk_at "hk")
  | ((with_reducible apply Exb.get (by assumption)); (focus (walk_at "hne")); walk_at "hk"))
local macro_rules | `(tactic| walk_at "hne") => `(tactic| first
  | assumption
  | exact Ne.symm (by assumption)
  | ((with_reducible apply ne_fresh (by assumption)); walk_at "hk"))
local macro_rules | `(tactic| walk_at "hx") => `(tactic| first
  | assumption
  | exact (Ex.refl _).toB
  | exact Ex.toB (by assumption)
  | ((refine Exb.trans ?x1 (by assumption)); (case x1 => walk_at "hx"))
  | ((refine Exb.trans ?x1 (Ex.toB (by assumption))); (case x1 => walk_at "hx")))
local macro_rules | `(tactic| walk_at "put") => `(tactic| ((with_reducible apply put_i); (focus (walk_at "pt"))))
local macro_rules | `(tactic| walk_at "w1") => `(tactic| first
  | with_reducible refine nx_mk ?_
  | with_reducible refine rt_mk ?_
  | with_reducible refine wB_one ?_
  | with_reducible refine wB_cons' fun _ _ => ?_
  | with_reducible refine wB_nil ?_
  | ((with_reducible apply wE_name (by assumption)); (focus (walk_at "mem")); (focus (walk_at "lk")))
  | with_reducible refine isB ?_
  | with_reducible refine wE_lst ?_
  | with_reducible refine wE_tup ?_
  | with_reducible refine wE_int ?_
  | with_reducible refine wE_bl ?_
  | with_reducible refine wE_non ?_
  | with_reducible refine wE_str ?_
  | with_reducible refine wE_bin ?_
  | with_reducible refine wE_ifexp ?_
  | with_reducible refine o_isN ?_
  | with_reducible refine o_notN ?_
  | with_reducible refine o_add ?_
  | with_reducible refine o_sub ?_
  | with_reducible refine o_pow6 ?_
  | with_reducible refine o_pow5 ?_
  | ((with_reducible refine o_mulL ?h1 ?h2 ?_); (case h1 => omega); (case h2 => omega))
  | ((with_reducible refine o_mulR ?h1 ?h2 ?_); (case h1 => omega); (case h2 => omega))
  | ((with_reducible refine o_div ?h1 ?h2 ?_); (case h1 => omega); (case h2 => omega))
  | ((with_reducible refine o_mod ?h1 ?_); (case h1 => omega))
  | ((with_reducible refine wA_cons ?s1 ?_); (case s1 => rfl))
  | with_reducible refine wA_nil ?_
  | with_reducible refine wK_cons ?_
  | with_reducible refine wK_nil ?_
  | with_reducible refine isI ?_
  | with_reducible refine wE_slTo (by assumption) ?_
  | with_reducible refine wE_slFrom (by assumption) ?_
  | ((with_reducible refine wE_ix ?s1 ?_); (case s1 => exact fun _ _ => rfl))
  | ((with_reducible refine wS_set (by assumption) ?s0 ?s1 ?_); (case s0 => walk_at "mem"); (case s1 => rfl))
  | (with_reducible refine wS_ret ?_)
  | with_reducible refine iteT ?_
  | with_reducible refine iteNF ?_
  | with_reducible refine iteNT ?_
  | with_reducible refine iteF ?_
  | ((with_reducible refine wT_cmp ?s1 ?_); (case s1 => rfl))
  | ((with_reducible refine wT_chain ?s1 ?_); (case s1 => rfl))
  | with_reducible refine wT_not ?_
  | with_reducible refine wT_and ?_
  | with_reducible refine wT_or ?_
  | with_reducible refine wW_and ?_
  | with_reducible refine wW_and1 ?_
  | with_reducible refine wW_or ?_
  | with_reducible refine wW_or1 ?_
  | ((with_reducible refine wT_val ?s1 ?_); (case s1 => intro _; rfl))
  | with_reducible refine wE_and ?_
  | with_reducible refine wE_or ?_
  | with_reducible refine wE_one ?_
  | with_reducible refine wE_not ?_
  | ((with_reducible refine wE_cmp ?s1 ?_); (case s1 => rfl))
  | ((with_reducible refine wE_chain ?s1 ?_); (case s1 => rfl))
  | ((with_reducible refine wS_expr ?s1 ?_); (case s1 => rfl))
  | with_reducible refine o_lt ?_
  | with_reducible refine o_le ?_
  | with_reducible refine o_gt ?_
  | with_reducible refine o_ge ?_
  | with_reducible refine o_eqI ?_
  | with_reducible refine o_neI ?_
  | ((with_reducible refine wS_fld (by assumption) ?s1 ?_); (case s1 => rfl))
  | ((with_reducible refine wS_asgT ?s1 ?s2 ?s3 ?_); (case s1 => rfl); (case s2 => rfl); (case s3 => rfl))
  | ((with_reducible apply i_listL (by assumption)); (focus (exact fun _ _ => rfl)); (focus (apply SqL.of; walk_at "hk")); (focus rfl))
  | ((with_reducible apply i_tupL (by assumption)); (focus (exact fun _ _ => rfl)); (focus (apply SqT.of; walk_at "hk")); (focus rfl))
  | ((with_reducible refine wG_setL ?s1 ?_); (case s1 => exact fun _ => rfl))
  | ((with_reducible apply setL_i); (focus (walk_at "hk")); (focus rfl); (intro H3 e3 h3; simp only [Int.reduceToNat, Int.toNat_zero, Int.toNat_one, List.set_cons_succ, List.set_cons_zero] at h3))
  | ((with_reducible refine wE_fldQ (by assumption) ?s1 ?_); (case s1 => rfl))
  | walk_at "put"
  | with_reducible refine Nx.go (by assumption) ?_
  | ((with_reducible refine wG_name (by assumption) ?s0 ?_); (case s0 => walk_at "mem"))
  | ((with_reducible apply wG_tup (by assumption)); (focus (apply SqT.of; walk_at "hk")); (focus rfl); (focus rfl))
  | ((with_reducible refine wGs_cons ?s1 ?_); (case s1 => rfl))
  | with_reducible refine wGs_nil ?_)
local macro_rules | `(tactic| walk_at "ws") => `(tactic| (repeat walk_at "w1"))
local macro_rules | `(tactic| walk_at "if") => `(tactic| ((with_reducible refine wS_if ?_); walk_at "ws"))
/-! ### what the top leaves -/
structure Txt (K : PySem.W.Frag) (mg : Str → Option Value) : Prop where
  range : mg "range" = none
  abs : mg "abs" = none
  len : mg "len" = none
  divmod : mg "divmod" = none
  isinstance : mg "isinstance" = none
  int : mg "int" = none
  bool : mg "bool" = none
  kinds : ∃ a, mg "KINDS" = some (.ref a) ∧ ∀ H, SqT K H a [.str "bed", .str "fee", .str "meal", .str "ride", .str "sundry"]
  lday : ∃ t, mg "LAST_DAY" = some (.int 59 t)
  ltown : ∃ t, mg "LAST_TOWN" = some (.int 3 t)
  mshare : ∃ t, mg "MOST_SHARE" = some (.int 1000000000000 t)
theorem kb_ii : kitB "int" "int" = some true := by decide +kernel
theorem kb_ib : kitB "int" "bool" = some false := by decide +kernel
theorem kb_bb : kitB "bool" "bool" = some true := by decide +kernel
def wholeB (i lo hi : Int) : Bool := decide (lo ≤ i) && decide (i ≤ hi)
def spWhole : Sp := fun vs H Q _ => ∃ i lo hi : Int, vs = [.int i, .int lo, .int hi] ∧ Q (.bl (wholeB i lo hi)) H
def spTruth : Sp := fun vs H Q _ => ∃ b : Bool, vs = [.bl b] ∧ Q (.bl true) H
def spKind : Sp := fun vs H Q _ => ∃ z : Str, vs = [.str z] ∧ Q (.bl (inV (.str z) [.str "bed", .str "fee", .str "meal", .str "ride", .str "sundry"])) H
def spDay : Sp := fun vs H Q _ => ∃ i : Int, vs = [.int i] ∧ Q (.bl (wholeB i 0 59)) H
def spTown : Sp := fun vs H Q _ => ∃ i : Int, vs = [.int i] ∧ Q (.bl (wholeB i 0 3)) H
def spIsShare : Sp := fun vs H Q _ => ∃ i : Int, vs = [.int i] ∧ Q (.bl (wholeB i 0 1000000000000)) H
section
variable {P : Program} {w : World} {K : PySem.W.Frag} {mg : Str → Option Value} {base : Heap} {f : Addr} {fd : FuncData}
theorem p_whole (F : Fn K "is_whole" "is_whole" s_is_whole f fd) (T : Txt K mg) : FnOk P w K mg base CX0 1 f fd ["thing", "least", "most"] spWhole := by
  refine fn_w F sc_is_whole ok_is_whole (fun vs H Q E h => by obtain ⟨i, lo, hi, rfl, _⟩ := h; rfl) (fun X vs H Q E C h => ?_)
  obtain ⟨i, lo, hi, rfl, q⟩ := h
  show wB X _ _ [some (.int i), some (.int lo), some (.int hi)] H
  first | refine wB_one ?_ | refine wB_cons' fun _ _ => ?_
  walk_at "ws"
  refine wE_callB C T.isinstance (by walk_at "mem") boot_isinstance (by rfl) (by rfl) ?_
  walk_at "ws"
  refine wE_bltn (v := .ty "int") C T.int (by walk_at "mem") boot_int rfl ?_
  walk_at "ws"
  refine c_isi C (.ty "int") (.base (.int i)) kb_ii ?_
  walk_at "ws"
  refine wE_callB C T.isinstance (by walk_at "mem") boot_isinstance (by rfl) (by rfl) ?_
  walk_at "ws"
  refine wE_bltn (v := .ty "bool") C T.bool (by walk_at "mem") boot_bool rfl ?_
  walk_at "ws"
  refine c_isi C (.ty "bool") (.base (.int i)) kb_ib ?_
  walk_at "ws"
  unfold wholeB at q
  refine iteD (fun h => ?_) (fun h => ?_)
  · walk_at "ws"
    rw [decide_eq_true h] at q
    exact q
  · rw [decide_eq_false h] at q
    exact q
theorem p_truth (F : Fn K "is_truth" "is_truth" s_is_truth f fd) (T : Txt K mg) : FnOk P w K mg base CX0 1 f fd ["thing"] spTruth := by
  refine fn_w F sc_is_truth ok_is_truth (fun vs H Q E h => by obtain ⟨i, rfl, _⟩ := h; rfl) (fun X vs H Q E C h => ?_)
  obtain ⟨i, rfl, q⟩ := h
  show wB X _ _ [some (.bl i)] H
  first | refine wB_one ?_ | refine wB_cons' fun _ _ => ?_
  walk_at "ws"
  refine wE_callB C T.isinstance (by walk_at "mem") boot_isinstance (by rfl) (by rfl) ?_
  walk_at "ws"
  refine wE_bltn (v := .ty "bool") C T.bool (by walk_at "mem") boot_bool rfl ?_
  walk_at "ws"
  refine c_isi C (.ty "bool") (.base (.bl i)) kb_bb ?_
  exact q
theorem p_kind (F : Fn K "is_kind" "is_kind" s_is_kind f fd) (T : Txt K mg) : FnOk P w K mg base CX0 1 f fd ["thing"] spKind := by
  refine fn_w F sc_is_kind ok_is_kind (fun vs H Q E h => by obtain ⟨i, rfl, _⟩ := h; rfl) (fun X vs H Q E C h => ?_)
  obtain ⟨z, rfl, q⟩ := h
  show wB X _ _ [some (.str z)] H
  first | refine wB_one ?_ | refine wB_cons' fun _ _ => ?_
  walk_at "ws"
  obtain ⟨a, ma, ha⟩ := T.kinds
  refine wE_glob (v := .ref a) C (by walk_at "mem") ma rfl ?_
  refine o_inT C (ha H) rfl rfl ?_
  exact q
theorem p_day (F : Fn K "is_day" "is_day" s_is_day f fd) (T : Txt K mg) (DW : Df P w K mg base 1 "is_whole" ["thing", "least", "most"] [] spWhole) : FnOk P w K mg base CX0 2 f fd ["thing"] spDay := by
  refine fn_w F sc_is_day ok_is_day (fun vs H Q E h => by obtain ⟨i, rfl, _⟩ := h; rfl) (fun X vs H Q E C h => ?_)
  obtain ⟨i, rfl, q⟩ := h
  show wB X _ _ [some (.int i)] H
  first | refine wB_one ?_ | refine wB_cons' fun _ _ => ?_
  walk_at "ws"
  obtain ⟨t, mt⟩ := T.lday
  refine wE_call C DW (by walk_at "mem") (by decide) (by rfl) (by rfl) ?_
  walk_at "ws"
  refine wE_glob (v := .int 59) C (by walk_at "mem") mt ⟨t, rfl⟩ ?_
  walk_at "ws"
  exact ⟨i, 0, 59, rfl, q⟩
theorem p_town (F : Fn K "is_town" "is_town" s_is_town f fd) (T : Txt K mg) (DW : Df P w K mg base 1 "is_whole" ["thing", "least", "most"] [] spWhole) : FnOk P w K mg base CX0 2 f fd ["thing"] spTown := by
  refine fn_w F sc_is_town ok_is_town (fun vs H Q E h => by obtain ⟨i, rfl, q⟩ := h; rfl) (fun X vs H Q E C h => ?_)
  obtain ⟨i, rfl, q⟩ := h
  show wB X _ _ [some (.int i)] H
  first | refine wB_one ?_ | refine wB_cons' fun _ _ => ?_
  walk_at "ws"
  refine wE_call C DW (by walk_at "mem") (by decide) (by rfl) (by rfl) ?_
  walk_at "ws"
  refine wE_glob (v := .int 3) C (by walk_at "mem") T.ltown.choose_spec ⟨_, rfl⟩ ?_
  walk_at "ws"
  exact ⟨i, 0, 3, rfl, q⟩
theorem p_isshare (F : Fn K "is_share" "is_share" s_is_share f fd) (T : Txt K mg) (DW : Df P w K mg base 1 "is_whole" ["thing", "least", "most"] [] spWhole) : FnOk P w K mg base CX0 2 f fd ["thing"] spIsShare := by
  refine fn_w F sc_is_share ok_is_share (fun vs H Q E h => by obtain ⟨i, rfl, q⟩ := h; rfl) (fun X vs H Q E C h => ?_)
  obtain ⟨i, rfl, q⟩ := h
  show wB X _ _ [some (.int i)] H
  first | refine wB_one ?_ | refine wB_cons' fun _ _ => ?_
  walk_at "ws"
  refine wE_call C DW (by walk_at "mem") (by decide) (by rfl) (by rfl) ?_
  walk_at "ws"
  refine wE_glob (v := .int 1000000000000) C (by walk_at "mem") T.mshare.choose_spec ⟨_, rfl⟩ ?_
  walk_at "ws"
  exact ⟨i, 0, 1000000000000, rfl, q⟩
end
def spBox (K : PySem.W.Frag) : Sp := fun vs H Q _ => ∃ (a : Addr) (ns : List Int) (k : Int), vs = [.ref a, .int k] ∧ SqL K H a (ns.map V.int) ∧ 0 ≤ k ∧ ∀ p n m H', H p = none → Ex H H' → H' p = some (.lst [.int n, .int m]) → Q (.ref p) H'
theorem atI_map {ns : List Int} {k : Int} (h0 : 0 ≤ k) (h1 : k < ns.length) : ∃ z, atI (ns.map V.int) k = some (.int z) := by
  obtain ⟨v, e, hv⟩ := atI_mem (xs := ns.map V.int) h0 (by rw [List.length_map]; exact h1)
  obtain ⟨z, _, rfl⟩ := List.mem_map.mp hv
  exact ⟨z, e⟩
section
variable {P : Program} {w : World} {K : PySem.W.Frag} {mg : Str → Option Value} {base : Heap} {f C0 : Addr} {fd : FuncData}
theorem p_box (F : Fn K "_law_box" "_law_box" s__law_box f fd) (T : Txt K mg) : FnOk P w K mg base CX0 1 f fd ["_law_script", "_law_k"] (spBox K) := by
  refine fn_w F sc__law_box ok__law_box (fun vs H Q E h => by obtain ⟨a, ns, k, rfl, ha, hk, q⟩ := h; rfl) (fun X vs H Q E C h => ?_)
  obtain ⟨a, ns, k, rfl, ha, hk, q⟩ := h
  show wB X _ _ [some (.ref a), some (.int k), none, none, none, none] H
  first | refine wB_one ?_ | refine wB_cons' fun _ _ => ?_
  walk_at "ws"
  refine wS_cut (fun σ' H' => ∃ z, σ' = [some (.ref a), some (.int k), some (.int z), none, none, none] ∧ H' = H) ?_ ?_
  · refine wS_if ?_
    walk_at "ws"
    refine wE_callB C T.len (by walk_at "mem") boot_len (by rfl) (by rfl) ?_
    walk_at "ws"
    refine c_lenL C ha ?_
    walk_at "ws"
    refine iteD (fun h => ?_) (fun h => ?_)
    · walk_at "ws"
      obtain ⟨z, hz⟩ := atI_map hk (show k < ns.length by rw [List.length_map] at h; exact h)
      refine i_list C (fun _ _ => rfl) ha hz ?_
      walk_at "ws"
      exact ⟨_, rfl, rfl⟩
    · walk_at "ws"
      exact ⟨_, rfl, rfl⟩
  rintro σ1 H1 ⟨z, rfl, rfl⟩
  walk_at "ws"
  refine wS_if ?_
  walk_at "ws"
  refine iteD (fun h => ?_) (fun h => ?_)
  · walk_at "ws"
    refine wE_callB C T.abs (by walk_at "mem") boot_abs (by rfl) (by rfl) ?_
    walk_at "ws"
    refine c_abs ?_
    walk_at "ws"
    refine ⟨(by show 2 ≤ sizeLine; decide), fun p H2 hp e h2 => ?_⟩
    exact q p _ _ H2 hp e h2
  · walk_at "ws"
    refine wS_range1 C T.range (by walk_at "mem") (by rfl) ?_
    walk_at "ws"
    refine ⟨16, rfl, by decide, fun i σ H' => ∃ r y1 y2, σ = [some (.ref a), some (.int k), some (.int z), some (.int r), y1, y2] ∧ H' = H1, ⟨0, none, none, rfl, rfl⟩, ?_, ?_⟩
    · rintro i σ H' hi ⟨r, y1, y2, rfl, rfl⟩
      refine wG_name C (by walk_at "mem") ?_
      walk_at "ws"
      exact ⟨_, _, _, rfl, rfl⟩
    · rintro σ H' ⟨r, y1, y2, rfl, rfl⟩
      walk_at "ws"
      refine wE_callB C T.abs (by walk_at "mem") boot_abs (by rfl) (by rfl) ?_
      walk_at "ws"
      refine c_abs ?_
      walk_at "ws"
      refine ⟨(by show 2 ≤ sizeLine; decide), fun p H2 hp e h2 => ?_⟩
      exact q p _ _ H2 hp e h2
end
def spTake : Sp := fun vs H Q _ => ∃ (b : Addr) (n m k : Int), vs = [.ref b, .int k] ∧ H b = some (.lst [.int n, .int m]) ∧ 0 < k ∧ k < 4611686018427387904 ∧ ∀ d n' m' H', 0 ≤ d → d < k → H' b = some (.lst [.int n', .int m']) → Exb b H H' → Q (.int d) H'
def spMore : Sp := fun vs H Q _ => ∃ (b : Addr) (n m : Int), vs = [.ref b] ∧ H b = some (.lst [.int n, .int m]) ∧ ∀ r m' H', H' b = some (.lst [.int n, .int m']) → Exb b H H' → Q (.int r) H'
section
variable {P : Program} {w : World} {K : PySem.W.Frag} {mg : Str → Option Value} {base : Heap} {f C0 : Addr} {fd : FuncData}
theorem p_more (F : Fn K "_law_more" "_law_more" s__law_more f fd) (T : Txt K mg) : FnOk P w K mg base CX0 1 f fd ["_law_box_here"] spMore := by
  refine fn_w F sc__law_more ok__law_more (fun vs H Q E h => by obtain ⟨b, n, m, rfl, hb, q⟩ := h; rfl) (fun X vs H Q E C h => ?_)
  obtain ⟨b, n, m, rfl, hb, q⟩ := h
  show wB X _ _ [some (.ref b), none, none] H
  first | refine wB_one ?_ | refine wB_cons' fun _ _ => ?_
  walk_at "ws"
  refine wS_range1 C T.range (by walk_at "mem") (by rfl) ?_
  walk_at "ws"
  refine ⟨12, rfl, by decide, fun i σ H' => ∃ r m' y, σ = [some (.ref b), some (.int r), y] ∧ H' b = some (.lst [.int n, .int m']) ∧ Exb b H H', ⟨0, m, none, rfl, hb, (Ex.refl H).toB⟩, ?_, ?_⟩
  · rintro i σ H' hi ⟨r, m', y, rfl, hb', ex⟩
    refine wG_name C (by walk_at "mem") ?_
    walk_at "ws"
    refine wS_asg (by rfl) (by rfl) (by rfl) ?_
    walk_at "ws"
    exact ⟨_, _, _, rfl, by assumption, by walk_at "hx"⟩
  · rintro σ H' ⟨r, m', y, rfl, hb', ex⟩
    walk_at "ws"
    exact q r m' H' hb' ex
theorem p_take (F : Fn K "_law_take" "_law_take" s__law_take f fd) (T : Txt K mg) (D : Df P w K mg base 1 "_law_more" ["_law_box_here"] [] spMore) : FnOk P w K mg base CX0 2 f fd ["_law_box_here", "_law_count"] spTake := by
  refine fn_w F sc__law_take ok__law_take (fun vs H Q E h => by obtain ⟨b, n, m, k, rfl, hb, k0, k1, q⟩ := h; rfl) (fun X vs H Q E C h => ?_)
  obtain ⟨b, n, m, k, rfl, hb, k0, k1, q⟩ := h
  show wB X _ _ [some (.ref b), some (.int k), none, none] H
  first | refine wB_one ?_ | refine wB_cons' fun _ _ => ?_
  walk_at "ws"
  refine wS_cut (fun σ' H' => ∃ n' m', σ' = [some (.ref b), some (.int k), none, none] ∧ H' b = some (.lst [.int n', .int m']) ∧ Exb b H H') ?_ ?_
  · refine wS_if ?_
    walk_at "ws"
    refine iteD (fun h0 => ?_) (fun _ => ?_)
    · walk_at "ws"
      refine iteD (fun h1 => ?_) (fun _ => ?_)
      · walk_at "ws"
        refine wS_asg (by rfl) (by rfl) (by rfl) ?_
        walk_at "ws"
        refine wE_call C D (by walk_at "mem") (by decide) (by rfl) (by rfl) ?_
        walk_at "ws"
        refine ⟨b, n, m, rfl, hb, fun r m' H' hb' ex => ?_⟩
        walk_at "ws"
        exact ⟨_, _, rfl, by assumption, by walk_at "hx"⟩
      · walk_at "ws"
        exact ⟨_, _, rfl, hb, by walk_at "hx"⟩
    · walk_at "ws"
      exact ⟨_, _, rfl, hb, by walk_at "hx"⟩
  · rintro σ' H' ⟨n', m', rfl, hb', ex⟩
    walk_at "ws"
    refine wE_callB C T.divmod (by walk_at "mem") boot_divmod (by rfl) (by rfl) ?_
    walk_at "ws"
    refine c_divmodW k0 k1 fun p H2 hp e2 h2 => ?_
    walk_at "ws"
    refine wS_asg (by rfl) (by rfl) (by rfl) ?_
    walk_at "ws"
    exact q _ _ _ _ (Int.emod_nonneg _ (by omega)) (Int.emod_lt_of_pos _ k0) (by assumption) (by walk_at "hx")
end
/-! ### rules -/
def oS : Option Str → V
  | none => .non
  | some z => .str z
def oI : Option Int → V
  | none => .non
  | some i => .int i
def oB : Option Bool → V
  | none => .non
  | some b => .bl b
def deedsL : List V := [.str "let", .str "cut", .str "each", .str "hundredths", .str "refuse"]
def kindsL : List V := [.str "bed", .str "fee", .str "meal", .str "ride", .str "sundry"]
/-- the most that the bound of a deed may be -/
def mostB (d : Str) : Int := if d = "cut" then 1000000000000 else if d = "each" then 1000 else if d = "hundredths" then 100 else 0
structure Ru where
  name : Str
  deed : Str
  bound : Int
  kind : Option Str
  town : Option Int
  first : Int
  last : Int
  over : Int
  paper : Option Bool
def lettersL : List Nat := TL.tl "abcdefghijklmnopqrstuvwxyz"
structure Ru.Ok (r : Ru) : Prop where
  n1 : 1 ≤ r.name.length
  n2 : r.name.length ≤ 8
  nl : ∀ c ∈ r.name.cps.toList, c ∈ lettersL
  deed : inV (.str r.deed) deedsL = true
  b1 : 0 ≤ r.bound
  b2 : r.bound ≤ mostB r.deed
  kind : ∀ z, r.kind = some z → inV (.str z) kindsL = true
  town : ∀ i, r.town = some i → 0 ≤ i ∧ i ≤ 3
  f1 : 0 ≤ r.first
  f2 : r.first ≤ r.last
  l2 : r.last ≤ 59
  o1 : 0 ≤ r.over
  o2 : r.over ≤ 1000000000000
def Ru.vs (r : Ru) : List V := [.str r.name, .str r.deed, .int r.bound, oS r.kind, oI r.town, .int r.first, .int r.last, .int r.over, oB r.paper]
theorem deeds5 {k : Str} (h : inV (.str k) deedsL = true) : k = ("let" : Str) ∨ k = ("cut" : Str) ∨ k = ("each" : Str) ∨ k = ("hundredths" : Str) ∨ k = ("refuse" : Str) := by
  have z : ("let" : Str) = k ∨ ("cut" : Str) = k ∨ ("each" : Str) = k ∨ ("hundredths" : Str) = k ∨ ("refuse" : Str) = k := by
    unfold deedsL inV at h
    simpa [eqV] using h
  rcases z with rfl | rfl | rfl | rfl | rfl
  · exact .inl rfl
  · exact .inr (.inl rfl)
  · exact .inr (.inr (.inl rfl))
  · exact .inr (.inr (.inr (.inl rfl)))
  · exact .inr (.inr (.inr (.inr rfl)))
theorem kinds5 {k : Str} (h : inV (.str k) kindsL = true) : k = ("bed" : Str) ∨ k = ("fee" : Str) ∨ k = ("meal" : Str) ∨ k = ("ride" : Str) ∨ k = ("sundry" : Str) := by
  have z : ("bed" : Str) = k ∨ ("fee" : Str) = k ∨ ("meal" : Str) = k ∨ ("ride" : Str) = k ∨ ("sundry" : Str) = k := by
    unfold kindsL inV at h
    simpa [eqV] using h
  rcases z with rfl | rfl | rfl | rfl | rfl
  · exact .inl rfl
  · exact .inr (.inl rfl)
  · exact .inr (.inr (.inl rfl))
  · exact .inr (.inr (.inr (.inl rfl)))
  · exact .inr (.inr (.inr (.inr rfl)))
/-! ### payments -/
def payH (d : Str) (b : Int) : Int := if d = "let" then 100 else if d = "cut" then 100 else if d = "each" then 100 * b else if d = "hundredths" then b else 0
def payM (d : Str) (b : Int) : Int := if d = "cut" then b else 1000000000000000
def spPayOf : Sp := fun vs H Q _ => ∃ (d : Str) (b : Int), vs = [.str d, .int b] ∧ inV (.str d) deedsL = true ∧ ∀ p H', H p = none → Ex H H' → H' p = some (.tup [.int (payH d b), .int (payM d b)]) → Q (.ref p) H'
def spName : Sp := fun vs H Q _ => ∃ z : Str, vs = [.str z] ∧ 1 ≤ z.length ∧ z.length ≤ 8 ∧ (∀ c ∈ z.cps.toList, c ∈ lettersL) ∧ ∀ H', Ex H H' → Q (.bl true) H'
def spDeed : Sp := fun vs H Q _ => ∃ d : Str, vs = [.str d] ∧ inV (.str d) deedsL = true ∧ Q (.bl true) H
/-- the module's names of rules -/
structure TxR (K : PySem.W.Frag) (w : World) (mg : Str → Option Value) : Prop where
  nob : ∃ t, mg "NO_BOUND" = some (.int 1000000000000000 t)
  let8 : ∃ t, mg "MOST_LETTERS" = some (.int 8 t)
  lets : ∃ t, mg "LETTERS" = some (.str "abcdefghijklmnopqrstuvwxyz" t)
  all : mg "all" = none
  str : mg "str" = none
  tab : ∃ d es n, mg "MOST_BOUNDS" = some (.ref d) ∧ KDict K w d es n ∧ ∀ z, inV (.str z) deedsL = true → ∃ u, PySem.W.nsIn K d z = some (some u) ∧ RelV (.int (mostB z)) u
theorem kb_ss : kitB "str" "str" = some true := by decide +kernel
section
variable {P : Program} {w : World} {K : PySem.W.Frag} {mg : Str → Option Value} {base : Heap} {f C0 : Addr} {fd : FuncData}
theorem p_payof (F : Fn K "payment_of" "payment_of" s_payment_of f fd) (R : TxR K w mg) : FnOk P w K mg base CX0 1 f fd ["deed", "bound"] spPayOf := by
  refine fn_w F sc_payment_of ok_payment_of (fun vs H Q E h => by obtain ⟨d, b, rfl, hd, q⟩ := h; rfl) (fun X vs H Q E C h => ?_)
  obtain ⟨d, b, rfl, hd, q⟩ := h
  show wB X _ _ [some (.str d), some (.int b)] H
  first | refine wB_one ?_ | refine wB_cons' fun _ _ => ?_
  walk_at "ws"
  refine wS_if ?_
  walk_at "ws"
  refine o_eqSS ?_
  walk_at "ws"
  refine iteD (fun e1 => ?_) (fun e1 => ?_)
  · walk_at "ws"
    refine wE_glob (v := .int 1000000000000000) C (by walk_at "mem") R.nob.choose_spec ⟨_, rfl⟩ ?_
    walk_at "ws"
    refine ⟨(by show 2 ≤ sizeLine; decide), fun p H1 hp ex g => ?_⟩
    exact q p H1 hp ex (by unfold payH payM; rw [if_pos e1, if_neg (by rw [e1]; decide +kernel)]; exact g)
  walk_at "ws"
  refine wS_if ?_
  walk_at "ws"
  refine o_eqSS ?_
  walk_at "ws"
  refine iteD (fun e2 => ?_) (fun e2 => ?_)
  · walk_at "ws"
    refine ⟨(by show 2 ≤ sizeLine; decide), fun p H1 hp ex g => ?_⟩
    exact q p H1 hp ex (by unfold payH payM; rw [if_neg e1, if_pos e2, if_pos e2]; exact g)
  walk_at "ws"
  refine wS_if ?_
  walk_at "ws"
  refine o_eqSS ?_
  walk_at "ws"
  refine iteD (fun e3 => ?_) (fun e3 => ?_)
  · walk_at "ws"
    refine wE_glob (v := .int 1000000000000000) C (by walk_at "mem") R.nob.choose_spec ⟨_, rfl⟩ ?_
    walk_at "ws"
    refine ⟨(by show 2 ≤ sizeLine; decide), fun p H1 hp ex g => ?_⟩
    exact q p H1 hp ex (by unfold payH payM; rw [if_neg e1, if_neg e2, if_pos e3, if_neg e2]; exact g)
  walk_at "ws"
  refine wS_if ?_
  walk_at "ws"
  refine o_eqSS ?_
  walk_at "ws"
  refine iteD (fun e4 => ?_) (fun e4 => ?_)
  · walk_at "ws"
    refine wE_glob (v := .int 1000000000000000) C (by walk_at "mem") R.nob.choose_spec ⟨_, rfl⟩ ?_
    walk_at "ws"
    refine ⟨(by show 2 ≤ sizeLine; decide), fun p H1 hp ex g => ?_⟩
    exact q p H1 hp ex (by unfold payH payM; rw [if_neg e1, if_neg e2, if_neg e3, if_pos e4, if_neg e2]; exact g)
  walk_at "ws"
  refine wE_glob (v := .int 1000000000000000) C (by walk_at "mem") R.nob.choose_spec ⟨_, rfl⟩ ?_
  walk_at "ws"
  refine ⟨(by show 2 ≤ sizeLine; decide), fun p H1 hp ex g => ?_⟩
  exact q p H1 hp ex (by unfold payH payM; rw [if_neg e1, if_neg e2, if_neg e3, if_neg e4, if_neg e2]; exact g)
theorem p_isname (F : Fn K "is_name" "is_name" s_is_name f fd) (T : Txt K mg) (R : TxR K w mg) : FnOk P w K mg base CX0 1 f fd ["thing"] spName := by
  refine fn_w F sc_is_name ok_is_name (fun vs H Q E h => by obtain ⟨z, rfl, z1, z2, zl, q⟩ := h; rfl) (fun X vs H Q E C h => ?_)
  obtain ⟨z, rfl, z1, z2, zl, q⟩ := h
  show wB X _ _ [some (.str z), none] H
  first | refine wB_one ?_ | refine wB_cons' fun _ _ => ?_
  walk_at "ws"
  refine wS_if ?_
  walk_at "ws"
  refine wE_callB C T.isinstance (by walk_at "mem") boot_isinstance (by rfl) (by rfl) ?_
  walk_at "ws"
  refine wE_bltn (v := .ty "str") C R.str (by walk_at "mem") boot_str rfl ?_
  walk_at "ws"
  refine c_isi C (.ty "str") (.base (.str z)) kb_ss ?_
  walk_at "ws"
  refine wE_callB C T.len (by walk_at "mem") boot_len (by rfl) (by rfl) ?_
  walk_at "ws"
  refine c_lenS (Nat.le_trans z2 (by decide)) ?_
  walk_at "ws"
  rw [show decide ((1 : Int) ≤ (z.length : Int)) = true from decide_eq_true (by omega)]
  walk_at "ws"
  refine wE_glob (v := .int 8) C (by walk_at "mem") R.let8.choose_spec ⟨_, rfl⟩ ?_
  walk_at "ws"
  rw [show decide ((z.length : Int) ≤ 8) = true from decide_eq_true (by omega)]
  walk_at "ws"
  refine wE_callB C R.all (by walk_at "mem") boot_all (by rfl) (by rfl) ?_
  walk_at "ws"
  refine wE_lcS [("sign", 1)] ["sign"] ["sign"] ["LETTERS"] C (by decide +kernel) (by decide +kernel) (by decide +kernel) (by rfl) (fun _ => rfl) ?_
  walk_at "ws"
  refine ⟨z, rfl, fun D hD => ⟨fun i H2 => ∃ bs : List Bool, bs.length = i ∧ (∀ b ∈ bs, b = true) ∧ H2 D = some (.lst (bs.map V.bl)) ∧ Ex H H2, ⟨[], rfl, by simp, upd_same, Ex.upd hD⟩, ?_, ?_⟩⟩
  · rintro i c H2 hc ⟨bs, l1, l2, l3, l4⟩
    have hm : c ∈ lettersL := zl c (Array.mem_toList_iff.mpr (Array.mem_of_getElem? hc))
    have hi : i < 8 := by
      have y := (Array.getElem?_eq_some_iff.mp hc).1
      have y2 : z.cps.size ≤ 8 := z2
      omega
    intro X1 C1
    show wG X1 _ _ [some (.str z), none] H2 _
    refine wG_name C1 (by walk_at "mem") ?_
    walk_at "ws"
    refine ⟨rfl, ?_⟩
    refine blkT_nil (iteT ?_)
    intro X2 C2
    clear C1 C
    walk_at "ws"
    refine wE_glob (v := .str "abcdefghijklmnopqrstuvwxyz") C2 (by walk_at "mem") R.lets.choose_spec ⟨_, rfl⟩ ?_
    refine o_inSign ?_
    rw [show decide (c ∈ ("abcdefghijklmnopqrstuvwxyz" : Str).cps.toList) = true from decide_eq_true hm]
    refine ⟨_, l3, by rw [List.length_map, l1, sizeLine_eq]; omega, bs ++ [true], by rw [List.length_append, l1]; rfl, fun b hb => ?_, by rw [upd_same, List.map_append]; rfl, l4.mut hD Exb.upd⟩
    rcases List.mem_append.mp hb with hb | hb
    · exact l2 b hb
    · exact List.mem_singleton.mp hb
  · rintro H2 ⟨bs, l1, l2, l3, l4⟩
    walk_at "ws"
    refine c_all C (SqL.of l3) ?_
    rw [show bs.all id = true from List.all_eq_true.mpr l2]
    exact q H2 l4
theorem p_isdeed (F : Fn K "is_deed" "is_deed" s_is_deed f fd) (T : Txt K mg) (R : TxR K w mg) : FnOk P w K mg base CX0 1 f fd ["thing"] spDeed := by
  refine fn_w F sc_is_deed ok_is_deed (fun vs H Q E h => by obtain ⟨d, rfl, hd, q⟩ := h; rfl) (fun X vs H Q E C h => ?_)
  obtain ⟨d, rfl, hd, q⟩ := h
  show wB X _ _ [some (.str d)] H
  first | refine wB_one ?_ | refine wB_cons' fun _ _ => ?_
  walk_at "ws"
  refine wE_callB C T.isinstance (by walk_at "mem") boot_isinstance (by rfl) (by rfl) ?_
  walk_at "ws"
  refine wE_bltn (v := .ty "str") C R.str (by walk_at "mem") boot_str rfl ?_
  walk_at "ws"
  refine c_isi C (.ty "str") (.base (.str d)) kb_ss ?_
  walk_at "ws"
  obtain ⟨td, es, n, hm, D, hv⟩ := R.tab
  obtain ⟨u, hu, _⟩ := hv d hd
  refine wE_glob (v := .ref td) C (by walk_at "mem") hm rfl ?_
  refine o_inTab C D hu ?_
  walk_at "ws"
  exact q
end
def Ru.fs (r : Ru) (q : Addr) : List (Str × V) := putF "payment" (.ref q) (putF "paper" (oB r.paper) (putF "over" (.int r.over) (putF "last" (.int r.last) (putF "first" (.int r.first) (putF "town" (oI r.town) (putF "kind" (oS r.kind) (putF "bound" (.int r.bound) (putF "deed" (.str r.deed) (putF "name" (.str r.name) [])))))))))
theorem Ru.l_name (r : Ru) (q : Addr) : (r.fs q).lookup ("name" : Str) = some (.str r.name) := by unfold Ru.fs; rw [lookup_putF, if_neg (by decide +kernel), lookup_putF, if_neg (by decide +kernel), lookup_putF, if_neg (by decide +kernel), lookup_putF, if_neg (by decide +kernel), lookup_putF, if_neg (by decide +kernel), lookup_putF, if_neg (by decide +kernel), lookup_putF, if_neg (by decide +kernel), lookup_putF, if_neg (by decide +kernel), lookup_putF, if_neg (by decide +kernel), lookup_putF, if_pos rfl]
theorem Ru.l_deed (r : Ru) (q : Addr) : (r.fs q).lookup ("deed" : Str) = some (.str r.deed) := by unfold Ru.fs; rw [lookup_putF, if_neg (by decide +kernel), lookup_putF, if_neg (by decide +kernel), lookup_putF, if_neg (by decide +kernel), lookup_putF, if_neg (by decide +kernel), lookup_putF, if_neg (by decide +kernel), lookup_putF, if_neg (by decide +kernel), lookup_putF, if_neg (by decide +kernel), lookup_putF, if_neg (by decide +kernel), lookup_putF, if_pos rfl]
theorem Ru.l_bound (r : Ru) (q : Addr) : (r.fs q).lookup ("bound" : Str) = some (.int r.bound) := by unfold Ru.fs; rw [lookup_putF, if_neg (by decide +kernel), lookup_putF, if_neg (by decide +kernel), lookup_putF, if_neg (by decide +kernel), lookup_putF, if_neg (by decide +kernel), lookup_putF, if_neg (by decide +kernel), lookup_putF, if_neg (by decide +kernel), lookup_putF, if_neg (by decide +kernel), lookup_putF, if_pos rfl]
theorem Ru.l_kind (r : Ru) (q : Addr) : (r.fs q).lookup ("kind" : Str) = some (oS r.kind) := by unfold Ru.fs; rw [lookup_putF, if_neg (by decide +kernel), lookup_putF, if_neg (by decide +kernel), lookup_putF, if_neg (by decide +kernel), lookup_putF, if_neg (by decide +kernel), lookup_putF, if_neg (by decide +kernel), lookup_putF, if_neg (by decide +kernel), lookup_putF, if_pos rfl]
theorem Ru.l_town (r : Ru) (q : Addr) : (r.fs q).lookup ("town" : Str) = some (oI r.town) := by unfold Ru.fs; rw [lookup_putF, if_neg (by decide +kernel), lookup_putF, if_neg (by decide +kernel), lookup_putF, if_neg (by decide +kernel), lookup_putF, if_neg (by decide +kernel), lookup_putF, if_neg (by decide +kernel), lookup_putF, if_pos rfl]
theorem Ru.l_first (r : Ru) (q : Addr) : (r.fs q).lookup ("first" : Str) = some (.int r.first) := by unfold Ru.fs; rw [lookup_putF, if_neg (by decide +kernel), lookup_putF, if_neg (by decide +kernel), lookup_putF, if_neg (by decide +kernel), lookup_putF, if_neg (by decide +kernel), lookup_putF, if_pos rfl]
theorem Ru.l_last (r : Ru) (q : Addr) : (r.fs q).lookup ("last" : Str) = some (.int r.last) := by unfold Ru.fs; rw [lookup_putF, if_neg (by decide +kernel), lookup_putF, if_neg (by decide +kernel), lookup_putF, if_neg (by decide +kernel), lookup_putF, if_pos rfl]
theorem Ru.l_over (r : Ru) (q : Addr) : (r.fs q).lookup ("over" : Str) = some (.int r.over) := by unfold Ru.fs; rw [lookup_putF, if_neg (by decide +kernel), lookup_putF, if_neg (by decide +kernel), lookup_putF, if_pos rfl]
theorem Ru.l_paper (r : Ru) (q : Addr) : (r.fs q).lookup ("paper" : Str) = some (oB r.paper) := by unfold Ru.fs; rw [lookup_putF, if_neg (by decide +kernel), lookup_putF, if_pos rfl]
theorem Ru.l_payment (r : Ru) (q : Addr) : (r.fs q).lookup ("payment" : Str) = some (.ref q) := by unfold Ru.fs; rw [lookup_putF, if_pos rfl]
/-- the class of the rules -/
structure Sr (K : PySem.W.Frag) (C : Addr) : Prop where
  cl : Cls K C
  n_name : NoAttr K C "name"
  n_deed : NoAttr K C "deed"
  n_bound : NoAttr K C "bound"
  n_kind : NoAttr K C "kind"
  n_town : NoAttr K C "town"
  n_first : NoAttr K C "first"
  n_last : NoAttr K C "last"
  n_over : NoAttr K C "over"
  n_paper : NoAttr K C "paper"
  n_payment : NoAttr K C "payment"
def spParts : Sp := fun vs H Q _ => ∃ r : Ru, vs = r.vs ∧ r.Ok ∧ ∀ H', Ex H H' → Q .non H'
def spInit (C : Addr) : Sp := fun vs H Q _ => ∃ (p dx : Addr) (r : Ru), vs = .ref p :: r.vs ∧ r.Ok ∧ H p = some (.ins C dx []) ∧ ∀ q H', Exb p H H' → H' p = some (.ins C dx (r.fs q)) → H' q = some (.tup [.int (payH r.deed r.bound), .int (payM r.deed r.bound)]) → q ≠ p → Q .non H'
section
variable {P : Program} {w : World} {K : PySem.W.Frag} {mg : Str → Option Value} {base : Heap} {f C0 : Addr} {fd : FuncData}
theorem p_parts (F : Fn K "check_parts" "check_parts" s_check_parts f fd) (T : Txt K mg) (R : TxR K w mg) (DW : Df P w K mg base 1 "is_whole" ["thing", "least", "most"] [] spWhole) (DK : Df P w K mg base 1 "is_kind" ["thing"] [] spKind)
    (DD : Df P w K mg base 2 "is_day" ["thing"] [] spDay) (DT : Df P w K mg base 1 "is_truth" ["thing"] [] spTruth) (DN : Df P w K mg base 1 "is_name" ["thing"] [] spName) (DE : Df P w K mg base 1 "is_deed" ["thing"] [] spDeed)
    (DO : Df P w K mg base 2 "is_town" ["thing"] [] spTown) (DS : Df P w K mg base 2 "is_share" ["thing"] [] spIsShare) : FnOk P w K mg base CX0 3 f fd ["name", "deed", "bound", "kind", "town", "first", "last", "over", "paper"] spParts := by
  refine fn_w F sc_check_parts ok_check_parts (fun vs H Q E h => by obtain ⟨r, rfl, o, q⟩ := h; rfl) (fun X vs H Q E C h => ?_)
  obtain ⟨r, rfl, o, q⟩ := h
  show wB X _ _ [some (.str r.name), some (.str r.deed), some (.int r.bound), some (oS r.kind), some (oI r.town), some (.int r.first), some (.int r.last), some (.int r.over), some (oB r.paper)] H
  first | refine wB_one ?_ | refine wB_cons' fun _ _ => ?_
  walk_at "ws"
  have f1 := o.f1; have f2 := o.f2; have l2 := o.l2; have o1 := o.o1; have o2 := o.o2; have b1 := o.b1; have b2 := o.b2
  refine wS_if ?_
  walk_at "ws"
  refine wE_call C DN (by walk_at "mem") (by decide) (by rfl) (by rfl) ?_
  walk_at "ws"
  refine ⟨r.name, rfl, o.n1, o.n2, o.nl, fun H1 e1 => ?_⟩
  walk_at "ws"
  refine wS_if ?_
  walk_at "ws"
  refine wE_call C DE (by walk_at "mem") (by decide) (by rfl) (by rfl) ?_
  walk_at "ws"
  refine ⟨r.deed, rfl, o.deed, ?_⟩
  walk_at "ws"
  refine wS_if ?_
  walk_at "ws"
  obtain ⟨td, es, n, hm, D, hv⟩ := R.tab
  obtain ⟨u, hu, ru⟩ := hv r.deed o.deed
  refine wE_call C DW (by walk_at "mem") (by decide) (by rfl) (by rfl) ?_
  walk_at "ws"
  refine wE_glob (v := .ref td) C (by walk_at "mem") hm rfl ?_
  walk_at "ws"
  refine i_tab C (fun _ _ => rfl) D hu ru ?_
  walk_at "ws"
  refine ⟨r.bound, 0, mostB r.deed, rfl, ?_⟩
  rw [show wholeB r.bound 0 (mostB r.deed) = true by unfold wholeB; rw [decide_eq_true b1, decide_eq_true b2]; rfl]
  walk_at "ws"
  refine wS_cut (fun σ' H' => σ' = [some (.str r.name), some (.str r.deed), some (.int r.bound), some (oS r.kind), some (oI r.town), some (.int r.first), some (.int r.last), some (.int r.over), some (oB r.paper)] ∧ Ex H H') ?_ ?_
  · refine wS_if ?_
    walk_at "ws"
    cases hk : r.kind with
    | none =>
      show if (!decide (V.non = V.non)) = true then _ else _
      rw [show (!decide (V.non = V.non)) = false by simp]
      walk_at "ws"
      exact ⟨rfl, e1⟩
    | some z =>
      show if (!decide (V.str z = V.non)) = true then _ else _
      rw [show (!decide (V.str z = V.non)) = true by simp]
      walk_at "ws"
      refine wE_call C DK (by walk_at "mem") (by decide) (by rfl) (by rfl) ?_
      walk_at "ws"
      refine ⟨z, rfl, ?_⟩
      rw [show inV (.str z) [.str "bed", .str "fee", .str "meal", .str "ride", .str "sundry"] = true from o.kind z hk]
      walk_at "ws"
      exact ⟨rfl, e1⟩
  rintro _ H2 ⟨rfl, e2⟩
  refine nx_mk ?_
  refine Nx.go (by assumption) ?_
  refine wB_cons' fun _ _ => ?_
  refine wS_cut (fun σ' H' => σ' = [some (.str r.name), some (.str r.deed), some (.int r.bound), some (oS r.kind), some (oI r.town), some (.int r.first), some (.int r.last), some (.int r.over), some (oB r.paper)] ∧ Ex H H') ?_ ?_
  · refine wS_if ?_
    walk_at "ws"
    cases hk : r.town with
    | none =>
      show if (!decide (V.non = V.non)) = true then _ else _
      rw [show (!decide (V.non = V.non)) = false by simp]
      walk_at "ws"
      exact ⟨rfl, e2⟩
    | some i =>
      have hi := o.town i hk
      show if (!decide (V.int i = V.non)) = true then _ else _
      rw [show (!decide (V.int i = V.non)) = true by simp]
      walk_at "ws"
      refine wE_call C DO (by walk_at "mem") (by decide) (by rfl) (by rfl) ?_
      walk_at "ws"
      refine ⟨i, rfl, ?_⟩
      rw [show wholeB i 0 3 = true by unfold wholeB; rw [decide_eq_true hi.1, decide_eq_true hi.2]; rfl]
      walk_at "ws"
      exact ⟨rfl, e2⟩
  rintro _ H3 ⟨rfl, e3⟩
  walk_at "ws"
  refine wS_if ?_
  walk_at "ws"
  refine wE_call C DD (by walk_at "mem") (by decide) (by rfl) (by rfl) ?_
  walk_at "ws"
  refine ⟨r.first, rfl, ?_⟩
  rw [show wholeB r.first 0 59 = true by unfold wholeB; rw [decide_eq_true f1, decide_eq_true (show r.first ≤ 59 by omega)]; rfl]
  walk_at "ws"
  refine wS_if ?_
  walk_at "ws"
  refine wE_call C DW (by walk_at "mem") (by decide) (by rfl) (by rfl) ?_
  walk_at "ws"
  refine wE_glob (v := .int 59) C (by walk_at "mem") T.lday.choose_spec ⟨_, rfl⟩ ?_
  walk_at "ws"
  refine ⟨r.last, r.first, 59, rfl, ?_⟩
  rw [show wholeB r.last r.first 59 = true by unfold wholeB; rw [decide_eq_true f2, decide_eq_true l2]; rfl]
  walk_at "ws"
  refine wS_if ?_
  walk_at "ws"
  refine wE_call C DS (by walk_at "mem") (by decide) (by rfl) (by rfl) ?_
  walk_at "ws"
  refine ⟨r.over, rfl, ?_⟩
  rw [show wholeB r.over 0 1000000000000 = true by unfold wholeB; rw [decide_eq_true o1, decide_eq_true o2]; rfl]
  walk_at "ws"
  refine wS_if ?_
  walk_at "ws"
  cases hk : r.paper with
  | none =>
    show if (!decide (V.non = V.non)) = true then _ else _
    rw [show (!decide (V.non = V.non)) = false by simp]
    walk_at "ws"
    exact q H3 e3
  | some b =>
    show if (!decide (V.bl b = V.non)) = true then _ else _
    rw [show (!decide (V.bl b = V.non)) = true by simp]
    walk_at "ws"
    refine wE_call C DT (by walk_at "mem") (by decide) (by rfl) (by rfl) ?_
    walk_at "ws"
    refine ⟨b, rfl, ?_⟩
    walk_at "ws"
    exact q H3 e3
theorem p_init (F : Fn K "__init__" "Rule.__init__" s_Rule_init f fd) (S : Sr K C0) (DP : Df P w K mg base 3 "check_parts" ["name", "deed", "bound", "kind", "town", "first", "last", "over", "paper"] [] spParts) (DY : Df P w K mg base 1 "payment_of" ["deed", "bound"] [] spPayOf) :
    FnOk P w K mg base CX0 4 f fd ["self", "name", "deed", "bound", "kind", "town", "first", "last", "over", "paper"] (spInit C0) := by
  refine fn_w F sc_Rule_init ok_Rule_init (fun vs H Q E h => by obtain ⟨p, dx, r, rfl, o, hp, q⟩ := h; rfl) (fun X vs H Q E C h => ?_)
  obtain ⟨p, dx, r, rfl, o, hp, q⟩ := h
  show wB X _ _ [some (.ref p), some (.str r.name), some (.str r.deed), some (.int r.bound), some (oS r.kind), some (oI r.town), some (.int r.first), some (.int r.last), some (.int r.over), some (oB r.paper)] H
  first | refine wB_one ?_ | refine wB_cons' fun _ _ => ?_
  walk_at "ws"
  refine wE_call C DP (by walk_at "mem") (by decide) (by rfl) (by rfl) ?_
  walk_at "ws"
  refine ⟨r, rfl, o, fun H0 e0 => ?_⟩
  walk_at "ws"
  have h0 := e0 _ _ hp
  refine putq_i h0 S.cl S.n_name (by show 0 < 1000; decide) fun H1 e1 h1 => ?_
  walk_at "ws"
  refine putq_i h1 S.cl S.n_deed (Nat.lt_of_le_of_lt (len_put (Nat.zero_le 0)) (by decide)) fun H2 e2 h2 => ?_
  walk_at "ws"
  refine putq_i h2 S.cl S.n_bound (Nat.lt_of_le_of_lt (len_put (len_put (Nat.zero_le 0))) (by decide)) fun H3 e3 h3 => ?_
  walk_at "ws"
  refine putq_i h3 S.cl S.n_kind (Nat.lt_of_le_of_lt (len_put (len_put (len_put (Nat.zero_le 0)))) (by decide)) fun H4 e4 h4 => ?_
  walk_at "ws"
  refine putq_i h4 S.cl S.n_town (Nat.lt_of_le_of_lt (len_put (len_put (len_put (len_put (Nat.zero_le 0))))) (by decide)) fun H5 e5 h5 => ?_
  walk_at "ws"
  refine putq_i h5 S.cl S.n_first (Nat.lt_of_le_of_lt (len_put (len_put (len_put (len_put (len_put (Nat.zero_le 0)))))) (by decide)) fun H6 e6 h6 => ?_
  walk_at "ws"
  refine putq_i h6 S.cl S.n_last (Nat.lt_of_le_of_lt (len_put (len_put (len_put (len_put (len_put (len_put (Nat.zero_le 0))))))) (by decide)) fun H7 e7 h7 => ?_
  walk_at "ws"
  refine putq_i h7 S.cl S.n_over (Nat.lt_of_le_of_lt (len_put (len_put (len_put (len_put (len_put (len_put (len_put (Nat.zero_le 0)))))))) (by decide)) fun H8 e8 h8 => ?_
  walk_at "ws"
  refine putq_i h8 S.cl S.n_paper (Nat.lt_of_le_of_lt (len_put (len_put (len_put (len_put (len_put (len_put (len_put (len_put (Nat.zero_le 0))))))))) (by decide)) fun H9 e9 h9 => ?_
  walk_at "ws"
  refine wE_call C DY (by walk_at "mem") (by decide) (by rfl) (by rfl) ?_
  walk_at "ws"
  refine ⟨r.deed, r.bound, rfl, o.deed, fun y Hy hy ey gy => ?_⟩
  walk_at "ws"
  have hp9 := ey _ _ h9
  refine putq_i hp9 S.cl S.n_payment (Nat.lt_of_le_of_lt (len_put (len_put (len_put (len_put (len_put (len_put (len_put (len_put (len_put (Nat.zero_le 0)))))))))) (by decide)) fun H10 e10 h10 => ?_
  walk_at "ws"
  have np : y ≠ p := ne_fresh hy h9
  exact q y _ ((((((((((e0.toB.trans e1).trans e2).trans e3).trans e4).trans e5).trans e6).trans e7).trans e8).trans e9).trans (ey.toB.trans e10)) h10 (e10 _ _ np gy) np
end
theorem letters_ok : lettersL.all (fun c => Builtin.Str.reprChar 39 c == [c] && decide (c ≠ 39) && decide (c ≠ 44) && decide (97 ≤ c) && decide (c ≤ 122)) = true := by decide +kernel
theorem letter_of {c : Nat} (h : c ∈ lettersL) : Builtin.Str.reprChar 39 c = [c] ∧ c ≠ 39 ∧ c ≠ 44 ∧ 97 ≤ c ∧ c ≤ 122 := by
  have z := List.all_eq_true.mp letters_ok c h
  simp only [Bool.and_eq_true, decide_eq_true_eq, beq_iff_eq] at z
  exact ⟨z.1.1.1.1, z.1.1.1.2, z.1.1.2, z.1.2, z.2⟩
theorem repr_letters {z : Str} (h : ∀ c ∈ z.cps.toList, c ∈ lettersL) : TL.tl (reprText z) = 39 :: (TL.tl z ++ [39]) := by
  have hq : reprQuote z = 39 := by
    unfold reprQuote
    have : z.cps.contains 39 = false := by
      cases e : z.cps.contains 39 with
      | false => rfl
      | true =>
        have m : (39 : Nat) ∈ z.cps.toList := Array.mem_toList_iff.mpr (Array.contains_iff_mem.mp e)
        exact absurd rfl (letter_of (h 39 m)).2.1
    rw [this]
    rfl
  have fold : ∀ (l : List Nat) (acc : Array Nat), (∀ c ∈ l, c ∈ lettersL) → (l.foldl (fun out c => out ++ (Builtin.Str.reprChar 39 c).toArray) acc).toList = acc.toList ++ l := by
    intro l
    induction l with
    | nil => intro acc _; simp
    | cons c r ih =>
      intro acc hl
      rw [List.foldl_cons, ih _ (fun d hd => hl d (List.mem_cons_of_mem _ hd)), (letter_of (hl c List.mem_cons_self)).1]
      simp
  unfold reprText
  rw [hq]
  show ((z.cps.foldl (fun out c => out ++ (Builtin.Str.reprChar 39 c).toArray) #[39]).push 39).toList = 39 :: (z.cps.toList ++ [39])
  rw [Array.toList_push, ← Array.foldl_toList, fold z.cps.toList #[39] h]
  simp
theorem repr_len {z : Str} (h : ∀ c ∈ z.cps.toList, c ∈ lettersL) : (reprText z).length = z.length + 2 := by
  have e := congrArg List.length (repr_letters h)
  have e1 : (TL.tl (reprText z)).length = (reprText z).length := by show (reprText z).cps.toList.length = (reprText z).cps.size; simp
  have e2 : (TL.tl z).length = z.length := by show z.cps.toList.length = z.cps.size; simp
  rw [List.length_cons, List.length_append, List.length_singleton] at e
  omega
theorem deed_letters {k : Str} (h : inV (.str k) deedsL = true) : ∀ c ∈ k.cps.toList, c ∈ lettersL := by
  rcases deeds5 h with rfl | rfl | rfl | rfl | rfl <;> decide +kernel
theorem kind_letters {k : Str} (h : inV (.str k) kindsL = true) : ∀ c ∈ k.cps.toList, c ∈ lettersL := by
  rcases kinds5 h with rfl | rfl | rfl | rfl | rfl <;> decide +kernel
theorem deed_len {k : Str} (h : inV (.str k) deedsL = true) : k.length ≤ 10 := by
  rcases deeds5 h with rfl | rfl | rfl | rfl | rfl <;> decide +kernel
theorem kind_len {k : Str} (h : inV (.str k) kindsL = true) : k.length ≤ 10 := by
  rcases kinds5 h with rfl | rfl | rfl | rfl | rfl <;> decide +kernel
theorem mostB_le (d : Str) : mostB d ≤ 1000000000000 := by unfold mostB; split; omega; split; omega; split <;> omega
/-! ### comparisons of parts that may be None -/
theorem o_eqOS {X : Cx} {x y : Option Str} {H : Hp} {Q : VK} (q : Q (.bl (decide (x = y))) H) : wO X (compareOp .Eq) (oS x) (oS y) H Q :=
  wO.of op_eq ⟨by cases x <;> cases y <;> rfl, by rw [show decide (oS x = oS y) = decide (x = y) from decide_eq_decide.mpr ⟨fun h => by cases x <;> cases y <;> simp [oS] at h ⊢ <;> exact h, fun h => by rw [h]⟩]; exact q⟩
theorem o_eqOI {X : Cx} {x y : Option Int} {H : Hp} {Q : VK} (q : Q (.bl (decide (x = y))) H) : wO X (compareOp .Eq) (oI x) (oI y) H Q :=
  wO.of op_eq ⟨by cases x <;> cases y <;> rfl, by rw [show decide (oI x = oI y) = decide (x = y) from decide_eq_decide.mpr ⟨fun h => by cases x <;> cases y <;> simp [oI] at h ⊢ <;> exact h, fun h => by rw [h]⟩]; exact q⟩
theorem o_eqOB {X : Cx} {x y : Option Bool} {H : Hp} {Q : VK} (q : Q (.bl (decide (x = y))) H) : wO X (compareOp .Eq) (oB x) (oB y) H Q :=
  wO.of op_eq ⟨by cases x <;> cases y <;> rfl, by rw [show decide (oB x = oB y) = decide (x = y) from decide_eq_decide.mpr ⟨fun h => by cases x <;> cases y <;> simp [oB] at h ⊢ <;> exact h, fun h => by rw [h]⟩]; exact q⟩
def Ru.same (r s : Ru) : Bool := decide (r.name = s.name ∧ r.deed = s.deed ∧ r.bound = s.bound ∧ r.kind = s.kind ∧ r.town = s.town ∧ r.first = s.first ∧ r.last = s.last ∧ r.over = s.over ∧ r.paper = s.paper)
def spSame (K : PySem.W.Frag) (C : Addr) : Sp := fun vs H Q _ => ∃ (a dx qa : Addr) (r : Ru) (y : V), vs = [.ref a, y] ∧ H a = some (.ins C dx (r.fs qa)) ∧
  ((∃ (b dy qb : Addr) (s : Ru), y = .ref b ∧ H b = some (.ins C dy (s.fs qb)) ∧ Q (.bl (r.same s)) H) ∨ ∃ t, TyX K H y t ∧ PySem.W.kitOne K t (.ref C) = some false ∧ Q (.bl false) H)
section
variable {P : Program} {w : World} {K : PySem.W.Frag} {mg : Str → Option Value} {base : Heap} {f C0 : Addr} {fd : FuncData}
theorem p_same (F : Fn K "__eq__" "Rule.__eq__" s_Rule_eq f fd) (T : Txt K mg) (S : Sr K C0) (gS : mg "Rule" = some (.ref C0)) (TI : ∀ {H : Hp} {a dx : Addr} {fs : List (Str × V)}, H a = some (.ins C0 dx fs) → TyX K H (.ref a) (.ref C0)) : FnOk P w K mg base CX0 1 f fd ["self", "other"] (spSame K C0) := by
  refine fn_w F sc_Rule_eq ok_Rule_eq (fun vs H Q E h => by obtain ⟨a, dx, qa, r, y, rfl, ha, q⟩ := h; rfl) (fun X vs H Q E C h => ?_)
  obtain ⟨a, dx, qa, r, y, rfl, ha, q⟩ := h
  show wB X _ _ [some (.ref a), some y] H
  first | refine wB_one ?_ | refine wB_cons' fun _ _ => ?_
  walk_at "ws"
  refine wE_callB C T.isinstance (by walk_at "mem") boot_isinstance (by rfl) (by rfl) ?_
  walk_at "ws"
  refine wE_glob (v := .ref C0) C (by walk_at "mem") gS rfl ?_
  walk_at "ws"
  rcases q with ⟨b, dy, qb, s, rfl, hb, q⟩ | ⟨t, ht, hk, q⟩
  · refine c_isi C (.own C0) (TI hb) (r := true) (by unfold PySem.W.kitOne; rw [if_pos (beq_self_eq_true _)]) ?_
    walk_at "ws"
    refine fldq_i ha S.cl S.n_name (r.l_name qa) ?_
    walk_at "ws"
    refine fldq_i hb S.cl S.n_name (s.l_name qb) ?_
    refine o_eqSS ?_
    walk_at "ws"
    refine iteD (fun e0 => ?_) (fun e0 => ?_)
    rotate_left
    · rw [show r.same s = false from decide_eq_false fun z => e0 z.1] at q
      exact q
    walk_at "ws"
    refine fldq_i ha S.cl S.n_deed (r.l_deed qa) ?_
    walk_at "ws"
    refine fldq_i hb S.cl S.n_deed (s.l_deed qb) ?_
    refine o_eqSS ?_
    walk_at "ws"
    refine iteD (fun e1 => ?_) (fun e1 => ?_)
    rotate_left
    · rw [show r.same s = false from decide_eq_false fun z => e1 z.2.1] at q
      exact q
    walk_at "ws"
    refine fldq_i ha S.cl S.n_bound (r.l_bound qa) ?_
    walk_at "ws"
    refine fldq_i hb S.cl S.n_bound (s.l_bound qb) ?_
    refine o_eqI ?_
    walk_at "ws"
    refine iteD (fun e2 => ?_) (fun e2 => ?_)
    rotate_left
    · rw [show r.same s = false from decide_eq_false fun z => e2 z.2.2.1] at q
      exact q
    walk_at "ws"
    refine fldq_i ha S.cl S.n_kind (r.l_kind qa) ?_
    walk_at "ws"
    refine fldq_i hb S.cl S.n_kind (s.l_kind qb) ?_
    refine o_eqOS ?_
    walk_at "ws"
    refine iteD (fun e3 => ?_) (fun e3 => ?_)
    rotate_left
    · rw [show r.same s = false from decide_eq_false fun z => e3 z.2.2.2.1] at q
      exact q
    walk_at "ws"
    refine fldq_i ha S.cl S.n_town (r.l_town qa) ?_
    walk_at "ws"
    refine fldq_i hb S.cl S.n_town (s.l_town qb) ?_
    refine o_eqOI ?_
    walk_at "ws"
    refine iteD (fun e4 => ?_) (fun e4 => ?_)
    rotate_left
    · rw [show r.same s = false from decide_eq_false fun z => e4 z.2.2.2.2.1] at q
      exact q
    walk_at "ws"
    refine fldq_i ha S.cl S.n_first (r.l_first qa) ?_
    walk_at "ws"
    refine fldq_i hb S.cl S.n_first (s.l_first qb) ?_
    refine o_eqI ?_
    walk_at "ws"
    refine iteD (fun e5 => ?_) (fun e5 => ?_)
    rotate_left
    · rw [show r.same s = false from decide_eq_false fun z => e5 z.2.2.2.2.2.1] at q
      exact q
    walk_at "ws"
    refine fldq_i ha S.cl S.n_last (r.l_last qa) ?_
    walk_at "ws"
    refine fldq_i hb S.cl S.n_last (s.l_last qb) ?_
    refine o_eqI ?_
    walk_at "ws"
    refine iteD (fun e6 => ?_) (fun e6 => ?_)
    rotate_left
    · rw [show r.same s = false from decide_eq_false fun z => e6 z.2.2.2.2.2.2.1] at q
      exact q
    walk_at "ws"
    refine fldq_i ha S.cl S.n_over (r.l_over qa) ?_
    walk_at "ws"
    refine fldq_i hb S.cl S.n_over (s.l_over qb) ?_
    refine o_eqI ?_
    walk_at "ws"
    refine iteD (fun e7 => ?_) (fun e7 => ?_)
    rotate_left
    · rw [show r.same s = false from decide_eq_false fun z => e7 z.2.2.2.2.2.2.2.1] at q
      exact q
    walk_at "ws"
    refine fldq_i ha S.cl S.n_paper (r.l_paper qa) ?_
    walk_at "ws"
    refine fldq_i hb S.cl S.n_paper (s.l_paper qb) ?_
    refine o_eqOB ?_
    walk_at "ws"
    rw [show r.same s = decide (r.paper = s.paper) from decide_eq_decide.mpr ⟨fun z => z.2.2.2.2.2.2.2.2, fun z => ⟨e0, e1, e2, e3, e4, e5, e6, e7, z⟩⟩] at q
    exact q
  · refine c_isi C (.own C0) ht hk ?_
    walk_at "ws"
    exact q
end
theorem numT_len {i : Int} (h0 : 0 ≤ i) (h : i ≤ 1000000000000) : (numT i).length ≤ 13 := toString_length_le h0 (by decide) (by rw [show (10 : Int) ^ 13 = 10000000000000 from by decide]; omega)
theorem log_le {i : Int} (h0 : 0 ≤ i) (h : i ≤ 1000000000000) : i.natAbs.log2 < 1920 := by
  have z : i.natAbs < 2 ^ 40 := by
    have : (2 : Nat) ^ 40 = 1099511627776 := by decide
    omega
  by_cases hz : i.natAbs = 0
  · rw [hz]; decide
  · exact Nat.lt_trans ((Nat.log2_lt hz).mpr z) (by decide)
def item (a : Str) (i : Int) : Str := Str.empty ++ a ++ numT i
def itemS (a z : Str) : Str := Str.empty ++ a ++ reprText z
def itemB (a : Str) (b : Bool) : Str := Str.empty ++ a ++ (if b = true then ("True" : Str) else ("False" : Str))
def Ru.x1 (r : Ru) : List Str := if r.deed = "let" then [] else [itemS "deed=" r.deed]
def Ru.x2 (r : Ru) : List Str := if r.bound = 0 then [] else [item "bound=" r.bound]
def Ru.x3 (r : Ru) : List Str := match r.kind with | none => [] | some z => [itemS "kind=" z]
def Ru.x4 (r : Ru) : List Str := match r.town with | none => [] | some i => [item "town=" i]
def Ru.x5 (r : Ru) : List Str := if r.first = 0 then [] else [item "first=" r.first]
def Ru.x6 (r : Ru) : List Str := if r.last = 59 then [] else [item "last=" r.last]
def Ru.x7 (r : Ru) : List Str := if r.over = 0 then [] else [item "over=" r.over]
def Ru.x8 (r : Ru) : List Str := match r.paper with | none => [] | some b => [itemB "paper=" b]
def Ru.p0 (r : Ru) : List Str := [reprText r.name]
def Ru.p1 (r : Ru) : List Str := r.p0 ++ r.x1
def Ru.p2 (r : Ru) : List Str := r.p1 ++ r.x2
def Ru.p3 (r : Ru) : List Str := r.p2 ++ r.x3
def Ru.p4 (r : Ru) : List Str := r.p3 ++ r.x4
def Ru.p5 (r : Ru) : List Str := r.p4 ++ r.x5
def Ru.p6 (r : Ru) : List Str := r.p5 ++ r.x6
def Ru.p7 (r : Ru) : List Str := r.p6 ++ r.x7
def Ru.p8 (r : Ru) : List Str := r.p7 ++ r.x8
def Ru.text (r : Ru) : Str := Str.empty ++ "Rule(" ++ Txt.join ", " r.p8 ++ ")"
structure PB (L : List Str) (n : Nat) : Prop where
  len : L.length ≤ n
  each : ∀ x ∈ L, x.length ≤ 30
theorem PB.app {L M : List Str} {n : Nat} (h : PB L n) (hl : M.length ≤ 1) (hm : ∀ x ∈ M, x.length ≤ 30) : PB (L ++ M) (n + 1) :=
  ⟨by rw [List.length_append]; have := h.len; omega, fun y hy => (List.mem_append.mp hy).elim (h.each y) (hm y)⟩
theorem sum_le : ∀ {L : List Str}, (∀ x ∈ L, x.length ≤ 30) → (L.map (·.length)).sum ≤ 30 * L.length
  | [], _ => Nat.le_refl 0
  | x :: L, h => by
    have a := h x List.mem_cons_self
    have b := sum_le fun y hy => h y (List.mem_cons_of_mem x hy)
    rw [List.map_cons, List.sum_cons, List.length_cons]
    omega
theorem e_len : (Str.empty).length = 0 := rfl
theorem item_len {a : Str} {i : Int} (ha : a.length ≤ 8) (h0 : 0 ≤ i) (h : i ≤ 1000000000000) : (item a i).length ≤ 30 := by
  have z := numT_len h0 h
  unfold item
  rw [slen_app, slen_app, e_len]
  omega
theorem itemS_len {a z : Str} (ha : a.length ≤ 8) (hz : z.length ≤ 10) (hl : ∀ c ∈ z.cps.toList, c ∈ lettersL) : (itemS a z).length ≤ 30 := by
  have e := repr_len hl
  unfold itemS
  rw [slen_app, slen_app, e_len, e]
  omega
theorem itemB_len {a : Str} {b : Bool} (ha : a.length ≤ 8) : (itemB a b).length ≤ 30 := by
  unfold itemB
  rw [slen_app, slen_app, e_len]
  cases b
  · rw [show (if false = true then ("True" : Str) else ("False" : Str)).length = 5 from by decide +kernel]; omega
  · rw [show (if true = true then ("True" : Str) else ("False" : Str)).length = 4 from by decide +kernel]; omega
theorem one_of {x : Str} (h : x.length ≤ 30) : ∀ y ∈ [x], y.length ≤ 30 := fun y hy => by rw [List.mem_singleton.mp hy]; exact h
theorem none_of : ∀ y ∈ ([] : List Str), y.length ≤ 30 := fun y hy => by cases hy
theorem Ru.xb {r : Ru} (o : r.Ok) : (r.x1.length ≤ 1 ∧ ∀ x ∈ r.x1, x.length ≤ 30) ∧ (r.x2.length ≤ 1 ∧ ∀ x ∈ r.x2, x.length ≤ 30) ∧ (r.x3.length ≤ 1 ∧ ∀ x ∈ r.x3, x.length ≤ 30) ∧ (r.x4.length ≤ 1 ∧ ∀ x ∈ r.x4, x.length ≤ 30) ∧
    (r.x5.length ≤ 1 ∧ ∀ x ∈ r.x5, x.length ≤ 30) ∧ (r.x6.length ≤ 1 ∧ ∀ x ∈ r.x6, x.length ≤ 30) ∧ (r.x7.length ≤ 1 ∧ ∀ x ∈ r.x7, x.length ≤ 30) ∧ (r.x8.length ≤ 1 ∧ ∀ x ∈ r.x8, x.length ≤ 30) := by
  have f1 := o.f1; have f2 := o.f2; have l2 := o.l2; have o1 := o.o1; have o2 := o.o2; have b1 := o.b1; have b2 := o.b2; have bm := mostB_le r.deed
  refine ⟨?_, ?_, ?_, ?_, ?_, ?_, ?_, ?_⟩
  · unfold Ru.x1; split
    · exact ⟨Nat.zero_le _, none_of⟩
    · exact ⟨Nat.le_refl 1, one_of (itemS_len (by decide +kernel) (deed_len o.deed) (deed_letters o.deed))⟩
  · unfold Ru.x2; split
    · exact ⟨Nat.zero_le _, none_of⟩
    · exact ⟨Nat.le_refl 1, one_of (item_len (by decide +kernel) b1 (by omega))⟩
  · unfold Ru.x3; split
    · exact ⟨Nat.zero_le _, none_of⟩
    · rename_i z hz; exact ⟨Nat.le_refl 1, one_of (itemS_len (by decide +kernel) (kind_len (o.kind z hz)) (kind_letters (o.kind z hz)))⟩
  · unfold Ru.x4; split
    · exact ⟨Nat.zero_le _, none_of⟩
    · rename_i i hi; have := o.town i hi; exact ⟨Nat.le_refl 1, one_of (item_len (by decide +kernel) (by omega) (by omega))⟩
  · unfold Ru.x5; split
    · exact ⟨Nat.zero_le _, none_of⟩
    · exact ⟨Nat.le_refl 1, one_of (item_len (by decide +kernel) f1 (by omega))⟩
  · unfold Ru.x6; split
    · exact ⟨Nat.zero_le _, none_of⟩
    · exact ⟨Nat.le_refl 1, one_of (item_len (by decide +kernel) (by omega) (by omega))⟩
  · unfold Ru.x7; split
    · exact ⟨Nat.zero_le _, none_of⟩
    · exact ⟨Nat.le_refl 1, one_of (item_len (by decide +kernel) o1 o2)⟩
  · unfold Ru.x8; split
    · exact ⟨Nat.zero_le _, none_of⟩
    · exact ⟨Nat.le_refl 1, one_of (itemB_len (by decide +kernel))⟩
theorem Ru.w0 {r : Ru} (o : r.Ok) : PB r.p0 1 := ⟨Nat.le_refl 1, one_of (by rw [repr_len o.nl]; have := o.n2; omega)⟩
def spRepr (C : Addr) : Sp := fun vs H Q _ => ∃ (a dx qa : Addr) (r : Ru), vs = [.ref a] ∧ H a = some (.ins C dx (r.fs qa)) ∧ r.Ok ∧ ∀ H', Ex H H' → Q (.str r.text) H'
section
variable {P : Program} {w : World} {K : PySem.W.Frag} {mg : Str → Option Value} {base : Heap} {f C0 : Addr} {fd : FuncData}
theorem p_repr (F : Fn K "__repr__" "Rule.__repr__" s_Rule_repr f fd) (T : Txt K mg) (S : Sr K C0) (tr : mg "repr" = none) : FnOk P w K mg base CX0 1 f fd ["self"] (spRepr C0) := by
  refine fn_w F sc_Rule_repr ok_Rule_repr (fun vs H Q E h => by obtain ⟨a, dx, qa, r, rfl, ha, o, q⟩ := h; rfl) (fun X vs H Q E C h => ?_)
  obtain ⟨a, dx, qa, r, rfl, ha, o, q⟩ := h
  show wB X _ _ [some (.ref a), none] H
  first | refine wB_one ?_ | refine wB_cons' fun _ _ => ?_
  walk_at "ws"
  have f1 := o.f1; have f2 := o.f2; have l2 := o.l2; have o1 := o.o1; have o2 := o.o2; have b1 := o.b1; have b2 := o.b2; have bm := mostB_le r.deed
  obtain ⟨xb1, xb2, xb3, xb4, xb5, xb6, xb7, xb8⟩ := Ru.xb o
  refine wE_callB C tr (by walk_at "mem") boot_repr (by rfl) (by rfl) ?_
  walk_at "ws"
  refine fldq_i ha S.cl S.n_name (r.l_name qa) ?_
  walk_at "ws"
  refine c_reprS (by rw [repr_len o.nl]; have := o.n2; exact Nat.le_trans (by omega : r.name.length + 2 ≤ 10) (by decide)) ?_
  walk_at "ws"
  refine ⟨(by show 1 ≤ sizeLine; decide), fun p H0 hp e0 hq0 => ?_⟩
  walk_at "put"
  refine nx_mk ?_
  refine Nx.go (by assumption) ?_
  have w0 := Ru.w0 o
  have g0 : H0 p = some (.lst (r.p0.map V.str)) := hq0
  clear hq0
  refine wB_cons' fun _ _ => ?_
  refine wS_cut (fun σ' H' => σ' = [some (.ref a), some (.ref p)] ∧ H' p = some (.lst (r.p1.map V.str)) ∧ Ex H H') ?_ ?_
  · have ha1 := e0 _ _ ha
    refine wS_if ?_
    walk_at "ws"
    refine fldq_i ha1 S.cl S.n_deed (r.l_deed qa) ?_
    walk_at "ws"
    refine o_neS ?_
    walk_at "ws"
    refine iteD (fun c => ?_) (fun c => ?_)
    rotate_left
    · walk_at "ws"
      exact ⟨rfl, by unfold Ru.p1 Ru.x1; rw [if_pos (Decidable.of_not_not c)]; rw [List.append_nil]; exact g0, e0⟩
    · walk_at "ws"
      refine wE_append (by rfl) (by rfl) (by rfl) (by rfl) (by rfl) ?_
      walk_at "ws"
      refine ⟨p, _, rfl, g0, ?_⟩
      refine wE_joined ?_
      refine wJ_cons ?_
      walk_at "ws"
      refine jn_i (by decide) ?_
      refine wJ_cons ?_
      refine wE_fmtR ?_
      walk_at "ws"
      refine fldq_i ha1 S.cl S.n_deed (r.l_deed qa) ?_
      refine fr_s (Nat.le_trans (Nat.le_of_eq (repr_len (deed_letters o.deed))) (by have := deed_len o.deed; exact Nat.le_trans (by omega : r.deed.length + 2 ≤ 12) (by decide))) ?_
      refine jn_i (Nat.le_trans (itemS_len (a := "deed=") (z := r.deed) (by decide +kernel) (deed_len o.deed) (deed_letters o.deed)) (by decide)) ?_
      refine wJ_nil ?_
      refine ⟨g0, by rw [List.length_map]; exact Nat.lt_of_le_of_lt w0.len (by decide), fun HH eh hh => ?_⟩
      walk_at "ws"
      exact ⟨rfl, by unfold Ru.p1 Ru.x1; rw [if_neg c]; rw [List.map_append]; exact hh, e0.mut hp eh⟩
  rintro _ H1 ⟨rfl, g1, e1⟩
  have w1 : PB r.p1 2 := w0.app xb1.1 xb1.2
  clear g0 e0
  refine nx_mk ?_
  refine Nx.go (by assumption) ?_
  refine wB_cons' fun _ _ => ?_
  refine wS_cut (fun σ' H' => σ' = [some (.ref a), some (.ref p)] ∧ H' p = some (.lst (r.p2.map V.str)) ∧ Ex H H') ?_ ?_
  · have ha2 := e1 _ _ ha
    refine wS_if ?_
    walk_at "ws"
    refine fldq_i ha2 S.cl S.n_bound (r.l_bound qa) ?_
    walk_at "ws"
    refine iteD (fun c => ?_) (fun c => ?_)
    rotate_left
    · walk_at "ws"
      exact ⟨rfl, by unfold Ru.p2 Ru.x2; rw [if_pos (by omega)]; rw [List.append_nil]; exact g1, e1⟩
    · walk_at "ws"
      refine wE_append (by rfl) (by rfl) (by rfl) (by rfl) (by rfl) ?_
      walk_at "ws"
      refine ⟨p, _, rfl, g1, ?_⟩
      refine wE_joined ?_
      refine wJ_cons ?_
      walk_at "ws"
      refine jn_i (by decide) ?_
      refine wJ_cons ?_
      refine wE_fmt ?_
      walk_at "ws"
      refine fldq_i ha2 S.cl S.n_bound (r.l_bound qa) ?_
      refine fm_i (log_le b1 (by omega)) ?_
      refine jn_i (Nat.le_trans (item_len (a := "bound=") (i := r.bound) (by decide +kernel) b1 (by omega)) (by decide)) ?_
      refine wJ_nil ?_
      refine ⟨g1, by rw [List.length_map]; exact Nat.lt_of_le_of_lt w1.len (by decide), fun HH eh hh => ?_⟩
      walk_at "ws"
      exact ⟨rfl, by unfold Ru.p2 Ru.x2; rw [if_neg c]; rw [List.map_append]; exact hh, e1.mut hp eh⟩
  rintro _ H2 ⟨rfl, g2, e2⟩
  have w2 : PB r.p2 3 := w1.app xb2.1 xb2.2
  clear g1 e1
  refine nx_mk ?_
  refine Nx.go (by assumption) ?_
  refine wB_cons' fun _ _ => ?_
  refine wS_cut (fun σ' H' => σ' = [some (.ref a), some (.ref p)] ∧ H' p = some (.lst (r.p3.map V.str)) ∧ Ex H H') ?_ ?_
  · have ha3 := e2 _ _ ha
    refine wS_if ?_
    walk_at "ws"
    refine fldq_i ha3 S.cl S.n_kind (r.l_kind qa) ?_
    walk_at "ws"
    cases hk : r.kind with
    | none =>
      show if (!decide (V.non = V.non)) = true then _ else _
      rw [show (!decide (V.non = V.non)) = false by simp]
      walk_at "ws"
      exact ⟨rfl, by unfold Ru.p3 Ru.x3; rw [hk]; rw [List.append_nil]; exact g2, e2⟩
    | some z =>
      show if (!decide (V.str z = V.non)) = true then _ else _
      rw [show (!decide (V.str z = V.non)) = true by simp]
      walk_at "ws"
      refine wE_append (by rfl) (by rfl) (by rfl) (by rfl) (by rfl) ?_
      walk_at "ws"
      refine ⟨p, _, rfl, g2, ?_⟩
      refine wE_joined ?_
      refine wJ_cons ?_
      walk_at "ws"
      refine jn_i (by decide) ?_
      refine wJ_cons ?_
      refine wE_fmtR ?_
      walk_at "ws"
      refine fldq_i ha3 S.cl S.n_kind (r.l_kind qa) ?_
      rw [hk]
      refine fr_s (Nat.le_trans (Nat.le_of_eq (repr_len (kind_letters (o.kind z hk)))) (by have := kind_len (o.kind z hk); exact Nat.le_trans (by omega : z.length + 2 ≤ 12) (by decide))) ?_
      refine jn_i (Nat.le_trans (itemS_len (a := "kind=") (z := z) (by decide +kernel) (kind_len (o.kind z hk)) (kind_letters (o.kind z hk))) (by decide)) ?_
      refine wJ_nil ?_
      refine ⟨g2, by rw [List.length_map]; exact Nat.lt_of_le_of_lt w2.len (by decide), fun HH eh hh => ?_⟩
      walk_at "ws"
      exact ⟨rfl, by unfold Ru.p3 Ru.x3; rw [hk]; rw [List.map_append]; exact hh, e2.mut hp eh⟩
  rintro _ H3 ⟨rfl, g3, e3⟩
  have w3 : PB r.p3 4 := w2.app xb3.1 xb3.2
  clear g2 e2
  refine nx_mk ?_
  refine Nx.go (by assumption) ?_
  refine wB_cons' fun _ _ => ?_
  refine wS_cut (fun σ' H' => σ' = [some (.ref a), some (.ref p)] ∧ H' p = some (.lst (r.p4.map V.str)) ∧ Ex H H') ?_ ?_
  · have ha4 := e3 _ _ ha
    refine wS_if ?_
    walk_at "ws"
    refine fldq_i ha4 S.cl S.n_town (r.l_town qa) ?_
    walk_at "ws"
    cases hk : r.town with
    | none =>
      show if (!decide (V.non = V.non)) = true then _ else _
      rw [show (!decide (V.non = V.non)) = false by simp]
      walk_at "ws"
      exact ⟨rfl, by unfold Ru.p4 Ru.x4; rw [hk]; rw [List.append_nil]; exact g3, e3⟩
    | some z =>
      show if (!decide (V.int z = V.non)) = true then _ else _
      rw [show (!decide (V.int z = V.non)) = true by simp]
      walk_at "ws"
      refine wE_append (by rfl) (by rfl) (by rfl) (by rfl) (by rfl) ?_
      walk_at "ws"
      refine ⟨p, _, rfl, g3, ?_⟩
      refine wE_joined ?_
      refine wJ_cons ?_
      walk_at "ws"
      refine jn_i (by decide) ?_
      refine wJ_cons ?_
      refine wE_fmt ?_
      walk_at "ws"
      refine fldq_i ha4 S.cl S.n_town (r.l_town qa) ?_
      rw [hk]
      have hz := o.town z hk
      refine fm_i (log_le hz.1 (by omega)) ?_
      refine jn_i (Nat.le_trans (item_len (a := "town=") (i := z) (by decide +kernel) hz.1 (by omega)) (by decide)) ?_
      refine wJ_nil ?_
      refine ⟨g3, by rw [List.length_map]; exact Nat.lt_of_le_of_lt w3.len (by decide), fun HH eh hh => ?_⟩
      walk_at "ws"
      exact ⟨rfl, by unfold Ru.p4 Ru.x4; rw [hk]; rw [List.map_append]; exact hh, e3.mut hp eh⟩
  rintro _ H4 ⟨rfl, g4, e4⟩
  have w4 : PB r.p4 5 := w3.app xb4.1 xb4.2
  clear g3 e3
  refine nx_mk ?_
  refine Nx.go (by assumption) ?_
  refine wB_cons' fun _ _ => ?_
  refine wS_cut (fun σ' H' => σ' = [some (.ref a), some (.ref p)] ∧ H' p = some (.lst (r.p5.map V.str)) ∧ Ex H H') ?_ ?_
  · have ha5 := e4 _ _ ha
    refine wS_if ?_
    walk_at "ws"
    refine fldq_i ha5 S.cl S.n_first (r.l_first qa) ?_
    walk_at "ws"
    refine iteD (fun c => ?_) (fun c => ?_)
    rotate_left
    · walk_at "ws"
      exact ⟨rfl, by unfold Ru.p5 Ru.x5; rw [if_pos (by omega)]; rw [List.append_nil]; exact g4, e4⟩
    · walk_at "ws"
      refine wE_append (by rfl) (by rfl) (by rfl) (by rfl) (by rfl) ?_
      walk_at "ws"
      refine ⟨p, _, rfl, g4, ?_⟩
      refine wE_joined ?_
      refine wJ_cons ?_
      walk_at "ws"
      refine jn_i (by decide) ?_
      refine wJ_cons ?_
      refine wE_fmt ?_
      walk_at "ws"
      refine fldq_i ha5 S.cl S.n_first (r.l_first qa) ?_
      refine fm_i (log_le f1 (by omega)) ?_
      refine jn_i (Nat.le_trans (item_len (a := "first=") (i := r.first) (by decide +kernel) f1 (by omega)) (by decide)) ?_
      refine wJ_nil ?_
      refine ⟨g4, by rw [List.length_map]; exact Nat.lt_of_le_of_lt w4.len (by decide), fun HH eh hh => ?_⟩
      walk_at "ws"
      exact ⟨rfl, by unfold Ru.p5 Ru.x5; rw [if_neg c]; rw [List.map_append]; exact hh, e4.mut hp eh⟩
  rintro _ H5 ⟨rfl, g5, e5⟩
  have w5 : PB r.p5 6 := w4.app xb5.1 xb5.2
  clear g4 e4
  refine nx_mk ?_
  refine Nx.go (by assumption) ?_
  refine wB_cons' fun _ _ => ?_
  refine wS_cut (fun σ' H' => σ' = [some (.ref a), some (.ref p)] ∧ H' p = some (.lst (r.p6.map V.str)) ∧ Ex H H') ?_ ?_
  · have ha6 := e5 _ _ ha
    refine wS_if ?_
    walk_at "ws"
    refine fldq_i ha6 S.cl S.n_last (r.l_last qa) ?_
    walk_at "ws"
    refine wE_glob (v := .int 59) C (by walk_at "mem") T.lday.choose_spec ⟨_, rfl⟩ ?_
    walk_at "ws"
    refine iteD (fun c => ?_) (fun c => ?_)
    rotate_left
    · walk_at "ws"
      exact ⟨rfl, by unfold Ru.p6 Ru.x6; rw [if_pos (by omega)]; rw [List.append_nil]; exact g5, e5⟩
    · walk_at "ws"
      refine wE_append (by rfl) (by rfl) (by rfl) (by rfl) (by rfl) ?_
      walk_at "ws"
      refine ⟨p, _, rfl, g5, ?_⟩
      refine wE_joined ?_
      refine wJ_cons ?_
      walk_at "ws"
      refine jn_i (by decide) ?_
      refine wJ_cons ?_
      refine wE_fmt ?_
      walk_at "ws"
      refine fldq_i ha6 S.cl S.n_last (r.l_last qa) ?_
      refine fm_i (log_le (by omega) (by omega)) ?_
      refine jn_i (Nat.le_trans (item_len (a := "last=") (i := r.last) (by decide +kernel) (by omega) (by omega)) (by decide)) ?_
      refine wJ_nil ?_
      refine ⟨g5, by rw [List.length_map]; exact Nat.lt_of_le_of_lt w5.len (by decide), fun HH eh hh => ?_⟩
      walk_at "ws"
      exact ⟨rfl, by unfold Ru.p6 Ru.x6; rw [if_neg c]; rw [List.map_append]; exact hh, e5.mut hp eh⟩
  rintro _ H6 ⟨rfl, g6, e6⟩
  have w6 : PB r.p6 7 := w5.app xb6.1 xb6.2
  clear g5 e5
  refine nx_mk ?_
  refine Nx.go (by assumption) ?_
  refine wB_cons' fun _ _ => ?_
  refine wS_cut (fun σ' H' => σ' = [some (.ref a), some (.ref p)] ∧ H' p = some (.lst (r.p7.map V.str)) ∧ Ex H H') ?_ ?_
  · have ha7 := e6 _ _ ha
    refine wS_if ?_
    walk_at "ws"
    refine fldq_i ha7 S.cl S.n_over (r.l_over qa) ?_
    walk_at "ws"
    refine iteD (fun c => ?_) (fun c => ?_)
    rotate_left
    · walk_at "ws"
      exact ⟨rfl, by unfold Ru.p7 Ru.x7; rw [if_pos (by omega)]; rw [List.append_nil]; exact g6, e6⟩
    · walk_at "ws"
      refine wE_append (by rfl) (by rfl) (by rfl) (by rfl) (by rfl) ?_
      walk_at "ws"
      refine ⟨p, _, rfl, g6, ?_⟩
      refine wE_joined ?_
      refine wJ_cons ?_
      walk_at "ws"
      refine jn_i (by decide) ?_
      refine wJ_cons ?_
      refine wE_fmt ?_
      walk_at "ws"
      refine fldq_i ha7 S.cl S.n_over (r.l_over qa) ?_
      refine fm_i (log_le o1 o2) ?_
      refine jn_i (Nat.le_trans (item_len (a := "over=") (i := r.over) (by decide +kernel) o1 o2) (by decide)) ?_
      refine wJ_nil ?_
      refine ⟨g6, by rw [List.length_map]; exact Nat.lt_of_le_of_lt w6.len (by decide), fun HH eh hh => ?_⟩
      walk_at "ws"
      exact ⟨rfl, by unfold Ru.p7 Ru.x7; rw [if_neg c]; rw [List.map_append]; exact hh, e6.mut hp eh⟩
  rintro _ H7 ⟨rfl, g7, e7⟩
  have w7 : PB r.p7 8 := w6.app xb7.1 xb7.2
  clear g6 e6
  refine nx_mk ?_
  refine Nx.go (by assumption) ?_
  refine wB_cons' fun _ _ => ?_
  refine wS_cut (fun σ' H' => σ' = [some (.ref a), some (.ref p)] ∧ H' p = some (.lst (r.p8.map V.str)) ∧ Ex H H') ?_ ?_
  · have ha8 := e7 _ _ ha
    refine wS_if ?_
    walk_at "ws"
    refine fldq_i ha8 S.cl S.n_paper (r.l_paper qa) ?_
    walk_at "ws"
    cases hk : r.paper with
    | none =>
      show if (!decide (V.non = V.non)) = true then _ else _
      rw [show (!decide (V.non = V.non)) = false by simp]
      walk_at "ws"
      exact ⟨rfl, by unfold Ru.p8 Ru.x8; rw [hk]; rw [List.append_nil]; exact g7, e7⟩
    | some z =>
      show if (!decide (V.bl z = V.non)) = true then _ else _
      rw [show (!decide (V.bl z = V.non)) = true by simp]
      walk_at "ws"
      refine wE_append (by rfl) (by rfl) (by rfl) (by rfl) (by rfl) ?_
      walk_at "ws"
      refine ⟨p, _, rfl, g7, ?_⟩
      refine wE_joined ?_
      refine wJ_cons ?_
      walk_at "ws"
      refine jn_i (by decide) ?_
      refine wJ_cons ?_
      refine wE_fmtB ?_
      walk_at "ws"
      refine fldq_i ha8 S.cl S.n_paper (r.l_paper qa) ?_
      refine ⟨z, by rw [hk]; rfl, ?_⟩
      refine jn_i (Nat.le_trans (itemB_len (a := "paper=") (b := z) (by decide +kernel)) (by decide)) ?_
      refine wJ_nil ?_
      refine ⟨g7, by rw [List.length_map]; exact Nat.lt_of_le_of_lt w7.len (by decide), fun HH eh hh => ?_⟩
      walk_at "ws"
      exact ⟨rfl, by unfold Ru.p8 Ru.x8; rw [hk]; rw [List.map_append]; exact hh, e7.mut hp eh⟩
  rintro _ H8 ⟨rfl, g8, e8⟩
  have w8 : PB r.p8 9 := w7.app xb8.1 xb8.2
  clear g7 e7
  refine nx_mk ?_
  refine Nx.go (by assumption) ?_
  walk_at "ws"
  refine wE_joined ?_
  refine wJ_cons ?_
  walk_at "ws"
  refine jn_i (by decide) ?_
  refine wJ_cons ?_
  refine wE_fmt ?_
  refine wE_join (by rfl) (by rfl) (by rfl) ?_
  walk_at "ws"
  have sm := sum_le w8.each
  have wl := w8.len
  have jl : (Txt.join ", " r.p8).length ≤ 400 := by
    have z := size_glued ", " r.p8
    rw [show (", " : Str).length = 2 from by decide] at z
    have z2 : (Txt.join ", " r.p8).length = (r.p8.map (·.length)).sum + (r.p8.length - 1) * 2 := z
    omega
  refine ⟨_, rfl, ?_⟩
  walk_at "ws"
  refine ⟨p, r.p8, rfl, .inl (SqL.of g8), ?_, ?_⟩
  · rw [show (", " : Str).length = 2 from by decide]
    omega
  refine fm_s (Nat.le_trans jl (by decide)) ?_
  refine jn_i (by rw [slen_app, slen_app, e_len]; have : ("Rule(" : Str).length = 5 := (by decide +kernel); rw [sizeLine_eq]; omega) ?_
  refine wJ_cons ?_
  walk_at "ws"
  refine jn_i (by rw [slen_app, slen_app, slen_app, e_len]; have : ("Rule(" : Str).length = 5 := (by decide +kernel); have : (")" : Str).length = 1 := (by decide +kernel); rw [sizeLine_eq]; omega) ?_
  refine wJ_nil ?_
  exact q _ e8
end
/-! ### which rules have one text -/
theorem repr_inj {z y : Str} (hz : ∀ c ∈ z.cps.toList, c ∈ lettersL) (hy : ∀ c ∈ y.cps.toList, c ∈ lettersL) (e : reprText z = reprText y) : z = y := by
  have w := congrArg TL.tl e
  rw [repr_letters hz, repr_letters hy] at w
  injection w with _ w
  exact TL.ext_tl (List.append_cancel_right w)
theorem repr_free {z : Str} (hz : ∀ c ∈ z.cps.toList, c ∈ lettersL) : 44 ∉ TL.tl (reprText z) := by
  rw [repr_letters hz]
  intro w
  rcases List.mem_cons.mp w with w | w
  · cases w
  rcases List.mem_append.mp w with w | w
  · exact absurd rfl (letter_of (hz 44 w)).2.2.1
  · rw [List.mem_singleton] at w; cases w
theorem numT_free {i : Int} (h : 0 ≤ i) : 44 ∉ TL.tl (numT i) := fun z => by have := numT_digit h 44 z; omega
theorem tl2 (a b : Str) : TL.tl (Str.empty ++ a ++ b) = TL.tl a ++ TL.tl b := by
  rw [TL.tl_append, TL.tl_append]
  rfl
theorem free2 {a b : Str} (ha : 44 ∉ TL.tl a) (hb : 44 ∉ TL.tl b) : 44 ∉ TL.tl (Str.empty ++ a ++ b) := by
  rw [tl2]
  intro z
  rcases List.mem_append.mp z with z | z
  · exact ha z
  · exact hb z
theorem sgn2 {a b : Str} {c : Nat} {r : List Nat} (ha : TL.tl a = c :: r) : sgn (Str.empty ++ a ++ b) = c := by
  unfold sgn
  rw [tl2, ha]
  rfl
theorem boolT_free (b : Bool) : 44 ∉ TL.tl (if b = true then ("True" : Str) else ("False" : Str)) := by cases b <;> decide +kernel
theorem Ru.p8_eq (r : Ru) : r.p8 = reprText r.name :: (r.x1 ++ (r.x2 ++ (r.x3 ++ (r.x4 ++ (r.x5 ++ (r.x6 ++ (r.x7 ++ r.x8))))))) := by
  unfold Ru.p8 Ru.p7 Ru.p6 Ru.p5 Ru.p4 Ru.p3 Ru.p2 Ru.p1 Ru.p0
  simp only [List.append_assoc, List.cons_append, List.nil_append]
theorem Ru.s1 {r : Ru} : (∀ x ∈ r.x1, sgn x = 100) := by
  unfold Ru.x1
  split
  · exact fun x h => by cases h
  · exact fun x h => by rw [List.mem_singleton.mp h]; exact sgn2 (r := [101, 101, 100, 61]) (by decide +kernel)
theorem Ru.s2 {r : Ru} : (∀ x ∈ r.x2, sgn x = 98) := by
  unfold Ru.x2
  split
  · exact fun x h => by cases h
  · exact fun x h => by rw [List.mem_singleton.mp h]; exact sgn2 (r := [111, 117, 110, 100, 61]) (by decide +kernel)
theorem Ru.s3 {r : Ru} : (∀ x ∈ r.x3, sgn x = 107) := by
  unfold Ru.x3
  split
  · exact fun x h => by cases h
  · exact fun x h => by rw [List.mem_singleton.mp h]; exact sgn2 (r := [105, 110, 100, 61]) (by decide +kernel)
theorem Ru.s4 {r : Ru} : (∀ x ∈ r.x4, sgn x = 116) := by
  unfold Ru.x4
  split
  · exact fun x h => by cases h
  · exact fun x h => by rw [List.mem_singleton.mp h]; exact sgn2 (r := [111, 119, 110, 61]) (by decide +kernel)
theorem Ru.s5 {r : Ru} : (∀ x ∈ r.x5, sgn x = 102) := by
  unfold Ru.x5
  split
  · exact fun x h => by cases h
  · exact fun x h => by rw [List.mem_singleton.mp h]; exact sgn2 (r := [105, 114, 115, 116, 61]) (by decide +kernel)
theorem Ru.s6 {r : Ru} : (∀ x ∈ r.x6, sgn x = 108) := by
  unfold Ru.x6
  split
  · exact fun x h => by cases h
  · exact fun x h => by rw [List.mem_singleton.mp h]; exact sgn2 (r := [97, 115, 116, 61]) (by decide +kernel)
theorem Ru.s7 {r : Ru} : (∀ x ∈ r.x7, sgn x = 111) := by
  unfold Ru.x7
  split
  · exact fun x h => by cases h
  · exact fun x h => by rw [List.mem_singleton.mp h]; exact sgn2 (r := [118, 101, 114, 61]) (by decide +kernel)
theorem Ru.s8 {r : Ru} : (∀ x ∈ r.x8, sgn x = 112) := by
  unfold Ru.x8
  split
  · exact fun x h => by cases h
  · exact fun x h => by rw [List.mem_singleton.mp h]; exact sgn2 (r := [97, 112, 101, 114, 61]) (by decide +kernel)
theorem Ru.p8_free {r : Ru} (o : r.Ok) : ∀ p ∈ r.p8, 44 ∉ TL.tl p := by
  have f1 := o.f1; have f2 := o.f2; have l2 := o.l2; have o1 := o.o1; have b1 := o.b1
  rw [r.p8_eq]
  intro p hp
  rcases List.mem_cons.mp hp with rfl | hp
  · exact repr_free o.nl
  rcases List.mem_append.mp hp with hp | hp
  · unfold Ru.x1 at hp
    split at hp
    · cases hp
    · rw [List.mem_singleton.mp hp]; exact free2 (by decide +kernel) (repr_free (deed_letters o.deed))
  rcases List.mem_append.mp hp with hp | hp
  · unfold Ru.x2 at hp
    split at hp
    · cases hp
    · rw [List.mem_singleton.mp hp]; exact free2 (by decide +kernel) (numT_free b1)
  rcases List.mem_append.mp hp with hp | hp
  · unfold Ru.x3 at hp
    split at hp
    · cases hp
    · rename_i z hz; rw [List.mem_singleton.mp hp]; exact free2 (by decide +kernel) (repr_free (kind_letters (o.kind z hz)))
  rcases List.mem_append.mp hp with hp | hp
  · unfold Ru.x4 at hp
    split at hp
    · cases hp
    · rename_i z hz; rw [List.mem_singleton.mp hp]; exact free2 (by decide +kernel) (numT_free (o.town z hz).1)
  rcases List.mem_append.mp hp with hp | hp
  · unfold Ru.x5 at hp
    split at hp
    · cases hp
    · rw [List.mem_singleton.mp hp]; exact free2 (by decide +kernel) (numT_free f1)
  rcases List.mem_append.mp hp with hp | hp
  · unfold Ru.x6 at hp
    split at hp
    · cases hp
    · rw [List.mem_singleton.mp hp]; exact free2 (by decide +kernel) (numT_free (by omega))
  rcases List.mem_append.mp hp with hp | hp
  · unfold Ru.x7 at hp
    split at hp
    · cases hp
    · rw [List.mem_singleton.mp hp]; exact free2 (by decide +kernel) (numT_free o1)
  · unfold Ru.x8 at hp
    split at hp
    · cases hp
    · rename_i z hz; rw [List.mem_singleton.mp hp]; exact free2 (by decide +kernel) (boolT_free z)
theorem text_inj {r s : Ru} (o : r.Ok) (p : s.Ok) (h : r.text = s.text) : r.same s = true := by
  have f1 := o.f1; have f2 := o.f2; have o1 := o.o1; have b1 := o.b1
  have f1' := p.f1; have f2' := p.f2; have o1' := p.o1; have b1' := p.b1
  unfold Ru.text at h
  have h := app_right h
  rw [Str.append_assoc, Str.append_assoc] at h
  have h := app_left (app_left h)
  have hp := join_inj (y := ", ") (s := 44) (S := [32]) (by decide +kernel) (by decide +kernel) (by rw [r.p8_eq]; simp) (by rw [s.p8_eq]; simp) (Ru.p8_free o) (Ru.p8_free p) h
  rw [r.p8_eq, s.p8_eq] at hp
  injection hp with hn hp
  obtain ⟨xb1, xb2, xb3, xb4, xb5, xb6, xb7, xb8⟩ := Ru.xb o
  obtain ⟨yb1, yb2, yb3, yb4, yb5, yb6, yb7, yb8⟩ := Ru.xb p
  have d7 : ∀ {r : Ru}, ∀ x ∈ r.x8, sgn x ≠ 111 := fun {r} x hx => by
    rw [Ru.s8 x hx]; decide
  have d6 : ∀ {r : Ru}, ∀ x ∈ (r.x7 ++ r.x8), sgn x ≠ 108 := fun {r} x hx => by
    rcases List.mem_append.mp hx with hx | hx
    · rw [Ru.s7 x hx]; decide
    rw [Ru.s8 x hx]; decide
  have d5 : ∀ {r : Ru}, ∀ x ∈ (r.x6 ++ (r.x7 ++ r.x8)), sgn x ≠ 102 := fun {r} x hx => by
    rcases List.mem_append.mp hx with hx | hx
    · rw [Ru.s6 x hx]; decide
    rcases List.mem_append.mp hx with hx | hx
    · rw [Ru.s7 x hx]; decide
    rw [Ru.s8 x hx]; decide
  have d4 : ∀ {r : Ru}, ∀ x ∈ (r.x5 ++ (r.x6 ++ (r.x7 ++ r.x8))), sgn x ≠ 116 := fun {r} x hx => by
    rcases List.mem_append.mp hx with hx | hx
    · rw [Ru.s5 x hx]; decide
    rcases List.mem_append.mp hx with hx | hx
    · rw [Ru.s6 x hx]; decide
    rcases List.mem_append.mp hx with hx | hx
    · rw [Ru.s7 x hx]; decide
    rw [Ru.s8 x hx]; decide
  have d3 : ∀ {r : Ru}, ∀ x ∈ (r.x4 ++ (r.x5 ++ (r.x6 ++ (r.x7 ++ r.x8)))), sgn x ≠ 107 := fun {r} x hx => by
    rcases List.mem_append.mp hx with hx | hx
    · rw [Ru.s4 x hx]; decide
    rcases List.mem_append.mp hx with hx | hx
    · rw [Ru.s5 x hx]; decide
    rcases List.mem_append.mp hx with hx | hx
    · rw [Ru.s6 x hx]; decide
    rcases List.mem_append.mp hx with hx | hx
    · rw [Ru.s7 x hx]; decide
    rw [Ru.s8 x hx]; decide
  have d2 : ∀ {r : Ru}, ∀ x ∈ (r.x3 ++ (r.x4 ++ (r.x5 ++ (r.x6 ++ (r.x7 ++ r.x8))))), sgn x ≠ 98 := fun {r} x hx => by
    rcases List.mem_append.mp hx with hx | hx
    · rw [Ru.s3 x hx]; decide
    rcases List.mem_append.mp hx with hx | hx
    · rw [Ru.s4 x hx]; decide
    rcases List.mem_append.mp hx with hx | hx
    · rw [Ru.s5 x hx]; decide
    rcases List.mem_append.mp hx with hx | hx
    · rw [Ru.s6 x hx]; decide
    rcases List.mem_append.mp hx with hx | hx
    · rw [Ru.s7 x hx]; decide
    rw [Ru.s8 x hx]; decide
  have d1 : ∀ {r : Ru}, ∀ x ∈ (r.x2 ++ (r.x3 ++ (r.x4 ++ (r.x5 ++ (r.x6 ++ (r.x7 ++ r.x8)))))), sgn x ≠ 100 := fun {r} x hx => by
    rcases List.mem_append.mp hx with hx | hx
    · rw [Ru.s2 x hx]; decide
    rcases List.mem_append.mp hx with hx | hx
    · rw [Ru.s3 x hx]; decide
    rcases List.mem_append.mp hx with hx | hx
    · rw [Ru.s4 x hx]; decide
    rcases List.mem_append.mp hx with hx | hx
    · rw [Ru.s5 x hx]; decide
    rcases List.mem_append.mp hx with hx | hx
    · rw [Ru.s6 x hx]; decide
    rcases List.mem_append.mp hx with hx | hx
    · rw [Ru.s7 x hx]; decide
    rw [Ru.s8 x hx]; decide
  obtain ⟨e1, hp⟩ := opt_part sgn 100 Ru.s1 Ru.s1 xb1.1 yb1.1 d1 d1 hp
  obtain ⟨e2, hp⟩ := opt_part sgn 98 Ru.s2 Ru.s2 xb2.1 yb2.1 d2 d2 hp
  obtain ⟨e3, hp⟩ := opt_part sgn 107 Ru.s3 Ru.s3 xb3.1 yb3.1 d3 d3 hp
  obtain ⟨e4, hp⟩ := opt_part sgn 116 Ru.s4 Ru.s4 xb4.1 yb4.1 d4 d4 hp
  obtain ⟨e5, hp⟩ := opt_part sgn 102 Ru.s5 Ru.s5 xb5.1 yb5.1 d5 d5 hp
  obtain ⟨e6, hp⟩ := opt_part sgn 108 Ru.s6 Ru.s6 xb6.1 yb6.1 d6 d6 hp
  obtain ⟨e7, hp⟩ := opt_part sgn 111 Ru.s7 Ru.s7 xb7.1 yb7.1 d7 d7 hp
  refine decide_eq_true ⟨repr_inj o.nl p.nl hn, ?_, ?_, ?_, ?_, ?_, ?_, ?_, ?_⟩
  · unfold Ru.x1 at e1
    split at e1 <;> split at e1
    · rename_i a b; rw [a, b]
    · cases e1
    · cases e1
    · injection e1 with e1 _
      exact repr_inj (deed_letters o.deed) (deed_letters p.deed) (app_left e1)
  · unfold Ru.x2 at e2
    split at e2 <;> split at e2
    · rename_i a b; rw [a, b]
    · cases e2
    · cases e2
    · injection e2 with e2 _
      exact numT_inj b1 b1' (app_left e2)
  · unfold Ru.x3 at e3
    split at e3 <;> split at e3
    · rename_i x1 a x2 b; rw [a, b]
    · cases e3
    · cases e3
    · rename_i x1 u a x2 v b
      injection e3 with e3 _
      rw [a, b, repr_inj (kind_letters (o.kind _ a)) (kind_letters (p.kind _ b)) (app_left e3)]
  · unfold Ru.x4 at e4
    split at e4 <;> split at e4
    · rename_i x1 a x2 b; rw [a, b]
    · cases e4
    · cases e4
    · rename_i x1 u a x2 v b
      injection e4 with e4 _
      rw [a, b, numT_inj (o.town _ a).1 (p.town _ b).1 (app_left e4)]
  · unfold Ru.x5 at e5
    split at e5 <;> split at e5
    · rename_i a b; rw [a, b]
    · cases e5
    · cases e5
    · injection e5 with e5 _
      exact numT_inj f1 f1' (app_left e5)
  · unfold Ru.x6 at e6
    split at e6 <;> split at e6
    · rename_i a b; rw [a, b]
    · cases e6
    · cases e6
    · injection e6 with e6 _
      exact numT_inj (by omega) (by omega) (app_left e6)
  · unfold Ru.x7 at e7
    split at e7 <;> split at e7
    · rename_i a b; rw [a, b]
    · cases e7
    · cases e7
    · injection e7 with e7 _
      exact numT_inj o1 o1' (app_left e7)
  · unfold Ru.x8 at hp
    split at hp <;> split at hp
    · rename_i x1 a x2 b; rw [a, b]
    · cases hp
    · cases hp
    · rename_i x1 u a x2 v b
      injection hp with hp _
      have z := app_left hp
      rw [a, b]
      cases u <;> cases v <;> first | rfl | exact absurd z (by decide +kernel)
theorem o_pow12 {X : Cx} {H : Hp} {Q : VK} (q : Q (.int 1000000000000) H) : wO X (binaryOp .Pow) (.int 10) (.int 12) H Q := o_pow (by decide) (by decide) (by decide) (by rw [show ((10 : Int) ^ (12 : Int).toNat) = 1000000000000 by decide]; exact q)
def spBound : Sp := fun vs H Q _ => ∃ (b : Addr) (n m : Int) (d : Str), vs = [.ref b, .str d] ∧ H b = some (.lst [.int n, .int m]) ∧ inV (.str d) deedsL = true ∧ ∀ i n' m' H', 0 ≤ i → i ≤ mostB d → H' b = some (.lst [.int n', .int m']) → Exb b H H' → Q (.int i) H'
def spRuled : Sp := fun vs H Q _ => ∃ (b : Addr) (n m : Int) (z : Str), vs = [.ref b, .str z] ∧ H b = some (.lst [.int n, .int m]) ∧ 1 ≤ z.length ∧ z.length ≤ 8 ∧ (∀ c ∈ z.cps.toList, c ∈ lettersL) ∧
  ∀ (r : Ru) p n' m' H', r.Ok → r.name = z → H p = none → H' p = some (.tup r.vs) → H' b = some (.lst [.int n', .int m']) → Exb b H H' → Q (.ref p) H'
def spNm : Sp := fun vs H Q _ => ∃ (b : Addr) (n m : Int), vs = [.ref b] ∧ H b = some (.lst [.int n, .int m]) ∧ ∀ (z : Str) n' m' H', 1 ≤ z.length → z.length ≤ 8 → (∀ c ∈ z.cps.toList, c ∈ lettersL) → H' b = some (.lst [.int n', .int m']) → Exb b H H' → Q (.str z) H'
section
variable {P : Program} {w : World} {K : PySem.W.Frag} {mg : Str → Option Value} {base : Heap} {f C0 : Addr} {fd : FuncData}
theorem p_bound (F : Fn K "_law_bound" "_law_bound" s__law_bound f fd) (DT : Df P w K mg base 2 "_law_take" ["_law_box_here", "_law_count"] [] spTake) : FnOk P w K mg base CX0 3 f fd ["_law_box_here", "_law_act"] spBound := by
  refine fn_w F sc__law_bound ok__law_bound (fun vs H Q E h => by obtain ⟨b, n, m, d, rfl, hb, hd, q⟩ := h; rfl) (fun X vs H Q E C h => ?_)
  obtain ⟨b, n, m, d, rfl, hb, hd, q⟩ := h
  show wB X _ _ [some (.ref b), some (.str d), none] H
  first | refine wB_one ?_ | refine wB_cons' fun _ _ => ?_
  walk_at "ws"
  refine o_pow12 ?_
  walk_at "ws"
  refine wS_if ?_
  walk_at "ws"
  refine o_eqSS ?_
  walk_at "ws"
  refine iteD (fun e1 => ?_) (fun e1 => ?_)
  · have hm : mostB d = 1000000000000 := by unfold mostB; rw [if_pos e1]
    walk_at "ws"
    refine wE_call C DT (by walk_at "mem") (by decide) (by rfl) (by rfl) ?_
    walk_at "ws"
    refine ⟨b, _, _, 300, rfl, (by walk_at "hk"), by decide, by decide, fun dA nA mA HA dA0 dA1 hbA exA => ?_⟩
    walk_at "ws"
    refine wE_call C DT (by walk_at "mem") (by decide) (by rfl) (by rfl) ?_
    walk_at "ws"
    refine ⟨b, _, _, 1000000000001, rfl, (by walk_at "hk"), by decide, by decide, fun dB nB mB HB dB0 dB1 hbB exB => ?_⟩
    walk_at "ws"
    refine ⟨(by show 4 ≤ sizeLine; decide), fun p2 H2 hp2 e2 h2 => ?_⟩
    walk_at "ws"
    refine wE_call C DT (by walk_at "mem") (by decide) (by rfl) (by rfl) ?_
    walk_at "ws"
    refine ⟨b, _, _, 4, rfl, (by walk_at "hk"), by decide, by decide, fun dD nD mD HD dD0 dD1 hbD exD => ?_⟩
    walk_at "ws"
    obtain ⟨v2, ha2, z2, rfl, hz2, hz3⟩ := pick dD0 (show dD < ([.int 0, .int (1 + dA), .int 1000000000000, .int dB] : List V).length from dD1) (fun v => ∃ z, v = .int z ∧ 0 ≤ z ∧ z ≤ 1000000000000) (all2 ⟨_, rfl, by omega, by omega⟩ (all2 ⟨_, rfl, by omega, by omega⟩ (all2 ⟨_, rfl, by omega, by omega⟩ (all1 ⟨_, rfl, by omega, by omega⟩))))
    refine i_list C (fun _ _ => rfl) (SqL.of (by walk_at "hk")) ha2 ?_
    exact q z2 _ _ _ hz2 (by omega) (by walk_at "hk") (by walk_at "hx")
  walk_at "ws"
  refine wS_if ?_
  walk_at "ws"
  refine o_eqSS ?_
  walk_at "ws"
  refine iteD (fun e2 => ?_) (fun e2 => ?_)
  · have hm : mostB d = 1000 := by unfold mostB; rw [if_neg e1, if_pos e2]
    walk_at "ws"
    refine wE_call C DT (by walk_at "mem") (by decide) (by rfl) (by rfl) ?_
    walk_at "ws"
    refine ⟨b, _, _, 1001, rfl, (by walk_at "hk"), by decide, by decide, fun dA nA mA HA dA0 dA1 hbA exA => ?_⟩
    walk_at "ws"
    refine ⟨(by show 5 ≤ sizeLine; decide), fun p2 H2 hp2 e2 h2 => ?_⟩
    walk_at "ws"
    refine wE_call C DT (by walk_at "mem") (by decide) (by rfl) (by rfl) ?_
    walk_at "ws"
    refine ⟨b, _, _, 5, rfl, (by walk_at "hk"), by decide, by decide, fun dD nD mD HD dD0 dD1 hbD exD => ?_⟩
    walk_at "ws"
    obtain ⟨v2, ha2, z2, rfl, hz2, hz3⟩ := pick dD0 (show dD < ([.int 0, .int 1, .int 2, .int 1000, .int dA] : List V).length from dD1) (fun v => ∃ z, v = .int z ∧ 0 ≤ z ∧ z ≤ 1000) (all2 ⟨_, rfl, by omega, by omega⟩ (all2 ⟨_, rfl, by omega, by omega⟩ (all2 ⟨_, rfl, by omega, by omega⟩ (all2 ⟨_, rfl, by omega, by omega⟩ (all1 ⟨_, rfl, by omega, by omega⟩)))))
    refine i_list C (fun _ _ => rfl) (SqL.of (by walk_at "hk")) ha2 ?_
    exact q z2 _ _ _ hz2 (by omega) (by walk_at "hk") (by walk_at "hx")
  walk_at "ws"
  refine wS_if ?_
  walk_at "ws"
  refine o_eqSS ?_
  walk_at "ws"
  refine iteD (fun e3 => ?_) (fun e3 => ?_)
  · have hm : mostB d = 100 := by unfold mostB; rw [if_neg e1, if_neg e2, if_pos e3]
    walk_at "ws"
    refine wE_call C DT (by walk_at "mem") (by decide) (by rfl) (by rfl) ?_
    walk_at "ws"
    refine ⟨b, _, _, 101, rfl, (by walk_at "hk"), by decide, by decide, fun dA nA mA HA dA0 dA1 hbA exA => ?_⟩
    walk_at "ws"
    refine ⟨(by show 6 ≤ sizeLine; decide), fun p2 H2 hp2 e2 h2 => ?_⟩
    walk_at "ws"
    refine wE_call C DT (by walk_at "mem") (by decide) (by rfl) (by rfl) ?_
    walk_at "ws"
    refine ⟨b, _, _, 6, rfl, (by walk_at "hk"), by decide, by decide, fun dD nD mD HD dD0 dD1 hbD exD => ?_⟩
    walk_at "ws"
    obtain ⟨v2, ha2, z2, rfl, hz2, hz3⟩ := pick dD0 (show dD < ([.int 0, .int 1, .int 50, .int 99, .int 100, .int dA] : List V).length from dD1) (fun v => ∃ z, v = .int z ∧ 0 ≤ z ∧ z ≤ 100) (all2 ⟨_, rfl, by omega, by omega⟩ (all2 ⟨_, rfl, by omega, by omega⟩ (all2 ⟨_, rfl, by omega, by omega⟩ (all2 ⟨_, rfl, by omega, by omega⟩ (all2 ⟨_, rfl, by omega, by omega⟩ (all1 ⟨_, rfl, by omega, by omega⟩))))))
    refine i_list C (fun _ _ => rfl) (SqL.of (by walk_at "hk")) ha2 ?_
    exact q z2 _ _ _ hz2 (by omega) (by walk_at "hk") (by walk_at "hx")
  walk_at "ws"
  exact q 0 _ _ _ (by decide) (by unfold mostB; rw [if_neg e1, if_neg e2, if_neg e3]; decide) hb (by walk_at "hx")
theorem p_ruled (F : Fn K "_law_ruled" "_law_ruled" s__law_ruled f fd) (T : Txt K mg) (DT : Df P w K mg base 2 "_law_take" ["_law_box_here", "_law_count"] [] spTake) (DU : Df P w K mg base 3 "_law_bound" ["_law_box_here", "_law_act"] [] spBound) : FnOk P w K mg base CX0 4 f fd ["_law_box_here", "_law_name_here"] spRuled := by
  refine fn_w F sc__law_ruled ok__law_ruled (fun vs H Q E h => by obtain ⟨b, n, m, nm, rfl, hb, nm1, nm2, nml, q⟩ := h; rfl) (fun X vs H Q E C h => ?_)
  obtain ⟨b, n, m, nm, rfl, hb, nm1, nm2, nml, q⟩ := h
  show wB X _ _ [some (.ref b), some (.str nm), none, none, none, none, none, none, none, none, none] H
  first | refine wB_one ?_ | refine wB_cons' fun _ _ => ?_
  walk_at "ws"
  refine ⟨(by show 5 ≤ sizeLine; decide), fun p1 H1 hp1 e1 h1 => ?_⟩
  walk_at "ws"
  refine wE_call C DT (by walk_at "mem") (by decide) (by rfl) (by rfl) ?_
  walk_at "ws"
  refine ⟨b, _, _, 5, rfl, (by walk_at "hk"), by decide, by decide, fun dA nA mA HA dA0 dA1 hbA exA => ?_⟩
  walk_at "ws"
  obtain ⟨v1, ha1, d, rfl, hd⟩ := pick dA0 (show dA < ([.str "let", .str "cut", .str "each", .str "hundredths", .str "refuse"] : List V).length from dA1) (fun v => ∃ z, v = .str z ∧ inV (.str z) deedsL = true) (all2 ⟨_, rfl, by decide +kernel⟩ (all2 ⟨_, rfl, by decide +kernel⟩ (all2 ⟨_, rfl, by decide +kernel⟩ (all2 ⟨_, rfl, by decide +kernel⟩ (all1 ⟨_, rfl, by decide +kernel⟩)))))
  refine i_list C (fun _ _ => rfl) (SqL.of (by walk_at "hk")) ha1 ?_
  walk_at "ws"
  refine wE_call C DU (by walk_at "mem") (by decide) (by rfl) (by rfl) ?_
  walk_at "ws"
  refine ⟨b, _, _, d, rfl, hbA, hd, fun bd nB mB HB bd0 bd1 hbB exB => ?_⟩
  walk_at "ws"
  have xB : Exb b H HB := by walk_at "hx"
  clear e1 h1 exA hbA exB hp1
  refine wE_call C DT (by walk_at "mem") (by decide) (by rfl) (by rfl) ?_
  walk_at "ws"
  refine ⟨b, _, _, 6, rfl, (by walk_at "hk"), by decide, by decide, fun dD nD mD HD dD0 dD1 hbD exD => ?_⟩
  walk_at "ws"
  refine wE_callT C T.int (by walk_at "mem") boot_int (by rfl) (by rfl) ?_
  walk_at "ws"
  refine wE_call C DT (by walk_at "mem") (by decide) (by rfl) (by rfl) ?_
  walk_at "ws"
  refine ⟨b, _, _, 3, rfl, (by walk_at "hk"), by decide, by decide, fun dE nE mE HE dE0 dE1 hbE exE => ?_⟩
  walk_at "ws"
  refine c_intB ?_
  have hk : (0 ≤ dD * (if decide (0 < dE) = true then 1 else 0)) ∧ dD * (if decide (0 < dE) = true then 1 else 0) < 6 := by
    by_cases hz : 0 < dE
    · rw [if_pos (decide_eq_true hz), Int.mul_one]; exact ⟨dD0, dD1⟩
    · rw [decide_eq_false hz, if_neg (by decide), Int.mul_zero]; decide
  refine o_mulL (by omega) (by omega) ?_
  have xE : Exb b H HE := by walk_at "hx"
  clear xB exD exE hbD hbB
  walk_at "ws"
  refine ⟨(by show 6 ≤ sizeLine; decide), fun p2 H2 hp2 e2 h2 => ?_⟩
  walk_at "ws"
  generalize dD * (if decide (0 < dE) = true then 1 else 0) = pk at hk
  obtain ⟨v2, ha2, sk, rfl, hsk⟩ := pick hk.1 (show pk < ([.non, .str "bed", .str "fee", .str "meal", .str "ride", .str "sundry"] : List V).length from hk.2) (fun v => ∃ sk : Option Str, v = oS sk ∧ ∀ z, sk = some z → inV (.str z) kindsL = true)
    (all2 ⟨none, rfl, fun z h => by cases h⟩ (all2 ⟨some _, rfl, fun z h => by cases h; decide +kernel⟩ (all2 ⟨some _, rfl, fun z h => by cases h; decide +kernel⟩ (all2 ⟨some _, rfl, fun z h => by cases h; decide +kernel⟩ (all2 ⟨some _, rfl, fun z h => by cases h; decide +kernel⟩ (all1 ⟨some _, rfl, fun z h => by cases h; decide +kernel⟩))))))
  refine i_list C (fun _ _ => rfl) (SqL.of (by walk_at "hk")) ha2 ?_
  walk_at "ws"
  refine wE_call C DT (by walk_at "mem") (by decide) (by rfl) (by rfl) ?_
  walk_at "ws"
  refine ⟨b, _, _, 4, rfl, (by walk_at "hk"), by decide, by decide, fun dF nF mF HF dF0 dF1 hbF exF => ?_⟩
  walk_at "ws"
  refine ⟨(by show 2 ≤ sizeLine; decide), fun p3 H3 hp3 e3 h3 => ?_⟩
  walk_at "ws"
  refine wE_call C DT (by walk_at "mem") (by decide) (by rfl) (by rfl) ?_
  walk_at "ws"
  refine ⟨b, _, _, 2, rfl, (by walk_at "hk"), by decide, by decide, fun dG nG mG HG dG0 dG1 hbG exG => ?_⟩
  walk_at "ws"
  obtain ⟨v3, ha3, sc, rfl, hsc⟩ := pick dG0 (show dG < ([.non, .int dF] : List V).length from dG1) (fun v => ∃ sc : Option Int, v = oI sc ∧ ∀ z, sc = some z → 0 ≤ z ∧ z ≤ 3) (all2 ⟨none, rfl, fun z h => by cases h⟩ (all1 ⟨some _, rfl, fun z h => by cases h; omega⟩))
  refine i_list C (fun _ _ => rfl) (SqL.of (by walk_at "hk")) ha3 ?_
  walk_at "ws"
  have xG : Exb b H HG := by walk_at "hx"
  clear xE e2 h2 exF e3 h3 exG hbE hbF hp2 hp3 ha1 ha2 ha3
  refine wE_call C DT (by walk_at "mem") (by decide) (by rfl) (by rfl) ?_
  walk_at "ws"
  refine ⟨b, _, _, 60, rfl, (by walk_at "hk"), by decide, by decide, fun dI nI mI HI dI0 dI1 hbI exI => ?_⟩
  walk_at "ws"
  refine ⟨(by show 3 ≤ sizeLine; decide), fun p4 H4 hp4 e4 h4 => ?_⟩
  walk_at "ws"
  refine wE_call C DT (by walk_at "mem") (by decide) (by rfl) (by rfl) ?_
  walk_at "ws"
  refine ⟨b, _, _, 3, rfl, (by walk_at "hk"), by decide, by decide, fun dJ nJ mJ HJ dJ0 dJ1 hbJ exJ => ?_⟩
  walk_at "ws"
  obtain ⟨v4, ha4, si, rfl, hsi0, hsi1⟩ := pick dJ0 (show dJ < ([.int 0, .int 0, .int dI] : List V).length from dJ1) (fun v => ∃ z, v = .int z ∧ 0 ≤ z ∧ z ≤ 59) (all2 ⟨_, rfl, by omega, by omega⟩ (all2 ⟨_, rfl, by omega, by omega⟩ (all1 ⟨_, rfl, by omega, by omega⟩)))
  refine i_list C (fun _ _ => rfl) (SqL.of (by walk_at "hk")) ha4 ?_
  walk_at "ws"
  have xJ : Exb b H HJ := by walk_at "hx"
  clear xG exI e4 h4 exJ hbG hbI hp4 ha4
  refine wE_call C DT (by walk_at "mem") (by decide) (by rfl) (by rfl) ?_
  walk_at "ws"
  refine ⟨b, _, _, 60 - si, rfl, (by walk_at "hk"), by omega, by omega, fun dK nK mK HK dK0 dK1 hbK exK => ?_⟩
  walk_at "ws"
  refine ⟨(by show 3 ≤ sizeLine; decide), fun p5 H5 hp5 e5 h5 => ?_⟩
  walk_at "ws"
  refine wE_call C DT (by walk_at "mem") (by decide) (by rfl) (by rfl) ?_
  walk_at "ws"
  refine ⟨b, _, _, 3, rfl, (by walk_at "hk"), by decide, by decide, fun dL nL mL HL dL0 dL1 hbL exL => ?_⟩
  walk_at "ws"
  obtain ⟨v5, ha5, un, rfl, hun0, hun1⟩ := pick dL0 (show dL < ([.int 59, .int 59, .int (si + dK)] : List V).length from dL1) (fun v => ∃ z, v = .int z ∧ si ≤ z ∧ z ≤ 59) (all2 ⟨_, rfl, by omega, by omega⟩ (all2 ⟨_, rfl, by omega, by omega⟩ (all1 ⟨_, rfl, by omega, by omega⟩)))
  refine i_list C (fun _ _ => rfl) (SqL.of (by walk_at "hk")) ha5 ?_
  walk_at "ws"
  have xL : Exb b H HL := by walk_at "hx"
  clear xJ exK e5 h5 exL hbJ hbK hp5 ha5
  refine wE_call C DT (by walk_at "mem") (by decide) (by rfl) (by rfl) ?_
  walk_at "ws"
  refine ⟨b, _, _, 400, rfl, (by walk_at "hk"), by decide, by decide, fun dM nM mM HM dM0 dM1 hbM exM => ?_⟩
  walk_at "ws"
  refine o_pow12 ?_
  walk_at "ws"
  refine wE_call C DT (by walk_at "mem") (by decide) (by rfl) (by rfl) ?_
  walk_at "ws"
  refine o_pow12 ?_
  walk_at "ws"
  refine ⟨b, _, _, 1000000000000, rfl, (by walk_at "hk"), by decide, by decide, fun dO nO mO HO dO0 dO1 hbO exO => ?_⟩
  walk_at "ws"
  refine ⟨(by show 5 ≤ sizeLine; decide), fun p6 H6 hp6 e6 h6 => ?_⟩
  walk_at "ws"
  refine wE_call C DT (by walk_at "mem") (by decide) (by rfl) (by rfl) ?_
  walk_at "ws"
  refine ⟨b, _, _, 5, rfl, (by walk_at "hk"), by decide, by decide, fun dP nP mP HP dP0 dP1 hbP exP => ?_⟩
  walk_at "ws"
  obtain ⟨v6, ha6, ab, rfl, hab0, hab1⟩ := pick dP0 (show dP < ([.int 0, .int 0, .int dM, .int 1000000000000, .int dO] : List V).length from dP1) (fun v => ∃ z, v = .int z ∧ 0 ≤ z ∧ z ≤ 1000000000000) (all2 ⟨_, rfl, by omega, by omega⟩ (all2 ⟨_, rfl, by omega, by omega⟩ (all2 ⟨_, rfl, by omega, by omega⟩ (all2 ⟨_, rfl, by omega, by omega⟩ (all1 ⟨_, rfl, by omega, by omega⟩)))))
  refine i_list C (fun _ _ => rfl) (SqL.of (by walk_at "hk")) ha6 ?_
  walk_at "ws"
  have xP : Exb b H HP := by walk_at "hx"
  clear xL exM exO e6 h6 exP hbL hbM hbO hp6 ha6
  refine ⟨(by show 4 ≤ sizeLine; decide), fun p7 H7 hp7 e7 h7 => ?_⟩
  walk_at "ws"
  refine wE_call C DT (by walk_at "mem") (by decide) (by rfl) (by rfl) ?_
  walk_at "ws"
  refine ⟨b, _, _, 4, rfl, (by walk_at "hk"), by decide, by decide, fun dR nR mR HR dR0 dR1 hbR exR => ?_⟩
  walk_at "ws"
  obtain ⟨v7, ha7, gv, rfl⟩ := pick dR0 (show dR < ([.non, .non, .bl true, .bl false] : List V).length from dR1) (fun v => ∃ gv : Option Bool, v = oB gv) (all2 ⟨none, rfl⟩ (all2 ⟨none, rfl⟩ (all2 ⟨some true, rfl⟩ (all1 ⟨some false, rfl⟩))))
  refine i_list C (fun _ _ => rfl) (SqL.of (by walk_at "hk")) ha7 ?_
  walk_at "ws"
  have xR : Exb b H HR := by walk_at "hx"
  clear xP e7 h7 exR hbP hp7 ha7
  refine ⟨(by show 9 ≤ sizeLine; decide), fun p8 H8 hp8 e8 h8 => ?_⟩
  have fr : H p8 = none := Exb.free (b := b) (H' := HR) xR hbR hp8
  exact q ⟨nm, d, bd, sk, sc, si, un, ab, gv⟩ p8 _ _ H8 ⟨nm1, nm2, nml, hd, bd0, bd1, hsk, hsc, hsi0, hun0, hun1, hab0, hab1⟩ rfl fr h8 (e8 _ _ hbR) (xR.trans e8.toB)
end
theorem joinL_ones : ∀ cs : List Nat, TL.joinL [] (cs.map fun c => [c]) = cs
  | [] => rfl
  | [c] => rfl
  | c :: d :: cs => by
    show [c] ++ ([] ++ TL.joinL [] ((d :: cs).map fun c => [c])) = c :: d :: cs
    rw [joinL_ones (d :: cs)]
    rfl
theorem join_ones (cs : List Nat) : Txt.join "" (cs.map fun c => (⟨#[c]⟩ : Str)) = ⟨cs.toArray⟩ := by
  refine TL.ext_tl ?_
  rw [TL.join_eq, TL.tl_join, List.map_map]
  show TL.joinL [] (cs.map fun c => [c]) = cs
  exact joinL_ones cs
section
variable {P : Program} {w : World} {K : PySem.W.Frag} {mg : Str → Option Value} {base : Heap} {f C0 : Addr} {fd : FuncData}
theorem p_nm (F : Fn K "_law_name" "_law_name" s__law_name f fd) (T : Txt K mg) (DT : Df P w K mg base 2 "_law_take" ["_law_box_here", "_law_count"] [] spTake) : FnOk P w K mg base CX0 3 f fd ["_law_box_here"] spNm := by
  refine fn_w F sc__law_name ok__law_name (fun vs H Q E h => by obtain ⟨b, n, m, rfl, hb, q⟩ := h; rfl) (fun X vs H Q E C h => ?_)
  obtain ⟨b, n, m, rfl, hb, q⟩ := h
  show wB X _ _ [some (.ref b), none, none, none] H
  first | refine wB_one ?_ | refine wB_cons' fun _ _ => ?_
  walk_at "ws"
  refine wE_call C DT (by walk_at "mem") (by decide) (by rfl) (by rfl) ?_
  walk_at "ws"
  refine ⟨b, _, _, 8, rfl, (by walk_at "hk"), by decide, by decide, fun dA nA mA HA dA0 dA1 hbA exA => ?_⟩
  walk_at "ws"
  refine ⟨(by show 3 ≤ sizeLine; decide), fun p1 H1 hp1 e1 h1 => ?_⟩
  walk_at "ws"
  refine wE_call C DT (by walk_at "mem") (by decide) (by rfl) (by rfl) ?_
  walk_at "ws"
  refine ⟨b, _, _, 3, rfl, (by walk_at "hk"), by decide, by decide, fun dB nB mB HB dB0 dB1 hbB exB => ?_⟩
  walk_at "ws"
  obtain ⟨v1, ha1, mn, rfl, hm0, hm1⟩ := pick dB0 (show dB < ([.int 1, .int 8, .int (1 + dA)] : List V).length from dB1) (fun v => ∃ z, v = .int z ∧ 1 ≤ z ∧ z ≤ 8) (all2 ⟨_, rfl, by omega, by omega⟩ (all2 ⟨_, rfl, by omega, by omega⟩ (all1 ⟨_, rfl, by omega, by omega⟩)))
  refine i_list C (fun _ _ => rfl) (SqL.of (by walk_at "hk")) ha1 ?_
  walk_at "ws"
  have xB : Exb b H HB := by walk_at "hx"
  clear exA e1 h1 exB hbA ha1 hp1
  refine wE_join (by rfl) (by rfl) (by rfl) ?_
  walk_at "ws"
  refine ⟨_, rfl, ?_⟩
  refine wE_lcR [("_law_sign", 3)] ["_law_sign", "_law_letters", "_law_box_here"] ["_law_sign"] ["_law_take"] C (by decide +kernel) (by decide +kernel) (by decide +kernel) (by rfl) T.range (by walk_at "mem") (by rfl) ?_
  walk_at "ws"
  refine ⟨mn.toNat, by rw [Int.toNat_of_nonneg (by omega)], by omega, fun D hD => ⟨fun i H2 => ∃ (cs : List Nat) (n2 m2 : Int), cs.length = i ∧ (∀ c ∈ cs, c ∈ lettersL) ∧ H2 D = some (.lst (cs.map fun c => V.str ⟨#[c]⟩)) ∧ H2 b = some (.lst [.int n2, .int m2]) ∧ Exb b HB H2, ⟨[], nB, mB, rfl, by simp, upd_same, by rw [upd_ne (ne_of_none hbB hD)]; exact hbB, (Ex.upd hD).toB⟩, ?_, ?_⟩⟩
  · rintro i H2 hi ⟨cs, n2, m2, l1, l2, l3, l4, l5⟩
    have nD : D ≠ b := ne_fresh hD hbB
    intro X1 C1
    show wG X1 _ _ [some (.ref b), some (.str "abcdefghijklmnopqrstuvwxyz"), some (.int mn), none] H2 _
    refine wG_name C1 (by walk_at "mem") ?_
    walk_at "ws"
    refine ⟨rfl, ?_⟩
    refine blkT_nil (iteT ?_)
    intro X2 C2
    clear C1 C
    walk_at "ws"
    refine wE_call C2 DT (by walk_at "mem") (by decide) (by rfl) (by rfl) ?_
    walk_at "ws"
    refine ⟨b, n2, m2, 26, rfl, l4, by decide, by decide, fun d n3 m3 H3 d0 d1 hb3 ex3 => ?_⟩
    obtain ⟨c, hc, hm⟩ := atI_mem (xs := lettersL) d0 (show d < (26 : Int) from d1)
    refine i_str (fun _ _ => rfl) (by decide +kernel) hc ?_
    refine ⟨_, ex3 _ _ nD l3, by rw [List.length_map, l1, sizeLine_eq]; omega, cs ++ [c], n3, m3, by rw [List.length_append, l1]; rfl, fun x hx => ?_, by rw [upd_same, List.map_append]; rfl, by rw [upd_ne nD.symm]; exact hb3, (l5.trans ex3).mut hD Exb.upd⟩
    rcases List.mem_append.mp hx with hx | hx
    · exact l2 x hx
    · rw [List.mem_singleton.mp hx]; exact hm
  · rintro H2 ⟨cs, n2, m2, l1, l2, l3, l4, l5⟩
    have hs : ∀ cs : List Nat, ((cs.map fun c => (⟨#[c]⟩ : Str)).map (·.length)).sum = cs.length := by
      intro cs
      induction cs with
      | nil => rfl
      | cons c cs ih => rw [List.map_cons, List.map_cons, List.sum_cons, ih, List.length_cons]; show 1 + cs.length = cs.length + 1; omega
    refine ⟨D, cs.map fun c => ⟨#[c]⟩, rfl, .inl (SqL.of (by rw [List.map_map]; exact l3)), ?_, ?_⟩
    · rw [hs, List.length_map, show ("" : Str).length = 0 from rfl]; omega
    · rw [join_ones]
      have hl : (⟨cs.toArray⟩ : Str).length = mn.toNat := by show cs.toArray.size = _; rw [List.size_toArray, l1]
      exact q ⟨cs.toArray⟩ n2 m2 H2 (by rw [hl]; omega) (by rw [hl]; omega) l2 l4 (xB.trans l5)
end
def spMade (C : Addr) : Sp := fun vs H Q _ => ∃ (t : Addr) (r : Ru), vs = [.ref t] ∧ H t = some (.tup r.vs) ∧ r.Ok ∧ ∀ p dx qa H', H p = none → Ex H H' → H' p = some (.ins C dx (r.fs qa)) → Q (.ref p) H'
def gMade : List V → List V → List V := fun vs zs => vs ++ zs
section
variable {P : Program} {w : World} {K : PySem.W.Frag} {mg : Str → Option Value} {base : Heap} {f C0 : Addr} {fd : FuncData}
theorem p_made (F : Fn K "_law_made" "_law_made" s__law_made f fd) (M : Mf P w K mg base 4 "Rule" C0 1 ["deed", "bound", "kind", "town", "first", "last", "over", "paper"] gMade (spInit C0)) : FnOk P w K mg base CX0 6 f fd ["_law_row"] (spMade C0) := by
  refine fn_w F sc__law_made ok__law_made (fun vs H Q E h => by obtain ⟨t, r, rfl, ht, o, q⟩ := h; rfl) (fun X vs H Q E C h => ?_)
  obtain ⟨t, r, rfl, ht, o, q⟩ := h
  show wB X _ _ [some (.ref t)] H
  first | refine wB_one ?_ | refine wB_cons' fun _ _ => ?_
  walk_at "ws"
  refine wE_makeN C M (by walk_at "mem") (by decide) (by rfl) (by rfl) (by rfl) (by rfl) ?_
  have ht' : H t = some (.tup [.str r.name, .str r.deed, .int r.bound, oS r.kind, oI r.town, .int r.first, .int r.last, .int r.over, oB r.paper]) := ht
  walk_at "ws"
  exact ⟨rfl, rfl, fun y dx hy hdx hne => ⟨y, dx, r, rfl, o, upd_same, fun qa H' e h _ _ => ⟨rfl, q y dx qa H' hy ((Ex.new2 hdx hy hne).mut hy e) h⟩⟩⟩
end
def boolT (b : Bool) : Str := if b = true then ("True" : Str) else ("False" : Str)
def Ru.u0 (r : Ru) : Str := "Rule(" ++ reprText r.name
def Ru.u1 (r : Ru) : Str := if r.deed = "let" then r.u0 else r.u0 ++ ", " ++ "deed" ++ "=" ++ reprText r.deed
def Ru.u2 (r : Ru) : Str := if r.bound = 0 then r.u1 else r.u1 ++ ", " ++ "bound" ++ "=" ++ numT r.bound
def Ru.u3 (r : Ru) : Str := match r.kind with | none => r.u2 | some z => r.u2 ++ ", " ++ "kind" ++ "=" ++ reprText z
def Ru.u4 (r : Ru) : Str := match r.town with | none => r.u3 | some z => r.u3 ++ ", " ++ "town" ++ "=" ++ numT z
def Ru.u5 (r : Ru) : Str := if r.first = 0 then r.u4 else r.u4 ++ ", " ++ "first" ++ "=" ++ numT r.first
def Ru.u6 (r : Ru) : Str := if r.last = 59 then r.u5 else r.u5 ++ ", " ++ "last" ++ "=" ++ numT r.last
def Ru.u7 (r : Ru) : Str := if r.over = 0 then r.u6 else r.u6 ++ ", " ++ "over" ++ "=" ++ numT r.over
def Ru.u8 (r : Ru) : Str := match r.paper with | none => r.u7 | some z => r.u7 ++ ", " ++ "paper" ++ "=" ++ boolT z
def Ru.uAt (r : Ru) : Nat → Str
  | 0 => r.u0
  | 1 => r.u1
  | 2 => r.u2
  | 3 => r.u3
  | 4 => r.u4
  | 5 => r.u5
  | 6 => r.u6
  | 7 => r.u7
  | _ => r.u8
theorem join_snoc (y : Str) : ∀ (l : List Str) (z : Str), l ≠ [] → Str.join y (l ++ [z]) = Str.join y l ++ y ++ z
  | [], _, h => absurd rfl h
  | [x], z, _ => rfl
  | x :: x2 :: l, z, _ => by
    show x ++ y ++ Str.join y ((x2 :: l) ++ [z]) = x ++ y ++ Str.join y (x2 :: l) ++ y ++ z
    rw [join_snoc y (x2 :: l) z (by simp)]
    simp only [Str.append_assoc]
/-- a part more, or none -/
theorem shown_more {t n v a : Str} {p : List Str} (hne : p ≠ []) (ht : t = "Rule(" ++ Str.join ", " p) (ha : a = n ++ "=") : t ++ ", " ++ n ++ "=" ++ v = "Rule(" ++ Str.join ", " (p ++ [Str.empty ++ a ++ v]) := by
  rw [join_snoc _ _ _ hne, ht, Str.empty_append, ha]
  simp only [Str.append_assoc]
theorem Ru.p_ne {r : Ru} : r.p0 ≠ [] ∧ r.p1 ≠ [] ∧ r.p2 ≠ [] ∧ r.p3 ≠ [] ∧ r.p4 ≠ [] ∧ r.p5 ≠ [] ∧ r.p6 ≠ [] ∧ r.p7 ≠ [] := by
  have h0 : r.p0 ≠ [] := by unfold Ru.p0; simp
  have h1 : r.p1 ≠ [] := by unfold Ru.p1; simp [h0]
  have h2 : r.p2 ≠ [] := by unfold Ru.p2; simp [h1]
  have h3 : r.p3 ≠ [] := by unfold Ru.p3; simp [h2]
  have h4 : r.p4 ≠ [] := by unfold Ru.p4; simp [h3]
  have h5 : r.p5 ≠ [] := by unfold Ru.p5; simp [h4]
  have h6 : r.p6 ≠ [] := by unfold Ru.p6; simp [h5]
  have h7 : r.p7 ≠ [] := by unfold Ru.p7; simp [h6]
  exact ⟨h0, h1, h2, h3, h4, h5, h6, h7⟩
theorem shown_eq (r : Ru) : r.u8 ++ ")" = r.text := by
  obtain ⟨n0, n1, n2, n3, n4, n5, n6, n7⟩ := Ru.p_ne (r := r)
  have e0 : r.u0 = "Rule(" ++ Str.join ", " r.p0 := rfl
  have e1 : r.u1 = "Rule(" ++ Str.join ", " r.p1 := by
    unfold Ru.u1 Ru.p1 Ru.x1
    split
    · rw [List.append_nil]; exact e0
    · exact shown_more (a := "deed=") n0 e0 (by decide +kernel)
  have e2 : r.u2 = "Rule(" ++ Str.join ", " r.p2 := by
    unfold Ru.u2 Ru.p2 Ru.x2
    split
    · rw [List.append_nil]; exact e1
    · exact shown_more (a := "bound=") n1 e1 (by decide +kernel)
  have e3 : r.u3 = "Rule(" ++ Str.join ", " r.p3 := by
    unfold Ru.u3 Ru.p3 Ru.x3
    cases r.kind with
    | none => show r.u2 = _ ++ Str.join ", " (r.p2 ++ []); rw [List.append_nil]; exact e2
    | some z => exact shown_more (a := "kind=") n2 e2 (by decide +kernel)
  have e4 : r.u4 = "Rule(" ++ Str.join ", " r.p4 := by
    unfold Ru.u4 Ru.p4 Ru.x4
    cases r.town with
    | none => show r.u3 = _ ++ Str.join ", " (r.p3 ++ []); rw [List.append_nil]; exact e3
    | some z => exact shown_more (a := "town=") n3 e3 (by decide +kernel)
  have e5 : r.u5 = "Rule(" ++ Str.join ", " r.p5 := by
    unfold Ru.u5 Ru.p5 Ru.x5
    split
    · rw [List.append_nil]; exact e4
    · exact shown_more (a := "first=") n4 e4 (by decide +kernel)
  have e6 : r.u6 = "Rule(" ++ Str.join ", " r.p6 := by
    unfold Ru.u6 Ru.p6 Ru.x6
    split
    · rw [List.append_nil]; exact e5
    · exact shown_more (a := "last=") n5 e5 (by decide +kernel)
  have e7 : r.u7 = "Rule(" ++ Str.join ", " r.p7 := by
    unfold Ru.u7 Ru.p7 Ru.x7
    split
    · rw [List.append_nil]; exact e6
    · exact shown_more (a := "over=") n6 e6 (by decide +kernel)
  have e8 : r.u8 = "Rule(" ++ Str.join ", " r.p8 := by
    unfold Ru.u8 Ru.p8 Ru.x8
    cases r.paper with
    | none => show r.u7 = _ ++ Str.join ", " (r.p7 ++ []); rw [List.append_nil]; exact e7
    | some z => exact shown_more (a := "paper=") n7 e7 (by decide +kernel)
  unfold Ru.text
  rw [e8, TL.join_eq, Str.empty_append]
def spShown : Sp := fun vs H Q _ => ∃ (t : Addr) (r : Ru), vs = [.ref t] ∧ H t = some (.tup r.vs) ∧ r.Ok ∧ ∀ H', Ex H H' → Q (.str r.text) H'
theorem more_sz {t n v : Str} {m : Nat} (ht : Sz t m) (hn : Sz n 8) (hv : Sz v 20) : Sz (t ++ ", " ++ n ++ "=" ++ v) (m + 31) :=
  Sz.mono ((((ht.app (Sz.lit _)).app hn).app (Sz.lit _)).app hv) (by rw [show (", " : Str).length = 2 from by decide +kernel, show ("=" : Str).length = 1 from by decide +kernel]; omega)
theorem deed_sz {r : Ru} (o : r.Ok) : Sz (reprText r.deed) 20 := by unfold Sz; rw [repr_len (deed_letters o.deed)]; have := deed_len o.deed; omega
theorem kind_sz {z : Str} (h : inV (.str z) kindsL = true) : Sz (reprText z) 20 := by unfold Sz; rw [repr_len (kind_letters h)]; have := kind_len h; omega
theorem num_sz {i : Int} (h0 : 0 ≤ i) (h : i ≤ 1000000000000) : Sz (numT i) 20 := Nat.le_trans (numT_len h0 h) (by decide)
theorem bool_sz (b : Bool) : Sz (boolT b) 20 := by cases b <;> (unfold Sz; decide +kernel)
theorem u_sz {r : Ru} (o : r.Ok) : Sz r.u0 30 ∧ Sz r.u1 61 ∧ Sz r.u2 92 ∧ Sz r.u3 123 ∧ Sz r.u4 154 ∧ Sz r.u5 185 ∧ Sz r.u6 216 ∧ Sz r.u7 247 ∧ Sz r.u8 278 := by
  have f1 := o.f1; have f2 := o.f2; have l2 := o.l2; have o1 := o.o1; have o2 := o.o2; have b1 := o.b1; have b2 := o.b2; have bm := mostB_le r.deed
  have s0 : Sz r.u0 30 := by
    unfold Ru.u0 Sz
    rw [slen_app, repr_len o.nl, show ("Rule(" : Str).length = 5 from by decide +kernel]
    have := o.n2
    omega
  have s1 : Sz r.u1 61 := by
    unfold Ru.u1
    split
    · exact s0.mono (by decide)
    · exact more_sz s0 (by unfold Sz; decide +kernel) (deed_sz o)
  have s2 : Sz r.u2 92 := by
    unfold Ru.u2
    split
    · exact s1.mono (by decide)
    · exact more_sz s1 (by unfold Sz; decide +kernel) (num_sz b1 (by omega))
  have s3 : Sz r.u3 123 := by
    unfold Ru.u3
    split
    · exact s2.mono (by decide)
    · rename_i z hz; exact more_sz s2 (by unfold Sz; decide +kernel) (kind_sz (o.kind _ hz))
  have s4 : Sz r.u4 154 := by
    unfold Ru.u4
    split
    · exact s3.mono (by decide)
    · rename_i z hz; exact more_sz s3 (by unfold Sz; decide +kernel) (num_sz (o.town _ hz).1 (by have := o.town _ hz; omega))
  have s5 : Sz r.u5 185 := by
    unfold Ru.u5
    split
    · exact s4.mono (by decide)
    · exact more_sz s4 (by unfold Sz; decide +kernel) (num_sz f1 (by omega))
  have s6 : Sz r.u6 216 := by
    unfold Ru.u6
    split
    · exact s5.mono (by decide)
    · exact more_sz s5 (by unfold Sz; decide +kernel) (num_sz (by omega) (by omega))
  have s7 : Sz r.u7 247 := by
    unfold Ru.u7
    split
    · exact s6.mono (by decide)
    · exact more_sz s6 (by unfold Sz; decide +kernel) (num_sz o1 o2)
  have s8 : Sz r.u8 278 := by
    unfold Ru.u8
    split
    · exact s7.mono (by decide)
    · rename_i z hz; exact more_sz s7 (by unfold Sz; decide +kernel) (bool_sz _)
  exact ⟨s0, s1, s2, s3, s4, s5, s6, s7, s8⟩
theorem kb_sb : kitB "str" "bool" = some false := by decide +kernel
theorem kb_nb : kitB "NoneType" "bool" = some false := by decide +kernel
section
variable {X : Cx} {H : Hp} {Q : VK}
theorem o_neN (q : Q (.bl false) H) : wO X (compareOp .NotEq) .non .non H Q := wO.of op_ne ⟨rfl, by rw [show (!decide (V.non = V.non)) = false by simp]; exact q⟩
theorem o_neSN {z : Str} (q : Q (.bl true) H) : wO X (compareOp .NotEq) (.str z) .non H Q := wO.of op_ne ⟨rfl, by rw [show (!decide (V.str z = V.non)) = true by simp]; exact q⟩
theorem o_neIN {z : Int} (q : Q (.bl true) H) : wO X (compareOp .NotEq) (.int z) .non H Q := wO.of op_ne ⟨rfl, by rw [show (!decide (V.int z = V.non)) = true by simp]; exact q⟩
theorem o_neBN {z : Bool} (q : Q (.bl true) H) : wO X (compareOp .NotEq) (.bl z) .non H Q := wO.of op_ne ⟨rfl, by rw [show (!decide (V.bl z = V.non)) = true by simp]; exact q⟩
theorem o_neFF (q : Q (.bl false) H) : wO X (compareOp .NotEq) (.bl false) (.bl false) H Q := o_neB q
end
section
variable {P : Program} {w : World} {K : PySem.W.Frag} {mg : Str → Option Value} {base : Heap} {f C0 : Addr} {fd : FuncData}
theorem p_shown (F : Fn K "_law_rule_shown" "_law_rule_shown" s__law_rule_shown f fd) (T : Txt K mg) (tr : mg "repr" = none) (tz : mg "zip" = none) : FnOk P w K mg base CX0 1 f fd ["_law_row"] spShown := by
  refine fn_w F sc__law_rule_shown ok__law_rule_shown (fun vs H Q E h => by obtain ⟨t, r, rfl, ht, o, q⟩ := h; rfl) (fun X vs H Q E C h => ?_)
  obtain ⟨t, r, rfl, ht, o, q⟩ := h
  show wB X _ _ [some (.ref t), none, none, none, none, none] H
  first | refine wB_one ?_ | refine wB_cons' fun _ _ => ?_
  walk_at "ws"
  have f1 := o.f1; have f2 := o.f2; have l2 := o.l2; have o1 := o.o1; have o2 := o.o2; have b1 := o.b1; have b2 := o.b2; have bm := mostB_le r.deed
  obtain ⟨z0, z1, z2, z3, z4, z5, z6, z7, z8⟩ := u_sz o
  have ht' : H t = some (.tup [.str r.name, .str r.deed, .int r.bound, oS r.kind, oI r.town, .int r.first, .int r.last, .int r.over, oB r.paper]) := ht
  refine wE_callB C tr (by walk_at "mem") boot_repr (by rfl) (by rfl) ?_
  walk_at "ws"
  refine c_reprS (by rw [repr_len o.nl]; have := o.n2; exact Nat.le_trans (by omega : r.name.length + 2 ≤ 10) (by decide)) ?_
  refine o_addS (Sz.lit _) (show Sz (reprText r.name) 10 from by unfold Sz; rw [repr_len o.nl]; have := o.n2; omega) (by decide +kernel) ?_
  walk_at "ws"
  refine ⟨(by show 8 ≤ sizeLine; decide), fun pn H1 hp1 e1 g1 => ?_⟩
  walk_at "ws"
  refine wS_zip3 true C tz (by walk_at "mem") (by rfl) (by rfl) ?_
  walk_at "ws"
  refine slq_i (ys := [.str r.deed, .int r.bound, oS r.kind, oI r.town, .int r.first, .int r.last, .int r.over, oB r.paper]) (SqT.of (e1 _ _ ht')) (by show ¬(HT.sIx 9 0 (some 1) = 0 ∧ HT.sIx 9 9 none = 9); decide +kernel) rfl fun ps H2 hp2 e2 g2 => ?_
  walk_at "ws"
  refine ⟨(by show 8 ≤ sizeLine; decide), fun pl H3 hp3 e3 g3 => ?_⟩
  walk_at "ws"
  have k1 := e3 _ _ (e2 _ _ g1)
  have k2 := e3 _ _ g2
  have ea : Ex H H3 := (e1.trans e2).trans e3
  clear hp1 e1 g1 hp2 e2 g2 hp3 e3
  refine ⟨pn, ps, pl, _, _, _, rfl, SqL.of k1, SqT.of k2, SqL.of g3, rfl, rfl, fun i σ H' => ∃ y1 y2 y3, σ = [some (.ref t), some (.str (r.uAt i)), some (.ref pn), y1, y2, y3] ∧ Ex H3 H', ⟨none, none, none, rfl, Ex.refl _⟩, ?_, ?_, ?_⟩
  · rintro i σ H' hi ⟨y1, y2, y3, rfl, e⟩
    exact ⟨SqL.of (e _ _ k1), SqT.of (e _ _ k2), SqL.of (e _ _ g3)⟩
  · rintro i x y u Tp σ H4 H5 hx hy hu ⟨y1, y2, y3, rfl, e4⟩ hT e5 g5
    have e35 := e4.trans e5
    clear e4 hT
    rcases i with _ | _ | _ | _ | _ | _ | _ | _ | i
    · obtain rfl : V.str "deed" = x := Option.some.inj hx
      obtain rfl : V.str r.deed = y := Option.some.inj hy
      obtain rfl : V.str "let" = u := Option.some.inj hu
      refine wG_tup C (SqT.of g5) rfl rfl ?_
      walk_at "ws"
      refine wS_if ?_
      walk_at "ws"
      refine o_neS ?_
      walk_at "ws"
      refine iteD (fun c => ?_) (fun c => ?_)
      · walk_at "ws"
        refine o_addS z0 (Sz.lit _) (by decide +kernel) ?_
        walk_at "ws"
        refine o_addS (z0.app (Sz.lit _)) (Sz.lit _) (by decide +kernel) ?_
        walk_at "ws"
        refine o_addS ((z0.app (Sz.lit _)).app (Sz.lit _)) (Sz.lit _) (by decide +kernel) ?_
        walk_at "ws"
        refine wE_callB C tr (by walk_at "mem") boot_repr (by rfl) (by rfl) ?_
        walk_at "ws"
        refine c_reprS (Nat.le_trans (deed_sz o) (by decide)) ?_
        refine o_addS (((z0.app (Sz.lit _)).app (Sz.lit _)).app (Sz.lit _)) (deed_sz o) (by decide +kernel) ?_
        walk_at "ws"
        exact ⟨_, _, _, by show _ = [_, some (V.str r.u1), _, _, _, _]; unfold Ru.u1; rw [if_neg c]; rfl, e35⟩
      · walk_at "ws"
        refine wE_callB C T.isinstance (by walk_at "mem") boot_isinstance (by rfl) (by rfl) ?_
        walk_at "ws"
        refine wE_bltn (v := .ty "bool") C T.bool (by walk_at "mem") boot_bool rfl ?_
        walk_at "ws"
        refine c_isi C (.ty "bool") (.base (.str _)) kb_sb ?_
        walk_at "ws"
        refine wE_callB C T.isinstance (by walk_at "mem") boot_isinstance (by rfl) (by rfl) ?_
        walk_at "ws"
        refine wE_bltn (v := .ty "bool") C T.bool (by walk_at "mem") boot_bool rfl ?_
        walk_at "ws"
        refine c_isi C (.ty "bool") (.base (.str _)) kb_sb ?_
        refine o_neFF ?_
        walk_at "ws"
        exact ⟨_, _, _, by show _ = [_, some (V.str r.u1), _, _, _, _]; unfold Ru.u1; rw [if_pos (Decidable.of_not_not c)]; rfl, e35⟩
    · obtain rfl : V.str "bound" = x := Option.some.inj hx
      obtain rfl : V.int r.bound = y := Option.some.inj hy
      obtain rfl : V.int 0 = u := Option.some.inj hu
      refine wG_tup C (SqT.of g5) rfl rfl ?_
      walk_at "ws"
      refine wS_if ?_
      walk_at "ws"
      refine iteD (fun c => ?_) (fun c => ?_)
      · walk_at "ws"
        refine o_addS z1 (Sz.lit _) (by decide +kernel) ?_
        walk_at "ws"
        refine o_addS (z1.app (Sz.lit _)) (Sz.lit _) (by decide +kernel) ?_
        walk_at "ws"
        refine o_addS ((z1.app (Sz.lit _)).app (Sz.lit _)) (Sz.lit _) (by decide +kernel) ?_
        walk_at "ws"
        refine wE_callB C tr (by walk_at "mem") boot_repr (by rfl) (by rfl) ?_
        walk_at "ws"
        refine c_reprI (log_le b1 (by omega)) ?_
        refine o_addS (((z1.app (Sz.lit _)).app (Sz.lit _)).app (Sz.lit _)) (show Sz (Str.ofString (toString r.bound)) 20 from num_sz b1 (by omega)) (by decide +kernel) ?_
        walk_at "ws"
        exact ⟨_, _, _, by show _ = [_, some (V.str r.u2), _, _, _, _]; unfold Ru.u2; rw [if_neg c]; rfl, e35⟩
      · walk_at "ws"
        refine wE_callB C T.isinstance (by walk_at "mem") boot_isinstance (by rfl) (by rfl) ?_
        walk_at "ws"
        refine wE_bltn (v := .ty "bool") C T.bool (by walk_at "mem") boot_bool rfl ?_
        walk_at "ws"
        refine c_isi C (.ty "bool") (.base (.int _)) kb_ib ?_
        walk_at "ws"
        refine wE_callB C T.isinstance (by walk_at "mem") boot_isinstance (by rfl) (by rfl) ?_
        walk_at "ws"
        refine wE_bltn (v := .ty "bool") C T.bool (by walk_at "mem") boot_bool rfl ?_
        walk_at "ws"
        refine c_isi C (.ty "bool") (.base (.int _)) kb_ib ?_
        refine o_neFF ?_
        walk_at "ws"
        exact ⟨_, _, _, by show _ = [_, some (V.str r.u2), _, _, _, _]; unfold Ru.u2; rw [if_pos (Decidable.of_not_not c)]; rfl, e35⟩
    · obtain rfl : V.str "kind" = x := Option.some.inj hx
      obtain rfl : oS r.kind = y := Option.some.inj hy
      obtain rfl : V.non = u := Option.some.inj hu
      cases hk : r.kind with
      | none =>
        rw [hk] at g5
        have g5 : H5 Tp = some (.tup [.str "kind", .non, .non]) := g5
        refine wG_tup C (SqT.of g5) rfl rfl ?_
        walk_at "ws"
        refine wS_if ?_
        walk_at "ws"
        refine o_neN ?_
        walk_at "ws"
        refine wE_callB C T.isinstance (by walk_at "mem") boot_isinstance (by rfl) (by rfl) ?_
        walk_at "ws"
        refine wE_bltn (v := .ty "bool") C T.bool (by walk_at "mem") boot_bool rfl ?_
        walk_at "ws"
        refine c_isi C (.ty "bool") (.base .non) kb_nb ?_
        walk_at "ws"
        refine wE_callB C T.isinstance (by walk_at "mem") boot_isinstance (by rfl) (by rfl) ?_
        walk_at "ws"
        refine wE_bltn (v := .ty "bool") C T.bool (by walk_at "mem") boot_bool rfl ?_
        walk_at "ws"
        refine c_isi C (.ty "bool") (.base .non) kb_nb ?_
        refine o_neFF ?_
        walk_at "ws"
        exact ⟨_, _, _, by show _ = [_, some (V.str r.u3), _, _, _, _]; unfold Ru.u3; rw [hk]; rfl, e35⟩
      | some z =>
        rw [hk] at g5
        have g5 : H5 Tp = some (.tup [.str "kind", .str z, .non]) := g5
        refine wG_tup C (SqT.of g5) rfl rfl ?_
        walk_at "ws"
        refine wS_if ?_
        walk_at "ws"
        refine o_neSN ?_
        walk_at "ws"
        refine o_addS z2 (Sz.lit _) (by decide +kernel) ?_
        walk_at "ws"
        refine o_addS (z2.app (Sz.lit _)) (Sz.lit _) (by decide +kernel) ?_
        walk_at "ws"
        refine o_addS ((z2.app (Sz.lit _)).app (Sz.lit _)) (Sz.lit _) (by decide +kernel) ?_
        walk_at "ws"
        refine wE_callB C tr (by walk_at "mem") boot_repr (by rfl) (by rfl) ?_
        walk_at "ws"
        refine c_reprS (Nat.le_trans (kind_sz (o.kind z hk)) (by decide)) ?_
        refine o_addS (((z2.app (Sz.lit _)).app (Sz.lit _)).app (Sz.lit _)) (kind_sz (o.kind z hk)) (by decide +kernel) ?_
        walk_at "ws"
        exact ⟨_, _, _, by show _ = [_, some (V.str r.u3), _, _, _, _]; unfold Ru.u3; rw [hk]; rfl, e35⟩
    · obtain rfl : V.str "town" = x := Option.some.inj hx
      obtain rfl : oI r.town = y := Option.some.inj hy
      obtain rfl : V.non = u := Option.some.inj hu
      cases hk : r.town with
      | none =>
        rw [hk] at g5
        have g5 : H5 Tp = some (.tup [.str "town", .non, .non]) := g5
        refine wG_tup C (SqT.of g5) rfl rfl ?_
        walk_at "ws"
        refine wS_if ?_
        walk_at "ws"
        refine o_neN ?_
        walk_at "ws"
        refine wE_callB C T.isinstance (by walk_at "mem") boot_isinstance (by rfl) (by rfl) ?_
        walk_at "ws"
        refine wE_bltn (v := .ty "bool") C T.bool (by walk_at "mem") boot_bool rfl ?_
        walk_at "ws"
        refine c_isi C (.ty "bool") (.base .non) kb_nb ?_
        walk_at "ws"
        refine wE_callB C T.isinstance (by walk_at "mem") boot_isinstance (by rfl) (by rfl) ?_
        walk_at "ws"
        refine wE_bltn (v := .ty "bool") C T.bool (by walk_at "mem") boot_bool rfl ?_
        walk_at "ws"
        refine c_isi C (.ty "bool") (.base .non) kb_nb ?_
        refine o_neFF ?_
        walk_at "ws"
        exact ⟨_, _, _, by show _ = [_, some (V.str r.u4), _, _, _, _]; unfold Ru.u4; rw [hk]; rfl, e35⟩
      | some z =>
        rw [hk] at g5
        have g5 : H5 Tp = some (.tup [.str "town", .int z, .non]) := g5
        refine wG_tup C (SqT.of g5) rfl rfl ?_
        walk_at "ws"
        refine wS_if ?_
        walk_at "ws"
        refine o_neIN ?_
        walk_at "ws"
        refine o_addS z3 (Sz.lit _) (by decide +kernel) ?_
        walk_at "ws"
        refine o_addS (z3.app (Sz.lit _)) (Sz.lit _) (by decide +kernel) ?_
        walk_at "ws"
        refine o_addS ((z3.app (Sz.lit _)).app (Sz.lit _)) (Sz.lit _) (by decide +kernel) ?_
        walk_at "ws"
        refine wE_callB C tr (by walk_at "mem") boot_repr (by rfl) (by rfl) ?_
        walk_at "ws"
        have hz := o.town z hk
        refine c_reprI (log_le hz.1 (by omega)) ?_
        refine o_addS (((z3.app (Sz.lit _)).app (Sz.lit _)).app (Sz.lit _)) (show Sz (Str.ofString (toString z)) 20 from num_sz hz.1 (by omega)) (by decide +kernel) ?_
        walk_at "ws"
        exact ⟨_, _, _, by show _ = [_, some (V.str r.u4), _, _, _, _]; unfold Ru.u4; rw [hk]; rfl, e35⟩
    · obtain rfl : V.str "first" = x := Option.some.inj hx
      obtain rfl : V.int r.first = y := Option.some.inj hy
      obtain rfl : V.int 0 = u := Option.some.inj hu
      refine wG_tup C (SqT.of g5) rfl rfl ?_
      walk_at "ws"
      refine wS_if ?_
      walk_at "ws"
      refine iteD (fun c => ?_) (fun c => ?_)
      · walk_at "ws"
        refine o_addS z4 (Sz.lit _) (by decide +kernel) ?_
        walk_at "ws"
        refine o_addS (z4.app (Sz.lit _)) (Sz.lit _) (by decide +kernel) ?_
        walk_at "ws"
        refine o_addS ((z4.app (Sz.lit _)).app (Sz.lit _)) (Sz.lit _) (by decide +kernel) ?_
        walk_at "ws"
        refine wE_callB C tr (by walk_at "mem") boot_repr (by rfl) (by rfl) ?_
        walk_at "ws"
        refine c_reprI (log_le f1 (by omega)) ?_
        refine o_addS (((z4.app (Sz.lit _)).app (Sz.lit _)).app (Sz.lit _)) (show Sz (Str.ofString (toString r.first)) 20 from num_sz f1 (by omega)) (by decide +kernel) ?_
        walk_at "ws"
        exact ⟨_, _, _, by show _ = [_, some (V.str r.u5), _, _, _, _]; unfold Ru.u5; rw [if_neg c]; rfl, e35⟩
      · walk_at "ws"
        refine wE_callB C T.isinstance (by walk_at "mem") boot_isinstance (by rfl) (by rfl) ?_
        walk_at "ws"
        refine wE_bltn (v := .ty "bool") C T.bool (by walk_at "mem") boot_bool rfl ?_
        walk_at "ws"
        refine c_isi C (.ty "bool") (.base (.int _)) kb_ib ?_
        walk_at "ws"
        refine wE_callB C T.isinstance (by walk_at "mem") boot_isinstance (by rfl) (by rfl) ?_
        walk_at "ws"
        refine wE_bltn (v := .ty "bool") C T.bool (by walk_at "mem") boot_bool rfl ?_
        walk_at "ws"
        refine c_isi C (.ty "bool") (.base (.int _)) kb_ib ?_
        refine o_neFF ?_
        walk_at "ws"
        exact ⟨_, _, _, by show _ = [_, some (V.str r.u5), _, _, _, _]; unfold Ru.u5; rw [if_pos (Decidable.of_not_not c)]; rfl, e35⟩
    · obtain rfl : V.str "last" = x := Option.some.inj hx
      obtain rfl : V.int r.last = y := Option.some.inj hy
      obtain rfl : V.int 59 = u := Option.some.inj hu
      refine wG_tup C (SqT.of g5) rfl rfl ?_
      walk_at "ws"
      refine wS_if ?_
      walk_at "ws"
      refine iteD (fun c => ?_) (fun c => ?_)
      · walk_at "ws"
        refine o_addS z5 (Sz.lit _) (by decide +kernel) ?_
        walk_at "ws"
        refine o_addS (z5.app (Sz.lit _)) (Sz.lit _) (by decide +kernel) ?_
        walk_at "ws"
        refine o_addS ((z5.app (Sz.lit _)).app (Sz.lit _)) (Sz.lit _) (by decide +kernel) ?_
        walk_at "ws"
        refine wE_callB C tr (by walk_at "mem") boot_repr (by rfl) (by rfl) ?_
        walk_at "ws"
        refine c_reprI (log_le (by omega) (by omega)) ?_
        refine o_addS (((z5.app (Sz.lit _)).app (Sz.lit _)).app (Sz.lit _)) (show Sz (Str.ofString (toString r.last)) 20 from num_sz (by omega) (by omega)) (by decide +kernel) ?_
        walk_at "ws"
        exact ⟨_, _, _, by show _ = [_, some (V.str r.u6), _, _, _, _]; unfold Ru.u6; rw [if_neg c]; rfl, e35⟩
      · walk_at "ws"
        refine wE_callB C T.isinstance (by walk_at "mem") boot_isinstance (by rfl) (by rfl) ?_
        walk_at "ws"
        refine wE_bltn (v := .ty "bool") C T.bool (by walk_at "mem") boot_bool rfl ?_
        walk_at "ws"
        refine c_isi C (.ty "bool") (.base (.int _)) kb_ib ?_
        walk_at "ws"
        refine wE_callB C T.isinstance (by walk_at "mem") boot_isinstance (by rfl) (by rfl) ?_
        walk_at "ws"
        refine wE_bltn (v := .ty "bool") C T.bool (by walk_at "mem") boot_bool rfl ?_
        walk_at "ws"
        refine c_isi C (.ty "bool") (.base (.int _)) kb_ib ?_
        refine o_neFF ?_
        walk_at "ws"
        exact ⟨_, _, _, by show _ = [_, some (V.str r.u6), _, _, _, _]; unfold Ru.u6; rw [if_pos (Decidable.of_not_not c)]; rfl, e35⟩
    · obtain rfl : V.str "over" = x := Option.some.inj hx
      obtain rfl : V.int r.over = y := Option.some.inj hy
      obtain rfl : V.int 0 = u := Option.some.inj hu
      refine wG_tup C (SqT.of g5) rfl rfl ?_
      walk_at "ws"
      refine wS_if ?_
      walk_at "ws"
      refine iteD (fun c => ?_) (fun c => ?_)
      · walk_at "ws"
        refine o_addS z6 (Sz.lit _) (by decide +kernel) ?_
        walk_at "ws"
        refine o_addS (z6.app (Sz.lit _)) (Sz.lit _) (by decide +kernel) ?_
        walk_at "ws"
        refine o_addS ((z6.app (Sz.lit _)).app (Sz.lit _)) (Sz.lit _) (by decide +kernel) ?_
        walk_at "ws"
        refine wE_callB C tr (by walk_at "mem") boot_repr (by rfl) (by rfl) ?_
        walk_at "ws"
        refine c_reprI (log_le o1 (by omega)) ?_
        refine o_addS (((z6.app (Sz.lit _)).app (Sz.lit _)).app (Sz.lit _)) (show Sz (Str.ofString (toString r.over)) 20 from num_sz o1 (by omega)) (by decide +kernel) ?_
        walk_at "ws"
        exact ⟨_, _, _, by show _ = [_, some (V.str r.u7), _, _, _, _]; unfold Ru.u7; rw [if_neg c]; rfl, e35⟩
      · walk_at "ws"
        refine wE_callB C T.isinstance (by walk_at "mem") boot_isinstance (by rfl) (by rfl) ?_
        walk_at "ws"
        refine wE_bltn (v := .ty "bool") C T.bool (by walk_at "mem") boot_bool rfl ?_
        walk_at "ws"
        refine c_isi C (.ty "bool") (.base (.int _)) kb_ib ?_
        walk_at "ws"
        refine wE_callB C T.isinstance (by walk_at "mem") boot_isinstance (by rfl) (by rfl) ?_
        walk_at "ws"
        refine wE_bltn (v := .ty "bool") C T.bool (by walk_at "mem") boot_bool rfl ?_
        walk_at "ws"
        refine c_isi C (.ty "bool") (.base (.int _)) kb_ib ?_
        refine o_neFF ?_
        walk_at "ws"
        exact ⟨_, _, _, by show _ = [_, some (V.str r.u7), _, _, _, _]; unfold Ru.u7; rw [if_pos (Decidable.of_not_not c)]; rfl, e35⟩
    · obtain rfl : V.str "paper" = x := Option.some.inj hx
      obtain rfl : oB r.paper = y := Option.some.inj hy
      obtain rfl : V.non = u := Option.some.inj hu
      cases hk : r.paper with
      | none =>
        rw [hk] at g5
        have g5 : H5 Tp = some (.tup [.str "paper", .non, .non]) := g5
        refine wG_tup C (SqT.of g5) rfl rfl ?_
        walk_at "ws"
        refine wS_if ?_
        walk_at "ws"
        refine o_neN ?_
        walk_at "ws"
        refine wE_callB C T.isinstance (by walk_at "mem") boot_isinstance (by rfl) (by rfl) ?_
        walk_at "ws"
        refine wE_bltn (v := .ty "bool") C T.bool (by walk_at "mem") boot_bool rfl ?_
        walk_at "ws"
        refine c_isi C (.ty "bool") (.base .non) kb_nb ?_
        walk_at "ws"
        refine wE_callB C T.isinstance (by walk_at "mem") boot_isinstance (by rfl) (by rfl) ?_
        walk_at "ws"
        refine wE_bltn (v := .ty "bool") C T.bool (by walk_at "mem") boot_bool rfl ?_
        walk_at "ws"
        refine c_isi C (.ty "bool") (.base .non) kb_nb ?_
        refine o_neFF ?_
        walk_at "ws"
        exact ⟨_, _, _, by show _ = [_, some (V.str r.u8), _, _, _, _]; unfold Ru.u8; rw [hk]; rfl, e35⟩
      | some z =>
        rw [hk] at g5
        have g5 : H5 Tp = some (.tup [.str "paper", .bl z, .non]) := g5
        refine wG_tup C (SqT.of g5) rfl rfl ?_
        walk_at "ws"
        refine wS_if ?_
        walk_at "ws"
        refine o_neBN ?_
        walk_at "ws"
        refine o_addS z7 (Sz.lit _) (by decide +kernel) ?_
        walk_at "ws"
        refine o_addS (z7.app (Sz.lit _)) (Sz.lit _) (by decide +kernel) ?_
        walk_at "ws"
        refine o_addS ((z7.app (Sz.lit _)).app (Sz.lit _)) (Sz.lit _) (by decide +kernel) ?_
        walk_at "ws"
        refine wE_callB C tr (by walk_at "mem") boot_repr (by rfl) (by rfl) ?_
        walk_at "ws"
        refine c_reprB ?_
        refine o_addS (((z7.app (Sz.lit _)).app (Sz.lit _)).app (Sz.lit _)) (bool_sz z) (by decide +kernel) ?_
        walk_at "ws"
        exact ⟨_, _, _, by show _ = [_, some (V.str r.u8), _, _, _, _]; unfold Ru.u8; rw [hk]; rfl, e35⟩
    · exact absurd hx (by simp)
  · rintro σ H' ⟨y1, y2, y3, rfl, e4⟩
    walk_at "ws"
    show wO X _ (.str r.u8) (.str ")") _ _
    refine o_addS z8 (Sz.lit _) (by decide +kernel) ?_
    rw [shown_eq]
    exact q _ (ea.trans e4)
end
def spOdd : Sp := fun vs H Q _ => ∃ (b : Addr) (n m : Int), vs = [.ref b] ∧ H b = some (.lst [.int n, .int m]) ∧ ∀ v T n' m' H', Thg H' v T → H' b = some (.lst [.int n', .int m']) → Exb b H H' → Q v H'
section
variable {P : Program} {w : World} {K : PySem.W.Frag} {mg : Str → Option Value} {base : Heap} {f C0 : Addr} {fd : FuncData}
theorem p_odd (F : Fn K "_law_odd" "_law_odd" s__law_odd f fd) (DT : Df P w K mg base 2 "_law_take" ["_law_box_here", "_law_count"] [] spTake) : FnOk P w K mg base CX0 3 f fd ["_law_box_here"] spOdd := by
  refine fn_w F sc__law_odd ok__law_odd (fun vs H Q E h => by obtain ⟨b, n, m, rfl, hb, q⟩ := h; rfl) (fun X vs H Q E C h => ?_)
  obtain ⟨b, n, m, rfl, hb, q⟩ := h
  show wB X _ _ [some (.ref b), none] H
  first | refine wB_one ?_ | refine wB_cons' fun _ _ => ?_
  walk_at "ws"
  refine wE_un ?_
  walk_at "ws"
  refine o_neg ?_
  walk_at "ws"
  refine o_pow (by decide) (by decide) (by decide) ?_
  walk_at "ws"
  refine ⟨(by show 0 ≤ sizeLine; decide), fun p1 H1 hp1 e1 g1 => ?_⟩
  walk_at "ws"
  refine ⟨(by show 0 ≤ sizeLine; decide), fun p2 H2 hp2 e2 g2 => ?_⟩
  walk_at "ws"
  refine wE_dnewK fun p3 H3 hp3 e3 g3 => ?_
  walk_at "ws"
  refine ⟨(by show 1 ≤ sizeLine; decide), fun p4 H4 hp4 e4 g4 => ?_⟩
  walk_at "ws"
  refine ⟨(by show 1 ≤ sizeLine; decide), fun p5 H5 hp5 e5 g5 => ?_⟩
  walk_at "ws"
  refine ⟨(by show 18 ≤ sizeLine; decide), fun p6 H6 hp6 e6 g6 => ?_⟩
  walk_at "ws"
  refine ⟨(by show 1 ≤ sizeLine; decide), fun p7 H7 hp7 e7 g7 => ?_⟩
  walk_at "ws"
  refine wE_disp1 fun p8 H8 hp8 e8 g8 => ?_
  walk_at "ws"
  refine ⟨g8, .inl 0, rfl, fun H9 e9 g9 => ?_⟩
  walk_at "ws"
  refine ⟨(by show 2 ≤ sizeLine; decide), fun p10 H10 hp10 e10 g10 => ?_⟩
  walk_at "ws"
  have e79 : Ex H7 H9 := e8.mut hp8 e9
  have l6 := e10 _ _ (e79 _ _ (e7 _ _ g6))
  refine o_catL l6 g10 (by show 18 + 2 ≤ sizeLine; decide) fun p11 H11 hp11 e11 g11 => ?_
  have e6a : Ex H6 H11 := ((e7.trans e79).trans e10).trans e11
  have x1 := e6a _ _ (e6 _ _ (e5 _ _ (e4 _ _ (e3 _ _ (e2 _ _ g1)))))
  have x2 := e6a _ _ (e6 _ _ (e5 _ _ (e4 _ _ (e3 _ _ g2))))
  have x3 := e6a _ _ (e6 _ _ (e5 _ _ (e4 _ _ g3)))
  have x4 := e6a _ _ (e6 _ _ (e5 _ _ g4))
  have x5 := e6a _ _ (e6 _ _ g5)
  have x7 := e11 _ _ (e10 _ _ (e79 _ _ g7))
  have x9 := e11 _ _ (e10 _ _ g9)
  have ea : Ex H H11 := (((((e1.trans e2).trans e3).trans e4).trans e5).trans e6).trans e6a
  have hb' := ea _ _ hb
  have n1 : p1 ≠ b := ne_fresh hp1 hb
  have n2 : p2 ≠ b := ne_fresh hp2 (e1 _ _ hb)
  have n3 : p3 ≠ b := ne_fresh hp3 (e2 _ _ (e1 _ _ hb))
  have n4 : p4 ≠ b := ne_fresh hp4 (e3 _ _ (e2 _ _ (e1 _ _ hb)))
  have n5 : p5 ≠ b := ne_fresh hp5 (e4 _ _ (e3 _ _ (e2 _ _ (e1 _ _ hb))))
  have hb6 := e6 _ _ (e5 _ _ (e4 _ _ (e3 _ _ (e2 _ _ (e1 _ _ hb)))))
  have n7 : p7 ≠ b := ne_fresh hp7 hb6
  have n8 : p8 ≠ b := ne_fresh hp8 (e7 _ _ hb6)
  have n11 : p11 ≠ b := ne_fresh hp11 (e10 _ _ (e79 _ _ (e7 _ _ hb6)))
  clear hp1 e1 g1 hp2 e2 g2 hp3 e3 g3 hp4 e4 g4 hp5 e5 g5 hp6 e6 g6 hp7 e7 g7 hp8 e8 g8 e9 g9 hp10 e10 g10 e79 l6 hp11 e11 e6a hb6
  walk_at "ws"
  refine wE_call C DT (by walk_at "mem") (by decide) (by rfl) (by rfl) ?_
  walk_at "ws"
  refine ⟨b, _, _, 20, rfl, (by walk_at "hk"), by decide, by decide, fun dA nA mA HA dA0 dA1 hbA exA => ?_⟩
  walk_at "ws"
  have y1 := exA _ _ n1 x1
  have y2 := exA _ _ n2 x2
  have y3 := exA _ _ n3 x3
  have y4 := exA _ _ n4 x4
  have y5 := exA _ _ n5 x5
  have y7 := exA _ _ n7 x7
  have y8 := exA _ _ n8 x9
  have y11 := exA _ _ n11 g11
  obtain ⟨v, hv, T, hT⟩ := pick dA0 (xs := [.non, .bl true, .bl false, .int 0, .int (-1), .int 7, .int 60, .int (1000000 + 1), .int _, .str _, .str _, .str _, .str _, .ref p1, .ref p2, .ref p3, .ref p4, .ref p5] ++ [.ref p7, .ref p8]) (by show dA < 20; exact dA1) (fun v => ∃ T, Thg HA v T)
    (all2 ⟨_, .non⟩ (all2 ⟨_, .bl _⟩ (all2 ⟨_, .bl _⟩ (all2 ⟨_, .int _⟩ (all2 ⟨_, .int _⟩ (all2 ⟨_, .int _⟩ (all2 ⟨_, .int _⟩ (all2 ⟨_, .int _⟩ (all2 ⟨_, .int _⟩
    (all2 ⟨_, .str _⟩ (all2 ⟨_, .str _⟩ (all2 ⟨_, .str _⟩ (all2 ⟨_, .str _⟩ (all2 ⟨_, .tup y1⟩ (all2 ⟨_, .lst y2⟩ (all2 ⟨_, .dct y3⟩ (all2 ⟨_, .tup y4⟩ (all2 ⟨_, .lst y5⟩ (all2 ⟨_, .tup y7⟩ (all1 ⟨_, .dct y8⟩))))))))))))))))))))
  refine i_list C (fun _ _ => rfl) (SqL.of y11) hv ?_
  walk_at "ws"
  exact q v T _ _ HA hT hbA (ea.toB.trans exA)
end
/-- the rows found so far, in the new list at pf -/
def Acc (H0 H : Hp) (pf : Addr) (n : Nat) : Prop := H0 pf = none ∧ Ex H0 H ∧ ∃ (qs : List Addr) (ss : List Ru), qs.length ≤ n ∧ H pf = some (.lst (qs.map V.ref)) ∧ Paired (fun q (s : Ru) => H q = some (.tup s.vs)) qs ss ∧ ∀ s ∈ ss, s.Ok
theorem paired_snoc {α β : Type} {R : α → β → Prop} {a : α} {b : β} : ∀ {xs : List α} {ys : List β}, Paired R xs ys → R a b → Paired R (xs ++ [a]) (ys ++ [b])
  | _, _, .nil, h => .cons h .nil
  | _, _, .cons z t, h => .cons z (paired_snoc t h)
theorem Acc.more {H0 H1 H2 H3 : Hp} {pf q : Addr} {n : Nat} {qs : List Addr} {ss : List Ru} {s : Ru} (h0 : H0 pf = none) (e0 : Ex H0 H1) (hl : qs.length ≤ n) (g : H1 pf = some (.lst (qs.map V.ref))) (p : Paired (fun q (s : Ru) => H1 q = some (.tup s.vs)) qs ss) (ok : ∀ s ∈ ss, s.Ok)
    (e : Ex H1 H2) (gq : H2 q = some (.tup s.vs)) (so : s.Ok) (eb : Exb pf H2 H3) (g3 : H3 pf = some (.lst (qs.map V.ref ++ [.ref q]))) : Acc H0 H3 pf (n + 1) := by
  have tp : ∀ {a : Addr} {xs : List V}, H2 a = some (.tup xs) → a ≠ pf := fun {a xs} h z => by rw [z, e _ _ g] at h; cases h
  refine ⟨h0, (e0.trans e).mut h0 eb, qs ++ [q], ss ++ [s], by rw [List.length_append, List.length_singleton]; omega, by rw [List.map_append]; exact g3, paired_snoc (Paired.mapP p fun a c z => ?_) ?_, fun x hx => ?_⟩
  · exact eb _ _ (tp (e _ _ z)) (e _ _ z)
  · exact eb _ _ (tp gq) gq
  · rcases List.mem_append.mp hx with hx | hx
    · exact ok x hx
    · rw [List.mem_singleton.mp hx]; exact so
theorem paired_app {α β : Type} {R : α → β → Prop} : ∀ {xs : List α} {ys : List β} {us : List α} {vs : List β}, Paired R xs ys → Paired R us vs → Paired R (xs ++ us) (ys ++ vs)
  | _, _, _, _, .nil, h => h
  | _, _, _, _, .cons z t, h => .cons z (paired_app t h)
theorem iteND {p A B : Prop} [Decidable p] (h1 : p → B) (h2 : ¬ p → A) : if (!decide p) = true then A else B := by
  by_cases h : p
  · rw [decide_eq_true h]; exact iteF (h1 h)
  · rw [decide_eq_false h]; exact iteT (h2 h)
theorem Acc.mono {H0 H : Hp} {pf : Addr} {n m : Nat} (h : Acc H0 H pf n) (k : n ≤ m) : Acc H0 H pf m := by
  obtain ⟨a, b, qs, ss, c, d, e, f⟩ := h
  exact ⟨a, b, qs, ss, Nat.le_trans c k, d, e, f⟩
def spOthers : Sp := fun vs H Q _ => ∃ (t : Addr) (r : Ru), vs = [.ref t] ∧ H t = some (.tup r.vs) ∧ r.Ok ∧ ∀ p H', Acc H H' p 20 → Q (.ref p) H'
section
variable {X : Cx} {H : Hp} {Q : VK}
theorem o_neOS {x : Option Str} {y : Str} (q : Q (.bl (decide (x ≠ some y))) H) : wO X (compareOp .NotEq) (oS x) (.str y) H Q :=
  wO.of op_ne ⟨by cases x <;> rfl, by rw [show (!decide (oS x = V.str y)) = decide (x ≠ some y) by cases x <;> simp [oS]]; exact q⟩
theorem o_neOI {x : Option Int} {y : Int} (q : Q (.bl (decide (x ≠ some y))) H) : wO X (compareOp .NotEq) (oI x) (.int y) H Q :=
  wO.of op_ne ⟨by cases x <;> rfl, by rw [show (!decide (oI x = V.int y)) = decide (x ≠ some y) by cases x <;> simp [oI]]; exact q⟩
theorem o_eqOI1 {x : Option Int} {y : Int} (q : Q (.bl (decide (x = some y))) H) : wO X (compareOp .Eq) (oI x) (.int y) H Q :=
  wO.of op_eq ⟨by cases x <;> rfl, by rw [show decide (oI x = V.int y) = decide (x = some y) by cases x <;> simp [oI]]; exact q⟩
theorem o_notOB {x : Option Bool} {b : Bool} (q : Q (.bl (!decide (x = some b))) H) : wO X (compareOp .IsNot) (oB x) (.bl b) H Q := by
  cases x with
  | some a => exact o_notB (by rw [show decide (a = b) = decide (some a = some b) by simp]; exact q)
  | none =>
    refine ⟨fun pins s σ v u I rx ry => ?_⟩
    obtain rfl : v = Value.none := rx
    obtain rfl : u = Value.bool b := ry
    exact wpAny_isNot_other rfl (fun z => nomatch z) ⟨.bl true, H, I, rfl, by simpa using q⟩
theorem ite_ss {p : Prop} [Decidable p] {a b : Str} {j j' : Nat} {p1 p2 : Pos} {σ : L2.St} (q : Q (.str (if p then a else b)) H) : if decide p = true then wE X (.Constant (.str a) j p1) σ H Q else wE X (.Constant (.str b) j' p2) σ H Q := by
  by_cases h : p
  · rw [if_pos h] at q; rw [decide_eq_true h]; exact iteT (wE_str q)
  · rw [if_neg h] at q; rw [decide_eq_false h]; exact iteF (wE_str q)
/-- a truth or None, asked as a test -/
theorem wT_oB {x : Option Bool} {e : Expr} {σ : L2.St} {QB : Bool → Hp → Prop} (he : ∀ whole, isTrue e X.env whole = (do let v ← whole; standAt e.pos; holding [v] (truthy v))) (q : wE X e σ H fun y H1 => y = oB x ∧ QB (decide (x = some true)) H1) : wT X e σ H QB := by
  refine wT_truth he ?_
  refine ⟨fun pins s I => thn (q.run pins s I) ?_⟩
  rintro u s1 ⟨y, H1, I1, r1, rfl, q1⟩
  refine ⟨_, H1, I1, r1, decide (x = some true), ?_, q1⟩
  cases x with
  | none => show decide (none = some true) = false; rfl
  | some b => show decide (some b = some true) = b; cases b <;> rfl
end
section
variable {P : Program} {w : World} {K : PySem.W.Frag} {mg : Str → Option Value} {base : Heap} {k : Nat} {N Vz Sz' G : List Str} {sc : Scope} {X : Cx} {H : Hp} {Q : VK} {v : V}
theorem o_inL0 {ad : Addr} {xs : List V} (I : CxI P w K mg base k N Vz Sz' G sc X) (h : SqL K H ad xs) (h1 : flatV v = true) (h2 : xs.all flatV = true) (q : Q (.bl (inV v xs)) H) : wO X (compareOp .In) v (.ref ad) H Q :=
  wO.of op_in_seq ⟨ad, xs, rfl, .inl (by rw [I.eK]; exact h), h1, h2, q⟩
end
section
variable {P : Program} {w : World} {K : PySem.W.Frag} {mg : Str → Option Value} {base : Heap} {f C0 : Addr} {fd : FuncData}
theorem p_others (F : Fn K "_law_others" "_law_others" s__law_others f fd) (T : Txt K mg) : FnOk P w K mg base CX0 1 f fd ["_law_row"] spOthers := by
  refine fn_w F sc__law_others ok__law_others (fun vs H Q E h => by obtain ⟨t, r, rfl, ht, o, q⟩ := h; rfl) (fun X vs H Q E C h => ?_)
  obtain ⟨t, r, rfl, ht, o, q⟩ := h
  show wB X _ _ [some (.ref t), none, none, none, none, none, none, none, none, none, none] H
  first | refine wB_one ?_ | refine wB_cons' fun _ _ => ?_
  walk_at "ws"
  have f1 := o.f1; have f2 := o.f2; have l2 := o.l2; have o1 := o.o1; have o2 := o.o2; have b1 := o.b1; have b2 := o.b2; have bm := mostB_le r.deed
  have n1 := o.n1; have n2 := o.n2
  have ht0 : H t = some (.tup [.str r.name, .str r.deed, .int r.bound, oS r.kind, oI r.town, .int r.first, .int r.last, .int r.over, oB r.paper]) := ht
  refine slq_i (ys := [.str r.name, .str r.deed, .int r.bound]) (SqT.of ht0) (by show ¬(HT.sIx 9 0 none = 0 ∧ HT.sIx 9 9 (some 3) = 9); decide +kernel) rfl fun pa Ha hpa ea ga => ?_
  refine wG_tup C (SqT.of ga) rfl rfl ?_
  walk_at "ws"
  have hta := ea _ _ ht0
  refine slq_i (ys := [oS r.kind, oI r.town, .int r.first, .int r.last, .int r.over, oB r.paper]) (SqT.of hta) (by show ¬(HT.sIx 9 0 (some 3) = 0 ∧ HT.sIx 9 9 none = 9); decide +kernel) rfl fun pb Hb hpb eb gb => ?_
  refine wG_tup C (SqT.of gb) rfl rfl ?_
  walk_at "ws"
  have htb := eb _ _ hta
  have E0 : Ex H Hb := ea.trans eb
  clear hpa ea ga hta hpb eb gb
  rw [show ("z" : Str) = ⟨#[122]⟩ from by decide +kernel]
  refine wE_callB C T.len (by walk_at "mem") boot_len (by rfl) (by rfl) ?_
  walk_at "ws"
  refine c_lenS (Nat.le_trans n2 (by decide)) ?_
  walk_at "ws"
  refine o_mulS (by omega) (by omega) ?_
  walk_at "ws"
  refine ⟨(by show 1 ≤ sizeLine; decide), fun p1 H1 hp1 e1 g1 => ?_⟩
  walk_at "ws"
  refine slq_i (ys := [.str r.deed, .int r.bound, oS r.kind, oI r.town, .int r.first, .int r.last, .int r.over, oB r.paper]) (SqT.of (e1 _ _ htb)) (by show ¬(HT.sIx 9 0 (some 1) = 0 ∧ HT.sIx 9 9 none = 9); decide +kernel) rfl fun p2 H2 hp2 e2 g2 => ?_
  refine o_catT C (SqT.of (e2 _ _ g1)) (SqT.of g2) (by rw [sizeLine_eq]; simp) (by simp) (by simp) fun p3 H3 hp3 e3 g3 => ?_
  have E3 : Ex Hb H3 := (e1.trans e2).trans e3
  clear hp1 e1 g1 hp2 e2 g2 hp3 e3
  walk_at "ws"
  refine o_neS ?_
  walk_at "ws"
  have so1 : (⟨⟨(List.replicate ((9 : Int) - (r.name.length : Int)).toNat 122).toArray⟩, r.deed, r.bound, r.kind, r.town, r.first, r.last, r.over, r.paper⟩ : Ru).Ok := by
    have hl : (⟨(List.replicate ((9 : Int) - (r.name.length : Int)).toNat 122).toArray⟩ : Str).length = ((9 : Int) - (r.name.length : Int)).toNat := by show (List.replicate _ _).toArray.size = _; rw [List.size_toArray, List.length_replicate]
    refine ⟨by rw [hl]; omega, by rw [hl]; omega, fun c hc => ?_, o.deed, b1, b2, o.kind, o.town, f1, f2, l2, o1, o2⟩
    have : c = 122 := List.eq_of_mem_replicate (show c ∈ List.replicate _ 122 from by simpa using hc)
    rw [this]; decide +kernel
  have hd2 : inV (.str (if r.deed ≠ "refuse" then ("refuse" : Str) else ("let" : Str))) deedsL = true ∧ mostB (if r.deed ≠ "refuse" then ("refuse" : Str) else ("let" : Str)) = 0 := by
    split <;> exact ⟨by decide +kernel, by decide +kernel⟩
  refine ite_ss ?_
  generalize (if r.deed ≠ "refuse" then ("refuse" : Str) else ("let" : Str)) = d2 at hd2
  walk_at "ws"
  refine ⟨(by show 3 ≤ sizeLine; decide), fun p4 H4 hp4 e4 g4 => ?_⟩
  walk_at "ws"
  refine slq_i (ys := [oS r.kind, oI r.town, .int r.first, .int r.last, .int r.over, oB r.paper]) (SqT.of (e4 _ _ (E3 _ _ htb))) (by show ¬(HT.sIx 9 0 (some 3) = 0 ∧ HT.sIx 9 9 none = 9); decide +kernel) rfl fun p5 H5 hp5 e5 g5 => ?_
  refine o_catT C (SqT.of (e5 _ _ g4)) (SqT.of g5) (by rw [sizeLine_eq]; simp) (by simp) (by simp) fun p6 H6 hp6 e6 g6 => ?_
  walk_at "ws"
  refine ⟨(by show 2 ≤ sizeLine; decide), fun pf H7 hpf e7 g7 => ?_⟩
  walk_at "put"
  have E6 := (e4.trans e5).trans e6
  have A : Acc H H7 pf 2 := ⟨((E0.trans E3).trans E6).free hpf, ((E0.trans E3).trans E6).trans e7, [p3, p6], [⟨_, r.deed, r.bound, r.kind, r.town, r.first, r.last, r.over, r.paper⟩, ⟨r.name, d2, 0, r.kind, r.town, r.first, r.last, r.over, r.paper⟩], by simp, g7, .cons (e7 _ _ (E6 _ _ g3)) (.cons (e7 _ _ g6) .nil), fun s hs => by
    simp only [List.mem_cons, List.not_mem_nil, or_false] at hs
    rcases hs with rfl | rfl
    · exact so1
    · exact ⟨o.n1, o.n2, o.nl, hd2.1, (by show (0 : Int) ≤ 0; decide), (by show (0 : Int) ≤ mostB d2; rw [hd2.2]; decide), o.kind, o.town, f1, f2, l2, o1, o2⟩⟩
  clear E3 g3 so1 hp4 e4 g4 hp5 e5 g5 hp6 e6 g6 hpf e7 g7 E6 htb E0
  refine nx_mk ?_
  refine Nx.go (by assumption) ?_
  refine wB_cons' fun _ _ => ?_
  refine wS_cut (fun σ' H' => σ' = [some (.ref t), some (.str r.name), some (.str r.deed), some (.int r.bound), some (oS r.kind), some (oI r.town), some (.int r.first), some (.int r.last), some (.int r.over), some (oB r.paper), some (.ref pf)] ∧ Acc H H' pf 3) ?_ ?_
  · obtain ⟨h0, eA, qs, ss, lq, gq, pq, okq⟩ := A
    have hta := eA _ _ ht0
    refine wS_expr (by rfl) ?_
    refine wE_append (by rfl) (by rfl) (by rfl) (by rfl) (by rfl) ?_
    walk_at "ws"
    refine ⟨pf, _, rfl, gq, ?_⟩
    walk_at "ws"
    refine slq_i (ys := [.str r.name, .str r.deed, .int r.bound]) (SqT.of hta) (by show ¬(HT.sIx 9 0 none = 0 ∧ HT.sIx 9 9 (some 3) = 9); decide +kernel) rfl fun p1 H2 hp1 e1 g1 => ?_
    walk_at "ws"
    refine o_neOS ?_
    walk_at "ws"
    refine iteD (fun c => ?_) (fun c => ?_)
    · walk_at "ws"
      refine ⟨(by show 1 ≤ sizeLine; decide), fun p2 H3 hp2 e2 g2 => ?_⟩
      walk_at "ws"
      refine o_catT C (SqT.of (e2 _ _ g1)) (SqT.of g2) (by rw [sizeLine_eq]; simp) (by simp) (by simp) fun p3 H4 hp3 e3 g3 => ?_
      walk_at "ws"
      refine slq_i (ys := [oI r.town, .int r.first, .int r.last, .int r.over, oB r.paper]) (SqT.of (e3 _ _ (e2 _ _ (e1 _ _ hta)))) (by show ¬(HT.sIx 9 0 (some 4) = 0 ∧ HT.sIx 9 9 none = 9); decide +kernel) rfl fun p4 H5 hp4 e4 g4 => ?_
      refine o_catT C (SqT.of (e4 _ _ g3)) (SqT.of g4) (by rw [sizeLine_eq]; simp) (by simp) (by simp) fun p5 H6 hp5 e5 g5 => ?_
      have EE := (((e1.trans e2).trans e3).trans e4).trans e5
      refine ⟨EE _ _ gq, by rw [List.length_map, sizeLine_eq]; omega, fun H7 e7 g7 => ?_⟩
      walk_at "ws"
      exact ⟨rfl, Acc.more (s := ⟨r.name, r.deed, r.bound, some "bed", r.town, r.first, r.last, r.over, r.paper⟩) h0 eA lq gq pq okq EE g5 (⟨o.n1, o.n2, o.nl, o.deed, b1, b2, fun z h => (by cases h; decide +kernel), o.town, f1, f2, l2, o1, o2⟩) e7 g7⟩
    · walk_at "ws"
      refine ⟨(by show 1 ≤ sizeLine; decide), fun p2 H3 hp2 e2 g2 => ?_⟩
      walk_at "ws"
      refine o_catT C (SqT.of (e2 _ _ g1)) (SqT.of g2) (by rw [sizeLine_eq]; simp) (by simp) (by simp) fun p3 H4 hp3 e3 g3 => ?_
      walk_at "ws"
      refine slq_i (ys := [oI r.town, .int r.first, .int r.last, .int r.over, oB r.paper]) (SqT.of (e3 _ _ (e2 _ _ (e1 _ _ hta)))) (by show ¬(HT.sIx 9 0 (some 4) = 0 ∧ HT.sIx 9 9 none = 9); decide +kernel) rfl fun p4 H5 hp4 e4 g4 => ?_
      refine o_catT C (SqT.of (e4 _ _ g3)) (SqT.of g4) (by rw [sizeLine_eq]; simp) (by simp) (by simp) fun p5 H6 hp5 e5 g5 => ?_
      have EE := (((e1.trans e2).trans e3).trans e4).trans e5
      refine ⟨EE _ _ gq, by rw [List.length_map, sizeLine_eq]; omega, fun H7 e7 g7 => ?_⟩
      walk_at "ws"
      exact ⟨rfl, Acc.more (s := ⟨r.name, r.deed, r.bound, none, r.town, r.first, r.last, r.over, r.paper⟩) h0 eA lq gq pq okq EE g5 (⟨o.n1, o.n2, o.nl, o.deed, b1, b2, fun z h => (by cases h), o.town, f1, f2, l2, o1, o2⟩) e7 g7⟩
  rintro _ H1 ⟨rfl, A⟩
  refine nx_mk ?_
  refine Nx.go (by assumption) ?_
  refine wB_cons' fun _ _ => ?_
  refine wS_cut (fun σ' H' => σ' = [some (.ref t), some (.str r.name), some (.str r.deed), some (.int r.bound), some (oS r.kind), some (oI r.town), some (.int r.first), some (.int r.last), some (.int r.over), some (oB r.paper), some (.ref pf)] ∧ Acc H H' pf 4) ?_ ?_
  · obtain ⟨h0, eA, qs, ss, lq, gq, pq, okq⟩ := A
    have hta := eA _ _ ht0
    refine wS_expr (by rfl) ?_
    refine wE_append (by rfl) (by rfl) (by rfl) (by rfl) (by rfl) ?_
    walk_at "ws"
    refine ⟨pf, _, rfl, gq, ?_⟩
    walk_at "ws"
    refine slq_i (ys := [.str r.name, .str r.deed, .int r.bound, oS r.kind]) (SqT.of hta) (by show ¬(HT.sIx 9 0 none = 0 ∧ HT.sIx 9 9 (some 4) = 9); decide +kernel) rfl fun p1 H2 hp1 e1 g1 => ?_
    walk_at "ws"
    refine o_neOI ?_
    walk_at "ws"
    refine iteD (fun c => ?_) (fun c => ?_)
    · walk_at "ws"
      refine ⟨(by show 1 ≤ sizeLine; decide), fun p2 H3 hp2 e2 g2 => ?_⟩
      walk_at "ws"
      refine o_catT C (SqT.of (e2 _ _ g1)) (SqT.of g2) (by rw [sizeLine_eq]; simp) (by simp) (by simp) fun p3 H4 hp3 e3 g3 => ?_
      walk_at "ws"
      refine slq_i (ys := [.int r.first, .int r.last, .int r.over, oB r.paper]) (SqT.of (e3 _ _ (e2 _ _ (e1 _ _ hta)))) (by show ¬(HT.sIx 9 0 (some 5) = 0 ∧ HT.sIx 9 9 none = 9); decide +kernel) rfl fun p4 H5 hp4 e4 g4 => ?_
      refine o_catT C (SqT.of (e4 _ _ g3)) (SqT.of g4) (by rw [sizeLine_eq]; simp) (by simp) (by simp) fun p5 H6 hp5 e5 g5 => ?_
      have EE := (((e1.trans e2).trans e3).trans e4).trans e5
      refine ⟨EE _ _ gq, by rw [List.length_map, sizeLine_eq]; omega, fun H7 e7 g7 => ?_⟩
      walk_at "ws"
      exact ⟨rfl, Acc.more (s := ⟨r.name, r.deed, r.bound, r.kind, some 2, r.first, r.last, r.over, r.paper⟩) h0 eA lq gq pq okq EE g5 (⟨o.n1, o.n2, o.nl, o.deed, b1, b2, o.kind, fun z h => (by cases h; decide), f1, f2, l2, o1, o2⟩) e7 g7⟩
    · walk_at "ws"
      refine ⟨(by show 1 ≤ sizeLine; decide), fun p2 H3 hp2 e2 g2 => ?_⟩
      walk_at "ws"
      refine o_catT C (SqT.of (e2 _ _ g1)) (SqT.of g2) (by rw [sizeLine_eq]; simp) (by simp) (by simp) fun p3 H4 hp3 e3 g3 => ?_
      walk_at "ws"
      refine slq_i (ys := [.int r.first, .int r.last, .int r.over, oB r.paper]) (SqT.of (e3 _ _ (e2 _ _ (e1 _ _ hta)))) (by show ¬(HT.sIx 9 0 (some 5) = 0 ∧ HT.sIx 9 9 none = 9); decide +kernel) rfl fun p4 H5 hp4 e4 g4 => ?_
      refine o_catT C (SqT.of (e4 _ _ g3)) (SqT.of g4) (by rw [sizeLine_eq]; simp) (by simp) (by simp) fun p5 H6 hp5 e5 g5 => ?_
      have EE := (((e1.trans e2).trans e3).trans e4).trans e5
      refine ⟨EE _ _ gq, by rw [List.length_map, sizeLine_eq]; omega, fun H7 e7 g7 => ?_⟩
      walk_at "ws"
      exact ⟨rfl, Acc.more (s := ⟨r.name, r.deed, r.bound, r.kind, none, r.first, r.last, r.over, r.paper⟩) h0 eA lq gq pq okq EE g5 (⟨o.n1, o.n2, o.nl, o.deed, b1, b2, o.kind, fun z h => (by cases h), f1, f2, l2, o1, o2⟩) e7 g7⟩
  rintro _ H1 ⟨rfl, A⟩
  refine nx_mk ?_
  refine Nx.go (by assumption) ?_
  refine wB_cons' fun _ _ => ?_
  refine wS_cut (fun σ' H' => σ' = [some (.ref t), some (.str r.name), some (.str r.deed), some (.int r.bound), some (oS r.kind), some (oI r.town), some (.int r.first), some (.int r.last), some (.int r.over), some (oB r.paper), some (.ref pf)] ∧ Acc H H' pf 5) ?_ ?_
  · obtain ⟨h0, eA, qs, ss, lq, gq, pq, okq⟩ := A
    have hta := eA _ _ ht0
    refine wS_expr (by rfl) ?_
    refine wE_append (by rfl) (by rfl) (by rfl) (by rfl) (by rfl) ?_
    walk_at "ws"
    refine ⟨pf, _, rfl, gq, ?_⟩
    walk_at "ws"
    refine slq_i (ys := [.str r.name, .str r.deed, .int r.bound, oS r.kind]) (SqT.of hta) (by show ¬(HT.sIx 9 0 none = 0 ∧ HT.sIx 9 9 (some 4) = 9); decide +kernel) rfl fun p1 H2 hp1 e1 g1 => ?_
    walk_at "ws"
    refine o_eqOI1 ?_
    walk_at "ws"
    refine iteD (fun c => ?_) (fun c => ?_)
    · walk_at "ws"
      refine ⟨(by show 1 ≤ sizeLine; decide), fun p2 H3 hp2 e2 g2 => ?_⟩
      walk_at "ws"
      refine o_catT C (SqT.of (e2 _ _ g1)) (SqT.of g2) (by rw [sizeLine_eq]; simp) (by simp) (by simp) fun p3 H4 hp3 e3 g3 => ?_
      walk_at "ws"
      refine slq_i (ys := [.int r.first, .int r.last, .int r.over, oB r.paper]) (SqT.of (e3 _ _ (e2 _ _ (e1 _ _ hta)))) (by show ¬(HT.sIx 9 0 (some 5) = 0 ∧ HT.sIx 9 9 none = 9); decide +kernel) rfl fun p4 H5 hp4 e4 g4 => ?_
      refine o_catT C (SqT.of (e4 _ _ g3)) (SqT.of g4) (by rw [sizeLine_eq]; simp) (by simp) (by simp) fun p5 H6 hp5 e5 g5 => ?_
      have EE := (((e1.trans e2).trans e3).trans e4).trans e5
      refine ⟨EE _ _ gq, by rw [List.length_map, sizeLine_eq]; omega, fun H7 e7 g7 => ?_⟩
      walk_at "ws"
      exact ⟨rfl, Acc.more (s := ⟨r.name, r.deed, r.bound, r.kind, none, r.first, r.last, r.over, r.paper⟩) h0 eA lq gq pq okq EE g5 (⟨o.n1, o.n2, o.nl, o.deed, b1, b2, o.kind, fun z h => (by cases h), f1, f2, l2, o1, o2⟩) e7 g7⟩
    · walk_at "ws"
      refine ⟨(by show 1 ≤ sizeLine; decide), fun p2 H3 hp2 e2 g2 => ?_⟩
      walk_at "ws"
      refine o_catT C (SqT.of (e2 _ _ g1)) (SqT.of g2) (by rw [sizeLine_eq]; simp) (by simp) (by simp) fun p3 H4 hp3 e3 g3 => ?_
      walk_at "ws"
      refine slq_i (ys := [.int r.first, .int r.last, .int r.over, oB r.paper]) (SqT.of (e3 _ _ (e2 _ _ (e1 _ _ hta)))) (by show ¬(HT.sIx 9 0 (some 5) = 0 ∧ HT.sIx 9 9 none = 9); decide +kernel) rfl fun p4 H5 hp4 e4 g4 => ?_
      refine o_catT C (SqT.of (e4 _ _ g3)) (SqT.of g4) (by rw [sizeLine_eq]; simp) (by simp) (by simp) fun p5 H6 hp5 e5 g5 => ?_
      have EE := (((e1.trans e2).trans e3).trans e4).trans e5
      refine ⟨EE _ _ gq, by rw [List.length_map, sizeLine_eq]; omega, fun H7 e7 g7 => ?_⟩
      walk_at "ws"
      exact ⟨rfl, Acc.more (s := ⟨r.name, r.deed, r.bound, r.kind, some 0, r.first, r.last, r.over, r.paper⟩) h0 eA lq gq pq okq EE g5 (⟨o.n1, o.n2, o.nl, o.deed, b1, b2, o.kind, fun z h => (by cases h; decide), f1, f2, l2, o1, o2⟩) e7 g7⟩
  rintro _ H1 ⟨rfl, A⟩
  refine nx_mk ?_
  refine Nx.go (by assumption) ?_
  refine wB_cons' fun _ _ => ?_
  refine wS_cut (fun σ' H' => σ' = [some (.ref t), some (.str r.name), some (.str r.deed), some (.int r.bound), some (oS r.kind), some (oI r.town), some (.int r.first), some (.int r.last), some (.int r.over), some (oB r.paper), some (.ref pf)] ∧ Acc H H' pf 6) ?_ ?_
  · obtain ⟨h0, eA, qs, ss, lq, gq, pq, okq⟩ := A
    have hta := eA _ _ ht0
    refine wS_expr (by rfl) ?_
    refine wE_append (by rfl) (by rfl) (by rfl) (by rfl) (by rfl) ?_
    walk_at "ws"
    refine ⟨pf, _, rfl, gq, ?_⟩
    walk_at "ws"
    refine slq_i (ys := [.str r.name, .str r.deed, .int r.bound, oS r.kind, oI r.town, .int r.first, .int r.last]) (SqT.of hta) (by show ¬(HT.sIx 9 0 none = 0 ∧ HT.sIx 9 9 (some 7) = 9); decide +kernel) rfl fun p1 H2 hp1 e1 g1 => ?_
    walk_at "ws"
    refine o_pow12 ?_
    walk_at "ws"
    refine iteD (fun c => ?_) (fun c => ?_)
    · walk_at "ws"
      refine ⟨(by show 2 ≤ sizeLine; decide), fun p2 H3 hp2 e2 g2 => ?_⟩
      walk_at "ws"
      refine o_catT C (SqT.of (e2 _ _ g1)) (SqT.of g2) (by rw [sizeLine_eq]; simp) (by simp) (by simp) fun p3 H4 hp3 e3 g3 => ?_
      have EE := (e1.trans e2).trans e3
      refine ⟨EE _ _ gq, by rw [List.length_map, sizeLine_eq]; omega, fun H7 e7 g7 => ?_⟩
      walk_at "ws"
      exact ⟨rfl, Acc.more (s := ⟨r.name, r.deed, r.bound, r.kind, r.town, r.first, r.last, r.over + 1, r.paper⟩) h0 eA lq gq pq okq EE g3 (⟨o.n1, o.n2, o.nl, o.deed, b1, b2, o.kind, o.town, f1, f2, l2, (by show 0 ≤ r.over + 1; omega), (by show r.over + 1 ≤ 1000000000000; omega)⟩) e7 g7⟩
    · walk_at "ws"
      refine ⟨(by show 2 ≤ sizeLine; decide), fun p2 H3 hp2 e2 g2 => ?_⟩
      walk_at "ws"
      refine o_catT C (SqT.of (e2 _ _ g1)) (SqT.of g2) (by rw [sizeLine_eq]; simp) (by simp) (by simp) fun p3 H4 hp3 e3 g3 => ?_
      have EE := (e1.trans e2).trans e3
      refine ⟨EE _ _ gq, by rw [List.length_map, sizeLine_eq]; omega, fun H7 e7 g7 => ?_⟩
      walk_at "ws"
      exact ⟨rfl, Acc.more (s := ⟨r.name, r.deed, r.bound, r.kind, r.town, r.first, r.last, 0, r.paper⟩) h0 eA lq gq pq okq EE g3 (⟨o.n1, o.n2, o.nl, o.deed, b1, b2, o.kind, o.town, f1, f2, l2, (by show (0 : Int) ≤ 0; decide), (by show (0 : Int) ≤ 1000000000000; decide)⟩) e7 g7⟩
  rintro _ H1 ⟨rfl, A⟩
  refine nx_mk ?_
  refine Nx.go (by assumption) ?_
  refine wB_cons' fun _ _ => ?_
  refine wS_cut (fun σ' H' => σ' = [some (.ref t), some (.str r.name), some (.str r.deed), some (.int r.bound), some (oS r.kind), some (oI r.town), some (.int r.first), some (.int r.last), some (.int r.over), some (oB r.paper), some (.ref pf)] ∧ Acc H H' pf 7) ?_ ?_
  · obtain ⟨h0, eA, qs, ss, lq, gq, pq, okq⟩ := A
    have hta := eA _ _ ht0
    refine wS_expr (by rfl) ?_
    refine wE_append (by rfl) (by rfl) (by rfl) (by rfl) (by rfl) ?_
    walk_at "ws"
    refine ⟨pf, _, rfl, gq, ?_⟩
    walk_at "ws"
    refine slq_i (ys := [.str r.name, .str r.deed, .int r.bound, oS r.kind, oI r.town, .int r.first, .int r.last, .int r.over]) (SqT.of hta) (by show ¬(HT.sIx 9 0 none = 0 ∧ HT.sIx 9 9 (some 8) = 9); decide +kernel) rfl fun p1 H2 hp1 e1 g1 => ?_
    refine wE_tup ?_
    refine wA_cons (by rfl) ?_
    refine wE_ifexp ?_
    refine wT_oB (x := r.paper) (fun _ => rfl) ?_
    walk_at "ws"
    refine ⟨rfl, ?_⟩
    refine iteD (fun c => ?_) (fun c => ?_)
    · walk_at "ws"
      refine ⟨(by show 1 ≤ sizeLine; decide), fun p2 H3 hp2 e2 g2 => ?_⟩
      walk_at "ws"
      refine o_catT C (SqT.of (e2 _ _ g1)) (SqT.of g2) (by rw [sizeLine_eq]; simp) (by simp) (by simp) fun p3 H4 hp3 e3 g3 => ?_
      have EE := (e1.trans e2).trans e3
      refine ⟨EE _ _ gq, by rw [List.length_map, sizeLine_eq]; omega, fun H7 e7 g7 => ?_⟩
      walk_at "ws"
      exact ⟨rfl, Acc.more (s := ⟨r.name, r.deed, r.bound, r.kind, r.town, r.first, r.last, r.over, none⟩) h0 eA lq gq pq okq EE g3 (⟨o.n1, o.n2, o.nl, o.deed, b1, b2, o.kind, o.town, f1, f2, l2, o1, o2⟩) e7 g7⟩
    · walk_at "ws"
      refine ⟨(by show 1 ≤ sizeLine; decide), fun p2 H3 hp2 e2 g2 => ?_⟩
      walk_at "ws"
      refine o_catT C (SqT.of (e2 _ _ g1)) (SqT.of g2) (by rw [sizeLine_eq]; simp) (by simp) (by simp) fun p3 H4 hp3 e3 g3 => ?_
      have EE := (e1.trans e2).trans e3
      refine ⟨EE _ _ gq, by rw [List.length_map, sizeLine_eq]; omega, fun H7 e7 g7 => ?_⟩
      walk_at "ws"
      exact ⟨rfl, Acc.more (s := ⟨r.name, r.deed, r.bound, r.kind, r.town, r.first, r.last, r.over, some true⟩) h0 eA lq gq pq okq EE g3 (⟨o.n1, o.n2, o.nl, o.deed, b1, b2, o.kind, o.town, f1, f2, l2, o1, o2⟩) e7 g7⟩
  rintro _ H1 ⟨rfl, A⟩
  refine nx_mk ?_
  refine Nx.go (by assumption) ?_
  refine wB_cons' fun _ _ => ?_
  refine wS_cut (fun σ' H' => σ' = [some (.ref t), some (.str r.name), some (.str r.deed), some (.int r.bound), some (oS r.kind), some (oI r.town), some (.int r.first), some (.int r.last), some (.int r.over), some (oB r.paper), some (.ref pf)] ∧ Acc H H' pf 8) ?_ ?_
  · obtain ⟨h0, eA, qs, ss, lq, gq, pq, okq⟩ := A
    have hta := eA _ _ ht0
    refine wS_expr (by rfl) ?_
    refine wE_append (by rfl) (by rfl) (by rfl) (by rfl) (by rfl) ?_
    walk_at "ws"
    refine ⟨pf, _, rfl, gq, ?_⟩
    walk_at "ws"
    refine slq_i (ys := [.str r.name, .str r.deed, .int r.bound, oS r.kind, oI r.town, .int r.first, .int r.last, .int r.over]) (SqT.of hta) (by show ¬(HT.sIx 9 0 none = 0 ∧ HT.sIx 9 9 (some 8) = 9); decide +kernel) rfl fun p1 H2 hp1 e1 g1 => ?_
    walk_at "ws"
    refine o_notOB ?_
    walk_at "ws"
    refine iteND (fun c => ?_) (fun c => ?_)
    rotate_left
    · walk_at "ws"
      refine ⟨(by show 1 ≤ sizeLine; decide), fun p2 H3 hp2 e2 g2 => ?_⟩
      walk_at "ws"
      refine o_catT C (SqT.of (e2 _ _ g1)) (SqT.of g2) (by rw [sizeLine_eq]; simp) (by simp) (by simp) fun p3 H4 hp3 e3 g3 => ?_
      have EE := (e1.trans e2).trans e3
      refine ⟨EE _ _ gq, by rw [List.length_map, sizeLine_eq]; omega, fun H7 e7 g7 => ?_⟩
      walk_at "ws"
      exact ⟨rfl, Acc.more (s := ⟨r.name, r.deed, r.bound, r.kind, r.town, r.first, r.last, r.over, some false⟩) h0 eA lq gq pq okq EE g3 (⟨o.n1, o.n2, o.nl, o.deed, b1, b2, o.kind, o.town, f1, f2, l2, o1, o2⟩) e7 g7⟩
    · walk_at "ws"
      refine ⟨(by show 1 ≤ sizeLine; decide), fun p2 H3 hp2 e2 g2 => ?_⟩
      walk_at "ws"
      refine o_catT C (SqT.of (e2 _ _ g1)) (SqT.of g2) (by rw [sizeLine_eq]; simp) (by simp) (by simp) fun p3 H4 hp3 e3 g3 => ?_
      have EE := (e1.trans e2).trans e3
      refine ⟨EE _ _ gq, by rw [List.length_map, sizeLine_eq]; omega, fun H7 e7 g7 => ?_⟩
      walk_at "ws"
      exact ⟨rfl, Acc.more (s := ⟨r.name, r.deed, r.bound, r.kind, r.town, r.first, r.last, r.over, none⟩) h0 eA lq gq pq okq EE g3 (⟨o.n1, o.n2, o.nl, o.deed, b1, b2, o.kind, o.town, f1, f2, l2, o1, o2⟩) e7 g7⟩
  rintro _ H1 ⟨rfl, A⟩
  refine nx_mk ?_
  refine Nx.go (by assumption) ?_
  refine wB_cons' fun _ _ => ?_
  refine wS_cut (fun σ' H' => ∃ pg, σ' = [some (.ref t), some (.str r.name), some (.str r.deed), some (.int r.bound), some (oS r.kind), some (oI r.town), some (.int r.first), some (.int r.last), some (.int r.over), some (oB r.paper), some (.ref pg)] ∧ Acc H H' pg 10) ?_ ?_
  · refine wS_if ?_
    walk_at "ws"
    refine iteD (fun c => ?_) (fun c => ?_)
    rotate_left
    · walk_at "ws"
      exact ⟨pf, rfl, A.mono (by decide)⟩
    obtain ⟨h0, eA, qs, ss, lq, gq, pq, okq⟩ := A
    have hta := eA _ _ ht0
    walk_at "ws"
    refine slq_i (ys := [.str r.name, .str r.deed, .int r.bound, oS r.kind, oI r.town]) (SqT.of hta) (by show ¬(HT.sIx 9 0 none = 0 ∧ HT.sIx 9 9 (some 5) = 9); decide +kernel) rfl fun p1 H2 hp1 e1 g1 => ?_
    walk_at "ws"
    refine ⟨(by show 1 ≤ sizeLine; decide), fun p2 H3 hp2 e2 g2 => ?_⟩
    walk_at "ws"
    refine o_catT C (SqT.of (e2 _ _ g1)) (SqT.of g2) (by rw [sizeLine_eq]; simp) (by simp) (by simp) fun p3 H4 hp3 e3 g3 => ?_
    walk_at "ws"
    refine slq_i (ys := [.int r.last, .int r.over, oB r.paper]) (SqT.of (e3 _ _ (e2 _ _ (e1 _ _ hta)))) (by show ¬(HT.sIx 9 0 (some 6) = 0 ∧ HT.sIx 9 9 none = 9); decide +kernel) rfl fun p4 H5 hp4 e4 g4 => ?_
    refine o_catT C (SqT.of (e4 _ _ g3)) (SqT.of g4) (by rw [sizeLine_eq]; simp) (by simp) (by simp) fun p5 H6 hp5 e5 g5 => ?_
    have E5 := (((e1.trans e2).trans e3).trans e4).trans e5
    clear hp1 e1 g1 hp2 e2 g2 hp3 e3 g3 hp4 e4 g4 hp5 e5
    walk_at "ws"
    refine slq_i (ys := [.str r.name, .str r.deed, .int r.bound, oS r.kind, oI r.town, .int r.first]) (SqT.of (E5 _ _ hta)) (by show ¬(HT.sIx 9 0 none = 0 ∧ HT.sIx 9 9 (some 6) = 9); decide +kernel) rfl fun p1 H2 hp1 e1 g1 => ?_
    walk_at "ws"
    refine ⟨(by show 1 ≤ sizeLine; decide), fun p2 H3 hp2 e2 g2 => ?_⟩
    walk_at "ws"
    refine o_catT C (SqT.of (e2 _ _ g1)) (SqT.of g2) (by rw [sizeLine_eq]; simp) (by simp) (by simp) fun p3 H4 hp3 e3 g3 => ?_
    walk_at "ws"
    refine slq_i (ys := [.int r.over, oB r.paper]) (SqT.of (e3 _ _ (e2 _ _ (e1 _ _ (E5 _ _ hta))))) (by show ¬(HT.sIx 9 0 (some 7) = 0 ∧ HT.sIx 9 9 none = 9); decide +kernel) rfl fun p4 H5 hp4 e4 g4 => ?_
    refine o_catT C (SqT.of (e4 _ _ g3)) (SqT.of g4) (by rw [sizeLine_eq]; simp) (by simp) (by simp) fun p6 H7 hp6 e6 g6 => ?_
    have E6 := (((e1.trans e2).trans e3).trans e4).trans e6
    clear hp1 e1 g1 hp2 e2 g2 hp3 e3 g3 hp4 e4 g4 hp6 e6
    walk_at "ws"
    refine ⟨(by show 2 ≤ sizeLine; decide), fun pz H8 hpz e8 g8 => ?_⟩
    have EE := (E5.trans E6).trans e8
    refine o_catL (EE _ _ gq) g8 (by rw [List.length_map, sizeLine_eq]; show qs.length + 2 ≤ _; omega) fun pg H9 hpg e9 g9 => ?_
    walk_at "ws"
    have EF := EE.trans e9
    have g5 : H6 p5 = some (.tup (⟨r.name, r.deed, r.bound, r.kind, r.town, r.first + 1, r.last, r.over, r.paper⟩ : Ru).vs) := g5
    have g6 : H7 p6 = some (.tup (⟨r.name, r.deed, r.bound, r.kind, r.town, r.first, r.last - 1, r.over, r.paper⟩ : Ru).vs) := g6
    exact ⟨pg, rfl, (eA.trans EE).free hpg, eA.trans EF, qs ++ [p5, p6], ss ++ [⟨r.name, r.deed, r.bound, r.kind, r.town, r.first + 1, r.last, r.over, r.paper⟩, ⟨r.name, r.deed, r.bound, r.kind, r.town, r.first, r.last - 1, r.over, r.paper⟩], by rw [List.length_append]; show qs.length + 2 ≤ 10; omega, by rw [List.map_append]; exact g9,
      paired_app (Paired.mapP pq fun a c z => EF _ _ z) (.cons (e9 _ _ (e8 _ _ (E6 _ _ g5))) (.cons (e9 _ _ (e8 _ _ g6)) .nil)), fun s hs => by
        rcases List.mem_append.mp hs with hs | hs
        · exact okq s hs
        simp only [List.mem_cons, List.not_mem_nil, or_false] at hs
        rcases hs with rfl | rfl
        · exact ⟨o.n1, o.n2, o.nl, o.deed, b1, b2, o.kind, o.town, (by show 0 ≤ r.first + 1; omega), (by show r.first + 1 ≤ r.last; omega), l2, o1, o2⟩
        · exact ⟨o.n1, o.n2, o.nl, o.deed, b1, b2, o.kind, o.town, f1, (by show r.first ≤ r.last - 1; omega), (by show r.last - 1 ≤ 59; omega), o1, o2⟩⟩
  rintro _ H1 ⟨pg, rfl, A⟩
  refine nx_mk ?_
  refine Nx.go (by assumption) ?_
  refine wB_cons' fun _ _ => ?_
  refine wS_cut (fun σ' H' => σ' = [some (.ref t), some (.str r.name), some (.str r.deed), some (.int r.bound), some (oS r.kind), some (oI r.town), some (.int r.first), some (.int r.last), some (.int r.over), some (oB r.paper), some (.ref pg)] ∧ Acc H H' pg 11) ?_ ?_
  · refine wS_if ?_
    walk_at "ws"
    refine ⟨(by show 3 ≤ sizeLine; decide), fun pl Hl hpl el gl => ?_⟩
    have Al : Acc H Hl pg 10 := by
      obtain ⟨h0, eA, qs, ss, lq, gq, pq, okq⟩ := A
      exact ⟨h0, eA.trans el, qs, ss, lq, el _ _ gq, Paired.mapP pq fun a c z => el _ _ z, okq⟩
    clear A
    refine o_inL0 C (SqL.of gl) rfl rfl ?_
    walk_at "ws"
    have hin : inV (V.str r.deed) [V.str "cut", V.str "each", V.str "hundredths"] = true → 100 ≤ mostB r.deed := fun h => by
      rcases deeds5 o.deed with e | e | e | e | e <;> rw [e] at h ⊢ <;> first | (exact absurd h (by decide +kernel)) | (decide +kernel)
    cases hi : inV (V.str r.deed) [V.str "cut", V.str "each", V.str "hundredths"] with
    | false =>
      walk_at "ws"
      exact ⟨rfl, Al.mono (by decide)⟩
    | true =>
      have hm := hin hi
      have A := Al
      clear Al
      walk_at "ws"
      obtain ⟨h0, eA, qs, ss, lq, gq, pq, okq⟩ := A
      have hta := eA _ _ ht0
      refine wE_append (by rfl) (by rfl) (by rfl) (by rfl) (by rfl) ?_
      walk_at "ws"
      refine ⟨pg, _, rfl, gq, ?_⟩
      walk_at "ws"
      refine slq_i (ys := [.str r.name, .str r.deed]) (SqT.of hta) (by show ¬(HT.sIx 9 0 none = 0 ∧ HT.sIx 9 9 (some 2) = 9); decide +kernel) rfl fun p1 H2 hp1 e1 g1 => ?_
      walk_at "ws"
      refine iteD (fun c => ?_) (fun c => ?_)
      · walk_at "ws"
        refine ⟨(by show 1 ≤ sizeLine; decide), fun p2 H3 hp2 e2 g2 => ?_⟩
        walk_at "ws"
        refine o_catT C (SqT.of (e2 _ _ g1)) (SqT.of g2) (by rw [sizeLine_eq]; simp) (by simp) (by simp) fun p3 H4 hp3 e3 g3 => ?_
        walk_at "ws"
        refine slq_i (ys := [oS r.kind, oI r.town, .int r.first, .int r.last, .int r.over, oB r.paper]) (SqT.of (e3 _ _ (e2 _ _ (e1 _ _ hta)))) (by show ¬(HT.sIx 9 0 (some 3) = 0 ∧ HT.sIx 9 9 none = 9); decide +kernel) rfl fun p4 H5 hp4 e4 g4 => ?_
        refine o_catT C (SqT.of (e4 _ _ g3)) (SqT.of g4) (by rw [sizeLine_eq]; simp) (by simp) (by simp) fun p5 H6 hp5 e5 g5 => ?_
        have EE := (((e1.trans e2).trans e3).trans e4).trans e5
        refine ⟨EE _ _ gq, by rw [List.length_map, sizeLine_eq]; omega, fun H7 e7 g7 => ?_⟩
        walk_at "ws"
        exact ⟨rfl, Acc.more (s := ⟨r.name, r.deed, r.bound - 1, r.kind, r.town, r.first, r.last, r.over, r.paper⟩) h0 eA lq gq pq okq EE g5 (⟨o.n1, o.n2, o.nl, o.deed, (by show 0 ≤ r.bound - 1; omega), (by show r.bound - 1 ≤ mostB r.deed; omega), o.kind, o.town, f1, f2, l2, o1, o2⟩) e7 g7⟩
      · walk_at "ws"
        refine ⟨(by show 1 ≤ sizeLine; decide), fun p2 H3 hp2 e2 g2 => ?_⟩
        walk_at "ws"
        refine o_catT C (SqT.of (e2 _ _ g1)) (SqT.of g2) (by rw [sizeLine_eq]; simp) (by simp) (by simp) fun p3 H4 hp3 e3 g3 => ?_
        walk_at "ws"
        refine slq_i (ys := [oS r.kind, oI r.town, .int r.first, .int r.last, .int r.over, oB r.paper]) (SqT.of (e3 _ _ (e2 _ _ (e1 _ _ hta)))) (by show ¬(HT.sIx 9 0 (some 3) = 0 ∧ HT.sIx 9 9 none = 9); decide +kernel) rfl fun p4 H5 hp4 e4 g4 => ?_
        refine o_catT C (SqT.of (e4 _ _ g3)) (SqT.of g4) (by rw [sizeLine_eq]; simp) (by simp) (by simp) fun p5 H6 hp5 e5 g5 => ?_
        have EE := (((e1.trans e2).trans e3).trans e4).trans e5
        refine ⟨EE _ _ gq, by rw [List.length_map, sizeLine_eq]; omega, fun H7 e7 g7 => ?_⟩
        walk_at "ws"
        exact ⟨rfl, Acc.more (s := ⟨r.name, r.deed, 7, r.kind, r.town, r.first, r.last, r.over, r.paper⟩) h0 eA lq gq pq okq EE g5 (⟨o.n1, o.n2, o.nl, o.deed, (by show (0 : Int) ≤ 7; decide), (by show 7 ≤ mostB r.deed; omega), o.kind, o.town, f1, f2, l2, o1, o2⟩) e7 g7⟩
  rintro _ H1 ⟨rfl, A⟩
  walk_at "ws"
  exact q pg H1 (A.mono (by decide))
end
/-! ### rows of rules held against each other -/
def dS : Option Str → PyData
  | none => .none
  | some z => .str z
def dI : Option Int → PyData
  | none => .none
  | some i => .int i
def dB : Option Bool → PyData
  | none => .none
  | some b => .bool b
def Ru.ds (r : Ru) : List PyData := [.str r.name, .str r.deed, .int r.bound, dS r.kind, dI r.town, .int r.first, .int r.last, .int r.over, dB r.paper]
theorem eqv_S (x y : Option Str) : PyData.eqv (dS x) (dS y) = decide (x = y) := by cases x <;> cases y <;> simp [dS, PyData.eqv] <;> (try (rename_i a b; by_cases h : a = b <;> simp [h]))
theorem eqv_I (x y : Option Int) : PyData.eqv (dI x) (dI y) = decide (x = y) := by cases x <;> cases y <;> simp [dI, PyData.eqv] <;> (try (rename_i a b; by_cases h : a = b <;> simp [h]))
theorem eqv_B (x y : Option Bool) : PyData.eqv (dB x) (dB y) = decide (x = y) := by cases x <;> cases y <;> simp [dB, PyData.eqv] <;> (try (rename_i a b; cases a <;> cases b <;> rfl))
theorem eqv_s (x y : Str) : PyData.eqv (.str x) (.str y) = decide (x = y) := by by_cases h : x = y <;> simp [PyData.eqv, h]
theorem eqv_i (x y : Int) : PyData.eqv (.int x) (.int y) = decide (x = y) := by by_cases h : x = y <;> simp [PyData.eqv, h]
theorem eqv_ru (r s : Ru) : PyData.eqvAll r.ds s.ds = r.same s := by
  unfold Ru.ds Ru.same
  simp only [PyData.eqvAll, eqv_S, eqv_I, eqv_B, eqv_s, eqv_i, Bool.and_true, Bool.decide_and]
theorem letters_low : lettersL.all (fun c => decide (c < 128)) = true := by decide +kernel
theorem strOk_letters {z : Str} (h : ∀ c ∈ z.cps.toList, c ∈ lettersL) : PyData.canLay0 (.str z) = true := by
  show PyData.strOk z = true
  unfold PyData.strOk
  refine Array.all_eq_true_iff_forall_mem.mpr fun x hx => decide_eq_true ?_
  have q := of_decide_eq_true (List.all_eq_true.mp letters_low x (h x (Array.mem_toList_iff.mpr hx)))
  omega
theorem dpa_ru {K : PySem.W.Frag} {H : Hp} (r : Ru) : DpAll K H r.vs r.ds := by
  refine .cons (.str _) (.cons (.str _) (.cons (.int _) (.cons ?_ (.cons ?_ (.cons (.int _) (.cons (.int _) (.cons (.int _) (.cons ?_ .nil))))))))
  · cases r.kind with
    | none => exact .non
    | some z => exact .str z
  · cases r.town with
    | none => exact .non
    | some z => exact .int z
  · cases r.paper with
    | none => exact .non
    | some z => exact .bl z
theorem low_S {x : Option Str} (h : ∀ z, x = some z → ∀ c ∈ z.cps.toList, c ∈ lettersL) : PyData.canLay0 (dS x) = true := by
  cases x with
  | none => rfl
  | some z => exact strOk_letters (h z rfl)
theorem low_I {x : Option Int} : PyData.canLay0 (dI x) = true := by cases x <;> rfl
theorem low_B {x : Option Bool} : PyData.canLay0 (dB x) = true := by cases x <;> rfl
theorem dep_S (x : Option Str) : PyData.depth (dS x) = 0 := by cases x <;> rfl
theorem dep_I (x : Option Int) : PyData.depth (dI x) = 0 := by cases x <;> rfl
theorem dep_B (x : Option Bool) : PyData.depth (dB x) = 0 := by cases x <;> rfl
theorem shp_ru {r : Ru} (o : r.Ok) : SeqAt.shaped (.tuple r.ds) = true := by
  refine Bool.and_eq_true_iff.mpr ⟨?_, decide_eq_true ?_⟩
  · show PyData.canLayAll0 r.ds = true
    unfold Ru.ds
    simp only [PyData.canLayAll0, Bool.and_eq_true]
    exact ⟨strOk_letters o.nl, strOk_letters (deed_letters o.deed), rfl, low_S fun z hz => kind_letters (o.kind z hz), low_I, rfl, rfl, rfl, low_B, trivial⟩
  · unfold Ru.ds
    simp only [PyData.depth, PyData.depthAll, dep_S, dep_I, dep_B]
    decide
section
variable {P : Program} {w : World} {K : PySem.W.Frag} {mg : Str → Option Value} {base : Heap} {k : Nat} {N Vz Sz G : List Str} {sc : Scope} {X : Cx} {H : Hp} {Q : VK}
theorem o_neRu {a b : Addr} {r s : Ru} (C : CxI P w K mg base k N Vz Sz G sc X) (h1 : H a = some (.tup r.vs)) (h2 : H b = some (.tup s.vs)) (o1 : r.Ok) (o2 : s.Ok) (q : Q (.bl (!r.same s)) H) : wO X (compareOp .NotEq) (.ref a) (.ref b) H Q :=
  wO.of (op_neD C.room.units) ⟨.tuple r.ds, .tuple s.ds, by rw [C.eK]; exact .tup (SqT.of h1) (dpa_ru r), by rw [C.eK]; exact .tup (SqT.of h2) (dpa_ru s), shp_ru o1, shp_ru o2, by
    show Q (.bl (!PyData.eqvAll r.ds s.ds)) H
    rw [eqv_ru]; exact q⟩
end
theorem oS_inj {x y : Option Str} (h : oS x = oS y) : x = y := by cases x <;> cases y <;> simp_all [oS]
theorem oI_inj {x y : Option Int} (h : oI x = oI y) : x = y := by cases x <;> cases y <;> simp_all [oI]
theorem oB_inj {x y : Option Bool} (h : oB x = oB y) : x = y := by cases x <;> cases y <;> simp_all [oB]
theorem Ru.vs_same {r s : Ru} {qa qb : Addr} (h : r.fs qa = s.fs qb) : r.same s = true := by
  have b0 := (s.l_name qb).symm.trans (h ▸ r.l_name qa)
  have b1 := (s.l_deed qb).symm.trans (h ▸ r.l_deed qa)
  have b2 := (s.l_bound qb).symm.trans (h ▸ r.l_bound qa)
  have b3 := (s.l_kind qb).symm.trans (h ▸ r.l_kind qa)
  have b4 := (s.l_town qb).symm.trans (h ▸ r.l_town qa)
  have b5 := (s.l_first qb).symm.trans (h ▸ r.l_first qa)
  have b6 := (s.l_last qb).symm.trans (h ▸ r.l_last qa)
  have b7 := (s.l_over qb).symm.trans (h ▸ r.l_over qa)
  have b8 := (s.l_paper qb).symm.trans (h ▸ r.l_paper qa)
  have b0 := Option.some.inj b0
  injection b0 with b0
  have b1 := Option.some.inj b1
  injection b1 with b1
  have b2 := Option.some.inj b2
  injection b2 with b2
  have b3 := Option.some.inj b3
  have b3 := oS_inj b3
  have b4 := Option.some.inj b4
  have b4 := oI_inj b4
  have b5 := Option.some.inj b5
  injection b5 with b5
  have b6 := Option.some.inj b6
  injection b6 with b6
  have b7 := Option.some.inj b7
  injection b7 with b7
  have b8 := Option.some.inj b8
  have b8 := oB_inj b8
  exact decide_eq_true ⟨b0.symm, b1.symm, b2.symm, b3.symm, b4.symm, b5.symm, b6.symm, b7.symm, b8.symm⟩
theorem Ru.same_symm {r s : Ru} : s.same r = r.same s := decide_eq_decide.mpr ⟨fun ⟨a, b, c, d, e, f, g, i, j⟩ => ⟨a.symm, b.symm, c.symm, d.symm, e.symm, f.symm, g.symm, i.symm, j.symm⟩, fun ⟨a, b, c, d, e, f, g, i, j⟩ => ⟨a.symm, b.symm, c.symm, d.symm, e.symm, f.symm, g.symm, i.symm, j.symm⟩⟩
theorem Ru.same_self {r : Ru} : r.same r = true := decide_eq_true ⟨rfl, rfl, rfl, rfl, rfl, rfl, rfl, rfl, rfl⟩
/-- the rules made of the rows -/
abbrev Made (C : Addr) (H : Hp) : List Addr → List Ru → Prop := Paired fun a (s : Ru) => ∃ dx qa, H a = some (.ins C dx (s.fs qa))
theorem Made.ex {C : Addr} {H H' : Hp} {as : List Addr} {ss : List Ru} (h : Made C H as ss) (e : Ex H H') : Made C H' as ss := Paired.mapP h fun _ _ ⟨dx, qa, q⟩ => ⟨dx, qa, e _ _ q⟩
theorem Made.exb {C b : Addr} {H H' : Hp} {as : List Addr} {ss : List Ru} {o : HO} (h : Made C H as ss) (hb : H b = some o) (ho : ∀ dx fs, o ≠ .ins C dx fs) (e : Exb b H H') : Made C H' as ss := Paired.mapP h fun a _ ⟨dx, qa, q⟩ => ⟨dx, qa, e _ _ (fun z => by rw [z, hb] at q; exact ho _ _ (Option.some.inj q)) q⟩
theorem Paired.at {α β : Type} {R : α → β → Prop} : ∀ {l : List α} {m : List β}, Paired R l m → ∀ {i : Nat} {x : α}, l[i]? = some x → ∃ y, m[i]? = some y ∧ R x y
  | _, _, .nil, _, _, h => by simp at h
  | _, _, .cons z t, 0, _, h => ⟨_, rfl, by rw [← Option.some.inj h]; exact z⟩
  | _, _, .cons z t, i + 1, _, h => Paired.at t h
theorem at_map {as : List Addr} {i : Nat} {y : V} (h : (as.map V.ref)[i]? = some y) : ∃ a, y = .ref a ∧ as[i]? = some a := by
  rw [List.getElem?_map] at h
  cases e : as[i]? with
  | none => rw [e] at h; cases h
  | some a => rw [e] at h; exact ⟨a, (Option.some.inj h).symm, rfl⟩
theorem same_eq {C : Addr} {K : PySem.W.Frag} {H : Hp} {a b dx dy qa qb : Addr} {r s : Ru} {Q : VK} (ha : H a = some (.ins C dx (r.fs qa))) (hb : H b = some (.ins C dy (s.fs qb))) (q : Q (.bl (r.same s)) H) : spSame K C [.ref a, .ref b] H Q E0 :=
  ⟨a, dx, qa, r, .ref b, rfl, ha, .inl ⟨b, dy, qb, s, rfl, hb, q⟩⟩
theorem same_thg {C : Addr} {K : PySem.W.Frag} {H : Hp} {a dx qa : Addr} {r : Ru} {y : V} {T : String} {Q : VK} (F : ClsF K C) (ha : H a = some (.ins C dx (r.fs qa))) (h : Thg H y T) (q : Q (.bl false) H) : spSame K C [.ref a, y] H Q E0 :=
  ⟨a, dx, qa, r, y, rfl, ha, .inr ⟨_, h.tyX, F.kit _ h.odd, q⟩⟩
section
variable {P : Program} {w : World} {K : PySem.W.Frag} {mg : Str → Option Value} {base : Heap} {k j : Nat} {N Vz Sz G : List Str} {sc : Scope} {X : Cx} {H : Hp} {Q : VK} {y : V} {T : String} {a b c dx dy qa qb : Addr} {r s : Ru} {v nv : Bool}
theorem eq_same (C : CxI P w K mg base k N Vz Sz G sc X) (M : Mo P w K mg base j c "__eq__" (spSame K c)) (hj : j ≤ k) (ha : H a = some (.ins c dx (r.fs qa))) (hb : H b = some (.ins c dy (s.fs qb))) (hs : r.same s = v) (q : Q (.bl v) H) : wO X (compareOp .Eq) (.ref a) (.ref b) H Q :=
  o_eqOwn C M hj ha (ty_ins hb) nf_self (same_eq ha hb ⟨_, rfl, by rw [hs]; exact q⟩)
theorem ne_same (C : CxI P w K mg base k N Vz Sz G sc X) (M : Mo P w K mg base j c "__eq__" (spSame K c)) (hj : j + 1 ≤ k) (F : ClsF K c) (ha : H a = some (.ins c dx (r.fs qa))) (hb : H b = some (.ins c dy (s.fs qb))) (hs : r.same s = v) (hn : (!v) = nv) (q : Q (.bl nv) H) : wO X (compareOp .NotEq) (.ref a) (.ref b) H Q :=
  o_neOwn C M hj F.mro F.hne ha (ty_ins hb) nf_self (same_eq ha hb ⟨_, rfl, by rw [hs, hn]; exact q⟩)
theorem eq_thg (C : CxI P w K mg base k N Vz Sz G sc X) (M : Mo P w K mg base j c "__eq__" (spSame K c)) (hj : j ≤ k) (F : ClsF K c) (ha : H a = some (.ins c dx (r.fs qa))) (h : Thg H y T) (q : Q (.bl false) H) : wO X (compareOp .Eq) (.ref a) y H Q :=
  o_eqOwn C M hj ha h.tyV (F.nf h.odd) (same_thg F ha h ⟨_, rfl, q⟩)
theorem thg_eq (C : CxI P w K mg base k N Vz Sz G sc X) (M : Mo P w K mg base j c "__eq__" (spSame K c)) (hj : j ≤ k) (F : ClsF K c) (ha : H a = some (.ins c dx (r.fs qa))) (h : Thg H y T) (q : Q (.bl false) H) : wO X (compareOp .Eq) y (.ref a) H Q :=
  o_eqBack C M hj ha h (F.sub2 _ h.odd) (same_thg F ha h ⟨_, rfl, q⟩)
theorem ne_thg (C : CxI P w K mg base k N Vz Sz G sc X) (M : Mo P w K mg base j c "__eq__" (spSame K c)) (hj : j + 1 ≤ k) (F : ClsF K c) (ha : H a = some (.ins c dx (r.fs qa))) (h : Thg H y T) (q : Q (.bl true) H) : wO X (compareOp .NotEq) (.ref a) y H Q :=
  o_neOwn C M hj F.mro F.hne ha h.tyV (F.nf h.odd) (same_thg F ha h ⟨_, rfl, q⟩)
theorem eqB_same' (C : CxI P w K mg base k N Vz Sz G sc X) (M : Mo P w K mg base j c "__eq__" (spSame K c)) (hab : a ≠ b) (ha : H a = some (.ins c dx (r.fs qa))) (hb : H b = some (.ins c dy (s.fs qb))) (hs : r.same s = v) : EqB X j (.ref a) (.ref b) H v :=
  eqB_ins C M hab ha hb (same_eq ha hb ⟨by rw [hs], rfl⟩)
end
def spLaw (K : PySem.W.Frag) : Sp := fun vs H Q _ => ∃ (a : Addr) (ns : List Int), vs = [.ref a] ∧ SqL K H a (ns.map V.int) ∧ ns.length ≤ 63 ∧ ∀ H', Q (.bl true) H'
section
variable {P : Program} {w : World} {K : PySem.W.Frag} {mg : Str → Option Value} {base : Heap} {f C0 : Addr} {fd : FuncData}
theorem p_law (F : Fn K "law" "law" s_law f fd) (T : Txt K mg) (tmax : mg "max" = none) (tmin : mg "min" = none) (tr : mg "repr" = none) (CF : ClsF K C0) (ME : Mo P w K mg base 1 C0 "__eq__" (spSame K C0)) (MR : Mo P w K mg base 1 C0 "__repr__" (spRepr C0))
    (DB : Df P w K mg base 1 "_law_box" ["_law_script", "_law_k"] [] (spBox K)) (DN : Df P w K mg base 3 "_law_name" ["_law_box_here"] [] spNm) (DW : Df P w K mg base 4 "_law_ruled" ["_law_box_here", "_law_name_here"] [] spRuled) (DS : Df P w K mg base 6 "_law_made" ["_law_row"] [] (spMade C0))
    (DH : Df P w K mg base 1 "_law_rule_shown" ["_law_row"] [] spShown) (DO : Df P w K mg base 3 "_law_odd" ["_law_box_here"] [] spOdd) (DR : Df P w K mg base 1 "_law_others" ["_law_row"] [] spOthers) : FnOk P w K mg base CX0 7 f fd ["_law_script"] (spLaw K) := by
  refine fn_w F sc_law ok_law (fun vs H Q E h => by obtain ⟨a, ns, rfl, hS, hlen, q⟩ := h; rfl) (fun X vs H Q E C h => ?_)
  obtain ⟨a, ns, rfl, hS, hlen, q⟩ := h
  show wB X _ _ [some (.ref a), none, none, none, none, none, none, none, none, none] H
  first | refine wB_one ?_ | refine wB_cons' fun _ _ => ?_
  walk_at "ws"
  refine wS_range1 C T.range (by walk_at "mem") (by rfl) ?_
  walk_at "ws"
  refine wE_callB C tmax (by walk_at "mem") boot_max (by rfl) (by rfl) ?_
  walk_at "ws"
  refine wE_callB C tmin (by walk_at "mem") boot_min (by rfl) (by rfl) ?_
  walk_at "ws"
  refine wE_callB C T.len (by walk_at "mem") boot_len (by rfl) (by rfl) ?_
  walk_at "ws"
  refine c_lenL C hS ?_
  walk_at "ws"
  refine c_min C ?_
  walk_at "ws"
  refine c_max C ?_
  walk_at "ws"
  refine ⟨Int.toNat _, congrArg V.int (Int.toNat_of_nonneg ?_).symm, ?_, ?_⟩
  · split <;> omega
  · split <;> (try split) <;> omega
  refine ⟨fun i σ H' => ∃ y1 y2 y3 y4 y5 y6 y7 y8 y9, σ = [some (.ref a), y1, y2, y3, y4, y5, y6, y7, y8, y9] ∧ Ex H H', ⟨none, none, none, none, none, none, none, none, none, rfl, Ex.refl H⟩, ?_, ?_⟩
  · rintro i σ H' hi ⟨y1, y2, y3, y4, y5, y6, y7, y8, y9, rfl, e0⟩
    have s0 : Same H H' := e0
    have hS' := s0.seq hS
    refine wG_name C (by walk_at "mem") ?_
    walk_at "ws"
    refine wE_call C DB (by walk_at "mem") (by decide) (by rfl) (by rfl) ?_
    walk_at "ws"
    refine ⟨a, ns, i, rfl, hS', by omega, fun p n m H1 hp e1 h1 => ?_⟩
    walk_at "ws"
    refine wS_range1 C T.range (by walk_at "mem") (by rfl) ?_
    walk_at "ws"
    refine ⟨4, rfl, by decide, fun j σ H3 => ∃ y4 y5 y6 y7 y8 y9 y10 n m, σ = [some (.ref a), some (.int i), some (.ref p), y4, y5, y6, y7, y8, y9, y10] ∧ Ex H' H3 ∧ H3 p = some (.lst [.int n, .int m]), ⟨y3, y4, y5, y6, y7, y8, y9, n, m, rfl, e1, h1⟩, ?_, ?_⟩
    · clear h1 e1
      rintro j σ H3 hj ⟨y4, y5, y6, y7, y8, y9, y10, n, m, rfl, e3, h3⟩
      refine wG_name C (by walk_at "mem") ?_
      walk_at "ws"
      refine wE_call C DW (by walk_at "mem") (by decide) (by rfl) (by rfl) ?_
      walk_at "ws"
      refine wE_call C DN (by walk_at "mem") (by decide) (by rfl) (by rfl) ?_
      walk_at "ws"
      refine ⟨p, n, m, rfl, h3, fun z n5 m5 H5 z1 z2 zl h5 e5 => ?_⟩
      walk_at "ws"
      refine ⟨p, n5, m5, z, rfl, h5, z1, z2, zl, fun r pr n4 m4 H4 o _ hpr hr h4 e4 => ?_⟩
      have e04 : Ex H' H4 := (e3.mut hp e5).mut hp e4
      clear h3 e3 e4 e5 h5 z1 z2 zl
      walk_at "ws"
      refine wS_par C (by decide +kernel) (by decide +kernel) (by rfl) (by decide +kernel) (by rfl) (by rfl) (by rfl) (by rfl) ?_
      walk_at "ws"
      refine wE_call C DS (by walk_at "mem") (by decide) (by rfl) (by rfl) ?_
      walk_at "ws"
      refine ⟨pr, r, rfl, hr, o, fun x1 dx qa H5 hx1 e5 g5 => ?_⟩
      walk_at "ws"
      refine wE_call C DS (by walk_at "mem") (by decide) (by rfl) (by rfl) ?_
      walk_at "ws"
      refine ⟨pr, r, rfl, e5 _ _ hr, o, fun x2 dy qb H6 hx2 e6 g6 => ?_⟩
      walk_at "ws"
      refine ⟨_, _, rfl, ?_⟩
      walk_at "ws"
      have n12 : x1 ≠ x2 := fun z => by have w := e5.toB (b0 := x1); rw [z] at g5; exact absurd (g5.symm.trans hx2) (by simp)
      have a1 := e6 _ _ g5
      have e46 := e5.trans e6
      have hr6 := e46 _ _ hr
      have h6 := e46 _ _ h4
      have e06 := e04.trans e46
      clear hx1 e5 g5 hx2 e6 h4 hr hpr e04 e46
      refine wS_cut (fun σ' H7 => σ' = [some (.ref a), some (.int i), some (.ref p), some (.int j), some (.ref pr), some (.ref x1), some (.ref x2), y8, y9, y10] ∧ Ex H6 H7) ?_ ?_
      · refine wS_if ?_
        walk_at "ws"
        refine ne_same (nv := false) C ME (by decide) CF a1 g6 Ru.same_self rfl ?_
        walk_at "ws"
        refine eq_same C ME (by decide) g6 a1 Ru.same_self ?_
        walk_at "ws"
        refine wE_callB C tr (by walk_at "mem") boot_repr (by rfl) (by rfl) ?_
        walk_at "ws"
        refine c_reprOwn C MR (by decide) a1 ?_
        refine ⟨x1, dx, qa, r, rfl, a1, o, fun H7 e7 => ⟨_, rfl, ?_⟩⟩
        walk_at "ws"
        refine wE_call C DH (by walk_at "mem") (by decide) (by rfl) (by rfl) ?_
        walk_at "ws"
        refine ⟨pr, r, rfl, e7 _ _ hr6, o, fun H8 e8 => ?_⟩
        refine o_neS ?_
        rw [show decide (r.text ≠ r.text) = false from decide_eq_false fun z => z rfl]
        walk_at "ws"
        refine wE_callB C tr (by walk_at "mem") boot_repr (by rfl) (by rfl) ?_
        walk_at "ws"
        have b2 := e8 _ _ (e7 _ _ g6)
        refine c_reprOwn C MR (by decide) b2 ?_
        refine ⟨x2, dy, qb, r, rfl, b2, o, fun H9 e9 => ⟨_, rfl, ?_⟩⟩
        walk_at "ws"
        refine wE_callB C tr (by walk_at "mem") boot_repr (by rfl) (by rfl) ?_
        walk_at "ws"
        have b1 := e9 _ _ (e8 _ _ (e7 _ _ a1))
        refine c_reprOwn C MR (by decide) b1 ?_
        refine ⟨x1, dx, qa, r, rfl, b1, o, fun H10 e10 => ⟨_, rfl, ?_⟩⟩
        refine o_neS ?_
        rw [show decide (r.text ≠ r.text) = false from decide_eq_false fun z => z rfl]
        walk_at "ws"
        exact ⟨rfl, ((e7.trans e8).trans e9).trans e10⟩
      rintro _ H7 ⟨rfl, e7⟩
      have a1 := e7 _ _ a1
      have a2 := e7 _ _ g6
      have hr7 := e7 _ _ hr6
      have h7 := e7 _ _ h6
      have e07 := e06.trans e7
      clear g6 hr6 h6 e06 e7
      refine nx_mk ?_
      refine Nx.go (by assumption) ?_
      refine wB_cons' fun _ _ => ?_
      refine wS_cut (fun σ' H8 => ∃ pq os ss, σ' = [some (.ref a), some (.int i), some (.ref p), some (.int j), some (.ref pr), some (.ref x1), some (.ref x2), some (.ref pq), y9, y10] ∧ Ex H7 H8 ∧ H8 pq = some (.lst (os.map V.ref)) ∧ Made C0 H8 os ss ∧ os.length ≤ 20 ∧ pq ≠ p ∧ ∀ s ∈ ss, s.Ok ∧ r.same s = false) ?_ ?_
      · refine wS_lcL [("_law_some", 8)] ["_law_some", "_law_row"] ["_law_some"] ["_law_made"] C (by decide +kernel) (by decide +kernel) (by decide +kernel) (by rfl) (by walk_at "mem") (by decide +kernel) (by rfl) (by decide +kernel) (fun _ => rfl) ?_
        refine wE_call C DR (by walk_at "mem") (by decide) (by rfl) (by rfl) ?_
        walk_at "ws"
        refine ⟨pr, r, rfl, hr7, o, fun pq H8 A => ?_⟩
        obtain ⟨fr, e8, qs, ss, lq, gq, Pq, okq⟩ := A
        have h8 := e8 _ _ h7
        have hr8 := e8 _ _ hr7
        refine ⟨pq, qs.map V.ref, rfl, SqL.of gq, fun D hD => ⟨fun i Hc => ∃ (as : List Addr) (ts : List Ru), as.length ≤ i ∧ Hc D = some (.lst (as.map V.ref)) ∧ Made C0 Hc as ts ∧ (∀ s ∈ ts, s.Ok ∧ r.same s = false) ∧ Ex H8 Hc, ⟨[], [], Nat.le_refl 0, upd_same, .nil, (fun s hs => by cases hs), Ex.upd hD⟩, ?_, ?_, ?_⟩⟩
        · rintro i Hc _ ⟨as, ts, _, _, _, _, h4⟩
          exact SqL.of (h4 _ _ gq)
        · rintro k x Hc hx ⟨as, ts, ha1, ha2, ha3, ha5, ha4⟩
          obtain ⟨q0, rfl, hq0⟩ := at_map hx
          obtain ⟨s, hs, gs⟩ := Paired.at Pq hq0
          have os := okq s (List.mem_of_getElem? hs)
          intro X1 C1
          show wG X1 _ _ [some (.ref a), some (.int i), some (.ref p), some (.int j), some (.ref pr), some (.ref x1), some (.ref x2), y8, none, y10] Hc _
          refine wG_name C1 (by walk_at "mem") ?_
          walk_at "ws"
          refine ⟨rfl, ?_⟩
          refine blkT_one fun X2 C2 => ?_
          clear C1 C
          walk_at "ws"
          refine o_neRu C2 (ha4 _ _ gs) (ha4 _ _ hr8) os o ?_
          have hk20 : k < 20 := by
            have z := (List.getElem?_eq_some_iff.mp hq0).1
            omega
          cases sm : s.same r with
          | true =>
            refine ⟨false, rfl, iteF ?_⟩
            exact ⟨as, ts, Nat.le_succ_of_le ha1, ha2, ha3, ha5, ha4⟩
          | false =>
            refine ⟨true, rfl, iteT ?_⟩
            intro X3 C3
            clear C2
            refine wE_call C3 DS (by walk_at "mem") (by decide) (by rfl) (by rfl) ?_
            walk_at "ws"
            refine ⟨q0, s, rfl, ha4 _ _ gs, os, fun y dz qz Hd hy ed gd => ?_⟩
            refine ⟨as.map V.ref, ed _ _ ha2, by rw [List.length_map, sizeLine_eq]; omega, as ++ [y], ts ++ [s], by rw [List.length_append, List.length_singleton]; omega, by rw [upd_same, List.map_append]; rfl, ?_, ?_, ?_⟩
            · refine paired_snoc (Paired.mapP ha3 fun a s ⟨dx, qa, z⟩ => ⟨dx, qa, ?_⟩) ⟨dz, qz, ?_⟩
              · rw [upd_ne (ne_of z ha2 (by intro z; cases z))]
                exact ed _ _ z
              · rw [upd_ne (ne_of gd (ed _ _ ha2) (by intro z; cases z))]
                exact gd
            · intro x hx
              rcases List.mem_append.mp hx with hx | hx
              · exact ha5 x hx
              · rw [List.mem_singleton.mp hx]; exact ⟨os, Ru.same_symm.symm.trans sm⟩
            · exact (ha4.trans ed).mut hD Exb.upd
        · rintro Hc ⟨as, ts, ha1, ha2, ha3, ha5, ha4⟩
          rw [List.length_map] at ha1
          walk_at "ws"
          exact ⟨D, as, ts, rfl, e8.trans ha4, ha2, ha3, Nat.le_trans ha1 lq, ne_fresh hD h8, ha5⟩
      rintro _ H8 ⟨pq, os, ss, rfl, e8, gq, M8, lo, nqp, okq⟩
      have a1 := e8 _ _ a1
      have a2 := e8 _ _ a2
      have hr8 := e8 _ _ hr7
      have h8 := e8 _ _ h7
      have e08 := e07.trans e8
      clear hr7 h7 e07 e8
      have each : ∀ {b : Addr} {i : Nat}, os[i]? = some b → ∃ s dz qs, H8 b = some (.ins C0 dz (s.fs qs)) ∧ s.Ok ∧ r.same s = false := fun {b i} hb => by
        obtain ⟨s, hs, dz, qs, gb⟩ := Paired.at M8 hb
        have z := okq s (List.mem_of_getElem? hs)
        exact ⟨s, dz, qs, gb, z.1, z.2⟩
      have neO : ∀ {b x d dz q1 q2 : Addr} {s : Ru}, H8 x = some (.ins C0 d (r.fs q1)) → H8 b = some (.ins C0 dz (s.fs q2)) → r.same s = false → b ≠ x := fun {b x d dz q1 q2 s} hx hb sm z => by
        rw [z, hx] at hb
        have w := Option.some.inj hb
        injection w with _ _ hfs
        rw [Ru.vs_same hfs] at sm
        cases sm
      refine nx_mk ?_
      refine Nx.go (by assumption) ?_
      refine wB_cons' fun _ _ => ?_
      refine wS_cut (fun σ' H9 => σ' = [some (.ref a), some (.int i), some (.ref p), some (.int j), some (.ref pr), some (.ref x1), some (.ref x2), some (.ref pq), y9, y10] ∧ Ex H8 H9) ?_ ?_
      · refine wS_if ?_
        walk_at "ws"
        refine o_inL (n := 1) (e := fun _ => false) C (by decide) gq (fun k y hy => ?_) false ⟨fun _ _ _ => rfl, fun z => (by cases z)⟩ ?_
        · obtain ⟨b, rfl, hb⟩ := at_map hy
          obtain ⟨s, dz, qs, gb, so, sm⟩ := each hb
          exact eqB_ins C ME (neO a1 gb sm) gb a1 (same_eq gb a1 ⟨by rw [Ru.same_symm, sm], rfl⟩)
        walk_at "ws"
        refine ⟨(by show 1 ≤ sizeLine; decide), fun pz H9 hpz e9 g9 => ?_⟩
        walk_at "ws"
        refine o_catL (e9 _ _ gq) g9 (by rw [List.length_map, sizeLine_eq, List.length_singleton]; omega) fun pw H10 hpw e10 g10 => ?_
        have b1 := e10 _ _ (e9 _ _ a1)
        have b2 := e10 _ _ (e9 _ _ a2)
        refine o_notInL (n := 1) (e := fun k => decide (k = os.length)) C (by decide) g10 (fun k y hy => ?_) true ⟨fun z => (by cases z), fun _ => ⟨os.length, by rw [List.length_append, List.length_map, List.length_singleton]; omega, decide_eq_true rfl⟩⟩ ?_
        · by_cases hk : k < os.length
          · rw [List.getElem?_append_left (by rw [List.length_map]; exact hk)] at hy
            obtain ⟨b, rfl, hb⟩ := at_map hy
            obtain ⟨s, dz, qs, gb, so, sm⟩ := each hb
            have gb' := e10 _ _ (e9 _ _ gb)
            refine eqB_ins C ME (neO a2 gb sm) gb' b2 (same_eq gb' b2 ⟨by rw [Ru.same_symm, sm, show decide (k = os.length) = false from decide_eq_false (by omega)], rfl⟩)
          · rw [List.getElem?_append_right (by rw [List.length_map]; omega), List.length_map] at hy
            have hk6 : k = os.length := by
              have z := (List.getElem?_eq_some_iff.mp hy).1
              rw [List.length_singleton] at z
              omega
            rw [hk6, Nat.sub_self] at hy
            obtain rfl : V.ref x1 = y := Option.some.inj hy
            exact eqB_ins C ME n12 b1 b2 (same_eq b1 b2 ⟨by rw [Ru.same_self, hk6, decide_eq_true rfl], rfl⟩)
        walk_at "ws"
        exact ⟨rfl, e9.trans e10⟩
      rintro _ H9 ⟨rfl, e9⟩
      have c1 := e9 _ _ a1
      refine nx_mk ?_
      refine Nx.go (by assumption) ?_
      refine wB_cons' fun _ _ => ?_
      refine wS_cut (fun σ' H10 => ∃ z9, σ' = [some (.ref a), some (.int i), some (.ref p), some (.int j), some (.ref pr), some (.ref x1), some (.ref x2), some (.ref pq), z9, y10] ∧ Ex H9 H10) ?_ ?_
      · refine wS_list C (fun _ => rfl) ?_
        walk_at "ws"
        refine ⟨pq, os.map V.ref, rfl, SqL.of (e9 _ _ gq), fun k σ Hk => ∃ z9, σ = [some (.ref a), some (.int i), some (.ref p), some (.int j), some (.ref pr), some (.ref x1), some (.ref x2), some (.ref pq), z9, y10] ∧ Ex H9 Hk, ⟨y9, rfl, Ex.refl _⟩, ?_, ?_, ?_⟩
        · rintro k σ Hk hk ⟨z9, rfl, ek⟩
          exact SqL.of (ek _ _ (e9 _ _ gq))
        · rintro k y σ Hk hy ⟨z9, rfl, ek⟩
          obtain ⟨b, rfl, hb⟩ := at_map hy
          obtain ⟨s, dz, qs, gb, so, sm⟩ := each hb
          have gb := ek _ _ (e9 _ _ gb)
          have d1 := ek _ _ c1
          refine wG_name C (by walk_at "mem") ?_
          walk_at "ws"
          refine wS_if ?_
          walk_at "ws"
          refine eq_same C ME (by decide) gb d1 (Ru.same_symm.trans sm) ?_
          walk_at "ws"
          refine ne_same (nv := true) C ME (by decide) CF d1 gb sm rfl ?_
          walk_at "ws"
          refine wE_callB C tr (by walk_at "mem") boot_repr (by rfl) (by rfl) ?_
          walk_at "ws"
          refine c_reprOwn C MR (by decide) gb ?_
          refine ⟨b, dz, qs, s, rfl, gb, so, fun Hl el => ⟨_, rfl, ?_⟩⟩
          walk_at "ws"
          refine wE_callB C tr (by walk_at "mem") boot_repr (by rfl) (by rfl) ?_
          walk_at "ws"
          refine c_reprOwn C MR (by decide) (el _ _ d1) ?_
          refine ⟨x1, dx, qa, r, rfl, el _ _ d1, o, fun Hm em => ⟨_, rfl, ?_⟩⟩
          refine o_eqSS ?_
          rw [show decide (s.text = r.text) = false from decide_eq_false fun z => by rw [text_inj o so z.symm] at sm; cases sm]
          walk_at "ws"
          exact ⟨_, rfl, (ek.trans el).trans em⟩
        · rintro σ Hk ⟨z9, rfl, ek⟩
          walk_at "ws"
          exact ⟨z9, rfl, ek⟩
      rintro _ H10 ⟨z9, rfl, e10⟩
      have e810 := e9.trans e10
      clear c1 e9 e10
      have hr10 := e810 _ _ hr8
      have h10 := e810 _ _ h8
      have c1 := e810 _ _ a1
      refine nx_mk ?_
      refine Nx.go (by assumption) ?_
      refine wB_cons' fun _ _ => ?_
      refine wS_list C (fun _ => rfl) ?_
      have i0 : H10 pr = some (.tup [.str r.name, .str r.deed, .int r.bound, oS r.kind, oI r.town, .int r.first, .int r.last, .int r.over, oB r.paper]) := hr10
      walk_at "ws"
      refine wE_callB C tr (by walk_at "mem") boot_repr (by rfl) (by rfl) ?_
      walk_at "ws"
      refine c_reprOwn C MR (by decide) c1 ?_
      refine ⟨x1, dx, qa, r, rfl, c1, o, fun H11 e11 => ⟨_, rfl, ?_⟩⟩
      walk_at "ws"
      refine ⟨(by show 1 ≤ sizeLine; decide), fun pa H12 hpa e12 g12 => ?_⟩
      walk_at "ws"
      have e03 := e11.trans e12
      have h13 := e03 _ _ h10
      have np : pa ≠ p := ne_fresh hpa (e11 _ _ h10)
      have nr : pr ≠ p := ne_of hr10 h10 (by intro z; cases z)
      have n1 : x1 ≠ p := ne_of c1 h10 (by intro z; cases z)
      refine wE_call C DO (by walk_at "mem") (by decide) (by rfl) (by rfl) ?_
      walk_at "ws"
      refine ⟨p, n4, m4, rfl, h13, fun v T n14 m14 H14 th g14 e14 => ?_⟩
      walk_at "ws"
      refine ⟨(by show 7 ≤ sizeLine; decide), fun pl H15 hpl e15 g15 => ?_⟩
      have th15 := th.ex e15
      have d1 := e15 _ _ (e14 _ _ n1 (e03 _ _ c1))
      have i1 := e15 _ _ (e14 _ _ nr (e03 _ _ hr10))
      have i2 := e15 _ _ (e14 _ _ np g12)
      have h15 := e15 _ _ g14
      have eA : Exb p H10 H15 := (e03.toB.trans e14).trans e15.toB
      have eZ : Ex H' H15 := (e08.trans e810).mut hp eA
      clear hpa e12 g12 e03 h13 np nr n1 th g14 e14 hpl e15 e11
      have all : ∀ y ∈ [V.ref pr, V.str r.name, V.str r.text, V.non, V.bl true, V.ref pa, v], ∃ T, Thg H15 y T :=
        all2 ⟨_, .tup i1⟩ (all2 ⟨_, .str _⟩ (all2 ⟨_, .str _⟩ (all2 ⟨_, .non⟩ (all2 ⟨_, .bl _⟩ (all2 ⟨_, .lst i2⟩ (all1 ⟨_, th15⟩))))))
      refine ⟨pl, _, rfl, SqL.of g15, fun k σ Hk => ∃ z10, σ = [some (.ref a), some (.int i), some (.ref p), some (.int j), some (.ref pr), some (.ref x1), some (.ref x2), some (.ref pq), z9, z10] ∧ Ex H15 Hk, ⟨y10, rfl, Ex.refl _⟩, ?_, ?_, ?_⟩
      · rintro k σ Hk hk ⟨z10, rfl, ek⟩
        exact SqL.of (ek _ _ g15)
      · rintro k y σ Hk hy ⟨z10, rfl, ek⟩
        obtain ⟨T, th⟩ := all y (List.mem_of_getElem? hy)
        have th := th.ex ek
        have d1 := ek _ _ d1
        refine wG_name C (by walk_at "mem") ?_
        walk_at "ws"
        refine wS_if ?_
        walk_at "ws"
        refine eq_thg C ME (by decide) CF d1 th ?_
        walk_at "ws"
        refine thg_eq C ME (by decide) CF d1 th ?_
        walk_at "ws"
        refine ne_thg C ME (by decide) CF d1 th ?_
        walk_at "ws"
        exact ⟨_, rfl, ek⟩
      · rintro σ Hk ⟨z10, rfl, ek⟩
        walk_at "ws"
        exact ⟨_, _, _, _, _, _, _, n14, m14, rfl, eZ.trans ek, ek _ _ h15⟩
    · rintro σ H3 ⟨y4, y5, y6, y7, y8, y9, y10, n, m, rfl, e3, h3⟩
      walk_at "ws"
      exact ⟨_, _, _, _, _, _, _, _, _, rfl, e0.trans e3⟩
  · rintro σ H' ⟨y1, y2, y3, y4, y5, y6, y7, y8, y9, rfl, e0⟩
    walk_at "ws"
    exact q H'
end
theorem tab_ok {K : PySem.W.Frag} {a : Addr} (h : He.valsB K a [("let", .int 0), ("cut", .int 1000000000000), ("each", .int 1000), ("hundredths", .int 100), ("refuse", .int 0)] = true) : ∀ z, inV (.str z) deedsL = true → ∃ u, PySem.W.nsIn K a z = some (some u) ∧ RelV (.int (mostB z)) u := by
  intro z hz
  rcases deeds5 hz with rfl | rfl | rfl | rfl | rfl
  · rw [show mostB "let" = 0 from by decide +kernel]; exact He.valsB_ok h (q := ("let", .int 0)) (by simp)
  · rw [show mostB "cut" = 1000000000000 from by decide +kernel]; exact He.valsB_ok h (q := ("cut", .int 1000000000000)) (by simp)
  · rw [show mostB "each" = 1000 from by decide +kernel]; exact He.valsB_ok h (q := ("each", .int 1000)) (by simp)
  · rw [show mostB "hundredths" = 100 from by decide +kernel]; exact He.valsB_ok h (q := ("hundredths", .int 100)) (by simp)
  · rw [show mostB "refuse" = 0 from by decide +kernel]; exact He.valsB_ok h (q := ("refuse", .int 0)) (by simp)
def d_is_whole : He.DefD := ⟨("is_whole", none), "is_whole", "is_whole", defArgs s_is_whole, defBody s_is_whole, defScope s_is_whole, [], []⟩
def d_is_truth : He.DefD := ⟨("is_truth", none), "is_truth", "is_truth", defArgs s_is_truth, defBody s_is_truth, defScope s_is_truth, [], []⟩
def d_is_kind : He.DefD := ⟨("is_kind", none), "is_kind", "is_kind", defArgs s_is_kind, defBody s_is_kind, defScope s_is_kind, [], []⟩
def d_is_day : He.DefD := ⟨("is_day", none), "is_day", "is_day", defArgs s_is_day, defBody s_is_day, defScope s_is_day, [], []⟩
def d_is_town : He.DefD := ⟨("is_town", none), "is_town", "is_town", defArgs s_is_town, defBody s_is_town, defScope s_is_town, [], []⟩
def d_is_share : He.DefD := ⟨("is_share", none), "is_share", "is_share", defArgs s_is_share, defBody s_is_share, defScope s_is_share, [], []⟩
def d_payment_of : He.DefD := ⟨("payment_of", none), "payment_of", "payment_of", defArgs s_payment_of, defBody s_payment_of, defScope s_payment_of, [], []⟩
def d_is_name : He.DefD := ⟨("is_name", none), "is_name", "is_name", defArgs s_is_name, defBody s_is_name, defScope s_is_name, [], []⟩
def d_is_deed : He.DefD := ⟨("is_deed", none), "is_deed", "is_deed", defArgs s_is_deed, defBody s_is_deed, defScope s_is_deed, [], []⟩
def d_check_parts : He.DefD := ⟨("check_parts", none), "check_parts", "check_parts", defArgs s_check_parts, defBody s_check_parts, defScope s_check_parts, [], []⟩
def d__law_box : He.DefD := ⟨("_law_box", none), "_law_box", "_law_box", defArgs s__law_box, defBody s__law_box, defScope s__law_box, [], []⟩
def d__law_more : He.DefD := ⟨("_law_more", none), "_law_more", "_law_more", defArgs s__law_more, defBody s__law_more, defScope s__law_more, [], []⟩
def d__law_take : He.DefD := ⟨("_law_take", none), "_law_take", "_law_take", defArgs s__law_take, defBody s__law_take, defScope s__law_take, [], []⟩
def d__law_bound : He.DefD := ⟨("_law_bound", none), "_law_bound", "_law_bound", defArgs s__law_bound, defBody s__law_bound, defScope s__law_bound, [], []⟩
def d__law_ruled : He.DefD := ⟨("_law_ruled", none), "_law_ruled", "_law_ruled", defArgs s__law_ruled, defBody s__law_ruled, defScope s__law_ruled, [], []⟩
def d__law_name : He.DefD := ⟨("_law_name", none), "_law_name", "_law_name", defArgs s__law_name, defBody s__law_name, defScope s__law_name, [], []⟩
def d__law_made : He.DefD := ⟨("_law_made", none), "_law_made", "_law_made", defArgs s__law_made, defBody s__law_made, defScope s__law_made, [], []⟩
def d__law_rule_shown : He.DefD := ⟨("_law_rule_shown", none), "_law_rule_shown", "_law_rule_shown", defArgs s__law_rule_shown, defBody s__law_rule_shown, defScope s__law_rule_shown, [], []⟩
def d__law_odd : He.DefD := ⟨("_law_odd", none), "_law_odd", "_law_odd", defArgs s__law_odd, defBody s__law_odd, defScope s__law_odd, [], []⟩
def d__law_others : He.DefD := ⟨("_law_others", none), "_law_others", "_law_others", defArgs s__law_others, defBody s__law_others, defScope s__law_others, [], []⟩
def d_law : He.DefD := ⟨("law", none), "law", "law", defArgs s_law, defBody s_law, defScope s_law, [], []⟩
def d_Rule_init : He.DefD := ⟨("Rule", some "__init__"), "__init__", "Rule.__init__", defArgs s_Rule_init, defBody s_Rule_init, defScope s_Rule_init, [.str "let", .int 0, .non, .non, .int 0, .int 59, .int 0, .non], []⟩
def d_Rule_eq : He.DefD := ⟨("Rule", some "__eq__"), "__eq__", "Rule.__eq__", defArgs s_Rule_eq, defBody s_Rule_eq, defScope s_Rule_eq, [], []⟩
def d_Rule_repr : He.DefD := ⟨("Rule", some "__repr__"), "__repr__", "Rule.__repr__", defArgs s_Rule_repr, defBody s_Rule_repr, defScope s_Rule_repr, [], []⟩
def fn : List He.DefD := [d_is_whole, d_is_truth, d_is_kind, d_is_day, d_is_town, d_is_share, d_payment_of, d_is_name, d_is_deed, d_check_parts, d__law_box, d__law_more, d__law_take, d__law_bound, d__law_ruled, d__law_name, d__law_made, d__law_rule_shown, d__law_odd, d__law_others, d_law, d_Rule_init, d_Rule_eq, d_Rule_repr]
def fa0 : List He.Fa := [.glo "is_whole", .glo "is_truth", .glo "is_kind", .glo "is_day", .glo "is_town", .glo "is_share", .glo "payment_of", .glo "is_name", .glo "is_deed", .glo "check_parts", .glo "_law_box", .glo "_law_more", .glo "_law_take", .glo "_law_bound", .glo "_law_ruled", .glo "_law_name", .glo "_law_made", .glo "_law_rule_shown", .glo "_law_odd", .glo "_law_others", .glo "law", .glo "KINDS", .glo "Rule", .glo "MOST_BOUNDS", .free "range", .free "abs", .free "len", .free "divmod", .free "isinstance", .free "int"]
def fa1 : List He.Fa := [.free "bool", .free "max", .free "min", .free "repr", .free "str", .free "all", .free "zip", .int "LAST_DAY" 59, .int "LAST_TOWN" 3, .int "MOST_SHARE" 1000000000000, .int "NO_BOUND" 1000000000000000, .int "MOST_LETTERS" 8, .cls "Rule", .noat "Rule" "name", .noat "Rule" "deed", .noat "Rule" "bound", .noat "Rule" "kind", .noat "Rule" "town", .noat "Rule" "first", .noat "Rule" "last", .noat "Rule" "over", .noat "Rule" "paper", .noat "Rule" "payment", .mkr "Rule", .meth "Rule" "__eq__", .meth "Rule" "__repr__", .str "LETTERS" "abcdefghijklmnopqrstuvwxyz"]
def fa : List He.Fa := fa0 ++ fa1
def ex (K : PySem.W.Frag) : Bool := He.tupB K "KINDS" [.str "bed", .str "fee", .str "meal", .str "ride", .str "sundry"] && (clsFB K (He.ga K "Rule") && He.valsB K (He.ga K "MOST_BOUNDS") [("let", .int 0), ("cut", .int 1000000000000), ("each", .int 1000), ("hundredths", .int 100), ("refuse", .int 0)])
def loose0 : List Str := ["__name__", "PenceError", "NoSpot", "NoShare", "NoRule", "KINDS", "LAST_TOWN", "LAST_DAY", "MOST_SHARE", "is_whole"]
def loose1 : List Str := ["is_truth", "is_kind", "is_town", "is_day", "is_share", "NO_BOUND", "payment_of", "paid_by", "is_spot", "check_spot"]
def loose2 : List Str := ["check_share", "LETTERS", "MOST_LETTERS", "MOST_BOUNDS", "is_name", "is_deed", "check_parts", "Rule", "_law_box", "_law_more"]
def loose3 : List Str := ["_law_take", "_law_bound", "_law_ruled", "_law_name", "_law_made", "_law_rule_shown", "_law_odd", "_law_others"]
def loose : List Str := (loose0 ++ (loose1 ++ (loose2 ++ loose3)))
abbrev RR : PySem.W.OpenRow := PySem.W.OpenLaw.row PySem.Challenge.rw_roadpence_k07_rules_alike
abbrev RV : Program := PySem.W.view RR.prog [43]
abbrev HV : Nat := 5
def ts : List He.Tab := [(fun K => He.ga K "MOST_BOUNDS", ["let", "cut", "each", "hundredths", "refuse"])]
def hookB (n : Nat) (fa : List He.Fa) (fn : List He.DefD) (ts : List He.Tab) (ex : PySem.W.Frag → Bool) : PySem.W.Hook where
  α := He.AlT × Bool
  obs := fun s => (He.obsTG n fa fn ts s.heap.get?, ex (He.frG s.heap.get? (He.asD s.heap.get? n)))
  val := fun w => (He.valT fn ts w, true)
  says := fun w h => ∃ K : PySem.W.Frag, K.In h ∧ He.SaysT fa fn ts w K ∧ ex K = true
  of := fun _ _ e => ⟨_, He.frG_in, congrArg (fun z : He.AlT × Bool => z.1) e, congrArg (fun z : He.AlT × Bool => z.2) e⟩
  keeps := fun _ _ _ ⟨K, hK, c⟩ k => ⟨K, PySem.W.Frag.In.keeps hK k, c⟩
def hk : PySem.W.Hook := hookB HV fa fn ts ex
def ob (s : PySem.W.SharedT) : hk.α := (He.obsTG HV fa fn ts (HandSHeadRun.getT s), ex (He.frG (HandSHeadRun.getT s) (He.asD (HandSHeadRun.getT s) HV)))
theorem ob_eq (s : PySem.W.SharedT) : ob s = hk.obs s.abs := by
  have e : HandSHeadRun.getT s = s.abs.heap.get? := funext (HandSHeadRun.getT_eq s)
  unfold ob
  rw [e]
  rfl
set_option maxHeartbeats 0 in
theorem runF (w : World) : HandSHeadRun.RunEq RR RV hk ob 3000 loose (w.withFollow "special-get-raises" false) := by
  intro os
  kernel_rfl
set_option maxHeartbeats 0 in
theorem runT (w : World) : HandSHeadRun.RunEq RR RV hk ob 3000 loose (w.withFollow "special-get-raises" true) := by
  intro os
  kernel_rfl
set_option maxHeartbeats 0 in
theorem run (w : World) : HandSHeadRun.RunEq RR RV hk ob 3000 loose w := PySem.W.byRow2 "special-get-raises" runF runT w
theorem df_mk {P : Program} {w : World} {K : PySem.W.Frag} {mg : Str → Option Value} {base : Heap} {k : Nat} {x : Str} {st : Stmt} {f : Addr} {fd : FuncData} {ps : List Str} {sp : Sp} (F : FunD K x x (defArgs st) (defBody st) (defScope st) [] [] f fd) (hm : mg x = some (.ref f))
    (h : ∀ (kV doc pm : Value) (an : Option Addr) (cdv ct : Value) (us : List Value), us.length = ps.length → bindArgs (PySem.W.fnOf x x (defArgs st) (defBody st) (defScope st) .none kV doc pm an cdv ct) ⟨us, []⟩ = pure (ps.zip us)) (ok : FnOk P w K mg base CX0 k f fd ps sp) : Df P w K mg base k x ps [] sp :=
  ⟨f, fd, [], ok, hm, F.kp, FunD.bindsN F h, .nil⟩
set_option maxHeartbeats 0 in
theorem facts {P : Program} {w : World} {K : PySem.W.Frag} {h : Heap} {mg : Str → Option Value} {fl : Addr} (X : K.In h) (G : h.Ns mainGlobals mg) (hfa : mg ("law" : Str) = some (.ref fl)) (ct : He.SaysT fa fn ts w K) (cx : ex K = true) :
    ∃ fd : FuncData, (∀ (s : Shared) (v : Value), BindsTo s fd ⟨[v], []⟩ [("_law_script", v)]) ∧ ∀ base : Heap, K.In base → base.Ns mainGlobals mg → FnOk P w K mg base CX0 7 fl fd ["_law_script"] (spLaw K) := by
  have c := ct.d
  obtain ⟨fd_is_whole, F_is_whole⟩ : ∃ fd, FunD K "is_whole" "is_whole" (defArgs s_is_whole) (defBody s_is_whole) (defScope s_is_whole) [] [] (He.ga K "is_whole") fd := c.def_ 0 (d := d_is_whole) rfl
  obtain ⟨fd_is_truth, F_is_truth⟩ : ∃ fd, FunD K "is_truth" "is_truth" (defArgs s_is_truth) (defBody s_is_truth) (defScope s_is_truth) [] [] (He.ga K "is_truth") fd := c.def_ 1 (d := d_is_truth) rfl
  obtain ⟨fd_is_kind, F_is_kind⟩ : ∃ fd, FunD K "is_kind" "is_kind" (defArgs s_is_kind) (defBody s_is_kind) (defScope s_is_kind) [] [] (He.ga K "is_kind") fd := c.def_ 2 (d := d_is_kind) rfl
  obtain ⟨fd_is_day, F_is_day⟩ : ∃ fd, FunD K "is_day" "is_day" (defArgs s_is_day) (defBody s_is_day) (defScope s_is_day) [] [] (He.ga K "is_day") fd := c.def_ 3 (d := d_is_day) rfl
  obtain ⟨fd_is_town, F_is_town⟩ : ∃ fd, FunD K "is_town" "is_town" (defArgs s_is_town) (defBody s_is_town) (defScope s_is_town) [] [] (He.ga K "is_town") fd := c.def_ 4 (d := d_is_town) rfl
  obtain ⟨fd_is_share, F_is_share⟩ : ∃ fd, FunD K "is_share" "is_share" (defArgs s_is_share) (defBody s_is_share) (defScope s_is_share) [] [] (He.ga K "is_share") fd := c.def_ 5 (d := d_is_share) rfl
  obtain ⟨fd_payment_of, F_payment_of⟩ : ∃ fd, FunD K "payment_of" "payment_of" (defArgs s_payment_of) (defBody s_payment_of) (defScope s_payment_of) [] [] (He.ga K "payment_of") fd := c.def_ 6 (d := d_payment_of) rfl
  obtain ⟨fd_is_name, F_is_name⟩ : ∃ fd, FunD K "is_name" "is_name" (defArgs s_is_name) (defBody s_is_name) (defScope s_is_name) [] [] (He.ga K "is_name") fd := c.def_ 7 (d := d_is_name) rfl
  obtain ⟨fd_is_deed, F_is_deed⟩ : ∃ fd, FunD K "is_deed" "is_deed" (defArgs s_is_deed) (defBody s_is_deed) (defScope s_is_deed) [] [] (He.ga K "is_deed") fd := c.def_ 8 (d := d_is_deed) rfl
  obtain ⟨fd_check_parts, F_check_parts⟩ : ∃ fd, FunD K "check_parts" "check_parts" (defArgs s_check_parts) (defBody s_check_parts) (defScope s_check_parts) [] [] (He.ga K "check_parts") fd := c.def_ 9 (d := d_check_parts) rfl
  obtain ⟨fd__law_box, F__law_box⟩ : ∃ fd, FunD K "_law_box" "_law_box" (defArgs s__law_box) (defBody s__law_box) (defScope s__law_box) [] [] (He.ga K "_law_box") fd := c.def_ 10 (d := d__law_box) rfl
  obtain ⟨fd__law_more, F__law_more⟩ : ∃ fd, FunD K "_law_more" "_law_more" (defArgs s__law_more) (defBody s__law_more) (defScope s__law_more) [] [] (He.ga K "_law_more") fd := c.def_ 11 (d := d__law_more) rfl
  obtain ⟨fd__law_take, F__law_take⟩ : ∃ fd, FunD K "_law_take" "_law_take" (defArgs s__law_take) (defBody s__law_take) (defScope s__law_take) [] [] (He.ga K "_law_take") fd := c.def_ 12 (d := d__law_take) rfl
  obtain ⟨fd__law_bound, F__law_bound⟩ : ∃ fd, FunD K "_law_bound" "_law_bound" (defArgs s__law_bound) (defBody s__law_bound) (defScope s__law_bound) [] [] (He.ga K "_law_bound") fd := c.def_ 13 (d := d__law_bound) rfl
  obtain ⟨fd__law_ruled, F__law_ruled⟩ : ∃ fd, FunD K "_law_ruled" "_law_ruled" (defArgs s__law_ruled) (defBody s__law_ruled) (defScope s__law_ruled) [] [] (He.ga K "_law_ruled") fd := c.def_ 14 (d := d__law_ruled) rfl
  obtain ⟨fd__law_name, F__law_name⟩ : ∃ fd, FunD K "_law_name" "_law_name" (defArgs s__law_name) (defBody s__law_name) (defScope s__law_name) [] [] (He.ga K "_law_name") fd := c.def_ 15 (d := d__law_name) rfl
  obtain ⟨fd__law_made, F__law_made⟩ : ∃ fd, FunD K "_law_made" "_law_made" (defArgs s__law_made) (defBody s__law_made) (defScope s__law_made) [] [] (He.ga K "_law_made") fd := c.def_ 16 (d := d__law_made) rfl
  obtain ⟨fd__law_rule_shown, F__law_rule_shown⟩ : ∃ fd, FunD K "_law_rule_shown" "_law_rule_shown" (defArgs s__law_rule_shown) (defBody s__law_rule_shown) (defScope s__law_rule_shown) [] [] (He.ga K "_law_rule_shown") fd := c.def_ 17 (d := d__law_rule_shown) rfl
  obtain ⟨fd__law_odd, F__law_odd⟩ : ∃ fd, FunD K "_law_odd" "_law_odd" (defArgs s__law_odd) (defBody s__law_odd) (defScope s__law_odd) [] [] (He.ga K "_law_odd") fd := c.def_ 18 (d := d__law_odd) rfl
  obtain ⟨fd__law_others, F__law_others⟩ : ∃ fd, FunD K "_law_others" "_law_others" (defArgs s__law_others) (defBody s__law_others) (defScope s__law_others) [] [] (He.ga K "_law_others") fd := c.def_ 19 (d := d__law_others) rfl
  obtain ⟨fd_law, F_law⟩ : ∃ fd, FunD K "law" "law" (defArgs s_law) (defBody s_law) (defScope s_law) [] [] (He.ga K "law") fd := c.def_ 20 (d := d_law) rfl
  obtain ⟨fd_Rule_init, F_Rule_init⟩ : ∃ fd, FunD K "__init__" "Rule.__init__" (defArgs s_Rule_init) (defBody s_Rule_init) (defScope s_Rule_init) [.str "let", .int 0, .non, .non, .int 0, .int 59, .int 0, .non] [] (He.ma K (He.ga K "Rule") "__init__") fd := c.def_ 21 (d := d_Rule_init) rfl
  obtain ⟨fd_Rule_eq, F_Rule_eq⟩ : ∃ fd, FunD K "__eq__" "Rule.__eq__" (defArgs s_Rule_eq) (defBody s_Rule_eq) (defScope s_Rule_eq) [] [] (He.ma K (He.ga K "Rule") "__eq__") fd := c.def_ 22 (d := d_Rule_eq) rfl
  obtain ⟨fd_Rule_repr, F_Rule_repr⟩ : ∃ fd, FunD K "__repr__" "Rule.__repr__" (defArgs s_Rule_repr) (defBody s_Rule_repr) (defScope s_Rule_repr) [] [] (He.ma K (He.ga K "Rule") "__repr__") fd := c.def_ 23 (d := d_Rule_repr) rfl
  obtain ⟨cx1, cx2⟩ := He.ba cx
  obtain ⟨cx2, cx3⟩ := He.ba cx2
  have T : Txt K mg := ⟨He.free_ok X G (c.fact 24 (f := .free "range") rfl), He.free_ok X G (c.fact 25 (f := .free "abs") rfl), He.free_ok X G (c.fact 26 (f := .free "len") rfl), He.free_ok X G (c.fact 27 (f := .free "divmod") rfl), He.free_ok X G (c.fact 28 (f := .free "isinstance") rfl), He.free_ok X G (c.fact 29 (f := .free "int") rfl), He.free_ok X G (c.fact 30 (f := .free "bool") rfl), ⟨_, He.glo_ok X G (c.fact 21 (f := .glo "KINDS") rfl), fun H => He.tupB_ok cx1 H⟩, He.int_ok X G (c.fact 37 (f := .int "LAST_DAY" 59) rfl), He.int_ok X G (c.fact 38 (f := .int "LAST_TOWN" 3) rfl), He.int_ok X G (c.fact 39 (f := .int "MOST_SHARE" 1000000000000) rfl)⟩
  obtain ⟨es, n, kd⟩ := ct.tab 0 (t := (fun K => He.ga K "MOST_BOUNDS", ["let", "cut", "each", "hundredths", "refuse"])) rfl
  have R : TxR K w mg := ⟨He.int_ok X G (c.fact 40 (f := .int "NO_BOUND" 1000000000000000) rfl), He.int_ok X G (c.fact 41 (f := .int "MOST_LETTERS" 8) rfl), He.str_ok X G (c.fact 56 (f := .str "LETTERS" "abcdefghijklmnopqrstuvwxyz") rfl), He.free_ok X G (c.fact 35 (f := .free "all") rfl), He.free_ok X G (c.fact 34 (f := .free "str") rfl), ⟨_, es, n, He.glo_ok X G (c.fact 23 (f := .glo "MOST_BOUNDS") rfl), kd, tab_ok cx3⟩⟩
  have tmax : mg "max" = none := He.free_ok X G (c.fact 31 (f := .free "max") rfl)
  have tmin : mg "min" = none := He.free_ok X G (c.fact 32 (f := .free "min") rfl)
  have trepr : mg "repr" = none := He.free_ok X G (c.fact 33 (f := .free "repr") rfl)
  have tzip : mg "zip" = none := He.free_ok X G (c.fact 36 (f := .free "zip") rfl)
  have S : Sr K (He.ga K "Rule") := ⟨He.cls_ok (c.fact 42 (f := .cls "Rule") rfl), He.noat_ok (c.fact 43 (f := .noat "Rule" "name") rfl), He.noat_ok (c.fact 44 (f := .noat "Rule" "deed") rfl), He.noat_ok (c.fact 45 (f := .noat "Rule" "bound") rfl), He.noat_ok (c.fact 46 (f := .noat "Rule" "kind") rfl), He.noat_ok (c.fact 47 (f := .noat "Rule" "town") rfl), He.noat_ok (c.fact 48 (f := .noat "Rule" "first") rfl), He.noat_ok (c.fact 49 (f := .noat "Rule" "last") rfl), He.noat_ok (c.fact 50 (f := .noat "Rule" "over") rfl), He.noat_ok (c.fact 51 (f := .noat "Rule" "paper") rfl), He.noat_ok (c.fact 52 (f := .noat "Rule" "payment") rfl)⟩
  have CF : ClsF K (He.ga K "Rule") := clsFB_ok cx2
  have MK := He.mkr_ok (c.fact 53 (f := .mkr "Rule") rfl)
  have mE := He.meth_ok (c.fact 54 (f := .meth "Rule" "__eq__") rfl)
  have mR := He.meth_ok (c.fact 55 (f := .meth "Rule" "__repr__") rfl)
  have gS : mg "Rule" = some (.ref (He.ga K "Rule")) := He.glo_ok X G (c.fact 22 (f := .glo "Rule") rfl)
  have g_is_whole : mg "is_whole" = some (.ref (He.ga K "is_whole")) := He.glo_ok X G (c.fact 0 (f := .glo "is_whole") rfl)
  have g_is_truth : mg "is_truth" = some (.ref (He.ga K "is_truth")) := He.glo_ok X G (c.fact 1 (f := .glo "is_truth") rfl)
  have g_is_kind : mg "is_kind" = some (.ref (He.ga K "is_kind")) := He.glo_ok X G (c.fact 2 (f := .glo "is_kind") rfl)
  have g_is_day : mg "is_day" = some (.ref (He.ga K "is_day")) := He.glo_ok X G (c.fact 3 (f := .glo "is_day") rfl)
  have g_is_town : mg "is_town" = some (.ref (He.ga K "is_town")) := He.glo_ok X G (c.fact 4 (f := .glo "is_town") rfl)
  have g_is_share : mg "is_share" = some (.ref (He.ga K "is_share")) := He.glo_ok X G (c.fact 5 (f := .glo "is_share") rfl)
  have g_payment_of : mg "payment_of" = some (.ref (He.ga K "payment_of")) := He.glo_ok X G (c.fact 6 (f := .glo "payment_of") rfl)
  have g_is_name : mg "is_name" = some (.ref (He.ga K "is_name")) := He.glo_ok X G (c.fact 7 (f := .glo "is_name") rfl)
  have g_is_deed : mg "is_deed" = some (.ref (He.ga K "is_deed")) := He.glo_ok X G (c.fact 8 (f := .glo "is_deed") rfl)
  have g_check_parts : mg "check_parts" = some (.ref (He.ga K "check_parts")) := He.glo_ok X G (c.fact 9 (f := .glo "check_parts") rfl)
  have g__law_box : mg "_law_box" = some (.ref (He.ga K "_law_box")) := He.glo_ok X G (c.fact 10 (f := .glo "_law_box") rfl)
  have g__law_more : mg "_law_more" = some (.ref (He.ga K "_law_more")) := He.glo_ok X G (c.fact 11 (f := .glo "_law_more") rfl)
  have g__law_take : mg "_law_take" = some (.ref (He.ga K "_law_take")) := He.glo_ok X G (c.fact 12 (f := .glo "_law_take") rfl)
  have g__law_bound : mg "_law_bound" = some (.ref (He.ga K "_law_bound")) := He.glo_ok X G (c.fact 13 (f := .glo "_law_bound") rfl)
  have g__law_ruled : mg "_law_ruled" = some (.ref (He.ga K "_law_ruled")) := He.glo_ok X G (c.fact 14 (f := .glo "_law_ruled") rfl)
  have g__law_name : mg "_law_name" = some (.ref (He.ga K "_law_name")) := He.glo_ok X G (c.fact 15 (f := .glo "_law_name") rfl)
  have g__law_made : mg "_law_made" = some (.ref (He.ga K "_law_made")) := He.glo_ok X G (c.fact 16 (f := .glo "_law_made") rfl)
  have g__law_rule_shown : mg "_law_rule_shown" = some (.ref (He.ga K "_law_rule_shown")) := He.glo_ok X G (c.fact 17 (f := .glo "_law_rule_shown") rfl)
  have g__law_odd : mg "_law_odd" = some (.ref (He.ga K "_law_odd")) := He.glo_ok X G (c.fact 18 (f := .glo "_law_odd") rfl)
  have g__law_others : mg "_law_others" = some (.ref (He.ga K "_law_others")) := He.glo_ok X G (c.fact 19 (f := .glo "_law_others") rfl)
  have g_law : mg "law" = some (.ref (He.ga K "law")) := He.glo_ok X G (c.fact 20 (f := .glo "law") rfl)
  have e := hfa.symm.trans g_law
  cases e
  have b_law := FunD.bindsA (ps := ["_law_script"]) F_law fun _ _ _ _ _ _ us hl => match us, hl with | [_], _ => rfl
  obtain ⟨iK, bK⟩ := FunD.kbindsD (ps := ["self", "name", "deed", "bound", "kind", "town", "first", "last", "over", "paper"]) F_Rule_init 2 ["deed", "bound", "kind", "town", "first", "last", "over", "paper"] (fun vs ds zs => vs ++ zs) (by simp) (fun r1 r2 r3 => r1.append r3) fun T kV doc pm an cdv ct us its ws hl hi hw => match us, its, ws, hl, hi, hw with | [_, _], [_, _, _, _, _, _, _, _], [_, _, _, _, _, _, _, _], _, _, _ => ⟨_, rfl, rfl⟩
  have bE : Binds K fd_Rule_eq ["self", "other"] [] := FunD.bindsN F_Rule_eq fun _ _ _ _ _ _ us hl => match us, hl with | [_, _], _ => rfl
  have bR : Binds K fd_Rule_repr ["self"] [] := FunD.bindsN F_Rule_repr fun _ _ _ _ _ _ us hl => match us, hl with | [_], _ => rfl
  refine ⟨fd_law, fun s v => b_law s [v] rfl, fun base _ _ => ?_⟩
  have D_is_whole : Df P w K mg base 1 "is_whole" ["thing", "least", "most"] [] spWhole := df_mk F_is_whole g_is_whole (fun _ _ _ _ _ _ us hl => match us, hl with | [_, _, _], _ => rfl) (p_whole ⟨_, _, F_is_whole⟩ T)
  have D_is_truth : Df P w K mg base 1 "is_truth" ["thing"] [] spTruth := df_mk F_is_truth g_is_truth (fun _ _ _ _ _ _ us hl => match us, hl with | [_], _ => rfl) (p_truth ⟨_, _, F_is_truth⟩ T)
  have D_is_kind : Df P w K mg base 1 "is_kind" ["thing"] [] spKind := df_mk F_is_kind g_is_kind (fun _ _ _ _ _ _ us hl => match us, hl with | [_], _ => rfl) (p_kind ⟨_, _, F_is_kind⟩ T)
  have D_is_day : Df P w K mg base 2 "is_day" ["thing"] [] spDay := df_mk F_is_day g_is_day (fun _ _ _ _ _ _ us hl => match us, hl with | [_], _ => rfl) (p_day ⟨_, _, F_is_day⟩ T D_is_whole)
  have D_is_town : Df P w K mg base 2 "is_town" ["thing"] [] spTown := df_mk F_is_town g_is_town (fun _ _ _ _ _ _ us hl => match us, hl with | [_], _ => rfl) (p_town ⟨_, _, F_is_town⟩ T D_is_whole)
  have D_is_share : Df P w K mg base 2 "is_share" ["thing"] [] spIsShare := df_mk F_is_share g_is_share (fun _ _ _ _ _ _ us hl => match us, hl with | [_], _ => rfl) (p_isshare ⟨_, _, F_is_share⟩ T D_is_whole)
  have D_payment_of : Df P w K mg base 1 "payment_of" ["deed", "bound"] [] spPayOf := df_mk F_payment_of g_payment_of (fun _ _ _ _ _ _ us hl => match us, hl with | [_, _], _ => rfl) (p_payof ⟨_, _, F_payment_of⟩ R)
  have D_is_name : Df P w K mg base 1 "is_name" ["thing"] [] spName := df_mk F_is_name g_is_name (fun _ _ _ _ _ _ us hl => match us, hl with | [_], _ => rfl) (p_isname ⟨_, _, F_is_name⟩ T R)
  have D_is_deed : Df P w K mg base 1 "is_deed" ["thing"] [] spDeed := df_mk F_is_deed g_is_deed (fun _ _ _ _ _ _ us hl => match us, hl with | [_], _ => rfl) (p_isdeed ⟨_, _, F_is_deed⟩ T R)
  have D_check_parts : Df P w K mg base 3 "check_parts" ["name", "deed", "bound", "kind", "town", "first", "last", "over", "paper"] [] spParts := df_mk F_check_parts g_check_parts (fun _ _ _ _ _ _ us hl => match us, hl with | [_, _, _, _, _, _, _, _, _], _ => rfl) (p_parts ⟨_, _, F_check_parts⟩ T R D_is_whole D_is_kind D_is_day D_is_truth D_is_name D_is_deed D_is_town D_is_share)
  have OI : FnOk P w K mg base CX0 4 _ fd_Rule_init ["self", "name", "deed", "bound", "kind", "town", "first", "last", "over", "paper"] (spInit (He.ga K "Rule")) := p_init ⟨_, _, F_Rule_init⟩ S D_check_parts D_payment_of
  have MF : Mf P w K mg base 4 "Rule" (He.ga K "Rule") 1 ["deed", "bound", "kind", "town", "first", "last", "over", "paper"] gMade (spInit (He.ga K "Rule")) := ⟨_, fd_Rule_init, _, _, MK, OI, gS, bK⟩
  have ME : Mo P w K mg base 1 (He.ga K "Rule") "__eq__" (spSame K (He.ga K "Rule")) := ⟨_, fd_Rule_eq, _, p_same ⟨_, _, F_Rule_eq⟩ T S gS (fun h => CF.ty S.cl h), mE.at_, mE.fn, bE⟩
  have MR : Mo P w K mg base 1 (He.ga K "Rule") "__repr__" (spRepr (He.ga K "Rule")) := ⟨_, fd_Rule_repr, _, p_repr ⟨_, _, F_Rule_repr⟩ T S trepr, mR.at_, mR.fn, bR⟩
  have D__law_box : Df P w K mg base 1 "_law_box" ["_law_script", "_law_k"] [] (spBox K) := df_mk F__law_box g__law_box (fun _ _ _ _ _ _ us hl => match us, hl with | [_, _], _ => rfl) (p_box ⟨_, _, F__law_box⟩ T)
  have D__law_more : Df P w K mg base 1 "_law_more" ["_law_box_here"] [] spMore := df_mk F__law_more g__law_more (fun _ _ _ _ _ _ us hl => match us, hl with | [_], _ => rfl) (p_more ⟨_, _, F__law_more⟩ T)
  have D__law_take : Df P w K mg base 2 "_law_take" ["_law_box_here", "_law_count"] [] spTake := df_mk F__law_take g__law_take (fun _ _ _ _ _ _ us hl => match us, hl with | [_, _], _ => rfl) (p_take ⟨_, _, F__law_take⟩ T D__law_more)
  have D__law_bound : Df P w K mg base 3 "_law_bound" ["_law_box_here", "_law_act"] [] spBound := df_mk F__law_bound g__law_bound (fun _ _ _ _ _ _ us hl => match us, hl with | [_, _], _ => rfl) (p_bound ⟨_, _, F__law_bound⟩ D__law_take)
  have D__law_ruled : Df P w K mg base 4 "_law_ruled" ["_law_box_here", "_law_name_here"] [] spRuled := df_mk F__law_ruled g__law_ruled (fun _ _ _ _ _ _ us hl => match us, hl with | [_, _], _ => rfl) (p_ruled ⟨_, _, F__law_ruled⟩ T D__law_take D__law_bound)
  have D__law_name : Df P w K mg base 3 "_law_name" ["_law_box_here"] [] spNm := df_mk F__law_name g__law_name (fun _ _ _ _ _ _ us hl => match us, hl with | [_], _ => rfl) (p_nm ⟨_, _, F__law_name⟩ T D__law_take)
  have D__law_made : Df P w K mg base 6 "_law_made" ["_law_row"] [] (spMade (He.ga K "Rule")) := df_mk F__law_made g__law_made (fun _ _ _ _ _ _ us hl => match us, hl with | [_], _ => rfl) (p_made ⟨_, _, F__law_made⟩ MF)
  have D__law_rule_shown : Df P w K mg base 1 "_law_rule_shown" ["_law_row"] [] spShown := df_mk F__law_rule_shown g__law_rule_shown (fun _ _ _ _ _ _ us hl => match us, hl with | [_], _ => rfl) (p_shown ⟨_, _, F__law_rule_shown⟩ T trepr tzip)
  have D__law_odd : Df P w K mg base 3 "_law_odd" ["_law_box_here"] [] spOdd := df_mk F__law_odd g__law_odd (fun _ _ _ _ _ _ us hl => match us, hl with | [_], _ => rfl) (p_odd ⟨_, _, F__law_odd⟩ D__law_take)
  have D__law_others : Df P w K mg base 1 "_law_others" ["_law_row"] [] spOthers := df_mk F__law_others g__law_others (fun _ _ _ _ _ _ us hl => match us, hl with | [_], _ => rfl) (p_others ⟨_, _, F__law_others⟩ T)
  exact p_law ⟨_, _, F_law⟩ T tmax tmin trepr CF ME MR D__law_box D__law_name D__law_ruled D__law_made D__law_rule_shown D__law_odd D__law_others
end Rp
open PySem PySem.W PySem.Calls PyProof.Rows in
set_option maxRecDepth 100000 in
set_option maxHeartbeats 0 in
theorem PySem.Challenge.cw_roadpence_k07_rules_alike_holds : PySem.Challenge.rw_roadpence_k07_rules_alike.Holds := by
  w_on; o_law
  refine HandSHeadRun.head_any (r := OpenLaw.row PySem.Challenge.rw_roadpence_k07_rules_alike) (q := Rp.RV) (H := Rp.hk) (ob := Rp.ob) (M := 3000) (loose := Rp.loose) (d := HandSHeadRun.topDef (OpenLaw.row PySem.Challenge.rw_roadpence_k07_rules_alike).prog 43) (kwd := []) Rp.ob_eq
    (by kernel_rfl) (fun s => by kernel_rfl) Rp.run (by kernel_rfl) (by kernel_rfl) (by kernel_rfl) (by rfl) (by first | assumption | decide +kernel) (by decide +kernel) ⟨rfl, rfl, rfl, rfl, rfl, by decide +kernel⟩ ?hw ?hc
  case hw => w_witness2
  case hc =>
    refine L2.walk_ofE (l := PySem.Challenge.rw_roadpence_k07_rules_alike) (n := 63) (k := 7) (x := "_law_script") (CX := L2.CX0) rfl (by decide) (by kernel_rfl) ⟨rfl, by decide, by decide⟩ ?F (fun _ _ _ _ z => z)
    intro w mg fa h Y G hmg0
    obtain ⟨K, KX, c, cx⟩ := Y
    have hmg : mg ("law" : PySem.Str) = some (.ref fa) := by
      have e : (HandSHeadRun.topDef (OpenLaw.row PySem.Challenge.rw_roadpence_k07_rules_alike).prog 43).name = ("law" : PySem.Str) := by kernel_rfl
      rw [← e]
      exact hmg0
    obtain ⟨fd, hb, hF⟩ := Rp.facts (P := (PySem.Challenge.rw_roadpence_k07_rules_alike).prog) (w := w) KX G hmg c cx
    exact ⟨K, fd, Rp.spLaw K, KX, hb, fun H a ns hl _ hS => ⟨a, ns, rfl, hS, hl, fun _ => rfl⟩, hF⟩
