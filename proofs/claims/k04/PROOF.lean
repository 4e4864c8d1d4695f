import PyProof.Rows.All
import Wide.All
import OpenK.AllK
import Wide.FinOn
import KE.KStateDown
import HandS.Base
import HandS.Call
import HandS.Ends
import HandS.More
import HandS.Words
import HandS.WordsExc
import HandS.Defaults
import HandS.ForMost
import HandS.MakeKw
import HandS.IsInst
import HandS.TupLe
import HandS.TupAny
import HandS.TupSets
import HandS.Conv
import HandS.Keys
import HandS.Head0
import HandS.Head1
import HandS.Head2
import HandS.HeadEnd
import HandS.HeadHook1
import HandS.HeadHook2
import HandS.FStr
import HandS.RaiseMore
import HandS.OwnEq
import HandS.Text
import HandS.Iter
import HandS.Wide
import HandS.WideBits
import HandS.Zip
import KE.GoesMore
import KE.GoesNew
import PyProof.FString2
import HandS.ForExc
import HandS.ExcInit
import HandS.ExcField
import HandS.HotCalls
import HandS.ExcIs
import KE.KExcIs
import KE.KExcInit
import KE.DataFind
import HandS.Lambda
import HandS.HeadWalk
import HandS.HeadHook3
import HandS.HeadHook4
import PyProof.ReprRoads
import KE.KNestM
import PyProof.Rows.StrJoinMade
import HandS.List
import PyProof.ReprLoop
import PyProof.ReprHeads
import PyProof.ReprHeadsEmpty
import PyProof.StrHeap
import PyProof.FString
import HandS.MakeKwOnly
import HandS.SetFor
import HandS.Strs
import HandS.Deep
import HandS.Set
import HandS.TupMul
import PySem.Challenge.RW_roadpence_k04_rates_of_days
set_option Elab.async false
set_option linter.all false
set_option maxRecDepth 100000
set_option maxHeartbeats 4000000
namespace Rp
open PySem PySem.Spec PyProof.Rows L2
/-! ### wishes -/
/-! each a structure, so that no unification unfolds it -/
structure wE (X : Cx) (e : Expr) (σ : L2.St) (H : Hp) (Q : VK) : Prop where
  run : ∀ (pins : List (Addr × Obj)) (s : Shared), Inv X pins σ H s → wpAny (model X.prog X.w) X.A (eval e X.env) (EP X pins σ Q) X.xe s
structure wT (X : Cx) (e : Expr) (σ : L2.St) (H : Hp) (Q : Bool → Hp → Prop) : Prop where
  run : ∀ (pins : List (Addr × Obj)) (s : Shared), Inv X pins σ H s → wpAny (model X.prog X.w) X.A (isTrue e X.env (eval e X.env)) (TP X pins σ Q) X.xe s
structure wW (X : Cx) (e : Expr) (σ : L2.St) (H : Hp) (Q : Bool → Hp → Prop) : Prop where
  run : ∀ (whole : Sem Value) (pins : List (Addr × Obj)) (s : Shared), Inv X pins σ H s → wpAny (model X.prog X.w) X.A (isTrue e X.env whole) (TP X pins σ Q) X.xe s
structure wA (X : Cx) (es : List Expr) (σ : L2.St) (H : Hp) (Q : List V → Hp → Prop) : Prop where
  run : ∀ (pos : Pos) (pins : List (Addr × Obj)) (s : Shared), Inv X pins σ H s → wpAny (model X.prog X.w) X.A (spliced (backTo pos (starEach es X.env))) (AP X pins σ Q) X.xe s
structure wK (X : Cx) (kws : List Keyword) (σ : L2.St) (H : Hp) (Q : List V → Hp → Prop) : Prop where
  run : ∀ (pos : Pos) (pins : List (Addr × Obj)) (s : Shared), Inv X pins σ H s → wpAny (model X.prog X.w) X.A (evalAll ((backToKw pos (keywordEach kws X.env)).map (·.2))) (AP X pins σ Q) X.xe s
structure wS (X : Cx) (st : Stmt) (D : Ends) (σ : L2.St) (H : Hp) : Prop where
  run : ∀ (pins : List (Addr × Obj)) (s : Shared), Inv X pins σ H s → wpAny (model X.prog X.w) X.A (exec st X.env) (SP X pins D) X.xe s
structure wB (X : Cx) (st : List Stmt) (D : Ends) (σ : L2.St) (H : Hp) : Prop where
  run : ∀ (pins : List (Addr × Obj)) (s : Shared), Inv X pins σ H s → wpAny (model X.prog X.w) X.A (execs st X.env) (SP X pins D) X.xe s
structure wG (X : Cx) (tg : Expr) (v : V) (σ : L2.St) (H : Hp) (Q : L2.St → Hp → Prop) : Prop where
  run : ∀ (pins : List (Addr × Obj)) (s : Shared) (u : Value), Inv X pins σ H s → RelV v u →
  wpAny (model X.prog X.w) X.A (assign tg X.env u) (fun _ s' => ∃ σ' H', Inv X pins σ' H' s' ∧ Q σ' H') X.xe s
structure wGs (X : Cx) (ts : List Expr) (vs : List V) (σ : L2.St) (H : Hp) (Q : L2.St → Hp → Prop) : Prop where
  run : ∀ (pins : List (Addr × Obj)) (s : Shared) (us : List Value), Inv X pins σ H s → Vals vs us →
  wpAny (model X.prog X.w) X.A (assignInOrder ((assignEach ts X.env).map (·.2)) us) (fun _ s' => ∃ σ' H', Inv X pins σ' H' s' ∧ Q σ' H') X.xe s
structure wO (X : Cx) (f : Value → Value → Sem Value) (x y : V) (H : Hp) (Q : VK) : Prop where
  run : ∀ (pins : List (Addr × Obj)) (s : Shared) (σ : L2.St) (v u : Value), Inv X pins σ H s → RelV x v → RelV y u →
  wpAny (model X.prog X.w) X.A (f v u) (EP X pins σ Q) X.xe s
structure wU (X : Cx) (f : Value → Sem Value) (x : V) (H : Hp) (Q : VK) : Prop where
  run : ∀ (pins : List (Addr × Obj)) (s : Shared) (σ : L2.St) (v : Value), Inv X pins σ H s → RelV x v →
  wpAny (model X.prog X.w) X.A (f v) (EP X pins σ Q) X.xe s
structure wC (X : Cx) (f : Value) (xs : List V) (H : Hp) (Q : VK) : Prop where
  run : ∀ (pins : List (Addr × Obj)) (s : Shared) (σ : L2.St) (us : List Value), Inv X pins σ H s → Vals xs us →
  wpAny (model X.prog X.w) X.A (call f us) (EP X pins σ Q) X.xe s
structure wIx (X : Cx) (value slice : Expr) (x y : V) (H : Hp) (Q : VK) : Prop where
  run : ∀ (pins : List (Addr × Obj)) (s : Shared) (σ : L2.St) (v u : Value), Inv X pins σ H s → RelV x v → RelV y u →
  wpAny (model X.prog X.w) X.A (subscriptTail value slice v u) (EP X pins σ Q) X.xe s
section
variable {X : Cx} {e a b c : Expr} {es : List Expr} {kws : List Keyword} {st : Stmt} {sts rest : List Stmt} {t : TE} {tt : TT} {ta : TA} {ts : TS} {r : R2} {σ : L2.St} {H : Hp} {Q : VK} {QB : Bool → Hp → Prop} {QA : List V → Hp → Prop} {D : Ends} {pos : Pos}
theorem wE.pe : PE X e (wE X e) := ⟨fun pins s σ H Q I h => h.run pins s I⟩
theorem wE.of (h : PE X e t) (q : t σ H Q) : wE X e σ H Q := ⟨fun pins s I => h.run pins s σ H Q I q⟩
theorem wT.pt : PT X e (wT X e) := ⟨fun pins s σ H Q I h => h.run pins s I⟩
theorem wT.of (h : PT X e tt) (q : tt σ H QB) : wT X e σ H QB := ⟨fun pins s I => h.run pins s σ H QB I q⟩
theorem wW.pw : PW X e (wW X e) := ⟨fun wh pins s σ H Q I h => h.run wh pins s I⟩
theorem wW.of (h : PW X e tt) (q : tt σ H QB) : wW X e σ H QB := ⟨fun wh pins s I => h.run wh pins s σ H QB I q⟩
theorem wA.pa : PA X es (wA X es) := ⟨fun pos pins s σ H Q I h => h.run pos pins s I⟩
theorem wA.of (h : PA X es ta) (q : ta σ H QA) : wA X es σ H QA := ⟨fun pos pins s I => h.run pos pins s σ H QA I q⟩
theorem wK.pk : PK X kws (wK X kws) := ⟨fun pos pins s σ H Q I h => h.run pos pins s I⟩
theorem wK.of (h : PK X kws ta) (q : ta σ H QA) : wK X kws σ H QA := ⟨fun pos pins s I => h.run pos pins s σ H QA I q⟩
theorem wS.ps : PS X st (wS X st) := ⟨fun pins s σ H D I h => h.run pins s I⟩
theorem wS.of (h : PS X st ts) (q : ts D σ H) : wS X st D σ H := ⟨fun pins s I => h.run pins s σ H D I q⟩
theorem wB.pss : PSs X sts (wB X sts) := ⟨fun pins s σ H D I h => h.run pins s I⟩
theorem wB.of (h : PSs X sts ts) (q : ts D σ H) : wB X sts D σ H := ⟨fun pins s I => h.run pins s σ H D I q⟩
theorem wG.pg : PG X e (wG X e) := ⟨fun pins s σ H v u Q I r h => h.run pins s u I r⟩
theorem wG.of {g : TG} {v : V} {QS : L2.St → Hp → Prop} (h : PG X e g) (q : g v σ H QS) : wG X e v σ H QS := ⟨fun pins s u I r => h.run pins s σ H v u QS I r q⟩
theorem wGs.pgs : PGs X es (wGs X es) := ⟨fun pins s σ H v u Q I r h => h.run pins s u I r⟩
theorem wGs.of {g : TGs} {vs : List V} {QS : L2.St → Hp → Prop} (h : PGs X es g) (q : g vs σ H QS) : wGs X es vs σ H QS := ⟨fun pins s u I r => h.run pins s σ H vs u QS I r q⟩
theorem wO.op {f : Value → Value → Sem Value} : OpR X f (wO X f) := fun pins s σ H x y v u Q I rx ry q => q.run pins s σ v u I rx ry
theorem wO.of {f : Value → Value → Sem Value} {x y : V} (h : OpR X f r) (q : r x y H Q) : wO X f x y H Q := ⟨fun pins s σ v u I rx ry => h pins s σ H x y v u Q I rx ry q⟩
theorem wU.un {f : Value → Sem Value} : UnR X f (wU X f) := fun pins s σ H x v Q I rx q => q.run pins s σ v I rx
theorem wU.of {f : Value → Sem Value} {x : V} {ru : V → Hp → VK → Prop} (h : UnR X f ru) (q : ru x H Q) : wU X f x H Q := ⟨fun pins s σ v I rx => h pins s σ H x v Q I rx q⟩
theorem wC.call {f : Value} : CallR X f (wC X f) := fun pins s σ H xs us Q I r q => q.run pins s σ us I r
theorem wC.of {f : Value} {vs : List V} {rc : List V → Hp → VK → Prop} (h : CallR X f rc) (q : rc vs H Q) : wC X f vs H Q := ⟨fun pins s σ us I r => h pins s σ H vs us Q I r q⟩
def IsB (z : V) (R : Bool → Prop) : Prop := ∃ k, z = .bl k ∧ R k
theorem isB {k : Bool} {R : Bool → Prop} (q : R k) : IsB (.bl k) R := ⟨k, rfl, q⟩
/-! ### names -/
/-- the name x stands with the value v -/
inductive Lk : List Str → L2.St → Str → V → Prop where
  | here {N σ x v} : Lk (x :: N) (some v :: σ) x v
  | there {N σ x v y w} : Lk N σ x v → Lk (y :: N) (w :: σ) x v
inductive Pt : List Str → L2.St → Str → V → L2.St → Prop where
  | here {N σ x v w} : Pt (x :: N) (w :: σ) x v (some v :: σ)
  | there {N σ σ' x v y w} : Pt N σ x v σ' → Pt (y :: N) (w :: σ) x v (w :: σ')
def Put (N : List Str) (σ : L2.St) (x : Str) (v : V) (R : L2.St → Prop) : Prop := ∃ σ', Pt N σ x v σ' ∧ R σ'
theorem put_i {N : List Str} {σ σ1 : L2.St} {x : Str} {v : V} {R : L2.St → Prop} (pt : Pt N σ x v σ1) (q : R σ1) : Put N σ x v R := ⟨_, pt, q⟩
theorem Lk.ix : ∀ {N σ x v}, Lk N σ x v → ∃ i : Nat, N[i]? = some x ∧ σ[i]? = some (some v)
  | _, _, _, _, .here => ⟨0, rfl, rfl⟩
  | _, _, _, _, .there h => let ⟨i, a, b⟩ := h.ix; ⟨i + 1, a, b⟩
theorem Pt.ix : ∀ {N σ x v σ'}, Pt N σ x v σ' → ∃ i : Nat, N[i]? = some x ∧ σ' = σ.set i (some v)
  | _, _, _, _, _, .here => ⟨0, rfl, rfl⟩
  | _, _, _, _, _, .there h => let ⟨i, a, b⟩ := h.ix; ⟨i + 1, a, by rw [b]; rfl⟩
/-- what of the names must be: V the names that are seen, S those that are stored, G the globals and built-ins -/
def namesOk (V S G : List Str) (sc : Scope) : Bool :=
  (V.all fun x => ((sc.names.lookup x == some .local) || (sc.names.lookup x == some .cell) || (sc.names.lookup x == some .free)) && !(x == ("__debug__" : Str)) && !(x == ("__classdict__" : Str))) &&
  (S.all fun x => (sc.names.lookup x == some .local) || (sc.names.lookup x == some .cell)) &&
  (G.all fun x => (sc.names.lookup x == some .globalImplicit) && !(x == ("__debug__" : Str)) && !(x == ("__name__" : Str)))
structure CxI (P : Program) (w : World) (K : PySem.W.Frag) (mg : Str → Option Value) (base : Heap) (k : Nat) (N Vz Sz G : List Str) (sc : Scope) (X : Cx) : Prop where
  eP : X.prog = P
  ew : X.w = w
  eK : X.K = K
  em : X.mg = mg
  eb : X.base = base
  eN : X.N = N
  es : X.env.scope = sc
  room : Room k X.A
  calm : X.calm = true
  fn : (∀ x, X.fn x = true) ∨ ∀ x ∈ Sz, sc.names.lookup x = some .local
  po : PassesOwn (model X.prog X.w) X.A X.env X.xe
  nd : N.Nodup
  ok : namesOk Vz Sz G sc = true
  fk : sc.kind = .function
section
variable {P : Program} {w : World} {K : PySem.W.Frag} {mg : Str → Option Value} {base : Heap} {k : Nat} {N Vz Sz G : List Str} {sc : Scope} {x : Str} {v : V} {p : Pos}
theorem CxI.vis (C : CxI P w K mg base k N Vz Sz G sc X) (h : x ∈ Vz) : Vis X.env.scope x ∧ (x == ("__debug__" : Str)) = false ∧ (x == ("__classdict__" : Str)) = false := by
  have q := C.ok
  unfold namesOk at q
  rw [Bool.and_eq_true, Bool.and_eq_true] at q
  have q1 := List.all_eq_true.mp q.1.1 x h
  rw [Bool.and_eq_true, Bool.and_eq_true, Bool.or_eq_true, Bool.or_eq_true] at q1
  obtain ⟨⟨a, b⟩, c⟩ := q1
  rw [C.es]
  refine ⟨?_, by simpa using b, by simpa using c⟩
  rcases a with (a | a) | a
  · exact .inl (eq_of_beq a)
  · exact .inr (.inl (eq_of_beq a))
  · exact .inr (.inr (eq_of_beq a))
theorem CxI.loc (C : CxI P w K mg base k N Vz Sz G sc X) (h : x ∈ Sz) : Loc X.env.scope x ∧ (X.fn x = true ∨ X.env.scope.names.lookup x = some .local) := by
  have q := C.ok
  unfold namesOk at q
  rw [Bool.and_eq_true, Bool.and_eq_true] at q
  have q1 := List.all_eq_true.mp q.1.2 x h
  rw [Bool.or_eq_true] at q1
  rw [C.es]
  refine ⟨?_, ?_⟩
  · rcases q1 with a | a
    · exact .inl (eq_of_beq a)
    · exact .inr (eq_of_beq a)
  · rcases C.fn with f | f
    · exact .inl (f x)
    · exact .inr (f x h)
theorem CxI.glo (C : CxI P w K mg base k N Vz Sz G sc X) (h : x ∈ G) : Gl X x ∧ (x == ("__debug__" : Str)) = false ∧ x ≠ "__name__" := by
  have q := C.ok
  unfold namesOk at q
  rw [Bool.and_eq_true, Bool.and_eq_true] at q
  have q1 := List.all_eq_true.mp q.2 x h
  rw [Bool.and_eq_true, Bool.and_eq_true] at q1
  obtain ⟨⟨a, b⟩, c⟩ := q1
  refine ⟨?_, by simpa using b, by simpa using c⟩
  show X.env.scope.names.lookup x = _
  rw [C.es]
  exact eq_of_beq a
theorem wE_name (C : CxI P w K mg base k N Vz Sz G sc X) (hx : x ∈ Vz) (h : Lk N σ x v) (q : Q v H) : wE X (.Name x p) σ H Q := by
  obtain ⟨i, h1, h2⟩ := h.ix
  obtain ⟨l, d1, d2⟩ := C.vis hx
  exact wE.of (pe_var (i := i) (by rw [C.eN]; exact h1) l d1 d2) ⟨v, h2, q⟩
theorem wE_glob {u : Value} (C : CxI P w K mg base k N Vz Sz G sc X) (h : x ∈ G) (hm : mg x = some u) (r : RelV v u) (q : Q v H) : wE X (.Name x p) σ H Q := by
  obtain ⟨l, d1, d2⟩ := C.glo h
  exact wE.of (pe_glob l (by rw [C.em]; exact hm) r d1) q
/-! ### constants and displays -/
theorem wE_int {i j} (q : Q (.int i) H) : wE X (.Constant (.int i) j p) σ H Q := wE.of pe_int q
theorem wE_bl {i j} (q : Q (.bl i) H) : wE X (.Constant (.bool i) j p) σ H Q := wE.of pe_bl q
theorem wE_non {j} (q : Q .non H) : wE X (.Constant .none j p) σ H Q := wE.of pe_non q
theorem wE_str {z j} (q : Q (.str z) H) : wE X (.Constant (.str z) j p) σ H Q := wE.of pe_str q
theorem wA_nil (q : QA [] H) : wA X [] σ H QA := wA.of pa_nil q
theorem wA_cons (hs : starEach (e :: es) X.env = (false, eval e X.env) :: starEach es X.env) (q : wE X e σ H fun x H1 => wA X es σ H1 fun xs H2 => QA (x :: xs) H2) : wA X (e :: es) σ H QA := wA.of (pa_cons wE.pe wA.pa hs) q
theorem wK_nil (q : QA [] H) : wK X [] σ H QA := wK.of pk_nil q
theorem wK_cons {nm kp} (q : wE X e σ H fun x H1 => wK X kws σ H1 fun xs H2 => QA (x :: xs) H2) : wK X (⟨nm, e, kp⟩ :: kws) σ H QA := wK.of (pk_cons wE.pe wK.pk) q
/-! ### heaps -/
/-- all that is known stays -/
def Ex (H H' : Hp) : Prop := ∀ a o, H a = some o → H' a = some o
theorem Ex.refl (H : Hp) : Ex H H := fun _ _ h => h
theorem Ex.trans {H H1 H2 : Hp} (a : Ex H H1) (b : Ex H1 H2) : Ex H H2 := fun c o h => b c o (a c o h)
/-- but for the object at b -/
def Exb (b0 : Addr) (H H' : Hp) : Prop := ∀ a o, a ≠ b0 → H a = some o → H' a = some o
theorem Ex.upd {H : Hp} {p : Addr} {o : HO} (h : H p = none) : Ex H (upd H p o) := fun a u e => by rw [upd_ne (ne_of_none e h)]; exact e
theorem Exb.upd {H : Hp} {p : Addr} {o : HO} : Exb p H (upd H p o) := fun a u n e => by rw [upd_ne n]; exact e
theorem Ex.toB {H H' : Hp} {b0 : Addr} (h : Ex H H') : Exb b0 H H' := fun a o _ q => h a o q
theorem Exb.trans {b0 : Addr} {H H1 H2 : Hp} (x : Exb b0 H H1) (y : Exb b0 H1 H2) : Exb b0 H H2 := fun c o n h => y c o n (x c o n h)
theorem wE_tup {x1} (q : wA X es σ H fun xs H1 => xs.length ≤ sizeLine ∧ ∀ p H2, H1 p = none → Ex H1 H2 → H2 p = some (.tup xs) → Q (.ref p) H2) : wE X (.Tuple es x1 pos) σ H Q :=
  wE.of (pe_tup wA.pa) (⟨fun pos pins s I => wpAny_mono (q.run pos pins s I) (fun us s' ⟨xs, H1, I1, r, z, q1⟩ => ⟨xs, H1, I1, r, z, fun p hp => q1 p _ hp (Ex.upd hp) upd_same⟩) fun _ _ z => z⟩)
theorem wE_lst (q : wA X es σ H fun xs H1 => xs.length ≤ sizeLine ∧ ∀ p H2, H1 p = none → Ex H1 H2 → H2 p = some (.lst xs) → Q (.ref p) H2) : wE X (.List es pos) σ H Q :=
  wE.of (pe_lst wA.pa) (⟨fun pos pins s I => wpAny_mono (q.run pos pins s I) (fun us s' ⟨xs, H1, I1, r, z, q1⟩ => ⟨xs, H1, I1, r, z, fun p hp => q1 p _ hp (Ex.upd hp) upd_same⟩) fun _ _ z => z⟩)
/-! ### operators -/
theorem wE_bin {op} (q : wE X a σ H fun x H1 => wE X b σ H1 fun y H2 => wO X (binaryOp op) x y H2 Q) : wE X (.BinOp a op b pos) σ H Q := wE.of (pe_op wO.op wE.pe wE.pe) q
theorem wE_un {op} (q : wE X a σ H fun x H1 => wU X (unaryOp op) x H1 Q) : wE X (.UnaryOp op a pos) σ H Q := wE.of (pe_un wU.un wE.pe) q
theorem wE_cmp {op} (hm : behindInMarks op b = false) (q : wE X a σ H fun x H1 => wE X b σ H1 fun y H2 => wO X (compareOp op) x y H2 Q) : wE X (.Compare a [op] [b] pos) σ H Q := wE.of (pe_cmpR wO.op wE.pe wE.pe hm) q
theorem wE_chain {op op'} (hm : lastMarks [op, op'] [b, c] = false) (q : wE X a σ H fun x H1 => wE X b σ H1 fun y H2 => wO X (compareOp op) x y H2 fun z H3 => IsB z fun k =>
    (if k = true then wE X c σ H3 fun w H4 => wO X (compareOp op') y w H4 Q else Q (.bl false) H3)) : wE X (.Compare a [op, op'] [b, c] pos) σ H Q := wE.of (pe_chain wO.op wO.op wE.pe wE.pe wE.pe hm) q
theorem wE_ifexp (q : wT X c σ H fun k H1 => if k = true then wE X a σ H1 Q else wE X b σ H1 Q) : wE X (.IfExp c a b pos) σ H Q := wE.of (pe_ifExp wT.pt wE.pe wE.pe) q
theorem wE_and {rest : List Expr} (q : wE X a σ H fun x H1 => IsB x fun c => if c = true then wE X (.BoolOp .And (b :: rest) pos) σ H1 Q else Q (.bl false) H1) : wE X (.BoolOp .And (a :: b :: rest) pos) σ H Q := wE.of (pe_and wE.pe wE.pe) q
theorem wE_or {rest : List Expr} (q : wE X a σ H fun x H1 => IsB x fun c => if c = true then Q (.bl true) H1 else wE X (.BoolOp .Or (b :: rest) pos) σ H1 Q) : wE X (.BoolOp .Or (a :: b :: rest) pos) σ H Q := wE.of (pe_or wE.pe wE.pe) q
theorem wE_one {op} (q : wE X a σ H Q) : wE X (.BoolOp op [a] pos) σ H Q := wE.of (pe_one wE.pe) q
theorem wE_not (q : wE X a σ H fun x H1 => IsB x fun c => Q (.bl (!c)) H1) : wE X (.UnaryOp .Not a pos) σ H Q := wE.of (pe_not wE.pe) q
theorem wE_ix (hs : PlainIx b) (q : wE X a σ H fun x H1 => wE X b σ H1 fun y H2 => wIx X a b x y H2 Q) : wE X (.Subscript a b pos) σ H Q :=
  wE.of (t := tOp (wIx X a b) (wE X a) (wE X b)) ⟨fun pins s σ H Q I h => Subscript_ (binT wE.pe wE.pe I h fun v u s2 x y H2 I2 rx ry q => q.run pins s2 σ v u I2 rx ry)⟩ q
theorem wIx_of {value slice : Expr} {x y : V} (hr : IxR X r) (hs : PlainIx slice) (q : r x y H Q) : wIx X value slice x y H Q := ⟨fun pins s σ v u I rx ry => hr value slice pins s σ H x y v u Q I rx ry q (hs _ _)⟩
/-! tests -/
theorem wT_cmp {op} (hm : behindInMarks op b = false) (q : wE X a σ H fun x H1 => wE X b σ H1 fun y H2 => wO X (compareOp op) x y H2 fun z H3 => IsB z fun k => QB k H3) : wT X (.Compare a [op] [b] pos) σ H QB := wT.of (pt_cmpR wO.op wE.pe wE.pe hm) q
theorem wT_chain {op op'} (hm : lastMarks [op, op'] [b, c] = false) (q : wE X a σ H fun x H1 => wE X b σ H1 fun y H2 => wO X (compareOp op) x y H2 fun z H3 => IsB z fun k =>
    (if k = true then wE X c σ H3 fun w H4 => wO X (compareOp op') y w H4 fun z H5 => IsB z fun k => QB k H5 else IsB (V.bl false) fun k => QB k H3)) : wT X (.Compare a [op, op'] [b, c] pos) σ H QB := wT.of (pt_chain wO.op wO.op wE.pe wE.pe wE.pe hm) q
theorem wT_val (he : ∀ whole, isTrue e X.env whole = (do let v ← whole; standAt e.pos; holding [v] (truthy v))) (q : wE X e σ H fun x H1 => IsB x fun k => QB k H1) : wT X e σ H QB := wT.of (pt_val wE.pe he) q
theorem wT_truth (he : ∀ whole, isTrue e X.env whole = (do let v ← whole; standAt e.pos; holding [v] (truthy v))) (q : wE X e σ H fun x H1 => ∃ k, TruV X.K x H1 k ∧ QB k H1) : wT X e σ H QB := wT.of (pt_truth wE.pe he) q
theorem wT_not (q : wT X a σ H fun k H1 => QB (!k) H1) : wT X (.UnaryOp .Not a pos) σ H QB := wT.of (pt_not wT.pt) q
theorem wT_and (q : wW X (.BoolOp .And es pos) σ H QB) : wT X (.BoolOp .And es pos) σ H QB := wT.of wW.pw.pt q
theorem wT_or (q : wW X (.BoolOp .Or es pos) σ H QB) : wT X (.BoolOp .Or es pos) σ H QB := wT.of wW.pw.pt q
theorem wW_and {rest : List Expr} (q : wT X a σ H fun c H1 => if c = true then wW X (.BoolOp .And (b :: rest) pos) σ H1 QB else QB false H1) : wW X (.BoolOp .And (a :: b :: rest) pos) σ H QB := wW.of (pw_and wT.pt wW.pw) q
theorem wW_or {rest : List Expr} (q : wT X a σ H fun c H1 => if c = true then QB true H1 else wW X (.BoolOp .Or (b :: rest) pos) σ H1 QB) : wW X (.BoolOp .Or (a :: b :: rest) pos) σ H QB := wW.of (pw_or wT.pt wW.pw) q
theorem wW_and1 (q : wT X a σ H QB) : wW X (.BoolOp .And [a] pos) σ H QB := wW.of (pw_and1 wT.pt) q
theorem wW_or1 (q : wT X a σ H QB) : wW X (.BoolOp .Or [a] pos) σ H QB := wW.of (pw_or1 wT.pt) q
/-! ### statements -/
theorem wB_nil (q : D.nx σ H) : wB X [] D σ H := wB.of pss_nil q
theorem wB_cons (q : wS X st { D with nx := fun σ' H' => wB X rest D σ' H' } σ H) : wB X (st :: rest) D σ H := wB.of (pss_cons wS.ps wB.pss) q
theorem wS_pass (q : D.nx σ H) : wS X (.Pass pos) D σ H := wS.of ps_pass q
theorem wS_ret (q : wE X e σ H D.rt) : wS X (.Return (some e) pos) D σ H := wS.of (ps_ret wE.pe) q
theorem wS_retN (q : D.rt .non H) : wS X (.Return none pos) D σ H := wS.of ps_retN q
theorem wS_if {s1 s2 : List Stmt} (q : wT X c σ H fun k H1 => if k = true then wB X s1 D σ H1 else wB X s2 D σ H1) : wS X (.If c s1 s2 pos) D σ H := wS.of (ps_if wT.pt wB.pss wB.pss) q
theorem wS_expr (hs : swapsWith e none pos.line X.env = pure false) (q : wE X e σ H fun _ H1 => D.nx σ H1) : wS X (.Expr e pos) D σ H := wS.of (ps_expr wE.pe hs) q
theorem wS_set {pos' : Pos} (C : CxI P w K mg base k N Vz Sz G sc X) (hx : x ∈ Sz) (hs : swapsWith e (some (.Name x pos')) pos.line X.env = pure false) (q : wE X e σ H fun v H1 => Put N σ x v fun σ' => D.nx σ' H1) : wS X (.Assign [.Name x pos'] e pos) D σ H := by
  refine ⟨fun pins s I => ?_⟩
  refine wpAny_Assign_Name (thn (q.run pins s I) fun v s1 ⟨y, H1, I1, r1, σ', hp, q1⟩ => ?_) hs
  obtain ⟨i, h1, rfl⟩ := hp.ix
  obtain ⟨l, hf⟩ := C.loc hx
  exact store_ok I1 (by rw [C.eN]; exact C.nd) (i := i) (by rw [C.eN]; exact h1) l r1 (fun s2 I2 => ⟨_, H1, I2, q1⟩) hf
theorem wS_asg {tg : Expr} (hs : swapsWithSole [tg] e pos.line X.env = pure false) (hw : swappedStores [tg] e X.env = pure none) (h1 : (assignEach [tg] X.env).map (·.2) = [assign tg X.env])
    (q : wE X e σ H fun v H1 => wG X tg v σ H1 D.nx) : wS X (.Assign [tg] e pos) D σ H := wS.of (ps_asg wE.pe wG.pg hs hw h1) q
theorem wG_name {QS : L2.St → Hp → Prop} (C : CxI P w K mg base k N Vz Sz G sc X) (hx : x ∈ Sz) (q : Put N σ x v fun σ' => QS σ' H) : wG X (.Name x pos) v σ H QS := by
  obtain ⟨σ', hp, q⟩ := q
  obtain ⟨i, h1, rfl⟩ := hp.ix
  obtain ⟨l, hf⟩ := C.loc hx
  exact wG.of (pg_name (i := i) (by rw [C.eN]; exact C.nd) (by rw [C.eN]; exact h1) l hf) q
theorem wGs_nil {QS : L2.St → Hp → Prop} (q : QS σ H) : wGs X [] [] σ H QS := wGs.of pgs_nil ⟨rfl, q⟩
theorem wGs_cons {QS : L2.St → Hp → Prop} {vs : List V} (hs : (assignEach (e :: es) X.env).map (·.2) = assign e X.env :: (assignEach es X.env).map (·.2)) (q : wG X e v σ H fun σ' H' => wGs X es vs σ' H' QS) : wGs X (e :: es) (v :: vs) σ H QS :=
  wGs.of (pgs_cons wG.pg wGs.pgs hs) ⟨v, vs, rfl, q⟩
theorem wG_tup {QS : L2.St → Hp → Prop} {x1} {ad : Addr} {xs : List V} (C : CxI P w K mg base k N Vz Sz G sc X) (hq : SqT K H ad xs) (hn : (assignEach es X.env).length = xs.length) (hst : (assignEach es X.env).findIdx? (·.1) = none)
    (q : wGs X es xs σ H QS) : wG X (.Tuple es x1 pos) (.ref ad) σ H QS :=
  wG.of (pg_tup C.calm wGs.pgs rfl hst) ⟨ad, xs, rfl, by rw [C.eK]; exact hq, hn.symm, q⟩
theorem wG_sub {QS : L2.St → Hp → Prop} {o i : Expr} {tS : TSet} (hS : PSet X tS) (ha : ∀ v, assign (.Subscript o i pos) X.env v = (do
      let ov ← holding [v] (eval o X.env)
      let iv ← holding [v, ov] (eval i X.env)
      standAt pos
      holding [v, ov, iv] (setItem ov iv v)
      release [v, ov, iv] [])) (q : wE X o σ H fun ov H1 => wE X i σ H1 fun iv H2 => tS ov iv v H2 fun H3 => QS σ H3) : wG X (.Subscript o i pos) v σ H QS := wG.of (pg_sub wE.pe wE.pe hS ha) q
end
end
end Rp
namespace Rp
open PySem PySem.Spec PyProof.Rows L2
section
variable {P : Program} {w : World} {K : PySem.W.Frag} {mg : Str → Option Value} {base : Heap} {k j : Nat} {N Vz Sz G ps : List Str} {sc : Scope} {x : Str} {v : V} {p : Pos} {X : Cx} {f : Addr} {fd : FuncData} {sp : Sp} {st : Stmt} {qual : Str}
/-- a def of the text, with whatever defaults -/
structure Fn (K : PySem.W.Frag) (x qual : Str) (st : Stmt) (f : Addr) (fd : FuncData) : Prop where
  ex : ∃ (dvs : List V) (kws : List (Str × V)), FunD K x qual (defArgs st) (defBody st) (defScope st) dvs kws f fd
/-- a def by its body -/
theorem fn_w (F : Fn K x qual st f fd) (S : FnScope N ps (defScope st)) (ok : namesOk Vz Vz G (defScope st) = true) (len : ∀ vs H Q E, sp vs H Q E → vs.length = ps.length)
    (body : ∀ (X : Cx) (vs : List V) (H : Hp) (Q : VK) (E : XK), CxI P w K mg base k N Vz Vz G (defScope st) X → sp vs H Q E → wB X (defBody st) { nx := fun _ H' => Q .non H', rt := Q } (start N vs) H) : FnOk P w K mg base CX0 (k + 1) f fd ps sp := by
  obtain ⟨dvs, kws, F⟩ := F.ex
  refine FunD.ok F S len fun cdv A outer s H vs Q E hr h => ?_
  exact ⟨_, PSs.nox wB.pss, body _ vs H Q E ⟨rfl, rfl, rfl, rfl, rfl, rfl, rfl, hr, rfl, .inl fun _ => rfl, PassesOwn.never, S.nd, ok, S.kind⟩ h⟩
/-- a def of the text as its callers see it -/
structure Df (P : Program) (w : World) (K : PySem.W.Frag) (mg : Str → Option Value) (base : Heap) (k : Nat) (x : Str) (ps : List Str) (dvs : List V) (sp : Sp) : Prop where
  ex : ∃ f fd ds, FnOk P w K mg base CX0 k f fd ps sp ∧ mg x = some (.ref f) ∧ PySem.W.keepIn K (.ref f) = true ∧ Binds K fd ps ds ∧ Vals dvs ds
variable {e a b : Expr} {es : List Expr} {σ : L2.St} {H : Hp} {Q : VK} {pos : Pos} {dvs : List V}
theorem wE_call (C : CxI P w K mg base k N Vz Sz G sc X) (D : Df P w K mg base j x ps dvs sp) (hx : x ∈ G) (hj : j ≤ k) (he : starEach (e :: es) X.env = (false, eval e X.env) :: starEach es X.env) (hpl : (backTo pos (starEach es X.env)).any (·.1) = false)
    (q : wA X (e :: es) σ H fun vs H1 => sp (vs ++ dvs) H1 Q E0) : wE X (.Call (.Name x p) (e :: es) [] pos) σ H Q := by
  obtain ⟨f, fd, ds, Fk, hm, kp, hb, hd⟩ := D.ex
  obtain ⟨l, d1, _⟩ := C.glo hx
  obtain ⟨rfl, rfl, rfl, rfl, rfl, _, _, hr, _, _, _, _, _⟩ := C
  exact wE.of (pe_call Fk (hr.mono hj) l hm kp hb hd pass0 wA.pa d1 he hpl) q
theorem wE_callB {id : String} (C : CxI P w K mg base k N Vz Sz G sc X) (hm : mg x = none) (hx : x ∈ G) (hv : bootBuiltins x = some (.builtin id)) (he : starEach (e :: es) X.env = (false, eval e X.env) :: starEach es X.env) (hpl : (backTo pos (starEach es X.env)).any (·.1) = false)
    (q : wA X (e :: es) σ H fun vs H1 => wC X (.builtin id) vs H1 Q) : wE X (.Call (.Name x p) (e :: es) [] pos) σ H Q := by
  obtain ⟨l, d1, d2⟩ := C.glo hx
  exact wE.of (pe_callB wC.call l (by rw [C.em]; exact hm) hv wA.pa d2 d1 he hpl) q
theorem wE_callT {id : String} (C : CxI P w K mg base k N Vz Sz G sc X) (hm : mg x = none) (hx : x ∈ G) (hv : bootBuiltins x = some (.type id)) (he : starEach (e :: es) X.env = (false, eval e X.env) :: starEach es X.env) (hpl : (backTo pos (starEach es X.env)).any (·.1) = false)
    (q : wA X (e :: es) σ H fun vs H1 => wC X (.type id) vs H1 Q) : wE X (.Call (.Name x p) (e :: es) [] pos) σ H Q := by
  obtain ⟨l, d1, d2⟩ := C.glo hx
  exact wE.of (pe_callTy wC.call l (by rw [C.em]; exact hm) hv wA.pa d2 d1 he hpl) q
/-! ### for over a range from 0, a list, a tuple -/
theorem wS_range1 {tg : Expr} {sts : List Stmt} {p1 p2 : Pos} {D : Ends} (C : CxI P w K mg base k N Vz Sz G sc X) (hm : mg "range" = none) (hx : ("range" : Str) ∈ G) (hs : starEach [e] X.env = [(false, eval e X.env)])
    (q : wE X e σ H fun v H1 => ∃ n : Nat, v = .int n ∧ n < 1000000 ∧ ∃ Pv : Nat → L2.St → Hp → Prop, Pv 0 σ H1 ∧ (∀ i σ H, i < n → Pv i σ H → wG X tg (.int i) σ H fun σ2 H2 => wB X sts { D with nx := Pv (i + 1), ct := Pv (i + 1), bk := D.nx } σ2 H2) ∧ ∀ σ H, Pv n σ H → D.nx σ H) :
    wS X (.For tg (.Call (.Name "range" p1) [e] [] p2) sts [] pos) D σ H := by
  obtain ⟨l, _, _⟩ := C.glo hx
  refine wS.of (ps_for C.po C.calm (pi_range1 l (by rw [C.em]; exact hm) (pa_cons wE.pe pa_nil hs) hs) wG.pg wB.pss (fun _ => rfl)) ?_
  refine ⟨fun pins s I => ?_⟩
  refine thn (q.run pins s I) ?_
  rintro u s' ⟨v, H1, I1, r, n, rfl, hn, Pv, h0, hs, hd⟩
  refine ⟨_, H1, I1, r, n, rfl, by omega, by omega, ?_⟩
  rw [show ((n : Int).toNat) = n from Int.toNat_natCast n]
  exact for_range (lo := 0) (n := n) Pv h0 (fun i σ H hi hp => by rw [Int.zero_add]; exact hs i σ H hi hp) hd
theorem wS_list {tg it : Expr} {sts : List Stmt} {D : Ends} (C : CxI P w K mg base k N Vz Sz G sc X) (hf : ∀ x, foldedSetIterable it X.env x = pure x) (q : wE X it σ H fun v H1 => ∃ ad xs, v = .ref ad ∧ SqL K H1 ad xs ∧ ∃ Pv : Nat → L2.St → Hp → Prop, Pv 0 σ H1 ∧
      (∀ i σ H, i ≤ xs.length → Pv i σ H → SqL K H ad xs) ∧ (∀ i y σ H, xs[i]? = some y → Pv i σ H → wG X tg y σ H fun σ2 H2 => wB X sts { D with nx := Pv (i + 1), ct := Pv (i + 1), bk := D.nx } σ2 H2) ∧ ∀ σ H, Pv xs.length σ H → D.nx σ H)
    (hi : PI X tg it (iList X.K (wE X it)) := by exact pi_list wE.pe) : wS X (.For tg it sts [] pos) D σ H := by
  refine wS.of (ps_for C.po C.calm hi wG.pg wB.pss hf) ?_
  refine ⟨fun pins s I => ?_⟩
  refine thn (q.run pins s I) ?_
  rintro u s' ⟨v, H1, I1, r, ad, xs, rfl, hS, Pv, h0, hl, hs, hd⟩
  exact ⟨_, H1, I1, r, ad, rfl, ⟨xs, by rw [C.eK]; exact hS⟩, for_list (xs := xs) Pv h0 (fun i σ H hi hp => by rw [C.eK]; exact hl i σ H hi hp) hs hd⟩
theorem wS_tup {tg it : Expr} {sts : List Stmt} {D : Ends} (C : CxI P w K mg base k N Vz Sz G sc X) (hf : ∀ x, foldedSetIterable it X.env x = pure x) (q : wE X it σ H fun v H1 => ∃ ad xs, v = .ref ad ∧ SqT K H1 ad xs ∧ ∃ Pv : Nat → L2.St → Hp → Prop, Pv 0 σ H1 ∧
      (∀ i σ H, i ≤ xs.length → Pv i σ H → SqT K H ad xs) ∧ (∀ i y σ H, xs[i]? = some y → Pv i σ H → wG X tg y σ H fun σ2 H2 => wB X sts { D with nx := Pv (i + 1), ct := Pv (i + 1), bk := D.nx } σ2 H2) ∧ ∀ σ H, Pv xs.length σ H → D.nx σ H)
    : wS X (.For tg it sts [] pos) D σ H := by
  refine wS.of (ps_for C.po C.calm (pi_tup wE.pe) wG.pg wB.pss hf) ?_
  refine ⟨fun pins s I => ?_⟩
  refine thn (q.run pins s I) ?_
  rintro u s' ⟨v, H1, I1, r, ad, xs, rfl, hS, Pv, h0, hl, hs, hd⟩
  exact ⟨_, H1, I1, r, ad, rfl, ⟨xs, by rw [C.eK]; exact hS⟩, for_tup (xs := xs) Pv h0 (fun i σ H hi hp => by rw [C.eK]; exact hl i σ H hi hp) hs hd⟩
/-! ### operations by values -/
variable {m n : Int}
theorem o_add (q : Q (.int (m + n)) H) : wO X (binaryOp .Add) (.int m) (.int n) H Q := wO.of op_add ⟨m, n, rfl, rfl, q⟩
theorem o_sub (q : Q (.int (m - n)) H) : wO X (binaryOp .Sub) (.int m) (.int n) H Q := wO.of op_sub ⟨m, n, rfl, rfl, q⟩
theorem o_mulL (h1 : -(2 ^ 64) < m) (h2 : m < 2 ^ 64) (q : Q (.int (m * n)) H) : wO X (binaryOp .Mult) (.int m) (.int n) H Q := wO.of op_mul ⟨m, n, rfl, rfl, .inl ⟨h1, h2⟩, q⟩
theorem o_mulR (h1 : -(2 ^ 64) < n) (h2 : n < 2 ^ 64) (q : Q (.int (m * n)) H) : wO X (binaryOp .Mult) (.int m) (.int n) H Q := wO.of op_mul ⟨m, n, rfl, rfl, .inr ⟨h1, h2⟩, q⟩
theorem o_div (h1 : 0 < n) (h2 : n < 1073741824) (q : Q (.int (m / n)) H) : wO X (binaryOp .FloorDiv) (.int m) (.int n) H Q := wO.of op_fdiv ⟨m, n, rfl, rfl, ⟨h1, h2⟩, q⟩
theorem o_mod (h1 : 0 < n) (q : Q (.int (m % n)) H) : wO X (binaryOp .Mod) (.int m) (.int n) H Q := wO.of op_mod ⟨m, n, rfl, rfl, h1, q⟩
theorem o_pow (h0 : 0 ≤ n) (h1 : n ≤ 1000000) (h2 : m.natAbs < 2 ^ 64) (q : Q (.int (m ^ n.toNat)) H) : wO X (binaryOp .Pow) (.int m) (.int n) H Q := wO.of op_pow ⟨m, n, rfl, rfl, ⟨h0, h1, h2⟩, q⟩
theorem o_lt (q : Q (.bl (decide (m < n))) H) : wO X (compareOp .Lt) (.int m) (.int n) H Q := wO.of op_lt ⟨m, n, rfl, rfl, q⟩
theorem o_le (q : Q (.bl (decide (m ≤ n))) H) : wO X (compareOp .LtE) (.int m) (.int n) H Q := wO.of op_le ⟨m, n, rfl, rfl, q⟩
theorem o_gt (q : Q (.bl (decide (n < m))) H) : wO X (compareOp .Gt) (.int m) (.int n) H Q := wO.of op_gt ⟨m, n, rfl, rfl, q⟩
theorem o_ge (q : Q (.bl (decide (n ≤ m))) H) : wO X (compareOp .GtE) (.int m) (.int n) H Q := wO.of op_ge ⟨m, n, rfl, rfl, q⟩
theorem o_eqI (q : Q (.bl (decide (m = n))) H) : wO X (compareOp .Eq) (.int m) (.int n) H Q := wO.of op_eq ⟨rfl, by rw [show decide (V.int m = V.int n) = decide (m = n) by simp]; exact q⟩
theorem o_neI (q : Q (.bl (decide (m ≠ n))) H) : wO X (compareOp .NotEq) (.int m) (.int n) H Q := wO.of op_ne ⟨rfl, by rw [show (!decide (V.int m = V.int n)) = decide (m ≠ n) by simp]; exact q⟩
theorem o_isN {y : V} (q : Q (.bl (decide (y = .non))) H) : wO X (compareOp .Is) y .non H Q := wO.of op_isN ⟨rfl, q⟩
theorem o_notN {y : V} (q : Q (.bl (!decide (y = .non))) H) : wO X (compareOp .IsNot) y .non H Q := wO.of op_notN ⟨rfl, q⟩
theorem o_neg (q : Q (.int (-m)) H) : wU X (unaryOp .USub) (.int m) H Q := wU.of un_neg ⟨m, rfl, q⟩
theorem i_list {c d : Expr} {ad : Addr} {xs : List V} (C : CxI P w K mg base k N Vz Sz G sc X) (hs : PlainIx d) (h : SqL K H ad xs) (hi : atI xs m = some v) (q : Q v H) : wIx X c d (.ref ad) (.int m) H Q :=
  wIx_of ix_list hs ⟨ad, xs, m, v, rfl, rfl, by rw [C.eK]; exact h, hi, q⟩
theorem i_tup {c d : Expr} {ad : Addr} {xs : List V} (C : CxI P w K mg base k N Vz Sz G sc X) (hs : PlainIx d) (h : SqT K H ad xs) (hi : atI xs m = some v) (q : Q v H) : wIx X c d (.ref ad) (.int m) H Q :=
  wIx_of ix_tup hs ⟨ad, xs, m, v, rfl, rfl, by rw [C.eK]; exact h, hi, q⟩
theorem atI_mem {α : Type} {xs : List α} (h0 : 0 ≤ m) (h1 : m < xs.length) : ∃ v, atI xs m = some v ∧ v ∈ xs := by
  have e : ixN xs.length m = some m.toNat := by unfold ixN; rw [if_pos h0, if_pos h1]
  have hl : m.toNat < xs.length := by omega
  refine ⟨xs[m.toNat], ?_, List.getElem_mem hl⟩
  unfold atI
  rw [e]
  exact List.getElem?_eq_getElem hl
/-! ### calls of built-ins by values -/
theorem c_abs (q : Q (.int (if m < 0 then -m else m)) H) : wC X (.builtin "abs") [.int m] H Q := wC.of call_abs ⟨m, rfl, q⟩
theorem c_max (C : CxI P w K mg base k N Vz Sz G sc X) (q : Q (.int (if n > m then n else m)) H) : wC X (.builtin "max") [.int m, .int n] H Q := wC.of (call_max2 C.calm) ⟨m, n, rfl, q⟩
theorem c_min (C : CxI P w K mg base k N Vz Sz G sc X) (q : Q (.int (if n < m then n else m)) H) : wC X (.builtin "min") [.int m, .int n] H Q := wC.of (call_min2 C.calm) ⟨m, n, rfl, q⟩
theorem c_lenL {ad : Addr} {xs : List V} (C : CxI P w K mg base k N Vz Sz G sc X) (h : SqL K H ad xs) (q : Q (.int xs.length) H) : wC X (.builtin "len") [.ref ad] H Q := wC.of call_len ⟨.ref ad, xs.length, rfl, .inl ⟨xs, by rw [C.eK]; exact h, rfl⟩, q⟩
theorem c_lenT {ad : Addr} {xs : List V} (C : CxI P w K mg base k N Vz Sz G sc X) (h : SqT K H ad xs) (q : Q (.int xs.length) H) : wC X (.builtin "len") [.ref ad] H Q := wC.of call_len ⟨.ref ad, xs.length, rfl, .inr ⟨xs, by rw [C.eK]; exact h, rfl⟩, q⟩
theorem c_divmod (h1 : 0 < n) (h2 : n < 1073741824) (q : ∀ p H2, H p = none → Ex H H2 → H2 p = some (.tup [.int (m / n), .int (m % n)]) → Q (.ref p) H2) : wC X (.builtin "divmod") [.int m, .int n] H Q :=
  wC.of call_divmod ⟨m, n, rfl, ⟨h1, h2⟩, fun p hp => q p _ hp (Ex.upd hp) upd_same⟩
/-! ### a store into a list -/
theorem Ex.get {H H' : Hp} {a : Addr} {o : HO} (e : Ex H H') (h : H a = some o) : H' a = some o := e a o h
theorem Exb.get {H H' : Hp} {a b : Addr} {o : HO} (e : Exb b H H') (n : a ≠ b) (h : H a = some o) : H' a = some o := e a o n h
def SetLq (v ov iv : V) (H2 : Hp) (R : Hp → Prop) : Prop := ∃ p xs k j, ov = .ref p ∧ iv = .int k ∧ H2 p = some (.lst xs) ∧ ixN xs.length k = some j ∧ ∀ H3, Exb p H2 H3 → H3 p = some (.lst (xs.set j v)) → R H3
theorem wG_setL {QS : L2.St → Hp → Prop} {o i : Expr} (ha : ∀ v, assign (.Subscript o i pos) X.env v = (do
      let ov ← holding [v] (eval o X.env)
      let iv ← holding [v, ov] (eval i X.env)
      standAt pos
      holding [v, ov, iv] (setItem ov iv v)
      release [v, ov, iv] [])) (q : wE X o σ H fun ov H1 => wE X i σ H1 fun iv H2 => SetLq v ov iv H2 fun H3 => QS σ H3) :
    wG X (.Subscript o i pos) v σ H QS := by
  refine wG_sub (tS := rSetL) set_list ha ?_
  refine ⟨fun pins s I => ?_⟩
  refine thn (q.run pins s I) ?_
  rintro u s1 ⟨ov, H1, I1, r1, q1⟩
  refine ⟨ov, H1, I1, r1, ?_⟩
  refine ⟨fun pins2 s2 I2 => ?_⟩
  refine thn (q1.run pins2 s2 I2) ?_
  rintro u2 s3 ⟨iv, H2, I3, r2, p, xs, k, j, h1, h2, h3, h4, h5⟩
  exact ⟨iv, H2, I3, r2, p, xs, k, j, h1, h2, h3, h4, h5 _ Exb.upd upd_same⟩
theorem setL_i {H2 : Hp} {p : Addr} {xs : List V} {k : Int} {j : Nat} {v : V} {R : Hp → Prop} (h : H2 p = some (.lst xs)) (hj : ixN xs.length k = some j) (q : ∀ H3, Exb p H2 H3 → H3 p = some (.lst (xs.set j v)) → R H3) :
    SetLq v (.ref p) (.int k) H2 R := ⟨p, xs, k, j, rfl, rfl, h, hj, q⟩
theorem call_i {vs : List V} {R : V → Hp → Prop} {sp : Sp} (q : sp vs H R E0) : sp (vs ++ []) H R E0 := by rw [List.append_nil]; exact q
theorem wS_cut {st : Stmt} {D : Ends} (J : L2.St → Hp → Prop) (h1 : wS X st { D with nx := J } σ H) (h2 : ∀ σ' H', J σ' H' → D.nx σ' H') : wS X st D σ H := by
  refine ⟨fun pins s I => ?_⟩
  refine thn (h1.run pins s I) fun f s1 q => ?_
  cases f with
  | next => obtain ⟨σ', H', I', q⟩ := q; exact ⟨σ', H', I', h2 _ _ q⟩
  | ret v => exact q
  | brk => exact q
  | cont => exact q
theorem iteD {p A B : Prop} [Decidable p] (h1 : p → A) (h2 : ¬ p → B) : if decide p = true then A else B := by
  by_cases h : p
  · rw [decide_eq_true h]; exact iteT (h1 h)
  · rw [decide_eq_false h]; exact iteF (h2 h)
theorem iteDT {p A B : Prop} [Decidable p] (h : p) (a : A) : if decide p = true then A else B := by rw [decide_eq_true h]; exact iteT a
theorem iteDF {p A B : Prop} [Decidable p] (h : ¬ p) (a : B) : if decide p = true then A else B := by rw [decide_eq_false h]; exact iteF a
theorem bb_divmod : bootBuiltins "divmod" = some (.builtin "divmod") := by decide +kernel
end
end Rp
namespace Rp
open PySem PySem.Spec PyProof.Rows L2
section
variable {P : Program} {w : World} {K : PySem.W.Frag} {mg : Str → Option Value} {base : Heap} {k j n : Nat} {N Vz Sz G ps ks : List Str} {sc : Scope} {x m : Str} {v : V} {p apos : Pos} {X : Cx} {f C : Addr} {fd : FuncData} {sp : Sp} {st : Stmt} {qual : Str}
variable {e a b o : Expr} {es : List Expr} {kws : List Keyword} {σ : L2.St} {H : Hp} {Q : VK} {pos : Pos} {dvs : List V} {E : XK}
/-! ### isinstance -/
theorem c_isi {y c : V} {t u : Value} {r : Bool} (I : CxI P w K mg base k N Vz Sz G sc X) (hc : ClsV c u) (ty : TyX K H y t) (h : PySem.W.kitOne K t u = some r) (q : Q (.bl r) H) : wC X (.builtin "isinstance") [y, c] H Q :=
  wC.of call_isi ⟨y, c, t, u, r, rfl, hc, by rw [I.eK]; exact ty, by rw [I.eK]; exact h, q⟩
theorem wE_bltn {u : Value} (I : CxI P w K mg base k N Vz Sz G sc X) (hm : mg x = none) (hx : x ∈ G) (hv : bootBuiltins x = some u) (r : RelV v u) (q : Q v H) : wE X (.Name x p) σ H Q := by
  obtain ⟨l, d1, d2⟩ := I.glo hx
  exact wE.of (pe_bltn l (by rw [I.em]; exact hm) hv r d2 d1) q
/-! ### instances -/
theorem wE_fld {y : V} {pos' : Pos} (I : CxI P w K mg base k N Vz Sz G sc X) (hb : attributeBase e x X.env (eval e X.env) = eval e X.env)
    (q : wE X e σ H fun y H1 => ∃ a C dx fs v, y = .ref a ∧ H1 a = some (.ins C dx fs) ∧ Cls K C ∧ NoAttr K C x ∧ fs.lookup x = some v ∧ Q v H1) : wE X (.Attribute e x pos) σ H Q := by
  obtain ⟨rfl, rfl, rfl, rfl, rfl, _, _, _, _, _, _, _, _⟩ := I
  exact wE.of (pe_fld wE.pe hb) q
def FldQ (K : PySem.W.Frag) (y : V) (x : Str) (H : Hp) (R : V → Prop) : Prop := ∃ a C dx fs v, y = .ref a ∧ H a = some (.ins C dx fs) ∧ Cls K C ∧ NoAttr K C x ∧ fs.lookup x = some v ∧ R v
theorem wE_fldQ (I : CxI P w K mg base k N Vz Sz G sc X) (hb : attributeBase e x X.env (eval e X.env) = eval e X.env)
    (q : wE X e σ H fun y H1 => FldQ K y x H1 fun v => Q v H1) : wE X (.Attribute e x pos) σ H Q := by
  obtain ⟨rfl, rfl, rfl, rfl, rfl, _, _, _, _, _, _, _, _⟩ := I
  exact wE.of (pe_fld wE.pe hb) q
/-- o.x = e -/
def PutQ (K : PySem.W.Frag) (v y : V) (x : Str) (H : Hp) (R : Hp → Prop) : Prop := ∃ a C dx fs, y = .ref a ∧ H a = some (.ins C dx fs) ∧ Cls K C ∧ NoAttr K C x ∧ fs.length < 1000 ∧ R (upd H a (.ins C dx (putF x v fs)))
theorem wS_fld {pos' : Pos} {D : Ends} (I : CxI P w K mg base k N Vz Sz G sc X) (hs : swapsWith e (some (.Attribute o x pos')) pos.line X.env = pure false)
    (q : wE X e σ H fun v H1 => wE X o σ H1 fun y H2 => PutQ K v y x H2 fun H3 => D.nx σ H3) : wS X (.Assign [.Attribute o x pos'] e pos) D σ H := by
  obtain ⟨rfl, rfl, rfl, rfl, rfl, _, _, _, _, _, _, _, _⟩ := I
  exact wS.of (ps_fld wE.pe wE.pe hs) q
/-! ### a class of the text -/
/-- the class x, made by an __init__ whose promise is sp (self first) -/
structure Mf (P : Program) (w : World) (K : PySem.W.Frag) (mg : Str → Option Value) (base : Heap) (k : Nat) (x : Str) (C : Addr) (n : Nat) (ks : List Str) (gV : List V → List V → List V) (sp : Sp) : Prop where
  ex : ∃ f fd ps g, Mk K C f ∧ FnOk P w K mg base CX0 k f fd ps sp ∧ mg x = some (.ref C) ∧ KBn K fd ps (n + 1) ks g gV
theorem wE_makeN {gV : List V → List V → List V} (I : CxI P w K mg base k N Vz Sz G sc X) (M : Mf P w K mg base j x C n ks gV sp) (hx : x ∈ G) (hj : j + 1 ≤ k)
    (hall : (backToKw pos (keywordEach kws X.env)).all (·.1.isSome) = true) (hks : (backToKw pos (keywordEach kws X.env)).filterMap (·.1) = ks)
    (he : starEach (e :: es) X.env = (false, eval e X.env) :: starEach es X.env) (hpl : ((backTo pos (starEach (e :: es) X.env)).any (·.1) || (backToKw pos (keywordEach kws X.env)).any (·.1.isNone)) = false)
    (q : wA X (e :: es) σ H fun vs H1 => wK X kws σ H1 fun zs H2 => vs.length = n ∧ zs.length = ks.length ∧
      ∀ y dx, H2 y = none → H2 dx = none → dx ≠ y → sp (gV (.ref y :: vs) zs) (upd (upd H2 dx (.own y)) y (.ins C dx [])) (fun v H3 => v = .non ∧ Q (.ref y) H3) E0) : wE X (.Call (.Name x p) (e :: es) kws pos) σ H Q := by
  obtain ⟨f, fd, ps, g, Mk1, Fk, hm, hb⟩ := M.ex
  obtain ⟨l, d1, _⟩ := I.glo hx
  obtain ⟨rfl, rfl, rfl, rfl, rfl, _, _, hr, _, _, _, _, _⟩ := I
  exact wE.of (pe_makeN Mk1 Fk (hr.mono hj) l hm hb pass0 wA.pa wK.pk hall hks d1 he hpl) q
/-- the same without keywords, the defaults dvs behind -/
structure Mp (P : Program) (w : World) (K : PySem.W.Frag) (mg : Str → Option Value) (base : Heap) (k : Nat) (x : Str) (C : Addr) (dvs : List V) (sp : Sp) : Prop where
  ex : ∃ f fd ps ds, Mk K C f ∧ FnOk P w K mg base CX0 k f fd ps sp ∧ mg x = some (.ref C) ∧ Binds K fd ps ds ∧ Vals dvs ds
theorem wE_make (I : CxI P w K mg base k N Vz Sz G sc X) (M : Mp P w K mg base j x C dvs sp) (hx : x ∈ G) (hj : j + 1 ≤ k)
    (he : starEach (e :: es) X.env = (false, eval e X.env) :: starEach es X.env) (hpl : (backTo pos (starEach es X.env)).any (·.1) = false)
    (q : wA X (e :: es) σ H fun vs H1 => ∀ y dx, H1 y = none → H1 dx = none → dx ≠ y → sp (.ref y :: (vs ++ dvs)) (upd (upd H1 dx (.own y)) y (.ins C dx [])) (fun v H2 => v = .non ∧ Q (.ref y) H2) E0) :
    wE X (.Call (.Name x p) (e :: es) [] pos) σ H Q := by
  obtain ⟨f, fd, ps, ds, Mk1, Fk, hm, hb, hd⟩ := M.ex
  obtain ⟨l, d1, _⟩ := I.glo hx
  obtain ⟨rfl, rfl, rfl, rfl, rfl, _, _, hr, _, _, _, _, _⟩ := I
  exact wE.of (pe_make Mk1 Fk (hr.mono hj) l hm hb hd pass0 wA.pa d1 he hpl) q
/-- o.m(k = v, ..): keywords alone -/
structure Mm (P : Program) (w : World) (K : PySem.W.Frag) (mg : Str → Option Value) (base : Heap) (k : Nat) (C : Addr) (m : Str) (ks : List Str) (gV : List V → List V → List V) (sp : Sp) : Prop where
  ex : ∃ f fd ps g, Meth K C m f ∧ FnOk P w K mg base CX0 k f fd ps sp ∧ KBn K fd ps 1 ks g gV
def MetQ (C : Addr) (m : Str) (y : V) (H : Hp) (R : Prop) : Prop := ∃ a dx fs, y = .ref a ∧ H a = some (.ins C dx fs) ∧ fs.lookup m = none ∧ R
theorem wE_methK {pl : Sem Bool} {gV : List V → List V → List V} (I : CxI P w K mg base k N Vz Sz G sc X) (c : Cls K C) (M : Mm P w K mg base j C m ks gV sp) (hj : j ≤ k)
    (hall : (backToKw pos (keywordEach kws X.env)).all (·.1.isSome) = true) (hks : (backToKw pos (keywordEach kws X.env)).filterMap (·.1) = ks) (hpl : ((backTo pos (starEach [] X.env)).any (·.1) || (backToKw pos (keywordEach kws X.env)).any (·.1.isNone)) = false)
    (ht : eval (.Call (.Attribute o m apos) [] kws pos) X.env = (do
      let ov ← eval o X.env
      standAt apos.atName
      let (f, first) ← holding [ov] (getMethod ov m pl)
      callWith pos f first (backTo pos (starEach [] X.env)) (backToKw pos (keywordEach kws X.env))))
    (q : wE X o σ H fun y H1 => MetQ C m y H1 (wK X kws σ H1 fun zs H2 => zs.length = ks.length ∧ sp (gV [y] zs) H2 Q E0)) : wE X (.Call (.Attribute o m apos) [] kws pos) σ H Q := by
  obtain ⟨f, fd, ps, g, hm, Fk, hb⟩ := M.ex
  obtain ⟨rfl, rfl, rfl, rfl, rfl, _, _, hr, _, _, _, _, _⟩ := I
  refine ⟨fun pins s I => ?_⟩
  refine PySem.W.methodCall_KW (pl := pl) (thn (q.run pins s I) fun u s1 ⟨y, H1, I1, rx, a, dx, fs, ex, ea, l, q1⟩ => ?_) ht
  subst ex
  obtain rfl : u = Value.ref a := rx
  refine getmeth_ok I1 ea c hm l ?_
  refine PySem.W.callWith_KW0 (first := [.ref a]) (h₀ := X.base) I.ok.mod.kin hm.kp hall (thn (q1.run pos pins s1 I1) fun ws s2 ⟨zs, H2, I2, rz, l2, q2⟩ => ⟨I2.kIn, ?_⟩) hpl
  rw [hks]
  exact run_fnN (us := [.ref a]) (vs := [.ref a]) Fk (hr.mono hj) hb pass0 I2 (.cons rfl .nil) rz rfl l2 q2
/-! ### membership among flat things -/
theorem o_inT {ad : Addr} {xs : List V} (I : CxI P w K mg base k N Vz Sz G sc X) (h : SqT K H ad xs) (h1 : flatV v = true) (h2 : xs.all flatV = true) (q : Q (.bl (inV v xs)) H) : wO X (compareOp .In) v (.ref ad) H Q :=
  wO.of op_in_seq ⟨ad, xs, rfl, .inr (by rw [I.eK]; exact h), h1, h2, q⟩
/-! ### slices and + of tuples -/
theorem wE_sl {lo hi : Option Expr} {p2 : Pos} {r : V → Option Int → Option Int → Hp → VK → Prop} {tl th : TO} (hr : SlR X r) (h1 : PO X lo tl) (h2 : PO X hi th) (q : wE X e σ H fun x H1 => tl σ H1 fun l H2 => th σ H2 fun h H3 => r x l h H3 Q) :
    wE X (.Subscript e (.Slice lo hi none p2) pos) σ H Q := wE.of (pe_slice hr wE.pe h1 h2) q
theorem putq_i {H : Hp} {a dx : Addr} {fs : List (Str × V)} {R : Hp → Prop} {x : Str} {v : V} (h : H a = some (.ins C dx fs)) (c : Cls K C) (na : NoAttr K C x) (hl : fs.length < 1000)
    (q : ∀ H3, Exb a H H3 → H3 a = some (.ins C dx (putF x v fs)) → R H3) : PutQ K v (.ref a) x H R := ⟨a, C, dx, fs, rfl, h, c, na, hl, q _ Exb.upd upd_same⟩
theorem fldq_i {H : Hp} {a dx : Addr} {fs : List (Str × V)} {R : V → Prop} {x : Str} {v : V} (h : H a = some (.ins C dx fs)) (c : Cls K C) (na : NoAttr K C x) (hl : fs.lookup x = some v) (q : R v) : FldQ K (.ref a) x H R := ⟨a, C, dx, fs, v, rfl, h, c, na, hl, q⟩
theorem len_put {x : Str} {v : V} {fs : List (Str × V)} {n : Nat} (h : fs.length ≤ n) : (putF x v fs).length ≤ n + 1 := Nat.le_trans (length_putF x v fs) (Nat.succ_le_succ h)
/-- a new object may be changed: what was known ahead stays -/
theorem Ex.mut {H H1 H2 : Hp} {y : Addr} (a : Ex H H1) (h : H y = none) (b : Exb y H1 H2) : Ex H H2 := fun c o e => b c o (ne_of_none e h) (a c o e)
theorem Exb.mut {b y : Addr} {H H1 H2 : Hp} (a : Exb b H H1) (h : H y = none) (c : Exb y H1 H2) : Exb b H H2 := fun d o n e => c d o (ne_of_none e h) (a d o n e)
theorem Ex.new2 {H : Hp} {y dx : Addr} {o1 o2 : HO} (h1 : H dx = none) (h2 : H y = none) (n : dx ≠ y) : Ex H (L2.upd (L2.upd H dx o1) y o2) := fun c o e => by
  rw [upd_ne (ne_of_none e h2), upd_ne (ne_of_none e h1)]; exact e
end
end Rp
namespace Rp
open PySem PySem.Spec PyProof.Rows L2
theorem swapped2 {x y : Str} {px py pt pt2 : Pos} {kt k2} {a b : Expr} {env : Env} (hb : env.blockKind = .function) (hx : env.kindOf x = some .local) (hy : env.kindOf y = some .local) (hl : (py.line == px.line) = true) (hne : x ≠ y)
    (h1 : ([a, b].any fun | .Starred .. => true | _ => false) = false) (h2 : [a, b].all (foldedForSure 8) = false) (h3 : [a, b].all (constantsAlone 8) = false) :
    swappedStores [.Tuple [.Name x px, .Name y py] kt pt] (.Tuple [a, b] k2 pt2) env = pure (some [x, y]) := by
  have hl' : py.line = px.line := eq_of_beq hl
  have e0 : ((y == x) = false) := by simp [Ne.symm hne]
  unfold swappedStores
  simp only [hb, h1, h2, h3, List.length_cons, List.length_nil, List.filterMap_cons, List.filterMap_nil, hx, hy, Option.map_some, Option.getD_some, List.head?_cons, Expr.pos, hl', beq_self_eq_true, Bool.and_true, bne_self_eq_false, Bool.or_false, Bool.true_or, Bool.not_true, Bool.false_eq_true, if_false, if_true, ↓reduceIte]
  simp [List.eraseDups_cons, e0, hne, Ne.symm hne]
  intro h
  exfalso
  simp only [List.any_cons, List.any_nil, Bool.or_false, Bool.or_eq_false_iff] at h1
  rcases h with h | h
  · exact absurd (h1.1.symm.trans h) (by decide)
  · exact absurd (h1.2.symm.trans h) (by decide)
section
variable {P : Program} {w : World} {K : PySem.W.Frag} {mg : Str → Option Value} {base : Heap} {k : Nat} {N Vz Sz G : List Str} {sc : Scope} {x y : Str} {X : Cx}
variable {a b : Expr} {σ : L2.St} {H : Hp} {pos : Pos} {D : Ends}
theorem wS_par {px py pt pt2 : Pos} {kt k2} (C : CxI P w K mg base k N Vz Sz G sc X) (hx : (sc.names.lookup x == some .local) = true) (hy : (sc.names.lookup y == some .local) = true) (hl : (py.line == px.line) = true) (hne : (x == y) = false)
    (h1 : ([a, b].any fun | .Starred .. => true | _ => false) = false) (h2 : [a, b].all (foldedForSure 8) = false) (h3 : [a, b].all (constantsAlone 8) = false)
    (hs : swapsWithSole [.Tuple [.Name x px, .Name y py] kt pt] (.Tuple [a, b] k2 pt2) pos.line X.env = pure false)
    (q : wA X [a, b] σ H fun vs H1 => ∃ v w, vs = [v, w] ∧ Put N σ x v fun σ1 => Put N σ1 y w fun σ2 => D.nx σ2 H1) : wS X (.Assign [.Tuple [.Name x px, .Name y py] kt pt] (.Tuple [a, b] k2 pt2) pos) D σ H := by
  have ex : X.env.kindOf x = some .local := by show X.env.scope.names.lookup x = _; rw [C.es]; exact eq_of_beq hx
  have ey : X.env.kindOf y = some .local := by show X.env.scope.names.lookup y = _; rw [C.es]; exact eq_of_beq hy
  have hb : X.env.blockKind = .function := by unfold Env.blockKind; rw [C.es, C.fk]; rfl
  have ne : x ≠ y := fun z => by rw [z] at hne; simp at hne
  have hw := swapped2 (kt := kt) (pt := pt) (k2 := k2) (pt2 := pt2) hb ex ey hl ne h1 h2 h3
  refine ⟨fun pins s I => ?_⟩
  rw [exec_Assign_arm]
  refine wpAny_bind (wpAny_standAt ?_)
  rw [hs]
  refine wpAny_bind (wpAny_pure ?_)
  rw [if_neg (by decide)]
  refine wpAny_bind (Tuple_ (thn (q.run _ pins s I) fun us s1 ⟨vs, H1, I1, r1, q1⟩ => ?_))
  obtain ⟨v, w, e1, σ1, p1, σ2, p2, q1⟩ := q1
  subst e1
  obtain ⟨u1, u2, rfl, rv, rw'⟩ : ∃ u1 u2, us = [u1, u2] ∧ RelV v u1 ∧ RelV w u2 := by
    cases r1 with
    | cons p q =>
      cases q with
      | cons p' q' =>
        cases q'
        exact ⟨_, _, rfl, p, p'⟩
  obtain ⟨i, hi, rfl⟩ := p1.ix
  obtain ⟨j, hj, rfl⟩ := p2.ix
  have hij : i ≠ j := fun z => by
    rw [z] at hi
    exact ne (Option.some.inj (hi.symm.trans hj))
  have hN : X.N.Nodup := by rw [C.eN]; exact C.nd
  have hi' : X.N[i]? = some x := by rw [C.eN]; exact hi
  have hj' : X.N[j]? = some y := by rw [C.eN]; exact hj
  have hx2 : X.env.scope.names.lookup x = some .local := ex
  have hy2 : X.env.scope.names.lookup y = some .local := ey
  refine wpAny_newObj_type ?_ (by show 2 ≤ sizeLine; decide)
  have I2 : Inv X pins σ H1 { s1 with heap := s1.heap.push { cls := .type "tuple", data := .seq [u1, u2].toArray } } := I1.kept (t' := s1.toks) fun b o e => Heap.get?_push_of_some _ e
  rw [hw]
  refine wpAny_bind (wpAny_pure ?_)
  show wpAny (model X.prog X.w) X.A (do rule "assign.swapped-stores"; let items ← unpackItems (.ref s1.heap.objs.size) 2 none; assignInOrder [fun v => bindName X.env y v, fun v => bindName X.env x v] items.reverse; pure Flow.next) _ _ _
  refine wpAny_bind (wpAny_rule (wpAny_bind (unpackItems_tuple (items := #[u1, u2]) (I.ok.hd C.calm) (IsTup.new s1.heap _) fun h' hx' => ?_)))
  have I3 := I2.kept (h' := h') (t' := s1.toks) fun b o e => hx' b o (Nat.ne_of_lt (Heap.lt_size e)) e
  show wpAny _ _ (assignInOrder [fun v => bindName X.env y v, fun v => bindName X.env x v] [u2, u1] >>= fun _ => pure Flow.next) _ _ _
  refine wpAny_bind (assignInOrder_cons (wpAny_bindName (store_ok I3 hN hj' (.inl hy2) rw' (fun s2 I4 => ?_) (.inr hy2))))
  refine assignInOrder_cons (wpAny_bindName (store_ok I4 hN hi' (.inl hx2) rv (fun s3 I5 => assignInOrder_nil (wpAny_pure ?_)) (.inr hx2)))
  rw [List.set_comm _ _ (Ne.symm hij)] at I5
  exact ⟨_, H1, I5, q1⟩
end
section
variable {P : Program} {w : World} {K : PySem.W.Frag} {mg : Str → Option Value} {base : Heap} {k : Nat} {N Vz Sz G : List Str} {sc : Scope} {x y : Str} {X : Cx}
variable {σ : L2.St} {H : Hp} {pos : Pos} {Q : VK}
theorem o_pow6 (q : Q (.int 1000000) H) : wO X (binaryOp .Pow) (.int 10) (.int 6) H Q := o_pow (by decide) (by decide) (by decide) (by rw [show ((10 : Int) ^ (6 : Int).toNat) = 1000000 by decide]; exact q)
theorem pick {xs : List V} {d : Int} (h0 : 0 ≤ d) (h1 : d < xs.length) (Pr : V → Prop) (all : ∀ v ∈ xs, Pr v) : ∃ v, atI xs d = some v ∧ Pr v := by
  obtain ⟨v, e, m⟩ := atI_mem h0 h1
  exact ⟨v, e, all v m⟩
theorem all1 {Pr : V → Prop} {a : V} (h : Pr a) : ∀ v ∈ [a], Pr v := fun v hv => by rw [List.mem_singleton.mp hv]; exact h
theorem all2 {Pr : V → Prop} {a : V} {xs : List V} (h : Pr a) (t : ∀ v ∈ xs, Pr v) : ∀ v ∈ a :: xs, Pr v := fun v hv => by
  rcases List.mem_cons.mp hv with e | e
  · rw [e]; exact h
  · exact t v e
end
theorem ne_fresh {H : Hp} {p b : Addr} {o : HO} (hp : H p = none) (hb : H b = some o) : p ≠ b := (ne_of_none hb hp).symm
section
variable {P : Program} {w : World} {K : PySem.W.Frag} {mg : Str → Option Value} {base : Heap} {k : Nat} {N Vz Sz G : List Str} {sc : Scope} {x y : Str} {X : Cx}
variable {σ : L2.St} {H : Hp} {pos : Pos} {Q : VK} {v : V}
theorem atI_nat' {xs : List V} {j : Nat} (h : xs[j]? = some v) : atI xs (@OfNat.ofNat Int j (@instOfNat j)) = some v := by
  have hj : j < xs.length := (List.getElem?_eq_some_iff.mp h).1
  show (ixN xs.length ((j : Nat) : Int)).bind _ = _
  have e : ixN xs.length ((j : Nat) : Int) = some j := by unfold ixN; rw [if_pos (Int.natCast_nonneg j), if_pos (by omega)]; simp
  rw [e]
  exact h
theorem i_listL {c d : Expr} {ad : Addr} {xs : List V} {j : Nat} (C : CxI P w K mg base k N Vz Sz G sc X) (hs : PlainIx d) (h : SqL K H ad xs) (hi : xs[j]? = some v) (q : Q v H) : wIx X c d (.ref ad) (.int (@OfNat.ofNat Int j (@instOfNat j))) H Q :=
  i_list C hs h (atI_nat' hi) q
theorem i_tupL {c d : Expr} {ad : Addr} {xs : List V} {j : Nat} (C : CxI P w K mg base k N Vz Sz G sc X) (hs : PlainIx d) (h : SqT K H ad xs) (hi : xs[j]? = some v) (q : Q v H) : wIx X c d (.ref ad) (.int (@OfNat.ofNat Int j (@instOfNat j))) H Q :=
  i_tup C hs h (atI_nat' hi) q
end
section
variable {X : Cx} {st : Stmt} {rest : List Stmt} {D : Ends} {σ : L2.St} {H : Hp}
theorem wB_one (q : wS X st D σ H) : wB X [st] D σ H := wB.of (pss_one wS.ps) q
/-- what follows a statement, under a name of its own -/
structure Nx (X : Cx) (rest : List Stmt) (D : Ends) (R : L2.St → Hp → Prop) : Prop where
  h : ∀ σ' H', wB X rest D σ' H' → R σ' H'
theorem Nx.go {R : L2.St → Hp → Prop} (n : Nx X rest D R) (q : wB X rest D σ H) : R σ H := n.h _ _ q
theorem wB_cons' (q : ∀ R : L2.St → Hp → Prop, Nx X rest D R → wS X st { D with nx := R } σ H) : wB X (st :: rest) D σ H := wB_cons (q _ ⟨fun _ _ h => h⟩)
end
theorem Ex.free {H H' : Hp} {p : Addr} (e : Ex H H') (hp : H' p = none) : H p = none := by
  cases q : H p with
  | none => rfl
  | some o => rw [e p o q] at hp; cases hp
theorem Exb.free {b : Addr} {H H' : Hp} {p : Addr} {o : HO} (e : Exb b H H') (hb : H' b = some o) (hp : H' p = none) : H p = none := by
  cases q : H p with
  | none => rfl
  | some u =>
    by_cases z : p = b
    · rw [z, hb] at hp; cases hp
    · rw [e p u z q] at hp; cases hp
def IsI (z : V) (R : Int → Prop) : Prop := ∃ i, z = .int i ∧ R i
theorem isI {i : Int} {R : Int → Prop} (q : R i) : IsI (.int i) R := ⟨i, rfl, q⟩
def SlQ (K : PySem.W.Frag) (x : V) (l h : Option Int) (H : Hp) (R : Addr → Hp → Prop) : Prop := (∃ a xs, x = .ref a ∧ SqT K H a xs ∧ ¬ (HT.sIx xs.length 0 l = 0 ∧ HT.sIx xs.length xs.length h = xs.length) ∧
  ∀ p H', H p = none → Ex H H' → H' p = some (.tup (cutV xs l h)) → R p H') ∨ (∃ a xs, x = .ref a ∧ SqL K H a xs ∧ ∀ p H', H p = none → Ex H H' → H' p = some (.lst (cutV xs l h)) → R p H')
section
variable {P : Program} {w : World} {K : PySem.W.Frag} {mg : Str → Option Value} {base : Heap} {k : Nat} {N Vz Sz G : List Str} {sc : Scope} {X : Cx} {e d : Expr} {σ : L2.St} {H : Hp} {pos p2 : Pos} {Q : VK}
theorem slq_i {a : Addr} {xs ys : List V} {l h : Option Int} {R : Addr → Hp → Prop} (hq : SqT K H a xs) (hn : ¬ (HT.sIx xs.length 0 l = 0 ∧ HT.sIx xs.length xs.length h = xs.length)) (hy : cutV xs l h = ys)
    (q : ∀ p H', H p = none → Ex H H' → H' p = some (.tup ys) → R p H') : SlQ K (.ref a) l h H R := .inl ⟨a, xs, rfl, hq, hn, by rw [hy]; exact q⟩
theorem slq_l {a : Addr} {xs ys : List V} {l h : Option Int} {R : Addr → Hp → Prop} (hq : SqL K H a xs) (hy : cutV xs l h = ys)
    (q : ∀ p H', H p = none → Ex H H' → H' p = some (.lst ys) → R p H') : SlQ K (.ref a) l h H R := .inr ⟨a, xs, rfl, hq, by rw [hy]; exact q⟩
theorem slq_run {x : V} {l h : Option Int} (C : CxI P w K mg base k N Vz Sz G sc X) (q : SlQ K x l h H fun p H' => Q (.ref p) H') : rSlT X.K x l h H Q ∨ rSlL X.K x l h H Q := by
  rcases q with ⟨a, xs, rfl, hq, hn, q⟩ | ⟨a, xs, rfl, hq, q⟩
  · exact .inl ⟨a, xs, rfl, by rw [C.eK]; exact hq, hn, fun p hp => q p _ hp (Ex.upd hp) upd_same⟩
  · exact .inr ⟨a, xs, rfl, by rw [C.eK]; exact hq, fun p hp => q p _ hp (Ex.upd hp) upd_same⟩
theorem wE_slTo (C : CxI P w K mg base k N Vz Sz G sc X) (q : wE X e σ H fun x H1 => wE X d σ H1 fun y H2 => IsI y fun i => SlQ K x none (some i) H2 fun p H' => Q (.ref p) H') : wE X (.Subscript e (.Slice none (some d) none p2) pos) σ H Q := by
  refine wE_sl (sl_tup.or sl_list) po_none (po_some wE.pe) ⟨fun pins s I => ?_⟩
  refine thn (q.run pins s I) ?_
  rintro u s1 ⟨x, H1, I1, r1, q1⟩
  refine ⟨x, H1, I1, r1, ?_⟩
  show wE X d σ H1 _
  refine ⟨fun pins s I => ?_⟩
  refine thn (q1.run pins s I) ?_
  rintro u s1 ⟨y, H2, I2, r2, i, rfl, q2⟩
  exact ⟨_, H2, I2, r2, i, rfl, slq_run C q2⟩
theorem wE_slFrom (C : CxI P w K mg base k N Vz Sz G sc X) (q : wE X e σ H fun x H1 => wE X d σ H1 fun y H2 => IsI y fun i => SlQ K x (some i) none H2 fun p H' => Q (.ref p) H') : wE X (.Subscript e (.Slice (some d) none none p2) pos) σ H Q := by
  refine wE_sl (sl_tup.or sl_list) (po_some wE.pe) po_none ⟨fun pins s I => ?_⟩
  refine thn (q.run pins s I) ?_
  rintro u s1 ⟨x, H1, I1, r1, q1⟩
  refine ⟨x, H1, I1, r1, ?_⟩
  show wE X d σ H1 _
  refine ⟨fun pins s I => ?_⟩
  refine thn (q1.run pins s I) ?_
  rintro u s1 ⟨y, H2, I2, r2, i, rfl, q2⟩
  exact ⟨_, H2, I2, r2, i, rfl, slq_run C q2⟩
/-- <= of tuples of ints -/
theorem o_leT {a b : Addr} {ns ms : List Int} (C : CxI P w K mg base k N Vz Sz G sc X) (h1 : SqT K H a (ns.map V.int)) (h2 : SqT K H b (ms.map V.int))
    (q : Q (.bl (Ob.lexAt (fun j => decide (ns.getD j 0 = ms.getD j 0)) (fun j => decide (ns.getD j 0 ≤ ms.getD j 0)) (decide (ns.length ≤ ms.length)) 0 (min ns.length ms.length))) H) : wO X (compareOp .LtE) (.ref a) (.ref b) H Q :=
  wO.of (op_leT C.room.units0) ⟨a, b, ns, ms, rfl, rfl, by rw [C.eK]; exact h1, by rw [C.eK]; exact h2, q⟩
theorem dp_int {i : Int} : Dp K H (.int i) (.int i) := .int i
/-- == and != of tuples of ints -/
theorem dpa_ints : ∀ (ns : List Int), DpAll K H (ns.map V.int) (ns.map PyData.int)
  | [] => .nil
  | n :: ns => .cons (.int n) (dpa_ints ns)
end
section
variable {X : Cx} {e : Expr} {σ : L2.St} {H : Hp} {Q : VK}
theorem wE_val (v0 : V) (h : wE X e σ H fun v H' => v = v0 ∧ H' = H) (q : Q v0 H) : wE X e σ H Q := ⟨fun pins s I => thn (h.run pins s I) fun u s1 ⟨v, H1, I1, r, hv, hH⟩ => by
  subst hv
  subst hH
  exact ⟨_, _, I1, r, q⟩⟩
end
section
variable {P : Program} {w : World} {K : PySem.W.Frag} {mg : Str → Option Value} {base : Heap} {k : Nat} {N Vz Sz G : List Str} {sc : Scope} {X : Cx} {σ : L2.St} {H : Hp} {Q : VK}
theorem o_pow5 (q : Q (.int 100000) H) : wO X (binaryOp .Pow) (.int 10) (.int 5) H Q := o_pow (by decide) (by decide) (by decide) (by rw [show ((10 : Int) ^ (5 : Int).toNat) = 100000 by decide]; exact q)
end
section
variable {X : Cx} {e : Expr} {es : List Expr} {σ : L2.St} {H : Hp} {pos p2 : Pos} {D : Ends} {k1 : Nat}
theorem wS_asgT (hs : swapsWithSole [.Tuple es k1 p2] e pos.line X.env = pure false) (hw : swappedStores [.Tuple es k1 p2] e X.env = pure none) (h1 : (assignEach [.Tuple es k1 p2] X.env).map (·.2) = [assign (.Tuple es k1 p2) X.env])
    (q : wE X e σ H fun v H1 => wG X (.Tuple es k1 p2) v σ H1 D.nx) : wS X (.Assign [.Tuple es k1 p2] e pos) D σ H := wS_asg hs hw h1 q
end
end Rp
namespace Rp
open PySem PySem.Spec PyProof.Rows L2
section
variable {prog : Program} {w : World} {A : Around} {E : Value → Shared → Prop} {s : Shared}
/-- what is drawn of a tuple -/
theorem collect_tup {l : Addr} {vs : List Value} {Q : List Value → Shared → Prop} (hl : IsTup s.heap l vs.toArray)
    (h : Q vs { s with heap := (s.heap.push (seqObj "list" #[] 0)).update s.heap.objs.size (Obj.mapSeq (· ++ vs.toArray)) }) (hsz : vs.length ≤ sizeLine) :
    wpAny (model prog w) A (collect (.ref l)) Q E s := by
  obtain ⟨o, ho, hc, n, hd⟩ := id hl
  unfold collect
  refine wpAny_bind (wpAny_runValue (codeAny_builtin entry_proto_collect' ?_))
  show wpAny _ _ (do again (.builtin "list.__iadd__" ⟨[← newList [], .ref l], []⟩)) _ _ s
  refine wpAny_bind (wpAny_newList (wpAny_pure ⟨Code.quiet_builtin _ (by decide +kernel), codeAny_builtin entry_list_iadd' ?_⟩))
  show wpAny _ _ (Builtin.List.listExtendWith (.ref s.heap.objs.size) (.ref l) (.ref s.heap.objs.size)) _ _ { s with heap := s.heap.push (seqObj "list" #[] 0) }
  unfold Builtin.List.listExtendWith
  have ho' : (s.heap.push (seqObj "list" #[] 0)).get? l = some o := Heap.get?_push_of_some _ ho
  refine wpAny_bind (wpAny_typeOf (T := "tuple") ⟨o, ho', hc⟩ ?_)
  rw [if_pos (by rw [show (Value.type "tuple" == Value.type "tuple") = true by rfl]; simp)]
  refine wpAny_bind (listItems_at ho' hd ?_)
  refine wpAny_bind (listItems_at (xs := #[]) (n := 0) (Heap.get?_push_size _ rfl) rfl ?_)
  rw [if_neg (by simp)]
  refine wpAny_bind (listUpdate_at (xs := #[]) (n := 0) (Heap.get?_push_size _ rfl) rfl ?_ (Nat.zero_le _) (by show (#[] ++ vs.toArray).size ≤ sizeLine + 1; simp only [Array.size_append, List.size_toArray, List.length_nil]; omega))
  refine wpAny_pure ?_
  show wpAny (model prog w) A (do
      let o ← load s.heap.objs.size
      match o.data with
      | .seq xs _ => pure xs.toList
      | _ => unsupported "internal:collect") Q E { s with heap := (s.heap.push (seqObj "list" #[] 0)).update s.heap.objs.size (Obj.mapSeq (· ++ vs.toArray)) }
  refine wpAny_bind (wpAny_load (get?_update_seq (Heap.get?_push_size _ rfl) _) ?_)
  show wpAny _ _ (pure ((#[] : Array Value) ++ vs.toArray).toList) Q E _
  rw [show ((#[] : Array Value) ++ vs.toArray).toList = vs by simp]
  exact wpAny_pure h
end
theorem ext_upd {h : Heap} {vs : List Value} : ∀ b o, h.get? b = some o → ((h.push (seqObj "list" #[] 0)).update h.objs.size (Obj.mapSeq (· ++ vs.toArray))).get? b = some o := fun b o e => by
  have hlt : b < h.objs.size := Heap.lt_size e
  rw [Heap.get?_update_ne _ _ _ _ (Nat.ne_of_lt hlt)]
  exact Heap.get?_push_of_some _ e
theorem refs_of : ∀ us : List Value, (∀ u ∈ us, ∃ a, u = Value.ref a) → ∃ bs : List Addr, us = bs.map Value.ref
  | [], _ => ⟨[], rfl⟩
  | u :: us, h => by
    obtain ⟨a, rfl⟩ := h u List.mem_cons_self
    obtain ⟨bs, rfl⟩ := refs_of us fun v hv => h v (List.mem_cons_of_mem _ hv)
    exact ⟨a :: bs, rfl⟩
def unref : Value → Addr
  | .ref a => a
  | _ => 0
theorem unref_map (bs : List Addr) : (bs.map Value.ref).map unref = bs := by
  rw [List.map_map]
  exact List.map_id bs
theorem vals_refs' : ∀ bs : List Addr, Vals (bs.map V.ref) (bs.map Value.ref)
  | [] => .nil
  | _ :: r => .cons rfl (vals_refs' r)
section
variable {X : Cx} {pins : List (Addr × Obj)} {σ : L2.St} {H : Hp} {s : Shared}
/-- sorted of a thing that gives these tuples of ints -/
theorem sorted_src {src : Addr} {as : List Addr} {nss : List (List Int)} {d : Nat} {B : Int} {Q : VK} (I : Inv X pins σ H s)
    (hcol : ∀ R : List Value → Shared → Prop, (∀ h' tk, (∀ b o, s.heap.get? b = some o → h'.get? b = some o) → R (as.map Value.ref) { s with heap := h', toks := tk }) → wpAny (model X.prog X.w) X.A.in1 (collect (.ref src)) R X.xe s)
    (hT : Paired (fun a ns => SqT X.K H a (ns.map V.int)) as nss) (hB : ∀ ns ∈ nss, ns.length = d ∧ TS.Bd B ns) (hd : 1 ≤ d) (h64 : as.length < 64)
    (q : ∀ (ps : List (Addr × List Int)) (p : Addr), ps.Perm (as.zip nss) → ps.Pairwise (fun a b => TS.code B a.2 ≤ TS.code B b.2) → H p = none → Q (.ref p) (upd H p (.lst (ps.map fun x => V.ref x.1)))) :
    wpAny (model X.prog X.w) X.A (call (.builtin "sorted") [.ref src]) (EP X pins σ Q) X.xe s := by
  refine Calls.call_function_entry PyProof.Rows.kind_sorted PyProof.Rows.plain_sorted PyProof.Rows.entry_sorted (PyProof.Rows.args_sorted1 _) ?_
  unfold Builtin.«sorted»
  refine wpAny_bind (m := checkCount "sorted" 1 1 _) (wpAny_pure ?_)
  refine wpAny_bind (hcol _ fun h' tk hk => ?_)
  have I1 : Inv X pins σ H { s with heap := h', toks := tk } := I.kept hk
  have hal : (as.map Value.ref).length = as.length := List.length_map _
  refine wpAny_bind (wpAny_newList ?_ (by rw [hal, sizeLine_eq]; omega))
  have hoL : (h'.push (seqObj "list" (as.map Value.ref).toArray 0)).get? h'.objs.size = some (seqObj "list" (as.map Value.ref).toArray 0) := Heap.get?_push_size _ rfl
  show wpAny _ _ _ _ _ { s with heap := h'.push (seqObj "list" (as.map Value.ref).toArray 0), toks := tk }
  -- the ints of each
  have hraw : ∀ (as : List Addr) (nss : List (List Int)), Paired (fun a ns => SqT X.K H a (ns.map V.int)) as nss → ∀ a ∈ as, ∃ ns ∈ nss, TS.TupInts s.heap (.ref a) ns := by
    intro as nss h
    induction h with
    | nil => intro a ha; cases ha
    | cons z t ih =>
      intro a ha
      rcases List.mem_cons.mp ha with e | ha
      · rw [e]; exact ⟨_, List.mem_cons_self, tupI_raw I z⟩
      · obtain ⟨ns, m, x⟩ := ih a ha
        exact ⟨ns, List.mem_cons_of_mem _ m, x⟩
  have hzip : ∀ (as : List Addr) (nss : List (List Int)), Paired (fun a ns => SqT X.K H a (ns.map V.int)) as nss → as.zip nss = as.map fun a => (a, TS.intsOf s.heap (.ref a)) := by
    intro as nss h
    induction h with
    | nil => rfl
    | cons z t ih =>
      rw [List.zip_cons_cons, List.map_cons, ih, (tupI_raw I z).ints]
  have keep : ∀ b o, s.heap.get? b = some o → (h'.push (seqObj "list" (as.map Value.ref).toArray 0)).get? b = some o := fun b o e => Heap.get?_push_of_some _ (hk b o e)
  have ok : TS.TupsOk (h'.push (seqObj "list" (as.map Value.ref).toArray 0)) d B (as.map Value.ref) := fun v hv => by
    obtain ⟨a, ha, rfl⟩ := List.mem_map.mp hv
    obtain ⟨ns, m, x⟩ := hraw as nss hT a ha
    obtain ⟨h1, h2⟩ := hB ns m
    exact ⟨ns, x.keeps fun b o e _ => keep b o e, h1, h2⟩
  refine wpAny_bind (wpAny_holding (wpAny_call_entry PyProof.Rows.slot_list_sort ⟨_, hoL, rfl⟩ PyProof.Rows.entry_list_sort
    (TS.sort_tups (s := { s with heap := h'.push (seqObj "list" (as.map Value.ref).toArray 0), toks := tk }) hoL (by rw [hal]; exact h64) hd ok (fun v => TS.code B (TS.intsOf s.heap v)) (fun v hv ns t => ?_) fun out g1 g2 => ⟨_, rfl, ?_⟩) (PyProof.Rows.args_list_sort _)))
  · obtain ⟨a, ha, rfl⟩ := List.mem_map.mp hv
    obtain ⟨ns0, m, x⟩ := hraw as nss hT a ha
    have e : ns = ns0 := t.ints.symm.trans (x.keeps fun b o e _ => keep b o e).ints
    rw [e]
    show TS.code B (TS.intsOf s.heap (.ref a)) = _
    rw [x.ints]
  · obtain ⟨e', he'⟩ := PyProof.Rows.sortedHeap_at (vs := as.map Value.ref) (out := out) hoL
    have hrf : ∀ u ∈ out.toList, ∃ a, u = Value.ref a := fun u hu => by
      obtain ⟨a, _, e⟩ := List.mem_map.mp (g1.mem_iff.mp hu)
      exact ⟨a, e.symm⟩
    obtain ⟨bs, hbs⟩ := refs_of out.toList hrf
    have hperm : bs.Perm as := by
      have z := g1.map unref
      rw [hbs, unref_map, unref_map] at z
      exact z
    have hlen : (bs.map V.ref).length ≤ sizeLine := by
      rw [List.length_map, hperm.length_eq]
      exact Nat.le_trans (Nat.le_of_lt h64) (by decide)
    have hq := q (bs.map fun a => (a, TS.intsOf s.heap (.ref a))) h'.objs.size (by rw [hzip as nss hT]; exact hperm.map _) (by
      rw [hbs, List.pairwise_map] at g2
      rw [List.pairwise_map]
      refine List.Pairwise.imp_of_mem (fun {a b} ma mb z => ?_) g2
      have ea : ∀ c ∈ bs, TS.intsOf (h'.push (seqObj "list" (as.map Value.ref).toArray 0)) (.ref c) = TS.intsOf s.heap (.ref c) := fun c mc => by
        obtain ⟨ns, _, x⟩ := hraw as nss hT c (hperm.mem_iff.mp mc)
        rw [x.ints, (x.keeps fun b o e _ => keep b o e).ints]
      show TS.code B (TS.intsOf s.heap (.ref a)) ≤ TS.code B (TS.intsOf s.heap (.ref b))
      exact z) (I1.hok.fresh (Nat.le_refl _))
    rw [List.map_map] at hq
    refine wpAny_pure ⟨_, rfl, .ref h'.objs.size, upd H h'.objs.size (.lst (bs.map V.ref)), I1.laid (t' := tk) (fun b u e => ?_) (Nat.le_refl _)
      (show ObjOk X.prog X.w _ _ _ (.lst (bs.map V.ref)) from ⟨hlen, out.toList, e', by rw [hbs]; exact vals_refs' bs, by rw [Array.toArray_toList]; exact he'⟩), rfl, hq⟩
    have hb : b < h'.objs.size := Heap.lt_size e
    rw [PyProof.Rows.sortedHeap_old (Nat.ne_of_lt hb) (by rw [size_push']; exact Nat.lt_succ_of_lt hb)]
    exact Heap.get?_push_of_some _ e
/-- sorted(t), t a tuple of tuples of ints -/
theorem call_sortedTT {t : Addr} {as : List Addr} {nss : List (List Int)} {d : Nat} {B : Int} {Q : VK} (hq : SqT X.K H t (as.map V.ref)) (hT : Paired (fun a ns => SqT X.K H a (ns.map V.int)) as nss) (hB : ∀ ns ∈ nss, ns.length = d ∧ TS.Bd B ns) (hd : 1 ≤ d) (h64 : as.length < 64)
    (q : ∀ (ps : List (Addr × List Int)) (p : Addr), ps.Perm (as.zip nss) → ps.Pairwise (fun a b => TS.code B a.2 ≤ TS.code B b.2) → H p = none → Q (.ref p) (upd H p (.lst (ps.map fun x => V.ref x.1)))) : wC X (.builtin "sorted") [.ref t] H Q := by
  refine ⟨fun pins s σ us I r => ?_⟩
  obtain ⟨u, rfl, rx⟩ := vals1 r
  cases rx
  refine sorted_src I (fun R h => ?_) hT hB hd h64 q
  obtain ⟨its, rv, ht, hz⟩ := I.tuple hq
  have e : its = as.map Value.ref := by
    obtain ⟨e1, e2⟩ := bkV_refs rv fun y hy => by
      obtain ⟨a, _, rfl⟩ := List.mem_map.mp hy
      exact ⟨a, rfl⟩
    obtain ⟨bs, rfl⟩ := refs_of its e2
    rw [List.map_map] at e1
    have e3 : as = bs := by
      have z := congrArg (List.map fun x => match x with | V.ref a => a | _ => (0 : Addr)) e1
      rw [List.map_map, List.map_map] at z
      exact (List.map_id as).symm.trans (z.trans (List.map_id bs))
    rw [e3]
  rw [e] at ht
  exact collect_tup ht (h _ _ ext_upd) (by rw [List.length_map, sizeLine_eq]; omega)
end
def unI : Key → Int
  | .inl i => i
  | .inr _ => 0
theorem unI_map (ns : List Int) : (ns.map (Sum.inl : Int → Key)).map unI = ns := by
  rw [List.map_map]
  exact List.map_id ns
section
variable {X : Cx} {H : Hp}
/-- sorted(d), d a dict whose keys are tuples of ints -/
theorem call_sortedDT {d : Addr} {kvs : List (List Key × V)} {D : Nat} {B : Int} {Q : VK} (hcalm : X.calm = true) (hd : H d = some (.dT kvs)) (hB : ∀ kv ∈ kvs, ∃ ns : List Int, kv.1 = ns.map Sum.inl ∧ ns.length = D ∧ TS.Bd B ns) (hD : 1 ≤ D) (h64 : kvs.length < 64)
    (q : ∀ (ps : List (Addr × List Int)) (p : Addr), (ps.map fun x => x.2.map (Sum.inl : Int → Key)).Perm (kvs.map (·.1)) → (∀ x ∈ ps, H x.1 = some (.tup (x.2.map V.int))) → ps.Pairwise (fun a b => TS.code B a.2 ≤ TS.code B b.2) → H p = none → Q (.ref p) (upd H p (.lst (ps.map fun x => V.ref x.1)))) :
    wC X (.builtin "sorted") [.ref d] H Q := by
  refine ⟨fun pins s σ us I r => ?_⟩
  obtain ⟨u, rfl, rx⟩ := vals1 r
  cases rx
  obtain ⟨z, hs, ks, pr, o, es, ep, ho, hx, hdt, he, hn⟩ := (show ObjOk X.prog X.w H s.heap d (.dT kvs) from I.hok d _ hd)
  have l1 : es.size = ks.length := size_of_entries he
  have l2 : kvs.length = ks.length := Paired.length pr
  have hT : ∀ (kvs : List (List Key × V)) (ks : List (List Key × Addr × Value)), KT H kvs ks → (∀ kv ∈ kvs, ∃ ns : List Int, kv.1 = ns.map Sum.inl ∧ ns.length = D ∧ TS.Bd B ns) →
      Paired (fun a ns => H a = some (.tup (ns.map V.int))) (ks.map (·.2.1)) (kvs.map fun kv => kv.1.map unI) := by
    intro kvs ks h
    induction h with
    | nil => intro _; exact .nil
    | @cons p q r t hz ht ih =>
      intro hb
      obtain ⟨ns, e, _⟩ := hb p List.mem_cons_self
      refine .cons ?_ (ih fun kv m => hb kv (List.mem_cons_of_mem _ m))
      have e2 := hz.2.1
      rw [e, List.map_map] at e2
      show H q.2.1 = some (.tup ((p.1.map unI).map V.int))
      rw [e, unI_map]
      exact e2
  have hT0 := hT kvs ks pr hB
  have hmem : ∀ (as : List Addr) (nss : List (List Int)), Paired (fun a ns => H a = some (.tup (ns.map V.int))) as nss → ∀ x ∈ as.zip nss, H x.1 = some (.tup (x.2.map V.int)) := by
    intro as nss h
    induction h with
    | nil => intro x hx; cases hx
    | cons z t ih =>
      intro x hx
      rcases List.mem_cons.mp (show x ∈ _ :: _ from hx) with e | hx
      · rw [e]; exact z
      · exact ih x hx
  have hsnd : ∀ (as : List Addr) (nss : List (List Int)), Paired (fun a ns => H a = some (.tup (ns.map V.int))) as nss → (as.zip nss).map (·.2) = nss := by
    intro as nss h
    induction h with
    | nil => rfl
    | cons z t ih => rw [List.zip_cons_cons, List.map_cons, ih]
  refine sorted_src (as := ks.map (·.2.1)) (nss := kvs.map fun kv => kv.1.map unI) (d := D) (B := B) I (fun R h => ?_) (Paired.mapP hT0 fun a ns z => .inl (.inl z)) (fun ns m => ?_) hD (by rw [List.length_map]; omega) fun ps p h1 h2 h3 => q ps p ?_ (fun x hx => hmem _ _ hT0 x (h1.mem_iff.mp hx)) h2 h3
  · refine PySem.W.kdu_collect (kdl_raw hs hx hdt) (I.ok.hd hcalm) ho (by omega) fun h' tk acc' hk it => ?_
    have ea : acc'.toList = ks.map fun x => Value.ref x.2.1 := by
      have hl : acc'.toList.length = ks.length := by rw [Array.length_toList, it.1]; exact l1
      apply List.ext_getElem?
      intro j
      rw [List.getElem?_map]
      cases hj : acc'.toList[j]? with
      | none =>
        have h1 := List.getElem?_eq_none_iff.mp hj
        rw [List.getElem?_eq_none (by omega)]
        all_goals rfl
      | some v =>
        obtain ⟨en, hen, hv⟩ := it.2 j v (by rw [← Array.getElem?_toList]; exact hj)
        have qe := entry_at he j
        rw [hen] at qe
        cases hb : ks[j]? with
        | none =>
          rw [hb] at qe
          exact nomatch (show some en = none from qe)
        | some b =>
          rw [hb] at qe
          have e2 : en = entryOfKey (tupleKind (mixKind X.prog X.w)) b := Option.some.inj qe
          rw [hv, e2]
          all_goals rfl
    have hh := h h' tk hk
    rw [List.map_map] at hh
    rw [ea]
    exact hh
  · obtain ⟨kv, mk, rfl⟩ := List.mem_map.mp m
    obtain ⟨ns, e, h1, h2⟩ := hB kv mk
    rw [e, unI_map]
    exact ⟨h1, h2⟩
  · have e1 : (kvs.map (·.1)) = (kvs.map fun kv => kv.1.map unI).map fun ns => ns.map (Sum.inl : Int → Key) := by
      rw [List.map_map]
      refine List.map_congr_left fun kv m => ?_
      obtain ⟨ns, e, _⟩ := hB kv m
      show kv.1 = (kv.1.map unI).map Sum.inl
      rw [e, unI_map]
    rw [e1, ← hsnd _ _ hT0]
    have z := h1.map fun x => x.2.map (Sum.inl : Int → Key)
    rw [List.map_map]
    exact z
end
end Rp
namespace Rp
open PySem PySem.Spec PyProof.Rows L2
/-! ### dicts with tuple keys -/
def DgQ (H : Hp) (x y : V) (R : V → Prop) : Prop := ∃ a v, x = .ref a ∧ DGet H a y (some v) ∧ R v
def DpQ (v x y : V) (H : Hp) (R : Hp → Prop) : Prop := ∃ a H', x = .ref a ∧ DPut H a y v H' ∧ R H'
section
variable {P : Program} {w : World} {K : PySem.W.Frag} {mg : Str → Option Value} {base : Heap} {k : Nat} {N Vz Sz G : List Str} {sc : Scope} {X : Cx} {e o d : Expr} {σ : L2.St} {H : Hp} {pos pos' : Pos} {Q : VK} {D : Ends}
theorem wE_dnewT (q : ∀ p H2, H p = none → Ex H H2 → H2 p = some (.dT []) → Q (.ref p) H2) : wE X (.Dict [] [] pos) σ H Q := wE.of pe_dnewT fun p hp => q p _ hp (Ex.upd hp) upd_same
theorem wE_dget (C : CxI P w K mg base k N Vz Sz G sc X) (hs : NoSl d) (q : wE X o σ H fun x H1 => wE X d σ H1 fun y H2 => DgQ H2 x y fun v => Q v H2) : wE X (.Subscript o d pos) σ H Q := wE.of (pe_dget (hu_of C.room) wE.pe wE.pe hs) q
theorem wS_dput (C : CxI P w K mg base k N Vz Sz G sc X) (hs : swapsWith e (some (.Subscript o d pos')) pos.line X.env = pure false) (q : wE X e σ H fun v H1 => wE X o σ H1 fun x H2 => wE X d σ H2 fun y H3 => DpQ v x y H3 fun H4 => D.nx σ H4) :
    wS X (.Assign [.Subscript o d pos'] e pos) D σ H := wS.of (ps_dput (hu_of C.room) wE.pe wE.pe wE.pe hs) q
theorem dpq_t {a b : Addr} {kvs : List (List Key × V)} {ks : List Key} {v : V} {R : Hp → Prop} (e : H a = some (.dT kvs)) (eb : H b = some (.tup (ks.map kV))) (hl : kvs.length < sizeLine) (q : ∀ H', Exb a H H' → H' a = some (.dT (putK kvs ks v)) → R H') : DpQ v (.ref a) (.ref b) H R :=
  ⟨a, _, rfl, DPut.t e eb hl, q _ Exb.upd upd_same⟩
theorem dgq_t {a b : Addr} {kvs : List (List Key × V)} {ks : List Key} {v : V} {R : V → Prop} (e : H a = some (.dT kvs)) (eb : H b = some (.tup (ks.map kV))) (hv : valV kvs ks = some v) (q : R v) : DgQ H (.ref a) (.ref b) R :=
  ⟨a, v, rfl, by rw [← hv]; exact DGet.t e eb, q⟩
end
/-! ### comprehensions over a list, a tuple -/
section
variable {P : Program} {w : World} {K : PySem.W.Frag} {mg : Str → Option Value} {base : Heap} {k : Nat} {N Vz Sz G Vc Sc' Gc : List Str} {sc scope : Scope} {X : Cx} {elt tg it c : Expr} {ifs : List Expr} {σ : L2.St} {H : Hp} {pos : Pos} {Q : VK} {D : Ends}
/-- the contexts of a comprehension's block -/
def BlkE (P : Program) (w : World) (K : PySem.W.Frag) (mg : Str → Option Value) (base : Heap) (k : Nat) (N Vc Sc' Gc : List Str) (scope : Scope) (e : Expr) : TE := fun σ H Q => ∀ X, CxI P w K mg base k N Vc Sc' Gc scope X → wE X e σ H Q
def BlkT (P : Program) (w : World) (K : PySem.W.Frag) (mg : Str → Option Value) (base : Heap) (k : Nat) (N Vc Sc' Gc : List Str) (scope : Scope) (ifs : List Expr) : TT := fun σ H Q => match ifs with
  | [] => Q true H
  | [c] => ∀ X, CxI P w K mg base k N Vc Sc' Gc scope X → wT X c σ H Q
  | _ => False
def BlkG (P : Program) (w : World) (K : PySem.W.Frag) (mg : Str → Option Value) (base : Heap) (k : Nat) (N Vc Sc' Gc : List Str) (scope : Scope) (e : Expr) : TG := fun v σ H Q => ∀ X, CxI P w K mg base k N Vc Sc' Gc scope X → wG X e v σ H Q
def localsOk (S : List Str) (sc : Scope) : Bool := S.all fun x => sc.names.lookup x == some .local
theorem blk_cx (C : CxI P w K mg base k N Vz Sz G sc X) (ok : namesOk Vc Sc' Gc (relS scope sc) = true) (hl : localsOk Sc' (relS scope sc) = true) (hk : scope.kind = .function) (s : Shared) (H : Hp) (Ca : Addr) (cl : List (Str × Addr)) (fp : List Addr) :
    CxI P w K mg base k N Vc Sc' Gc (relS scope sc) (X.blk s H scope (compEnvC scope cl Ca X.env) fp) :=
  ⟨C.eP, C.ew, C.eK, C.em, C.eb, C.eN, by rw [← C.es]; rfl, C.room, C.calm, .inr fun x hx => eq_of_beq (List.all_eq_true.mp hl x hx), PassesOwn.never, C.nd, ok, hk⟩
theorem blk_pe (C : CxI P w K mg base k N Vz Sz G sc X) (ok : namesOk Vc Sc' Gc (relS scope sc) = true) (hl : localsOk Sc' (relS scope sc) = true) (hk : scope.kind = .function) (s : Shared) (H : Hp) (Ca : Addr) (cl : List (Str × Addr)) (fp : List Addr) :
    PE (X.blk s H scope (compEnvC scope cl Ca X.env) fp) elt (BlkE P w K mg base k N Vc Sc' Gc (relS scope sc) elt) := ⟨fun pins s' σ H' Q I h => (h _ (blk_cx C ok hl hk s H Ca cl fp)).run pins s' I⟩
theorem blk_pg (C : CxI P w K mg base k N Vz Sz G sc X) (ok : namesOk Vc Sc' Gc (relS scope sc) = true) (hl : localsOk Sc' (relS scope sc) = true) (hk : scope.kind = .function) (s : Shared) (H : Hp) (Ca : Addr) (cl : List (Str × Addr)) (fp : List Addr) :
    PG (X.blk s H scope (compEnvC scope cl Ca X.env) fp) tg (BlkG P w K mg base k N Vc Sc' Gc (relS scope sc) tg) := ⟨fun pins s' σ H' v u Q I r h => (h _ (blk_cx C ok hl hk s H Ca cl fp)).run pins s' u I r⟩
theorem blk_pts (C : CxI P w K mg base k N Vz Sz G sc X) (ok : namesOk Vc Sc' Gc (relS scope sc) = true) (hl : localsOk Sc' (relS scope sc) = true) (hk : scope.kind = .function) (s : Shared) (H : Hp) (Ca : Addr) (cl : List (Str × Addr)) (fp : List Addr) :
    ∀ ifs : List Expr, PTs (X.blk s H scope (compEnvC scope cl Ca X.env) fp) ifs (BlkT P w K mg base k N Vc Sc' Gc (relS scope sc) ifs)
  | [] => pts_nil
  | [c] => pts_one ⟨fun pins s' σ H' Q I h => (h _ (blk_cx C ok hl hk s H Ca cl fp)).run pins s' I⟩
  | _ :: _ :: _ => ⟨fun _ _ _ _ _ _ h => h.elim⟩
/-- the step of a comprehension, the new list at D -/
def LcStep (P : Program) (w : World) (K : PySem.W.Frag) (mg : Str → Option Value) (base : Heap) (k : Nat) (N Vc Sc' Gc : List Str) (scope : Scope) (vs : List Nat) (elt tg : Expr) (ifs : List Expr) (σ : L2.St) (D : Addr) (x : V) (H : Hp) (Nx : Hp → Prop) : Prop :=
  BlkG P w K mg base k N Vc Sc' Gc scope tg x (wipe σ vs) H fun σ2 H2 => wipe σ2 vs = wipe σ vs ∧ BlkT P w K mg base k N Vc Sc' Gc scope ifs σ2 H2 fun b H3 =>
    if b = true then BlkE P w K mg base k N Vc Sc' Gc scope elt σ2 H3 fun y H4 => ∃ acc, H4 D = some (.lst acc) ∧ acc.length < sizeLine ∧ Nx (L2.upd H4 D (.lst (acc ++ [y]))) else Nx H3
def LcL (P : Program) (w : World) (K : PySem.W.Frag) (mg : Str → Option Value) (base : Heap) (k : Nat) (N Vc Sc' Gc : List Str) (scope : Scope) (vs : List Nat) (elt tg : Expr) (ifs : List Expr) (σ : L2.St) (v : V) (H1 : Hp) (Q : Addr → Hp → Prop) : Prop :=
  ∃ ad xs, v = .ref ad ∧ SqL K H1 ad xs ∧ ∀ D, H1 D = none → ∃ Pv : Nat → Hp → Prop, Pv 0 (L2.upd H1 D (.lst [])) ∧ (∀ i H, i ≤ xs.length → Pv i H → SqL K H ad xs) ∧
    (∀ i x H, xs[i]? = some x → Pv i H → LcStep P w K mg base k N Vc Sc' Gc scope vs elt tg ifs σ D x H (Pv (i + 1))) ∧ ∀ H, Pv xs.length H → Q D H
def LcT (P : Program) (w : World) (K : PySem.W.Frag) (mg : Str → Option Value) (base : Heap) (k : Nat) (N Vc Sc' Gc : List Str) (scope : Scope) (vs : List Nat) (elt tg : Expr) (ifs : List Expr) (σ : L2.St) (v : V) (H1 : Hp) (Q : Addr → Hp → Prop) : Prop :=
  ∃ ad xs, v = .ref ad ∧ SqT K H1 ad xs ∧ ∀ D, H1 D = none → ∃ Pv : Nat → Hp → Prop, Pv 0 (L2.upd H1 D (.lst [])) ∧ (∀ i H, i ≤ xs.length → Pv i H → SqT K H ad xs) ∧
    (∀ i x H, xs[i]? = some x → Pv i H → LcStep P w K mg base k N Vc Sc' Gc scope vs elt tg ifs σ D x H (Pv (i + 1))) ∧ ∀ H, Pv xs.length H → Q D H
variable {own : List (Str × Nat)}
theorem lcL_read {s : Shared} {v : V} {u : Value} {pins : List (Addr × Obj)} {H1 : Hp} (C : CxI P w K mg base k N Vz Sz G sc X) (q : LcL P w K mg base k N Vc Sc' Gc (relS scope sc) (own.map (·.2)) elt tg ifs σ v H1 fun D H => Q (.ref D) H) :
    ∃ a, v = .ref a ∧ (∃ xs, SqL X.K H1 a xs) ∧ ∀ D, H1 D = none → ∃ W : Nat → Nat → Hp → Prop, (∃ m, W 0 m (L2.upd H1 D (.lst []))) ∧ ∀ i m H, W i m H →
      ((Itl X.K a).stop i H ∧ Q (.ref D) H) ∨ ((Itl X.K a).go i H ∧ ∃ Nx : Hp → Prop, (∀ H', Nx H' → ∃ m', m' < m ∧ W (i + 1) m' H') ∧ ∀ x H', (Itl X.K a).yld i H x H' → LcStep P w K mg base k N Vc Sc' Gc (relS scope sc) (own.map (·.2)) elt tg ifs σ D x H' Nx) := by
  obtain ⟨ad, xs, rfl, hS, q⟩ := q
  rw [← C.eK] at hS
  refine ⟨ad, rfl, ⟨xs, hS⟩, fun D hD => ?_⟩
  obtain ⟨Pv, h0, hl, hs, hd⟩ := q D hD
  exact lc_list (K := X.K) (xs := xs) Pv h0 (fun i H hi hp => by rw [C.eK]; exact hl i H hi hp) hs hd
theorem lcT_read {s : Shared} {v : V} {u : Value} {pins : List (Addr × Obj)} {H1 : Hp} (C : CxI P w K mg base k N Vz Sz G sc X) (q : LcT P w K mg base k N Vc Sc' Gc (relS scope sc) (own.map (·.2)) elt tg ifs σ v H1 fun D H => Q (.ref D) H) :
    ∃ a, v = .ref a ∧ (∃ xs, SqT X.K H1 a xs) ∧ ∀ D, H1 D = none → ∃ W : Nat → Nat → Hp → Prop, (∃ m, W 0 m (L2.upd H1 D (.lst []))) ∧ ∀ i m H, W i m H →
      ((Itt X.K a).stop i H ∧ Q (.ref D) H) ∨ ((Itt X.K a).go i H ∧ ∃ Nx : Hp → Prop, (∀ H', Nx H' → ∃ m', m' < m ∧ W (i + 1) m' H') ∧ ∀ x H', (Itt X.K a).yld i H x H' → LcStep P w K mg base k N Vc Sc' Gc (relS scope sc) (own.map (·.2)) elt tg ifs σ D x H' Nx) := by
  obtain ⟨ad, xs, rfl, hS, q⟩ := q
  rw [← C.eK] at hS
  refine ⟨ad, rfl, ⟨xs, hS⟩, fun D hD => ?_⟩
  obtain ⟨Pv, h0, hl, hs, hd⟩ := q D hD
  exact lc_tup (K := X.K) (xs := xs) Pv h0 (fun i H hi hp => by rw [C.eK]; exact hl i H hi hp) hs hd
theorem wE_lcL (own : List (Str × Nat)) (Vc Sc' Gc : List Str) (C : CxI P w K mg base k N Vz Sz G sc X) (ob : blkC N sc scope own = true) (ok : namesOk Vc Sc' Gc (relS scope sc) = true) (hl : localsOk Sc' (relS scope sc) = true) (hk : scope.kind = .function)
    (hf : ∀ x, foldedSetIterable it X.env x = pure x) (q : wE X it σ H fun v H1 => LcL P w K mg base k N Vc Sc' Gc (relS scope sc) (own.map (·.2)) elt tg ifs σ v H1 fun D H => Q (.ref D) H) :
    wE X (.ListComp elt [⟨tg, it, ifs, 0⟩] scope pos) σ H Q := by
  refine wE.of (pe_lc C.calm (by rw [C.eN]; exact C.nd) (pi_list wE.pe) (blkOk_by (own := own) (by rw [C.eN, C.es]; exact ob)) (blk_pg C ok hl hk) (fun s H Ca cl fp => blk_pts C ok hl hk s H Ca cl fp ifs) (blk_pe C ok hl hk) hf) ?_
  show wE X it σ H _
  refine ⟨fun pins s I => thn (q.run pins s I) ?_⟩
  rintro u s1 ⟨v, H1, I1, r1, q1⟩
  exact ⟨v, H1, I1, r1, lcL_read (s := s1) (u := u) (pins := pins) C q1⟩
theorem wE_lcT (own : List (Str × Nat)) (Vc Sc' Gc : List Str) (C : CxI P w K mg base k N Vz Sz G sc X) (ob : blkC N sc scope own = true) (ok : namesOk Vc Sc' Gc (relS scope sc) = true) (hl : localsOk Sc' (relS scope sc) = true) (hk : scope.kind = .function)
    (hf : ∀ x, foldedSetIterable it X.env x = pure x) (q : wE X it σ H fun v H1 => LcT P w K mg base k N Vc Sc' Gc (relS scope sc) (own.map (·.2)) elt tg ifs σ v H1 fun D H => Q (.ref D) H) :
    wE X (.ListComp elt [⟨tg, it, ifs, 0⟩] scope pos) σ H Q := by
  refine wE.of (pe_lc C.calm (by rw [C.eN]; exact C.nd) (pi_tup wE.pe) (blkOk_by (own := own) (by rw [C.eN, C.es]; exact ob)) (blk_pg C ok hl hk) (fun s H Ca cl fp => blk_pts C ok hl hk s H Ca cl fp ifs) (blk_pe C ok hl hk) hf) ?_
  show wE X it σ H _
  refine ⟨fun pins s I => thn (q.run pins s I) ?_⟩
  rintro u s1 ⟨v, H1, I1, r1, q1⟩
  exact ⟨v, H1, I1, r1, lcT_read (s := s1) (u := u) (pins := pins) C q1⟩
/-- y = [..] on one line -/
theorem wS_lcT {y : Str} {py spos : Pos} (own : List (Str × Nat)) (Vc Sc' Gc : List Str) (C : CxI P w K mg base k N Vz Sz G sc X) (ob : blkC N sc scope own = true) (ok : namesOk Vc Sc' Gc (relS scope sc) = true) (hl : localsOk Sc' (relS scope sc) = true) (hk : scope.kind = .function)
    (hyN : y ∈ N) (hy : (sc.names.lookup y == some .local) = true) (hp : (py.line == pos.line) = true) (ha : (scope.names.any fun (n, k) => n == y && (k == .local || k == .cell)) = false)
    (hf : ∀ x, foldedSetIterable it X.env x = pure x) (q : wE X it σ H fun v H1 => LcT P w K mg base k N Vc Sc' Gc (relS scope sc) (own.map (·.2)) elt tg ifs σ v H1 fun Da H => Put N σ y (.ref Da) fun σ' => D.nx σ' H) :
    wS X (.Assign [.Name y py] (.ListComp elt [⟨tg, it, ifs, 0⟩] scope pos) spos) D σ H := by
  have hyl : X.env.scope.names.lookup y = some .local := by rw [C.es]; exact eq_of_beq hy
  have hin : ∃ i, N[i]? = some y ∧ ∀ (v : V) R, Put N σ y v R → R (σ.set i (some v)) := by
    obtain ⟨i, hi⟩ := List.getElem?_of_mem hyN
    refine ⟨i, hi, fun v R q => ?_⟩
    obtain ⟨σ', p, r⟩ := q
    obtain ⟨j, hj, rfl⟩ := p.ix
    rw [nodup_ix C.nd hi hj]
    exact r
  obtain ⟨i, hi, hput⟩ := hin
  refine wS.of (ps_setLc (i := i) C.calm (by rw [C.eN]; exact C.nd) (by rw [C.eN]; exact hi) hyl (sw_true (by rw [C.es]; exact C.fk) hyl hp ha) (pi_tup wE.pe) (blkOk_by (own := own) (by rw [C.eN, C.es]; exact ob)) (blk_pg C ok hl hk) (fun s H Ca cl fp => blk_pts C ok hl hk s H Ca cl fp ifs) (blk_pe C ok hl hk) hf) ?_
  show wE X it σ H _
  refine ⟨fun pins s I => thn (q.run pins s I) ?_⟩
  rintro u s1 ⟨v, H1, I1, r1, q1⟩
  refine ⟨v, H1, I1, r1, lcT_read (Q := fun x H => gName i x σ H D.nx) (s := s1) (u := u) (pins := pins) C ?_⟩
  obtain ⟨ad, xs, e, hS, q1⟩ := q1
  refine ⟨ad, xs, e, hS, fun Da hD => ?_⟩
  obtain ⟨Pv, h0, hl, hs, hd⟩ := q1 Da hD
  exact ⟨Pv, h0, hl, hs, fun H hp => hput _ _ (hd H hp)⟩
end
section
variable {P : Program} {w : World} {K : PySem.W.Frag} {mg : Str → Option Value} {base : Heap} {k : Nat} {N Vz Sz G : List Str} {sc : Scope} {X : Cx} {σ : L2.St} {H : Hp} {Q : VK}
/-- + of two tuples, none empty -/
theorem o_catT {a b : Addr} {xs ys : List V} (C : CxI P w K mg base k N Vz Sz G sc X) (h1 : SqT K H a xs) (h2 : SqT K H b ys) (hz : xs.length + ys.length ≤ sizeLine) (n1 : xs ≠ []) (n2 : ys ≠ []) (q : ∀ p H2, H p = none → Ex H H2 → H2 p = some (.tup (xs ++ ys)) → Q (.ref p) H2) :
    wO X (binaryOp .Add) (.ref a) (.ref b) H Q :=
  wO.of op_catA ⟨a, b, xs, ys, rfl, rfl, by rw [C.eK]; exact h1, by rw [C.eK]; exact h2, hz, fun z => absurd z n1, fun _ z => absurd z n2, fun _ _ p hp => q p _ hp (Ex.upd hp) upd_same⟩
/-- tuple(xs) of a list -/
theorem c_tupL {a : Addr} {xs : List V} (C : CxI P w K mg base k N Vz Sz G sc X) (h : SqL K H a xs) (q : ∀ p H2, H p = none → Ex H H2 → H2 p = some (.tup xs) → Q (.ref p) H2) : wC X (.type "tuple") [.ref a] H Q :=
  wC.of call_tuple_of ⟨a, xs, rfl, .inl ⟨by rw [C.eK]; exact h, fun p hp => q p _ hp (Ex.upd hp) upd_same⟩⟩
theorem putK_mem {κ : Type} [DecidableEq κ] {kvs : List (κ × V)} {k : κ} {v : V} {x : κ × V} (h : x ∈ putK kvs k v) : x = (k, v) ∨ x ∈ kvs := by
  unfold putK at h
  split at h
  · obtain ⟨y, hy, rfl⟩ := List.mem_map.mp h
    split
    · rename_i e; exact .inl (by rw [e])
    · exact .inr hy
  · rcases List.mem_append.mp h with h | h
    · exact .inr h
    · exact .inl (List.mem_singleton.mp h)
theorem putK_nodup {κ : Type} [DecidableEq κ] {kvs : List (κ × V)} {k : κ} {v : V} (h : (kvs.map (·.1)).Nodup) : ((putK kvs k v).map (·.1)).Nodup := by
  unfold putK
  split
  · have e : (kvs.map fun kv => if kv.1 = k then (kv.1, v) else kv).map (·.1) = kvs.map (·.1) := by
      rw [List.map_map]
      refine List.map_congr_left fun y _ => ?_
      show (if y.1 = k then (y.1, v) else y).1 = y.1
      split <;> rfl
    first | (rw [e]; exact h) | (simpa using h)
  · rename_i hn
    rw [List.map_append, List.nodup_append]
    refine ⟨h, by simp, fun a ha b hb => ?_⟩
    have eb : b = k := by simpa using hb
    rw [eb]
    rintro rfl
    obtain ⟨y, hy, ey⟩ := List.mem_map.mp ha
    exact hn (List.any_eq_true.mpr ⟨y, hy, by simpa using ey⟩)
end
theorem ex_paired {α β : Type} {R : α → β → Prop} : ∀ l : List α, (∀ x ∈ l, ∃ y, R x y) → ∃ ys, Paired R l ys
  | [], _ => ⟨[], .nil⟩
  | x :: l, h => by
    obtain ⟨y, hy⟩ := h x List.mem_cons_self
    obtain ⟨ys, hys⟩ := ex_paired l fun z hz => h z (List.mem_cons_of_mem _ hz)
    exact ⟨y :: ys, .cons hy hys⟩
section
variable {P : Program} {w : World} {K : PySem.W.Frag} {mg : Str → Option Value} {base : Heap} {k : Nat} {N Vc Sc' Gc : List Str} {scope : Scope} {c : Expr} {σ : L2.St} {H : Hp} {Q : Bool → Hp → Prop}
theorem blkT_nil (h : Q true H) : BlkT P w K mg base k N Vc Sc' Gc scope [] σ H Q := h
theorem blkT_one (h : ∀ X, CxI P w K mg base k N Vc Sc' Gc scope X → wT X c σ H Q) : BlkT P w K mg base k N Vc Sc' Gc scope [c] σ H Q := h
end
end Rp
namespace Rp
open PySem PySem.Spec PyProof.Rows L2
theorem eqv_ints : ∀ ns ms : List Int, PyData.eqvAll (ns.map PyData.int) (ms.map PyData.int) = decide (ns = ms)
  | [], [] => rfl
  | [], _ :: _ => rfl
  | _ :: _, [] => rfl
  | n :: ns, m :: ms => by
    show ((n == m) && PyData.eqvAll (ns.map PyData.int) (ms.map PyData.int)) = _
    rw [eqv_ints ns ms]
    by_cases h : n = m
    · subst h; simp
    · simp [h]
theorem lay_ints : ∀ ns : List Int, PyData.canLayAll0 (ns.map PyData.int) = true
  | [] => rfl
  | n :: ns => by show (true && PyData.canLayAll0 (ns.map PyData.int)) = true; rw [lay_ints ns]; rfl
theorem dep_ints : ∀ ns : List Int, PyData.depthAll (ns.map PyData.int) ≤ 1
  | [] => by decide
  | n :: ns => by
    have h := dep_ints ns
    show max (PyData.depth (.int n)) (PyData.depthAll (ns.map PyData.int)) ≤ 1
    have : PyData.depth (.int n) ≤ 1 := by first | exact Nat.le_refl _ | exact Nat.zero_le _ | simp [PyData.depth]
    omega
theorem shp_ints (ns : List Int) : SeqAt.shaped (.tuple (ns.map PyData.int)) = true := by
  refine Bool.and_eq_true_iff.mpr ⟨lay_ints ns, decide_eq_true ?_⟩
  have h := dep_ints ns
  have e : PyData.depth (.tuple (ns.map PyData.int)) ≤ PyData.depthAll (ns.map PyData.int) + 1 := by first | exact Nat.le_refl _ | (show 1 + _ ≤ _ + 1; omega) | simp [PyData.depth]
  omega
theorem shp_rows : ∀ nss : List (List Int), PyData.canLayAll0 (nss.map fun ns => PyData.tuple (ns.map PyData.int)) = true ∧ PyData.depthAll (nss.map fun ns => PyData.tuple (ns.map PyData.int)) ≤ 2
  | [] => ⟨rfl, by decide⟩
  | ns :: nss => by
    obtain ⟨h1, h2⟩ := shp_rows nss
    refine ⟨?_, ?_⟩
    · show (PyData.canLayAll0 (ns.map PyData.int) && _) = true
      rw [lay_ints ns, h1]
      rfl
    · have h := dep_ints ns
      have e : PyData.depth (.tuple (ns.map PyData.int)) ≤ PyData.depthAll (ns.map PyData.int) + 1 := by first | exact Nat.le_refl _ | (show 1 + _ ≤ _ + 1; omega) | simp [PyData.depth]
      show max (PyData.depth (.tuple (ns.map PyData.int))) _ ≤ 2
      omega
theorem shp_list (nss : List (List Int)) : SeqAt.shaped (.list (nss.map fun ns => PyData.tuple (ns.map PyData.int))) = true := by
  obtain ⟨h1, h2⟩ := shp_rows nss
  refine Bool.and_eq_true_iff.mpr ⟨h1, decide_eq_true ?_⟩
  have e : PyData.depth (.list (nss.map fun ns => PyData.tuple (ns.map PyData.int))) ≤ PyData.depthAll (nss.map fun ns => PyData.tuple (ns.map PyData.int)) + 1 := by first | exact Nat.le_refl _ | (show 1 + _ ≤ _ + 1; omega) | simp [PyData.depth]
  omega
section
variable {P : Program} {w : World} {K : PySem.W.Frag} {mg : Str → Option Value} {base : Heap} {k : Nat} {N Vz Sz G : List Str} {sc : Scope} {X : Cx} {σ : L2.St} {H : Hp} {Q : VK}
theorem dp_ints {a : Addr} {ns : List Int} (h : SqT K H a (ns.map V.int)) : Dp K H (.ref a) (.tuple (ns.map PyData.int)) := .tup h (dpa_ints ns)
theorem o_eqTI {a b : Addr} {ns ms : List Int} (C : CxI P w K mg base k N Vz Sz G sc X) (h1 : SqT K H a (ns.map V.int)) (h2 : SqT K H b (ms.map V.int)) (q : Q (.bl (decide (ns = ms))) H) : wO X (compareOp .Eq) (.ref a) (.ref b) H Q :=
  wO.of (op_eqD C.room.units) ⟨_, _, by rw [C.eK]; exact dp_ints h1, by rw [C.eK]; exact dp_ints h2, shp_ints ns, shp_ints ms, by
    show Q (.bl (PyData.eqvAll (ns.map PyData.int) (ms.map PyData.int))) H
    rw [eqv_ints]; exact q⟩
theorem o_neTI {a b : Addr} {ns ms : List Int} (C : CxI P w K mg base k N Vz Sz G sc X) (h1 : SqT K H a (ns.map V.int)) (h2 : SqT K H b (ms.map V.int)) (q : Q (.bl (!decide (ns = ms))) H) : wO X (compareOp .NotEq) (.ref a) (.ref b) H Q :=
  wO.of (op_neD C.room.units) ⟨_, _, by rw [C.eK]; exact dp_ints h1, by rw [C.eK]; exact dp_ints h2, shp_ints ns, shp_ints ms, by
    show Q (.bl (!PyData.eqvAll (ns.map PyData.int) (ms.map PyData.int))) H
    rw [eqv_ints]; exact q⟩
/-- xs != [] of a list of tuples of ints -/
theorem dpa_rows : ∀ {qs : List Addr} {nss : List (List Int)}, Paired (fun q ns => SqT K H q (ns.map V.int)) qs nss → DpAll K H (qs.map V.ref) (nss.map fun ns => PyData.tuple (ns.map PyData.int))
  | _, _, .nil => .nil
  | _, _, .cons z t => .cons (dp_ints z) (dpa_rows t)
theorem o_neNil {a b : Addr} {qs : List Addr} {nss : List (List Int)} (C : CxI P w K mg base k N Vz Sz G sc X) (h1 : SqL K H a (qs.map V.ref)) (pr : Paired (fun q ns => SqT K H q (ns.map V.int)) qs nss) (h2 : SqL K H b []) (q : Q (.bl (decide (nss ≠ []))) H) :
    wO X (compareOp .NotEq) (.ref a) (.ref b) H Q :=
  wO.of (op_neD C.room.units) ⟨_, _, by rw [C.eK]; exact .lst h1 (dpa_rows pr), by rw [C.eK]; exact .lst h2 .nil, shp_list nss, by decide, by
    have e : (!PyData.eqv (.list (nss.map fun ns => PyData.tuple (ns.map PyData.int))) (.list [])) = decide (nss ≠ []) := by
      cases nss with
      | nil => rfl
      | cons n ns => rfl
    rw [e]; exact q⟩
theorem o_catL {a b : Addr} {xs ys : List V} (h1 : H a = some (.lst xs)) (h2 : H b = some (.lst ys)) (hz : xs.length + ys.length ≤ sizeLine) (q : ∀ p H2, H p = none → Ex H H2 → H2 p = some (.lst (xs ++ ys)) → Q (.ref p) H2) : wO X (binaryOp .Add) (.ref a) (.ref b) H Q :=
  wO.of op_cat ⟨a, b, xs, ys, rfl, rfl, h1, h2, hz, fun p hp => q p _ hp (Ex.upd hp) upd_same⟩
/-- + of two tuples, the right one not empty -/
theorem o_catT0 {a b : Addr} {xs ys : List V} (C : CxI P w K mg base k N Vz Sz G sc X) (h1 : SqT K H a xs) (h2 : SqT K H b ys) (hz : xs.length + ys.length ≤ sizeLine) (n2 : ys ≠ []) (q : ∀ p H2, Ex H H2 → SqT K H2 p (xs ++ ys) → Q (.ref p) H2) :
    wO X (binaryOp .Add) (.ref a) (.ref b) H Q :=
  wO.of op_catA ⟨a, b, xs, ys, rfl, rfl, by rw [C.eK]; exact h1, by rw [C.eK]; exact h2, hz, fun z => q b H (Ex.refl H) (by rw [z]; exact h2), fun _ z => absurd z n2, fun _ _ p hp => q p _ (Ex.upd hp) (SqT.of upd_same)⟩
theorem c_minL {a : Addr} {ns : List Int} (C : CxI P w K mg base k N Vz Sz G sc X) (h : SqL K H a (ns.map V.int)) (h0 : 0 < ns.length) (q : ∀ m, m ∈ ns → (∀ y ∈ ns, m ≤ y) → Q (.int m) H) : wC X (.builtin "min") [.ref a] H Q :=
  wC.of (cr_min C.calm) ⟨a, ns, rfl, by rw [C.eK]; exact h, h0, q⟩
end
section
variable {P : Program} {w : World} {K : PySem.W.Frag} {mg : Str → Option Value} {base : Heap} {k : Nat} {N Vz Sz G : List Str} {sc : Scope} {X : Cx} {σ : L2.St} {H : Hp} {D : Ends} {tg a b c : Expr} {sts : List Stmt} {p1 p2 pos : Pos}
theorem rg_step {d : Int} (h0 : 0 ≤ d) (h1 : d < 4) : ∃ n : Nat, RgC 0 60 (1 + d) n ∧ ∀ i : Nat, i < n → 0 ≤ (0 : Int) + (i : Nat) * (1 + d) ∧ (0 : Int) + (i : Nat) * (1 + d) < 60 := by
  have : d = 0 ∨ d = 1 ∨ d = 2 ∨ d = 3 := by omega
  rcases this with rfl | rfl | rfl | rfl
  · exact ⟨60, ⟨by decide, by decide, by decide +kernel, by decide +kernel⟩, fun i hi => by omega⟩
  · exact ⟨30, ⟨by decide, by decide, by decide +kernel, by decide +kernel⟩, fun i hi => by omega⟩
  · exact ⟨20, ⟨by decide, by decide, by decide +kernel, by decide +kernel⟩, fun i hi => by omega⟩
  · exact ⟨15, ⟨by decide, by decide, by decide +kernel, by decide +kernel⟩, fun i hi => by omega⟩
def Rg3Q (vs : List V) (R : Int → Int → Nat → Prop) : Prop := ∃ i j c n, vs = [.int i, .int j, .int c] ∧ RgC i j c n ∧ R i c n
theorem wS_range3 (C : CxI P w K mg base k N Vz Sz G sc X) (hm : mg "range" = none) (hx : ("range" : Str) ∈ G) (hs : starEach [a, b, c] X.env = (false, eval a X.env) :: starEach [b, c] X.env) (hpl : (backTo p2 (starEach [b, c] X.env)).any (·.1) = false)
    (q : wA X [a, b, c] σ H fun vs H1 => Rg3Q vs fun lo st n => ∃ Pv : Nat → L2.St → Hp → Prop, Pv 0 σ H1 ∧ (∀ i σ H, i < n → Pv i σ H → wG X tg (.int (lo + (i : Nat) * st)) σ H fun σ2 H2 => wB X sts { D with nx := Pv (i + 1), ct := Pv (i + 1), bk := D.nx } σ2 H2) ∧ ∀ σ H, Pv n σ H → D.nx σ H) :
    wS X (.For tg (.Call (.Name "range" p1) [a, b, c] [] p2) sts [] pos) D σ H := by
  obtain ⟨l, _, _⟩ := C.glo hx
  refine wS.of (ps_for C.po C.calm (pi_range3 l (by rw [C.em]; exact hm) wA.pa hs hpl) wG.pg wB.pss (fun _ => rfl)) ?_
  show wA X [a, b, c] σ H _
  refine ⟨fun pos pins s I => thn (q.run pos pins s I) ?_⟩
  rintro u s1 ⟨vs, H1, I1, r1, i, j, cc, n, e, hr, Pv, h0, hs, hd⟩
  exact ⟨vs, H1, I1, r1, i, j, cc, n, e, hr, for_rangeC (lo := i) (c := cc) (n := n) Pv h0 hs hd⟩
end
end Rp
namespace Rp
open PySem PySem.Spec PyProof.Rows L2
/-! ### comparisons by an own method -/
/-- what the model calls the type of what stands for y -/
def TyV (X : Cx) (y : V) (H : Hp) (tb : Value) : Prop := ∀ (pins : List (Addr × Obj)) (σ : L2.St) (s : Shared) (u : Value), Inv X pins σ H s → RelV y u → PySem.W.Looks (model X.prog X.w) s.heap (typeOf u) tb
/-- a class's own method for a mark (two places) -/
structure Mo (P : Program) (w : World) (K : PySem.W.Frag) (mg : Str → Option Value) (base : Heap) (k : Nat) (C : Addr) (m : Str) (sp : Sp) : Prop where
  ex : ∃ f fd ps, FnOk P w K mg base CX0 k f fd ps sp ∧ PySem.W.findIn K (.ref C) m = some (some (.ref f)) ∧ PySem.W.isFn K (.ref f) = true ∧ Binds K fd ps []
section
variable {P : Program} {w : World} {K : PySem.W.Frag} {mg : Str → Option Value} {base : Heap} {k j : Nat} {N Vz Sz G : List Str} {sc : Scope} {X : Cx} {H : Hp} {Q : VK} {sp : Sp} {y : V} {tb : Value} {a c dx : Addr} {fs : List (Str × V)}
theorem ty_ins {b dy : Addr} {gs : List (Str × V)} {D : Addr} (h : H b = some (.ins D dy gs)) : TyV X (.ref b) H (.ref D) := fun pins σ s u I r => by
  obtain rfl : u = Value.ref b := r
  obtain ⟨mB, J, _⟩ := ins_get I.hok h
  obtain ⟨od, J, _⟩ := J.look
  exact J.type
theorem ty_int {n : Int} : TyV X (.int n) H (.type "int") := fun pins σ s u I r => by
  obtain ⟨t, rfl⟩ := r
  exact .now
theorem ty_str {z : Str} : TyV X (.str z) H (.type "str") := fun pins σ s u I r => by
  obtain ⟨t, rfl⟩ := r
  exact .now
theorem ty_non : TyV X .non H (.type "NoneType") := fun pins σ s u I r => by
  obtain rfl : u = Value.none := r
  exact .now
theorem ty_bl {b : Bool} : TyV X (.bl b) H (.type "bool") := fun pins σ s u I r => by
  obtain rfl : u = Value.bool b := r
  exact .now
theorem ty_at {p : Addr} {o : Obj} {T : Value} {s : Shared} {M : Model} (h : s.heap.get? p = some o) (e : o.cls = T) : PySem.W.Looks M s.heap (typeOf (.ref p)) T := fun A R E s' k z => wpAny_typeOf_ref (k _ _ h) (by rw [e]; exact z)
theorem ty_lst {p : Addr} {xs : List V} (h : H p = some (.lst xs)) : TyV X (.ref p) H (.type "list") := fun pins σ s u I r => by
  obtain rfl : u = Value.ref p := r
  obtain ⟨_, its, n, _, e⟩ := (show ObjOk X.prog X.w H s.heap p (.lst xs) from I.hok p _ h)
  exact ty_at e rfl
theorem ty_tup {p : Addr} {xs : List V} (h : H p = some (.tup xs)) : TyV X (.ref p) H (.type "tuple") := fun pins σ s u I r => by
  obtain rfl : u = Value.ref p := r
  obtain ⟨_, its, _, o, ho, hc, _⟩ := (show ObjOk X.prog X.w H s.heap p (.tup xs) from I.hok p _ h)
  exact ty_at ho hc
theorem o_own {op : CmpOp} (C : CxI P w K mg base k N Vz Sz G sc X) (M : Mo P w K mg base j c (cmpInfo op).2.1 sp) (hj : j ≤ k) (h : H a = some (.ins c dx fs)) (ty : TyV X y H tb) (nf : PySem.W.notFirst K c tb = true)
    (hop : ∀ (v u : Value) (Q : Value → Shared → Prop) (E : Value → Shared → Prop) (s : Shared), wpAny (model X.prog X.w) X.A (richCompare op v u) Q E s → wpAny (model X.prog X.w) X.A (compareOp op v u) Q E s)
    (q : sp [.ref a, y] H (fun v H' => ∃ b : Bool, v = .bl b ∧ Q (.bl b) H') E0) : wO X (compareOp op) (.ref a) y H Q := by
  obtain ⟨f, fd, ps, Fk, hs, hf, hb⟩ := M.ex
  obtain ⟨rfl, rfl, rfl, rfl, rfl, _, _, hr, _, _, _, _, _⟩ := C
  refine ⟨fun pins s σ v u I rx ry => hop _ _ _ _ _ ?_⟩
  obtain rfl : v = Value.ref a := rx
  obtain ⟨mA, J, _⟩ := ins_get I.hok h
  obtain ⟨od, J, _⟩ := J.look
  obtain ⟨m, hF⟩ := I.fr
  have hr' := hr.mono hj
  refine PySem.W.cmp_K (op := op) (tb := tb) hr'.units0 hF I.ok.mod.kin J (ty pins σ s u I ry) nf hs hf ?_
  have hl := Fk.len _ _ _ _ q
  have r2 : Vals [V.ref a, y] [Value.ref a, u] := .cons rfl (.cons ry .nil)
  refine wpAny_call (codeAny_mono (Fk.run X.A X.stack s H ⟨[.ref a, u], []⟩ [.ref a, u] [.ref a, y] _ E0 hr' I.env0 (by
    have z := hb s [.ref a, u] I.kIn (by simpa using hl)
    simpa using z) r2 q) fun r s' hq => ?_)
  cases r with
  | error e => exact pass0 pins σ H s e s' I hq
  | ok fl =>
    cases fl with
    | ret w =>
      obtain ⟨z, H', I', rz, b, ez, q'⟩ := I.after hq
      subst ez
      cases rz
      exact ⟨.bl b, H', I', rfl, q'⟩
    | next => exact False.elim hq
    | brk => exact False.elim hq
    | cont => exact False.elim hq
/-- one == y by the own __eq__ -/
theorem o_eqOwn (C : CxI P w K mg base k N Vz Sz G sc X) (M : Mo P w K mg base j c "__eq__" sp) (hj : j ≤ k) (h : H a = some (.ins c dx fs)) (ty : TyV X y H tb) (nf : PySem.W.notFirst K c tb = true)
    (q : sp [.ref a, y] H (fun v H' => ∃ b : Bool, v = .bl b ∧ Q (.bl b) H') E0) : wO X (compareOp .Eq) (.ref a) y H Q :=
  o_own (op := .Eq) C M hj h ty nf (fun _ _ _ _ _ h => h) q
end
end Rp
namespace Rp
open PySem PySem.Spec PyProof.Rows L2
/-! ### texts of several parts -/
structure wJ (X : Cx) (es : List Expr) (acc : Str) (σ : L2.St) (H : Hp) (Q : Str → Hp → Prop) : Prop where
  h : tJs (es.map fun e => wE X e) acc σ H Q
section
variable {P : Program} {w : World} {K : PySem.W.Frag} {mg : Str → Option Value} {base : Heap} {k j : Nat} {N Vz Sz G : List Str} {sc : Scope} {X : Cx} {σ : L2.St} {H : Hp} {Q : VK} {QJ : Str → Hp → Prop} {e o v1 v2 : Expr} {es rest : List Expr} {acc : Str} {pos apos : Pos}
theorem pj_all : ∀ es : List Expr, PJ X es (es.map fun e => wE X e)
  | [] => .nil
  | _ :: es => .cons wE.pe (pj_all es)
theorem wE_joined (q : wJ X (v1 :: v2 :: rest) Str.empty σ H fun out H1 => Q (.str out) H1) : wE X (.JoinedStr (v1 :: v2 :: rest) pos) σ H Q := wE.of (pe_joined (pj_all _)) q.h
theorem wE_joined1 (q : wE X e σ H Q) : wE X (.JoinedStr [e] pos) σ H Q := wE.of (pe_joined1 wE.pe) q
def JnQ (x : V) (acc : Str) (R : Str → Prop) : Prop := ∃ y : Str, x = .str y ∧ (acc ++ y).length ≤ sizeLine ∧ R (acc ++ y)
theorem wJ_cons (q : wE X e σ H fun x H1 => JnQ x acc fun a2 => wJ X es a2 σ H1 QJ) : wJ X (e :: es) acc σ H QJ :=
  ⟨⟨fun pins s I => thn (q.run pins s I) fun u s1 ⟨x, H1, I1, r1, y, ex, hy, z⟩ => ⟨x, H1, I1, r1, y, ex, hy, z.h⟩⟩⟩
theorem wJ_nil (q : QJ acc H) : wJ X [] acc σ H QJ := ⟨q⟩
theorem jn_i {y : Str} {R : Str → Prop} (h : (acc ++ y).length ≤ sizeLine) (q : R (acc ++ y)) : JnQ (.str y) acc R := ⟨y, rfl, h, q⟩
def FmQ (x : V) (H : Hp) (Q : VK) : Prop := (∃ y : Str, x = .str y ∧ y.length ≤ sizeLine ∧ Q (.str y) H) ∨ ∃ i : Int, x = .int i ∧ i.natAbs.log2 < 1920 ∧ Q (.str (toString i)) H
theorem wE_fmt (q : wE X e σ H fun x H1 => FmQ x H1 Q) : wE X (.FormattedValue e (-1) none pos) σ H Q := wE.of (pe_fmt wE.pe) q
theorem fm_s {y : Str} (h : y.length ≤ sizeLine) (q : Q (.str y) H) : FmQ (.str y) H Q := .inl ⟨y, rfl, h, q⟩
theorem fm_i {i : Int} (h : i.natAbs.log2 < 1920) (q : Q (.str (toString i)) H) : FmQ (.int i) H Q := .inr ⟨i, rfl, h, q⟩
theorem c_reprI {i : Int} (h : i.natAbs.log2 < 1920) (q : Q (.str (toString i)) H) : wC X (.builtin "repr") [.int i] H Q := wC.of SkE.call_repr_int ⟨i, rfl, h, q⟩
theorem c_reprS {y : Str} (h : (reprText y).length ≤ sizeLine) (q : Q (.str (reprText y)) H) : wC X (.builtin "repr") [.str y] H Q := by
  refine ⟨fun pins s σ us I r => ?_⟩
  obtain ⟨u, rfl, t, rfl⟩ := Vals.one r
  exact PySem.P.repr_of_str ⟨.str (reprText y), H, I.tok _, ⟨_, rfl⟩, q⟩ h
theorem c_strI {i : Int} (h : i.natAbs.log2 < 1920) (q : Q (.str (toString i)) H) : wC X (.type "str") [.int i] H Q := wC.of call_str_int ⟨i, rfl, h, q⟩
/-- s.join(a list of texts) -/
def JoQ (x : V) (R : Str → Prop) : Prop := ∃ a, x = .str a ∧ R a
theorem wE_join (hs : starEach [e] X.env = [(false, eval e X.env)]) (hbase : attributeBase o "join" X.env (eval o X.env) = eval o X.env) (hline : (apos.endLine == pos.line) = true)
    (q : wE X o σ H fun x H1 => JoQ x fun a => wE X e σ H1 fun y H2 => ∃ p, ∃ ys : List Str, y = .ref p ∧ (SqL X.K H2 p (ys.map V.str) ∨ SqT X.K H2 p (ys.map V.str)) ∧ (ys.map (·.length)).sum + ys.length * a.length ≤ 16777216 ∧ Q (.str (Txt.join a ys)) H2) :
    wE X (.Call (.Attribute o "join" apos) [e] [] pos) σ H Q := by
  refine wE.of (pe_join wE.pe wE.pe hs hbase hline) ?_
  refine ⟨fun pins s I => thn (q.run pins s I) fun u s1 ⟨x, H1, I1, r1, a, ex, z⟩ => ⟨x, H1, I1, r1, ⟨a, ex⟩, ?_⟩⟩
  refine ⟨fun pins2 s2 I2 => thn (z.run pins2 s2 I2) fun u2 s3 ⟨y, H2, I3, r2, p, ys, ey, h1, h2, h3⟩ => ⟨y, H2, I3, r2, a, p, ys, ex, by rw [ey], h1, h2, h3⟩⟩
/-- xs.append(e) -/
theorem wE_append (hbase : attributeBase o "append" X.env (eval o X.env) = eval o X.env)
    (hfew : ((backTo pos (starEach [e] X.env)).all (fun x => !x.1) && (backToKw pos (keywordEach [] X.env)).all (fun x => x.1.isSome) && decide ([e].length + ([] : List Keyword).length + (if ([] : List Keyword).isEmpty then 0 else 1) < 30)) = true)
    (hline : (apos.endLine == pos.line) = true) (hs : starEach [e] X.env = (false, eval e X.env) :: starEach [] X.env) (hplain : (backTo pos (starEach [] X.env)).any (·.1) = false)
    (q : wE X o σ H fun x H1 => ∃ l xs, x = .ref l ∧ H1 l = some (.lst xs) ∧ wE X e σ H1 fun y H2 => H2 l = some (.lst xs) ∧ xs.length < sizeLine ∧ ∀ H3, Exb l H2 H3 → H3 l = some (.lst (xs ++ [y])) → Q .non H3) :
    wE X (.Call (.Attribute o "append" apos) [e] [] pos) σ H Q := by
  refine wE.of (pe_bm (T := "list") F.plainAttrs_list F.slot_list_append F.type_list_append mt_append wE.pe wA.pa hbase hfew hline hs hplain) ?_
  refine ⟨fun pins s I => thn (q.run pins s I) fun u s1 ⟨x, H1, I1, r1, l, xs, ex, hl, z⟩ => ⟨x, H1, I1, r1, ?_, ?_⟩⟩
  · subst ex
    exact .inl ⟨rfl, _, SqL.of hl⟩
  · refine wA_cons hs ?_
    refine ⟨fun pins2 s2 I2 => thn (z.run pins2 s2 I2) fun u2 s3 ⟨y, H2, I3, r2, h1, h2, h3⟩ => ⟨y, H2, I3, r2, ?_⟩⟩
    exact wA_nil ⟨l, xs, y, ex, rfl, h1, h2, h3 _ Exb.upd upd_same⟩
end
end Rp
namespace Rp
open PySem PySem.Spec PyProof.Rows L2
/-! ### != by an own __eq__ -/
section
variable {M : Model} {prog : Program} {w : World} {A : Around} {E : Value → Shared → Prop} {s : Shared} {K : PySem.W.Frag} {x C f : Addr} {u tb : Value} {ox : Obj} {od : Option Obj}
theorem ne_entry {Q : Fin → Shared → Prop} (hu : A.units < cLine) (X : K.In s.heap) (I : PySem.W.InstAt s.heap x ox C od) (hs : PySem.W.findIn K (.ref C) "__eq__" = some (some (.ref f))) (hf : PySem.W.isFn K (.ref f) = true)
    (hc : wpAny M A (call (.ref f) [.ref x, u]) (fun v s' => ∃ b : Bool, v = .bool b ∧ Q (.done (.ret (.bool (!b)))) s') E s) : wpAny M A (Builtin.«object.__ne__» ⟨[.ref x, u], []⟩) Q E s := by
  unfold Builtin.«object.__ne__»
  repeat (first
    | with_reducible refine wpAny_cRoomFor hu ?_
    | (refine wpAny_bind (m := callSpecialIfBound? (.ref x) (Str.ofString "__eq__") [u]) (PySem.W.ifBound_K X I hs hf (wpAny_mono hc (fun v s' z => ?_) fun _ _ e => e)); obtain ⟨b, rfl, z⟩ := z)
    | with_reducible refine wpAny_truthy_bool ?_
    | wp_step)
  all_goals exact z
theorem ne_call {Q : Value → Shared → Prop} (hu : A.in1.units < cLine) (X : K.In s.heap) (I : PySem.W.InstAt s.heap x ox C od) (hm : PySem.W.mroIn K C (.type "object") = some true) (hs : PySem.W.findIn K (.ref C) "__eq__" = some (some (.ref f)))
    (hf : PySem.W.isFn K (.ref f) = true) (hc : wpAny (model prog w) A.in1 (call (.ref f) [.ref x, u]) (fun v s' => ∃ b : Bool, v = .bool b ∧ Q (.bool (!b)) s') E s) : wpAny (model prog w) A (call (.builtin "object.__ne__") [.ref x, u]) Q E s :=
  wpAny_call (codeAny_call_builtin F.cmp_object.ne.plain F.cmpEntry_ne (PySem.W.check_slot F.cmpKind_ne F.cmpSplit_ne (I.type.andThen (PySem.W.looks_mroIn X hm)) (F.cmpArgs_ne _ _) (ne_entry hu X I hs hf hc)))
theorem ne_bound {args : List Value} {Q : Option Value → Shared → Prop} (X : K.In s.heap) (I : PySem.W.InstAt s.heap x ox C od) (hs : PySem.W.findIn K (.ref C) "__ne__" = some (some (.builtin "object.__ne__")))
    (h : wpAny M A (call (.builtin "object.__ne__") (.ref x :: args)) (fun v => Q (some v)) E s) : wpAny M A (callSpecialIfBound? (.ref x) "__ne__" args) Q E s := by
  simp only [callSpecialIfBound?, bindSpecialIfBound?]
  refine wpAny_holding (wpAny_bind (wpAny_bind (wpAny_bind (I.type.here ((PySem.W.looks_findIn X hs).here ?_)))))
  refine wpAny_bind (wpAny_askSetting (wpAny_ite ?_))
  have last : wpAny M A (call (.builtin "object.__ne__") ([.ref x] ++ args) >>= fun v => pure (some v)) Q E s := wpAny_bind (wpAny_mono h (fun v s' q => wpAny_pure q) fun _ _ q => q)
  split
  · exact wpAny_bind (wpAny_of_eq (F.cmp_object.ne.bind _) (wpAny_pure (by exact last)))
  · exact wpAny_tryCatch (wpAny_bind (wpAny_of_eq (F.cmp_object.ne.bind _) (wpAny_pure (by exact last))))
theorem ne_rich {Q : Value → Shared → Prop} (hu : A.units + 1 < cLine) (X : K.In s.heap) (I : PySem.W.InstAt s.heap x ox C od) (hb : PySem.W.Looks (model prog w) s.heap (typeOf u) tb) (hn : PySem.W.notFirst K C tb = true)
    (hm : PySem.W.mroIn K C (.type "object") = some true) (hne : PySem.W.findIn K (.ref C) "__ne__" = some (some (.builtin "object.__ne__"))) (hs : PySem.W.findIn K (.ref C) "__eq__" = some (some (.ref f))) (hf : PySem.W.isFn K (.ref f) = true)
    (hc : wpAny (model prog w) A.in1 (call (.ref f) [.ref x, u]) (fun v s' => ∃ b : Bool, v = .bool b ∧ Q (.bool (!b)) s') E s) : wpAny (model prog w) A (richCompare .NotEq (.ref x) u) Q E s := by
  have one : wpAny (model prog w) A (tryCompare (.ref x) "__ne__" u) (fun r s' => ∃ b : Bool, r = some (.bool (!b)) ∧ Q (.bool (!b)) s') E s := by
    unfold tryCompare
    refine wpAny_bind (ne_bound X I hne (ne_call (show A.in1.units < cLine from hu) X I hm hs hf (wpAny_mono hc (fun v s' z => ?_) fun _ _ e => e)))
    obtain ⟨b, e, z⟩ := z
    exact ⟨b, e, wpAny_pure ⟨b, rfl, z⟩⟩
  unfold richCompare
  simp only [oneThing_ref]
  refine wpAny_holding (wpAny_bind (wpAny_cRoomFor (Nat.lt_of_succ_lt hu) ?_))
  rw [cmpInfo_NotEq]
  dsimp only
  refine wpAny_bind (I.type.here (wpAny_bind (hb.here ?_)))
  split
  · rename_i q
    have e : PySem.W.subIn K tb (.ref C) = some false := by
      rcases Bool.or_eq_true_iff.mp hn with e | e
      · rw [beq_iff_eq.mp e] at q
        simp at q
      · exact beq_iff_eq.mp e
    refine wpAny_bind ((PySem.W.looks_subIn X e).here ?_)
    simp only [Bool.false_eq_true, if_false]
    refine wpAny_bind (wpAny_mono one (fun r s' z => ?_) fun _ _ e => e)
    obtain ⟨b, rfl, hq⟩ := z
    exact wpAny_pure hq
  · refine wpAny_bind (wpAny_pure ?_)
    simp only [Bool.false_eq_true, if_false]
    refine wpAny_bind (wpAny_mono one (fun r s' z => ?_) fun _ _ e => e)
    obtain ⟨b, rfl, hq⟩ := z
    exact wpAny_pure hq
end
section
variable {P : Program} {w : World} {K : PySem.W.Frag} {mg : Str → Option Value} {base : Heap} {k j : Nat} {N Vz Sz G : List Str} {sc : Scope} {X : Cx} {H : Hp} {Q : VK} {sp : Sp} {y : V} {tb : Value} {a c dx : Addr} {fs : List (Str × V)}
/-- one != y by the own __eq__ -/
theorem o_neOwn (C : CxI P w K mg base k N Vz Sz G sc X) (M : Mo P w K mg base j c "__eq__" sp) (hj : j + 1 ≤ k) (hm : PySem.W.mroIn K c (.type "object") = some true) (hne : PySem.W.findIn K (.ref c) "__ne__" = some (some (.builtin "object.__ne__")))
    (h : H a = some (.ins c dx fs)) (ty : TyV X y H tb) (nf : PySem.W.notFirst K c tb = true) (q : sp [.ref a, y] H (fun v H' => ∃ b : Bool, v = .bl b ∧ Q (.bl (!b)) H') E0) : wO X (compareOp .NotEq) (.ref a) y H Q := by
  obtain ⟨f, fd, ps, Fk, hs, hf, hb⟩ := M.ex
  obtain ⟨rfl, rfl, rfl, rfl, rfl, _, _, hr, _, _, _, _, _⟩ := C
  refine ⟨fun pins s σ v u I rx ry => ?_⟩
  obtain rfl : v = Value.ref a := rx
  obtain ⟨mA, J, _⟩ := ins_get I.hok h
  obtain ⟨od, J, _⟩ := J.look
  have hr' : Room j X.A.in1 := Room.in1 (hr.mono hj)
  show wpAny (model X.prog X.w) X.A (richCompare .NotEq (.ref a) u) (EP X pins σ Q) X.xe s
  refine ne_rich (tb := tb) hr'.units0 I.kIn J (ty pins σ s u I ry) nf hm hne hs hf ?_
  have hl := Fk.len _ _ _ _ q
  have r2 : Vals [V.ref a, y] [Value.ref a, u] := .cons rfl (.cons ry .nil)
  have e0 : Env0 X.prog X.w X.K X.mg X.base X.A.in1 X.stack s H := by
    have e := I.env0
    exact ⟨e.frames, e.mod, e.bs, e.bsz, e.funs, e.frf, e.hok, e.bare⟩
  refine wpAny_call (codeAny_mono (Fk.run X.A.in1 X.stack s H ⟨[.ref a, u], []⟩ [.ref a, u] [.ref a, y] _ E0 hr' e0 (by
    have z := hb s [.ref a, u] I.kIn (by simpa using hl)
    simpa using z) r2 q) fun r s' hq => ?_)
  cases r with
  | error e => exact pass0 pins σ H s e s' I hq
  | ok fl =>
    cases fl with
    | ret w =>
      obtain ⟨z, H', I', rz, b, ez, q'⟩ := I.after hq
      subst ez
      cases rz
      exact ⟨b, rfl, .bl (!b), H', I', rfl, q'⟩
    | next => exact False.elim hq
    | brk => exact False.elim hq
    | cont => exact False.elim hq
end
end Rp
namespace Rp
open PySem PySem.Spec PyProof.Rows L2
/-! ### thing == one, where thing is of a built-in type: one's own __eq__ is asked second -/
section
variable {prog : Program} {w : World} {A : Around} {E : Value → Shared → Prop} {s : Shared} {K : PySem.W.Frag} {x C f : Addr} {u : Value} {T : String} {ox : Obj} {od : Option Obj}
theorem rc_back {Q : Value → Shared → Prop} (hu : A.units < cLine) (X : K.In s.heap) (I : PySem.W.InstAt s.heap x ox C od) (hT : s.TypeIs u T) (hsub : PySem.W.subIn K (.ref C) (.type T) = some false) (hone : oneThing? .Eq u (.ref x) = none)
    (dec : ∀ E' : Value → Shared → Prop, wpAny (model prog w) A (tryCompare u "__eq__" (.ref x)) (fun r s' => r = none ∧ s' = s) E' s) (hs : PySem.W.findIn K (.ref C) "__eq__" = some (some (.ref f))) (hf : PySem.W.isFn K (.ref f) = true)
    (hc : wpAny (model prog w) A (call (.ref f) [.ref x, u]) (PySem.W.CmpBack Q) E s) : wpAny (model prog w) A (richCompare .Eq u (.ref x)) Q E s := by
  have two : wpAny (model prog w) A (tryCompare (.ref x) "__eq__" u) (fun r s' => ∃ v, r = some v ∧ Q v s') E s := by
    unfold tryCompare
    refine wpAny_bind (PySem.W.ifBound_K X I hs hf (wpAny_mono hc (fun v s' hv => ?_) fun _ _ e => e))
    cases v <;> first | exact hv.elim | exact wpAny_pure ⟨_, rfl, hv⟩
  simp only [richCompare, cmpInfo_Eq, hone]
  refine wpAny_holding (wpAny_bind (wpAny_cRoomFor hu ?_))
  refine wpAny_bind (wpAny_typeOf hT ?_)
  refine wpAny_bind (I.type.here ?_)
  have hne : (Value.type T != Value.ref C) = true := by simp
  rw [hne]
  simp only [if_true]
  refine wpAny_bind ((PySem.W.looks_subIn X hsub).here ?_)
  simp only [Bool.false_eq_true, if_false, Bool.not_false, if_true]
  refine wpAny_bind (m := tryCompare u _ (.ref x)) (wpAny_mono (dec E) (fun r s1 z => ?_) fun _ _ e => e)
  obtain ⟨z1, z2⟩ := z
  subst z1
  subst z2
  refine wpAny_bind (m := tryCompare (.ref x) _ u) (wpAny_mono two (fun r s2 z => ?_) fun _ _ e => e)
  obtain ⟨v, rfl, hq⟩ := z
  exact wpAny_pure hq
end
end Rp
namespace Rp
open PySem PySem.Spec PyProof.Rows L2
section
variable {prog : Program} {w : World} {A : Around} {E : Value → Shared → Prop} {s : Shared} {x C dx : Addr}
theorem dec_non : wpAny (model prog w) A (tryCompare .none "__eq__" (.ref x)) (fun r s' => r = none ∧ s' = s) E s :=
  wpAny_tryCompare_declines (show s.TypeIs .none "NoneType" from rfl) F.slot_NoneType_eq_refl (call_gives F.slot_NoneType_eq_refl rfl F.entry_NoneType_eq (F.args_NoneType_eq_2 _ _) (PySem.SeqAt.NoneType___eq___none_ref_0 x) ⟨rfl, rfl, rfl⟩)
theorem int_dec (b : Int) (u : Tok) : Meets (Builtin.«int.__eq__» ⟨[.int b u, .ref x], []⟩) (fun _ R s => s.heap.get? x = some (PySem.W.instObj C dx) ∧ R (.ok (.ret .notImplemented)) s) :=
  .of_wp fun prog w A R s h => by
    obtain ⟨hp, g, d, tk, os⟩ := s
    obtain ⟨hl, h⟩ := h
    wp_walk using wpAny_loadPart' hl, wpAny_load hl
    exact ⟨_, rfl, h⟩
theorem bool_dec (b : Bool) : Meets (Builtin.«int.__eq__» ⟨[.bool b, .ref x], []⟩) (fun _ R s => s.heap.get? x = some (PySem.W.instObj C dx) ∧ R (.ok (.ret .notImplemented)) s) :=
  .of_wp fun prog w A R s h => by
    obtain ⟨hp, g, d, tk, os⟩ := s
    obtain ⟨hl, h⟩ := h
    wp_walk using wpAny_loadPart' hl, wpAny_load hl
    exact ⟨_, rfl, h⟩
theorem str_dec (b : Str) (u : Tok) : Meets (Builtin.«str.__eq__» ⟨[.str b u, .ref x], []⟩) (fun _ R s => s.heap.get? x = some (PySem.W.instObj C dx) ∧ R (.ok (.ret .notImplemented)) s) :=
  .of_wp fun prog w A R s h => by
    obtain ⟨hp, g, d, tk, os⟩ := s
    obtain ⟨hl, h⟩ := h
    wp_walk using wpAny_loadPart' hl, wpAny_load hl
    exact ⟨_, rfl, h⟩
theorem dec_int (hx : s.heap.get? x = some (PySem.W.instObj C dx)) (b : Int) (u : Tok) : wpAny (model prog w) A (tryCompare (.int b u) "__eq__" (.ref x)) (fun r s' => r = none ∧ s' = s) E s :=
  wpAny_tryCompare_declines (typeIs_int s b u) F.slot_int_eq (call_meets F.slot_int_eq (typeIs_int s b u) F.entry_int_eq (F.args_int_eq_2 _ _) (int_dec (C := C) (dx := dx) b u) ⟨hx, rfl, rfl, rfl⟩)
theorem dec_str (hx : s.heap.get? x = some (PySem.W.instObj C dx)) (b : Str) (u : Tok) : wpAny (model prog w) A (tryCompare (.str b u) "__eq__" (.ref x)) (fun r s' => r = none ∧ s' = s) E s :=
  wpAny_tryCompare_declines (typeIs_str s b u) F.slot_str_eq (call_meets F.slot_str_eq (typeIs_str s b u) F.entry_str_eq (F.args_str_eq_2 _ _) (str_dec (C := C) (dx := dx) b u) ⟨hx, rfl, rfl, rfl⟩)
theorem dec_bl (hx : s.heap.get? x = some (PySem.W.instObj C dx)) (b : Bool) : wpAny (model prog w) A (tryCompare (.bool b) "__eq__" (.ref x)) (fun r s' => r = none ∧ s' = s) E s :=
  wpAny_tryCompare_declines (show s.TypeIs (.bool b) "bool" from rfl) F.slot_bool_eq (call_meets F.slot_bool_eq (show s.TypeIs (.bool b) "bool" from rfl) F.entry_int_eq (F.args_int_eq_2 _ _) (bool_dec (C := C) (dx := dx) b) ⟨hx, rfl, rfl, rfl⟩)
theorem lst_dec {K : PySem.W.Frag} {l : Addr} (items : Array Value) (n : Nat) (hs : PySem.W.subIn K (.ref C) (.type "list") = some false) : Meets (Builtin.«list.__eq__» ⟨[.ref l, .ref x], []⟩) (fun _ R s => K.In s.heap ∧ s.heap.get? l = some { cls := .type "list", data := .seq items n } ∧ s.heap.get? x = some (PySem.W.instObj C dx) ∧ R (.ok (.ret .notImplemented)) s) :=
  .of_wp fun prog w A R s h => by
    obtain ⟨hp, g, d, tk, os⟩ := s
    obtain ⟨X, hl, hx, h⟩ := h
    unfold Builtin.«list.__eq__»
    repeat (first | with_reducible refine wpAny_loadPart' hl ?_ | with_reducible refine wpAny_loadPart' hx ?_ | with_reducible refine (PySem.W.looks_subIn X hs).here ?_ | wp_step)
    all_goals exact ⟨_, rfl, h⟩
theorem tup_dec {K : PySem.W.Frag} {l : Addr} {o : Obj} (hs : PySem.W.subIn K (.ref C) (.type "tuple") = some false) : Meets (Builtin.«tuple.__eq__» ⟨[.ref l, .ref x], []⟩) (fun _ R s => K.In s.heap ∧ s.heap.get? l = some o ∧ s.heap.get? x = some (PySem.W.instObj C dx) ∧ R (.ok (.ret .notImplemented)) s) :=
  .of_wp fun prog w A R s h => by
    obtain ⟨hp, g, d, tk, os⟩ := s
    obtain ⟨X, hl, hx, h⟩ := h
    unfold Builtin.«tuple.__eq__»
    repeat (first | with_reducible refine wpAny_loadPart' hl ?_ | with_reducible refine wpAny_loadPart' hx ?_ | with_reducible refine (PySem.W.looks_subIn X hs).here ?_ | wp_step)
    all_goals exact ⟨_, rfl, h⟩
theorem dec_lst {K : PySem.W.Frag} {l : Addr} {items : Array Value} {n : Nat} (X : K.In s.heap) (hs : PySem.W.subIn K (.ref C) (.type "list") = some false) (hl : s.heap.get? l = some { cls := .type "list", data := .seq items n }) (hx : s.heap.get? x = some (PySem.W.instObj C dx)) :
    wpAny (model prog w) A (tryCompare (.ref l) "__eq__" (.ref x)) (fun r s' => r = none ∧ s' = s) E s :=
  wpAny_tryCompare_declines (show s.TypeIs (.ref l) "list" from ⟨_, hl, rfl⟩) F.slot_list_eq (call_meets F.slot_list_eq (show s.TypeIs (.ref l) "list" from ⟨_, hl, rfl⟩) F.entry_list_eq (F.args_list_eq_2 _ _) (lst_dec (K := K) (C := C) (dx := dx) items n hs) ⟨X, hl, hx, rfl, rfl, rfl⟩)
theorem dec_tup {K : PySem.W.Frag} {l : Addr} {o : Obj} (X : K.In s.heap) (hs : PySem.W.subIn K (.ref C) (.type "tuple") = some false) (hl : s.heap.get? l = some o) (ht : o.cls = .type "tuple") (hx : s.heap.get? x = some (PySem.W.instObj C dx)) :
    wpAny (model prog w) A (tryCompare (.ref l) "__eq__" (.ref x)) (fun r s' => r = none ∧ s' = s) E s :=
  wpAny_tryCompare_declines (show s.TypeIs (.ref l) "tuple" from ⟨_, hl, ht⟩) F.slot_tuple_eq (call_meets F.slot_tuple_eq (show s.TypeIs (.ref l) "tuple" from ⟨_, hl, ht⟩) F.entry_tuple_eq (F.args_tuple_eq_2 _ _) (tup_dec (K := K) (C := C) (dx := dx) (o := o) hs) ⟨X, hl, hx, rfl, rfl, rfl⟩)
theorem dct_dec {K : PySem.W.Frag} {l : Addr} {es : Array DictEntry} {n : Nat} {o : Obj} (hd : o.data = .dict es n) (ho : o.cls = .type "dict") (hs : PySem.W.subIn K (.ref C) (.type "dict") = some false) :
    Meets (Builtin.«dict.__eq__» ⟨[.ref l, .ref x], []⟩) (fun _ R s => K.In s.heap ∧ s.heap.get? l = some o ∧ s.heap.get? x = some (PySem.W.instObj C dx) ∧ R (.ok (.ret .notImplemented)) s) :=
  .of_wp fun prog w A R s h => by
    obtain ⟨hp, g, d, tk, os⟩ := s
    obtain ⟨X, hl, hx, h⟩ := h
    unfold Builtin.«dict.__eq__»
    repeat (first | with_reducible refine wpAny_loadPart' hl ?_ | with_reducible refine wpAny_loadPart' hx ?_ | with_reducible refine (PySem.W.looks_subIn X hs).here ?_ | wp_step)
    all_goals exact ⟨_, rfl, h⟩
theorem dec_dct {K : PySem.W.Frag} {l : Addr} {es : Array DictEntry} {n : Nat} {o : Obj} (X : K.In s.heap) (hd : o.data = .dict es n) (ho : o.cls = .type "dict") (hs : PySem.W.subIn K (.ref C) (.type "dict") = some false) (hl : s.heap.get? l = some o) (hx : s.heap.get? x = some (PySem.W.instObj C dx)) :
    wpAny (model prog w) A (tryCompare (.ref l) "__eq__" (.ref x)) (fun r s' => r = none ∧ s' = s) E s :=
  wpAny_tryCompare_declines (show s.TypeIs (.ref l) "dict" from ⟨_, hl, ho⟩) F.slot_dict_eq (call_meets F.slot_dict_eq (show s.TypeIs (.ref l) "dict" from ⟨_, hl, ho⟩) F.entry_dict_eq (F.args_dict_eq_2 _ _) (dct_dec (K := K) (C := C) (dx := dx) hd ho hs) ⟨X, hl, hx, rfl, rfl, rfl⟩)
end
end Rp
namespace Rp
open PySem PySem.Spec PyProof.Rows L2
/-- a thing of a built-in type whose own == declines -/
inductive Thg (H : Hp) : V → String → Prop where
  | non : Thg H .non "NoneType"
  | bl (b : Bool) : Thg H (.bl b) "bool"
  | int (i : Int) : Thg H (.int i) "int"
  | str (z : Str) : Thg H (.str z) "str"
  | lst {p : Addr} {xs : List V} (e : H p = some (.lst xs)) : Thg H (.ref p) "list"
  | tup {p : Addr} {xs : List V} (e : H p = some (.tup xs)) : Thg H (.ref p) "tuple"
  | dct {p : Addr} {kvs : List (Key × V)} (e : H p = some (.dK kvs)) : Thg H (.ref p) "dict"
section
variable {P : Program} {w : World} {K : PySem.W.Frag} {mg : Str → Option Value} {base : Heap} {k j : Nat} {N Vz Sz G : List Str} {sc : Scope} {X : Cx} {H : Hp} {Q : VK} {sp : Sp} {y : V} {T : String} {a c dx : Addr} {fs : List (Str × V)}
/-- thing == one -/
theorem o_eqBack (C : CxI P w K mg base k N Vz Sz G sc X) (M : Mo P w K mg base j c "__eq__" sp) (hj : j ≤ k) (h : H a = some (.ins c dx fs)) (th : Thg H y T) (hsub : PySem.W.subIn K (.ref c) (.type T) = some false)
    (q : sp [.ref a, y] H (fun v H' => ∃ b : Bool, v = .bl b ∧ Q (.bl b) H') E0) : wO X (compareOp .Eq) y (.ref a) H Q := by
  obtain ⟨f, fd, ps, Fk, hs, hf, hb⟩ := M.ex
  obtain ⟨rfl, rfl, rfl, rfl, rfl, _, _, hr, _, _, _, _, _⟩ := C
  refine ⟨fun pins s σ u v I ry rx => ?_⟩
  obtain rfl : v = Value.ref a := rx
  obtain ⟨mA, J, _⟩ := ins_get I.hok h
  have hx : s.heap.get? a = some (PySem.W.instObj c dx) := by
    obtain ⟨_, _, _, hx, _⟩ := (show ObjOk X.prog X.w H s.heap a (.ins c dx fs) from I.hok a _ h)
    exact hx
  obtain ⟨od, J, _⟩ := J.look
  have hr' := hr.mono hj
  have ty : s.TypeIs u T := by
    cases th with
    | non => obtain rfl : u = Value.none := ry
             rfl
    | bl b => obtain rfl : u = Value.bool b := ry
              rfl
    | int i => obtain ⟨t, rfl⟩ := ry
               exact typeIs_int s i t
    | str z => obtain ⟨t, rfl⟩ := ry
               exact typeIs_str s z t
    | @lst p xs e =>
      obtain rfl : u = Value.ref p := ry
      obtain ⟨_, its, n, _, e⟩ := (show ObjOk X.prog X.w H s.heap p (.lst xs) from I.hok p _ e)
      exact ⟨_, e, rfl⟩
    | @tup p xs e =>
      obtain rfl : u = Value.ref p := ry
      obtain ⟨_, its, _, o, ho, hc, _⟩ := (show ObjOk X.prog X.w H s.heap p (.tup xs) from I.hok p _ e)
      exact ⟨_, ho, hc⟩
    | @dct p kvs e =>
      obtain rfl : u = Value.ref p := ry
      obtain ⟨_, _, _, _, o, _, _, e, ex, _⟩ := (show ObjOk X.prog X.w H s.heap p (.dK kvs) from I.hok p _ e)
      exact ⟨o, e, ex.1⟩
  have dec : ∀ E' : Value → Shared → Prop, wpAny (model X.prog X.w) X.A (tryCompare u "__eq__" (.ref a)) (fun r s' => r = none ∧ s' = s) E' s := fun E' => by
    cases th with
    | non => obtain rfl : u = Value.none := ry
             exact dec_non
    | bl b => obtain rfl : u = Value.bool b := ry
              exact dec_bl hx b
    | int i => obtain ⟨t, rfl⟩ := ry
               exact dec_int hx i t
    | str z => obtain ⟨t, rfl⟩ := ry
               exact dec_str hx z t
    | @lst p xs e =>
      obtain rfl : u = Value.ref p := ry
      obtain ⟨_, its, n, _, e⟩ := (show ObjOk X.prog X.w H s.heap p (.lst xs) from I.hok p _ e)
      exact dec_lst I.kIn hsub e hx
    | @tup p xs e =>
      obtain rfl : u = Value.ref p := ry
      obtain ⟨_, its, _, o, ho, hc, _⟩ := (show ObjOk X.prog X.w H s.heap p (.tup xs) from I.hok p _ e)
      exact dec_tup I.kIn hsub ho hc hx
    | @dct p kvs e =>
      obtain rfl : u = Value.ref p := ry
      obtain ⟨_, _, _, _, o, es, ep, e, ex, hd, _⟩ := (show ObjOk X.prog X.w H s.heap p (.dK kvs) from I.hok p _ e)
      exact dec_dct I.kIn hd ex.1 hsub e hx
  show wpAny (model X.prog X.w) X.A (richCompare .Eq u (.ref a)) (EP X pins σ Q) X.xe s
  refine rc_back hr'.units0 I.kIn J ty hsub (ty.oneThing_none _ _) dec hs hf ?_
  have hl := Fk.len _ _ _ _ q
  have r2 : Vals [V.ref a, y] [Value.ref a, u] := .cons rfl (.cons ry .nil)
  refine wpAny_call (codeAny_mono (Fk.run X.A X.stack s H ⟨[.ref a, u], []⟩ [.ref a, u] [.ref a, y] _ E0 hr' I.env0 (by
    have z := hb s [.ref a, u] I.kIn (by simpa using hl)
    simpa using z) r2 q) fun r s' hq => ?_)
  cases r with
  | error e => exact pass0 pins σ H s e s' I hq
  | ok fl =>
    cases fl with
    | ret w =>
      obtain ⟨z, H', I', rz, b, ez, q'⟩ := I.after hq
      subst ez
      cases rz
      exact ⟨.bl b, H', I', rfl, q'⟩
    | next => exact False.elim hq
    | brk => exact False.elim hq
    | cont => exact False.elim hq
end
end Rp
namespace Rp
open PySem PySem.Spec PyProof.Rows L2
/-! ### `in`, == and != of lists whose things have an own ==, with whatever answer -/
section
open SeqAt MeetsSeq MeetsSeq2 MeetsSeq3 SeqRoads2
open AutoSeq1 (wpAny_loadPart')
variable {prog : Program} {w : World} {A : Around} {R : Result → Shared → Prop}
def ConI (prog : Program) (w : World) (A : Around) (E : Value → Shared → Prop) (l : Addr) (x : Value) (N : Nat) (e : Nat → Bool) (I : Nat → Shared → Prop) : Prop :=
  ∀ i s, I i s → ∃ (items : Array Value) (n : Nat), s.heap.get? l = some { cls := .type "list", data := .seq items n } ∧ items.size = N ∧
    ∀ (h1 : i < items.size), wpAny (model prog w) A.in1 (eqBool items[i] x) (fun r s' => r = e i ∧ I (i + 1) s') E s
theorem con_loopG (l : Addr) (x : Value) (N : Nat) (e : Nat → Bool) (I : Nat → Shared → Prop) (hl : ConI prog w A (fun e s' => R (.error e) s') l x N e I)
    (yes : ∀ i s, i < N → e i = true → I (i + 1) s → R (.ok (.ret (.bool true))) s) (no : (∀ i, i < N → e i = false) → ∀ s, I N s → R (.ok (.ret (.bool false))) s) (k : Nat) :
    ∀ i : Nat, N - i = k → i ≤ N → (∀ j, j < i → e j = false) → ∀ s, I i s →
      wpAny (model prog w) A.in1 (Builtin.«list.__contains__.loop» ⟨[.ref l, x, rawInt i], []⟩) (GQ.FinOf prog w A R) (fun e s' => R (.error e) s') s := by
  induction k with
  | zero =>
    intro i hk hi hf s h
    obtain ⟨items, n, hl1, hs1, _⟩ := hl _ _ h
    have hi' : i = N := by omega
    have hR : R (.ok (.ret (.bool false))) s := no (fun j hj => hf j (by omega)) s (hi' ▸ h)
    obtain ⟨hp, g, d, tk, os⟩ := s
    wp_walk using wpAny_loadPart' hl1
    have hi1 : items[((i : Nat) : Int).toNat]? = none := by simp; omega
    rw [hi1]
    wp_walk
    exact hR
  | succ k ih =>
    intro i hk hi hf s h
    obtain ⟨items, n, hl1, hs1, turn⟩ := hl _ _ h
    have hlt : i < items.size := by omega
    have ht := turn hlt
    obtain ⟨hp, g, d, tk, os⟩ := s
    wp_walk using wpAny_loadPart' hl1
    have hi1 : items[((i : Nat) : Int).toNat]? = some items[i] := by simp [hlt]
    have hc : ((i : Int) + 1) = ((i + 1 : Nat) : Int) := by omega
    rw [hi1]
    refine wpAny_bind (wpAny_mono ht (fun r s2 h2 => ?_) fun _ _ x => x)
    obtain ⟨hr, h2⟩ := h2
    cases hb : e i with
    | true =>
      rw [hb] at hr
      subst hr
      have hR := yes i s2 (by omega) hb h2
      obtain ⟨hp2, g2, d2, tk2, os2⟩ := s2
      wp_walk
      exact hR
    | false =>
      rw [hb] at hr
      subst hr
      have hrec := ih (i + 1) (by omega) (by omega) (fun j hj => (Nat.lt_or_eq_of_le (Nat.le_of_lt_succ hj)).elim (hf j) fun z => by rw [z]; exact hb) s2 h2
      obtain ⟨hp2, g2, d2, tk2, os2⟩ := s2
      wp_walk
      rw [hc]
      exact ⟨plainId_quiet plain_contains_loop _, codeAny_builtin entry_contains_loop (by
        rw [Around.under_plainId plain_contains_loop _]
        exact hrec)⟩
theorem list_conG (l : Addr) (x : Value) (N : Nat) (e : Nat → Bool) (I : Nat → Shared → Prop) (hl : ConI prog w A (fun e s' => R (.error e) s') l x N e I)
    (yes : ∀ i s, i < N → e i = true → I (i + 1) s → R (.ok (.ret (.bool true))) s) (no : (∀ i, i < N → e i = false) → ∀ s, I N s → R (.ok (.ret (.bool false))) s) {s : Shared} (h : I 0 s) :
    wpAny (model prog w) A.in1 (Builtin.«list.__contains__» ⟨[.ref l, x], []⟩) (GQ.FinOf prog w A R) (fun e s' => R (.error e) s') s := by
  obtain ⟨items, n, hl1, hs1, _⟩ := hl _ _ h
  have hrec := con_loopG (A := A) (R := R) l x N e I hl yes no _ 0 rfl (Nat.zero_le _) (fun j hj => absurd hj (Nat.not_lt_zero j)) s h
  obtain ⟨hp, g, d, tk, os⟩ := s
  wp_walk using wpAny_loadPart' hl1
  exact ⟨plainId_quiet plain_contains_loop _, codeAny_builtin entry_contains_loop (by
    rw [Around.under_plainId plain_contains_loop _]
    exact hrec)⟩
def EqI (prog : Program) (w : World) (A : Around) (E : Value → Shared → Prop) (l b : Addr) (N : Nat) (e : Nat → Bool) (I : Nat → Shared → Prop) : Prop :=
  ∀ i s, I i s → ∃ (items items2 : Array Value) (n n2 : Nat), s.heap.get? l = some { cls := .type "list", data := .seq items n } ∧ s.heap.get? b = some { cls := .type "list", data := .seq items2 n2 } ∧ items.size = N ∧ items2.size = N ∧
    ∀ (h1 : i < items.size) (h2 : i < items2.size), wpAny (model prog w) A.in1 (eqBool items[i] items2[i]) (fun r s' => r = e i ∧ I (i + 1) s') E s
theorem eqL_loop (l b : Addr) (N : Nat) (e : Nat → Bool) (I : Nat → Shared → Prop) (hl : EqI prog w A (fun e s' => R (.error e) s') l b N e I)
    (yes : (∀ i, i < N → e i = true) → ∀ s, I N s → R (.ok (.ret (.bool true))) s) (no : ∀ i s, i < N → e i = false → I (i + 1) s → R (.ok (.ret (.bool false))) s) (k : Nat) :
    ∀ i : Nat, N - i = k → i ≤ N → (∀ j, j < i → e j = true) → ∀ s, I i s →
      wpAny (model prog w) A.in1 (Builtin.«list.__eq__.loop» ⟨[.ref l, .ref b, rawInt i, rawInt 2], []⟩) (GQ.FinOf prog w A R) (fun e s' => R (.error e) s') s := by
  induction k with
  | zero =>
    intro i hk hi hf s h
    obtain ⟨items, items2, n, n2, hl1, hb1, hs1, hs2, _⟩ := hl _ _ h
    have hi' : i = N := by omega
    have hR : R (.ok (.ret (.bool true))) s := yes (fun j hj => hf j (by omega)) s (hi' ▸ h)
    obtain ⟨hp, g, d, tk, os⟩ := s
    wp_walk using wpAny_loadPart' hl1, wpAny_loadPart' hb1
    have hi1 : items[((i : Nat) : Int).toNat]? = none := by simp; omega
    have hi2 : items2[((i : Nat) : Int).toNat]? = none := by simp; omega
    rw [hi1, hi2]
    wp_walk using wpAny_loadPart' hl1, wpAny_loadPart' hb1
    show R (.ok (.ret (.bool (items.size == items2.size)))) _
    rw [hs1, hs2]
    simpa using hR
  | succ k ih =>
    intro i hk hi hf s h
    obtain ⟨items, items2, n, n2, hl1, hb1, hs1, hs2, turn⟩ := hl _ _ h
    have hlt : i < items.size := by omega
    have hlt2 : i < items2.size := by omega
    have ht := turn hlt hlt2
    obtain ⟨hp, g, d, tk, os⟩ := s
    wp_walk using wpAny_loadPart' hl1, wpAny_loadPart' hb1
    have hi1 : items[((i : Nat) : Int).toNat]? = some items[i] := by simp [hlt]
    have hi2 : items2[((i : Nat) : Int).toNat]? = some items2[i] := by simp [hlt2]
    have hc : ((i : Int) + 1) = ((i + 1 : Nat) : Int) := by omega
    rw [hi1, hi2]
    refine wpAny_bind (wpAny_mono ht (fun r s2 h2 => ?_) fun _ _ x => x)
    obtain ⟨hr, h2⟩ := h2
    cases hb : e i with
    | false =>
      rw [hb] at hr
      subst hr
      have hR := no i s2 (by omega) hb h2
      obtain ⟨it3, it4, n3, n4, hl3, hb3, hs3, hs4, _⟩ := hl _ _ h2
      have hlt3 : i < it3.size := by omega
      have hlt4 : i < it4.size := by omega
      obtain ⟨hp2, g2, d2, tk2, os2⟩ := s2
      wp_walk using wpAny_loadPart' hl3, wpAny_loadPart' hb3
      have hi3 : it3[((i : Nat) : Int).toNat]? = some it3[i] := by simp [hlt3]
      have hi4 : it4[((i : Nat) : Int).toNat]? = some it4[i] := by simp [hlt4]
      rw [hi3, hi4]
      wp_walk
      simpa using hR
    | true =>
      rw [hb] at hr
      subst hr
      have hrec := ih (i + 1) (by omega) (by omega) (fun j hj => (Nat.lt_or_eq_of_le (Nat.le_of_lt_succ hj)).elim (hf j) fun z => by rw [z]; exact hb) s2 h2
      obtain ⟨hp2, g2, d2, tk2, os2⟩ := s2
      wp_walk
      rw [hc]
      exact ⟨plainId_quiet plain_eq_loop _, codeAny_builtin entry_eq_loop (by
        rw [Around.under_plainId plain_eq_loop _]
        exact hrec)⟩
theorem list_eqL (l b : Addr) (N : Nat) (e : Nat → Bool) (I : Nat → Shared → Prop) (hl : EqI prog w A (fun e s' => R (.error e) s') l b N e I)
    (yes : (∀ i, i < N → e i = true) → ∀ s, I N s → R (.ok (.ret (.bool true))) s) (no : ∀ i s, i < N → e i = false → I (i + 1) s → R (.ok (.ret (.bool false))) s) {s : Shared} (h : I 0 s) :
    wpAny (model prog w) A.in1 (Builtin.«list.__eq__» ⟨[.ref l, .ref b], []⟩) (GQ.FinOf prog w A R) (fun e s' => R (.error e) s') s := by
  obtain ⟨items, items2, n, n2, hl1, hb1, hs1, hs2, _⟩ := hl _ _ h
  have hrec := eqL_loop (A := A) (R := R) l b N e I hl yes no _ 0 rfl (Nat.zero_le _) (fun j hj => absurd hj (Nat.not_lt_zero j)) s h
  obtain ⟨hp, g, d, tk, os⟩ := s
  have f3 := AutoSeq1.sub_list_list
  have hne : ¬ (items.size != items2.size) = true := by simp [hs1, hs2]
  wp_walk using wpAny_loadPart' hl1, wpAny_loadPart' hb1
  exact ⟨plainId_quiet plain_eq_loop _, codeAny_builtin entry_eq_loop (by
    rw [Around.under_plainId plain_eq_loop _]
    exact hrec)⟩
theorem neL_loop (l b : Addr) (N : Nat) (e : Nat → Bool) (I : Nat → Shared → Prop) (hl : EqI prog w A (fun e s' => R (.error e) s') l b N e I)
    (yes : (∀ i, i < N → e i = true) → ∀ s, I N s → R (.ok (.ret (.bool false))) s) (no : ∀ i s, i < N → e i = false → I (i + 1) s → R (.ok (.ret (.bool true))) s) (k : Nat) :
    ∀ i : Nat, N - i = k → i ≤ N → (∀ j, j < i → e j = true) → ∀ s, I i s →
      wpAny (model prog w) A.in1 (Builtin.«list.__eq__.loop» ⟨[.ref l, .ref b, rawInt i, rawInt 3], []⟩) (GQ.FinOf prog w A R) (fun e s' => R (.error e) s') s := by
  induction k with
  | zero =>
    intro i hk hi hf s h
    obtain ⟨items, items2, n, n2, hl1, hb1, hs1, hs2, _⟩ := hl _ _ h
    have hi' : i = N := by omega
    have hR : R (.ok (.ret (.bool false))) s := yes (fun j hj => hf j (by omega)) s (hi' ▸ h)
    obtain ⟨hp, g, d, tk, os⟩ := s
    wp_walk using wpAny_loadPart' hl1, wpAny_loadPart' hb1
    have hi1 : items[((i : Nat) : Int).toNat]? = none := by simp; omega
    have hi2 : items2[((i : Nat) : Int).toNat]? = none := by simp; omega
    rw [hi1, hi2]
    wp_walk using wpAny_loadPart' hl1, wpAny_loadPart' hb1
    show R (.ok (.ret (.bool (items.size != items2.size)))) _
    rw [hs1, hs2]
    simpa using hR
  | succ k ih =>
    intro i hk hi hf s h
    obtain ⟨items, items2, n, n2, hl1, hb1, hs1, hs2, turn⟩ := hl _ _ h
    have hlt : i < items.size := by omega
    have hlt2 : i < items2.size := by omega
    have ht := turn hlt hlt2
    obtain ⟨hp, g, d, tk, os⟩ := s
    wp_walk using wpAny_loadPart' hl1, wpAny_loadPart' hb1
    have hi1 : items[((i : Nat) : Int).toNat]? = some items[i] := by simp [hlt]
    have hi2 : items2[((i : Nat) : Int).toNat]? = some items2[i] := by simp [hlt2]
    have hc : ((i : Int) + 1) = ((i + 1 : Nat) : Int) := by omega
    rw [hi1, hi2]
    refine wpAny_bind (wpAny_mono ht (fun r s2 h2 => ?_) fun _ _ x => x)
    obtain ⟨hr, h2⟩ := h2
    cases hb : e i with
    | false =>
      rw [hb] at hr
      subst hr
      have hR := no i s2 (by omega) hb h2
      obtain ⟨it3, it4, n3, n4, hl3, hb3, hs3, hs4, _⟩ := hl _ _ h2
      have hlt3 : i < it3.size := by omega
      have hlt4 : i < it4.size := by omega
      obtain ⟨hp2, g2, d2, tk2, os2⟩ := s2
      wp_walk using wpAny_loadPart' hl3, wpAny_loadPart' hb3
      have hi3 : it3[((i : Nat) : Int).toNat]? = some it3[i] := by simp [hlt3]
      have hi4 : it4[((i : Nat) : Int).toNat]? = some it4[i] := by simp [hlt4]
      rw [hi3, hi4]
      wp_walk
      simpa using hR
    | true =>
      rw [hb] at hr
      subst hr
      have hrec := ih (i + 1) (by omega) (by omega) (fun j hj => (Nat.lt_or_eq_of_le (Nat.le_of_lt_succ hj)).elim (hf j) fun z => by rw [z]; exact hb) s2 h2
      obtain ⟨hp2, g2, d2, tk2, os2⟩ := s2
      wp_walk
      rw [hc]
      exact ⟨plainId_quiet plain_eq_loop _, codeAny_builtin entry_eq_loop (by
        rw [Around.under_plainId plain_eq_loop _]
        exact hrec)⟩
theorem list_neL (l b : Addr) (N : Nat) (e : Nat → Bool) (I : Nat → Shared → Prop) (hl : EqI prog w A (fun e s' => R (.error e) s') l b N e I)
    (yes : (∀ i, i < N → e i = true) → ∀ s, I N s → R (.ok (.ret (.bool false))) s) (no : ∀ i s, i < N → e i = false → I (i + 1) s → R (.ok (.ret (.bool true))) s) {s : Shared} (h : I 0 s) :
    wpAny (model prog w) A.in1 (Builtin.«list.__ne__» ⟨[.ref l, .ref b], []⟩) (GQ.FinOf prog w A R) (fun e s' => R (.error e) s') s := by
  obtain ⟨items, items2, n, n2, hl1, hb1, hs1, hs2, _⟩ := hl _ _ h
  have hrec := neL_loop (A := A) (R := R) l b N e I hl yes no _ 0 rfl (Nat.zero_le _) (fun j hj => absurd hj (Nat.not_lt_zero j)) s h
  obtain ⟨hp, g, d, tk, os⟩ := s
  have f3 := AutoSeq1.sub_list_list
  have hne : ¬ (items.size != items2.size) = true := by simp [hs1, hs2]
  wp_walk using wpAny_loadPart' hl1, wpAny_loadPart' hb1
  exact ⟨plainId_quiet plain_eq_loop _, codeAny_builtin entry_eq_loop (by
    rw [Around.under_plainId plain_eq_loop _]
    exact hrec)⟩
end
section
open SeqAt MeetsSeq MeetsSeq2 MeetsSeq3 SeqRoads2
variable {prog : Program} {w : World} {A : Around} {E : Value → Shared → Prop} {s : Shared}
theorem in_conG {l : Addr} {x : Value} {Q : Value → Shared → Prop} (N : Nat) (e : Nat → Bool) (I : Nat → Shared → Prop) (hl : ConI prog w A E l x N e I)
    (yes : ∀ i s, i < N → e i = true → I (i + 1) s → Q (.bool true) s) (no : (∀ i, i < N → e i = false) → ∀ s, I N s → Q (.bool false) s) (h : I 0 s) : wpAny (model prog w) A (compareOp .In x (.ref l)) Q E s := by
  obtain ⟨items, n, hl1, _⟩ := hl _ _ h
  show wpAny _ A (do return .bool (← contains (.ref l) x)) Q E s
  refine wpAny_bind (wpAny_contains_slot (T := "list") ⟨_, hl1, rfl⟩ F.slot_list_contains (wpAny_mono (GQ.call_here F.slot_list_contains ⟨_, hl1, rfl⟩ F.entry_list_contains (F.args_list_contains_2 _ _)
    (list_conG (R := wants (fun v s' => ∃ b, v = .bool b ∧ Q (.bool b) s') E) l x N e I hl (fun i s a b c => ⟨true, rfl, yes i s a b c⟩) (fun a s b => ⟨false, rfl, no a s b⟩) h)) (fun v s' hv => ?_) fun _ _ e => e))
  obtain ⟨b, rfl, hq⟩ := hv
  exact wpAny_truthy_bool (wpAny_pure hq)
theorem notIn_conG {l : Addr} {x : Value} {Q : Value → Shared → Prop} (N : Nat) (e : Nat → Bool) (I : Nat → Shared → Prop) (hl : ConI prog w A E l x N e I)
    (yes : ∀ i s, i < N → e i = true → I (i + 1) s → Q (.bool false) s) (no : (∀ i, i < N → e i = false) → ∀ s, I N s → Q (.bool true) s) (h : I 0 s) : wpAny (model prog w) A (compareOp .NotIn x (.ref l)) Q E s := by
  obtain ⟨items, n, hl1, _⟩ := hl _ _ h
  show wpAny _ A (do return .bool (!(← contains (.ref l) x))) Q E s
  refine wpAny_bind (wpAny_contains_slot (T := "list") ⟨_, hl1, rfl⟩ F.slot_list_contains (wpAny_mono (GQ.call_here F.slot_list_contains ⟨_, hl1, rfl⟩ F.entry_list_contains (F.args_list_contains_2 _ _)
    (list_conG (R := wants (fun v s' => ∃ b, v = .bool b ∧ Q (.bool (!b)) s') E) l x N e I hl (fun i s a b c => ⟨true, rfl, yes i s a b c⟩) (fun a s b => ⟨false, rfl, no a s b⟩) h)) (fun v s' hv => ?_) fun _ _ e => e))
  obtain ⟨b, rfl, hq⟩ := hv
  exact wpAny_truthy_bool (wpAny_pure hq)
theorem rc_eqL {l b : Addr} {Q : Value → Shared → Prop} (hu : A.units < cLine) (N : Nat) (e : Nat → Bool) (I : Nat → Shared → Prop) (hl : EqI prog w A E l b N e I)
    (yes : (∀ i, i < N → e i = true) → ∀ s, I N s → Q (.bool true) s) (no : ∀ i s, i < N → e i = false → I (i + 1) s → Q (.bool false) s) (h : I 0 s) : wpAny (model prog w) A (richCompare .Eq (.ref l) (.ref b)) Q E s := by
  obtain ⟨items, items2, n, n2, hl1, hb1, _⟩ := hl _ _ h
  refine wpAny_richCompare_same_room (op := .Eq) ⟨_, hl1, rfl⟩ ⟨_, hb1, rfl⟩ F.slot_list_eq (GQ.call_here F.slot_list_eq ⟨_, hl1, rfl⟩ F.entry_list_eq (F.args_list_eq_2 _ _) ?_) hu
  exact list_eqL (R := wants (fun v s' => v ≠ .notImplemented ∧ Q v s') E) l b N e I hl (fun a s' q => ⟨(fun x => nomatch x), yes a s' q⟩) (fun i s' a c q => ⟨(fun x => nomatch x), no i s' a c q⟩) h
theorem rc_neL {l b : Addr} {Q : Value → Shared → Prop} (hu : A.units < cLine) (N : Nat) (e : Nat → Bool) (I : Nat → Shared → Prop) (hl : EqI prog w A E l b N e I)
    (yes : (∀ i, i < N → e i = true) → ∀ s, I N s → Q (.bool false) s) (no : ∀ i s, i < N → e i = false → I (i + 1) s → Q (.bool true) s) (h : I 0 s) : wpAny (model prog w) A (richCompare .NotEq (.ref l) (.ref b)) Q E s := by
  obtain ⟨items, items2, n, n2, hl1, hb1, _⟩ := hl _ _ h
  refine wpAny_richCompare_same_room (op := .NotEq) ⟨_, hl1, rfl⟩ ⟨_, hb1, rfl⟩ F.slot_list_ne (GQ.call_here F.slot_list_ne ⟨_, hl1, rfl⟩ F.entry_list_ne (F.args_list_ne_2 _ _) ?_) hu
  exact list_neL (R := wants (fun v s' => v ≠ .notImplemented ∧ Q v s') E) l b N e I hl (fun a s' q => ⟨(fun x => nomatch x), yes a s' q⟩) (fun i s' a c q => ⟨(fun x => nomatch x), no i s' a c q⟩) h
end
/-! ### by values -/
/-- == inside a builtin: the answer, the heap as it was -/
def EqB (X : Cx) (n : Nat) (x y : V) (H : Hp) (r : Bool) : Prop :=
  ∀ (A : Around) (pins : List (Addr × Obj)) (s : Shared) (σ : L2.St) (u v : Value), Sub X n A → Inv X pins σ H s → RelV x u → RelV y v →
    wpAny (model X.prog X.w) A (eqBool u v) (fun r' s' => r' = r ∧ Inv X pins σ H s') X.xe s
section
variable {P : Program} {w : World} {K : PySem.W.Frag} {mg : Str → Option Value} {base : Heap} {k j n m : Nat} {N Vz Sz G : List Str} {sc : Scope} {X : Cx} {H : Hp} {Q : VK} {sp : Sp} {x y : V} {a b c dx dy : Addr} {fs gs : List (Str × V)} {r : Bool}
theorem EqB.mono (h : EqB X n x y H r) (hn : n ≤ m) : EqB X m x y H r := fun A pins s σ u v sb => h A pins s σ u v (sb.mono hn)
theorem eqB_same : EqB X n (.ref a) (.ref a) H true := by
  intro A pins s σ u v sb I ru rv
  obtain rfl : u = Value.ref a := ru
  obtain rfl : v = Value.ref a := rv
  exact SeqAt.EqAt.same (A := A) (s := s) (.ref a) X.prog X.w X.xe _ ⟨rfl, I⟩
theorem eqB_ins (C : CxI P w K mg base k N Vz Sz G sc X) (M : Mo P w K mg base j c "__eq__" sp) (hab : a ≠ b) (ha : H a = some (.ins c dx fs)) (hb' : H b = some (.ins c dy gs))
    (q : sp [.ref a, .ref b] H (fun v H' => v = .bl r ∧ H' = H) E0) : EqB X j (.ref a) (.ref b) H r := by
  intro A pins s σ u v sb I ru rv
  obtain rfl : u = Value.ref a := ru
  obtain rfl : v = Value.ref b := rv
  obtain ⟨f, fd, ps, Fk, hs, hf, hb⟩ := M.ex
  obtain ⟨rfl, rfl, rfl, rfl, rfl, _, _, hr, _, _, _, _, _⟩ := C
  obtain ⟨mA, J, _⟩ := ins_get I.hok ha
  obtain ⟨mB, J', _⟩ := ins_get I.hok hb'
  obtain ⟨od, J, _⟩ := J.look
  obtain ⟨od', J', _⟩ := J'.look
  obtain ⟨mm, hF⟩ := I.fr
  refine GQ.eqBool_refG hab (PySem.W.cmp_K (op := .Eq) (tb := .ref c) sb.room.units0 hF I.ok.mod.kin J J'.type (by simp [PySem.W.notFirst]) hs hf ?_)
  have e0 : Env0 X.prog X.w X.K X.mg X.base A X.stack s H := by
    have e := I.env0
    exact ⟨by rw [sb.fr]; exact e.frames, e.mod, e.bs, e.bsz, e.funs, e.frf, e.hok, e.bare⟩
  have hl := Fk.len _ _ _ _ q
  have r2 : Vals [V.ref a, V.ref b] [Value.ref a, Value.ref b] := .cons rfl (.cons rfl .nil)
  refine wpAny_call (codeAny_mono (Fk.run A X.stack s H ⟨[.ref a, .ref b], []⟩ [.ref a, .ref b] [.ref a, .ref b] _ E0 sb.room e0 (by
    have := hb s [.ref a, .ref b] I.kIn (by simpa using hl)
    simpa using this) r2 q) fun r' s' hq => ?_)
  cases r' with
  | error e => exact pass0 pins σ H s e s' I hq
  | ok fl =>
    cases fl with
    | ret w =>
      obtain ⟨z, H', I', rz, ez, eh⟩ := I.after hq
      subst ez
      subst eh
      cases rz
      exact ⟨r, rfl, rfl, I'⟩
    | next => exact False.elim hq
    | brk => exact False.elim hq
    | cont => exact False.elim hq
/-- the pairs of two lists -/
def PrsB (X : Cx) (n : Nat) (xs ys : List V) (H : Hp) (e : Nat → Bool) : Prop := xs.length = ys.length ∧ ∀ (i : Nat) x y, xs[i]? = some x → ys[i]? = some y → EqB X n x y H (e i)
theorem turnB {A : Around} (sb : Sub X (n + 1) A) {e : Nat → Bool} {pins : List (Addr × Obj)} {σ : L2.St} {xs ys : List V} {its its2 : List Value} (p : PrsB X n xs ys H e) (r : Vals xs its) (r2 : Vals ys its2)
    (i : Nat) (h1 : i < its.toArray.size) (h2 : i < its2.toArray.size) (s' : Shared) (I1 : Inv X pins σ H s') :
    wpAny (model X.prog X.w) A.in1 (eqBool its.toArray[i] its2.toArray[i]) (fun r s2 => r = e i ∧ Inv X pins σ H s2) X.xe s' := by
  have g1 : its[i]? = some its.toArray[i] := by
    have h1' : i < its.length := by simpa using h1
    rw [List.getElem?_eq_getElem h1'] <;> simp
  have g2 : its2[i]? = some its2.toArray[i] := by
    have h2' : i < its2.length := by simpa using h2
    rw [List.getElem?_eq_getElem h2'] <;> simp
  have k1 : i < xs.length := by rw [r.length]; simpa using h1
  have k2 : i < ys.length := by rw [r2.length]; simpa using h2
  obtain ⟨u, hu, ru⟩ := r.get (List.getElem?_eq_getElem k1)
  obtain ⟨v, hv, rv⟩ := r2.get (List.getElem?_eq_getElem k2)
  rw [g1] at hu
  rw [g2] at hv
  rw [Option.some.inj hu, Option.some.inj hv]
  exact p.2 i _ _ (List.getElem?_eq_getElem k1) (List.getElem?_eq_getElem k2) A.in1 pins s' σ u v sb.in1 I1 ru rv
theorem sub_cx (C : CxI P w K mg base k N Vz Sz G sc X) : Sub X k X.A := ⟨C.room, rfl⟩
theorem eqI_of {A : Around} (sb : Sub X (n + 1) A) {e : Nat → Bool} {pins : List (Addr × Obj)} {σ : L2.St} {xs ys : List V} {a b : Addr} (p : PrsB X n xs ys H e) (ha : H a = some (.lst xs)) (hb : H b = some (.lst ys)) :
    EqI X.prog X.w A X.xe a b xs.length e (fun _ s' => Inv X pins σ H s') := by
  intro i s' I1
  obtain ⟨z, its, k, r, e⟩ := I1.hok a _ ha
  obtain ⟨z2, its2, k2, r2, e2⟩ := I1.hok b _ hb
  exact ⟨its.toArray, its2.toArray, k, k2, e, e2, by rw [List.size_toArray, ← r.length], by rw [List.size_toArray, ← r2.length, ← p.1], fun h1 h2 => turnB sb p r r2 i h1 h2 s' I1⟩
theorem o_eqL {e : Nat → Bool} {xs ys : List V} (C : CxI P w K mg base k N Vz Sz G sc X) (hk : n + 1 ≤ k) (ha : H a = some (.lst xs)) (hb : H b = some (.lst ys)) (p : PrsB X n xs ys H e) (t : Bool)
    (ht : (t = true → ∀ i, i < xs.length → e i = true) ∧ (t = false → ∃ i, i < xs.length ∧ e i = false)) (q : Q (.bl t) H) : wO X (compareOp .Eq) (.ref a) (.ref b) H Q := by
  refine ⟨fun pins s σ v u I rx ry => ?_⟩
  obtain rfl : v = Value.ref a := rx
  obtain rfl : u = Value.ref b := ry
  have sb := (sub_cx C).mono hk
  show wpAny _ _ (richCompare .Eq (.ref a) (.ref b)) _ _ _
  refine rc_eqL sb.room.units0 xs.length e (fun _ s' => Inv X pins σ H s') (eqI_of sb p ha hb) (fun al s' I' => ?_) (fun i s' hi he I' => ?_) I
  · cases t with
    | true => exact ⟨.bl true, H, I', rfl, q⟩
    | false =>
      obtain ⟨i, hi, z⟩ := ht.2 rfl
      rw [al i hi] at z
      cases z
  · cases t with
    | false => exact ⟨.bl false, H, I', rfl, q⟩
    | true => rw [ht.1 rfl i hi] at he; cases he
theorem o_neL {e : Nat → Bool} {xs ys : List V} (C : CxI P w K mg base k N Vz Sz G sc X) (hk : n + 1 ≤ k) (ha : H a = some (.lst xs)) (hb : H b = some (.lst ys)) (p : PrsB X n xs ys H e) (t : Bool)
    (ht : (t = true → ∀ i, i < xs.length → e i = true) ∧ (t = false → ∃ i, i < xs.length ∧ e i = false)) (q : Q (.bl (!t)) H) : wO X (compareOp .NotEq) (.ref a) (.ref b) H Q := by
  refine ⟨fun pins s σ v u I rx ry => ?_⟩
  obtain rfl : v = Value.ref a := rx
  obtain rfl : u = Value.ref b := ry
  have sb := (sub_cx C).mono hk
  show wpAny _ _ (richCompare .NotEq (.ref a) (.ref b)) _ _ _
  refine rc_neL sb.room.units0 xs.length e (fun _ s' => Inv X pins σ H s') (eqI_of sb p ha hb) (fun al s' I' => ?_) (fun i s' hi he I' => ?_) I
  · cases t with
    | true => exact ⟨.bl false, H, I', rfl, q⟩
    | false =>
      obtain ⟨i, hi, z⟩ := ht.2 rfl
      rw [al i hi] at z
      cases z
  · cases t with
    | false => exact ⟨.bl true, H, I', rfl, q⟩
    | true => rw [ht.1 rfl i hi] at he; cases he
theorem conI_of {A : Around} (sb : Sub X (n + 1) A) {e : Nat → Bool} {pins : List (Addr × Obj)} {σ : L2.St} {xs : List V} {l : Addr} {v : Value} (rx : RelV x v) (p : ∀ (i : Nat) y, xs[i]? = some y → EqB X n y x H (e i)) (hl : H l = some (.lst xs)) :
    ConI X.prog X.w A X.xe l v xs.length e (fun _ s' => Inv X pins σ H s') := by
  intro i s' I1
  obtain ⟨z, its, k, r, ee⟩ := I1.hok l _ hl
  refine ⟨its.toArray, k, ee, by rw [List.size_toArray, ← r.length], fun h1 => ?_⟩
  have g1 : its[i]? = some its.toArray[i] := by
    have h1' : i < its.length := by simpa using h1
    rw [List.getElem?_eq_getElem h1'] <;> simp
  have k1 : i < xs.length := by rw [r.length]; simpa using h1
  obtain ⟨u, hu, ru⟩ := r.get (List.getElem?_eq_getElem k1)
  rw [g1] at hu
  rw [Option.some.inj hu]
  exact p i _ (List.getElem?_eq_getElem k1) A.in1 pins s' σ u v sb.in1 I1 ru rx
/-- x in xs -/
theorem o_inL {e : Nat → Bool} {xs : List V} (C : CxI P w K mg base k N Vz Sz G sc X) (hk : n + 1 ≤ k) (ha : H a = some (.lst xs)) (p : ∀ (i : Nat) y, xs[i]? = some y → EqB X n y x H (e i)) (t : Bool)
    (ht : (t = false → ∀ i, i < xs.length → e i = false) ∧ (t = true → ∃ i, i < xs.length ∧ e i = true)) (q : Q (.bl t) H) : wO X (compareOp .In) x (.ref a) H Q := by
  refine ⟨fun pins s σ v u I rx ry => ?_⟩
  obtain rfl : u = Value.ref a := ry
  have sb := (sub_cx C).mono hk
  refine in_conG xs.length e (fun _ s' => Inv X pins σ H s') (conI_of sb rx p ha) (fun i s' hi he I' => ?_) (fun al s' I' => ?_) I
  · cases t with
    | true => exact ⟨.bl true, H, I', rfl, q⟩
    | false => rw [ht.1 rfl i hi] at he; cases he
  · cases t with
    | false => exact ⟨.bl false, H, I', rfl, q⟩
    | true =>
      obtain ⟨i, hi, z⟩ := ht.2 rfl
      rw [al i hi] at z
      cases z
theorem o_notInL {e : Nat → Bool} {xs : List V} (C : CxI P w K mg base k N Vz Sz G sc X) (hk : n + 1 ≤ k) (ha : H a = some (.lst xs)) (p : ∀ (i : Nat) y, xs[i]? = some y → EqB X n y x H (e i)) (t : Bool)
    (ht : (t = false → ∀ i, i < xs.length → e i = false) ∧ (t = true → ∃ i, i < xs.length ∧ e i = true)) (q : Q (.bl (!t)) H) : wO X (compareOp .NotIn) x (.ref a) H Q := by
  refine ⟨fun pins s σ v u I rx ry => ?_⟩
  obtain rfl : u = Value.ref a := ry
  have sb := (sub_cx C).mono hk
  refine notIn_conG xs.length e (fun _ s' => Inv X pins σ H s') (conI_of sb rx p ha) (fun i s' hi he I' => ?_) (fun al s' I' => ?_) I
  · cases t with
    | true => exact ⟨.bl false, H, I', rfl, q⟩
    | false => rw [ht.1 rfl i hi] at he; cases he
  · cases t with
    | false => exact ⟨.bl true, H, I', rfl, q⟩
    | true =>
      obtain ⟨i, hi, z⟩ := ht.2 rfl
      rw [al i hi] at z
      cases z
end
/-! ### repr(one), by an own __repr__ -/
section
variable {prog : Program} {w : World} {A : Around} {E : Value → Shared → Prop} {s : Shared} {K : PySem.W.Frag} {x C f : Addr} {ox : Obj} {od : Option Obj}
theorem repr_K {Q : Value → Shared → Prop} (hu : A.in1.units < cLine) (X : K.In s.heap) (I : PySem.W.InstAt s.heap x ox C od) (hs : PySem.W.findIn K (.ref C) "__repr__" = some (some (.ref f))) (hf : PySem.W.isFn K (.ref f) = true)
    (hc : wpAny (model prog w) A.in1 (call (.ref f) [.ref x]) (fun r s' => ∃ m tk, r = .str m tk ∧ Q (.str m tk) s') E s) : wpAny (model prog w) A (call (.builtin "repr") [.ref x]) Q E s := by
  refine Calls.call_function_entry F.kind_repr F.plain_repr F.entry_repr (F.args_repr1 _) ?_
  unfold Builtin.«repr»
  refine wpAny_bind (m := oneArg "repr" _) (wpAny_pure ?_)
  refine wpAny_bind (wpAny_cRoomFor hu ?_)
  refine wpAny_bind (m := specialOf (.ref x) _) (wpAny_bind (I.type.here ((PySem.W.looks_findIn X hs).here ?_)))
  show wpAny _ _ (if (some (Value.ref f)).isNone = true then _ else _) _ _ _
  rw [if_neg (by simp)]
  refine wpAny_bind (m := callSpecialIfBound? (.ref x) (Str.ofString "__repr__") _) (PySem.W.ifBound_K X I hs hf (wpAny_mono hc (fun r s' hr => ?_) fun _ _ y => y))
  obtain ⟨m, tk, rfl, hq⟩ := hr
  refine wpAny_bind (wpAny_isInstance (typeIs_str _ _ _) isSubtype_str_str ?_)
  first
    | exact wpAny_pure ⟨_, rfl, hq⟩
    | (rw [if_pos rfl]; exact wpAny_pure ⟨_, rfl, hq⟩)
    | (simp only [if_true]; exact wpAny_pure ⟨_, rfl, hq⟩)
end
section
variable {P : Program} {w : World} {K : PySem.W.Frag} {mg : Str → Option Value} {base : Heap} {k j : Nat} {N Vz Sz G : List Str} {sc : Scope} {X : Cx} {H : Hp} {Q : VK} {sp : Sp} {a c dx : Addr} {fs : List (Str × V)}
theorem c_reprOwn (C : CxI P w K mg base k N Vz Sz G sc X) (M : Mo P w K mg base j c "__repr__" sp) (hj : j + 1 ≤ k) (ha : H a = some (.ins c dx fs)) (q : sp [.ref a] H (fun v H' => ∃ z : Str, v = .str z ∧ Q (.str z) H') E0) : wC X (.builtin "repr") [.ref a] H Q := by
  obtain ⟨f, fd, ps, Fk, hs, hf, hb⟩ := M.ex
  obtain ⟨rfl, rfl, rfl, rfl, rfl, _, _, hr, _, _, _, _, _⟩ := C
  refine ⟨fun pins s σ us I r => ?_⟩
  obtain ⟨u, rfl, rx⟩ := vals1 r
  obtain rfl : u = Value.ref a := rx
  obtain ⟨mA, J, _⟩ := ins_get I.hok ha
  obtain ⟨od, J, _⟩ := J.look
  have sb : Sub X (j + 1) X.A := ⟨hr.mono hj, rfl⟩
  have sb1 := sb.in1
  refine repr_K sb1.room.units0 I.kIn J hs hf ?_
  have e0 : Env0 X.prog X.w X.K X.mg X.base X.A.in1 X.stack s H := by
    have e := I.env0
    exact ⟨by rw [sb1.fr]; exact e.frames, e.mod, e.bs, e.bsz, e.funs, e.frf, e.hok, e.bare⟩
  have hl := Fk.len _ _ _ _ q
  have r2 : Vals [V.ref a] [Value.ref a] := .cons rfl .nil
  refine wpAny_call (codeAny_mono (Fk.run X.A.in1 X.stack s H ⟨[.ref a], []⟩ [.ref a] [.ref a] _ E0 sb1.room e0 (by
    have := hb s [.ref a] I.kIn (by simpa using hl)
    simpa using this) r2 q) fun r' s' hq => ?_)
  cases r' with
  | error e => exact pass0 pins σ H s e s' I hq
  | ok fl =>
    cases fl with
    | ret w =>
      obtain ⟨z, H', I', rz, t, ez, q'⟩ := I.after hq
      subst ez
      obtain ⟨tk, rfl⟩ := rz
      exact ⟨t, tk, rfl, .str t, H', I', ⟨tk, rfl⟩, q'⟩
    | next => exact False.elim hq
    | brk => exact False.elim hq
    | cont => exact False.elim hq
end
end Rp
namespace Rp
open PySem PySem.Spec PyProof.Rows L2
/-! ### sizes of texts -/
def Sz (s : Str) (n : Nat) : Prop := s.length ≤ n
theorem slen_app (a b : Str) : (a ++ b).length = a.length + b.length := by first | exact PySem.Str.length_append a b | simp
theorem Sz.app {a b : Str} {n m : Nat} (h : Sz a n) (k : Sz b m) : Sz (a ++ b) (n + m) := by unfold Sz at *; rw [slen_app]; omega
theorem Sz.lit (s : Str) : Sz s s.length := Nat.le_refl _
theorem Sz.mono {s : Str} {n m : Nat} (h : Sz s n) (k : n ≤ m) : Sz s m := Nat.le_trans h k
section
variable {P : Program} {w : World} {K : PySem.W.Frag} {mg : Str → Option Value} {base : Heap} {k j : Nat} {N Vz Sz' G : List Str} {sc : Scope} {X : Cx} {σ : L2.St} {H : Hp} {Q : VK} {x y : Str} {n m : Nat}
theorem o_addS (h1 : Sz x n) (h2 : Sz y m) (h : n + m ≤ sizeLine) (q : Q (.str (x ++ y)) H) : wO X (binaryOp .Add) (.str x) (.str y) H Q :=
  wO.of op_add_str ⟨x, y, rfl, rfl, Nat.le_trans (Nat.add_le_add h1 h2) h, q⟩
theorem o_neS (q : Q (.bl (decide (x ≠ y))) H) : wO X (compareOp .NotEq) (.str x) (.str y) H Q :=
  wO.of op_ne ⟨rfl, by rw [show (!decide (V.str x = V.str y)) = decide (x ≠ y) by simp]; exact q⟩
theorem o_eqSS (q : Q (.bl (decide (x = y))) H) : wO X (compareOp .Eq) (.str x) (.str y) H Q :=
  wO.of op_eq ⟨rfl, by rw [show decide (V.str x = V.str y) = decide (x = y) by simp]; exact q⟩
theorem o_neB {a b : Bool} (q : Q (.bl (decide (a ≠ b))) H) : wO X (compareOp .NotEq) (.bl a) (.bl b) H Q :=
  wO.of op_ne ⟨rfl, by rw [show (!decide (V.bl a = V.bl b)) = decide (a ≠ b) by simp]; exact q⟩
theorem c_strB {b : Bool} (q : Q (.str (if b then "True" else "False")) H) : wC X (.type "str") [.bl b] H Q := by
  refine ⟨fun pins s σ us I r => ?_⟩
  obtain ⟨u, rfl, rx⟩ := vals1 r
  obtain rfl : u = Value.bool b := rx
  exact PySem.P.str_of_bool ⟨.str _, H, I.tok _, ⟨_, rfl⟩, q⟩
theorem c_reprB {b : Bool} (q : Q (.str (if b then "True" else "False")) H) : wC X (.builtin "repr") [.bl b] H Q := by
  refine ⟨fun pins s σ us I r => ?_⟩
  obtain ⟨u, rfl, rx⟩ := vals1 r
  obtain rfl : u = Value.bool b := rx
  exact PySem.P.repr_of_bool ⟨.str _, H, I.tok _, ⟨_, rfl⟩, q⟩
theorem c_reprN (q : Q (.str "None") H) : wC X (.builtin "repr") [.non] H Q := by
  refine ⟨fun pins s σ us I r => ?_⟩
  obtain ⟨u, rfl, rx⟩ := vals1 r
  obtain rfl : u = Value.none := rx
  exact PySem.P.repr_of_none ⟨.str _, H, I.tok _, ⟨_, rfl⟩, q⟩
/-! ### dicts -/
variable {e o kx vx : Expr} {pos apos : Pos}
theorem wE_dnewK (q : ∀ p H2, H p = none → Ex H H2 → H2 p = some (.dK []) → Q (.ref p) H2) : wE X (.Dict [] [] pos) σ H Q := wE.of pe_dnewK fun p hp => q p _ hp (Ex.upd hp) upd_same
/-- {k: v} -/
theorem wE_disp1 (q : ∀ p H1, H p = none → Ex H H1 → H1 p = some (.dK []) → wE X kx σ H1 fun x H2 => wE X vx σ H2 fun y H3 => H3 p = some (.dK []) ∧ ∃ kk : Key, x = kV kk ∧ ∀ H4, Exb p H3 H4 → H4 p = some (.dK [(kk, y)]) → Q (.ref p) H4) :
    wE X (.Dict [some kx] [vx] pos) σ H Q := by
  refine wE.of (pe_disp (pps_cons (wE.pe (e := kx)) (wE.pe (e := vx)) pps_nil) rfl rfl (by simp) (by show 1 ≤ 15; decide)) fun p hp => ?_
  refine ⟨fun pins s I => thn ((q p _ hp (Ex.upd hp) upd_same).run pins s I) ?_⟩
  rintro u s1 ⟨x, H1, I1, r1, q1⟩
  refine ⟨x, H1, I1, r1, ⟨fun pins s I => thn (q1.run pins s I) ?_⟩⟩
  rintro u s1 ⟨y, H2, I2, r2, q2, kk, rfl, q3⟩
  exact ⟨y, H2, I2, r2, q2, [(kk, y)], rfl, by show 1 ≤ 15; decide, q3 _ Exb.upd upd_same⟩
/-- xs.index(e), flat things -/
def IxQ (K : PySem.W.Frag) (a : Addr) (ys : List V) (y : V) (H : Hp) (R : Int → Prop) : Prop := ∃ (j : Nat) (z : V), SqL K H a ys ∧ flatV y = true ∧ ys.all flatV = true ∧ ys[j]? = some z ∧ eqV z y = true ∧ (∀ (m : Nat) (z' : V), m < j → ys[m]? = some z' → eqV z' y = false) ∧ R (j : Nat)
theorem wE_index (C : CxI P w K mg base k N Vz Sz' G sc X) (hbase : attributeBase o "index" X.env (eval o X.env) = eval o X.env)
    (hfew : ((backTo pos (starEach [e] X.env)).all (fun x => !x.1) && (backToKw pos (keywordEach [] X.env)).all (fun x => x.1.isSome) && decide ([e].length + ([] : List Keyword).length + (if ([] : List Keyword).isEmpty then 0 else 1) < 30)) = true)
    (hline : (apos.endLine == pos.line) = true) (hs : starEach [e] X.env = (false, eval e X.env) :: starEach [] X.env) (hplain : (backTo pos (starEach [] X.env)).any (·.1) = false)
    (q : wE X o σ H fun x H1 => ∃ l xs, x = .ref l ∧ SqL K H1 l xs ∧ wE X e σ H1 fun y H2 => IxQ K l xs y H2 fun i => Q (.int i) H2) :
    wE X (.Call (.Attribute o "index" apos) [e] [] pos) σ H Q := by
  refine wE.of (pe_bm (T := "list") F.plainAttrs_list F.slot_list_index F.type_list_index mt_index wE.pe wA.pa hbase hfew hline hs hplain) ?_
  refine ⟨fun pins s I => thn (q.run pins s I) fun u s1 ⟨x, H1, I1, r1, l, xs, ex, hl, z⟩ => ⟨x, H1, I1, r1, ?_, ?_⟩⟩
  · subst ex
    exact .inl ⟨rfl, _, by rw [C.eK]; exact hl⟩
  · refine wA_cons hs ?_
    refine ⟨fun pins2 s2 I2 => thn (z.run pins2 s2 I2) fun u2 s3 ⟨y, H2, I3, r2, j, z', h1, h2, h3, h4, h5, h6, h7⟩ => ⟨y, H2, I3, r2, ?_⟩⟩
    exact wA_nil ⟨l, xs, y, j, z', ex, rfl, by rw [C.eK]; exact h1, h2, h3, h4, h5, h6, h7⟩
end
/-! ### texts of numbers, joined texts: which are alike -/
open TL
def numT (i : Int) : Str := Str.ofString (toString i)
theorem tl_of (s : String) : TL.tl (Str.ofString s) = s.toList.map Char.toNat := by rw [Str.ofString_eq_toList]
theorem numT_tl {i : Int} (h : 0 ≤ i) : TL.tl (numT i) = (Nat.toDigits 10 i.toNat).map Char.toNat := by
  obtain ⟨n, rfl⟩ := Int.eq_ofNat_of_zero_le h
  unfold numT
  rw [tl_of]
  have e : (toString (n : Int)) = n.repr := rfl
  rw [e, Nat.toList_repr, Int.toNat_natCast]
theorem numT_digit {i : Int} (h : 0 ≤ i) : ∀ c ∈ TL.tl (numT i), 48 ≤ c ∧ c ≤ 57 := by
  rw [numT_tl h]
  intro c hc
  obtain ⟨d, hd, rfl⟩ := List.mem_map.mp hc
  have z := Nat.isDigit_of_mem_toDigits (b := 10) (by decide) (by decide) hd
  unfold Char.isDigit at z
  rw [Bool.and_eq_true, decide_eq_true_eq, decide_eq_true_eq] at z
  obtain ⟨z1, z2⟩ := z
  have a1 : (48 : UInt32).toNat ≤ d.val.toNat := UInt32.le_iff_toNat_le.mp z1
  have a2 : d.val.toNat ≤ (57 : UInt32).toNat := UInt32.le_iff_toNat_le.mp z2
  exact ⟨a1, a2⟩
theorem numT_inj {i j : Int} (hi : 0 ≤ i) (hj : 0 ≤ j) (h : numT i = numT j) : i = j := by
  have z := congrArg TL.tl h
  rw [numT_tl hi, numT_tl hj] at z
  have inj : ∀ a b : Char, a.toNat = b.toNat → a = b := fun a b e => Char.ext (UInt32.toNat_inj.mp e)
  have z2 := List.map_inj_right (f := Char.toNat) (fun {a b} e => inj a b e) |>.mp z
  have z3 := congrArg (fun l => Nat.ofDigitChars 10 l 0) z2
  simp only [Nat.ofDigitChars_ten_toDigits] at z3
  omega
theorem app_left {a b c : Str} (h : a ++ b = a ++ c) : b = c := by
  have z := congrArg TL.tl h
  rw [TL.tl_append, TL.tl_append] at z
  exact TL.ext_tl (List.append_cancel_left z)
theorem app_right {a b c : Str} (h : a ++ c = b ++ c) : a = b := by
  have z := congrArg TL.tl h
  rw [TL.tl_append, TL.tl_append] at z
  exact TL.ext_tl (List.append_cancel_right z)
theorem join_inj {y : Str} {s : Nat} {S : List Nat} (ey : TL.tl y = s :: S) (hk : y.cps.all (· < 256) = true) {ps qs : List Str} (h1 : ps ≠ []) (h2 : qs ≠ []) (hp : ∀ p ∈ ps, s ∉ TL.tl p) (hq : ∀ p ∈ qs, s ∉ TL.tl p)
    (h : Txt.join y ps = Txt.join y qs) : ps = qs := by
  rw [← TL.split_join ey hk h1 hp, ← TL.split_join ey hk h2 hq, h]
/-- a part that may be left out -/
theorem opt_part {α : Type} (f : α → Nat) (c : Nat) {A A' B B' : List α} (hA : ∀ x ∈ A, f x = c) (hA' : ∀ x ∈ A', f x = c) (l : A.length ≤ 1) (l' : A'.length ≤ 1) (hB : ∀ x ∈ B, f x ≠ c) (hB' : ∀ x ∈ B', f x ≠ c) (h : A ++ B = A' ++ B') : A = A' ∧ B = B' := by
  match A, A', hA, hA', l, l', h with
  | [], [], _, _, _, _, h => exact ⟨rfl, h⟩
  | [x], [y], _, _, _, _, h => rw [List.cons_append, List.cons_append, List.nil_append, List.nil_append] at h; injection h with h1 h2; exact ⟨by rw [h1], h2⟩
  | [], [y], _, hA', _, _, h =>
    rw [List.nil_append, List.cons_append, List.nil_append] at h
    exact absurd (hA' y List.mem_cons_self) (hB y (by rw [h]; exact List.mem_cons_self))
  | [x], [], hA, _, _, _, h =>
    rw [List.nil_append, List.cons_append, List.nil_append] at h
    exact absurd (hA x List.mem_cons_self) (hB' x (by rw [← h]; exact List.mem_cons_self))
  | _ :: _ :: _, _, _, _, l, _, _ => simp at l
  | _, _ :: _ :: _, _, _, _, l', _ => simp at l'
/-- the first sign -/
def sgn (s : Str) : Nat := (TL.tl s).headD 0
end Rp
namespace Rp
open PySem PySem.Spec PyProof.Rows L2
section
variable {P : Program} {w : World} {K : PySem.W.Frag} {mg : Str → Option Value} {base : Heap} {k : Nat} {N Vz Sz G Vc Sc' Gc : List Str} {sc scope : Scope} {X : Cx} {elt tg it c : Expr} {ifs : List Expr} {σ : L2.St} {H : Hp} {pos : Pos} {Q : VK} {D : Ends}
/-- y = [.. for .. in a list] on one line -/
theorem wS_lcL {y : Str} {py spos : Pos} (own : List (Str × Nat)) (Vc Sc' Gc : List Str) (C : CxI P w K mg base k N Vz Sz G sc X) (ob : blkC N sc scope own = true) (ok : namesOk Vc Sc' Gc (relS scope sc) = true) (hl : localsOk Sc' (relS scope sc) = true) (hk : scope.kind = .function)
    (hyN : y ∈ N) (hy : (sc.names.lookup y == some .local) = true) (hp : (py.line == pos.line) = true) (ha : (scope.names.any fun (n, k) => n == y && (k == .local || k == .cell)) = false)
    (hf : ∀ x, foldedSetIterable it X.env x = pure x) (q : wE X it σ H fun v H1 => LcL P w K mg base k N Vc Sc' Gc (relS scope sc) (own.map (·.2)) elt tg ifs σ v H1 fun Da H => Put N σ y (.ref Da) fun σ' => D.nx σ' H) :
    wS X (.Assign [.Name y py] (.ListComp elt [⟨tg, it, ifs, 0⟩] scope pos) spos) D σ H := by
  have hyl : X.env.scope.names.lookup y = some .local := by rw [C.es]; exact eq_of_beq hy
  have hin : ∃ i, N[i]? = some y ∧ ∀ (v : V) R, Put N σ y v R → R (σ.set i (some v)) := by
    obtain ⟨i, hi⟩ := List.getElem?_of_mem hyN
    refine ⟨i, hi, fun v R q => ?_⟩
    obtain ⟨σ', p, r⟩ := q
    obtain ⟨j, hj, rfl⟩ := p.ix
    rw [nodup_ix C.nd hi hj]
    exact r
  obtain ⟨i, hi, hput⟩ := hin
  refine wS.of (ps_setLc (i := i) C.calm (by rw [C.eN]; exact C.nd) (by rw [C.eN]; exact hi) hyl (sw_true (by rw [C.es]; exact C.fk) hyl hp ha) (pi_list wE.pe) (blkOk_by (own := own) (by rw [C.eN, C.es]; exact ob)) (blk_pg C ok hl hk) (fun s H Ca cl fp => blk_pts C ok hl hk s H Ca cl fp ifs) (blk_pe C ok hl hk) hf) ?_
  show wE X it σ H _
  refine ⟨fun pins s I => thn (q.run pins s I) ?_⟩
  rintro u s1 ⟨v, H1, I1, r1, q1⟩
  refine ⟨v, H1, I1, r1, lcL_read (Q := fun x H => gName i x σ H D.nx) (s := s1) (u := u) (pins := pins) C ?_⟩
  obtain ⟨ad, xs, e, hS, q1⟩ := q1
  refine ⟨ad, xs, e, hS, fun Da hD => ?_⟩
  obtain ⟨Pv, h0, hl, hs, hd⟩ := q1 Da hD
  exact ⟨Pv, h0, hl, hs, fun H hp => hput _ _ (hd H hp)⟩
end
/-- the names of the built-in types of things -/
def oddTs : List String := ["NoneType", "bool", "int", "str", "list", "tuple", "dict"]
/-- what is known of a class with an own == -/
structure ClsF (K : PySem.W.Frag) (C : Addr) : Prop where
  sub1 : ∀ T ∈ oddTs, PySem.W.subIn K (.type T) (.ref C) = some false
  sub2 : ∀ T ∈ oddTs, PySem.W.subIn K (.ref C) (.type T) = some false
  kit : ∀ T ∈ oddTs, PySem.W.kitOne K (.type T) (.ref C) = some false
  mro : PySem.W.mroIn K C (.type "object") = some true
  hne : PySem.W.findIn K (.ref C) "__ne__" = some (some (.builtin "object.__ne__"))
  ha : PySem.W.findIn K (.ref C) "__class__" = some (some (.builtin "object.__class__"))
  hn : PySem.W.specialIn K (.builtin "object.__class__") "__get__" = some (some (.builtin "getset_descriptor.__get__"))
  ht : PySem.W.takesIn K (.builtin "object.__class__") = some true
def clsFB (K : PySem.W.Frag) (C : Addr) : Bool :=
  (oddTs.all fun T => decide (PySem.W.subIn K (.type T) (.ref C) = some false) && (decide (PySem.W.subIn K (.ref C) (.type T) = some false) && decide (PySem.W.kitOne K (.type T) (.ref C) = some false))) &&
  (decide (PySem.W.mroIn K C (.type "object") = some true) && (He.eqO (PySem.W.findIn K (.ref C) "__ne__") (some (some (.builtin "object.__ne__"))) && (He.eqO (PySem.W.findIn K (.ref C) "__class__") (some (some (.builtin "object.__class__"))) &&
  (He.eqO (PySem.W.specialIn K (.builtin "object.__class__") "__get__") (some (some (.builtin "getset_descriptor.__get__"))) && decide (PySem.W.takesIn K (.builtin "object.__class__") = some true)))))
theorem clsFB_ok {K : PySem.W.Frag} {C : Addr} (h : clsFB K C = true) : ClsF K C := by
  unfold clsFB at h
  rw [Bool.and_eq_true, Bool.and_eq_true, Bool.and_eq_true, Bool.and_eq_true, Bool.and_eq_true] at h
  obtain ⟨h1, h2, h3, h4, h5, h6⟩ := h
  have z := List.all_eq_true.mp h1
  refine ⟨fun T hT => ?_, fun T hT => ?_, fun T hT => ?_, of_decide_eq_true h2, He.eqO_ok h3, He.eqO_ok h4, He.eqO_ok h5, of_decide_eq_true h6⟩
  all_goals
    have y := z T hT
    rw [Bool.and_eq_true, Bool.and_eq_true] at y
  · exact of_decide_eq_true y.1
  · exact of_decide_eq_true y.2.1
  · exact of_decide_eq_true y.2.2
section
variable {K : PySem.W.Frag} {X : Cx} {H : Hp} {y : V} {T : String}
theorem ty_dct {p : Addr} {kvs : List (Key × V)} (h : H p = some (.dK kvs)) : TyV X (.ref p) H (.type "dict") := fun pins σ s u I r => by
  obtain rfl : u = Value.ref p := r
  obtain ⟨_, _, _, _, o, _, _, e, ex, _⟩ := (show ObjOk X.prog X.w H s.heap p (.dK kvs) from I.hok p _ h)
  exact ty_at e ex.1
theorem Thg.tyV (h : Thg H y T) : TyV X y H (.type T) := by
  cases h with
  | non => exact ty_non
  | bl b => exact ty_bl
  | int i => exact ty_int
  | str z => exact ty_str
  | lst e => exact ty_lst e
  | tup e => exact ty_tup e
  | dct e => exact ty_dct e
theorem Thg.tyX (h : Thg H y T) : TyX K H y (.type T) := by
  cases h with
  | non => exact .base .non
  | bl b => exact .base (.bl b)
  | int i => exact .base (.int i)
  | str z => exact .base (.str z)
  | lst e => exact .base (.lst e)
  | tup e => exact .base (.tup e)
  | dct e => exact .base (.dK e)
theorem Thg.odd (h : Thg H y T) : T ∈ oddTs := by
  cases h <;> decide
theorem Thg.ex {H' : Hp} (h : Thg H y T) (e : Ex H H') : Thg H' y T := by
  cases h with
  | non => exact .non
  | bl b => exact .bl b
  | int i => exact .int i
  | str z => exact .str z
  | lst q => exact .lst (e _ _ q)
  | tup q => exact .tup (e _ _ q)
  | dct q => exact .dct (e _ _ q)
theorem ClsF.nf {C : Addr} (F : ClsF K C) (h : T ∈ oddTs) : PySem.W.notFirst K C (.type T) = true := by
  unfold PySem.W.notFirst
  rw [F.sub1 T h]
  simp
theorem ClsF.ty {C a dx : Addr} {fs : List (Str × V)} (F : ClsF K C) (c : Cls K C) (h : H a = some (.ins C dx fs)) : TyX K H (.ref a) (.ref C) := .base (.ins h c F.ha F.hn F.ht F.mro)
theorem nf_self {C : Addr} : PySem.W.notFirst K C (.ref C) = true := by unfold PySem.W.notFirst; simp
end
end Rp
namespace Rp
open PySem PySem.Spec PyProof.Rows L2
section
variable {P : Program} {w : World} {K : PySem.W.Frag} {mg : Str → Option Value} {base : Heap} {k : Nat} {N Vz Sz' G Vc Sc' Gc : List Str} {sc scope : Scope} {X : Cx} {elt tg it c e o : Expr} {ifs : List Expr} {σ : L2.St} {H : Hp} {pos apos p1 p2 : Pos} {Q : VK} {D : Ends} {m n : Int} {x y : Str}
/-! ### wide division -/
theorem pylong_no {n : Int} (h0 : 0 < n) (h1 : n < 4611686018427387904) : Builtin.divisionGoesByPylong m n = false := PyProof.noPylong_of_log2 (by
  have z : n.natAbs < 2 ^ 62 := by
    have e : (2 : Nat) ^ 62 = 4611686018427387904 := by decide
    omega
  by_cases hz : n.natAbs = 0
  · rw [hz]; decide
  · exact Nat.lt_trans ((Nat.log2_lt hz).mpr z) (by decide))
theorem c_divmodW (h1 : 0 < n) (h2 : n < 4611686018427387904) (q : ∀ p H2, H p = none → Ex H H2 → H2 p = some (.tup [.int (m / n), .int (m % n)]) → Q (.ref p) H2) : wC X (.builtin "divmod") [.int m, .int n] H Q :=
  wC.of call_divmodW ⟨m, n, rfl, ⟨h1, pylong_no h1 h2⟩, fun p hp => q p _ hp (Ex.upd hp) upd_same⟩
/-! ### comprehensions over a text, a range -/
def LcS (P : Program) (w : World) (K : PySem.W.Frag) (mg : Str → Option Value) (base : Heap) (k : Nat) (N Vc Sc' Gc : List Str) (scope : Scope) (vs : List Nat) (elt tg : Expr) (ifs : List Expr) (σ : L2.St) (v : V) (H1 : Hp) (Q : Addr → Hp → Prop) : Prop :=
  ∃ z : Str, v = .str z ∧ ∀ D, H1 D = none → ∃ Pv : Nat → Hp → Prop, Pv 0 (L2.upd H1 D (.lst [])) ∧
    (∀ i c H, z.cps[i]? = some c → Pv i H → LcStep P w K mg base k N Vc Sc' Gc scope vs elt tg ifs σ D (.str ⟨#[c]⟩) H (Pv (i + 1))) ∧ ∀ H, Pv z.cps.size H → Q D H
theorem wE_lcS (own : List (Str × Nat)) (Vc Sc' Gc : List Str) (C : CxI P w K mg base k N Vz Sz' G sc X) (ob : blkC N sc scope own = true) (ok : namesOk Vc Sc' Gc (relS scope sc) = true) (hl : localsOk Sc' (relS scope sc) = true) (hk : scope.kind = .function)
    (hf : ∀ x, foldedSetIterable it X.env x = pure x) (q : wE X it σ H fun v H1 => LcS P w K mg base k N Vc Sc' Gc (relS scope sc) (own.map (·.2)) elt tg ifs σ v H1 fun D H => Q (.ref D) H) :
    wE X (.ListComp elt [⟨tg, it, ifs, 0⟩] scope pos) σ H Q := by
  refine wE.of (pe_lc C.calm (by rw [C.eN]; exact C.nd) (pi_str wE.pe) (blkOk_by (own := own) (by rw [C.eN, C.es]; exact ob)) (blk_pg C ok hl hk) (fun s H Ca cl fp => blk_pts C ok hl hk s H Ca cl fp ifs) (blk_pe C ok hl hk) hf) ?_
  show wE X it σ H _
  refine ⟨fun pins s I => thn (q.run pins s I) ?_⟩
  rintro u s1 ⟨v, H1, I1, r1, z, rfl, q1⟩
  refine ⟨_, H1, I1, r1, z, rfl, fun D hD => ?_⟩
  obtain ⟨Pv, h0, hs, hd⟩ := q1 D hD
  refine ⟨fun i m H => m = z.cps.size - i ∧ i ≤ z.cps.size ∧ Pv i H, ⟨z.cps.size, rfl, Nat.zero_le _, h0⟩, ?_⟩
  rintro i m H ⟨rfl, hi, p⟩
  by_cases hlt : i < z.cps.size
  · refine .inr ⟨hlt, Pv (i + 1), fun H' p' => ⟨z.cps.size - (i + 1), by omega, rfl, hlt, p'⟩, fun x H' y => ?_⟩
    obtain ⟨rfl, c, hc, rfl⟩ := y
    exact hs i c H' hc p
  · have e' : i = z.cps.size := by omega
    subst e'
    exact .inl ⟨Nat.le_refl _, hd H p⟩
def LcR (P : Program) (w : World) (K : PySem.W.Frag) (mg : Str → Option Value) (base : Heap) (k : Nat) (N Vc Sc' Gc : List Str) (scope : Scope) (vs : List Nat) (elt tg : Expr) (ifs : List Expr) (σ : L2.St) (v : V) (H1 : Hp) (Q : Addr → Hp → Prop) : Prop :=
  ∃ n : Nat, v = .int n ∧ n < 1000000 ∧ ∀ D, H1 D = none → ∃ Pv : Nat → Hp → Prop, Pv 0 (L2.upd H1 D (.lst [])) ∧
    (∀ i H, i < n → Pv i H → LcStep P w K mg base k N Vc Sc' Gc scope vs elt tg ifs σ D (.int i) H (Pv (i + 1))) ∧ ∀ H, Pv n H → Q D H
/-- [.. for .. in range(e)] -/
theorem wE_lcR (own : List (Str × Nat)) (Vc Sc' Gc : List Str) (C : CxI P w K mg base k N Vz Sz' G sc X) (ob : blkC N sc scope own = true) (ok : namesOk Vc Sc' Gc (relS scope sc) = true) (hl : localsOk Sc' (relS scope sc) = true) (hk : scope.kind = .function)
    (hm : mg "range" = none) (hx : ("range" : Str) ∈ G) (hst : starEach [e] X.env = [(false, eval e X.env)])
    (q : wE X e σ H fun v H1 => LcR P w K mg base k N Vc Sc' Gc (relS scope sc) (own.map (·.2)) elt tg ifs σ v H1 fun D H => Q (.ref D) H) :
    wE X (.ListComp elt [⟨tg, .Call (.Name "range" p1) [e] [] p2, ifs, 0⟩] scope pos) σ H Q := by
  obtain ⟨l, _, _⟩ := C.glo hx
  refine wE.of (pe_lc C.calm (by rw [C.eN]; exact C.nd) (pi_range1 l (by rw [C.em]; exact hm) (pa_cons wE.pe pa_nil hst) hst) (blkOk_by (own := own) (by rw [C.eN, C.es]; exact ob)) (blk_pg C ok hl hk) (fun s H Ca cl fp => blk_pts C ok hl hk s H Ca cl fp ifs) (blk_pe C ok hl hk) (fun _ => rfl)) ?_
  refine ⟨fun pins s I => thn (q.run pins s I) ?_⟩
  rintro u s1 ⟨v, H1, I1, r1, n, rfl, hn, q1⟩
  refine ⟨_, H1, I1, r1, n, rfl, by omega, by omega, ?_⟩
  rw [show ((n : Int).toNat) = n from Int.toNat_natCast n]
  intro D hD
  obtain ⟨Pv, h0, hs, hd⟩ := q1 D hD
  refine ⟨fun i m H => m = n - i ∧ i ≤ n ∧ Pv i H, ⟨n, rfl, Nat.zero_le _, h0⟩, ?_⟩
  rintro i m H ⟨rfl, hi, p⟩
  by_cases hlt : i < n
  · refine .inr ⟨hlt, Pv (i + 1), fun H' p' => ⟨n - (i + 1), by omega, rfl, hlt, p'⟩, fun x H' y => ?_⟩
    obtain ⟨rfl, rfl⟩ := y
    rw [Int.zero_add]
    exact hs i H' hlt p
  · have e' : i = n := by omega
    subst e'
    exact .inl ⟨Nat.le_refl _, hd H p⟩
/-! ### texts -/
theorem o_inSign {c : Nat} (q : Q (.bl (decide (c ∈ y.cps.toList))) H) : wO X (compareOp .In) (.str ⟨#[c]⟩) (.str y) H Q := wO.of op_in_sign ⟨c, y, rfl, rfl, q⟩
theorem c_all {a : Addr} {bs : List Bool} (C : CxI P w K mg base k N Vz Sz' G sc X) (h : SqL K H a (bs.map V.bl)) (q : Q (.bl (bs.all id)) H) : wC X (.builtin "all") [.ref a] H Q := wC.of (cr_all C.calm) ⟨a, bs, rfl, by rw [C.eK]; exact h, q⟩
theorem i_str {c d : Expr} {z : Str} {j : Nat} (hs : PlainIx d) (hz : z.length ≤ sizeLine) (hi : atI z.cps.toList m = some j) (q : Q (.str ⟨#[j]⟩) H) : wIx X c d (.str z) (.int m) H Q := wIx_of ix_str hs ⟨z, m, j, rfl, rfl, hz, hi, q⟩
theorem c_lenS {z : Str} (hz : z.length ≤ sizeLine) (q : Q (.int z.length) H) : wC X (.builtin "len") [.str z] H Q := wC.of call_len_str ⟨z, rfl, hz, q⟩
theorem c_intB {b : Bool} (q : Q (.int (if b then 1 else 0)) H) : wC X (.type "int") [.bl b] H Q := wC.of call_int1 (.inr ⟨b, rfl, q⟩)
theorem o_notB {a b : Bool} (q : Q (.bl (!decide (a = b))) H) : wO X (compareOp .IsNot) (.bl a) (.bl b) H Q := wO.of op_isnot_bl ⟨a, b, rfl, rfl, q⟩
/-- one sign so many times -/
theorem o_mulS {c : Nat} (h1 : 1 ≤ n) (h2 : n ≤ 1000) (q : Q (.str ⟨(List.replicate n.toNat c).toArray⟩) H) : wO X (binaryOp .Mult) (.str ⟨#[c]⟩) (.int n) H Q := by
  refine ⟨fun pins s σ v u I rx ry => ?_⟩
  obtain ⟨t, rfl⟩ := rx
  obtain ⟨t', rfl⟩ := ry
  have hl : (⟨#[c]⟩ : Str).length = 1 := rfl
  have fold : ∀ (k : Nat) (acc : Array Nat), (List.replicate k (#[c] : Array Nat)).foldl (· ++ ·) acc = acc ++ (List.replicate k c).toArray := by
    intro k
    induction k with
    | zero => intro acc; simp
    | succ k ih => intro acc; rw [List.replicate_succ, List.foldl_cons, ih, List.replicate_succ]; apply Array.ext'; simp
  refine PySem.P.mul_str ?_ (fun _ _ => ?_) (fun _ _ => ?_) ?_
  · have e1 : ¬ n < -(2 ^ 63 : Int) := by omega
    have e2 : ¬ n ≥ 2 ^ 63 := by omega
    rw [decide_eq_false e1, decide_eq_false e2]; rfl
  · rw [hl]
    have : (2 ^ 63 - 1) / 1000 ≤ ((2 ^ 63 - 1) / n : Int) := (by
      refine Int.le_ediv_of_mul_le (by omega) ?_
      have : (2 ^ 63 - 1) / 1000 * n ≤ (2 ^ 63 - 1) / 1000 * 1000 := Int.mul_le_mul_of_nonneg_left h2 (by decide)
      refine Int.le_trans this (by decide))
    have e : (1 : Int) ≤ (2 ^ 63 - 1) / 1000 := by decide
    have e' : ((1 : Nat) : Int) = 1 := rfl
    omega
  · rw [hl]
    unfold PySem.Builtin.Str.tooLong
    simp only [Nat.one_mul]
    have : n.toNat ≤ 1000 := by omega
    first
      | (rw [decide_eq_false]; rw [sizeLine_eq]; omega)
      | (simp only [decide_eq_false_iff_not]; rw [sizeLine_eq]; omega)
  · rw [if_neg (by omega)]
    split
    · rename_i z
      have hn : n = 1 := by
        rcases Bool.or_eq_true_iff.mp z with z | z
        · exact eq_of_beq z
        · rw [hl] at z; cases z
      subst hn
      exact ⟨.str ⟨#[c]⟩, H, I, ⟨t, rfl⟩, q⟩
    · rw [fold]
      refine ⟨?_, ⟨.str ⟨(List.replicate n.toNat c).toArray⟩, H, I.tok _, ⟨s.toks, by simp⟩, q⟩⟩
      show (#[] ++ (List.replicate n.toNat c).toArray).size ≤ sizeLine
      rw [sizeLine_eq]
      simp only [Array.size_append, List.size_toArray, List.length_replicate, List.length_nil]
      omega
/-! ### a table with text keys -/
theorem o_inTab {d : Addr} {es : Array DictEntry} {nn : Nat} {r : Option Value} (C : CxI P w K mg base k N Vz Sz' G sc X) (T : KDict K w d es nn) (h : PySem.W.nsIn K d x = some r) (q : Q (.bl r.isSome) H) : wO X (compareOp .In) (.str x) (.ref d) H Q := by
  obtain ⟨rfl, rfl, rfl, _⟩ := C
  exact wO.of (op_in_kd T) ⟨x, r, rfl, rfl, h, q⟩
theorem i_tab {c d : Expr} {p : Addr} {es : Array DictEntry} {nn : Nat} {u0 : Value} {v0 : V} (C : CxI P w K mg base k N Vz Sz' G sc X) (hs : PlainIx d) (T : KDict K w p es nn) (h : PySem.W.nsIn K p x = some (some u0)) (r : RelV v0 u0) (q : Q v0 H) : wIx X c d (.ref p) (.str x) H Q := by
  obtain ⟨rfl, rfl, rfl, _⟩ := C
  exact wIx_of ix_kdict hs ⟨p, x, v0, rfl, rfl, ⟨es, nn, u0, T.at_, T.lit, h, r⟩, q⟩
/-! ### f-strings, more -/
def FrQ (x : V) (H : Hp) (Q : VK) : Prop := (∃ y : Str, x = .str y ∧ (reprText y).length ≤ sizeLine ∧ Q (.str (reprText y)) H) ∨ ∃ i : Int, x = .int i ∧ i.natAbs.log2 < 1920 ∧ Q (.str (toString i)) H
theorem wE_fmtR (q : wE X e σ H fun x H1 => FrQ x H1 Q) : wE X (.FormattedValue e 114 none pos) σ H Q := wE.of (pe_fmtR wE.pe) q
theorem fr_s (h : (reprText y).length ≤ sizeLine) (q : Q (.str (reprText y)) H) : FrQ (.str y) H Q := .inl ⟨y, rfl, h, q⟩
/-- {x} of a truth -/
theorem wE_fmtB {e : Expr} (q : wE X e σ H fun x H1 => ∃ b : Bool, x = .bl b ∧ Q (.str (if b then "True" else "False")) H1) : wE X (.FormattedValue e (-1) none pos) σ H Q := by
  refine ⟨fun pins s I => ?_⟩
  refine wpAny_FormattedValue_plain (thn (q.run pins s I) ?_)
  rintro u s1 ⟨x, H1, I1, r1, b, rfl, q1⟩
  obtain rfl : u = Value.bool b := r1
  exact wpAny_formatField_bool ⟨.str _, H1, (I1.tok _).tok _, ⟨_, rfl⟩, q1⟩
end
end Rp
namespace Rp
open PySem PySem.Spec PyProof.Rows L2
/-! ### zip of three: a list, a tuple, a list; or three lists -/
/-- b: the second one is a tuple -/
def SqB (K : PySem.W.Frag) (b : Bool) (H : Hp) (a : Addr) (xs : List V) : Prop := if b = true then SqT K H a xs else SqL K H a xs
def Itz3 (K : PySem.W.Frag) (a b c : Addr) (k : Bool) : It :=
  ⟨fun i H => ∃ (xs ys us : List V) (x y u : V), SqL K H a xs ∧ SqB K k H b ys ∧ SqL K H c us ∧ xs[i]? = some x ∧ ys[i]? = some y ∧ us[i]? = some u,
    fun i H v H' => ∃ T x y u, v = .ref T ∧ H T = none ∧ H' = upd H T (.tup [x, y, u]) ∧ (∀ xs, SqL K H a xs → xs[i]? = some x) ∧ (∀ ys, SqB K k H b ys → ys[i]? = some y) ∧ ∀ us, SqL K H c us → us[i]? = some u,
    fun i H => ∃ xs ys us : List V, SqL K H a xs ∧ SqB K k H b ys ∧ SqL K H c us ∧ xs.length = i ∧ ys.length = i ∧ us.length = i⟩
def ItrB (k : Bool) (h : Heap) (it l : Addr) (i : Nat) : Prop := if k = true then h.IsTupleIter it l i else h.IsListIter it l i
def St3 (z TI TO i1 i2 i3 a b c : Addr) (k : Bool) (i : Nat) (h : Heap) : Prop := IsZip h z TI TO .none ∧ IsTupOf3 h TI (.ref i1) (.ref i2) (.ref i3) ∧ (∃ a1 a2 a3, IsTupOf3 h TO a1 a2 a3) ∧ h.IsListIter i1 a i ∧ ItrB k h i2 b i ∧ h.IsListIter i3 c i
def IsB2 (k : Bool) (h : Heap) (l : Addr) (its : Array Value) : Prop := if k = true then h.IsTuple l its else h.IsList l its
def drawsB {prog : Program} {w : World} {A : Around} (hh : A.handled = none) (k : Bool) (it l : Addr) (hne : l ≠ it) (items : Array Value) : Draws prog w A it [it, l] items.size (fun i v => items[i]? = some v) (fun i h => ItrB k h it l i ∧ IsB2 k h l items) := by
  cases k
  · exact Draws.list hh it l hne items
  · exact Draws.tuple hh it l hne items
section
variable {X : Cx} {pins : List (Addr × Obj)} {σ : L2.St} {H : Hp} {s : Shared}
theorem seqB_raw {k : Bool} {b : Addr} {ys : List V} (I : Inv X pins σ H s) (h : SqB X.K k H b ys) : ∃ its : List Value, Vals ys its ∧ IsB2 k s.heap b its.toArray := by
  cases k with
  | true =>
    obtain ⟨its, r, p, _⟩ := I.tuple (show SqT X.K H b ys from h)
    exact ⟨its, r, p⟩
  | false =>
    obtain ⟨its, r, p, _⟩ := I.list (show SqL X.K H b ys from h)
    exact ⟨its, r, p.isList⟩
theorem isB2_lt {k : Bool} {h : Heap} {b : Addr} {its : Array Value} (p : IsB2 k h b its) : b < h.objs.size := by
  cases k with
  | true => obtain ⟨o, ho, _⟩ := (show h.IsTuple b its from p); exact Heap.lt_size ho
  | false => obtain ⟨o, ho, _⟩ := (show h.IsList b its from p); exact Heap.lt_size ho
theorem itrB_obj {k : Bool} {h : Heap} {it l : Addr} {i : Nat} (p : ItrB k h it l i) : ∃ o, h.get? it = some o ∧ ∀ v, o.data ≠ .cell v := by
  cases k with
  | true => obtain ⟨o, e, _, d⟩ := (show h.IsTupleIter it l i from p); exact ⟨o, e, fun v q => by rw [d] at q; cases q⟩
  | false => obtain ⟨o, e, _, d⟩ := (show h.IsListIter it l i from p); exact ⟨o, e, fun v q => by rw [d] at q; cases q⟩
theorem itrB_at {k : Bool} {h h' : Heap} {it l : Addr} {i : Nat} (p : ItrB k h it l i) (q : ∀ o, h.get? it = some o → h'.get? it = some o) : ItrB k h' it l i := by
  cases k with
  | true => exact (show h.IsTupleIter it l i from p).at q
  | false => exact (show h.IsListIter it l i from p).at q
theorem sqB_inj {k : Bool} {b : Addr} {xs ys : List V} (I : Inv X pins σ H s) (h : SqB X.K k H b xs) (h2 : SqB X.K k H b ys) : xs = ys := by
  cases k with
  | true => exact I.tuple_inj (show SqT X.K H b xs from h) (show SqT X.K H b ys from h2)
  | false => exact I.list_inj (show SqL X.K H b xs from h) (show SqL X.K H b ys from h2)
end
theorem turn_zip3 {P : Program} {w : World} {K : PySem.W.Frag} {elts : List Expr} {kk : Nat} {tpos : Pos} {z TI TO i1 i2 i3 a b c : Addr} {k : Bool} (D : ZipSep3 z TI TO i1 i2 i3 [i1, a] [i2, b] [i3, c]) (n1 : a ≠ i1) (n2 : b ≠ i2) (n3 : c ≠ i3) :
    Turn P w K (.Tuple elts kk tpos) (Itz3 K a b c k) [z, TI, TO, i1, i2, i3] z (St3 z TI TO i1 i2 i3 a b c k) where
  mem := by simp
  obj := fun i h st d hd => by
    obtain ⟨hz, hTI, ⟨x, y, u, hTO⟩, h1, h2, h3⟩ := st
    have e' : d = z ∨ d = TI ∨ d = TO ∨ d = i1 ∨ d = i2 ∨ d = i3 := by simpa using hd
    rcases e' with q | q | q | q | q | q
    · rw [q]; exact ⟨_, hz, fun v q => nomatch q⟩
    · rw [q]; exact ⟨_, hTI, fun v q => nomatch q⟩
    · rw [q]; exact ⟨_, hTO, fun v q => nomatch q⟩
    · rw [q]; obtain ⟨o, e, _, d⟩ := h1; exact ⟨o, e, fun v q => by rw [d] at q; cases q⟩
    · rw [q]; exact itrB_obj h2
    · rw [q]; obtain ⟨o, e, _, d⟩ := h3; exact ⟨o, e, fun v q => by rw [d] at q; cases q⟩
  keep := fun i h h' st kp => by
    obtain ⟨hz, hTI, ⟨x, y, u, hTO⟩, h1, h2, h3⟩ := st
    exact ⟨kp z (by simp) _ hz, kp TI (by simp) _ hTI, ⟨x, y, u, kp TO (by simp) _ hTO⟩, h1.at fun o q => kp i1 (by simp) o q, itrB_at h2 fun o q => kp i2 (by simp) o q, h3.at fun o q => kp i3 (by simp) o q⟩
  item := by
    intro X hP hw hK hc i pins s σ H E I hf st hg
    subst hP hw hK
    obtain ⟨xs, ys, us, x, y, u, hqx, hqy, hqu, hx, hy, hu⟩ := hg
    obtain ⟨its, rv, p, _⟩ := I.list hqx
    obtain ⟨its2, rv2, p2⟩ := seqB_raw I hqy
    obtain ⟨its3, rv3, p3, _⟩ := I.list hqu
    have l1 : i < its.toArray.size := by have := (List.getElem?_eq_some_iff.mp hx).1; have := rv.length; simp only [List.size_toArray]; omega
    have l2 : i < its2.toArray.size := by have := (List.getElem?_eq_some_iff.mp hy).1; have := rv2.length; simp only [List.size_toArray]; omega
    have l3 : i < its3.toArray.size := by have := (List.getElem?_eq_some_iff.mp hu).1; have := rv3.length; simp only [List.size_toArray]; omega
    have hh : X.A.in1.handled = none := I.ok.hd hc
    have G := GoesN.zip3 (elts := elts) (x1 := kk) (pos := tpos) (w := X.w) (prog := X.prog) D (Draws.list (w := X.w) (prog := X.prog) hh i1 a n1 its.toArray) (drawsB hh k i2 b n2 its2.toArray) (Draws.list hh i3 c n3 its3.toArray)
    obtain ⟨hz, hTI, hTO, h1, h2, h3⟩ := st
    have hlt : ∀ d, d ∈ [z, TI, TO, i1, i2, i3] → d < s.heap.objs.size := fun d hd => by
      have e' : d = z ∨ d = TI ∨ d = TO ∨ d = i1 ∨ d = i2 ∨ d = i3 := by simpa using hd
      rcases e' with q | q | q | q | q | q
      · rw [q]; exact Heap.lt_size hz
      · rw [q]; exact Heap.lt_size hTI
      · rw [q]; obtain ⟨_, _, _, e⟩ := hTO; exact Heap.lt_size e
      · rw [q]; obtain ⟨_, e, _⟩ := h1; exact Heap.lt_size e
      · rw [q]; obtain ⟨_, e, _⟩ := itrB_obj h2; exact Heap.lt_size e
      · rw [q]; obtain ⟨_, e, _⟩ := h3; exact Heap.lt_size e
    refine wpAny_mono (G.goes i s (fun v s2 => ∃ x H', Inv X pins σ H' s2 ∧ RelV x v ∧ (Itz3 X.K a b c k).yld i H x H' ∧ St3 z TI TO i1 i2 i3 a b c k (i + 1) s2.heap ∧ ∀ d ∈ [z, TI, TO, i1, i2, i3], H' d = none) E (by omega) ⟨hz, hTI, hTO, ⟨h1, p.isList⟩, ⟨h2, p2⟩, ⟨h3, p3.isList⟩⟩ fun v h' tk hY hS hk _ => ?_) (fun _ _ q => q) fun _ _ q => q
    obtain ⟨T, v1, v2, v3, rfl, hT, e1, e2, e3, hTup⟩ := hY
    obtain ⟨u1, hu1, ru1⟩ := rv.get hx
    obtain ⟨u2, hu2, ru2⟩ := rv2.get hy
    obtain ⟨u3, hu3, ru3⟩ := rv3.get hu
    have q1 : u1 = v1 := by rw [show its.toArray[i]? = its[i]? by simp, hu1] at e1; exact Option.some.inj e1
    have q2 : u2 = v2 := by rw [show its2.toArray[i]? = its2[i]? by simp, hu2] at e2; exact Option.some.inj e2
    have q3 : u3 = v3 := by rw [show its3.toArray[i]? = its3[i]? by simp, hu3] at e3; exact Option.some.inj e3
    subst q1 q2 q3
    have new : ObjOk X.prog X.w (upd H T (.tup [x, y, u])) h' T (.tup [x, y, u]) := ⟨by show 3 ≤ sizeLine; decide, [u1, u2, u3], .cons ru1 (.cons ru2 (.cons ru3 .nil)), hTup⟩
    have I1 : Inv X pins σ (upd H T (.tup [x, y, u])) { s with heap := h', toks := tk } :=
      I.turnedNew (t' := tk) (ch := [z, TI, TO, i1, i2, i3]) (fun d o hb q => hk d o (fun hm => hb (by simp only [List.mem_cons, List.not_mem_nil, or_false] at hm ⊢; rcases hm with m | m | m | m | m <;> simp [m])) q) hf hT new
    refine ⟨.ref T, _, I1, rfl, ⟨T, x, y, u, rfl, I.hok.fresh hT, rfl, fun l hl => by rw [I.list_inj hl hqx]; exact hx, fun l hl => by rw [sqB_inj I hl hqy]; exact hy, fun l hl => by rw [I.list_inj hl hqu]; exact hu⟩, ?_, fun d hd => ?_⟩
    · obtain ⟨s1, s2, s3, s4, s5, s6⟩ := hS
      exact ⟨s1, s2, s3, s4.1, s5.1, s6.1⟩
    · rw [upd_ne (Nat.ne_of_lt (Nat.lt_of_lt_of_le (hlt d hd) hT))]
      exact (hf d hd).1
  done := by
    intro X hP hw hK hc i pins s σ H E I hf st hg
    subst hP hw hK
    obtain ⟨xs, ys, us, hqx, hqy, hqu, m1, m2, m3⟩ := hg
    obtain ⟨its, rv, p, _⟩ := I.list hqx
    obtain ⟨its2, rv2, p2⟩ := seqB_raw I hqy
    obtain ⟨its3, rv3, p3, _⟩ := I.list hqu
    have l1 : its.toArray.size = i := by have := rv.length; simp only [List.size_toArray]; omega
    have l2 : its2.toArray.size = i := by have := rv2.length; simp only [List.size_toArray]; omega
    have l3 : its3.toArray.size = i := by have := rv3.length; simp only [List.size_toArray]; omega
    have hh : X.A.in1.handled = none := I.ok.hd hc
    have G := GoesN.zip3 (elts := elts) (x1 := kk) (pos := tpos) (w := X.w) (prog := X.prog) D (Draws.list (w := X.w) (prog := X.prog) hh i1 a n1 its.toArray) (drawsB hh k i2 b n2 its2.toArray) (Draws.list hh i3 c n3 its3.toArray)
    obtain ⟨hz, hTI, hTO, h1, h2, h3⟩ := st
    have em : min (min its.toArray.size its2.toArray.size) its3.toArray.size = i := by rw [l1, l2, l3]; simp
    rw [em] at G
    refine G.stops s (fun s1 => Inv X pins σ H s1) E ⟨hz, hTI, hTO, ⟨h1, p.isList⟩, ⟨h2, p2⟩, ⟨h3, p3.isList⟩⟩ fun h' tk hk _ => ?_
    exact I.turnedL (t' := tk) (ch := [z, TI, TO, i1, i2, i3]) (fun d o hb q => hk d o (fun hm => hb (by simp only [List.mem_cons, List.not_mem_nil, or_false] at hm ⊢; rcases hm with m | m | m | m | m <;> simp [m])) q) hf
  self := fun A i s Q E st h => wpAny_pyIter_zip st.1 h
def iZip3 (K : PySem.W.Frag) (k : Bool) (ta : TA) : TI := fun σ H R => ta σ H fun vs H1 => ∃ a b c xs ys us, vs = [.ref a, .ref b, .ref c] ∧ SqL K H1 a xs ∧ SqB K k H1 b ys ∧ SqL K H1 c us ∧ R (Itz3 K a b c k) H1
theorem beginsB (k : Bool) (l : Addr) (items : Array Value) : ∃ o, Begins (.ref l) o (fun h => IsB2 k h l items) ∧ ∀ (h : Heap) it, h.get? it = some o → ItrB k h it l 0 := by
  cases k with
  | true => exact ⟨_, begins_tuple l items, fun h it e => ⟨_, e, rfl, rfl⟩⟩
  | false => exact ⟨_, begins_list l items, fun h it e => ⟨_, e, rfl, rfl⟩⟩
theorem pi_zip3 {X : Cx} {e e2 e3 : Expr} {ta : TA} {p pos tpos : Pos} {elts : List Expr} {kk : Nat} (k : Bool) (hg : Gl X "zip") (hm : X.mg "zip" = none) (ha : PA X [e, e2, e3] ta)
    (hs : starEach [e, e2, e3] X.env = (false, eval e X.env) :: starEach [e2, e3] X.env) (hpl : (backTo pos (starEach [e2, e3] X.env)).any (·.1) = false) :
    PI X (.Tuple elts kk tpos) (.Call (.Name "zip" p) [e, e2, e3] [] pos) (iZip3 X.K k ta) := by
  refine ⟨fun pins s σ H R I h => ?_⟩
  refine Call_ (ld_blt I hg hm PyProof.Rows.boot_zip (PyProof.Rows.callWith_type1 (thn (ha.run pos pins s σ H _ I h) fun us s1 ⟨vs, H1, I1, r1, q1⟩ => ?_) hs hpl))
  obtain ⟨a, b, c, xs, ys, zs, ex, hqx, hqy, hqz, q⟩ := q1
  subst ex
  obtain ⟨u1, u2, u3, rfl, r, r', r''⟩ : ∃ u1 u2 u3, us = [u1, u2, u3] ∧ RelV (.ref a) u1 ∧ RelV (.ref b) u2 ∧ RelV (.ref c) u3 := by
    cases r1 with
    | cons r rr => cases rr with
      | cons r' rr => cases rr with
        | cons r'' rr => cases rr; exact ⟨_, _, _, rfl, r, r', r''⟩
  cases r
  cases r'
  cases r''
  obtain ⟨its, rv, p1, _⟩ := I1.list hqx
  obtain ⟨its2, rv2, p2⟩ := seqB_raw I1 hqy
  obtain ⟨its3, rv3, p3, _⟩ := I1.list hqz
  have la : a < s1.heap.objs.size := p1.lt
  have lb : b < s1.heap.objs.size := isB2_lt p2
  have lc : c < s1.heap.objs.size := p3.lt
  obtain ⟨ob, Bb, hb0⟩ := beginsB k b its2.toArray
  refine zip_begins3 (begins_list a its.toArray) Bb (begins_list c its3.toArray) p1.isList p2 p3.isList fun h' hz hTI hTO g1 g2 g3 hsz hk => wpAny_pyIter_zip hz ?_
  have I2 : Inv X pins σ H1 { s1 with heap := h' } := I1.kept (t' := s1.toks) hk
  have S := zip_sep3 (N := s1.heap.objs.size) (fp1 := [a]) (fp2 := [b]) (fp3 := [c]) (fun d hd => by rw [List.mem_singleton.mp hd]; exact la) (fun d hd => by rw [List.mem_singleton.mp hd]; exact lb) (fun d hd => by rw [List.mem_singleton.mp hd]; exact lc)
  refine ⟨s1.heap.objs.size + 5, [s1.heap.objs.size + 5, s1.heap.objs.size + 3, s1.heap.objs.size + 4, s1.heap.objs.size, s1.heap.objs.size + 1, s1.heap.objs.size + 2], _, _, H1, rfl, I2, turn_zip3 S (Nat.ne_of_lt la) (Nat.ne_of_lt (Nat.lt_succ_of_lt lb)) (Nat.ne_of_lt (Nat.lt_succ_of_lt (Nat.lt_succ_of_lt lc))),
    ⟨hz, hTI, ⟨_, _, _, hTO⟩, ⟨_, g1, rfl, rfl⟩, hb0 _ _ g2, ⟨_, g3, rfl, rfl⟩⟩, fun d hdm => ?_, q⟩
  have hle : s1.heap.objs.size ≤ d := by
    have e' : d = s1.heap.objs.size + 5 ∨ d = s1.heap.objs.size + 3 ∨ d = s1.heap.objs.size + 4 ∨ d = s1.heap.objs.size ∨ d = s1.heap.objs.size + 1 ∨ d = s1.heap.objs.size + 2 := by simpa using hdm
    rcases e' with z | z | z | z | z | z
    · rw [z]; exact Nat.le_add_right _ _
    · rw [z]; exact Nat.le_add_right _ _
    · rw [z]; exact Nat.le_add_right _ _
    · rw [z]; exact Nat.le_refl _
    · rw [z]; exact Nat.le_add_right _ _
    · rw [z]; exact Nat.le_add_right _ _
  exact I1.fpOk hle (I1.hok.fresh hle)
section
variable {P : Program} {w : World} {K : PySem.W.Frag} {mg : Str → Option Value} {base : Heap} {k : Nat} {N Vz Sz G : List Str} {sc : Scope} {X : Cx} {σ : L2.St} {H : Hp} {D : Ends} {elts : List Expr} {e e2 e3 : Expr} {sts : List Stmt} {p1 p2 pos tpos : Pos} {kk : Nat}
/-- for .. in zip(xs, ys, us): all of one length -/
theorem wS_zip3 (t : Bool) (C : CxI P w K mg base k N Vz Sz G sc X) (hm : mg "zip" = none) (hx : ("zip" : Str) ∈ G) (hs : starEach [e, e2, e3] X.env = (false, eval e X.env) :: starEach [e2, e3] X.env) (hpl : (backTo p2 (starEach [e2, e3] X.env)).any (·.1) = false)
    (q : wA X [e, e2, e3] σ H fun vs H1 => ∃ a b c xs ys us, vs = [.ref a, .ref b, .ref c] ∧ SqL K H1 a xs ∧ SqB K t H1 b ys ∧ SqL K H1 c us ∧ xs.length = ys.length ∧ us.length = xs.length ∧ ∃ Pv : Nat → L2.St → Hp → Prop, Pv 0 σ H1 ∧
      (∀ i σ H, i ≤ xs.length → Pv i σ H → SqL K H a xs ∧ SqB K t H b ys ∧ SqL K H c us) ∧
      (∀ i x y u T σ H H', xs[i]? = some x → ys[i]? = some y → us[i]? = some u → Pv i σ H → H T = none → Ex H H' → H' T = some (.tup [x, y, u]) → wG X (.Tuple elts kk tpos) (.ref T) σ H' fun σ2 H2 => wB X sts { D with nx := Pv (i + 1), ct := Pv (i + 1), bk := D.nx } σ2 H2) ∧ ∀ σ H, Pv xs.length σ H → D.nx σ H) :
    wS X (.For (.Tuple elts kk tpos) (.Call (.Name "zip" p1) [e, e2, e3] [] p2) sts [] pos) D σ H := by
  obtain ⟨l, _, _⟩ := C.glo hx
  refine wS.of (ps_for C.po C.calm (pi_zip3 t l (by rw [C.em]; exact hm) wA.pa hs hpl) wG.pg wB.pss (fun _ => rfl)) ?_
  show wA X [e, e2, e3] σ H _
  refine ⟨fun pp pins s I => thn (q.run pp pins s I) ?_⟩
  rintro uu s1 ⟨vs, H1, I1, r1, a, b, c, xs, ys, us, ev, q1, q2, q3, l1, l2, Pv, h0, hq, hst, hd⟩
  refine ⟨vs, H1, I1, r1, a, b, c, xs, ys, us, ev, by rw [C.eK]; exact q1, by rw [C.eK]; exact q2, by rw [C.eK]; exact q3, ?_⟩
  refine ⟨fun i m σ H => m = xs.length - i ∧ i ≤ xs.length ∧ Pv i σ H, ⟨xs.length, rfl, Nat.zero_le _, h0⟩, ?_⟩
  rintro i m σ H ⟨rfl, hi, pv⟩
  obtain ⟨k1, k2, k3⟩ := hq i σ H hi pv
  by_cases hlt : i < xs.length
  · have g1 : xs[i]? = some xs[i] := List.getElem?_eq_getElem hlt
    have g2 : ys[i]? = some (ys[i]'(by omega)) := List.getElem?_eq_getElem _
    have g3 : us[i]? = some (us[i]'(by omega)) := List.getElem?_eq_getElem _
    refine .inr ⟨⟨xs, ys, us, _, _, _, by rw [C.eK]; exact k1, by rw [C.eK]; exact k2, by rw [C.eK]; exact k3, g1, g2, g3⟩, Pv (i + 1), fun σ' H' p' => ⟨xs.length - (i + 1), by omega, rfl, hlt, p'⟩, fun v H' y => ?_⟩
    obtain ⟨T, x', y', u', rfl, hT, rfl, f1, f2, f3⟩ := y
    exact hst i x' y' u' T σ H _ (f1 xs (by rw [C.eK]; exact k1)) (f2 ys (by rw [C.eK]; exact k2)) (f3 us (by rw [C.eK]; exact k3)) pv hT (Ex.upd hT) upd_same
  · have e' : i = xs.length := by omega
    subst e'
    exact .inl ⟨⟨xs, ys, us, by rw [C.eK]; exact k1, by rw [C.eK]; exact k2, by rw [C.eK]; exact k3, rfl, by omega, by omega⟩, hd σ H pv⟩
end
end Rp
namespace Rp
open PySem PySem.Spec PyProof.Rows L2
/-! ### defs that may raise -/
/-- a def's wish of what it lets out, whatever its names -/
abbrev wOf (E : XK) : WX := fun cls d _ H => E cls d H
section
variable {P : Program} {w : World} {K : PySem.W.Frag} {mg : Str → Option Value} {base : Heap} {k j n : Nat} {N Vz Sz G ps ks : List Str} {sc : Scope} {x m : Str} {v : V} {p apos : Pos} {X : Cx} {f C : Addr} {fd : FuncData} {sp : Sp} {st : Stmt} {qual : Str}
variable {e a b o : Expr} {es : List Expr} {kws : List Keyword} {σ : L2.St} {H : Hp} {Q : VK} {pos : Pos} {dvs : List V} {E : XK}
/-- a raising def by its body -/
theorem fn_wX (F : Fn K x qual st f fd) (S : FnScope N ps (defScope st)) (ok : namesOk Vz Vz G (defScope st) = true) (len : ∀ vs H Q E, sp vs H Q E → vs.length = ps.length)
    (body : ∀ (X : Cx) (vs : List V) (H : Hp) (Q : VK) (E : XK), CxI P w K mg base k N Vz Vz G (defScope st) X → Takes X (wOf E) → sp vs H Q E → wB X (defBody st) { nx := fun _ H' => Q .non H', rt := Q } (start N vs) H) : FnOk P w K mg base (L2.CX P w) (k + 1) f fd ps sp := by
  obtain ⟨dvs, kws, F⟩ := F.ex
  refine FunD.ok F S len fun cdv A outer s H vs Q E hr h => ⟨_, wB.pss, body _ vs H Q E ?_ (takes_of rfl rfl rfl rfl) h⟩
  exact ⟨rfl, rfl, rfl, rfl, rfl, rfl, rfl, hr, rfl, .inl fun _ => rfl, passes_of rfl, S.nd, ok, S.kind⟩
/-- such a def as its callers see it -/
structure Dx (P : Program) (w : World) (K : PySem.W.Frag) (mg : Str → Option Value) (base : Heap) (k : Nat) (x : Str) (ps : List Str) (dvs : List V) (sp : Sp) : Prop where
  ex : ∃ f fd ds, FnOk P w K mg base (L2.CX P w) k f fd ps sp ∧ mg x = some (.ref f) ∧ PySem.W.keepIn K (.ref f) = true ∧ Binds K fd ps ds ∧ Vals dvs ds
theorem wE_callX (I : CxI P w K mg base k N Vz Sz G sc X) (T : Takes X (wOf E)) (D : Dx P w K mg base j x ps dvs sp) (hx : x ∈ G) (hj : j ≤ k) (he : starEach (e :: es) X.env = (false, eval e X.env) :: starEach es X.env) (hpl : (backTo pos (starEach es X.env)).any (·.1) = false)
    (q : wA X (e :: es) σ H fun vs H1 => sp (vs ++ dvs) H1 Q E) : wE X (.Call (.Name x p) (e :: es) [] pos) σ H Q := by
  obtain ⟨f, fd, ds, Fk, hm, kp, hb, hd⟩ := D.ex
  obtain ⟨l, d1, _⟩ := I.glo hx
  obtain ⟨rfl, rfl, rfl, rfl, rfl, _, _, hr, _, _, _, _, _⟩ := I
  exact wE.of (pe_call Fk (hr.mono hj) l hm kp hb hd (passes_call T fun _ _ _ _ h => h) wA.pa d1 he hpl) q
/-- where nothing is let out -/
theorem wE_callQ (I : CxI P w K mg base k N Vz Sz G sc X) (D : Dx P w K mg base j x ps dvs sp) (hx : x ∈ G) (hj : j ≤ k) (he : starEach (e :: es) X.env = (false, eval e X.env) :: starEach es X.env) (hpl : (backTo pos (starEach es X.env)).any (·.1) = false)
    (q : wA X (e :: es) σ H fun vs H1 => sp (vs ++ dvs) H1 Q E0) : wE X (.Call (.Name x p) (e :: es) [] pos) σ H Q := by
  obtain ⟨f, fd, ds, Fk, hm, kp, hb, hd⟩ := D.ex
  obtain ⟨l, d1, _⟩ := I.glo hx
  obtain ⟨rfl, rfl, rfl, rfl, rfl, _, _, hr, _, _, _, _, _⟩ := I
  exact wE.of (pe_call Fk (hr.mono hj) l hm kp hb hd passL wA.pa d1 he hpl) q
/-! ### keywords -/
structure Dk (P : Program) (w : World) (K : PySem.W.Frag) (mg : Str → Option Value) (base : Heap) (k : Nat) (x : Str) (n : Nat) (ks : List Str) (gV : List V → List V → List V) (sp : Sp) : Prop where
  ex : ∃ f fd ps g, FnOk P w K mg base (L2.CX P w) k f fd ps sp ∧ mg x = some (.ref f) ∧ PySem.W.keepIn K (.ref f) = true ∧ KBn K fd ps n ks g gV
theorem wE_callNX {gV : List V → List V → List V} (I : CxI P w K mg base k N Vz Sz G sc X) (T : Takes X (wOf E)) (D : Dk P w K mg base j x n ks gV sp) (hx : x ∈ G) (hj : j ≤ k)
    (hall : (backToKw pos (keywordEach kws X.env)).all (·.1.isSome) = true) (hks : (backToKw pos (keywordEach kws X.env)).filterMap (·.1) = ks)
    (he : starEach (e :: es) X.env = (false, eval e X.env) :: starEach es X.env) (hpl : ((backTo pos (starEach (e :: es) X.env)).any (·.1) || (backToKw pos (keywordEach kws X.env)).any (·.1.isNone)) = false)
    (q : wA X (e :: es) σ H fun vs H1 => wK X kws σ H1 fun zs H2 => vs.length = n ∧ zs.length = ks.length ∧ sp (gV vs zs) H2 Q E) : wE X (.Call (.Name x p) (e :: es) kws pos) σ H Q := by
  obtain ⟨f, fd, ps, g, Fk, hm, kp, hb⟩ := D.ex
  obtain ⟨l, d1, _⟩ := I.glo hx
  obtain ⟨rfl, rfl, rfl, rfl, rfl, _, _, hr, _, _, _, _, _⟩ := I
  exact wE.of (pe_callN Fk (hr.mono hj) l hm kp hb (passes_call T fun _ _ _ _ h => h) wA.pa wK.pk hall hks d1 he hpl) q
/-! ### methods by places -/
structure Me (P : Program) (w : World) (K : PySem.W.Frag) (mg : Str → Option Value) (base : Heap) (k : Nat) (C : Addr) (m : Str) (dvs : List V) (sp : Sp) : Prop where
  ex : ∃ f fd ps ds, Meth K C m f ∧ FnOk P w K mg base (L2.CX P w) k f fd ps sp ∧ Binds K fd ps ds ∧ Vals dvs ds
theorem wE_methX {pl : Sem Bool} (I : CxI P w K mg base k N Vz Sz G sc X) (T : Takes X (wOf E)) (c : Cls K C) (M : Me P w K mg base j C m dvs sp) (hj : j ≤ k)
    (hst : starEach (e :: es) X.env = (false, eval e X.env) :: starEach es X.env) (hpl : (backTo pos (starEach es X.env)).any (·.1) = false)
    (ht : eval (.Call (.Attribute o m apos) (e :: es) [] pos) X.env = (do
      let ov ← eval o X.env
      standAt apos.atName
      let (f, first) ← holding [ov] (getMethod ov m pl)
      callWith pos f first (backTo pos (starEach (e :: es) X.env)) (backToKw pos (keywordEach [] X.env))))
    (q : wE X o σ H fun y H1 => MetQ C m y H1 (wA X (e :: es) σ H1 fun vs H2 => sp (y :: (vs ++ dvs)) H2 Q E)) : wE X (.Call (.Attribute o m apos) (e :: es) [] pos) σ H Q := by
  obtain ⟨f, fd, ps, ds, hm, Fk, hb, hd⟩ := M.ex
  obtain ⟨rfl, rfl, rfl, rfl, rfl, _, _, hr, _, _, _, _, _⟩ := I
  refine wE.of (pe_meth wE.pe c hm Fk (hr.mono hj) hb hd (passes_call T fun _ _ _ _ h => h) wA.pa hst hpl ht) ⟨fun pins s I => thn (q.run pins s I) ?_⟩
  rintro u s1 ⟨y, H1, I1, r1, ad, dx, fs, e1, e2, e3, q1⟩
  exact ⟨y, H1, I1, r1, ad, dx, fs, e1, e2, e3, q1⟩
theorem wE_methQ {pl : Sem Bool} (I : CxI P w K mg base k N Vz Sz G sc X) (c : Cls K C) (M : Me P w K mg base j C m dvs sp) (hj : j ≤ k)
    (hst : starEach (e :: es) X.env = (false, eval e X.env) :: starEach es X.env) (hpl : (backTo pos (starEach es X.env)).any (·.1) = false)
    (ht : eval (.Call (.Attribute o m apos) (e :: es) [] pos) X.env = (do
      let ov ← eval o X.env
      standAt apos.atName
      let (f, first) ← holding [ov] (getMethod ov m pl)
      callWith pos f first (backTo pos (starEach (e :: es) X.env)) (backToKw pos (keywordEach [] X.env))))
    (q : wE X o σ H fun y H1 => MetQ C m y H1 (wA X (e :: es) σ H1 fun vs H2 => sp (y :: (vs ++ dvs)) H2 Q E0)) : wE X (.Call (.Attribute o m apos) (e :: es) [] pos) σ H Q := by
  obtain ⟨f, fd, ps, ds, hm, Fk, hb, hd⟩ := M.ex
  obtain ⟨rfl, rfl, rfl, rfl, rfl, _, _, hr, _, _, _, _, _⟩ := I
  refine wE.of (pe_meth wE.pe c hm Fk (hr.mono hj) hb hd passL wA.pa hst hpl ht) ⟨fun pins s I => thn (q.run pins s I) ?_⟩
  rintro u s1 ⟨y, H1, I1, r1, ad, dx, fs, e1, e2, e3, q1⟩
  exact ⟨y, H1, I1, r1, ad, dx, fs, e1, e2, e3, q1⟩
/-! ### classes whose __init__ may raise -/
structure Mx (P : Program) (w : World) (K : PySem.W.Frag) (mg : Str → Option Value) (base : Heap) (k : Nat) (x : Str) (C : Addr) (dvs : List V) (sp : Sp) : Prop where
  ex : ∃ f fd ps ds, Mk K C f ∧ FnOk P w K mg base (L2.CX P w) k f fd ps sp ∧ mg x = some (.ref C) ∧ Binds K fd ps ds ∧ Vals dvs ds
theorem wE_makeX (I : CxI P w K mg base k N Vz Sz G sc X) (T : Takes X (wOf E)) (M : Mx P w K mg base j x C dvs sp) (hx : x ∈ G) (hj : j + 1 ≤ k)
    (he : starEach (e :: es) X.env = (false, eval e X.env) :: starEach es X.env) (hpl : (backTo pos (starEach es X.env)).any (·.1) = false)
    (q : wA X (e :: es) σ H fun vs H1 => ∀ y dx, H1 y = none → H1 dx = none → dx ≠ y → sp (.ref y :: (vs ++ dvs)) (upd (upd H1 dx (.own y)) y (.ins C dx [])) (fun v H2 => v = .non ∧ Q (.ref y) H2) E) :
    wE X (.Call (.Name x p) (e :: es) [] pos) σ H Q := by
  obtain ⟨f, fd, ps, ds, Mk1, Fk, hm, hb, hd⟩ := M.ex
  obtain ⟨l, d1, _⟩ := I.glo hx
  obtain ⟨rfl, rfl, rfl, rfl, rfl, _, _, hr, _, _, _, _, _⟩ := I
  exact wE.of (pe_make Mk1 Fk (hr.mono hj) l hm hb hd (passes_call T fun _ _ _ _ h => h) wA.pa d1 he hpl) q
theorem wE_makeQ (I : CxI P w K mg base k N Vz Sz G sc X) (M : Mx P w K mg base j x C dvs sp) (hx : x ∈ G) (hj : j + 1 ≤ k)
    (he : starEach (e :: es) X.env = (false, eval e X.env) :: starEach es X.env) (hpl : (backTo pos (starEach es X.env)).any (·.1) = false)
    (q : wA X (e :: es) σ H fun vs H1 => ∀ y dx, H1 y = none → H1 dx = none → dx ≠ y → sp (.ref y :: (vs ++ dvs)) (upd (upd H1 dx (.own y)) y (.ins C dx [])) (fun v H2 => v = .non ∧ Q (.ref y) H2) E0) :
    wE X (.Call (.Name x p) (e :: es) [] pos) σ H Q := by
  obtain ⟨f, fd, ps, ds, Mk1, Fk, hm, hb, hd⟩ := M.ex
  obtain ⟨l, d1, _⟩ := I.glo hx
  obtain ⟨rfl, rfl, rfl, rfl, rfl, _, _, hr, _, _, _, _, _⟩ := I
  exact wE.of (pe_make Mk1 Fk (hr.mono hj) l hm hb hd passL wA.pa d1 he hpl) q
structure Mkx (P : Program) (w : World) (K : PySem.W.Frag) (mg : Str → Option Value) (base : Heap) (k : Nat) (x : Str) (C : Addr) (n : Nat) (ks : List Str) (gV : List V → List V → List V) (sp : Sp) : Prop where
  ex : ∃ f fd ps g, Mk K C f ∧ FnOk P w K mg base (L2.CX P w) k f fd ps sp ∧ mg x = some (.ref C) ∧ KBn K fd ps (n + 1) ks g gV
theorem wE_makeNX {gV : List V → List V → List V} (I : CxI P w K mg base k N Vz Sz G sc X) (T : Takes X (wOf E)) (M : Mkx P w K mg base j x C n ks gV sp) (hx : x ∈ G) (hj : j + 1 ≤ k)
    (hall : (backToKw pos (keywordEach kws X.env)).all (·.1.isSome) = true) (hks : (backToKw pos (keywordEach kws X.env)).filterMap (·.1) = ks)
    (he : starEach (e :: es) X.env = (false, eval e X.env) :: starEach es X.env) (hpl : ((backTo pos (starEach (e :: es) X.env)).any (·.1) || (backToKw pos (keywordEach kws X.env)).any (·.1.isNone)) = false)
    (q : wA X (e :: es) σ H fun vs H1 => wK X kws σ H1 fun zs H2 => vs.length = n ∧ zs.length = ks.length ∧
      ∀ y dx, H2 y = none → H2 dx = none → dx ≠ y → sp (gV (.ref y :: vs) zs) (upd (upd H2 dx (.own y)) y (.ins C dx [])) (fun v H3 => v = .non ∧ Q (.ref y) H3) E) : wE X (.Call (.Name x p) (e :: es) kws pos) σ H Q := by
  obtain ⟨f, fd, ps, g, Mk1, Fk, hm, hb⟩ := M.ex
  obtain ⟨l, d1, _⟩ := I.glo hx
  obtain ⟨rfl, rfl, rfl, rfl, rfl, _, _, hr, _, _, _, _, _⟩ := I
  exact wE.of (pe_makeN Mk1 Fk (hr.mono hj) l hm hb (passes_call T fun _ _ _ _ h => h) wA.pa wK.pk hall hks d1 he hpl) q
theorem wE_cut (J : V → Hp → Prop) (h : wE X e σ H J) (q : ∀ v H', J v H' → Q v H') : wE X e σ H Q := ⟨fun pins s I => thn (h.run pins s I) fun u s1 ⟨v, H1, I1, r, z⟩ => ⟨v, H1, I1, r, q v H1 z⟩⟩
/-! ### raise -/
structure wM (X : Cx) (e : Expr) (σ : L2.St) (H : Hp) (Q : XK) : Prop where
  run : ∀ (pins : List (Addr × Obj)) (s : Shared), Inv X pins σ H s → wpAny (model X.prog X.w) X.A (eval e X.env) (MkP X pins σ Q) X.xe s
theorem wM.pmk : PMk X e (wM X e) := fun pins s σ H Q I h => h.run pins s I
theorem wM.of {t : L2.St → Hp → XK → Prop} {R : XK} (h : PMk X e t) (q : t σ H R) : wM X e σ H R := ⟨fun pins s I => h pins s σ H R I q⟩
theorem wS_raise {D : Ends} (I : CxI P w K mg base k N Vz Sz G sc X) (T : Takes X (wOf E)) (q : wM X e σ H E) : wS X (.Raise (some e) none pos) D σ H := wS.of (ps_raise I.calm T wM.pmk) q
/-- the facts of a class of the text that is an exception without an __init__ of its own -/
structure Xp (K : PySem.W.Frag) (mg : Str → Option Value) (x : Str) (C : Addr) (bmB : List Value) (newId : String) : Prop where
  ei : PySem.W.excIn K C bmB newId = true
  g : mg x = some (.ref C)
  kp : PySem.W.keepIn K (.ref C) = true
  sb : PySem.W.subIn K (.ref C) (.type "BaseException") = some true
  ty : PySem.W.typeIn K (.ref C) = some (.type "type")
/-- raise x(e), x a class over ValueError -/
theorem wM_own {R : XK} (I : CxI P w K mg base k N Vz Sz G sc X) (T : Xp K mg x C [.type "ValueError", .type "Exception", .type "BaseException", .type "object"] "ValueError.__new__") (hx : x ∈ G) (hs : starEach [e] X.env = (false, eval e X.env) :: starEach [] X.env)
    (q : wE X e σ H fun _ H1 => R (.ref C) none H1) : wM X (.Call (.Name x p) [e] [] pos) σ H R := by
  obtain ⟨l, d1, _⟩ := I.glo hx
  refine wM.of (SkE.pmk_own1 (X := X) F.excBase_ValueError (by rw [I.eK]; exact T.ei) (by rw [I.em]; exact T.g) (by rw [I.eK]; exact T.kp) (raises_own (by rw [I.eK]; exact T.sb) (by rw [I.eK]; exact T.ty)) l wE.pe hs d1) q
end
end Rp
namespace Rp
open PySem PySem.Spec PyProof.Rows L2
/-! ### exceptions with an __init__ of their own, over whichever built-in class -/
/-- a built-in class of exceptions: its facts -/
structure Bs (B newId initId : String) (bmB : List Value) : Prop where
  F : ExcBaseFacts B newId initId bmB
  S : StoreFacts B bmB "object.__setattr__" "object"
theorem bs_V : Bs "ValueError" "ValueError.__new__" "ValueError.__init__" [.type "ValueError", .type "Exception", .type "BaseException", .type "object"] := ⟨F.excBase_ValueError, F.store_ValueError⟩
theorem bs_L : Bs "LookupError" "LookupError.__new__" "LookupError.__init__" [.type "LookupError", .type "Exception", .type "BaseException", .type "object"] := ⟨F.excBase_LookupError, F.store_LookupError⟩
theorem bs_I : Bs "IndexError" "IndexError.__new__" "IndexError.__init__" [.type "IndexError", .type "LookupError", .type "Exception", .type "BaseException", .type "object"] := ⟨F.excBase_IndexError, F.store_IndexError⟩
theorem bs_Z : Bs "ZeroDivisionError" "ZeroDivisionError.__new__" "ZeroDivisionError.__init__" [.type "ZeroDivisionError", .type "ArithmeticError", .type "Exception", .type "BaseException", .type "object"] := ⟨F.excBase_ZeroDivisionError, F.store_ZeroDivisionError⟩
/-- what the text says of such a class -/
structure Xi (K : PySem.W.Frag) (C : Addr) (bmB : List Value) (newId : String) : Prop where
  cls : ∃ nm q N bs bm sn sub ab col dd k0 k1 k2 k3 k5, K.lookup C = some (excClassObj nm q C N bs bm true sn sub ab col dd k0 k1 k2 k3 k5 newId) ∧ PySem.W.excTail bmB bm = true
  sa : PySem.W.findIn K (.ref C) "__setattr__" = some (some (.builtin "object.__setattr__"))
  sb : PySem.W.subIn K (.ref C) (.type "BaseException") = some true
  ty : PySem.W.typeIn K (.ref C) = some (.type "type")
  kp : PySem.W.keepIn K (.ref C) = true
def xcB (K : PySem.W.Frag) (C : Addr) (bmB : List Value) (newId : String) : Bool := match K.lookup C with
  | some ⟨.type t, _, .cls cd, sl⟩ => (match cd.mro, sl.toList with
    | .ref D :: bm, [_, _, _, _, some (.builtin m), _] => decide (t = "type") && (decide (D = C) && (decide (m = newId) && (cd.hasDict && (!cd.hasDel && PySem.W.excTail bmB bm))))
    | _, _ => false)
  | _ => false
theorem xcB_ok {K : PySem.W.Frag} {C : Addr} {bmB : List Value} {newId : String} (h : xcB K C bmB newId = true) :
    ∃ nm q N bs bm sn sub ab col dd k0 k1 k2 k3 k5, K.lookup C = some (excClassObj nm q C N bs bm true sn sub ab col dd k0 k1 k2 k3 k5 newId) ∧ PySem.W.excTail bmB bm = true := by
  unfold xcB at h
  split at h
  · rename_i t dd cd sl ho
    split at h
    · rename_i D bm k0 k1 k2 k3 m k5 hm hs
      simp only [Bool.and_eq_true, decide_eq_true_eq, Bool.not_eq_true'] at h
      obtain ⟨rfl, rfl, rfl, hd, hdel, ht⟩ := h
      obtain ⟨nm, bs, mro, ns, qn, hdc, sn, sub, ab, col, del⟩ := cd
      dsimp only at hm hdel hd
      subst hm hdel hd
      obtain ⟨l⟩ := sl
      dsimp only at hs
      subst hs
      exact ⟨nm, qn, ns, bs, bm, sn, sub, ab, col, dd, k0, k1, k2, k3, k5, ho, ht⟩
    · cases h
  · cases h
def xiB (K : PySem.W.Frag) (C : Addr) (bmB : List Value) (newId : String) : Bool :=
  xcB K C bmB newId && (He.eqO (PySem.W.findIn K (.ref C) "__setattr__") (some (some (.builtin "object.__setattr__"))) && (decide (PySem.W.subIn K (.ref C) (.type "BaseException") = some true) && (decide (PySem.W.typeIn K (.ref C) = some (.type "type")) && PySem.W.keepIn K (.ref C))))
theorem xiB_ok {K : PySem.W.Frag} {C : Addr} {bmB : List Value} {newId : String} (h : xiB K C bmB newId = true) : Xi K C bmB newId := by
  unfold xiB at h
  simp only [Bool.and_eq_true] at h
  obtain ⟨h1, h2, h3, h4, h5⟩ := h
  exact ⟨xcB_ok h1, He.eqO_ok h2, of_decide_eq_true h3, of_decide_eq_true h4, h5⟩
section
variable {X : Cx} {pins : List (Addr × Obj)} {σ : L2.St} {H : Hp} {s : Shared} {a C dx : Addr} {f : Str} {y : V} {u : Value} {fs : List (Str × V)} {Q : Unit → Shared → Prop} {E : Value → Shared → Prop} {A : Around} {B newId initId : String} {bmB : List Value}
theorem Xi.data (T : Xi X.K C bmB newId) : ∃ cd, PySem.W.clsIn X.K C = some cd ∧ cd.hasDict = true ∧ PySem.W.excOver X.K C bmB = true := by
  obtain ⟨nm, q, N, bs, bm, sn, sub, ab, col, dd, k0, k1, k2, k3, k5, hC, hbm⟩ := T.cls
  have hcl : ∃ cd, PySem.W.clsIn X.K C = some cd ∧ cd.hasDict = true ∧ cd.mro = .ref C :: bm := by
    refine ⟨_, by unfold PySem.W.clsIn; rw [hC], rfl, rfl⟩
  obtain ⟨cd, h1, h2, h3⟩ := hcl
  refine ⟨cd, h1, h2, ?_⟩
  unfold PySem.W.excOver
  rw [h1]
  show (match cd.mro with | .ref D :: bm => D == C && PySem.W.excTail bmB bm | _ => false) = true
  rw [h3]
  show (C == C && PySem.W.excTail bmB bm) = true
  rw [hbm, beq_self_eq_true]
  rfl
theorem taker_none {K : PySem.W.Frag} (h : PySem.W.findIn K (.ref C) f = some none) : PySem.W.takerIn K C f = some none := by
  unfold PySem.W.takerIn
  rw [h]
  rfl
/-- self.f = y: the object's dict is laid -/
theorem xst_new (Z : Bs B newId initId bmB) (T : Xi X.K C bmB newId) (I : Inv X pins σ H s) (e : H a = some (exo a C none)) (hno : PySem.W.findIn X.K (.ref C) f = some none) (ry : RelV y u)
    (h : ∀ dx s', H dx = none → dx ≠ a → Inv X pins σ (upd (upd H dx (exd dx [(f, y)])) a (exo a C (some dx))) s' → Q () s') : wpAny (model X.prog X.w) A (setAttr (.ref a) f u) Q E s := by
  obtain ⟨cd, hcd, hdct, hov⟩ := T.data
  obtain ⟨t1, ho⟩ := exo_at I.hok e
  obtain ⟨hp, g, d, t, os⟩ := s
  have J : PySem.W.InstAt hp a { cls := .ref C, dict := none, data := .fields #[.ref t1, .none, .none, .none, .bool false, .none] } C none := ⟨ho, rfl, rfl, trivial⟩
  have lk : PySem.W.Looks (model X.prog X.w) hp (classData C) cd := PySem.W.looks_clsIn I.kIn hcd
  have as1 : a ≠ hp.objs.size := Nat.ne_of_lt (Heap.lt_size ho)
  -- what is left once the dict has been laid
  have fin : ∀ h' tk', h'.Ns1 hp.objs.size (fun z => if z = f then some u else none) → h'.get? a = some { cls := .ref C, dict := some hp.objs.size, data := .fields #[.ref t1, .none, .none, .none, .bool false, .none] } →
      (∀ b o, b ≠ a → hp.get? b = some o → h'.get? b = some o) → Q () ⟨h', g, d, tk', os⟩ := by
    intro h' tk' hn hx k
    have hnd : H hp.objs.size = none := I.hok.fresh (Nat.le_refl _)
    have old : ∀ {b : Addr} {o : Obj}, hp.get? b = some o → b ≠ hp.objs.size := fun {b o} z => Nat.ne_of_lt (Heap.lt_size z)
    have naN : ∀ {b : Addr}, H b = none → b ≠ a := fun {b} n z => by rw [z, e] at n; cases n
    refine h hp.objs.size _ hnd as1.symm (I.un (t' := tk') ⟨?_, ?_, ?_, ?_, ?_, ?_, ?_⟩ ?_)
    · intro b o z n _ _; exact k b o (naN n) z
    · intro b o z n _ _; exact ⟨_, k b o (naN n) z⟩
    · intro b o z n _; rw [upd_ne (naN n), upd_ne (old z)]; exact n
    · intro b o z _
      rcases Decidable.em (b = a) with hb | hb
      · subst hb; exact ⟨_, hx⟩
      · exact ⟨_, k b o hb z⟩
    · intro b xs z; rw [upd_ne (at_ne e z exo_tup), upd_ne (ne_of_none z hnd)]; exact z
    · intro b o v z; rw [upd_ne (at_ne e z exo_frz), upd_ne (ne_of_none z hnd)]; exact z
    · intro b ps z; exact ⟨#[], by rw [upd_ne (at_ne e z exo_tbl), upd_ne (ne_of_none z hnd), z, Array.append_empty]⟩
    · intro b o z
      rcases Decidable.em (b = a) with hb | hb
      · subst hb; rw [upd_same] at z; cases z; exact exo_ok hx
      rw [upd_ne hb] at z
      rcases Decidable.em (b = hp.objs.size) with hd | hd
      · subst hd; rw [upd_same] at z; cases z; exact exd_ok hn (relO_put (fs := []) ry fun _ => True.intro)
      rw [upd_ne hd] at z
      refine (I.hok b o z).stay (fun c v hc q => k c v (hc.elim (fun q => q ▸ hb) fun q => at_ne e q exo_own) q) (fun c q => ?_) fun c xs q => ?_
      · rw [upd_ne (at_ne e q exo_own), upd_ne (ne_of_none q hnd)]; exact q
      · rw [upd_ne (at_ne e q exo_tup), upd_ne (ne_of_none q hnd)]; exact q
  refine PySem.W.set_plain I.kIn J T.sa (PySem.W.osa_openX Z.S I.kIn J hov (taker_none hno) fun b => ?_)
  show wpAny _ _ (Builtin.ObjectAttr.storeInOwnDict (.ref a) (.ref C) (.str f t) f u b) _ _ _
  obtain ⟨nm, bs, mro, ns, qn, hd, sn, sb, ab, col, del⟩ := cd
  dsimp only at hdct
  subst hdct
  unfold Builtin.ObjectAttr.storeInOwnDict Builtin.ObjectAttr.ownDictForStores
  repeat (first
    | with_reducible refine HandSPX.store_in_new ?_ ?_
    | with_reducible refine wpAny_loadPart_at ho ?_
    | with_reducible refine lk.at ?_
    | wp_step)
  · exact ⟨_, #[], _, (Heap.get?_update_ne _ _ _ _ as1.symm).trans (Heap.get?_push_at rfl rfl), rfl, fun e he => absurd he (by simp), fun _ => rfl⟩
  · intro h' tk' hn' hs
    have ho2 : (hp.push { cls := .type "dict", data := .dict #[] }).get? a = _ := Heap.get?_push_of_some _ ho
    refine fin h' tk' hn' ((hs.2 a as1).trans (Heap.get?_update_self _ ho2 rfl)) fun b o hb q => ?_
    exact (hs.2 b (Nat.ne_of_lt (Heap.lt_size q))).trans ((Heap.get?_update_ne _ _ _ _ hb).trans (Heap.get?_push_of_some _ q))
/-- self.f = y: a further one -/
theorem xst_old (Z : Bs B newId initId bmB) (T : Xi X.K C bmB newId) (I : Inv X pins σ H s) (e : H a = some (exo a C (some dx))) (ed : H dx = some (exd dx fs)) (hl : fs.length ≤ 900) (hno : PySem.W.findIn X.K (.ref C) f = some none) (ry : RelV y u)
    (h : ∀ s', Inv X pins σ (upd H dx (exd dx ((f, y) :: fs))) s' → Q () s') : wpAny (model X.prog X.w) A (setAttr (.ref a) f u) Q E s := by
  obtain ⟨cd, hcd, hdct, hov⟩ := T.data
  obtain ⟨t1, ho⟩ := exo_at I.hok e
  obtain ⟨mA, hns, rel⟩ := exd_at I.hok ed
  have hw := within_of rel
  obtain ⟨hp, g, d, t, os⟩ := s
  obtain ⟨oD, esD, epD, hoD, _, _⟩ := hns.count hw
  have J : PySem.W.InstAt hp a { cls := .ref C, dict := some dx, data := .fields #[.ref t1, .none, .none, .none, .bool false, .none] } C (some oD) := ⟨ho, rfl, rfl, hoD⟩
  have lk : PySem.W.Looks (model X.prog X.w) hp (classData C) cd := PySem.W.looks_clsIn I.kIn hcd
  refine PySem.W.set_plain I.kIn J T.sa (PySem.W.osa_openX Z.S I.kIn J hov (taker_none hno) fun b => ?_)
  show wpAny _ _ (Builtin.ObjectAttr.storeInOwnDict (.ref a) (.ref C) (.str f t) f u b) _ _ _
  obtain ⟨nm, bs, mro, ns, qn, hd, sn, sb, ab, col, del⟩ := cd
  dsimp only at hdct
  subst hdct
  have hz : (fs.map (·.1)).length ≤ 1000 := by rw [List.length_map]; omega
  unfold Builtin.ObjectAttr.storeInOwnDict Builtin.ObjectAttr.ownDictForStores
  repeat (first
    | with_reducible refine PySem.OEX.store_in_old hns hw hz ?_
    | with_reducible refine wpAny_loadPart_at ho ?_
    | with_reducible refine lk.at ?_
    | wp_step)
  intro h' tk' hn' hs
  have there : ∃ o, h'.get? dx = some o := by obtain ⟨o, _, _, q, _⟩ := hn'; exact ⟨o, q⟩
  exact h _ (I.write (t' := tk') (x := dx) (e := dx) (by rw [ed]; exact True.intro) (.inl rfl) (fun b o hb q => (hs.2 b hb).trans q) there (exd_ok hn' (relO_put ry rel)))
/-- Base.__init__(self, ..) -/
theorem xin_ok {us : List Value} {Q : Value → Shared → Prop} (Z : Bs B newId initId bmB) (T : Xi X.K C bmB newId) (I : Inv X pins σ H s) (e : H a = some (exo a C none)) (hl : us.length ≤ sizeLine) (h : ∀ s', Inv X pins σ H s' → Q .none s') :
    wpAny (model X.prog X.w) A (call (.builtin initId) (.ref a :: us)) Q E s := by
  obtain ⟨nm, q, N, bs, bm, sn, sub, ab, col, dd, k0, k1, k2, k3, k5, hC, hbm⟩ := T.cls
  obtain ⟨t1, ho⟩ := exo_at I.hok e
  have same : upd H a (exo a C none) = H := funext fun b => by
    rcases Decidable.em (b = a) with hb | hb
    · subst hb; rw [upd_same, e]
    · exact upd_ne hb
  obtain ⟨hp, g, d, t, os⟩ := s
  refine wpAny_call (HandSPX.init_base Z.F (fun Y => PySem.W.excTail_contains Y bm hbm) (I.kIn _ _ hC) ho hl fun h' t2 k hx => h _ ?_)
  have J := I.write (t' := t) (x := a) (e := a) (o := exo a C none) (by rw [e]; exact True.intro) (.inl rfl) k ⟨_, hx⟩ (exo_ok hx)
  rwa [same] at J
end
/-! ### the rules -/
/-- the promise of such an __init__: fs: what it stores of its arguments -/
def spXI (C : Addr) (ok : List V → Prop) (fs : List V → List (Str × V)) : Sp := fun vs H Q _ => ∃ a ws, vs = .ref a :: ws ∧ ok ws ∧ H a = some (exo a C none) ∧ ∀ d H', Exb a H H' → H d = none → H' a = some (exo a C (some d)) → H' d = some (exd d (fs ws)) → Q .non H'
structure Xq (P : Program) (w : World) (K : PySem.W.Frag) (mg : Str → Option Value) (base : Heap) (k : Nat) (x : Str) (C : Addr) (ok : List V → Prop) (fs : List V → List (Str × V)) : Prop where
  ex : ∃ B newId initId bmB fI fd ps, Bs B newId initId bmB ∧ Xi K C bmB newId ∧ mg x = some (.ref C) ∧ PySem.W.findIn K (.ref C) "__init__" = some (some (.ref fI)) ∧ PySem.W.typeIn K (.ref fI) = some (.type "function") ∧ FnOk P w K mg base CX0 k fI fd ps (spXI C ok fs) ∧ Binds K fd ps []
section
variable {P : Program} {w : World} {K : PySem.W.Frag} {mg : Str → Option Value} {base : Heap} {k j n : Nat} {N Vz Sz G ps ks : List Str} {sc : Scope} {x m f : Str} {v : V} {p p' p1 p2 apos : Pos} {X : Cx} {C PC : Addr} {fd : FuncData} {sp : Sp} {B newId initId : String} {bmB : List Value}
variable {e a b o : Expr} {es : List Expr} {kws : List Keyword} {σ : L2.St} {H : Hp} {Q : VK} {pos : Pos} {dvs : List V} {E : XK} {D : Ends} {ok : List V → Prop} {fs : List V → List (Str × V)}
theorem wS_x1 (I : CxI P w K mg base k N Vz Sz G sc X) (Z : Bs B newId initId bmB) (T : Xi K C bmB newId) (hno : PySem.W.findIn K (.ref C) f = some none) (hs : swapsWith e (some (.Attribute o f p')) pos.line X.env = pure false)
    (q : wE X e σ H fun y H1 => wE X o σ H1 fun x H2 => ∃ a, x = .ref a ∧ H2 a = some (exo a C none) ∧ ∀ dx H3, H2 dx = none → Exb a H2 H3 → H3 a = some (exo a C (some dx)) → H3 dx = some (exd dx [(f, y)]) → D.nx σ H3) : wS X (.Assign [.Attribute o f p'] e pos) D σ H := by
  refine ⟨fun pins s J => ?_⟩
  refine plainObj_wpAny_Assign_Attribute (thn (q.run pins s J) fun v s1 ⟨y, H1, J1, r1, q1⟩ => thn (q1.run pins s1 J1) fun u s2 ⟨x, H2, J2, r2, a, ex, ea, q2⟩ => ?_) hs
  subst ex
  obtain rfl : u = Value.ref a := r2
  refine xst_new Z (by rw [I.eK]; exact T) J2 ea (by rw [I.eK]; exact hno) r1 fun dx s' n ne J3 => ⟨σ, _, J3, q2 dx _ n (fun b o hb z => ?_) upd_same (by rw [upd_ne ne, upd_same])⟩
  rw [upd_ne hb, upd_ne (ne_of_none z n)]
  exact z
theorem wS_x2 (I : CxI P w K mg base k N Vz Sz G sc X) (Z : Bs B newId initId bmB) (T : Xi K C bmB newId) (hno : PySem.W.findIn K (.ref C) f = some none) (hs : swapsWith e (some (.Attribute o f p')) pos.line X.env = pure false)
    (q : wE X e σ H fun y H1 => wE X o σ H1 fun x H2 => ∃ a dx fs, x = .ref a ∧ H2 a = some (exo a C (some dx)) ∧ H2 dx = some (exd dx fs) ∧ fs.length ≤ 900 ∧ ∀ H3, Exb dx H2 H3 → H3 dx = some (exd dx ((f, y) :: fs)) → D.nx σ H3) : wS X (.Assign [.Attribute o f p'] e pos) D σ H := by
  refine ⟨fun pins s J => ?_⟩
  refine plainObj_wpAny_Assign_Attribute (thn (q.run pins s J) fun v s1 ⟨y, H1, J1, r1, q1⟩ => thn (q1.run pins s1 J1) fun u s2 ⟨x, H2, J2, r2, a, dx, fs, ex, ea, ed, hl, q2⟩ => ?_) hs
  subst ex
  obtain rfl : u = Value.ref a := r2
  exact xst_old Z (by rw [I.eK]; exact T) J2 ea ed hl (by rw [I.eK]; exact hno) r1 fun s' J3 => ⟨σ, _, J3, q2 _ Exb.upd upd_same⟩
def BiQ (C : Addr) (vs : List V) (H : Hp) (R : Prop) : Prop := ∃ a ws, vs = .ref a :: ws ∧ ws.length ≤ 1000 ∧ H a = some (exo a C none) ∧ R
/-- PB.__init__(self, ..), PB a class of the text -/
theorem wE_binitO {pl : Sem Bool} (I : CxI P w K mg base k N Vz Sz G sc X) (Z : Bs B newId initId bmB) (T : Xi K C bmB newId) (hx : x ∈ G) (hm : mg x = some (.ref PC)) (hg : PySem.W.specialIn K (.ref PC) "__getattribute__" = some (some (.builtin "type.__getattribute__")))
    (hr : PySem.W.readsIn K PC (.type "type") = true) (hf : PySem.W.findCls K (.ref PC) (.type "type") "__init__" = some (.val (.builtin initId))) (hh : PySem.W.handedIn (.builtin initId) = true)
    (hc : eval (.Call (.Attribute (.Name x p1) "__init__" p2) (e :: es) [] pos) X.env = (do
      let ov ← eval (.Name x p1) X.env
      standAt p2.atName
      let (f, first) ← holding [ov] (getMethod ov "__init__" pl)
      callWith pos f first (backTo pos (starEach (e :: es) X.env)) (backToKw pos (keywordEach [] X.env))))
    (he : starEach (e :: es) X.env = (false, eval e X.env) :: starEach es X.env) (hpl : (backTo pos (starEach es X.env)).any (·.1) = false)
    (q : wA X (e :: es) σ H fun vs H1 => BiQ C vs H1 (Q .non H1)) : wE X (.Call (.Attribute (.Name x p1) "__init__" p2) (e :: es) [] pos) σ H Q := by
  obtain ⟨l, d1, _⟩ := I.glo hx
  refine ⟨fun pins s J => ?_⟩
  refine PySem.W.methodCall_KW (ld_glob J l (by rw [I.em]; exact hm) ?_ d1) hc
  refine PySem.W.method_cls J.kIn (by rw [I.eK]; exact hg) (PySem.W.cls_value J.kIn (by rw [I.eK]; exact hr) (by rw [I.eK]; exact hf) hh ?_)
  show wpAny _ _ (callWith pos (Value.builtin initId) [] (backTo pos (starEach (e :: es) X.env)) []) _ _ _
  refine PyProof.Rows.callWith_method1 (thn (q.run pos pins _ (J.tok _)) fun us s1 ⟨vs, H1, J1, r1, a, ws, ev, hl, ea, q1⟩ => ?_) he hpl
  subst ev
  cases r1 with
  | @cons _ u0 _ ur ra rw' =>
    obtain rfl : u0 = Value.ref a := ra
    exact xin_ok Z (by rw [I.eK]; exact T) J1 ea (by rw [← Paired.length rw', sizeLine_eq]; omega) fun s' J2 => ⟨.non, H1, J2, rfl, q1⟩
/-- T.__init__(self, ..), T built in -/
theorem wE_binitB {pl : Sem Bool} {t : String} (I : CxI P w K mg base k N Vz Sz G sc X) (Z : Bs B newId initId bmB) (T : Xi K C bmB newId) (hx : x ∈ G) (hm : mg x = none) (hb : bootBuiltins x = some (.type t)) (ht : typeOf (.type t) = pure (.type "type")) (hst : Manifest.isStub t = false)
    (hf : PySem.W.findCls K (.type t) (.type "type") "__init__" = some (.val (.builtin initId))) (hh : PySem.W.handedIn (.builtin initId) = true)
    (hc : eval (.Call (.Attribute (.Name x p1) "__init__" p2) (e :: es) [] pos) X.env = (do
      let ov ← eval (.Name x p1) X.env
      standAt p2.atName
      let (f, first) ← holding [ov] (getMethod ov "__init__" pl)
      callWith pos f first (backTo pos (starEach (e :: es) X.env)) (backToKw pos (keywordEach [] X.env))))
    (he : starEach (e :: es) X.env = (false, eval e X.env) :: starEach es X.env) (hpl : (backTo pos (starEach es X.env)).any (·.1) = false)
    (q : wA X (e :: es) σ H fun vs H1 => BiQ C vs H1 (Q .non H1)) : wE X (.Call (.Attribute (.Name x p1) "__init__" p2) (e :: es) [] pos) σ H Q := by
  obtain ⟨l, d1, d2⟩ := I.glo hx
  refine ⟨fun pins s J => ?_⟩
  refine PySem.W.methodCall_KW (ld_blt J l (by rw [I.em]; exact hm) hb ?_ d2 d1) hc
  obtain ⟨m, fr⟩ := J.fr
  refine PySem.W.method_type fr J.ok.mod.kin ht hst (by rw [I.eK]; exact hf) hh ?_
  show wpAny _ _ (callWith pos (Value.builtin initId) [] (backTo pos (starEach (e :: es) X.env)) []) _ _ _
  refine PyProof.Rows.callWith_method1 (thn (q.run pos pins _ (J.tok _)) fun us s1 ⟨vs, H1, J1, r1, a, ws, ev, hl, ea, q1⟩ => ?_) he hpl
  subst ev
  cases r1 with
  | @cons _ u0 _ ur ra rw' =>
    obtain rfl : u0 = Value.ref a := ra
    exact xin_ok Z (by rw [I.eK]; exact T) J1 ea (by rw [← Paired.length rw', sizeLine_eq]; omega) fun s' J2 => ⟨.non, H1, J2, rfl, q1⟩
/-- x(e, ..) as what is raised -/
theorem wM_init {R : XK} (I : CxI P w K mg base k N Vz Sz G sc X) (T : Xq P w K mg base j x C ok fs) (hx : x ∈ G) (hj : j + 1 ≤ k) (he : starEach (e :: es) X.env = (false, eval e X.env) :: starEach es X.env) (hpl : (backTo pos (starEach es X.env)).any (·.1) = false)
    (q : wA X (e :: es) σ H fun vs H1 => vs.length ≤ 1000 ∧ ok vs ∧ ∀ d H3, Ex H1 H3 → H3 d = some (.xd (fs vs)) → R (.ref C) (some d) H3) : wM X (.Call (.Name x p) (e :: es) [] pos) σ H R := by
  obtain ⟨B, newId, initId, bmB, fI, fd, ps, Z, TX, hm, iC, tI, F1, hb⟩ := T.ex
  obtain ⟨l, d1, _⟩ := I.glo hx
  obtain ⟨rfl, rfl, rfl, rfl, rfl, _, _, hr, _, _, _, _, _⟩ := I
  refine ⟨fun pins s J => ?_⟩
  obtain ⟨nm, q0, N0, bs, bm, sn, sub, ab, col, dd, k0, k1, k2, k3, k5, hC, hbm⟩ := TX.cls
  refine wpAny_Call_Name_kw (ld_glob J l hm ?_ d1)
  refine PySem.W.callWith_K (h₀ := X.base) J.ok.mod.kin TX.kp (thn (q.run pos pins s J) fun us s1 ⟨vs, H1, J1, r1, hz, hok, q1⟩ => ⟨J1.kIn, ?_⟩) he hpl
  show wpAny _ _ (call (.ref C) us) _ _ _
  obtain ⟨hp, g, dr, tk, os⟩ := s1
  have up1 : hp.objs.size ≤ hp.objs.size + 1 := Nat.le_succ _
  have hn : H1 (hp.objs.size + 1) = none := J1.hok.fresh up1
  have kk : ∀ b o, hp.get? b = some o → ((hp.push (PySem.W.kdv_tup us)).push (HandSPX.excO C hp.objs.size)).get? b = some o := fun b o z => Heap.get?_push_of_some _ (Heap.get?_push_of_some _ z)
  have new : ((hp.push (PySem.W.kdv_tup us)).push (HandSPX.excO C hp.objs.size)).get? (hp.objs.size + 1) = some (HandSPX.excO C hp.objs.size) := by heap_get
  have J2 := J1.laid (t' := tk) (a := hp.objs.size + 1) (o := exo (hp.objs.size + 1) C none) kk up1 (exo_ok new)
  have hlu : us.length ≤ sizeLine := by rw [← Paired.length r1, sizeLine_eq]; omega
  have r2 : Vals (V.ref (hp.objs.size + 1) :: vs) (Value.ref (hp.objs.size + 1) :: us) := .cons rfl r1
  have hq : spXI C ok fs (V.ref (hp.objs.size + 1) :: vs) (upd H1 (hp.objs.size + 1) (exo (hp.objs.size + 1) C none))
      (fun v H2 => v = .non ∧ ∃ d, H2 (hp.objs.size + 1) = some (exo (hp.objs.size + 1) C (some d)) ∧ H2 d = some (exd d (fs vs)) ∧ H1 d = none ∧ R (.ref C) (some d) (upd (del H2 (hp.objs.size + 1)) d (.xd (fs vs)))) E0 := by
    refine ⟨_, vs, rfl, hok, upd_same, fun d H2 ex hd ha hd2 => ⟨rfl, d, ha, hd2, ?_, q1 d _ (fun b o z => ?_) upd_same⟩⟩
    · cases z : H1 d with
      | none => rfl
      | some o => rw [upd_ne (ne_of_none z hn), z] at hd; cases hd
    · have nb := ne_of_none z hn
      have nd : b ≠ d := fun y => by rw [← y, upd_ne nb, z] at hd; cases hd
      rw [upd_ne nd, del_ne nb]
      exact ex b o nb (by rw [upd_ne nb]; exact z)
  have hl : (Value.ref (hp.objs.size + 1) :: us).length = ps.length := by rw [← Paired.length r2]; exact F1.len _ _ _ _ hq
  have bnd := hb _ (Value.ref (hp.objs.size + 1) :: us) J2.kIn (by rw [List.append_nil]; exact hl)
  rw [List.append_nil] at bnd
  refine wpAny_call (HandSPX.call_own Z.F (fun Y => PySem.W.excTail_contains Y bm hbm) (J1.kIn _ _ hC) (PySem.W.looks_findIn J1.kIn iC) (fun self => PySem.W.bind_fn J1.kIn self tI) hlu
    (codeAny_mono (F1.run _ X.stack _ _ ⟨_, []⟩ _ _ _ E0 ((hr.mono hj).make C us []) (J2.env0.make C us []) bnd r2 hq) fun r s' z => ?_))
  cases r with
  | error er => exact pass0 pins σ _ _ er s' J2 z
  | ok fl =>
    cases fl with
    | ret u =>
      obtain ⟨v, H2, os2, bare2, un2, hok2, rv, ev, d, ea, ed, hd1, q2⟩ := z
      subst ev
      obtain ⟨h2, g2, d2, t2, os'⟩ := s'
      exact ⟨rv, mk_end (raises_own TX.sb TX.ty) J1 up1 kk un2 hok2 os2 bare2 ea ed hd1 q2⟩
    | next => exact False.elim z
    | brk => exact False.elim z
    | cont => exact False.elim z
end
end Rp
namespace Rp
open PySem PySem.Spec PyProof.Rows L2
/-! ### try with many clauses that name the exception -/
abbrev Cl : Type := Value × (Addr → Value → Option Addr → TS)
/-- the ends of a suite: the name is gone behind it -/
def goneD (D : Ends) (i : Nat) : Ends := { nx := fun σ H => D.nx (σ.set i none) H, rt := D.rt, bk := fun σ H => D.bk (σ.set i none) H, ct := fun σ H => D.ct (σ.set i none) H }
def wClauses (K : PySem.W.Frag) (ln i : Nat) (Wout : WX) (D : Ends) : List Cl → WX
  | [] => Wout
  | c :: l => fun cls d σ H => ∃ b, PySem.W.exmOne K cls c.1 = some b ∧ (b = true → σ.length = ln → ∀ a, H a = none → c.2 a cls d (goneD D i) (σ.set i (some (.ref a))) H) ∧ (b = false → wClauses K ln i Wout D l cls d σ H)
inductive ClsOk (X : Cx) (n : Str) : List ExceptHandler → List Cl → Prop
  | nil : ClsOk X n [] []
  | cons {x : Str} {c : Cl} {b₀ : Stmt} {suite : List Stmt} {p1 p2 : Pos} {hds : List ExceptHandler} {l : List Cl} (nm : Names X x c.1)
      (su : ∀ (a : Addr) (oe : Obj) (cls : Value) (d : Option Addr) (pn : List (Addr × Obj)), Zc cls d oe → (∃ vs, oe.data = .fields vs) → PSs (X.suite a ((a, oe) :: pn)) (b₀ :: suite) (c.2 a cls d)) (r : ClsOk X n hds l) :
      ClsOk X n (.ExceptHandler (some (.Name x p1)) (some n) (b₀ :: suite) p2 :: hds) (c :: l)
section
variable {X : Cx} {pins : List (Addr × Obj)} {σ : L2.St} {H : Hp} {sI s' : Shared} {a L : Addr} {B h3 : Heap} {cls : Value} {d : Option Addr} {D : Ends} {n : Str} {i : Nat} {Wout : WX}
/-- the clauses, one behind another, at an exception that has landed -/
theorem clauses_ok (hs : X.stack = X.env :: X.outer) (hf : X.env.frame = some X.env.locals) (hN : X.N.Nodup) (hi : X.N[i]? = some n) (hln : X.env.kindOf n = some .local) (tk : Takes X Wout) (J : Inv X pins σ H sI)
    (nb : ∀ b o, sI.heap.get? b = some o → b ∉ frs X.stack → B.get? b = some o) (up : sI.heap.UpToSlots h3) (fl : HandSPX.FlyingZ B (X.env :: X.outer) a (Zc cls d) h3) (na : H a = none) (os : s'.os = sI.os) (ag : AllBare s'.gens) (nL : a ≠ X.env.locals) (nF : a ∉ X.fs)
    {hds : List ExceptHandler} {l : List Cl} (hk : ClsOk X n hds l) (w : wClauses X.K X.N.length i Wout D l cls d σ H) : wpAny (model X.prog X.w) X.A (handleBy (.ref a) X.env hds) (SP X pins D) X.xe { s' with heap := h3 } := by
  have ok := J.ok
  have J3 : Inv X pins σ H { s' with heap := h3 } := J.landed nb fl.1 up os ag
  obtain ⟨oe, ve, he, hz, hd⟩ := fl.there
  have S3 := J3.suite he hd na nL nF
  induction hk with
  | nil =>
    refine wpAny_handleBy_nil ?_
    have raised : wpAny (model X.prog X.w) X.A (setFlight (.ref a) X.env.frame) (fun _ s4 => wpAny (model X.prog X.w) X.A (throw (.ref a) : Sem Flow) (SP X pins D) X.xe s4) X.xe { s' with heap := h3 } := by
      rw [hf]
      refine HandSPX.setFlight_upZ fl fun h4 z4 up4 => wpAny_throw (tk _ _ ⟨a, B, sI, pins, σ, H, cls, d, rfl, J, nb, up.trans up4, ?_, na, os, ag, w⟩)
      rw [hs]
      exact .inr (.inr z4)
    obtain ⟨_, _, _, oe2, vs2, T, oT, ts2, g1, _, g3, g4, _⟩ := id fl
    unfold PySem.passOn
    refine wpAny_bind (wpAny_field g1 g3 g4 ?_)
    rw [if_neg (show ¬ ((Value.ref T == Value.none) = true) by simp)]
    first | exact wpAny_bind (wpAny_pure (wpAny_bind raised)) | exact wpAny_bind raised
  | @cons x c b₀ suite p1 p2 hds2 l2 nm su r ih =>
    obtain ⟨b, eb, yes, no⟩ := w
    have lt : PySem.W.Looks (model X.prog X.w) h3 (typeOf (.ref a)) cls := fun A Q E s k q => wpAny_typeOf_ref (k _ _ he) (by rw [hz.1]; exact q)
    have lm := PySem.W.exm_one (M := model X.prog X.w) J3.kIn lt eb
    have named : ∀ {Q E : Value → Shared → Prop}, Q c.1 { s' with heap := h3 } → wpAny (model X.prog X.w) (X.A.mark (some (.ref a))) (eval (.Name x p1) X.env) Q E { s' with heap := h3 } := by
      intro Q E q
      rcases nm with ⟨k1, k2, k3 | ⟨k3, k4, k5⟩⟩
      · exact ld_glob (X := X.suite a ((a, oe) :: (X.pn ++ pins))) S3 k1 k3 q k2
      · exact ld_blt (X := X.suite a ((a, oe) :: (X.pn ++ pins))) S3 k1 k3 k4 q k5 k2
    refine wpAny_handleBy_cons (codeAny_handlers_test (named (lm.here ?_))) (fun q => by cases q)
    cases b with
    | false => exact ih (no rfl)
    | true =>
      refine codeAny_handlers_suite_as (HandSPX.lands_againZ fl fun h4 fl4 up4 => ?_)
      have J4 : Inv X pins σ H { s' with heap := h4 } := J.landed nb fl4.1 (up.trans up4) os ag
      obtain ⟨oe4, ve4, he4, hz4, hd4⟩ := fl4.there
      have S4 := J4.suite he4 hd4 na nL nF
      refine store_ok (X := X.suite a ((a, oe4) :: (X.pn ++ pins))) (v := .ref a) S4 hN hi (.inl hln) rfl (fun s5 S5 => ?_) (.inr hln)
      refine wpAny_mono ((su a oe4 cls d (X.pn ++ pins) hz4 ⟨_, hd4⟩).run [] s5 _ H _ S5 (yes rfl J.len a na)) (fun f s6 z => ?_) (fun _ _ z => False.elim z)
      have ends : ∀ {σ6 : L2.St} {H6 : Hp} {R : Shared → Prop}, Inv (X.suite a ((a, oe4) :: (X.pn ++ pins))) [] σ6 H6 s6 → (∀ s7, Inv X pins (σ6.set i none) H6 s7 → R s7) →
          wpAny (model X.prog X.w) X.A (do bindName X.env n .none; unbindBehindTheSuite X.env n p2) (fun _ s7 => R s7) X.xe s6 := fun S6 hq => gone_ok (S6.unsuite ok) hN hi hln hq
      cases f with
      | ret u => obtain ⟨v6, σ6, H6, S6, r6, q6⟩ := z; exact ends S6 fun s7 J7 => ⟨v6, _, H6, J7, r6, q6⟩
      | next => obtain ⟨σ6, H6, S6, q6⟩ := z; exact ends S6 fun s7 J7 => ⟨_, H6, J7, q6⟩
      | brk => obtain ⟨σ6, H6, S6, q6⟩ := z; exact ends S6 fun s7 J7 => ⟨_, H6, J7, q6⟩
      | cont => obtain ⟨σ6, H6, S6, q6⟩ := z; exact ends S6 fun s7 J7 => ⟨_, H6, J7, q6⟩
theorem ps_try_clauses {body : List Stmt} {h₀ : ExceptHandler} {hds : List ExceptHandler} {l : List Cl} {pos : Pos} {tb : WX → TS} (hs : X.stack = X.env :: X.outer) (hf : X.env.frame = some X.env.locals) (hN : X.N.Nodup) (hi : X.N[i]? = some n) (hln : X.env.kindOf n = some .local) (tk : Takes X Wout)
    (hb : ∀ (W : WX) (pn : List (Addr × Obj)) (xe : Value → Shared → Prop), Takes (X.tr pn xe) W → PassesOwn (model X.prog X.w) X.A X.env xe → PSs (X.tr pn xe) body (tb W)) (hk : ClsOk X n (h₀ :: hds) l) :
    PS X (.Try body (h₀ :: hds) [] [] pos) (fun D σ H => tb (wClauses X.K X.N.length i Wout D l) D σ H) := by
  refine ⟨fun pins s σ H D I h => wpAny_Try_except ?_⟩
  have ok := I.ok
  have hfr : X.A.frames = some (X.env :: X.outer) := by rw [ok.frames, hs]
  have body_ok := hb (wClauses X.K X.N.length i Wout D l) (X.pn ++ pins) (fun e s₁ => wpAny (model X.prog X.w) X.A (noteFrame e X.env) (fun _ s₂ => wpAny (model X.prog X.w) X.A (setFlight e none) (fun _ s₃ => wpAny (model X.prog X.w) X.A (handleBy e X.env (h₀ :: hds)) (SP X pins D) X.xe s₃) X.xe s₂) X.xe s₁)
    (fun u s' z => ?_) PassesOwn.looking
  · refine wpAny_mono (body_ok.run [] s σ H D (I.toTry _) h) (fun f s1 z => ?_) (fun e s1 he => he)
    cases f with
    | ret u => obtain ⟨v, σ', H', J', r, q⟩ := z; exact ⟨v, σ', H', J'.ofTry ok, r, q⟩
    | brk => obtain ⟨σ', H', J', q⟩ := z; exact ⟨σ', H', J'.ofTry ok, q⟩
    | cont => obtain ⟨σ', H', J', q⟩ := z; exact ⟨σ', H', J'.ofTry ok, q⟩
    | next => obtain ⟨σ', H', J', q⟩ := z; exact wpAny_execs_nil ⟨σ', H', J'.ofTry ok, q⟩
  · obtain ⟨a, B, sI, pins', σ', H', cls, d, rfl, J', nb, up, sky, na, os, ag, w⟩ := z
    have J : Inv X pins σ' H' sI := J'.ofTry ok
    have sky' : Sky B (X.env :: X.outer) a (Zc cls d) X.env.locals s'.heap := by rw [← hs]; exact sky
    refine Sky.land Zc.steady hfr hf sky' fun h3 fl3 up3 => ?_
    have nfr : a ∉ frs (X.env :: X.outer) := fun hm => by
      obtain ⟨oe, ve, he, _, hd⟩ := fl3.there
      obtain ⟨_, o', e', hnf⟩ := fl3.2.2.1.mem hm
      rw [he] at e'
      cases e'
      exact hnf _ hd
    refine clauses_ok hs hf hN hi hln tk J nb (up.trans up3) fl3 na os ag (fun z => nfr ?_) (fun hm => nfr ?_) hk w
    · exact List.mem_filterMap.mpr ⟨X.env, List.mem_cons_self, by rw [hf, z]⟩
    · obtain ⟨e, he, q⟩ := List.mem_filterMap.mp hm
      exact List.mem_filterMap.mpr ⟨e, List.mem_cons_of_mem _ he, q⟩
end
end Rp
namespace Rp
open PySem PySem.Spec PyProof.Rows L2
/-! ### where an exception is handled -/
/-- a context within an except suite, or of a def called from there with the exception: a is the exception, oe its object -/
structure CxH (P : Program) (w : World) (K : PySem.W.Frag) (mg : Str → Option Value) (base : Heap) (k : Nat) (N Vz Sz G : List Str) (sc : Scope) (a : Addr) (oe : Obj) (X : Cx) : Prop where
  eP : X.prog = P
  ew : X.w = w
  eK : X.K = K
  em : X.mg = mg
  eb : X.base = base
  eN : X.N = N
  es : X.env.scope = sc
  room : L2H.RoomH k X.A
  hnd : X.A.handled = some (.ref a)
  pin : (a, oe) ∈ X.pn
  fn : ∀ x, X.fn x = true
  nd : N.Nodup
  ok : namesOk Vz Sz G sc = true
  fk : sc.kind = .function
/-- the exception's object: its class, its dict -/
def IsE (cls : Value) (d : Option Addr) (oe : Obj) : Prop := Zc cls d oe ∧ ∃ vs, oe.data = .fields vs
/-- the dict is tracked, if there is one -/
def DOk (d : Option Addr) (H : Hp) : Prop := ∀ dd, d = some dd → ∃ fs, H dd = some (.xd fs)
theorem DOk.ex {d : Option Addr} {H H' : Hp} (h : DOk d H) (e : Ex H H') : DOk d H' := fun dd z => let ⟨fs, q⟩ := h dd z; ⟨fs, e _ _ q⟩
section
variable {P : Program} {w : World} {K : PySem.W.Frag} {mg : Str → Option Value} {base : Heap} {k j n : Nat} {N Vz Sz G ps : List Str} {sc : Scope} {x m f : Str} {v : V} {p p' apos : Pos} {X : Cx} {a0 : Addr} {oe : Obj} {cls : Value} {dd : Option Addr}
variable {e a b o : Expr} {es : List Expr} {σ : L2.St} {H : Hp} {Q : VK} {pos : Pos} {D : Ends}
theorem CxH.vis (C : CxH P w K mg base k N Vz Sz G sc a0 oe X) (h : x ∈ Vz) : Vis X.env.scope x ∧ (x == ("__debug__" : Str)) = false ∧ (x == ("__classdict__" : Str)) = false := by
  have q := C.ok
  unfold namesOk at q
  simp only [Bool.and_eq_true] at q
  have z := List.all_eq_true.mp q.1.1 x h
  simp only [Bool.and_eq_true, Bool.or_eq_true, Bool.not_eq_true', beq_iff_eq] at z
  rw [C.es]
  refine ⟨?_, z.1.2, z.2⟩
  rcases z.1.1 with (y | y) | y
  · exact .inl y
  · exact .inr (.inl y)
  · exact .inr (.inr y)
theorem CxH.loc (C : CxH P w K mg base k N Vz Sz G sc a0 oe X) (h : x ∈ Sz) : Loc X.env.scope x := by
  have q := C.ok
  unfold namesOk at q
  simp only [Bool.and_eq_true] at q
  have z := List.all_eq_true.mp q.1.2 x h
  simp only [Bool.or_eq_true, beq_iff_eq] at z
  rw [C.es]
  exact z
theorem CxH.glo (C : CxH P w K mg base k N Vz Sz G sc a0 oe X) (h : x ∈ G) : Gl X x ∧ (x == ("__debug__" : Str)) = false ∧ x ≠ "__name__" := by
  have q := C.ok
  unfold namesOk at q
  simp only [Bool.and_eq_true] at q
  have z := List.all_eq_true.mp q.2 x h
  simp only [Bool.and_eq_true, Bool.not_eq_true', beq_iff_eq] at z
  refine ⟨?_, z.1.2, fun y => ?_⟩
  · show X.env.scope.names.lookup x = _
    rw [C.es]
    exact z.1.1
  · have y2 := z.2
    rw [y] at y2
    exact absurd y2 (by decide)
theorem wE_nameH (C : CxH P w K mg base k N Vz Sz G sc a0 oe X) (hx : x ∈ Vz) (h : Lk N σ x v) (q : Q v H) : wE X (.Name x p) σ H Q := by
  obtain ⟨i, h1, h2⟩ := h.ix
  obtain ⟨l, d1, d2⟩ := C.vis hx
  exact wE.of (pe_var (i := i) (by rw [C.eN]; exact h1) l d1 d2) ⟨v, h2, q⟩
theorem wE_globH {u : Value} (C : CxH P w K mg base k N Vz Sz G sc a0 oe X) (h : x ∈ G) (hm : mg x = some u) (r : RelV v u) (q : Q v H) : wE X (.Name x p) σ H Q := by
  obtain ⟨l, d1, _⟩ := C.glo h
  exact wE.of (pe_glob l (by rw [C.em]; exact hm) r d1) q
theorem wE_bltnH {u : Value} (C : CxH P w K mg base k N Vz Sz G sc a0 oe X) (hm : mg x = none) (hx : x ∈ G) (hv : bootBuiltins x = some u) (r : RelV v u) (q : Q v H) : wE X (.Name x p) σ H Q := by
  obtain ⟨l, d1, d2⟩ := C.glo hx
  exact wE.of (pe_bltn l (by rw [C.em]; exact hm) hv r d2 d1) q
theorem wS_setH {pos' : Pos} (C : CxH P w K mg base k N Vz Sz G sc a0 oe X) (hx : x ∈ Sz) (hs : swapsWith e (some (.Name x pos')) pos.line X.env = pure false) (q : wE X e σ H fun v H1 => Put N σ x v fun σ' => D.nx σ' H1) : wS X (.Assign [.Name x pos'] e pos) D σ H := by
  refine ⟨fun pins s I => wpAny_Assign_Name (thn (q.run pins s I) fun v s1 ⟨y, H1, I1, r1, σ', hp, q1⟩ => ?_) hs⟩
  obtain ⟨i, h1, rfl⟩ := hp.ix
  exact store_ok I1 (by rw [C.eN]; exact C.nd) (i := i) (by rw [C.eN]; exact h1) (C.loc hx) r1 (fun s2 I2 => ⟨_, H1, I2, q1⟩) (.inl (C.fn x))
theorem wE_callBH {id : String} (C : CxH P w K mg base k N Vz Sz G sc a0 oe X) (hm : mg x = none) (hx : x ∈ G) (hv : bootBuiltins x = some (.builtin id)) (he : starEach (e :: es) X.env = (false, eval e X.env) :: starEach es X.env) (hpl : (backTo pos (starEach es X.env)).any (·.1) = false)
    (q : wA X (e :: es) σ H fun vs H1 => wC X (.builtin id) vs H1 Q) : wE X (.Call (.Name x p) (e :: es) [] pos) σ H Q := by
  obtain ⟨l, d1, d2⟩ := C.glo hx
  exact wE.of (pe_callB wC.call l (by rw [C.em]; exact hm) hv wA.pa d2 d1 he hpl) q
theorem i_listH {c d : Expr} {ad : Addr} {xs : List V} {m : Int} (C : CxH P w K mg base k N Vz Sz G sc a0 oe X) (hs : PlainIx d) (h : SqL K H ad xs) (hi : atI xs m = some v) (q : Q v H) : wIx X c d (.ref ad) (.int m) H Q :=
  wIx_of ix_list hs ⟨ad, xs, m, v, rfl, rfl, by rw [C.eK]; exact h, hi, q⟩
theorem o_inLH {ad : Addr} {xs : List V} (C : CxH P w K mg base k N Vz Sz G sc a0 oe X) (h : SqL K H ad xs) (h1 : flatV v = true) (h2 : xs.all flatV = true) (q : Q (.bl (inV v xs)) H) : wO X (compareOp .In) v (.ref ad) H Q :=
  wO.of op_in_seq ⟨ad, xs, rfl, .inl (by rw [C.eK]; exact h), h1, h2, q⟩
/-! #### isinstance of the exception, its fields -/
structure Xf (K : PySem.W.Frag) (C : Addr) : Prop where
  cl : (PySem.W.clsIn K C).isSome = true
  ga : PySem.W.findIn K (.ref C) "__getattribute__" = some (some (.builtin "BaseException.__getattribute__"))
  gg : PySem.W.findIn K (.ref C) "__getattr__" = some none
  sb : PySem.W.subIn K (.ref C) (.type "BaseException") = some true
  ca : PySem.W.findIn K (.ref C) "__class__" = some (some (.builtin "object.__class__"))
  cn : PySem.W.specialIn K (.builtin "object.__class__") "__get__" = some (some (.builtin "getset_descriptor.__get__"))
  ct : PySem.W.takesIn K (.builtin "object.__class__") = some true
  mo : PySem.W.mroIn K C (.type "object") = some true
  hd : PySem.W.hasDictIn K C = true
def xfBo (K : PySem.W.Frag) (C : Addr) : Bool := (PySem.W.clsIn K C).isSome && (He.eqO (PySem.W.findIn K (.ref C) "__getattribute__") (some (some (.builtin "BaseException.__getattribute__"))) && (He.eqO (PySem.W.findIn K (.ref C) "__getattr__") (some none) &&
  (decide (PySem.W.subIn K (.ref C) (.type "BaseException") = some true) && (He.eqO (PySem.W.findIn K (.ref C) "__class__") (some (some (.builtin "object.__class__"))) && (He.eqO (PySem.W.specialIn K (.builtin "object.__class__") "__get__") (some (some (.builtin "getset_descriptor.__get__"))) &&
  (decide (PySem.W.takesIn K (.builtin "object.__class__") = some true) && (decide (PySem.W.mroIn K C (.type "object") = some true) && PySem.W.hasDictIn K C)))))))
theorem xfBo_ok {K : PySem.W.Frag} {C : Addr} (h : xfBo K C = true) : Xf K C := by
  unfold xfBo at h
  simp only [Bool.and_eq_true] at h
  obtain ⟨h1, h2, h3, h4, h5, h6, h7, h8, h9⟩ := h
  exact ⟨h1, He.eqO_ok h2, He.eqO_ok h3, of_decide_eq_true h4, He.eqO_ok h5, He.eqO_ok h6, of_decide_eq_true h7, of_decide_eq_true h8, h9⟩
/-- the exception stands in the state -/
theorem CxH.inst {pins : List (Addr × Obj)} {s : Shared} {C : Addr} (I : CxH P w K mg base k N Vz Sz G sc a0 oe X) (z : IsE (.ref C) dd oe) (hdd : DOk dd H) (J : Inv X pins σ H s) : ∃ od, PySem.W.InstAt s.heap a0 oe C od ∧ ∀ d fs, dd = some d → H d = some (.xd fs) → ∃ (ob : Obj) (mA : Str → Option Value), od = some ob ∧ PySem.W.lookIn f ob = some (mA f) ∧ ∀ g, RelO (fs.lookup g) (mA g) := by
  obtain ⟨⟨z1, z2⟩, vs, z3⟩ := z
  obtain ⟨hget, _⟩ := J.pin (a0, oe) (List.mem_append_left _ I.pin)
  have nc : PySem.W.notCls oe = true := by unfold PySem.W.notCls; rw [z3]
  cases hd : dd with
  | none => exact ⟨none, ⟨hget, z1, nc, by rw [z2, hd]; trivial⟩, fun d fs q => by cases q⟩
  | some d =>
    obtain ⟨fs, hx⟩ := hdd d hd
    have hk : ObjOk X.prog X.w H s.heap d (.xd fs) := J.hok d _ hx
    obtain ⟨mA, hns, hr⟩ := hk
    obtain ⟨od, ho, hl⟩ := lookIn_ns hns
    refine ⟨some od, ⟨hget, z1, nc, by rw [z2, hd]; exact ho⟩, fun d' fs' q q2 => ?_⟩
    cases q
    rw [hx] at q2
    cases q2
    exact ⟨od, mA, rfl, hl f, hr⟩
theorem c_isH {c : V} {cv : Value} {C : Addr} {r : Bool} (I : CxH P w K mg base k N Vz Sz G sc a0 oe X) (T : Xf K C) (z : IsE (.ref C) dd oe) (hdd : DOk dd H) (hc : ∀ u, RelV c u → u = cv) (h : PySem.W.kitOne K (.ref C) cv = some r) (q : Q (.bl r) H) : wC X (.builtin "isinstance") [.ref a0, c] H Q := by
  refine ⟨fun pins s σ us J rv => ?_⟩
  obtain ⟨od, ins, _⟩ := I.inst (f := Str.empty) z hdd J
  cases rv with
  | cons rx rr =>
    cases rr with
    | cons rt rr =>
      cases rr
      cases rx
      have ec := hc _ rt
      subst ec
      obtain ⟨eP, ew, eK, _⟩ := I
      subst eK
      exact PySem.W.kia_one (PySem.W.kitx_exc T.cl T.ga T.gg T.sb T.ca T.cn T.ct T.mo) J.kIn ins h (fun y => nomatch y) fun tk => ⟨.bl r, H, J.kept (t' := tk) fun _ _ y => y, rfl, q⟩
/-- err.f -/
theorem wE_fldH {C : Addr} {fs : List (Str × V)} {d : Addr} (I : CxH P w K mg base k N Vz Sz G sc a0 oe X) (T : Xf K C) (z : IsE (.ref C) (some d) oe) (hno : PySem.W.findIn K (.ref C) f = some none) (hb : attributeBase e f X.env (eval e X.env) = eval e X.env)
    (q : wE X e σ H fun y H1 => y = .ref a0 ∧ H1 d = some (.xd fs) ∧ ∃ v, fs.lookup f = some v ∧ Q v H1) : wE X (.Attribute e f pos) σ H Q := by
  refine ⟨fun pins s J => attr_of hb (thn (q.run pins s J) fun u s1 hh => ?_)⟩
  obtain ⟨y, H1, J1, ry, rfl, hx, v, hl, q1⟩ := hh
  obtain rfl : u = Value.ref a0 := ry
  obtain ⟨od, ins, more⟩ := I.inst (f := f) z (fun dd e => by cases e; exact ⟨fs, hx⟩) J1
  obtain ⟨ob, mA, rfl, lk, rel⟩ := more d fs rfl hx
  obtain ⟨u, hu, ru⟩ := RelO.some_of (v := v) (o := mA f) (by rw [← hl]; exact rel f)
  obtain ⟨eP, ew, eK, _⟩ := I
  subst eK
  exact HandSPX.exc_get J1.kIn ins T.ga T.gg T.sb (PySem.W.findObj_own T.hd hno rfl (by rw [lk, hu])) (handed_of ru) ⟨v, H1, J1.tok _, ru, q1⟩
end
/-! #### defs that get the exception -/
abbrev SpE : Type := Value → Option Addr → Hp → VK → Prop
structure FnE (P : Program) (w : World) (K : PySem.W.Frag) (mg : Str → Option Value) (base : Heap) (k : Nat) (f : Addr) (fd : FuncData) (p : Str) (sp : SpE) : Prop where
  run : ∀ (A : Around) (outer : List Env) (s : Shared) (H : Hp) (a : Addr) (oe : Obj) (cls : Value) (d : Option Addr) (Q : VK), L2H.RoomH k A → A.handled = some (.ref a) → L2H.PinOk outer H s (a, oe) → IsE cls d oe → Env0 P w K mg base A outer s H → BindsTo s fd ⟨[.ref a], []⟩ [(p, .ref a)] →
    sp cls d H Q → codeAny (model P w) A (.call (.ref f) ⟨[.ref a], []⟩) (CR CX0 outer P w H s Q E0) s
section
variable {P : Program} {w : World} {K : PySem.W.Frag} {mg : Str → Option Value} {base : Heap} {k j n : Nat} {N Vz Sz G : List Str} {sc : Scope} {x qual ar : Str} {v : V} {p p' apos : Pos} {X : Cx} {a0 f : Addr} {oe : Obj} {cls : Value} {dd : Option Addr} {st : Stmt} {fd : FuncData} {sp : SpE}
variable {e : Expr} {σ : L2.St} {H : Hp} {Q : VK} {pos : Pos}
theorem fn_E (F : Fn K x qual st f fd) (S : FnScope N [ar] (defScope st)) (ok : namesOk Vz Vz G (defScope st) = true)
    (body : ∀ (X : Cx) (a : Addr) (oe : Obj) (cls : Value) (d : Option Addr) (H : Hp) (Q : VK), CxH P w K mg base k N Vz Vz G (defScope st) a oe X → IsE cls d oe → sp cls d H Q → wB X (defBody st) { nx := fun _ H' => Q .non H', rt := Q } (L2.start N [.ref a]) H) : FnE P w K mg base (k + 1) f fd ar sp := by
  obtain ⟨dvs, kws, F⟩ := F.ex
  obtain ⟨oc, od, dV, kV, doc, pm, an, cdv, ct, osl, rfl, lk, hcd, _, _⟩ := F.ex
  refine ⟨fun A outer s H a oe cls d Q hr hh hpin z e0 hb h => ?_⟩
  have KX : K.In s.heap := e0.mod.kin.keeps fun b o e => (e0.bs b o e).1
  have lim : s.heap.NoLimit := e0.mod.nolimit.keeps fun b o e => (e0.bs b o e).1
  have hkind : ∀ y ∈ [(ar, Value.ref a)], (defScope st).names.lookup y.1 = some .local ∨ ((defScope st).names.lookup y.1 = some .cell ∧ ((cellsFrom (s.heap.objs.size + 1) (defScope st).names []).lookup y.1).isSome = true) := fun y hy => by
    rw [List.mem_singleton.mp hy]
    rcases S.par ar (List.mem_singleton.mpr rfl) with q | q
    · exact .inl q
    · exact .inr ⟨q, PySem.W.cellsFrom_some _ _ _ (.inl q)⟩
  refine codeAny_call_function hr.depth (KX _ _ lk) rfl S.co S.gen rfl (PySem.W.codeRec_of KX hcd) (hb _ _ _ _ ?_)
  refine wpAny_newFunctionEnv_cells S.kind hkind fun env he s1 y => ?_
  subst he
  refine ⟨lim.keeps y.toInCall.keep, codeAny_func ?_⟩
  have I : Inv (L2H.cxH CX0 P w K mg base N qual (defScope st) f cdv A outer s H E0 (a, oe)) [] (L2.start N [.ref a]) H s1 := L2H.inv_startH S hpin e0 rfl (.cons rfl .nil) y
  have hB := body (L2H.cxH CX0 P w K mg base N qual (defScope st) f cdv A outer s H E0 (a, oe)) a oe cls d H Q ⟨rfl, rfl, rfl, rfl, rfl, rfl, rfl, hr.deeper _, hh, List.mem_cons_self, fun _ => rfl, S.nd, ok, S.kind⟩ z h
  refine wpAny_mono (hB.run [] s1 I) (fun fl s' hs => ?_) fun e s' hs => hs
  have fin : ∀ {σ' : L2.St} {H' : Hp} {v : V} {u : Value}, Inv (L2H.cxH CX0 P w K mg base N qual (defScope st) f cdv A outer s H E0 (a, oe)) [] σ' H' s' → RelV v u → Q v H' → CE outer P w H s Q u s' := fun {σ' H' v u} J rv q => ⟨v, H', J.os, J.bare, J.base, J.hok, rv, q⟩
  cases fl with
  | ret u => obtain ⟨v, σ', H', J, rv, q⟩ := hs; exact fin J rv q
  | next => obtain ⟨σ', H', J, q⟩ := hs; exact fin (v := V.non) (u := Value.none) J rfl q
  | brk => obtain ⟨_, _, _, q⟩ := hs; exact False.elim q
  | cont => obtain ⟨_, _, _, q⟩ := hs; exact False.elim q
structure DE (P : Program) (w : World) (K : PySem.W.Frag) (mg : Str → Option Value) (base : Heap) (k : Nat) (x ar : Str) (sp : SpE) : Prop where
  ex : ∃ f fd, FnE P w K mg base k f fd ar sp ∧ mg x = some (.ref f) ∧ PySem.W.keepIn K (.ref f) = true ∧ Binds K fd [ar] []
theorem wE_callE (C : CxH P w K mg base k N Vz Sz G sc a0 oe X) (D : DE P w K mg base j x ar sp) (hx : x ∈ G) (hj : j ≤ k) (z : IsE cls dd oe) (he : starEach [e] X.env = (false, eval e X.env) :: starEach [] X.env) (hpl : (backTo pos (starEach [] X.env)).any (·.1) = false)
    (q : wA X [e] σ H fun vs H1 => vs = [.ref a0] ∧ sp cls dd H1 Q) : wE X (.Call (.Name x p) [e] [] pos) σ H Q := by
  obtain ⟨f, fd, Fk, hm, kp, hb⟩ := D.ex
  obtain ⟨l, d1, _⟩ := C.glo hx
  obtain ⟨rfl, rfl, rfl, rfl, rfl, _, _, hr, hh, hp, _, _, _, _⟩ := C
  refine ⟨fun pins s I => wpAny_Call_Name_kw (ld_glob I l hm ?_ d1)⟩
  refine PySem.W.callWith_K (h₀ := X.base) I.ok.mod.kin kp (thn (q.run pos pins s I) fun us s1 ⟨vs, H1, I1, r, ev, q1⟩ => ⟨I1.kIn, ?_⟩) he hpl
  subst ev
  obtain ⟨u, rfl, ru⟩ := vals1 r
  obtain rfl : u = Value.ref a0 := ru
  have p1 := I1.pin (a0, oe) (List.mem_append_left _ hp)
  have hpin : L2H.PinOk X.stack H1 s1 (a0, oe) := ⟨p1.1, p1.2.1, fun hm => (List.mem_cons.mp (I1.stkSub a0 hm)).elim p1.2.2.1 p1.2.2.2.1, p1.2.2.2.2⟩
  have bnd := hb s1 [Value.ref a0] I1.kIn rfl
  refine wpAny_call (codeAny_mono (Fk.run X.A X.stack s1 H1 a0 oe cls dd Q (hr.mono hj) hh hpin z I1.env0 bnd q1) fun r s' hq => ?_)
  cases r with
  | error e => exact False.elim hq
  | ok fl =>
    cases fl with
    | ret u => exact I1.after hq
    | next => exact False.elim hq
    | brk => exact False.elim hq
    | cont => exact False.elim hq
end
/-! #### lists of truths -/
theorem dpa_bls {K : PySem.W.Frag} {H : Hp} : ∀ bs : List Bool, DpAll K H (bs.map V.bl) (bs.map PyData.bool)
  | [] => .nil
  | b :: bs => .cons (.bl b) (dpa_bls bs)
theorem shp_bls : ∀ bs : List Bool, PyData.canLayAll0 (bs.map PyData.bool) = true ∧ PyData.depthAll (bs.map PyData.bool) ≤ 1 ∧ PyData.plainAll (bs.map PyData.bool) = true
  | [] => ⟨rfl, by decide, rfl⟩
  | b :: bs => by
    obtain ⟨h1, h2, h3⟩ := shp_bls bs
    refine ⟨?_, ?_, ?_⟩
    · show (true && PyData.canLayAll0 (bs.map PyData.bool)) = true; rw [h1]; rfl
    · show max (PyData.depth (.bool b)) (PyData.depthAll (bs.map PyData.bool)) ≤ 1
      have : PyData.depth (.bool b) ≤ 1 := by first | exact Nat.le_refl _ | exact Nat.zero_le _ | simp [PyData.depth]
      omega
    · show (true && PyData.plainAll (bs.map PyData.bool)) = true; rw [h3]; rfl
theorem shl_bls (bs : List Bool) : SeqAt.shaped (.list (bs.map PyData.bool)) = true := by
  obtain ⟨h1, h2, _⟩ := shp_bls bs
  refine Bool.and_eq_true_iff.mpr ⟨h1, decide_eq_true ?_⟩
  have e : PyData.depth (.list (bs.map PyData.bool)) ≤ PyData.depthAll (bs.map PyData.bool) + 1 := by first | exact Nat.le_refl _ | (show 1 + _ ≤ _ + 1; omega) | simp [PyData.depth]
  omega
theorem eqv_bls : ∀ as bs : List Bool, PyData.eqvAll (as.map PyData.bool) (bs.map PyData.bool) = decide (as = bs)
  | [], [] => rfl
  | [], _ :: _ => rfl
  | _ :: _, [] => rfl
  | a :: as, b :: bs => by
    show (PyData.eqv (.bool a) (.bool b) && PyData.eqvAll (as.map PyData.bool) (bs.map PyData.bool)) = _
    rw [eqv_bls as bs]
    cases a <;> cases b <;> simp [PyData.eqv]
section
variable {X : Cx} {H : Hp} {Q : VK} {a b : Addr} {as bs : List Bool}
theorem o_eqBs (hu : X.A.units + 64 < cLine) (h1 : SqL X.K H a (as.map V.bl)) (h2 : SqL X.K H b (bs.map V.bl)) (q : Q (.bl (decide (as = bs))) H) : wO X (compareOp .Eq) (.ref a) (.ref b) H Q :=
  wO.of (op_eqD hu) ⟨_, _, .lst h1 (dpa_bls as), .lst h2 (dpa_bls bs), shl_bls as, shl_bls bs, by
    show Q (.bl (PyData.eqvAll (as.map PyData.bool) (bs.map PyData.bool))) H
    rw [eqv_bls]; exact q⟩
/-- bs.count(b) -/
theorem wE_countB {b0 : Bool} {o e : Expr} {σ : L2.St} {apos pos : Pos} (hu : X.A.units + 64 < cLine) (hbase : attributeBase o "count" X.env (eval o X.env) = eval o X.env)
    (hfew : ((backTo pos (starEach [e] X.env)).all (fun x => !x.1) && (backToKw pos (keywordEach [] X.env)).all (fun x => x.1.isSome) && decide ([e].length + ([] : List Keyword).length + (if ([] : List Keyword).isEmpty then 0 else 1) < 30)) = true)
    (hline : (apos.endLine == pos.line) = true) (hs : starEach [e] X.env = (false, eval e X.env) :: starEach [] X.env) (hplain : (backTo pos (starEach [] X.env)).any (·.1) = false)
    (q : wE X o σ H fun x H1 => ∃ (l : Addr) (as : List Bool), x = .ref l ∧ SqL X.K H1 l (as.map V.bl) ∧ wE X e σ H1 fun y H2 => y = .bl b0 ∧ SqL X.K H2 l (as.map V.bl) ∧ Q (.int (as.count b0 : Nat)) H2) : wE X (.Call (.Attribute o "count" apos) [e] [] pos) σ H Q := by
  refine wE.of (pe_bm (T := "list") (r := fun x xs H Q => ∃ (l : Addr) (as : List Bool), x = .ref l ∧ xs = [.bl b0] ∧ SqL X.K H l (as.map V.bl) ∧ Q (.int (as.count b0 : Nat)) H) F.plainAttrs_list F.slot_list_count F.type_list_count ?_ wE.pe wA.pa hbase hfew hline hs hplain) ?_
  · rintro pins s σ H x xs v us Q I rx rxs ⟨l, as, rfl, rfl, hl, q⟩
    obtain rfl : v = Value.ref l := rx
    obtain ⟨u, rfl, ru⟩ := vals1 rxs
    obtain rfl : u = Value.bool b0 := ru
    obtain ⟨its, rv, hI, _⟩ := I.list hl
    obtain ⟨ad, rds⟩ := Dp.readsAll I (as.map PyData.bool) _ _ (dpa_bls as) rv
    obtain ⟨h1, h2, h3⟩ := shp_bls as
    have cnt : (as.map PyData.bool).countP (fun y => PyData.eqv y (.bool b0)) = as.count b0 := by
      rw [List.countP_map]
      refine List.countP_congr fun c _ => ?_
      cases c <;> cases b0 <;> decide
    have dz : PyData.depth (.bool b0) ≤ 1 := by first | exact Nat.le_refl _ | exact Nat.zero_le _ | simp [PyData.depth]
    refine SeqAt.count_list_data (d := .bool b0) hI.isList rds (Reads.bool b0) h3 rfl (by omega) ?_
    rw [cnt]
    exact ⟨.int _, H, I.tok _, ⟨_, rfl⟩, q⟩
  · refine ⟨fun pins s I => thn (q.run pins s I) fun u s1 ⟨x, H1, I1, r1, l, as, ex, hl, z⟩ => ⟨x, H1, I1, r1, ?_, ?_⟩⟩
    · subst ex
      exact .inl ⟨rfl, _, hl⟩
    · refine wA_cons hs ?_
      refine ⟨fun pins2 s2 I2 => thn (z.run pins2 s2 I2) fun u2 s3 ⟨y, H2, I3, r2, ey, h2, h3⟩ => ⟨y, H2, I3, r2, ?_⟩⟩
      exact wA_nil ⟨l, as, ex, by rw [ey], h2, h3⟩
/-- bs.index(True) -/
theorem wE_indexH {o e : Expr} {σ : L2.St} {apos pos : Pos} (hbase : attributeBase o "index" X.env (eval o X.env) = eval o X.env)
    (hfew : ((backTo pos (starEach [e] X.env)).all (fun x => !x.1) && (backToKw pos (keywordEach [] X.env)).all (fun x => x.1.isSome) && decide ([e].length + ([] : List Keyword).length + (if ([] : List Keyword).isEmpty then 0 else 1) < 30)) = true)
    (hline : (apos.endLine == pos.line) = true) (hs : starEach [e] X.env = (false, eval e X.env) :: starEach [] X.env) (hplain : (backTo pos (starEach [] X.env)).any (·.1) = false)
    (q : wE X o σ H fun x H1 => ∃ l xs, x = .ref l ∧ SqL X.K H1 l xs ∧ wE X e σ H1 fun y H2 => IxQ X.K l xs y H2 fun i => Q (.int i) H2) : wE X (.Call (.Attribute o "index" apos) [e] [] pos) σ H Q := by
  refine wE.of (pe_bm (T := "list") F.plainAttrs_list F.slot_list_index F.type_list_index mt_index wE.pe wA.pa hbase hfew hline hs hplain) ?_
  refine ⟨fun pins s I => thn (q.run pins s I) fun u s1 ⟨x, H1, I1, r1, l, xs, ex, hl, z⟩ => ⟨x, H1, I1, r1, ?_, ?_⟩⟩
  · subst ex
    exact .inl ⟨rfl, _, hl⟩
  · refine wA_cons hs ?_
    refine ⟨fun pins2 s2 I2 => thn (z.run pins2 s2 I2) fun u2 s3 ⟨y, H2, I3, r2, j, z', h1, h2, h3, h4, h5, h6, h7⟩ => ⟨y, H2, I3, r2, ?_⟩⟩
    exact wA_nil ⟨l, xs, y, j, z', ex, rfl, h1, h2, h3, h4, h5, h6, h7⟩
end
end Rp
namespace Rp
open PySem PySem.Spec PyProof.Rows L2
/-! ### a lambda handed to a def -/
/-- what is known of the maker's code: its object, its table, its name -/
structure Mkr (base : Heap) (mg : Str → Option Value) (c PT : Addr) (qual : Str) (X : Cx) : Prop where
  tb : LamX.TabB base mg c PT
  code : X.env.code = .ref c
  qu : X.env.qual = qual ++ ".<locals>."
section
variable {P : Program} {w : World} {K : PySem.W.Frag} {mg : Str → Option Value} {base : Heap} {k j n : Nat} {N Vz Sz G Vc Sc' Gc ps : List Str} {sc scope : Scope} {x m f : Str} {v : V} {p lpos apos : Pos} {X : Cx} {c PT : Addr} {qual : Str} {T : List (Addr × Str)} {fd : FuncData} {sp : Sp} {st : Stmt} {fa : Addr}
variable {e body : Expr} {σ : L2.St} {H : Hp} {Q : VK} {pos : Pos} {params : Arguments} {E : XK}
/-- a def that makes lambdas, by its body (it lets nothing out) -/
theorem fn_wL (F : Fn K x qual st fa fd) (hc : ∀ oc od osl, K.lookup fa = some ⟨oc, od, .func fd, osl⟩ → fd.code = .ref c) (tb : LamX.TabB base mg c PT) (S : FnScope N ps (defScope st)) (ok : namesOk Vz Vz G (defScope st) = true) (len : ∀ vs H Q E, sp vs H Q E → vs.length = ps.length)
    (body : ∀ (X : Cx) (vs : List V) (H : Hp) (Q : VK) (E : XK), CxI P w K mg base k N Vz Vz G (defScope st) X → Mkr base mg c PT qual X → sp vs H Q E → wB X (defBody st) { nx := fun _ H' => Q .non H', rt := Q } (start N vs) H) : FnOk P w K mg base CX0 (k + 1) fa fd ps sp := by
  obtain ⟨dvs, kws, F⟩ := F.ex
  obtain ⟨oc, od, dV, kV, doc, pm, an, cdv, ct, osl, rfl, lk, hcd, _, _⟩ := F.ex
  have hcv : cdv = .ref c := hc _ _ _ lk
  subst hcv
  exact fn_of lk hcd S len fun A outer s H vs Q E hr h => ⟨_, PSs.nox wB.pss, body _ vs H Q E ⟨rfl, rfl, rfl, rfl, rfl, rfl, rfl, hr, rfl, .inl fun _ => rfl, PassesOwn.never, S.nd, ok, S.kind⟩ ⟨tb, rfl, rfl⟩ h⟩
/-- the lambda's body, read where it is called -/
def LamE (P : Program) (w : World) (K : PySem.W.Frag) (mg : Str → Option Value) (base : Heap) (k : Nat) (N Vc Sc' Gc : List Str) (scope : Scope) (body : Expr) (σ : L2.St) (E : XK) (H : Hp) (Q : VK) : Prop := ∀ X, CxI P w K mg base k N Vc Sc' Gc scope X → Takes X (wOf E) → wE X body σ H Q
/-- the def that gets the lambda: what it makes of the lambda's reading -/
structure Giv (P : Program) (w : World) (K : PySem.W.Frag) (mg : Str → Option Value) (base : Heap) (k : Nat) (x q : Str) (TT : (XK → Hp → VK → Prop) → Hp → VK → Prop) : Prop where
  ex : ∃ (g : Addr) (a : Str) (Ng : List Str) (pg : Arguments) (bg : List Stmt) (sg : Scope) (dV kV doc pm cdv ct oc : Value) (an od : Option Addr) (osl : Array (Option Value)), mg x = some (.ref g) ∧ PySem.W.keepIn K (.ref g) = true ∧
    K.lookup g = some ⟨oc, od, .func (PySem.W.fnOf x x pg bg sg dV kV doc pm an cdv ct), osl⟩ ∧ PySem.W.codeIn K cdv x = true ∧ Binds K (PySem.W.fnOf x x pg bg sg dV kV doc pm an cdv ct) [a] [] ∧ FnScope Ng [a] sg ∧ Ng[0]? = some a ∧ Vis sg a ∧
    (a == ("__debug__" : Str)) = false ∧ (a == ("__classdict__" : Str)) = false ∧ ∀ X, X.prog = P → X.w = w → X.K = K → X.mg = mg → X.base = base → Room k X.A → LamX.GivesTo X Ng x sg g cdv bg a q TT
theorem wE_lam {kl : Nat} {TT : (XK → Hp → VK → Prop) → Hp → VK → Prop} (C : CxI P w K mg base k N Vz Sz G sc X) (M : Mkr base mg c PT qual X) (D : Giv P w K mg base j x (qual ++ ".<locals>." ++ "<lambda>") TT) (hx : x ∈ G) (hk : kl + 2 ≤ k) (hj : j ≤ k)
    (hmT : (PT, qual ++ ".<locals>." ++ "<lambda>") ∈ T) (hu : ∀ p ∈ T, p.1 = PT → p.2 = qual ++ ".<locals>." ++ "<lambda>") (L : LamX.lamSB sc scope = true) (hdef : defaultsOf params X.env = ([], []))
    (hbind : ∀ (q : Str) (cl : List (Str × Addr)) (pm cv ctv : Value), bindArgs (PySem.W.kla_fn "<lambda>" q params body scope cl pm cv ctv) ⟨[], []⟩ = pure []) (okL : namesOk Vc [] Gc scope = true) (hkL : scope.kind = .function)
    (q : LamX.Tabs T H ∧ ∀ H1, LamX.ExtN H H1 → LamX.Tabs T H1 → TT (fun E H' Q' => LamE P w K mg base kl N Vc [] Gc scope body σ E H' Q') H1 Q) : wE X (.Call (.Name x p) [.Lambda params body scope lpos] [] pos) σ H Q := by
  obtain ⟨g, a, Ng, pg, bg, sg, dV, kV, doc, pm, cdv, ct, oc, an, od, osl, hm, kp, lk, hcg, hb, Sg, hNg, hva, hd1, hd2, hG⟩ := D.ex
  obtain ⟨l, d1, _⟩ := C.glo hx
  have nd := C.nd
  have hL := LamX.lamS_by L
  obtain ⟨rfl, rfl, rfl, rfl, rfl, rfl, rfl, hr, hcalm, _, _, _, _⟩ := C
  have hq : X.env.qual ++ "<lambda>" = qual ++ ".<locals>." ++ "<lambda>" := by rw [M.qu]
  refine wE.of (t := LamX.tLam T TT (fun E σ H Q => LamE X.prog X.w X.K X.mg X.base kl X.N Vc [] Gc scope body σ E H Q)) ?_ q
  refine LamX.pe_lamcall (k := kl) (t := fun E σ H Q => LamE X.prog X.w X.K X.mg X.base kl X.N Vc [] Gc scope body σ E H Q) l hm kp lk hcg hb Sg hNg hva ?_ M.tb M.code (by rw [hq]; exact hmT) (by rw [hq]; exact hu) (hr.mono hk) hL hdef hbind ?_ d1 hd1 hd2
  · rw [hq]
    exact hG X rfl rfl rfl rfl rfl (hr.mono hj)
  · intro A outer s H0 E f c' hr2
    refine ⟨fun pins s' σ' H' Q' I h => (h (LamX.lamCx X A outer s H0 E scope f c') ⟨rfl, rfl, rfl, rfl, rfl, rfl, rfl, hr2, rfl, .inr (fun y hy => by cases hy), passes_of rfl, nd, okL, hkL⟩ (takes_of rfl rfl rfl rfl)).run pins s' I⟩
end
end Rp
namespace Rp
open PySem PySem.Spec PyProof.Rows L2
/-! ### the text's own exceptions -/
def exNames : List Str := ["NoRates", "NoSpot", "NoShare", "NoBook", "NoPlace", "Absent", "Nothing", "NoTable", "NoLine", "NoSpending", "NoRule", "NoJourney", "NoText", "TooMany", "NoRate", "NoDay", "NoName", "NoHeads"]
def exWords : List Str := ["rates", "spot", "share", "book", "place", "absent", "nothing", "table", "line", "spending", "rule", "journey", "text", "many", "rate", "day", "name", "heads"]
def exIx (x : Str) : Nat := exNames.findIdx fun y => decide (y = x)
def exWord (x : Str) : Str := exWords.getD (exIx x) Str.empty
def exFields (x : Str) : List Str := if x = "NoSpending" ∨ x = "NoRule" ∨ x = "NoJourney" then ["part"] else if x = "NoText" then ["row"] else if x = "TooMany" then ["many", "most"] else if x = "NoRate" then ["money", "day"] else if x = "NoDay" then ["day"] else
  if x = "NoName" then ["name"] else if x = "NoHeads" then ["heads"] else []
def exTys : List String := ["ValueError", "KeyError", "IndexError", "LookupError", "ZeroDivisionError"]
def exTy (x : Str) (t : String) : Bool := if t = "ValueError" then decide (exIx x < 14) else if t = "KeyError" then decide (x = "NoName") else if t = "IndexError" then decide (x = "NoDay") else if t = "LookupError" then decide (x = "NoRate" ∨ x = "NoDay" ∨ x = "NoName") else decide (x = "NoHeads")
def exCls : List Str := ["NoHeads", "NoName", "NoDay", "NoRate"]
abbrev exA (K : PySem.W.Frag) (x : Str) : Addr := He.ga K x
/-- what is known of them; nm: those that the text has -/
structure ExF (nm : List Str) (K : PySem.W.Frag) (mg : Str → Option Value) : Prop where
  g : ∀ x ∈ nm, mg x = some (.ref (exA K x))
  gp : mg "PenceError" = some (.ref (exA K "PenceError"))
  f : ∀ x ∈ nm, Xf K (exA K x)
  kit : ∀ x ∈ nm, ∀ y ∈ nm, PySem.W.kitOne K (.ref (exA K x)) (.ref (exA K y)) = some (decide (x = y))
  kitP : ∀ x ∈ nm, PySem.W.kitOne K (.ref (exA K x)) (.ref (exA K "PenceError")) = some (decide (exIx x < 14))
  kitT : ∀ x ∈ nm, ∀ t ∈ exTys, PySem.W.kitOne K (.ref (exA K x)) (.type t) = some (exTy x t)
  exP : ∀ x ∈ nm, PySem.W.exmOne K (.ref (exA K x)) (.ref (exA K "PenceError")) = some (decide (exIx x < 14))
  exm : ∀ x ∈ nm, ∀ y ∈ nm, y ∈ exCls → PySem.W.exmOne K (.ref (exA K x)) (.ref (exA K y)) = some (decide (x = y))
  nof : ∀ x ∈ nm, ∀ f ∈ exFields x, PySem.W.findIn K (.ref (exA K x)) f = some none
def exFB (nm : List Str) (K : PySem.W.Frag) : Bool := nm.all fun x => xfBo K (exA K x) && ((nm.all fun y => decide (PySem.W.kitOne K (.ref (exA K x)) (.ref (exA K y)) = some (decide (x = y))) && (decide (y ∉ exCls) || decide (PySem.W.exmOne K (.ref (exA K x)) (.ref (exA K y)) = some (decide (x = y))))) &&
  (decide (PySem.W.kitOne K (.ref (exA K x)) (.ref (exA K "PenceError")) = some (decide (exIx x < 14))) && ((exTys.all fun t => decide (PySem.W.kitOne K (.ref (exA K x)) (.type t) = some (exTy x t))) && (decide (PySem.W.exmOne K (.ref (exA K x)) (.ref (exA K "PenceError")) = some (decide (exIx x < 14))) &&
    (exFields x).all fun f => He.eqO (PySem.W.findIn K (.ref (exA K x)) f) (some none)))))
theorem exFB_ok {nm : List Str} {K : PySem.W.Frag} {mg : Str → Option Value} (g : ∀ x ∈ nm, mg x = some (.ref (exA K x))) (gp : mg "PenceError" = some (.ref (exA K "PenceError"))) (h : exFB nm K = true) : ExF nm K mg := by
  have z : ∀ x ∈ nm, _ := fun x hx => List.all_eq_true.mp h x hx
  simp only [Bool.and_eq_true, List.all_eq_true, Bool.or_eq_true, decide_eq_true_eq] at z
  refine ⟨g, gp, fun x hx => xfBo_ok (z x hx).1, fun x hx y hy => ((z x hx).2.1 y hy).1, fun x hx => (z x hx).2.2.1, fun x hx t ht => (z x hx).2.2.2.1 t ht, fun x hx => (z x hx).2.2.2.2.1, fun x hx y hy hc => ?_, fun x hx f hf => He.eqO_ok ((z x hx).2.2.2.2.2 f hf)⟩
  exact (((z x hx).2.1 y hy).2).resolve_left fun q => q hc
/-- the exception of the class x, its dict, as it is told -/
structure ExD (nm : List Str) (K : PySem.W.Frag) (x : Str) (vs : List V) (cls : Value) (d : Option Addr) (H : Hp) : Prop where
  hx : x ∈ nm
  cls : cls = .ref (exA K x)
  dict : (exFields x = [] ∧ vs = [] ∧ DOk d H) ∨ ∃ dd fs, d = some dd ∧ H dd = some (.xd fs) ∧ vs.length = (exFields x).length ∧ ∀ (i : Nat) f v, (exFields x)[i]? = some f → vs[i]? = some v → fs.lookup f = some v
theorem ExD.dok {nm : List Str} {K : PySem.W.Frag} {x : Str} {vs : List V} {cls : Value} {d : Option Addr} {H : Hp} (h : ExD nm K x vs cls d H) : DOk d H := by
  rcases h.dict with ⟨_, _, q⟩ | ⟨dd, fs, rfl, q, _⟩
  · exact q
  · intro d e; cases e; exact ⟨fs, q⟩
theorem ExD.ex {nm : List Str} {K : PySem.W.Frag} {x : Str} {vs : List V} {cls : Value} {d : Option Addr} {H H' : Hp} (h : ExD nm K x vs cls d H) (e : Ex H H') : ExD nm K x vs cls d H' := by
  refine ⟨h.hx, h.cls, ?_⟩
  rcases h.dict with ⟨q1, q2, q⟩ | ⟨dd, fs, q1, q, q2⟩
  · exact .inl ⟨q1, q2, q.ex e⟩
  · exact .inr ⟨dd, fs, q1, e _ _ q, q2⟩
/-- what the law's own def tells of a refusal -/
def saidX (nm : List Str) (K : PySem.W.Frag) (Q : VK) : XK := fun cls d H => ∃ x vs, ExD nm K x vs cls d H ∧ ∀ p H', H p = none → Ex H H' → H' p = some (.tup (.str (exWord x) :: vs)) → Q (.ref p) H'
/-- behind a told answer-/
def ToldQ (Q : VK) (v : V) (H1 : Hp) : Prop := [V.str "told", v].length ≤ sizeLine ∧ ∀ p, H1 p = none → Q (.ref p) (upd H1 p (.tup [.str "told", v]))
theorem told_i {Q : VK} {v : V} {H1 : Hp} (h : ∀ p H', H1 p = none → Ex H1 H' → H' p = some (.tup [.str "told", v]) → Q (.ref p) H') : ToldQ Q v H1 := ⟨by show 2 ≤ sizeLine; decide, fun p hp => h p _ hp (Ex.upd hp) upd_same⟩
def TTsaid (nm : List Str) (K : PySem.W.Frag) : (XK → Hp → VK → Prop) → Hp → VK → Prop := fun tl H Q => tl (saidX nm K Q) H (ToldQ Q)
theorem bt_ValueError : bootBuiltins "ValueError" = some (.type "ValueError") := by decide +kernel
theorem bt_KeyError : bootBuiltins "KeyError" = some (.type "KeyError") := by decide +kernel
theorem bt_IndexError : bootBuiltins "IndexError" = some (.type "IndexError") := by decide +kernel
theorem bt_LookupError : bootBuiltins "LookupError" = some (.type "LookupError") := by decide +kernel
theorem bt_ZeroDivisionError : bootBuiltins "ZeroDivisionError" = some (.type "ZeroDivisionError") := by decide +kernel
end Rp
namespace Rp
open PySem PySem.Spec PyProof.Rows L2
/-! ### defs of which it is known that no repr is under way -/
abbrev Gd (X : Cx) : Prop := X.A.guards = some []
structure FnG (P : Program) (w : World) (K : PySem.W.Frag) (mg : Str → Option Value) (base : Heap) (CX : CXT) (k : Nat) (f : Addr) (fd : FuncData) (ps : List Str) (sp : Sp) : Prop where
  len : ∀ vs H Q E, sp vs H Q E → vs.length = ps.length
  run : ∀ (A : Around) (outer : List Env) (s : Shared) (H : Hp) (args : Args) (us : List Value) (vs : List V) (Q : VK) (E : XK), Room k A → A.guards = some [] → Env0 P w K mg base A outer s H → BindsTo s fd args (ps.zip us) → Vals vs us → sp vs H Q E →
    codeAny (model P w) A (.call (.ref f) args) (CR CX outer P w H s Q E) s
theorem FnG.of {P : Program} {w : World} {K : PySem.W.Frag} {mg : Str → Option Value} {base : Heap} {CX : CXT} {k : Nat} {f : Addr} {fd : FuncData} {ps : List Str} {sp : Sp} (F : FnOk P w K mg base CX k f fd ps sp) : FnG P w K mg base CX k f fd ps sp :=
  ⟨F.len, fun A outer s H args us vs Q E hr _ => F.run A outer s H args us vs Q E hr⟩
section
variable {P : Program} {w : World} {K : PySem.W.Frag} {mg : Str → Option Value} {base : Heap} {k j n : Nat} {N Vz Sz G ps ks : List Str} {sc : Scope} {x m qual : Str} {v : V} {p apos : Pos} {X : Cx} {fa c PT : Addr} {fd : FuncData} {sp : Sp} {st : Stmt}
variable {e a b o : Expr} {es : List Expr} {σ : L2.St} {H : Hp} {Q : VK} {pos : Pos} {dvs : List V} {E : XK}
theorem gd_deeper {A : Around} (h : A.guards = some []) (env : Env) : (A.deeper env).guards = some [] := h
theorem fn_wG (F : Fn K x qual st fa fd) (S : FnScope N ps (defScope st)) (ok : namesOk Vz Vz G (defScope st) = true) (len : ∀ vs H Q E, sp vs H Q E → vs.length = ps.length)
    (body : ∀ (X : Cx) (vs : List V) (H : Hp) (Q : VK) (E : XK), CxI P w K mg base k N Vz Vz G (defScope st) X → Gd X → sp vs H Q E → wB X (defBody st) { nx := fun _ H' => Q .non H', rt := Q } (start N vs) H) : FnG P w K mg base CX0 (k + 1) fa fd ps sp := by
  obtain ⟨dvs, kws, F⟩ := F.ex
  obtain ⟨oc, od, dV, kV, doc, pm, an, cdv, ct, osl, rfl, lk, hcd, _, _⟩ := F.ex
  refine ⟨len, fun A outer s H args us vs Q E hr hg e0 hb r h => LamX.run_ofS lk hcd S hr e0 hb r (len _ _ _ _ h) fun hr' => ⟨_, PSs.nox wB.pss, ?_⟩⟩
  exact body _ vs H Q E ⟨rfl, rfl, rfl, rfl, rfl, rfl, rfl, hr', rfl, .inl fun _ => rfl, PassesOwn.never, S.nd, ok, S.kind⟩ (gd_deeper hg _) h
/-- .. that makes lambdas, too -/
theorem fn_wGL (F : Fn K x qual st fa fd) (hc : ∀ oc od osl, K.lookup fa = some ⟨oc, od, .func fd, osl⟩ → fd.code = .ref c) (tb : LamX.TabB base mg c PT) (S : FnScope N ps (defScope st)) (ok : namesOk Vz Vz G (defScope st) = true) (len : ∀ vs H Q E, sp vs H Q E → vs.length = ps.length)
    (body : ∀ (X : Cx) (vs : List V) (H : Hp) (Q : VK) (E : XK), CxI P w K mg base k N Vz Vz G (defScope st) X → Gd X → Mkr base mg c PT qual X → sp vs H Q E → wB X (defBody st) { nx := fun _ H' => Q .non H', rt := Q } (start N vs) H) : FnG P w K mg base CX0 (k + 1) fa fd ps sp := by
  obtain ⟨dvs, kws, F⟩ := F.ex
  obtain ⟨oc, od, dV, kV, doc, pm, an, cdv, ct, osl, rfl, lk, hcd, _, _⟩ := F.ex
  have hcv : cdv = .ref c := hc _ _ _ lk
  subst hcv
  refine ⟨len, fun A outer s H args us vs Q E hr hg e0 hb r h => LamX.run_ofS lk hcd S hr e0 hb r (len _ _ _ _ h) fun hr' => ⟨_, PSs.nox wB.pss, ?_⟩⟩
  exact body _ vs H Q E ⟨rfl, rfl, rfl, rfl, rfl, rfl, rfl, hr', rfl, .inl fun _ => rfl, PassesOwn.never, S.nd, ok, S.kind⟩ (gd_deeper hg _) ⟨tb, rfl, rfl⟩ h
structure Dg (P : Program) (w : World) (K : PySem.W.Frag) (mg : Str → Option Value) (base : Heap) (k : Nat) (x : Str) (ps : List Str) (dvs : List V) (sp : Sp) : Prop where
  ex : ∃ f fd ds, FnG P w K mg base CX0 k f fd ps sp ∧ mg x = some (.ref f) ∧ PySem.W.keepIn K (.ref f) = true ∧ Binds K fd ps ds ∧ Vals dvs ds
theorem wE_callG (I : CxI P w K mg base k N Vz Sz G sc X) (g : Gd X) (D : Dg P w K mg base j x ps dvs sp) (hx : x ∈ G) (hj : j ≤ k) (he : starEach (e :: es) X.env = (false, eval e X.env) :: starEach es X.env) (hpl : (backTo pos (starEach es X.env)).any (·.1) = false)
    (q : wA X (e :: es) σ H fun vs H1 => sp (vs ++ dvs) H1 Q E0) : wE X (.Call (.Name x p) (e :: es) [] pos) σ H Q := by
  obtain ⟨f, fd, ds, Fk, hm, kp, hb, hd⟩ := D.ex
  obtain ⟨l, d1, _⟩ := I.glo hx
  obtain ⟨rfl, rfl, rfl, rfl, rfl, _, _, hr, _, _, _, _, _⟩ := I
  refine ⟨fun pins s J => wpAny_Call_Name_kw (ld_glob J l hm ?_ d1)⟩
  refine PySem.W.callWith_K (h₀ := X.base) J.ok.mod.kin kp (thn (q.run pos pins s J) fun us s1 ⟨vs, H1, J1, r, q1⟩ => ⟨J1.kIn, ?_⟩) he hpl
  have r2 : Vals (vs ++ dvs) (us ++ ds) := r.append hd
  have hl : (us ++ ds).length = ps.length := by rw [← r2.length]; exact Fk.len _ _ _ _ q1
  refine wpAny_call (codeAny_mono (Fk.run X.A X.stack s1 H1 ⟨us, []⟩ (us ++ ds) (vs ++ dvs) Q E0 (hr.mono hj) g J1.env0 (hb s1 us J1.kIn hl) r2 q1) fun r s' hq => ?_)
  cases r with
  | error e => exact False.elim hq
  | ok fl =>
    cases fl with
    | ret u => exact J1.after hq
    | next => exact False.elim hq
    | brk => exact False.elim hq
    | cont => exact False.elim hq
/-! ### repr of data -/
theorem nod_dp {K : PySem.W.Frag} {H : Hp} : ∀ {v : V} {d : PyData}, Dp K H v d → d.hasDict = false := by
  intro v d h
  have both : (∀ {v d}, Dp K H v d → d.hasDict = false) ∧ (∀ {vs ds}, DpAll K H vs ds → PyData.hasDictAll ds = false) := by
    constructor
    · intro v d h
      induction h using Dp.rec (motive_2 := fun vs ds _ => PyData.hasDictAll ds = false) with
      | non => rfl
      | bl => rfl
      | int => rfl
      | str => rfl
      | lst _ _ ih => simpa [PyData.hasDict] using ih
      | tup _ _ ih => simpa [PyData.hasDict] using ih
      | nil => rfl
      | cons _ _ h1 h2 => simp [PyData.hasDictAll, h1, h2]
    · intro vs ds h
      induction h using DpAll.rec (motive_1 := fun v d _ => d.hasDict = false) with
      | non => rfl
      | bl => rfl
      | int => rfl
      | str => rfl
      | lst _ _ ih => simpa [PyData.hasDict] using ih
      | tup _ _ ih => simpa [PyData.hasDict] using ih
      | nil => rfl
      | cons _ _ h1 h2 => simp [PyData.hasDictAll, h1, h2]
  exact both.1 h
theorem c_reprD {ad : Addr} {d : PyData} (g : Gd X) (hd : Dp X.K H (.ref ad) d) (hs : d.showable = true) (hu : X.A.units + (d.depth + 1) < cLine) (hz : d.shown.length ≤ sizeLine) (q : Q (.str d.shown) H) : wC X (.builtin "repr") [.ref ad] H Q := by
  refine ⟨fun pins s σ us I r => ?_⟩
  obtain ⟨u, rfl, ru⟩ := vals1 r
  obtain ⟨as, rd⟩ := Dp.reads I d _ _ hd ru
  obtain rfl : u = Value.ref ad := ru
  refine repr_of_reads' rd hs (fun z => by rw [nod_dp hd] at z; cases z) g hu (fun _ _ e => e) (fun h' u tk k => ?_) hz
  exact ⟨.str d.shown, H, I.kept (t' := tk) k, ⟨u, rfl⟩, q⟩
end
end Rp
namespace Rp
open PySem PySem.Spec PyProof.Rows L2
/-! ### the end: the law's def called at the very top, where no repr is under way -/
/-- the empty table of a code object -/
abbrev tabO : Obj := { cls := .none, data := .fields #[] }
section
variable {P : Program} {w : World} {K : PySem.W.Frag} {mg mb : Str → Option Value} {k : Nat} {fa a : Addr} {ts : List Addr} {s : Shared} {vs : List Value} {ns : List Int}
/-- the script's object -/
abbrev scrO (vs : List Value) : Obj := { cls := .type "list", data := .seq vs.toArray }
/-- what is tracked at first: the tables, and the script where the written part does not hold it -/
def firstH (K : PySem.W.Frag) (a : Addr) (ts : List Addr) (vs : List Value) (ns : List Int) : Hp := fun b =>
  if b ∈ ts then some (.tbl #[]) else if b = a ∧ K.lookup a = none then some (.frz (scrO vs) (.lst (ns.map V.int))) else none
theorem first_tab {b : Addr} (h : b ∈ ts) : firstH K a ts vs ns b = some (.tbl #[]) := if_pos h
theorem first_cases (b : Addr) : (b ∈ ts ∧ firstH K a ts vs ns b = some (.tbl #[])) ∨ (b ∉ ts ∧ b = a ∧ K.lookup a = none ∧ firstH K a ts vs ns b = some (.frz (scrO vs) (.lst (ns.map V.int)))) ∨ (b ∉ ts ∧ (b = a → K.lookup a ≠ none) ∧ firstH K a ts vs ns b = none) := by
  rcases Decidable.em (b ∈ ts) with h1 | h1
  · exact .inl ⟨h1, if_pos h1⟩
  rcases Decidable.em (b = a ∧ K.lookup a = none) with h2 | h2
  · exact .inr (.inl ⟨h1, h2.1, h2.2, (if_neg h1).trans (if_pos h2)⟩)
  · exact .inr (.inr ⟨h1, fun e n => h2 ⟨e, n⟩, (if_neg h1).trans (if_neg h2)⟩)
/-- an object that is neither a table nor the script is not tracked -/
theorem first_off (hT : ∀ b ∈ ts, s.heap.get? b = some tabO) (ha : s.heap.get? a = some (scrO vs)) {b : Addr} {o : Obj} (e : s.heap.get? b = some o) (n1 : o ≠ tabO) (n2 : o ≠ scrO vs) : firstH K a ts vs ns b = none := by
  rcases first_cases (K := K) (a := a) (ts := ts) (vs := vs) (ns := ns) b with ⟨h, _⟩ | ⟨_, h, _⟩ | ⟨_, _, h⟩
  · have z := hT b h
    rw [e] at z
    exact absurd (Option.some.inj z) n1
  · subst h
    rw [e] at ha
    exact absurd (Option.some.inj ha) n2
  · exact h
theorem law_top {cs : List (Addr × Addr)} {fd : FuncData} {x : Str} {sp : Sp} (hts : cs.map (·.2) = ts) (KX : K.In s.heap) (hns : s.heap.Ns mainGlobals mg) (hb : s.heap.Ns builtinsNs mb) (hbb : ∀ x : Str, x ≠ "__name__" → mb x = bootBuiltins x) (hlim : s.heap.NoLimit) (hg : s.gens = #[])
    (hT : ∀ b ∈ ts, s.heap.get? b = some tabO) (nT : ∀ b ∈ ts, K.lookup b = none) (C : ∀ p ∈ cs, PySem.W.CodeHd s.heap p.1 p.2)
    (hbm : ∃ (bm : Addr) (ob : Obj), mg "__builtins__" = some (.ref bm) ∧ bm ≠ builtinsNs ∧ s.heap.get? bm = some ob ∧ ob.cls = .type "module" ∧ ob.dict = some builtinsNs ∧ ob.data = .plain)
    (ha : s.heap.get? a = some (scrO vs)) (hi : IntsAre vs ns) (hl : ns.length ≤ sizeLine) (hr : Room k callerA)
    (F : ∀ base : Heap, K.In base → base.Ns mainGlobals mg → (∀ p ∈ cs, LamX.TabB base mg p.1 p.2) → FnG P w K mg base CX0 k fa fd [x] sp) (hbind : ∀ (s : Shared) (u : Value), BindsTo s fd ⟨[u], []⟩ [(x, u)])
    (hsp : ∀ H : Hp, (∀ b ∈ ts, H b = some (.tbl #[])) → SqL K H a (ns.map V.int) → sp [.ref a] H (fun v _ => v = .bl true) E0) :
    codeAny (model P w) callerA (.call (.ref fa) ⟨[.ref a], []⟩) (fun r s' => r = .ok (.ret (.bool true)) ∧ OldK s.heap s'.heap ∧ s'.os = s.os ∧ AllBare s'.gens) s := by
  have rv := vals_ints hi
  have len : (ns.map V.int).length ≤ sizeLine := by rw [List.length_map]; exact hl
  let H := firstH K a ts vs ns
  have off : ∀ {b : Addr} {o : Obj}, s.heap.get? b = some o → o ≠ tabO → o ≠ scrO vs → H b = none := fun e n1 n2 => first_off hT ha e n1 n2
  have shown : ∀ {b : Addr} {o : Obj}, s.heap.get? b = some o → o ≠ tabO → o ≠ scrO vs → (hidT s.heap H).get? b = some o := fun e n1 n2 => hidT_get e (off e n1 n2)
  have ne_d : ∀ {o : Obj} {es : Array DictEntry} {ep : Nat}, o.data = .dict es ep → o ≠ tabO ∧ o ≠ scrO vs := fun d => ⟨(fun z => by rw [z] at d; cases d), (fun z => by rw [z] at d; cases d)⟩
  have ne_p : ∀ {o : Obj}, o.data = .plain → o ≠ tabO ∧ o ≠ scrO vs := fun d => ⟨(fun z => by rw [z] at d; cases d), (fun z => by rw [z] at d; cases d)⟩
  have ns_ : ∀ {b : Addr} {m : Str → Option Value}, s.heap.Ns b m → (hidT s.heap H).Ns b m := fun ⟨o, es, ep, e, d, r⟩ => ⟨o, es, ep, shown e (ne_d d).1 (ne_d d).2, d, r⟩
  have script : SqL K H a (ns.map V.int) := by
    cases hk : K.lookup a with
    | none =>
      refine .inl (.inr ⟨scrO vs, ?_⟩)
      rcases first_cases (K := K) (a := a) (ts := ts) (vs := vs) (ns := ns) a with ⟨h, _⟩ | ⟨_, _, _, h⟩ | ⟨_, h, _⟩
      · have z := hT a h
        rw [ha] at z
        cases z
      · exact h
      · exact absurd hk (h rfl)
    | some o =>
      have e := KX a o hk
      rw [ha] at e
      cases e
      exact .inr ⟨_, vs.toArray, _, hk, rfl, rfl, rfl, by rw [List.size_toArray, ← Paired.length rv]; exact len, by simpa using rv⟩
  have held : HOk P w H s.heap := fun b o e => by
    rcases first_cases (K := K) (a := a) (ts := ts) (vs := vs) (ns := ns) b with ⟨h, q⟩ | ⟨_, h, _, q⟩ | ⟨_, _, q⟩
    · rw [show H b = _ from q] at e; cases e; exact hT b h
    · rw [show H b = _ from q] at e; cases e; subst h; exact ⟨ha, len, vs, _, rv, ha⟩
    · rw [show H b = _ from q] at e; cases e
  have inK : K.In (hidT s.heap H) := fun b o e => hidT_get (KX b o e) (by
    rcases first_cases (K := K) (a := a) (ts := ts) (vs := vs) (ns := ns) b with ⟨h, _⟩ | ⟨_, h, h2, _⟩ | ⟨_, _, q⟩
    · rw [nT b h] at e; cases e
    · subst h; rw [h2] at e; cases e
    · exact q)
  have tabs : ∀ p ∈ cs, LamX.TabB (hidT s.heap H) mg p.1 p.2 := fun p hp => by
    have at_ : s.heap.get? p.2 = some tabO := hT p.2 (by rw [← hts]; exact List.mem_map.mpr ⟨p, hp, rfl⟩)
    refine ⟨?_, ?_, fun z => ?_⟩
    · obtain ⟨o, us, file, tf, flags, tg, inF, text, tt, e1, r1, r2, r3, rest⟩ := C p hp
      refine ⟨o, us, file, tf, flags, tg, inF, text, tt, shown e1 (fun z => ?_) (fun z => ?_), r1, r2, r3, rest⟩
      · rw [z] at r2; cases r2; simp at r3
      · rw [z] at r2; cases r2
    · obtain ⟨bm, ob, b1, b2, b3, b4, b5, b6⟩ := hbm
      refine ⟨bm, ob, b1, b2, fun q => ?_, fun q => ?_, shown b3 (ne_p b6).1 (ne_p b6).2, b4, b5, b6⟩
      · obtain ⟨o, es, ep, e, hd, _⟩ := hns
        rw [q, e] at b3; cases b3; rw [hd] at b6; cases b6
      · rw [q, at_] at b3; cases b3; cases b6
    · obtain ⟨o, es, ep, e, hd, _⟩ := hns
      rw [z, at_] at e; cases e; cases hd
  have md : L2.Mod K mg (hidT s.heap H) := ⟨inK, ns_ hns, ⟨mb, ns_ hb, hbb⟩, let ⟨mc, h1, h2⟩ := hlim; ⟨mc, ns_ h1, h2⟩⟩
  have nil : ∀ {b : Addr} {R : Prop}, b ∈ ([] : List Addr) → R := fun h => absurd h (by simp)
  have e0 : Env0 P w K mg (hidT s.heap H) callerA [] s H := ⟨rfl, md, fun b o e => of_hidT e, Nat.le_of_eq (hidT_size _ _), trivial, fun b h => nil h, held, .of_eq hg⟩
  have go := (F _ inK (ns_ hns) tabs).run callerA [] s H ⟨[.ref a], []⟩ [.ref a] [.ref a] (fun v _ => v = .bl true) E0 hr rfl e0 (hbind s (.ref a)) (.cons rfl .nil) (hsp H (fun b hb => first_tab hb) script)
  refine codeAny_mono go fun r s' z => ?_
  obtain ⟨u, rfl, z⟩ : ∃ u, r = .ok (.ret u) ∧ CE [] P w H s (fun v _ => v = .bl true) u s' := by
    cases r with
    | error e => exact False.elim z
    | ok fl =>
      cases fl with
      | ret u => exact ⟨u, rfl, z⟩
      | next => exact False.elim z
      | brk => exact False.elim z
      | cont => exact False.elim z
  obtain ⟨v, H', os, bare, un, held', r', ev⟩ := z
  have ev' : v = .bl true := ev
  subst ev'
  obtain rfl : u = Value.bool true := r'
  have grown : ∀ b ∈ ts, ∃ more : Array Value, s'.heap.get? b = some { cls := .none, data := .fields more } := fun b hb => by
    obtain ⟨more, q⟩ := un.tbls b #[] (first_tab hb)
    exact ⟨_, held' b _ q⟩
  have kept : ∀ b o, b ∉ ts → s.heap.get? b = some o → s'.heap.get? b = some o := fun b o hb e => by
    rcases first_cases (K := K) (a := a) (ts := ts) (vs := vs) (ns := ns) b with ⟨h, _⟩ | ⟨_, h, _, q⟩ | ⟨_, _, q⟩
    · exact absurd h hb
    · subst h
      obtain ⟨e2, _⟩ := held' b _ (un.frzs b _ _ q)
      rw [ha] at e
      cases e
      exact e2
    · exact un.keep b o e q (fun h => nil h) (by simp)
  refine ⟨rfl, ⟨fun b o e => ?_, fun b o e => ?_⟩, os, bare⟩
  · rcases Decidable.em (b ∈ ts) with hb' | hb'
    · obtain ⟨more, hm⟩ := grown b hb'
      rw [← hts] at hb'
      obtain ⟨p, hp, rfl⟩ := List.mem_map.mp hb'
      have z := hT p.2 (by rw [← hts]; exact hb')
      rw [z] at e
      cases e
      exact .inr (.inl ⟨((C p hp).tab z).isCodeTable, rfl, #[], more, rfl, by rw [Array.empty_append]; exact hm⟩)
    · exact .inl (kept b o hb' e)
  · rcases Decidable.em (b ∈ ts) with hb' | hb'
    · obtain ⟨more, hm⟩ := grown b hb'
      exact ⟨_, hm⟩
    · exact ⟨o, kept b o hb' e⟩
end
/-- the end for a head with facts -/
theorem walk_ofG {l : PySem.W.OpenLaw} {n k : Nat} {q : Program} {loose : List Str} {XP : (Str → Option Value) → Heap → Prop} {YP : World → Heap → Prop} {d : DefRec} {x : Str} (hn : l.most = some n) (hn2 : n ≤ sizeLine) (hdf : d.params.defaults = []) (hr : Room k callerA)
    (F : ∀ (w : World) (mg : Str → Option Value) (fa : Addr) (h : Heap), YP w h → h.Ns mainGlobals mg → mg d.name = some (.ref fa) → ∃ (K : PySem.W.Frag) (fd : FuncData) (cs : List (Addr × Addr)) (sp : Sp), K.In h ∧ (∀ p ∈ cs, h.get? p.2 = some tabO) ∧ (∀ p ∈ cs, K.lookup p.2 = none) ∧ (∀ p ∈ cs, PySem.W.CodeHd h p.1 p.2) ∧
      (∀ (s : Shared) (u : Value), BindsTo s fd ⟨[u], []⟩ [(x, u)]) ∧ (∀ (H : Hp) (a : Addr) (ns : List Int), ns.length ≤ n → (∀ p ∈ cs, H p.2 = some (.tbl #[])) → SqL K H a (ns.map V.int) → sp [.ref a] H (fun v _ => v = .bl true) E0) ∧
      ∀ base : Heap, K.In base → base.Ns mainGlobals mg → (∀ p ∈ cs, LamX.TabB base mg p.1 p.2) → FnG l.prog w K mg base CX0 k fa fd [x] sp) :
    PySem.W.WalkO q loose XP YP l.row.toRowW d [] (fun f vs => PySem.call f vs) := by
  refine Att.attach_callB hn hdf fun w s₀ s₁ mg mb fa o pm cd doc a vs ns G Y ho hd hcd hmg hobj hints hlen hbits hg => ?_
  obtain ⟨K, fd, cs, sp, KX, hT, nT, hC, hb, hsp, hF⟩ := F w mg fa _ Y G.T.g hmg
  have un : ∀ {R : Addr → Prop}, (∀ p ∈ cs, R p.2) → ∀ b ∈ cs.map (·.2), R b := fun h b hb => by
    obtain ⟨p, hp, rfl⟩ := List.mem_map.mp hb
    exact h p hp
  exact law_top (cs := cs) rfl KX G.T.g G.T.b G.T.builtins G.T.nolimit hg (un hT) (un nT) hC G.T.bmain hobj hints (Nat.le_trans hlen hn2) hr hF hb fun H hH hS => hsp H a ns hlen (fun p hp => hH p.2 (List.mem_map.mpr ⟨p, hp, rfl⟩)) hS
end Rp
namespace Rp
open PySem PySem.Spec PyProof.Rows L2
/-! ### what stays: all but one object and the tables of code objects -/
def Kp (b : Addr) (H H' : Hp) : Prop := ∀ a o, a ≠ b → (∀ ps, o ≠ .tbl ps) → H a = some o → H' a = some o
theorem Kp.refl {b : Addr} (H : Hp) : Kp b H H := fun _ _ _ _ h => h
theorem Kp.trans {b : Addr} {H H1 H2 : Hp} (x : Kp b H H1) (y : Kp b H1 H2) : Kp b H H2 := fun a o n t h => y a o n t (x a o n t h)
theorem Ex.kp {b : Addr} {H H' : Hp} (e : Ex H H') : Kp b H H' := fun a o _ _ h => e a o h
theorem Exb.kp {b : Addr} {H H' : Hp} (e : Exb b H H') : Kp b H H' := fun a o n _ h => e a o n h
theorem kp_N {b : Addr} {H H' : Hp} (e : LamX.ExtN H H') : Kp b H H' := fun a o _ t h => e a o h t
theorem Kp.lst {b a : Addr} {H H' : Hp} {xs : List V} (e : Kp b H H') (n : a ≠ b) (h : H a = some (.lst xs)) : H' a = some (.lst xs) := e a _ n (fun _ z => by cases z) h
theorem Kp.tup {b a : Addr} {H H' : Hp} {xs : List V} (e : Kp b H H') (n : a ≠ b) (h : H a = some (.tup xs)) : H' a = some (.tup xs) := e a _ n (fun _ z => by cases z) h
theorem Kp.ins {b a C dx : Addr} {H H' : Hp} {fs : List (Str × V)} (e : Kp b H H') (n : a ≠ b) (h : H a = some (.ins C dx fs)) : H' a = some (.ins C dx fs) := e a _ n (fun _ z => by cases z) h
theorem extN_lst {a : Addr} {H H' : Hp} {xs : List V} (e : LamX.ExtN H H') (h : H a = some (.lst xs)) : H' a = some (.lst xs) := e a _ h fun _ z => by cases z
theorem extN_tup {a : Addr} {H H' : Hp} {xs : List V} (e : LamX.ExtN H H') (h : H a = some (.tup xs)) : H' a = some (.tup xs) := e a _ h fun _ z => by cases z
theorem extN_ins {a C dx : Addr} {H H' : Hp} {fs : List (Str × V)} (e : LamX.ExtN H H') (h : H a = some (.ins C dx fs)) : H' a = some (.ins C dx fs) := e a _ h fun _ z => by cases z
theorem Kp.seq {K : PySem.W.Frag} {b a : Addr} {H H' : Hp} {xs ys : List V} (e : Kp b H H') (hb : H b = some (.lst ys)) (h : SqL K H a xs) (n : a ≠ b) : SqL K H' a xs := by
  rcases h with (h | ⟨o, h⟩) | h
  · exact .inl (.inl (e a _ n (fun _ z => by cases z) h))
  · exact .inl (.inr ⟨o, e a _ n (fun _ z => by cases z) h⟩)
  · exact .inr h
theorem tup_neb {a b : Addr} {H : Hp} {xs ys : List V} (ha : H a = some (.tup xs)) (hb : H b = some (.lst ys)) : a ≠ b := fun z => by rw [z, hb] at ha; cases ha
theorem ins_neb {a b C dx : Addr} {H : Hp} {fs : List (Str × V)} {ys : List V} (ha : H a = some (.ins C dx fs)) (hb : H b = some (.lst ys)) : a ≠ b := fun z => by rw [z, hb] at ha; cases ha
/-- the tables, while a list is written -/
theorem tabs_exb {T : List (Addr × Str)} {b : Addr} {H H' : Hp} {xs : List V} (t : LamX.Tabs T H) (hb : H b = some (.lst xs)) (e : Exb b H H') : LamX.Tabs T H' := fun p hp => by
  obtain ⟨ps, h1, h2, h3⟩ := t p hp
  refine ⟨ps, e _ _ (fun z => by rw [z, hb] at h1; cases h1) h1, h2, fun pos cv hc => ?_⟩
  obtain ⟨c, e1, e2⟩ := h3 pos cv hc
  refine ⟨c, e1, e _ _ (fun z => ?_) e2⟩
  rw [z, hb] at e2
  unfold LamX.CodeO at e2
  cases e2
section
variable {P : Program} {w : World} {K : PySem.W.Frag} {mg : Str → Option Value} {base : Heap} {k j n : Nat} {N Vz Sz G ps ks : List Str} {sc : Scope} {x m : Str} {v : V} {p apos : Pos} {X : Cx} {sp : Sp}
variable {e a b o : Expr} {es : List Expr} {kws : List Keyword} {σ : L2.St} {H : Hp} {Q : VK} {pos : Pos} {dvs : List V} {E : XK}
/-- f(k = v, ..) -/
theorem wE_callKX {gV : List V → List V → List V} (I : CxI P w K mg base k N Vz Sz G sc X) (T : Takes X (wOf E)) (D : Dk P w K mg base j x 0 ks gV sp) (hx : x ∈ G) (hj : j ≤ k)
    (hall : (backToKw pos (keywordEach kws X.env)).all (·.1.isSome) = true) (hks : (backToKw pos (keywordEach kws X.env)).filterMap (·.1) = ks) (hpl : ((backTo pos (starEach [] X.env)).any (·.1) || (backToKw pos (keywordEach kws X.env)).any (·.1.isNone)) = false)
    (q : wK X kws σ H fun zs H2 => zs.length = ks.length ∧ sp (gV [] zs) H2 Q E) : wE X (.Call (.Name x p) [] kws pos) σ H Q := by
  obtain ⟨f, fd, ps, g, Fk, hm, kp, hb⟩ := D.ex
  obtain ⟨l, d1, _⟩ := I.glo hx
  obtain ⟨rfl, rfl, rfl, rfl, rfl, _, _, hr, _, _, _, _, _⟩ := I
  refine ⟨fun pins s J => wpAny_Call_Name_kw (ld_glob J l hm ?_ d1)⟩
  refine PySem.W.callWith_KW0 (first := []) (h₀ := X.base) J.ok.mod.kin kp hall (thn (q.run pos pins s J) fun ws s2 ⟨zs, H2, J2, rz, l2, q2⟩ => ⟨J2.kIn, ?_⟩) hpl
  rw [hks]
  exact run_fnN (us := []) (vs := []) Fk (hr.mono hj) hb (passes_call T fun _ _ _ _ h => h) J2 .nil rz rfl l2 q2
/-- xs * n -/
theorem o_rep {l : Addr} {n : Int} {xs : List V} (h : H l = some (.lst xs)) (h1 : 0 ≤ n) (h2 : n ≤ 1000) (hl : xs.length ≤ 1000) (q : ∀ p H2, H p = none → Ex H H2 → H2 p = some (.lst (List.replicate n.toNat xs).flatten) → Q (.ref p) H2) : wO X (binaryOp .Mult) (.ref l) (.int n) H Q := by
  refine wO.of op_rep ⟨l, n, xs, rfl, rfl, h, by omega, by omega, ?_, fun p hp => q p _ hp (Ex.upd hp) upd_same⟩
  have : xs.length * n.toNat ≤ 1000 * 1000 := Nat.mul_le_mul hl (by omega)
  rw [sizeLine_eq]
  omega
/-- != of two things with the same data -/
theorem o_neD0 {a b : Addr} {d : PyData} (C : CxI P w K mg base k N Vz Sz G sc X) (h1 : Dp K H (.ref a) d) (h2 : Dp K H (.ref b) d) (hs : SeqAt.shaped d = true) (he : PyData.eqv d d = true) (q : Q (.bl false) H) : wO X (compareOp .NotEq) (.ref a) (.ref b) H Q := by
  exact wO.of (op_neD C.room.units) ⟨d, d, by rw [C.eK]; exact h1, by rw [C.eK]; exact h2, hs, hs, by rw [he]; exact q⟩
end
end Rp
namespace Rp
open PySem PySem.Spec PyProof.Rows L2
theorem extN_mut {H H1 H2 : Hp} {y : Addr} (a : LamX.ExtN H H1) (h : H y = none) (b : Exb y H1 H2) : LamX.ExtN H H2 := fun c o e t => b c o (ne_of_none e h) (a c o e t)
theorem sq_extN {K : PySem.W.Frag} {a : Addr} {H H' : Hp} {xs : List V} (h : SqL K H a xs) (e : LamX.ExtN H H') : SqL K H' a xs := by
  rcases h with (h | ⟨o, h⟩) | h
  · exact .inl (.inl (e a _ h fun _ z => by cases z))
  · exact .inl (.inr ⟨o, e a _ h fun _ z => by cases z⟩)
  · exact .inr h
theorem Ex.n {H H' : Hp} (e : Ex H H') : LamX.ExtN H H' := LamX.ExtN.of e
section
variable {P : Program} {w : World} {K : PySem.W.Frag} {mg : Str → Option Value} {base : Heap} {k j n : Nat} {N Vz Sz G ps ks : List Str} {sc : Scope} {x m : Str} {v : V} {p apos : Pos} {X : Cx} {sp : Sp}
variable {e a b o : Expr} {es : List Expr} {σ : L2.St} {H : Hp} {Q : VK} {pos : Pos} {D : Ends} {sts : List Stmt} {tg : Expr} {p1 p2 : Pos}
theorem c_reprC {ad : Addr} {d : PyData} (C : CxI P w K mg base k N Vz Sz G sc X) (g : Gd X) (hd : Dp K H (.ref ad) d) (hs : d.showable = true) (hdp : d.depth ≤ 60) (hz : d.shown.length ≤ sizeLine) (q : Q (.str d.shown) H) : wC X (.builtin "repr") [.ref ad] H Q :=
  c_reprD g (by rw [C.eK]; exact hd) hs (by have := C.room.un; omega) hz q
/-- for over range(a, b) -/
theorem wS_range2 (C : CxI P w K mg base k N Vz Sz G sc X) (hm : mg "range" = none) (hx : ("range" : Str) ∈ G) (hs : starEach [a, b] X.env = [(false, eval a X.env), (false, eval b X.env)]) (hs2 : starEach [b] X.env = [(false, eval b X.env)])
    (q : wA X [a, b] σ H fun vs H1 => ∃ (lo hi : Int) (n : Nat), vs = [.int lo, .int hi] ∧ hi = lo + n ∧ -1000000 ≤ lo ∧ lo < 1000000 ∧ n < 1000000 ∧ ∃ Pv : Nat → L2.St → Hp → Prop, Pv 0 σ H1 ∧ (∀ i σ H, i < n → Pv i σ H → wG X tg (.int (lo + (i : Nat))) σ H fun σ2 H2 => wB X sts { D with nx := Pv (i + 1), ct := Pv (i + 1), bk := D.nx } σ2 H2) ∧ ∀ σ H, Pv n σ H → D.nx σ H) :
    wS X (.For tg (.Call (.Name "range" p1) [a, b] [] p2) sts [] pos) D σ H := by
  obtain ⟨l, _, _⟩ := C.glo hx
  refine wS.of (ps_for C.po C.calm (pi_range2 l (by rw [C.em]; exact hm) wA.pa hs hs2) wG.pg wB.pss (fun _ => rfl)) ?_
  refine ⟨fun pos pins s I => thn (q.run pos pins s I) ?_⟩
  rintro u s1 ⟨vs, H1, I1, r1, lo, hi, n, rfl, rfl, l1, l2, l3, Pv, h0, hs, hd⟩
  refine ⟨_, H1, I1, r1, lo, lo + n, rfl, ⟨by omega, by omega, by omega, by omega⟩, ?_⟩
  rw [show (lo + (n : Int) - lo).toNat = n by omega]
  exact for_range (lo := lo) (n := n) Pv h0 hs hd
end
end Rp
namespace Rp
open PySem PySem.Spec PyProof.Rows L2
section
variable {P : Program} {w : World} {K : PySem.W.Frag} {mg : Str → Option Value} {base : Heap} {k j n : Nat} {N Vz Sz G ps ks : List Str} {sc : Scope} {x m : Str} {v : V} {p apos : Pos} {X : Cx} {C : Addr} {sp : Sp}
variable {e a b o : Expr} {es : List Expr} {kws : List Keyword} {σ : L2.St} {H : Hp} {Q : VK} {pos : Pos} {E : XK}
/-- o.m(k = v, ..): keywords alone, of a def that may raise -/
structure Mmx (P : Program) (w : World) (K : PySem.W.Frag) (mg : Str → Option Value) (base : Heap) (k : Nat) (C : Addr) (m : Str) (ks : List Str) (gV : List V → List V → List V) (sp : Sp) : Prop where
  ex : ∃ f fd ps g, Meth K C m f ∧ FnOk P w K mg base (L2.CX P w) k f fd ps sp ∧ KBn K fd ps 1 ks g gV
theorem wE_methKX {pl : Sem Bool} {gV : List V → List V → List V} (I : CxI P w K mg base k N Vz Sz G sc X) (T : Takes X (wOf E)) (c : Cls K C) (M : Mmx P w K mg base j C m ks gV sp) (hj : j ≤ k)
    (hall : (backToKw pos (keywordEach kws X.env)).all (·.1.isSome) = true) (hks : (backToKw pos (keywordEach kws X.env)).filterMap (·.1) = ks) (hpl : ((backTo pos (starEach [] X.env)).any (·.1) || (backToKw pos (keywordEach kws X.env)).any (·.1.isNone)) = false)
    (ht : eval (.Call (.Attribute o m apos) [] kws pos) X.env = (do
      let ov ← eval o X.env
      standAt apos.atName
      let (f, first) ← holding [ov] (getMethod ov m pl)
      callWith pos f first (backTo pos (starEach [] X.env)) (backToKw pos (keywordEach kws X.env))))
    (q : wE X o σ H fun y H1 => MetQ C m y H1 (wK X kws σ H1 fun zs H2 => zs.length = ks.length ∧ sp (gV [y] zs) H2 Q E)) : wE X (.Call (.Attribute o m apos) [] kws pos) σ H Q := by
  obtain ⟨f, fd, ps, g, hm, Fk, hb⟩ := M.ex
  obtain ⟨rfl, rfl, rfl, rfl, rfl, _, _, hr, _, _, _, _, _⟩ := I
  refine ⟨fun pins s I => ?_⟩
  refine PySem.W.methodCall_KW (pl := pl) (thn (q.run pins s I) fun u s1 ⟨y, H1, I1, rx, a, dx, fs, ex, ea, l, q1⟩ => ?_) ht
  subst ex
  obtain rfl : u = Value.ref a := rx
  refine getmeth_ok I1 ea c hm l ?_
  refine PySem.W.callWith_KW0 (first := [.ref a]) (h₀ := X.base) I.ok.mod.kin hm.kp hall (thn (q1.run pos pins s1 I1) fun ws s2 ⟨zs, H2, I2, rz, l2, q2⟩ => ⟨I2.kIn, ?_⟩) hpl
  rw [hks]
  exact run_fnN (us := [.ref a]) (vs := [.ref a]) Fk (hr.mono hj) hb (passes_call T fun _ _ _ _ h => h) I2 (.cons rfl .nil) rz rfl l2 q2
end
theorem extN_kp {H H1 H2 H3 : Hp} {y : Addr} (a : LamX.ExtN H H1) (n : H1 y = none) (e : LamX.ExtN H1 H2) (k : Kp y H2 H3) : LamX.ExtN H H3 := fun c o h t => k c o (ne_of_none (a c o h t) n) t (e c o (a c o h t) t)
theorem o_neS0 {X : Cx} {x : Str} {H : Hp} {Q : VK} (q : Q (.bl false) H) : wO X (compareOp .NotEq) (.str x) (.str x) H Q := o_neS (by
  rw [show decide (x ≠ x) = false by simp]
  exact q)
theorem metq_i {C a dx : Addr} {m : Str} {H : Hp} {fs : List (Str × V)} {R : Prop} (h : H a = some (.ins C dx fs)) (l : fs.lookup m = none) (q : R) : MetQ C m (.ref a) H R := ⟨a, dx, fs, rfl, h, l, q⟩
theorem swapped0 {x y : Str} {px py pt pt2 : Pos} {kt k2} {a b : Expr} {env : Env} (hx : env.kindOf x = some .cell)
    (h1 : ([a, b].any fun | .Starred .. => true | _ => false) = false) : swappedStores [.Tuple [.Name x px, .Name y py] kt pt] (.Tuple [a, b] k2 pt2) env = pure none := by
  unfold swappedStores
  simp only [List.length_cons, List.length_nil]
  by_cases hb : env.blockKind = .function
  · simp [hb, h1]
    intro _ _ hn
    exfalso
    simp only [List.filterMap_cons, List.filterMap_nil, hx] at hn
    rw [if_neg (by rintro ⟨z, _⟩; cases z)] at hn
    split at hn
    · by_cases hy : env.kindOf y = some NameKind.local ∧ py.line = (Expr.Name x px).pos.line
      · rw [if_pos hy] at hn
        cases hn
      · rw [if_neg hy] at hn
        cases hn
    · rename_i z
      cases z
  · simp [hb]
section
variable {P : Program} {w : World} {K : PySem.W.Frag} {mg : Str → Option Value} {base : Heap} {k : Nat} {N Vz Sz G : List Str} {sc : Scope} {x y : Str} {X : Cx} {a b : Expr} {σ : L2.St} {H : Hp} {pos : Pos} {D : Ends}
/-- x, y = a, b, the first a cell -/
theorem wS_par0 {px py pt pt2 : Pos} {kt k2} (C : CxI P w K mg base k N Vz Sz G sc X) (hx : (sc.names.lookup x == some .cell) = true) (h1 : ([a, b].any fun | .Starred .. => true | _ => false) = false)
    (hs : swapsWithSole [.Tuple [.Name x px, .Name y py] kt pt] (.Tuple [a, b] k2 pt2) pos.line X.env = pure false) (h2 : (assignEach [.Tuple [.Name x px, .Name y py] kt pt] X.env).map (·.2) = [assign (.Tuple [.Name x px, .Name y py] kt pt) X.env])
    (q : wE X (.Tuple [a, b] k2 pt2) σ H fun v H1 => wG X (.Tuple [.Name x px, .Name y py] kt pt) v σ H1 D.nx) : wS X (.Assign [.Tuple [.Name x px, .Name y py] kt pt] (.Tuple [a, b] k2 pt2) pos) D σ H :=
  wS_asg hs (swapped0 (by show X.env.scope.names.lookup x = _; rw [C.es]; exact eq_of_beq hx) h1) h2 q
end
end Rp
namespace Rp
open PySem PySem.Spec PyProof.Rows L2
section
variable {K : PySem.W.Frag} {x qual : Str} {params : Arguments} {body : List Stmt} {scope : Scope} {kws : List (Str × V)} {f : Addr} {fd : FuncData} {ps : List Str}
/-- f(e, .., k = v, ..) of a def without defaults -/
theorem kbindsZ (F : FunD K x qual params body scope [] kws f fd) (n : Nat) (ks : List Str) (g : {α : Type} → List α → List α → List α)
    (hrel : ∀ {vs zs : List V} {us ws : List Value}, Vals vs us → Vals zs ws → Vals (g vs zs) (g us ws))
    (h : ∀ (kV doc pm : Value) (an : Option Addr) (cdv ct : Value) (us ws : List Value), us.length = n → ws.length = ks.length →
      bindArgs (PySem.W.fnOf x qual params body scope .none kV doc pm an cdv ct) ⟨us, ks.zip ws⟩ = pure (ps.zip (g us ws))) :
    KBn K fd ps n ks (fun us ws => g us ws) (fun vs zs => g vs zs) := by
  obtain ⟨oc, od, dV, kV, doc, pm, an, cdv, ct, osl, rfl, lk, hcd, hD, hK⟩ := F.ex
  rcases hD with ⟨_, rfl⟩ | ⟨e, _⟩
  · exact ⟨fun s us ws X l1 l2 => .of_eq (h kV doc pm an cdv ct us ws l1 l2), fun r1 r2 => hrel r1 r2⟩
  · exact absurd rfl e
end
end Rp
namespace Rp
open PySem PySem.Spec PyProof.Rows L2
/-! ### data, dicts among them: read, and shown -/
def kP : Key → PyData
  | .inl i => .int i
  | .inr x => .str x
mutual
inductive Dq (K : PySem.W.Frag) (H : Hp) : V → PyData → Prop
  | non : Dq K H .non .none
  | bl (b : Bool) : Dq K H (.bl b) (.bool b)
  | int (i : Int) : Dq K H (.int i) (.int i)
  | str (x : Str) : Dq K H (.str x) (.str x)
  | lst {a : Addr} {xs : List V} {ds : List PyData} : SqL K H a xs → DqAll K H xs ds → Dq K H (.ref a) (.list ds)
  | tup {a : Addr} {xs : List V} {ds : List PyData} : SqT K H a xs → DqAll K H xs ds → Dq K H (.ref a) (.tuple ds)
  | dct {a : Addr} {kvs : List (Key × V)} {ds : List PyData} : H a = some (.dK kvs) → DqAll K H (kvs.map (·.2)) ds → Dq K H (.ref a) (.dict ((kvs.map fun p => kP p.1).zip ds))
inductive DqAll (K : PySem.W.Frag) (H : Hp) : List V → List PyData → Prop
  | nil : DqAll K H [] []
  | cons {v : V} {vs : List V} {d : PyData} {ds : List PyData} : Dq K H v d → DqAll K H vs ds → DqAll K H (v :: vs) (d :: ds)
end
mutual
def noL : PyData → Bool
  | .none => true
  | .bool _ => true
  | .int _ => true
  | .str _ => true
  | .list _ => false
  | .tuple xs => noLAll xs
  | .dict kvs => noLKv kvs
def noLAll : List PyData → Bool
  | [] => true
  | x :: xs => noL x && noLAll xs
def noLKv : List (PyData × PyData) → Bool
  | [] => true
  | (k, v) :: r => noL k && noL v && noLKv r
end
theorem DqAll.len {K : PySem.W.Frag} {H : Hp} : ∀ {vs : List V} {ds : List PyData}, DqAll K H vs ds → vs.length = ds.length
  | _, _, .nil => rfl
  | _, _, .cons _ t => congrArg (· + 1) t.len
theorem noL_zip : ∀ {ks ds : List PyData}, ks.length = ds.length → noLKv (ks.zip ds) = true → noLAll ds = true
  | [], [], _, _ => rfl
  | k :: ks, d :: ds, h, e => by
    rw [List.zip_cons_cons, noLKv, Bool.and_eq_true, Bool.and_eq_true] at e
    rw [noLAll, e.1.2, noL_zip (Nat.succ.inj h) e.2]
    rfl
theorem kp_read {h : Heap} {prog : Program} {w : World} : ∀ {es : List DictEntry} {vs : List (Key × Value)}, Pairs (mixKind prog w) es vs → ReadsAll h (es.map (·.key)) (vs.map fun p => kP p.1) []
  | _, _, .nil => .nil
  | _, _, .cons e e2 t => by
    have ih := kp_read (h := h) t
    rcases keyIs_shape e with ⟨i, t, hk, hv⟩ | ⟨x, t, hk, hv⟩
    · rw [List.map_cons, List.map_cons, hk, hv]
      exact ReadsAll.cons (as := []) (.int i t) ih
    · rw [List.map_cons, List.map_cons, hk, hv]
      exact ReadsAll.cons (as := []) (.str x t) ih
theorem kp_val {prog : Program} {w : World} : ∀ {es : List DictEntry} {vs : List (Key × Value)}, Pairs (mixKind prog w) es vs → es.map (·.val) = vs.map (·.2)
  | _, _, .nil => rfl
  | _, _, .cons e e2 t => by rw [List.map_cons, List.map_cons, e2, kp_val t]
theorem kv_fst : ∀ {kvs : List (Key × V)} {vs : List (Key × Value)}, KV kvs vs → (kvs.map fun p => kP p.1) = vs.map fun p => kP p.1
  | _, _, .nil => rfl
  | _, _, .cons e t => by rw [List.map_cons, List.map_cons, e.1, kv_fst t]
theorem kv_vals : ∀ {kvs : List (Key × V)} {vs : List (Key × Value)}, KV kvs vs → Vals (kvs.map (·.2)) (vs.map (·.2))
  | _, _, .nil => .nil
  | _, _, .cons e t => .cons e.2 (kv_vals t)
section
variable {X : Cx} {pins : List (Addr × Obj)} {σ : L2.St} {H : Hp} {s : Shared}
theorem Dq.reads (I : Inv X pins σ H s) {v : V} {d : PyData} (h : Dq X.K H v d) : ∀ u, RelV v u → ∃ as, Reads s.heap u d as ∧ (noL d = true → sysModules ∉ as) := by
  induction h using Dq.rec (motive_2 := fun vs ds _ => ∀ us, Vals vs us → ∃ as, ReadsAll s.heap us ds as ∧ (noLAll ds = true → sysModules ∉ as)) with
  | non => intro u r; cases r; exact ⟨_, Reads.none, fun _ h => nomatch h⟩
  | bl b => intro u r; cases r; exact ⟨_, Reads.bool b, fun _ h => nomatch h⟩
  | int i => intro u r; obtain ⟨t, rfl⟩ := r; exact ⟨_, Reads.int i t, fun _ h => nomatch h⟩
  | str x => intro u r; obtain ⟨t, rfl⟩ := r; exact ⟨_, Reads.str x t, fun _ h => nomatch h⟩
  | lst hs ha ih =>
    intro u r
    cases r
    obtain ⟨its, rv, ⟨o, n, ho, hc, _, hd⟩, _⟩ := I.list hs
    obtain ⟨as, hr, _⟩ := ih its rv
    exact ⟨_, Reads.list ho hc hd hr, fun z => nomatch z⟩
  | tup hs ha ih =>
    intro u r
    cases r
    obtain ⟨its, rv, ⟨o, ho, hc, n, hd⟩, _⟩ := I.tuple hs
    obtain ⟨as, hr, hn⟩ := ih its rv
    exact ⟨_, Reads.tuple ho hc hd hr, fun z => hn (by simpa only [noL] using z)⟩
  | @dct a kvs ds e ha ih =>
    intro u r
    cases r
    obtain ⟨_, hsys, vs, hkv, o, es, ep, ho, hx, hd, _, hp, _⟩ := (show ObjOk X.prog X.w H s.heap a (.dK kvs) from I.hok a _ e)
    obtain ⟨as, hr, hn⟩ := ih _ (kv_vals hkv)
    have hl : (kvs.map fun p => kP p.1).length = ds.length := by
      have := ha.len
      rw [List.length_map] at this ⊢
      exact this
    refine ⟨_, Reads.dict ho hx.1 hd (as := []) (bs := as) ?_ ?_, fun z => ?_⟩
    · rw [List.map_fst_zip (Nat.le_of_eq hl), kv_fst hkv]
      exact kp_read hp
    · rw [List.map_snd_zip (Nat.le_of_eq hl.symm), kp_val hp]
      exact hr
    · rw [List.cons_append, List.nil_append]
      intro hm
      rcases List.mem_cons.mp hm with hm | hm
      · rw [← hm] at hsys
        simp at hsys
      · exact hn (noL_zip hl (by simpa only [noL] using z)) hm
  | nil =>
    rename_i us r
    cases r
    exact ⟨_, ReadsAll.nil, fun _ h => nomatch h⟩
  | cons h1 h2 i1 i2 =>
    rename_i us r
    cases r with
    | cons r1 r2 =>
      obtain ⟨as, q1, n1⟩ := i1 _ r1
      obtain ⟨bs, q2, n2⟩ := i2 _ r2
      refine ⟨_, ReadsAll.cons q1 q2, fun z => ?_⟩
      rw [noLAll, Bool.and_eq_true] at z
      intro hm
      rcases List.mem_append.mp hm with hm | hm
      · exact n1 z.1 hm
      · exact n2 z.2 hm
end
mutual
theorem Dq.keep {K : PySem.W.Frag} {H H' : Hp} (e : ∀ a xs, (SqT K H a xs → SqT K H' a xs) ∧ (SqL K H a xs → SqL K H' a xs) ∧ ∀ kvs, H a = some (.dK kvs) → H' a = some (.dK kvs)) : ∀ {v : V} {d : PyData}, Dq K H v d → Dq K H' v d
  | _, _, .non => .non
  | _, _, .bl b => .bl b
  | _, _, .int i => .int i
  | _, _, .str x => .str x
  | _, _, .lst h t => .lst ((e _ _).2.1 h) (DqAll.keep e t)
  | _, _, .tup h t => .tup ((e _ _).1 h) (DqAll.keep e t)
  | _, _, .dct h t => .dct ((e _ []).2.2 _ h) (DqAll.keep e t)
theorem DqAll.keep {K : PySem.W.Frag} {H H' : Hp} (e : ∀ a xs, (SqT K H a xs → SqT K H' a xs) ∧ (SqL K H a xs → SqL K H' a xs) ∧ ∀ kvs, H a = some (.dK kvs) → H' a = some (.dK kvs)) : ∀ {vs : List V} {ds : List PyData}, DqAll K H vs ds → DqAll K H' vs ds
  | _, _, .nil => .nil
  | _, _, .cons h t => .cons (Dq.keep e h) (DqAll.keep e t)
end
theorem sqT_extN {K : PySem.W.Frag} {a : Addr} {H H' : Hp} {xs : List V} (h : SqT K H a xs) (e : LamX.ExtN H H') : SqT K H' a xs := by
  rcases h with (h | ⟨o, h⟩) | h
  · exact .inl (.inl (e a _ h fun _ z => by cases z))
  · exact .inl (.inr ⟨o, e a _ h fun _ z => by cases z⟩)
  · exact .inr h
theorem sqL_extN {K : PySem.W.Frag} {a : Addr} {H H' : Hp} {xs : List V} (h : SqL K H a xs) (e : LamX.ExtN H H') : SqL K H' a xs := sq_extN h e
theorem Dq.n {K : PySem.W.Frag} {H H' : Hp} {v : V} {d : PyData} (h : Dq K H v d) (e : LamX.ExtN H H') : Dq K H' v d :=
  h.keep fun a xs => ⟨fun z => sqT_extN z e, fun z => sq_extN z e, fun kvs z => e a _ z fun _ y => (by cases y)⟩
theorem Dq.ex {K : PySem.W.Frag} {H H' : Hp} {v : V} {d : PyData} (h : Dq K H v d) (e : Ex H H') : Dq K H' v d := h.n e.n
section
variable {P : Program} {w : World} {K : PySem.W.Frag} {mg : Str → Option Value} {base : Heap} {k j n : Nat} {N Vz Sz G ps ks : List Str} {sc : Scope} {x m : Str} {v : V} {X : Cx} {sp : Sp} {σ : L2.St} {H : Hp} {Q : VK} {T : String}
/-- repr of whatever data -/
theorem c_reprQ {d : PyData} (C : CxI P w K mg base k N Vz Sz G sc X) (g : Gd X) (hd : Dq K H v d) (hs : d.showable = true) (hdp : d.depth ≤ 60) (hz : d.shown.length ≤ sizeLine) (hl : d.hasDict = false ∨ noL d = true) (q : Q (.str d.shown) H) : wC X (.builtin "repr") [v] H Q := by
  have at_ : ∀ {ad : Addr}, v = .ref ad → wC X (.builtin "repr") [v] H Q := by
    rintro ad rfl
    refine ⟨fun pins s σ us I r => ?_⟩
    obtain ⟨u, rfl, ru⟩ := vals1 r
    obtain ⟨as, rd, hn⟩ := Dq.reads I (by rw [C.eK]; exact hd) _ ru
    obtain rfl : u = Value.ref ad := ru
    refine repr_of_reads' rd hs (fun z => hl.elim (fun y => by rw [y] at z; cases z) hn) g (by have := C.room.un; omega) (fun _ _ e => e) (fun h' u tk k => ?_) hz
    exact ⟨.str d.shown, H, I.kept (t' := tk) k, ⟨u, rfl⟩, q⟩
  cases hd with
  | non => exact c_reprN q
  | bl b => exact c_reprB q
  | int i => exact c_reprI (of_decide_eq_true hs) q
  | str x => exact c_reprS hz q
  | lst _ _ => exact at_ rfl
  | tup _ _ => exact at_ rfl
  | dct _ _ => exact at_ rfl
/-! ### thing in a tuple of texts -/
theorem str_dct_dec (b : Str) (u : Tok) (l : Addr) (o : Obj) (es : Array DictEntry) (n : Nat) (hd : o.data = .dict es n) : Meets (Builtin.«str.__eq__» ⟨[.str b u, .ref l], []⟩) (fun _ R s => s.heap.get? l = some o ∧ R (.ok (.ret .notImplemented)) s) :=
  .of_wp fun prog w A R s h => by
    obtain ⟨hp, g, d, tk, os⟩ := s
    obtain ⟨hl, h⟩ := h
    obtain ⟨c, dd, da, sl⟩ := o
    simp only at hd
    subst hd
    wp_walk using AutoSeq1.wpAny_loadPart' hl, wpAny_load hl
    exact ⟨_, rfl, h⟩
theorem dct_str_dec (b : Str) (u : Tok) (l : Addr) (o : Obj) (es : Array DictEntry) (n : Nat) (hd : o.data = .dict es n) (ho : o.cls = .type "dict") : Meets (Builtin.«dict.__eq__» ⟨[.ref l, .str b u], []⟩) (fun _ R s => s.heap.get? l = some o ∧ R (.ok (.ret .notImplemented)) s) :=
  .of_wp fun prog w A R s h => by
    obtain ⟨hp, g, d, tk, os⟩ := s
    obtain ⟨hl, h⟩ := h
    obtain ⟨c, dd, da, sl⟩ := o
    simp only at hd ho
    subst hd ho
    unfold Builtin.«dict.__eq__»
    repeat (first | with_reducible refine AutoSeq1.wpAny_loadPart' hl ?_ | with_reducible refine wpAny_of_eq F.sub_str_dict ?_ | wp_step)
    all_goals exact ⟨_, rfl, h⟩
theorem eqAt_str_dct {A : Around} {s : Shared} {l : Addr} {o : Obj} {es : Array DictEntry} {n : Nat} (b : Str) (u : Tok) (hl : s.heap.get? l = some o) (ho : o.cls = .type "dict") (hd : o.data = .dict es n) (hu : A.units < cLine) : SeqAt.EqAt A s (.str b u) (.ref l) false := fun prog w E Q h => by
  unfold eqBool
  refine wpAny_holding ?_
  refine wpAny_ite_split (fun hab => absurd (eq_of_beq hab) nofun) (fun _ => ?_)
  refine wpAny_bind (SeqAt.rc_eq_decline_or (k := false) (typeIs_str s b u) ⟨_, hl, ho⟩ (by decide) F.sub_dict_str F.slot_str_eq F.slot_dict_eq_refl
    (fun _ hq => call_meets F.slot_str_eq (typeIs_str s b u) F.entry_str_eq (F.args_str_eq_2 _ _) (str_dct_dec b u l o es n hd) ⟨hl, hq⟩)
    (fun _ hq => call_meets F.slot_dict_eq_refl ⟨_, hl, ho⟩ F.entry_dict_eq (F.args_dict_eq_2 _ _) (dct_str_dec b u l o es n hd ho) ⟨hl, hq⟩)
    (fun _ hq => wpAny_of_eq (rfl : isSame (.str b u) (.ref l) = pure false) hq) (.inr hu) (wpAny_truthy_bool h))
def isStr : V → Bool
  | .str _ => true
  | _ => false
/-- a text == a thing -/
theorem eqAt_str_thg {pins : List (Addr × Obj)} {s : Shared} {y : V} {u : Value} {A : Around} (I : Inv X pins σ H s) (b : Str) (t : Tok) (th : Thg H y T) (r : RelV y u) (hu : A.units < cLine) : SeqAt.EqAt A s (.str b t) u (eqV (.str b) y) := by
  cases th with
  | non => exact eqAt_V (show L2.RelV (.str b) (.str b t) from ⟨t, rfl⟩) r rfl rfl
  | bl b => exact eqAt_V (show L2.RelV (.str _) (.str _ t) from ⟨t, rfl⟩) r rfl rfl
  | int i => exact eqAt_V (show L2.RelV (.str _) (.str _ t) from ⟨t, rfl⟩) r rfl rfl
  | str z => exact eqAt_V (show L2.RelV (.str _) (.str _ t) from ⟨t, rfl⟩) r rfl rfl
  | @lst p xs e =>
    obtain rfl : u = Value.ref p := r
    obtain ⟨_, its, n, _, e⟩ := (show ObjOk X.prog X.w H s.heap p (.lst xs) from I.hok p _ e)
    exact SeqAt.EqAt.str_list b t ⟨_, e, rfl, _, rfl⟩ hu
  | @tup p xs e =>
    obtain rfl : u = Value.ref p := r
    obtain ⟨_, its, _, o, ho, hc, n, hd⟩ := (show ObjOk X.prog X.w H s.heap p (.tup xs) from I.hok p _ e)
    exact SeqAt.EqAt.str_tuple b t ⟨_, ho, hc, _, hd⟩ hu
  | @dct p kvs e =>
    obtain rfl : u = Value.ref p := r
    obtain ⟨_, _, _, _, o, _, _, e, ex, hd, _⟩ := (show ObjOk X.prog X.w H s.heap p (.dK kvs) from I.hok p _ e)
    exact eqAt_str_dct b t e ex.1 hd hu
/-- y is one of texts -/
def inS (y : V) (zs : List Str) : Bool := zs.any fun z => eqV (.str z) y
theorem strs_at {pins : List (Addr × Obj)} {s : Shared} {y : V} {u : Value} {A : Around} (I : Inv X pins σ H s) (th : Thg H y T) (r : RelV y u) (hu : A.units < cLine) : ∀ {zs : List Str} {us : List Value}, Vals (zs.map V.str) us → ∃ e : Value → Bool, (∀ w ∈ us, SeqAt.EqAt A s w u (e w)) ∧ us.any e = inS y zs := by
  intro zs us rv
  let e : Value → Bool := fun w => match w with
    | .str b _ => eqV (.str b) y
    | _ => false
  refine ⟨e, ?_, ?_⟩
  · induction zs generalizing us with
    | nil => cases rv; intro w h; cases h
    | cons z zs ih =>
      cases rv with
      | cons r1 r2 =>
        intro w h
        rcases List.mem_cons.mp h with rfl | h
        · obtain ⟨t, rfl⟩ := r1
          exact eqAt_str_thg I z t th r hu
        · exact ih r2 w h
  · induction zs generalizing us with
    | nil => cases rv; rfl
    | cons z zs ih =>
      cases rv with
      | cons r1 r2 =>
        obtain ⟨t, rfl⟩ := r1
        rw [List.any_cons, ih r2]
        rfl
theorem o_inKT {ad : Addr} {zs : List Str} (C : CxI P w K mg base k N Vz Sz G sc X) (h : SqT K H ad (zs.map V.str)) (th : Thg H v T) (q : Q (.bl (inS v zs)) H) : wO X (compareOp .In) v (.ref ad) H Q := by
  refine ⟨fun pins s σ u w I ru rw' => ?_⟩
  cases rw'
  obtain ⟨its, r, pl, hz⟩ := I.tuple (by rw [C.eK]; exact h)
  obtain ⟨e, he, ha⟩ := strs_at (A := X.A.in1) I th ru (by have := C.room.un; show X.A.units + 1 < cLine; omega) r
  refine SeqAt.in_tupleAt e pl (fun w hw => he w (by simpa using hw)) ⟨.bl _, H, I, rfl, ?_⟩
  rw [show its.toArray.any e = its.any e by simp, ha]
  exact q
end
theorem Paired.atR {α β : Type} {R : α → β → Prop} : ∀ {l : List α} {m : List β}, Paired R l m → ∀ {i : Nat} {x : α}, l[i]? = some x → ∃ y, m[i]? = some y ∧ R x y
  | _, _, .nil, _, _, h => by simp at h
  | _, _, .cons z t, 0, _, h => ⟨_, rfl, by rw [← Option.some.inj h]; exact z⟩
  | _, _, .cons z t, i + 1, _, h => Paired.atR t h
theorem at_mapR {as : List Addr} {i : Nat} {y : V} (h : (as.map V.ref)[i]? = some y) : ∃ a, y = .ref a ∧ as[i]? = some a := by
  rw [List.getElem?_map] at h
  cases e : as[i]? with
  | none => rw [e] at h; cases h
  | some a => rw [e] at h; exact ⟨a, (Option.some.inj h).symm, rfl⟩
end Rp
namespace Rp
open PySem PySem.Spec PyProof.Rows L2
/-! ### small things, and what is made of them -/
abbrev Pl (H : Hp) (v : V) : Prop := ∃ T, Thg H v T
/-- no list in it, or no dict -/
def mdD (m : Bool) (d : PyData) : Bool := if m then noL d else !d.hasDict
def smD (m : Bool) (d : PyData) : Bool := d.showable && (decide (d.depth ≤ 2) && (decide (d.shown.length ≤ 40) && mdD m d))
def Sml (K : PySem.W.Frag) (H : Hp) (m : Bool) (v : V) : Prop := ∃ d, Dq K H v d ∧ smD m d = true
def SmL (K : PySem.W.Frag) (H : Hp) (m : Bool) (xs : List V) : Prop := ∀ v ∈ xs, Pl H v ∧ Sml K H m v
theorem Sml.n {K : PySem.W.Frag} {H H' : Hp} {m : Bool} {v : V} (h : Sml K H m v) (e : LamX.ExtN H H') : Sml K H' m v := let ⟨d, a, b⟩ := h; ⟨d, a.n e, b⟩
theorem Thg.n {H H' : Hp} {y : V} {T : String} (h : Thg H y T) (e : LamX.ExtN H H') : Thg H' y T := by
  cases h with
  | non => exact .non
  | bl b => exact .bl b
  | int i => exact .int i
  | str z => exact .str z
  | lst q => exact .lst (e _ _ q fun _ z => by cases z)
  | tup q => exact .tup (e _ _ q fun _ z => by cases z)
  | dct q => exact .dct (e _ _ q fun _ z => by cases z)
theorem thg_ref {H : Hp} {a : Addr} {T : String} (h : Thg H (.ref a) T) : ∃ o, H a = some o ∧ ∀ ps, o ≠ .tbl ps := by
  cases h with
  | lst q => exact ⟨_, q, fun _ z => by cases z⟩
  | tup q => exact ⟨_, q, fun _ z => by cases z⟩
  | dct q => exact ⟨_, q, fun _ z => by cases z⟩
theorem SmL.n {K : PySem.W.Frag} {H H' : Hp} {m : Bool} {xs : List V} (h : SmL K H m xs) (e : LamX.ExtN H H') : SmL K H' m xs := fun v hv => let ⟨⟨T, a⟩, b⟩ := h v hv; ⟨⟨T, a.n e⟩, b.n e⟩
theorem SmL.app {K : PySem.W.Frag} {H : Hp} {m : Bool} {xs ys : List V} (h : SmL K H m xs) (g : SmL K H m ys) : SmL K H m (xs ++ ys) := fun v hv => (List.mem_append.mp hv).elim (h v) (g v)
theorem SmL.take {K : PySem.W.Frag} {H : Hp} {m : Bool} {xs : List V} (h : SmL K H m xs) (n : Nat) : SmL K H m (xs.take n) := fun v hv => h v (List.mem_of_mem_take hv)
theorem SmL.drop {K : PySem.W.Frag} {H : Hp} {m : Bool} {xs : List V} (h : SmL K H m xs) (n : Nat) : SmL K H m (xs.drop n) := fun v hv => h v (List.mem_of_mem_drop hv)
theorem SmL.cons {K : PySem.W.Frag} {H : Hp} {m : Bool} {v : V} {xs : List V} (a : Pl H v) (b : Sml K H m v) (h : SmL K H m xs) : SmL K H m (v :: xs) := fun y hy => by
  rcases List.mem_cons.mp hy with e | e
  · rw [e]; exact ⟨a, b⟩
  · exact h y e
theorem SmL.nil {K : PySem.W.Frag} {H : Hp} {m : Bool} : SmL K H m [] := fun _ h => nomatch h
theorem log_le12 {i : Int} (h0 : 0 ≤ i) (h : i ≤ 2000000000000) : i.natAbs.log2 < 1920 := by
  have z : i.natAbs < 2 ^ 41 := by
    have : (2 : Nat) ^ 41 = 2199023255552 := by decide
    omega
  by_cases hz : i.natAbs = 0
  · rw [hz]; decide
  · exact Nat.lt_trans ((Nat.log2_lt hz).mpr z) (by decide)
theorem sml_int {K : PySem.W.Frag} {H : Hp} {m : Bool} {i : Int} (h0 : 0 ≤ i) (h : i ≤ 2000000000000) : Sml K H m (.int i) := by
  refine ⟨.int i, .int i, ?_⟩
  have l : (PyData.int i).shown.length ≤ 13 := toString_length_le h0 (by decide) (by rw [show (10 : Int) ^ 13 = 10000000000000 from by decide]; omega)
  unfold smD mdD
  rw [show (PyData.int i).showable = true from decide_eq_true (log_le12 h0 h), decide_eq_true (show (PyData.int i).depth ≤ 2 from Nat.zero_le _), decide_eq_true (show (PyData.int i).shown.length ≤ 40 by omega)]
  cases m <;> rfl
theorem sml_bl {K : PySem.W.Frag} {H : Hp} {m b : Bool} : Sml K H m (.bl b) := ⟨.bool b, .bl b, by cases m <;> cases b <;> decide +kernel⟩
theorem sml_str {K : PySem.W.Frag} {H : Hp} {m : Bool} {z : Str} (h : (reprText z).length ≤ 40) : Sml K H m (.str z) := by
  refine ⟨.str z, .str z, ?_⟩
  unfold smD mdD
  rw [show (PyData.str z).showable = true from rfl, decide_eq_true (show (PyData.str z).depth ≤ 2 from Nat.zero_le _), decide_eq_true (show (PyData.str z).shown.length ≤ 40 from h)]
  cases m <;> rfl
theorem sml_of {K : PySem.W.Frag} {H : Hp} {m : Bool} {v : V} {d : PyData} (h : Dq K H v d) (e : smD m d = true) : Sml K H m v := ⟨d, h, e⟩
theorem SmL.all {K : PySem.W.Frag} {H : Hp} {m : Bool} : ∀ {xs : List V}, SmL K H m xs → ∃ ds, DqAll K H xs ds ∧ PyData.showableAll ds = true ∧ PyData.depthAll ds ≤ 2 ∧ ds.length = xs.length ∧ piled (PyData.shownAll ds) ≤ 42 * xs.length ∧ (if m then noLAll ds = true else PyData.hasDictAll ds = false)
  | [], _ => ⟨[], .nil, rfl, Nat.zero_le _, rfl, Nat.zero_le _, by cases m <;> rfl⟩
  | v :: xs, h => by
    obtain ⟨ds, a, b, c, e, f, g⟩ := SmL.all (xs := xs) fun y hy => h y (List.mem_cons_of_mem _ hy)
    obtain ⟨_, d, dq, sm⟩ := h v List.mem_cons_self
    unfold smD at sm
    rw [Bool.and_eq_true, Bool.and_eq_true, Bool.and_eq_true] at sm
    obtain ⟨s1, s2, s3, s4⟩ := sm
    have s2 := of_decide_eq_true s2
    have s3 := of_decide_eq_true s3
    refine ⟨d :: ds, .cons dq a, by rw [PyData.showableAll, s1, b]; rfl, ?_, by rw [List.length_cons, List.length_cons, e], ?_, ?_⟩
    · rw [PyData.depthAll]; omega
    · rw [PyData.shownAll, piled_cons, List.length_cons]; omega
    · cases m with
      | true =>
        show noLAll (d :: ds) = true
        rw [noLAll, show noL d = true from s4, show noLAll ds = true from g]
        rfl
      | false =>
        show PyData.hasDictAll (d :: ds) = false
        have s4' : (!d.hasDict) = true := s4
        rw [PyData.hasDictAll, show d.hasDict = false by simpa using s4', show PyData.hasDictAll ds = false from g]
        rfl
theorem join_le (ts : List Str) : (Str.join ", " ts).length ≤ piled ts := by
  by_cases h : ts = []
  · subst h; exact Nat.zero_le _
  · have := join_length_add ts h; omega
theorem tupText_le (ts : List Str) : (tupleText ts).length ≤ piled ts + 3 := by
  unfold tupleText
  rw [slen_app, slen_app]
  have j := join_le ts
  have t1 : ("(" : Str).length = 1 := rfl
  have t2 : (Str.ofString (if (ts.length == 1) = true then ",)" else ")")).length ≤ 2 := by
    split
    · exact (by decide : (Str.ofString ",)").length ≤ 2)
    · exact (by decide : (Str.ofString ")").length ≤ 2)
  first
    | omega
    | (show ("(" : Str).length + _ + _ ≤ _; omega)
/-- what may be shown -/
def Shw (K : PySem.W.Frag) (H : Hp) (v : V) (d : PyData) (n : Nat) : Prop := Dq K H v d ∧ d.showable = true ∧ d.depth ≤ 50 ∧ d.shown.length ≤ n ∧ (d.hasDict = false ∨ noL d = true)
theorem Shw.n {K : PySem.W.Frag} {H H' : Hp} {v : V} {d : PyData} {n : Nat} (h : Shw K H v d n) (e : LamX.ExtN H H') : Shw K H' v d n := ⟨h.1.n e, h.2⟩
theorem shw_sml {K : PySem.W.Frag} {H : Hp} {m : Bool} {v : V} (h : Sml K H m v) : ∃ d, Shw K H v d 40 := by
  obtain ⟨d, dq, sm⟩ := h
  unfold smD mdD at sm
  rw [Bool.and_eq_true, Bool.and_eq_true, Bool.and_eq_true] at sm
  obtain ⟨s1, s2, s3, s4⟩ := sm
  have s2 := of_decide_eq_true s2
  refine ⟨d, dq, s1, by omega, of_decide_eq_true s3, ?_⟩
  cases m with
  | true => exact .inr s4
  | false => exact .inl (by simpa using s4)
theorem shw_tup {K : PySem.W.Frag} {H : Hp} {m : Bool} {a : Addr} {xs : List V} (h : H a = some (.tup xs)) (s : SmL K H m xs) : ∃ d, Shw K H (.ref a) d (42 * xs.length + 3) := by
  obtain ⟨ds, d1, d2, d3, d4, d5, d6⟩ := s.all
  refine ⟨.tuple ds, .tup (.of h) d1, by rw [PyData.showable]; exact d2, by rw [PyData.depth]; omega, ?_, ?_⟩
  · rw [PyData.shown]
    have := tupText_le (PyData.shownAll ds)
    omega
  · cases m with
    | true => exact .inr (by rw [noL]; exact d6)
    | false => exact .inl (by rw [PyData.hasDict]; exact d6)
theorem listText_le (ts : List Str) : (listText ts).length ≤ piled ts + 2 := by
  have key : ∀ (ts : List Str) (k : Nat) (acc : Str), (textFrom k acc ts).length ≤ acc.length + piled ts := by
    intro ts
    induction ts with
    | nil => intro k acc; exact Nat.le_refl _
    | cons t r ih =>
      intro k acc
      have z := ih (k + 1) (acc ++ (if k > 0 then ", " else "" : String) ++ t)
      have e : (acc ++ (if k > 0 then ", " else "" : String) ++ t).length ≤ acc.length + 2 + t.length := by
        rw [slen_app, slen_app]
        have : (Str.ofString (if k > 0 then ", " else "")).length ≤ 2 := by
          split
          · exact (by decide : (Str.ofString ", ").length ≤ 2)
          · exact (by decide : (Str.ofString "").length ≤ 2)
        first
          | omega
          | (show acc.length + _ + t.length ≤ _; omega)
      rw [piled_cons]
      show (textFrom (k + 1) (acc ++ (if k > 0 then ", " else "" : String) ++ t) r).length ≤ _
      omega
  unfold listText
  rw [slen_app]
  have z := key ts 0 "["
  have t1 : ("[" : Str).length = 1 := rfl
  have t2 : ("]" : Str).length = 1 := rfl
  omega
theorem shw_lst {K : PySem.W.Frag} {H : Hp} {a : Addr} {xs : List V} (h : H a = some (.lst xs)) (s : SmL K H false xs) : ∃ d, Shw K H (.ref a) d (42 * xs.length + 2) := by
  obtain ⟨ds, d1, d2, d3, d4, d5, d6⟩ := s.all
  refine ⟨.list ds, .lst (.of h) d1, by rw [PyData.showable]; exact d2, by rw [PyData.depth]; omega, ?_, ?_⟩
  · rw [PyData.shown]
    have := listText_le (PyData.shownAll ds)
    omega
  · exact .inl (by rw [PyData.hasDict]; exact d6)
/-- a small thing of another kind -/
structure Od (K : PySem.W.Frag) (H : Hp) (v : V) : Prop where
  th : Pl H v
  tl : ∀ a xs, v = .ref a → H a = some (.tup xs) → ∀ x ∈ xs, Pl H x
  sm : ∃ m, Sml K H m v
theorem Od.flat {K : PySem.W.Frag} {H : Hp} {v : V} {d : PyData} (m : Bool) (th : Pl H v) (nr : ∀ a, v ≠ .ref a) (dq : Dq K H v d) (h : smD m d = true) : Od K H v :=
  ⟨th, fun a xs e => absurd e (nr a), m, d, dq, h⟩
theorem Od.ofR {K : PySem.W.Frag} {H : Hp} {a : Addr} {d : PyData} (m : Bool) (th : Pl H (.ref a)) (tl : ∀ xs, H a = some (.tup xs) → ∀ x ∈ xs, Pl H x) (dq : Dq K H (.ref a) d) (h : smD m d = true) : Od K H (.ref a) :=
  ⟨th, fun b xs e => by cases e; exact tl xs, m, d, dq, h⟩
theorem Od.n {K : PySem.W.Frag} {H H' : Hp} {v : V} (h : Od K H v) (e : LamX.ExtN H H') : Od K H' v := by
  obtain ⟨⟨T, th⟩, tl, m, r⟩ := h
  refine ⟨⟨T, th.n e⟩, fun a xs ea ht x hx => ?_, m, r.n e⟩
  subst ea
  obtain ⟨o, ho, hn⟩ := thg_ref th
  have := e _ _ ho hn
  rw [ht] at this
  cases this
  obtain ⟨U, z⟩ := tl a xs rfl ho x hx
  exact ⟨U, z.n e⟩
/-! ### slices and + of tuples at whatever place -/
theorem cut_toN {xs : List V} {i : Int} (h : 0 ≤ i) : cutV xs none (some i) = xs.take i.toNat := by
  have e : HT.sIx xs.length xs.length (some i) = min i.toNat xs.length := if_neg (by omega)
  unfold cutV
  rw [e, show HT.sIx xs.length 0 none = 0 from rfl, List.drop_zero, Nat.sub_zero]
  apply List.ext_getElem?
  intro j
  rw [List.getElem?_take, List.getElem?_take]
  by_cases c : j < i.toNat
  · by_cases c2 : j < xs.length
    · rw [if_pos (by omega), if_pos c]
    · rw [if_neg (by omega), if_pos c, List.getElem?_eq_none (by omega)]
  · rw [if_neg (by omega), if_neg c]
theorem cut_fromN {xs : List V} {i : Int} (h : 0 ≤ i) : cutV xs (some i) none = xs.drop i.toNat := by
  have e : HT.sIx xs.length 0 (some i) = min i.toNat xs.length := if_neg (by omega)
  unfold cutV
  rw [e, show HT.sIx xs.length xs.length none = xs.length from rfl]
  by_cases c : i.toNat ≤ xs.length
  · rw [Nat.min_eq_left c]
    exact List.take_of_length_le (by rw [List.length_drop]; omega)
  · rw [Nat.min_eq_right (by omega), Nat.sub_self, List.take_zero, List.drop_of_length_le (by omega)]
theorem nf_to {xs : List V} {i : Int} (h : 0 ≤ i) (hl : i < xs.length) : ¬ (HT.sIx xs.length 0 none = 0 ∧ HT.sIx xs.length xs.length (some i) = xs.length) := by
  have e : HT.sIx xs.length xs.length (some i) = min i.toNat xs.length := if_neg (by omega)
  rw [e]
  omega
theorem nf_from {xs : List V} {i : Int} (h : 0 < i) (hl : 0 < xs.length) : ¬ (HT.sIx xs.length 0 (some i) = 0 ∧ HT.sIx xs.length xs.length none = xs.length) := by
  have e : HT.sIx xs.length 0 (some i) = min i.toNat xs.length := if_neg (by omega)
  rw [e]
  omega
section
variable {P : Program} {w : World} {K : PySem.W.Frag} {mg : Str → Option Value} {base : Heap} {k j n : Nat} {N Vz Sz G ps ks : List Str} {sc : Scope} {x m : Str} {v : V} {X : Cx} {sp : Sp} {σ : L2.St} {H : Hp} {Q : VK} {T : String}
theorem o_catTA {a b : Addr} {xs ys : List V} (C : CxI P w K mg base k N Vz Sz G sc X) (h1 : H a = some (.tup xs)) (h2 : H b = some (.tup ys)) (hz : xs.length + ys.length ≤ sizeLine) (q : ∀ p H2, Ex H H2 → H2 p = some (.tup (xs ++ ys)) → Q (.ref p) H2) :
    wO X (binaryOp .Add) (.ref a) (.ref b) H Q :=
  wO.of op_catA ⟨a, b, xs, ys, rfl, rfl, by rw [C.eK]; exact .of h1, by rw [C.eK]; exact .of h2, hz, fun z => q b H (Ex.refl H) (by rw [z]; exact h2), fun _ z => q a H (Ex.refl H) (by rw [z, List.append_nil]; exact h1), fun _ _ p hp => q p _ (Ex.upd hp) upd_same⟩
theorem o_notInF {ad : Addr} {xs : List V} (C : CxI P w K mg base k N Vz Sz G sc X) (h : SqL K H ad xs) (h1 : flatV v = true) (h2 : xs.all flatV = true) (q : Q (.bl (!inV v xs)) H) : wO X (compareOp .NotIn) v (.ref ad) H Q :=
  wO.of op_notIn_seq ⟨ad, xs, rfl, .inl (by rw [C.eK]; exact h), h1, h2, q⟩
theorem slq_to {a : Addr} {xs : List V} {i : Int} {R : Addr → Hp → Prop} (h : H a = some (.tup xs)) (i0 : 0 ≤ i) (i1 : i < xs.length) (q : ∀ p H', H p = none → Ex H H' → H' p = some (.tup (xs.take i.toNat)) → R p H') : SlQ K (.ref a) none (some i) H R :=
  slq_i (.of h) (nf_to i0 i1) (cut_toN i0) q
theorem slq_from {a : Addr} {xs : List V} {i : Int} {R : Addr → Hp → Prop} (h : H a = some (.tup xs)) (i0 : 0 < i) (i1 : 0 < xs.length) (q : ∀ p H', H p = none → Ex H H' → H' p = some (.tup (xs.drop i.toNat)) → R p H') : SlQ K (.ref a) (some i) none H R :=
  slq_i (.of h) (nf_from i0 i1) (cut_fromN (by omega)) q
theorem c_reprW {d : PyData} {n : Nat} (C : CxI P w K mg base k N Vz Sz G sc X) (g : Gd X) (h : Shw K H v d n) (hn : n ≤ sizeLine) (q : Q (.str d.shown) H) : wC X (.builtin "repr") [v] H Q :=
  c_reprQ C g h.1 h.2.1 (by have := h.2.2.1; omega) (Nat.le_trans h.2.2.2.1 hn) h.2.2.2.2 q
end
end Rp
namespace Rp
open PySem PySem.Spec PyProof.Rows L2
/-! ### comprehensions by a promise of each turn -/
theorem pt_ix {x : Str} {v : V} : ∀ {N : List Str} {σ : L2.St} {i : Nat}, N[i]? = some x → i < σ.length → Pt N σ x v (σ.set i (some v))
  | [], _, _, h, _ => by simp at h
  | y :: N, [], _, _, l => absurd l (by simp)
  | y :: N, w :: σ, 0, h, _ => by
    obtain rfl : y = x := by simpa using h
    exact .here
  | y :: N, w :: σ, i + 1, h, l => .there (pt_ix (by simpa using h) (by simpa using l))
section
variable {P : Program} {w : World} {K : PySem.W.Frag} {mg : Str → Option Value} {base : Heap} {k : Nat} {N Vz Sz' G Vc Gc : List Str} {sc scope : Scope} {X : Cx} {elt it c e : Expr} {σ : L2.St} {H : Hp} {pos p0 : Pos} {Q : VK} {QB : Bool → Hp → Prop} {D : Ends}
theorem wT_cut (J : Bool → Hp → Prop) (h : wT X e σ H J) (q : ∀ b H', J b H' → QB b H') : wT X e σ H QB :=
  ⟨fun pins s I => thn (h.run pins s I) fun b s1 ⟨H1, I1, hj⟩ => ⟨H1, I1, q b H1 hj⟩⟩
theorem wW_cut (J : Bool → Hp → Prop) (h : wW X e σ H J) (q : ∀ b H', J b H' → QB b H') : wW X e σ H QB :=
  ⟨fun wh pins s I => thn (h.run wh pins s I) fun b s1 ⟨H1, I1, hj⟩ => ⟨H1, I1, q b H1 hj⟩⟩
/-- what a turn keeps of what is known, the new list at D aside -/
structure Stay (H : Hp) (R : Hp → Nat → V → Prop) (J : Nat → Hp → Prop) : Prop where
  j : ∀ (D : Addr) (i : Nat) (Ha Hb : Hp), H D = none → J i Ha → Exb D Ha Hb → J i Hb
  r : ∀ (D : Addr) (j : Nat) (y : V) (Ha Hb : Hp) (acc : List V), H D = none → Ha D = some (.lst acc) → R Ha j y → Exb D Ha Hb → R Hb j y
theorem lcJ {x : Str} {ix : Nat} {ad : Addr} {xs : List V} {tp : Pos} (R : Hp → Nat → V → Prop) (J : Nat → Hp → Prop) (hN : N[ix]? = some x) (hσ : ix < σ.length)
    (st : Stay H R J) (hl : xs.length ≤ 1000) (j0 : J 0 H) (hsq : ∀ i H', J i H' → SqL K H' ad xs)
    (step : ∀ X1, CxI P w K mg base k N Vc [x] Gc scope X1 → ∀ (i : Nat) (v : V) (D : Addr) (H2 : Hp) (acc : List V), xs[i]? = some v → J i H2 → H D = none → H2 D = some (.lst acc) → (∀ j y, acc[j]? = some y → R H2 j y) → wE X1 elt (σ.set ix (some v)) H2 fun y H3 => H3 D = some (.lst acc) ∧ (∀ j y, R H2 j y → R H3 j y) ∧ R H3 i y ∧ J (i + 1) H3)
    {QD : Addr → Hp → Prop} (q : ∀ (D : Addr) (H2 : Hp) (ys : List V), H D = none → H2 D = some (.lst ys) → ys.length = xs.length → (∀ j y, ys[j]? = some y → R H2 j y) → J xs.length H2 → QD D H2) (hx0 : x ∈ Vc) :
    LcL P w K mg base k N Vc [x] Gc scope [ix] elt (.Name x tp) [] σ (.ref ad) H QD := by
  refine ⟨ad, xs, rfl, hsq 0 H j0, fun D hD => ⟨fun i H2 => ∃ ys, ys.length = i ∧ H2 D = some (.lst ys) ∧ (∀ j y, ys[j]? = some y → R H2 j y) ∧ J i H2, ⟨[], rfl, upd_same, (fun j y h => by simp at h), st.j D 0 _ _ hD j0 Exb.upd⟩, ?_, ?_, ?_⟩⟩
  · rintro i H2 hi ⟨ys, _, _, _, j⟩
    exact hsq i H2 j
  · rintro i v H2 hi ⟨ys, hy, hd, hr, j⟩
    intro X1 C1
    have hw : ix < (wipe σ [ix]).length := by rw [wipe_length]; exact hσ
    refine wG_name C1 List.mem_cons_self ?_
    refine put_i (pt_ix hN hw) ⟨?_, ?_⟩
    · show ((((σ.set ix none).set ix (some v))).set ix none) = σ.set ix none
      rw [List.set_set, List.set_set]
    · refine blkT_nil (iteT ?_)
      intro X2 C2
      have e : (wipe σ [ix]).set ix (some v) = σ.set ix (some v) := by
        show (σ.set ix none).set ix (some v) = _
        rw [List.set_set]
      rw [e]
      refine wE_cut _ (step X2 C2 i v D H2 ys hi j hD hd hr) ?_
      rintro y H3 ⟨h1, h2, h3, h4⟩
      refine ⟨ys, h1, ?_, ys ++ [y], by rw [List.length_append, hy]; rfl, upd_same, fun j' y' hj' => ?_, st.j D _ _ _ hD h4 Exb.upd⟩
      · have : i < xs.length := by
          obtain ⟨z, _⟩ := List.getElem?_eq_some_iff.mp hi
          exact z
        rw [hy, sizeLine_eq]; omega
      · refine st.r D j' y' H3 _ ys hD h1 ?_ Exb.upd
        by_cases c : j' < ys.length
        · rw [List.getElem?_append_left c] at hj'
          exact h2 _ _ (hr _ _ hj')
        · rw [List.getElem?_append_right (by omega)] at hj'
          have z : j' - ys.length = 0 := by
            rcases Nat.eq_zero_or_pos (j' - ys.length) with z | z
            · exact z
            · rw [List.getElem?_eq_none (show [y].length ≤ _ from z)] at hj'; cases hj'
          rw [z] at hj'
          have : y = y' := by simpa using hj'
          rw [← this, show j' = i by omega]
          exact h3
  · rintro H2 ⟨ys, hy, hd, hr, j⟩
    exact q D H2 ys hD hd hy hr j
theorem c_listT {a : Addr} {xs : List V} (C : CxI P w K mg base k N Vz Sz' G sc X) (h : SqT K H a xs) (q : ∀ p H2, H p = none → Ex H H2 → H2 p = some (.lst xs) → Q (.ref p) H2) : wC X (.type "list") [.ref a] H Q :=
  wC.of call_list_of ⟨a, xs, rfl, .inr (by rw [C.eK]; exact h), fun p hp => q p _ hp (Ex.upd hp) upd_same⟩
theorem c_listL {a : Addr} {xs : List V} (C : CxI P w K mg base k N Vz Sz' G sc X) (h : SqL K H a xs) (q : ∀ p H2, H p = none → Ex H H2 → H2 p = some (.lst xs) → Q (.ref p) H2) : wC X (.type "list") [.ref a] H Q :=
  wC.of call_list_of ⟨a, xs, rfl, .inl (by rw [C.eK]; exact h), fun p hp => q p _ hp (Ex.upd hp) upd_same⟩
end
end Rp
namespace Rp
open PySem PySem.Spec PyProof.Rows L2
/-! ### repr of a list of things with an own __repr__ -/
section
variable {prog : Program} {w : World} {A : Around} {E : Value → Shared → Prop} {s : Shared} {K : PySem.W.Frag} {x C f : Addr} {ox : Obj} {od : Option Obj}
theorem under_K {b : Nat} {Q : Str → Shared → Prop} (hb : b ≤ sizeLine) (hu : A.units < cLine) (X : K.In s.heap) (I : PySem.W.InstAt s.heap x ox C od) (hs : PySem.W.findIn K (.ref C) "__repr__" = some (some (.ref f))) (hf : PySem.W.isFn K (.ref f) = true)
    (hc : wpAny (model prog w) A (call (.ref f) [.ref x]) (fun r s' => ∃ m tk, r = .str m tk ∧ Q m s') E s) : wpAny (model prog w) A (pyReprUnder b (.ref x)) Q E s := by
  refine wpAny_pyReprUnder_ref hb ?_
  unfold pyReprObjUnder pyReprObjBy
  refine wpAny_bind (wpAny_cRoomFor hu ?_)
  refine wpAny_bind (m := specialOf (.ref x) _) (wpAny_bind (I.type.here ((PySem.W.looks_findIn X hs).here ?_)))
  show wpAny _ _ (if (some (Value.ref f)).isNone = true then _ else _) _ _ _
  rw [if_neg (by simp)]
  refine wpAny_bind (m := callSpecialIfBoundBy? _ (.ref x) (Str.ofString "__repr__")) ?_
  simp only [callSpecialIfBoundBy?, bindSpecialIfBound?]
  refine wpAny_holding (wpAny_bind (wpAny_bind (wpAny_bind (I.type.here ((PySem.W.looks_findIn X hs).here ?_)))))
  refine wpAny_bind (wpAny_askSetting (wpAny_ite ?_))
  have fin : wpAny (model prog w) A (call (.ref f) [.ref x] >>= fun v => pure (some v)) (fun r s' => wpAny (model prog w) A (match r with
      | some r => do
        if ← isInstance r (.type "str") then pure r else raiseError "TypeError" s!"__repr__ returned non-string (type {← typeNameOf r})"
      | none => unsupported "repr:special-get-raises") (fun v s' => ∃ x u, v = .str x u ∧ Q x s') E s') E s := wpAny_bind (wpAny_mono hc (fun v s' hv => by
    obtain ⟨m, tk, rfl, hq⟩ := hv
    refine wpAny_pure ?_
    refine wpAny_bind (wpAny_isInstance (typeIs_str _ _ _) isSubtype_str_str ?_)
    first
      | exact wpAny_pure ⟨_, _, rfl, hq⟩
      | (rw [if_pos rfl]; exact wpAny_pure ⟨_, _, rfl, hq⟩)
      | (simp only [if_true]; exact wpAny_pure ⟨_, _, rfl, hq⟩)) fun _ _ h' => h')
  split
  · exact wpAny_bind ((PySem.W.bind_fn X _ (beq_iff_eq.mp hf)).here (wpAny_pure (by exact fin)))
  · exact wpAny_tryCatch (wpAny_bind ((PySem.W.bind_fn X _ (beq_iff_eq.mp hf)).here (wpAny_pure (by exact fin))))
end
theorem under_rl (A : Around) (args : Args) : (A.under (.builtin "list.__repr__.loop" args)).units = A.units + 1 := by
  first | rfl | simp [Around.under, Code.cUnits, Code.frames, Code.isFrame]
theorem under_rd (A : Around) (args : Args) : (A.under (.builtin "list.__repr__.loop" args)).depth = A.depth + 1 := by
  first | rfl | simp [Around.under, Code.weight, Code.isCreation, Code.isGuard, Code.isCaller, Code.frames, Code.isFrame, guardIds]
theorem sub_loop {X : Cx} {n : Nat} {A : Around} (s : Sub X (n + 1) A) (args : Args) : Sub X n (A.under (.builtin "list.__repr__.loop" args)) :=
  ⟨⟨s.room.hd, by have := s.room.dp; rw [under_rd]; omega, by have := s.room.un; rw [under_rl]; omega⟩, s.fr⟩
section
variable {X : Cx} {pins : List (Addr × Obj)} {σ : L2.St} {H : Hp} {s : Shared} {C f : Addr} {fd : FuncData} {ps : List Str} {sp : Sp} {j : Nat}
/-- repr of one thing within -/
theorem one_under {A : Around} (sb : Sub X j A) (Fk : FnOk X.prog X.w X.K X.mg X.base CX0 j f fd ps sp) (hs : PySem.W.findIn X.K (.ref C) "__repr__" = some (some (.ref f))) (hf : PySem.W.isFn X.K (.ref f) = true) (hb : Binds X.K fd ps [])
    {b : Nat} {a dx : Addr} {fs : List (Str × V)} {t : Str} (hbz : b ≤ sizeLine) (I : Inv X pins σ H s) (ha : H a = some (.ins C dx fs)) (q : sp [.ref a] H (fun v H' => v = .str t ∧ Ex H H') E0) {Q : Str → Shared → Prop} (hq : ∀ s' H', Inv X pins σ H' s' → Ex H H' → Q t s') :
    wpAny (model X.prog X.w) A (pyReprUnder b (.ref a)) Q X.xe s := by
  obtain ⟨mA, J, _⟩ := ins_get I.hok ha
  obtain ⟨od, J, _⟩ := J.look
  refine under_K hbz sb.room.units0 I.kIn J hs hf ?_
  have e0 : Env0 X.prog X.w X.K X.mg X.base A X.stack s H := by
    have e := I.env0
    exact ⟨by rw [sb.fr]; exact e.frames, e.mod, e.bs, e.bsz, e.funs, e.frf, e.hok, e.bare⟩
  have hl := Fk.len _ _ _ _ q
  have r2 : Vals [V.ref a] [Value.ref a] := .cons rfl .nil
  refine wpAny_call (codeAny_mono (Fk.run A X.stack s H ⟨[.ref a], []⟩ [.ref a] [.ref a] _ E0 sb.room e0 (by
    have := hb s [.ref a] I.kIn (by simpa using hl)
    simpa using this) r2 q) fun r' s' h => ?_)
  cases r' with
  | error e => exact pass0 pins σ H s e s' I h
  | ok fl =>
    cases fl with
    | ret w =>
      obtain ⟨z, H', I', rz, ez, e'⟩ := I.after h
      subst ez
      obtain ⟨tk, rfl⟩ := rz
      exact ⟨t, tk, rfl, hq s' H' I' e'⟩
    | next => exact False.elim h
    | brk => exact False.elim h
    | cont => exact False.elim h
/-- the things of a list, each with its text -/
def Tells (C : Addr) (sp : Sp) (H0 : Hp) (as : List Addr) (ts : List Str) : Prop :=
  as.length = ts.length ∧ ∀ (i : Nat) a t, as[i]? = some a → ts[i]? = some t → ∀ H, Ex H0 H → (∃ dx fs, H a = some (.ins C dx fs)) ∧ sp [.ref a] H (fun v H' => v = .str t ∧ Ex H H') E0
theorem exb_ins {P : Addr} {H H' : Hp} {xs : List V} (hP : H P = some (.lst xs)) (e : Exb P H H') : ∀ a C dx fs, H a = some (.ins C dx fs) → H' a = some (.ins C dx fs) := fun a C dx fs h => e _ _ (fun z => by rw [z, hP] at h; cases h) h
/-- what stays while the parts' list at P grows: H0 knows nothing of P -/
theorem rloop {A : Around} (sb : Sub X (j + 1) A) (Fk : FnOk X.prog X.w X.K X.mg X.base CX0 j f fd ps sp) (hs : PySem.W.findIn X.K (.ref C) "__repr__" = some (some (.ref f))) (hf : PySem.W.isFn X.K (.ref f) = true) (hb : Binds X.K fd ps [])
    {H0 : Hp} {a P : Addr} {as : List Addr} {ts : List Str} {b : Nat} (ha : H0 a = some (.lst (as.map V.ref))) (hP : H0 P = none) (tl : Tells C sp H0 as ts) (hsz : b + (listText ts).length ≤ sizeLine)
    {R : Result → Shared → Prop} (hR : ∀ s' H' u, Inv X pins σ H' s' → Ex H0 H' → R (.ok (.ret (.str (listText ts) u))) { s' with toks := s'.toks + 1 }) (hE : ∀ e s', X.xe e s' → R (.error e) s') :
    ∀ (k i : Nat) (s : Shared) (H : Hp), as.length - i = k → i ≤ as.length → Inv X pins σ H s → Ex H0 H → H P = some (.lst ((ts.take i).map V.str)) →
    codeAny (model X.prog X.w) A (.builtin "list.__repr__.loop" ⟨[.ref a, rawInt i, .ref P, rawInt ((b + piled (ts.take i) : Nat) : Int)], []⟩) R s := by
  have hX : (listText ts).length = (textFrom 0 "[" ts).length + 1 := by
    show (textFrom 0 "[" ts ++ "]").length = _
    rw [strLen_append]; rfl
  have hL := textFrom_len ts 0 "["
  have hsz1 : as.length ≤ sizeLine := by
    have h1 := hL.1
    rw [if_neg (Nat.lt_irrefl 0)] at h1
    have := tl.1
    omega
  have hsz2 : ∀ t ∈ ts, t.length ≤ sizeLine := fun t ht => by
    have h2 := hL.2.1 t ht
    omega
  have hsz3 : (listText ts).length ≤ sizeLine := by omega
  have hp3 := piled_le_listText ts
  have hlen := tl.1
  intro k
  induction k with
  | zero =>
    intro i s H hk hi I e hp
    have hin : i = as.length := by omega
    refine codeAny_builtin F.entry_list_repr_loop ?_
    show wpAny _ _ (Builtin.«list.__repr__.loop» ⟨[.ref a, .int i 0, .ref P, .int ((b + piled (ts.take i) : Nat) : Int) 0], []⟩) _ _ s
    rw [repr_loop_tree]
    obtain ⟨_, its, n, rv, hl, hg⟩ := I.lstM (e _ _ ha)
    refine wpAny_bind (wpAny_listItems hg rfl ?_)
    have hnone : its.toArray[(i : Int).toNat]? = none := by
      rw [Int.toNat_natCast, List.getElem?_toArray, List.getElem?_eq_none (by rw [← hl, List.length_map]; omega)]
    simp only [hnone]
    unfold reprEnd
    obtain ⟨_, its2, n2, rv2, hl2, hg2⟩ := I.lstM hp
    refine wpAny_bind (wpAny_listItems hg2 rfl ?_)
    obtain ⟨done, hd1, hd2⟩ : ∃ done : List (Str × Tok), its2 = strValues done ∧ done.map (·.1) = ts.take i := by
      clear hg2 hl2 hp
      revert its2
      generalize ts.take i = us
      induction us with
      | nil => intro its2 r; cases r; exact ⟨[], rfl, rfl⟩
      | cons u us ih =>
        intro its2 r
        cases r with
        | cons h r =>
          obtain ⟨tk, rfl⟩ := h
          obtain ⟨d, e1, e2⟩ := ih _ r
          exact ⟨(u, tk) :: d, by rw [e1]; rfl, by rw [← e2]; rfl⟩
    rw [show its2.toArray.toList = strValues done from hd1, repr_fold]
    refine wpAny_bind (wpAny_pure ?_)
    have hall : done.map (·.1) = ts := by rw [hd2, hin, hlen, List.take_length]
    rw [hall]
    refine wpAny_bind (wpAny_mkStr (wpAny_pure ?_) hsz3)
    exact hR s H _ I e
  | succ k ih =>
    intro i s H hk hi I e hp
    have hlt : i < as.length := by omega
    have ht : ts[i]? = some (ts[i]'(by omega)) := List.getElem?_eq_getElem (by omega)
    generalize ts[i]'(by omega) = t at ht
    have hai : as[i]? = some as[i] := List.getElem?_eq_getElem hlt
    generalize as[i] = ai at hai
    obtain ⟨⟨dx, fs, hins⟩, hsp⟩ := tl.2 i ai t hai ht H e
    have hp1 := piled_take_succ ht
    have hp2 := piled_take_le ts (i + 1)
    refine codeAny_builtin F.entry_list_repr_loop ?_
    show wpAny _ _ (Builtin.«list.__repr__.loop» ⟨[.ref a, .int i 0, .ref P, .int ((b + piled (ts.take i) : Nat) : Int) 0], []⟩) _ _ s
    rw [repr_loop_tree]
    obtain ⟨_, its, n, rv, hl, hg⟩ := I.lstM (e _ _ ha)
    refine wpAny_bind (wpAny_listItems hg rfl ?_)
    have hsome : its.toArray[(i : Int).toNat]? = some (.ref ai) := by
      rw [Int.toNat_natCast, List.getElem?_toArray]
      obtain ⟨u, hu, ru⟩ := rv.get (i := i) (x := .ref ai) (by rw [List.getElem?_map, hai]; rfl)
      obtain rfl : u = Value.ref ai := ru
      exact hu
    simp only [hsome]
    rw [Int.toNat_natCast]
    refine wpAny_bind (wpAny_holding (wpAny_mono (one_under (b := b + piled (ts.take i) + 1) (sub_loop sb _) Fk hs hf hb (by omega) I hins hsp (Q := fun t' s' => t = t' ∧ ∃ H', Inv X pins σ H' s' ∧ Ex H H') fun s1 H1 I1 e1 => ⟨rfl, H1, I1, e1⟩) (fun t' s1 hq => ?_) hE))
    obtain ⟨rfl, H1, I1, e1⟩ := hq
    refine wpAny_bind (wpAny_mkStr ?_ (hsz2 t (List.mem_of_getElem? ht)))
    refine wpAny_bind ?_
    have hp' := e1 _ _ hp
    obtain ⟨_, its2, n2, rv2, hl2, hg2⟩ := I1.lstM hp'
    show wpAny _ _ (updateSeq P _) _ _ _
    have htl : ((ts.take i).map V.str).length ≤ sizeLine := by rw [List.length_map, List.length_take]; omega
    refine wpAny_updateSeq hg2 rfl (wpAny_pure ⟨F.quiet_list_repr_loop _, ?_⟩) (by rw [List.size_toArray, ← hl2]; exact htl)
    have e1' : ((i : Int) + 1) = ((i + 1 : Nat) : Int) := by omega
    have e2' : b + piled (ts.take i) + (t.length + 2) = b + piled (ts.take (i + 1)) := by omega
    rw [e1', e2']
    have tk1 : ts.take (i + 1) = ts.take i ++ [t] := by rw [List.take_add_one, ht]; rfl
    refine ih (i + 1) _ (upd H1 P (.lst ((ts.take (i + 1)).map V.str))) (by omega) hlt ?_ ?_ upd_same
    · refine (I1.tok _).lset (its' := its2 ++ [.str t s1.toks]) (t' := _) hp' hg2 (by simp) ?_ (by rw [List.length_map, List.length_take]; omega)
      rw [tk1, List.map_append]
      exact rv2.append (.cons ⟨_, rfl⟩ .nil)
    · exact (e.trans e1).mut hP Exb.upd
/-- list.__repr__ of such a list -/
theorem call_lrepr {A : Around} {g : List Code} (sb : Sub X (j + 2) A) (hg : A.guards = some []) (Fk : FnOk X.prog X.w X.K X.mg X.base CX0 j f fd ps sp) (hs : PySem.W.findIn X.K (.ref C) "__repr__" = some (some (.ref f))) (hf : PySem.W.isFn X.K (.ref f) = true) (hb : Binds X.K fd ps [])
    {a : Addr} {as : List Addr} {ts : List Str} (I : Inv X pins σ H s) (ha : H a = some (.lst (as.map V.ref))) (tl : Tells C sp H as ts) (hsz : (listText ts).length ≤ sizeLine)
    {Q : Value → Shared → Prop} (hQ : ∀ s' H' u, Inv X pins σ H' s' → Ex H H' → Q (.str (listText ts) u) s') : wpAny (model X.prog X.w) A (call (.builtin "list.__repr__") [.ref a]) Q X.xe s := by
  obtain ⟨_, its, n, rv, hl, hgt⟩ := I.lstM ha
  have hTy : s.TypeIs (.ref a) "list" := ⟨_, hgt, rfl⟩
  cases its with
  | nil =>
    have e0 : as = [] := List.map_eq_nil_iff.mp (List.eq_nil_of_length_eq_zero (by rw [hl]; rfl))
    have e1 : ts = [] := List.eq_nil_of_length_eq_zero (by rw [← tl.1, e0]; rfl)
    subst e1
    exact call_list_repr_empty hTy hgt rfl (hQ _ H _ (I.tok _) (Ex.refl H))
  | cons y l =>
    refine wpAny_call (codeAny_call_builtin F.slot_list_repr.plain F.entry_list_repr (F.slot_list_repr.check _ _ _ _ _ _ _ _ hTy (F.args_list_repr_1 _) ?_))
    refine wpAny_list_repr_head (A := A.in1) (b := 0) hg (fun v rest kw h => nomatch h) hgt rfl ?_
    refine wpAny_bind (m := newList []) (wpAny_newObj_type ?_)
    refine wpAny_pure ⟨F.quiet_list_repr_loop _, ?_⟩
    have hP := I.fresh
    have I1 := I.lnew (its := []) (ys := []) (t' := s.toks) .nil (by show 0 ≤ sizeLine; exact Nat.zero_le _)
    have e1 : Ex H (upd H s.heap.objs.size (.lst [])) := Ex.upd hP
    have z := rloop (sb.mono (Nat.le_succ _)) Fk hs hf hb (b := 0) (R := callEnd Q X.xe) ha hP tl (by omega) (fun s' H' u I' e' => hQ _ H' u (I'.tok _) e') (fun e s' h => h) as.length 0 _ _ (by omega) (by omega) I1 e1 upd_same
    exact z
theorem Tells.ex {H' : Hp} {as : List Addr} {ts : List Str} (h : Tells C sp H as ts) (e : Ex H H') : Tells C sp H' as ts := ⟨h.1, fun i a t h1 h2 H2 e2 => h.2 i a t h1 h2 H2 (e.trans e2)⟩
end
section
variable {P : Program} {w : World} {K : PySem.W.Frag} {mg : Str → Option Value} {base : Heap} {k j : Nat} {N Vz Sz G : List Str} {sc : Scope} {X : Cx} {σ : L2.St} {H : Hp} {Q : VK} {sp : Sp} {c : Addr} {e : Expr} {pos : Pos}
/-- repr of a list of things with an own __repr__ -/
theorem c_reprLO (C : CxI P w K mg base k N Vz Sz G sc X) (g : Gd X) (M : Mo P w K mg base j c "__repr__" sp) (hj : j + 3 ≤ k) {a : Addr} {as : List Addr} {ts : List Str} (ha : H a = some (.lst (as.map V.ref))) (tl : Tells c sp H as ts) (hsz : (listText ts).length ≤ sizeLine)
    (q : ∀ H', Ex H H' → Q (.str (listText ts)) H') : wC X (.builtin "repr") [.ref a] H Q := by
  obtain ⟨f, fd, ps, Fk, hs, hf, hb⟩ := M.ex
  have sb := sub_cx C
  obtain ⟨rfl, rfl, rfl, rfl, rfl, _, _, hr, _, _, _, _, _⟩ := C
  refine ⟨fun pins s σ us I r => ?_⟩
  obtain ⟨u, rfl, rx⟩ := vals1 r
  obtain rfl : u = Value.ref a := rx
  obtain ⟨_, its, n, rv, hl, hgt⟩ := I.lstM ha
  refine call_repr_slot (by have := hr.un; omega) ⟨_, hgt, rfl⟩ F.slot_list_repr.toG ?_
  refine call_lrepr (g := []) ((sb.mono hj).in1) g Fk hs hf hb I ha tl hsz fun s' H' u I' e' => ⟨_, u, rfl, .str (listText ts), H', I', ⟨u, rfl⟩, q H' e'⟩
/-- {xs!r} of such a list -/
theorem wE_fmtLO (C : CxI P w K mg base k N Vz Sz G sc X) (g : Gd X) (M : Mo P w K mg base j c "__repr__" sp) (hj : j + 2 ≤ k)
    (q : wE X e σ H fun x H1 => ∃ (a : Addr) (as : List Addr) (ts : List Str), x = .ref a ∧ H1 a = some (.lst (as.map V.ref)) ∧ Tells c sp H1 as ts ∧ (listText ts).length ≤ sizeLine ∧ ∀ H', Ex H1 H' → Q (.str (listText ts)) H') : wE X (.FormattedValue e 114 none pos) σ H Q := by
  obtain ⟨f, fd, ps, Fk, hs, hf, hb⟩ := M.ex
  have sb := sub_cx C
  obtain ⟨rfl, rfl, rfl, rfl, rfl, _, _, hr, _, _, _, _, _⟩ := C
  refine ⟨fun pins s I => ?_⟩
  refine wpAny_FormattedValue_repr (thn (q.run pins s I) fun v s1 hv => ?_)
  obtain ⟨x, H1, I1, r1, a, as, ts, rfl, ha, tl, hsz, q⟩ := hv
  obtain rfl : v = Value.ref a := r1
  obtain ⟨_, its, n, rv, hl, hgt⟩ := I1.lstM ha
  refine wpAny_pyReprObj_slot (by have := hr.un; omega) ⟨_, hgt, rfl⟩ F.slot_list_repr.toG ?_
  refine call_lrepr (g := []) (sb.mono hj) g Fk hs hf hb I1 ha tl hsz fun s' H' u I' e' => ⟨_, u, rfl, ?_⟩
  exact wpAny_formatField_str ⟨.str (listText ts), H', I', ⟨_, rfl⟩, q H' e'⟩ ⟨.str (listText ts), H', I'.tok _, ⟨_, rfl⟩, q H' e'⟩ hsz
end
end Rp
namespace Rp
open PySem PySem.Spec PyProof.Rows L2
/-! ### an own __repr__ that wants no repr under way -/
structure MoG (P : Program) (w : World) (K : PySem.W.Frag) (mg : Str → Option Value) (base : Heap) (k : Nat) (C : Addr) (m : Str) (sp : Sp) : Prop where
  ex : ∃ f fd ps, FnG P w K mg base CX0 k f fd ps sp ∧ PySem.W.findIn K (.ref C) m = some (some (.ref f)) ∧ PySem.W.isFn K (.ref f) = true ∧ Binds K fd ps []
section
variable {P : Program} {w : World} {K : PySem.W.Frag} {mg : Str → Option Value} {base : Heap} {k j : Nat} {N Vz Sz G : List Str} {sc : Scope} {X : Cx} {H : Hp} {Q : VK} {sp : Sp} {a c dx : Addr} {fs : List (Str × V)}
theorem c_reprOwnG (g : Gd X) (C : CxI P w K mg base k N Vz Sz G sc X) (M : MoG P w K mg base j c "__repr__" sp) (hj : j + 1 ≤ k) (ha : H a = some (.ins c dx fs)) (q : sp [.ref a] H (fun v H' => ∃ z : Str, v = .str z ∧ Q (.str z) H') E0) : wC X (.builtin "repr") [.ref a] H Q := by
  obtain ⟨f, fd, ps, Fk, hs, hf, hb⟩ := M.ex
  obtain ⟨rfl, rfl, rfl, rfl, rfl, _, _, hr, _, _, _, _, _⟩ := C
  refine ⟨fun pins s σ us I r => ?_⟩
  obtain ⟨u, rfl, rx⟩ := vals1 r
  obtain rfl : u = Value.ref a := rx
  obtain ⟨mA, J, _⟩ := ins_get I.hok ha
  obtain ⟨od, J, _⟩ := J.look
  have sb : Sub X (j + 1) X.A := ⟨hr.mono hj, rfl⟩
  have sb1 := sb.in1
  refine repr_K sb1.room.units0 I.kIn J hs hf ?_
  have e0 : Env0 X.prog X.w X.K X.mg X.base X.A.in1 X.stack s H := by
    have e := I.env0
    exact ⟨by rw [sb1.fr]; exact e.frames, e.mod, e.bs, e.bsz, e.funs, e.frf, e.hok, e.bare⟩
  have hl := Fk.len _ _ _ _ q
  have r2 : Vals [V.ref a] [Value.ref a] := .cons rfl .nil
  refine wpAny_call (codeAny_mono (Fk.run X.A.in1 X.stack s H ⟨[.ref a], []⟩ [.ref a] [.ref a] _ E0 sb1.room g e0 (by
    have := hb s [.ref a] I.kIn (by simpa using hl)
    simpa using this) r2 q) fun r' s' hq => ?_)
  cases r' with
  | error e => exact pass0 pins σ H s e s' I hq
  | ok fl =>
    cases fl with
    | ret w =>
      obtain ⟨z, H', I', rz, t, ez, q'⟩ := I.after hq
      subst ez
      obtain ⟨tk, rfl⟩ := rz
      exact ⟨t, tk, rfl, .str t, H', I', ⟨tk, rfl⟩, q'⟩
    | next => exact False.elim hq
    | brk => exact False.elim hq
    | cont => exact False.elim hq
end
end Rp
namespace Rp
open PySem PySem.Spec PyProof.Rows L2
section
variable {P : Program} {w : World} {K : PySem.W.Frag} {mg : Str → Option Value} {base : Heap} {k j : Nat} {N Vz Sz G : List Str} {sc : Scope} {x m : Str} {p pos apos : Pos} {o : Expr} {kws : List Keyword} {ks : List Str} {X : Cx} {C : Addr} {σ : L2.St} {H : Hp} {Q : VK} {dvs : List V} {sp : Sp}
/-- C() where it doesn't raise -/
theorem wE_makeQ0 (I : CxI P w K mg base k N Vz Sz G sc X) (M : Mx P w K mg base j x C dvs sp) (hx : x ∈ G) (hj : j + 1 ≤ k)
    (q : ∀ y dx, H y = none → H dx = none → dx ≠ y → sp (.ref y :: dvs) (upd (upd H dx (.own y)) y (.ins C dx [])) (fun v H2 => v = .non ∧ Q (.ref y) H2) E0) : wE X (.Call (.Name x p) [] [] pos) σ H Q := by
  obtain ⟨f, fd, ps, ds, Mk1, Fk, hm, hb, hd⟩ := M.ex
  obtain ⟨l, d1, _⟩ := I.glo hx
  obtain ⟨rfl, rfl, rfl, rfl, rfl, _, _, hr, _, _, _, _, _⟩ := I
  exact wE.of (pe_make0 Mk1 Fk (hr.mono hj) l hm hb hd passL d1) q
/-- the same where it does not raise -/
theorem wE_methKQ {pl : Sem Bool} {gV : List V → List V → List V} (I : CxI P w K mg base k N Vz Sz G sc X) (c : Cls K C) (M : Mmx P w K mg base j C m ks gV sp) (hj : j ≤ k)
    (hall : (backToKw pos (keywordEach kws X.env)).all (·.1.isSome) = true) (hks : (backToKw pos (keywordEach kws X.env)).filterMap (·.1) = ks) (hpl : ((backTo pos (starEach [] X.env)).any (·.1) || (backToKw pos (keywordEach kws X.env)).any (·.1.isNone)) = false)
    (ht : eval (.Call (.Attribute o m apos) [] kws pos) X.env = (do
      let ov ← eval o X.env
      standAt apos.atName
      let (f, first) ← holding [ov] (getMethod ov m pl)
      callWith pos f first (backTo pos (starEach [] X.env)) (backToKw pos (keywordEach kws X.env))))
    (q : wE X o σ H fun y H1 => MetQ C m y H1 (wK X kws σ H1 fun zs H2 => zs.length = ks.length ∧ sp (gV [y] zs) H2 Q E0)) : wE X (.Call (.Attribute o m apos) [] kws pos) σ H Q := by
  obtain ⟨f, fd, ps, g, hm, Fk, hb⟩ := M.ex
  obtain ⟨rfl, rfl, rfl, rfl, rfl, _, _, hr, _, _, _, _, _⟩ := I
  refine ⟨fun pins s I => ?_⟩
  refine PySem.W.methodCall_KW (pl := pl) (thn (q.run pins s I) fun u s1 ⟨y, H1, I1, rx, a, dx, fs, ex, ea, l, q1⟩ => ?_) ht
  subst ex
  obtain rfl : u = Value.ref a := rx
  refine getmeth_ok I1 ea c hm l ?_
  refine PySem.W.callWith_KW0 (first := [.ref a]) (h₀ := X.base) I.ok.mod.kin hm.kp hall (thn (q1.run pos pins s1 I1) fun ws s2 ⟨zs, H2, I2, rz, l2, q2⟩ => ⟨I2.kIn, ?_⟩) hpl
  rw [hks]
  exact run_fnN (us := [.ref a]) (vs := [.ref a]) Fk (hr.mono hj) hb passL I2 (.cons rfl .nil) rz rfl l2 q2
/-- C(k = v, ..): keywords alone, where it doesn't raise -/
theorem wE_makeKQ {gV : List V → List V → List V} (I : CxI P w K mg base k N Vz Sz G sc X) (M : Mkx P w K mg base j x C 0 ks gV sp) (hx : x ∈ G) (hj : j + 1 ≤ k)
    (hall : (backToKw pos (keywordEach kws X.env)).all (·.1.isSome) = true) (hks : (backToKw pos (keywordEach kws X.env)).filterMap (·.1) = ks) (hpl : ((backTo pos (starEach [] X.env)).any (·.1) || (backToKw pos (keywordEach kws X.env)).any (·.1.isNone)) = false)
    (q : wK X kws σ H fun zs H2 => zs.length = ks.length ∧ ∀ y dx, H2 y = none → H2 dx = none → dx ≠ y → sp (gV [.ref y] zs) (upd (upd H2 dx (.own y)) y (.ins C dx [])) (fun v H3 => v = .non ∧ Q (.ref y) H3) E0) : wE X (.Call (.Name x p) [] kws pos) σ H Q := by
  obtain ⟨f, fd, ps, g, Mk1, Fk, hm, hb⟩ := M.ex
  obtain ⟨l, d1, _⟩ := I.glo hx
  obtain ⟨rfl, rfl, rfl, rfl, rfl, _, _, hr, _, _, _, _, _⟩ := I
  refine wE.of (pe_makeK0 Mk1 Fk (hr.mono hj) l hm hb passL wK.pk hall hks d1 hpl) ?_
  exact ⟨fun pos pins s J => thn (q.run pos pins s J) fun us s1 ⟨zs, H2, J2, r2, l2, q2⟩ => ⟨zs, H2, J2, r2, rfl, l2, q2⟩⟩
theorem exb_mut {b y : Addr} {H H1 H2 : Hp} (e : Exb b H H1) (h : H y = none) (k : Exb y H1 H2) : Exb b H H2 := fun c o hc z => k c o (fun w => by rw [w, h] at z; cases z) (e c o hc z)
end
end Rp
namespace Rp
open PySem PySem.Spec PyProof.Rows L2
/-! ### zip of two, each a list or a tuple; a comprehension over it -/
def Itz2 (K : PySem.W.Frag) (a b : Addr) (j k : Bool) : It :=
  ⟨fun i H => ∃ (xs ys : List V) (x y : V), SqB K j H a xs ∧ SqB K k H b ys ∧ xs[i]? = some x ∧ ys[i]? = some y,
    fun i H v H' => ∃ T x y, v = .ref T ∧ H T = none ∧ H' = upd H T (.tup [x, y]) ∧ (∀ xs, SqB K j H a xs → xs[i]? = some x) ∧ (∀ ys, SqB K k H b ys → ys[i]? = some y),
    fun i H => ∃ xs ys : List V, SqB K j H a xs ∧ SqB K k H b ys ∧ xs.length = i ∧ ys.length = i⟩
def St2z (z TI TO i1 i2 a b : Addr) (j k : Bool) (i : Nat) (h : Heap) : Prop := IsZip h z TI TO .none ∧ IsTupOf2 h TI (.ref i1) (.ref i2) ∧ (∃ a1 a2, IsTupOf2 h TO a1 a2) ∧ ItrB j h i1 a i ∧ ItrB k h i2 b i
theorem turn_zip2 {P : Program} {w : World} {K : PySem.W.Frag} {elts : List Expr} {kk : Nat} {tpos : Pos} {z TI TO i1 i2 a b : Addr} {j k : Bool} (D : ZipSep2 z TI TO i1 i2 [i1, a] [i2, b]) (n1 : a ≠ i1) (n2 : b ≠ i2) :
    Turn P w K (.Tuple elts kk tpos) (Itz2 K a b j k) [z, TI, TO, i1, i2] z (St2z z TI TO i1 i2 a b j k) where
  mem := by simp
  obj := fun i h st d hd => by
    obtain ⟨hz, hTI, ⟨x, y, hTO⟩, h1, h2⟩ := st
    have e' : d = z ∨ d = TI ∨ d = TO ∨ d = i1 ∨ d = i2 := by simpa using hd
    rcases e' with q | q | q | q | q
    · rw [q]; exact ⟨_, hz, fun v q => nomatch q⟩
    · rw [q]; exact ⟨_, hTI, fun v q => nomatch q⟩
    · rw [q]; exact ⟨_, hTO, fun v q => nomatch q⟩
    · rw [q]; exact itrB_obj h1
    · rw [q]; exact itrB_obj h2
  keep := fun i h h' st kp => by
    obtain ⟨hz, hTI, ⟨x, y, hTO⟩, h1, h2⟩ := st
    exact ⟨kp z (by simp) _ hz, kp TI (by simp) _ hTI, ⟨x, y, kp TO (by simp) _ hTO⟩, itrB_at h1 fun o q => kp i1 (by simp) o q, itrB_at h2 fun o q => kp i2 (by simp) o q⟩
  item := by
    intro X hP hw hK hc i pins s σ H E I hf st hg
    subst hP hw hK
    obtain ⟨xs, ys, x, y, hqx, hqy, hx, hy⟩ := hg
    obtain ⟨its, rv, p⟩ := seqB_raw I hqx
    obtain ⟨its2, rv2, p2⟩ := seqB_raw I hqy
    have l1 : i < its.toArray.size := by have := (List.getElem?_eq_some_iff.mp hx).1; have := rv.length; simp only [List.size_toArray]; omega
    have l2 : i < its2.toArray.size := by have := (List.getElem?_eq_some_iff.mp hy).1; have := rv2.length; simp only [List.size_toArray]; omega
    have hh : X.A.in1.handled = none := I.ok.hd hc
    have G := GoesN.zip2 (elts := elts) (x1 := kk) (pos := tpos) (w := X.w) (prog := X.prog) D (drawsB hh j i1 a n1 its.toArray) (drawsB hh k i2 b n2 its2.toArray)
    obtain ⟨hz, hTI, hTO, h1, h2⟩ := st
    have hlt : ∀ d, d ∈ [z, TI, TO, i1, i2] → d < s.heap.objs.size := fun d hd => by
      have e' : d = z ∨ d = TI ∨ d = TO ∨ d = i1 ∨ d = i2 := by simpa using hd
      rcases e' with q | q | q | q | q
      · rw [q]; exact Heap.lt_size hz
      · rw [q]; exact Heap.lt_size hTI
      · rw [q]; obtain ⟨_, _, e⟩ := hTO; exact Heap.lt_size e
      · rw [q]; obtain ⟨_, e, _⟩ := itrB_obj h1; exact Heap.lt_size e
      · rw [q]; obtain ⟨_, e, _⟩ := itrB_obj h2; exact Heap.lt_size e
    refine wpAny_mono (G.goes i s (fun v s2 => ∃ x H', Inv X pins σ H' s2 ∧ RelV x v ∧ (Itz2 X.K a b j k).yld i H x H' ∧ St2z z TI TO i1 i2 a b j k (i + 1) s2.heap ∧ ∀ d ∈ [z, TI, TO, i1, i2], H' d = none) E (by omega) ⟨hz, hTI, hTO, ⟨h1, p⟩, ⟨h2, p2⟩⟩ fun v h' tk hY hS hk _ => ?_) (fun _ _ q => q) fun _ _ q => q
    obtain ⟨T, v1, v2, rfl, hT, e1, e2, hTup⟩ := hY
    obtain ⟨u1, hu1, ru1⟩ := rv.get hx
    obtain ⟨u2, hu2, ru2⟩ := rv2.get hy
    have q1 : u1 = v1 := by rw [show its.toArray[i]? = its[i]? by simp, hu1] at e1; exact Option.some.inj e1
    have q2 : u2 = v2 := by rw [show its2.toArray[i]? = its2[i]? by simp, hu2] at e2; exact Option.some.inj e2
    subst q1 q2
    have new : ObjOk X.prog X.w (upd H T (.tup [x, y])) h' T (.tup [x, y]) := ⟨by show 2 ≤ sizeLine; decide, [u1, u2], .cons ru1 (.cons ru2 .nil), hTup⟩
    have I1 : Inv X pins σ (upd H T (.tup [x, y])) { s with heap := h', toks := tk } :=
      I.turnedNew (t' := tk) (ch := [z, TI, TO, i1, i2]) (fun d o hb q => hk d o (fun hm => hb (by simp only [List.mem_cons, List.not_mem_nil, or_false] at hm ⊢; rcases hm with m | m | m | m <;> simp [m])) q) hf hT new
    refine ⟨.ref T, _, I1, rfl, ⟨T, x, y, rfl, I.hok.fresh hT, rfl, fun l hl => by rw [sqB_inj I hl hqx]; exact hx, fun l hl => by rw [sqB_inj I hl hqy]; exact hy⟩, ?_, fun d hd => ?_⟩
    · obtain ⟨s1, s2, s3, s4, s5⟩ := hS
      exact ⟨s1, s2, s3, s4.1, s5.1⟩
    · rw [upd_ne (Nat.ne_of_lt (Nat.lt_of_lt_of_le (hlt d hd) hT))]
      exact (hf d hd).1
  done := by
    intro X hP hw hK hc i pins s σ H E I hf st hg
    subst hP hw hK
    obtain ⟨xs, ys, hqx, hqy, m1, m2⟩ := hg
    obtain ⟨its, rv, p⟩ := seqB_raw I hqx
    obtain ⟨its2, rv2, p2⟩ := seqB_raw I hqy
    have l1 : its.toArray.size = i := by have := rv.length; simp only [List.size_toArray]; omega
    have l2 : its2.toArray.size = i := by have := rv2.length; simp only [List.size_toArray]; omega
    have hh : X.A.in1.handled = none := I.ok.hd hc
    have G := GoesN.zip2 (elts := elts) (x1 := kk) (pos := tpos) (w := X.w) (prog := X.prog) D (drawsB hh j i1 a n1 its.toArray) (drawsB hh k i2 b n2 its2.toArray)
    obtain ⟨hz, hTI, hTO, h1, h2⟩ := st
    have em : min its.toArray.size its2.toArray.size = i := by rw [l1, l2]; simp
    rw [em] at G
    refine G.stops s (fun s1 => Inv X pins σ H s1) E ⟨hz, hTI, hTO, ⟨h1, p⟩, ⟨h2, p2⟩⟩ fun h' tk hk _ => ?_
    exact I.turnedL (t' := tk) (ch := [z, TI, TO, i1, i2]) (fun d o hb q => hk d o (fun hm => hb (by simp only [List.mem_cons, List.not_mem_nil, or_false] at hm ⊢; rcases hm with m | m | m | m <;> simp [m])) q) hf
  self := fun A i s Q E st h => wpAny_pyIter_zip st.1 h
def iZip2 (K : PySem.W.Frag) (j k : Bool) (ta : TA) : TI := fun σ H R => ta σ H fun vs H1 => ∃ a b xs ys, vs = [.ref a, .ref b] ∧ SqB K j H1 a xs ∧ SqB K k H1 b ys ∧ R (Itz2 K a b j k) H1
theorem pi_zip2 {X : Cx} {e e2 : Expr} {ta : TA} {p pos tpos : Pos} {elts : List Expr} {kk : Nat} (j k : Bool) (hg : Gl X "zip") (hm : X.mg "zip" = none) (ha : PA X [e, e2] ta)
    (hs : starEach [e, e2] X.env = (false, eval e X.env) :: starEach [e2] X.env) (hpl : (backTo pos (starEach [e2] X.env)).any (·.1) = false) :
    PI X (.Tuple elts kk tpos) (.Call (.Name "zip" p) [e, e2] [] pos) (iZip2 X.K j k ta) := by
  refine ⟨fun pins s σ H R I h => ?_⟩
  refine Call_ (ld_blt I hg hm PyProof.Rows.boot_zip (PyProof.Rows.callWith_type1 (thn (ha.run pos pins s σ H _ I h) fun us s1 ⟨vs, H1, I1, r1, q1⟩ => ?_) hs hpl))
  obtain ⟨a, b, xs, ys, ex, hqx, hqy, q⟩ := q1
  subst ex
  obtain ⟨u1, u2, rfl, r, r'⟩ : ∃ u1 u2, us = [u1, u2] ∧ RelV (.ref a) u1 ∧ RelV (.ref b) u2 := by
    cases r1 with
    | cons r rr => cases rr with
      | cons r' rr => cases rr; exact ⟨_, _, rfl, r, r'⟩
  cases r
  cases r'
  obtain ⟨its, rv, p1⟩ := seqB_raw I1 hqx
  obtain ⟨its2, rv2, p2⟩ := seqB_raw I1 hqy
  have la : a < s1.heap.objs.size := isB2_lt p1
  have lb : b < s1.heap.objs.size := isB2_lt p2
  obtain ⟨oa, Ba, ha0⟩ := beginsB j a its.toArray
  obtain ⟨ob, Bb, hb0⟩ := beginsB k b its2.toArray
  refine zip_begins2 Ba Bb p1 p2 fun h' hz hTI hTO g1 g2 hsz hk => wpAny_pyIter_zip hz ?_
  have I2 : Inv X pins σ H1 { s1 with heap := h' } := I1.kept (t' := s1.toks) hk
  have S := zip_sep2 (N := s1.heap.objs.size) (fp1 := [a]) (fp2 := [b]) (fun d hd => by rw [List.mem_singleton.mp hd]; exact la) (fun d hd => by rw [List.mem_singleton.mp hd]; exact lb)
  refine ⟨s1.heap.objs.size + 4, [s1.heap.objs.size + 4, s1.heap.objs.size + 2, s1.heap.objs.size + 3, s1.heap.objs.size, s1.heap.objs.size + 1], _, _, H1, rfl, I2, turn_zip2 S (Nat.ne_of_lt la) (Nat.ne_of_lt (Nat.lt_succ_of_lt lb)),
    ⟨hz, hTI, ⟨_, _, hTO⟩, ha0 _ _ g1, hb0 _ _ g2⟩, fun d hdm => ?_, q⟩
  have hle : s1.heap.objs.size ≤ d := by
    have e' : d = s1.heap.objs.size + 4 ∨ d = s1.heap.objs.size + 2 ∨ d = s1.heap.objs.size + 3 ∨ d = s1.heap.objs.size ∨ d = s1.heap.objs.size + 1 := by simpa using hdm
    rcases e' with z | z | z | z | z
    · rw [z]; exact Nat.le_add_right _ _
    · rw [z]; exact Nat.le_add_right _ _
    · rw [z]; exact Nat.le_add_right _ _
    · rw [z]; exact Nat.le_refl _
    · rw [z]; exact Nat.le_add_right _ _
  exact I1.fpOk hle (I1.hok.fresh hle)
section
variable {P : Program} {w : World} {K : PySem.W.Frag} {mg : Str → Option Value} {base : Heap} {k : Nat} {N Vz Sz' G : List Str} {sc scope : Scope} {X : Cx} {σ : L2.St} {H : Hp} {Q : VK} {elt : Expr} {elts ifs : List Expr} {e e2 : Expr} {p1 p2 pos tpos : Pos} {kk : Nat}
/-- the turns of a comprehension over zip(xs, ys), both of one length -/
def LcZ (P : Program) (w : World) (K : PySem.W.Frag) (mg : Str → Option Value) (base : Heap) (k : Nat) (N Vc Sc' Gc : List Str) (scope : Scope) (j1 j2 : Bool) (ix : List Nat) (elt tg : Expr) (ifs : List Expr) (σ : L2.St) (vs : List V) (H1 : Hp) (Q : Addr → Hp → Prop) : Prop :=
  ∃ a b xs ys, vs = [.ref a, .ref b] ∧ SqB K j1 H1 a xs ∧ SqB K j2 H1 b ys ∧ xs.length = ys.length ∧ ∀ D, H1 D = none → ∃ Pv : Nat → Hp → Prop, Pv 0 (L2.upd H1 D (.lst [])) ∧ (∀ i H, i ≤ xs.length → Pv i H → SqB K j1 H a xs ∧ SqB K j2 H b ys) ∧
    (∀ i x y T H H', xs[i]? = some x → ys[i]? = some y → Pv i H → H T = none → Ex H H' → H' T = some (.tup [x, y]) → LcStep P w K mg base k N Vc Sc' Gc scope ix elt tg ifs σ D (.ref T) H' (Pv (i + 1))) ∧ ∀ H, Pv xs.length H → Q D H
theorem wE_lcZ (j1 j2 : Bool) (own : List (Str × Nat)) (Vc Sc' Gc : List Str) (C : CxI P w K mg base k N Vz Sz' G sc X) (ob : blkC N sc scope own = true) (ok : namesOk Vc Sc' Gc (relS scope sc) = true) (hl : localsOk Sc' (relS scope sc) = true) (hk : scope.kind = .function)
    (hm : mg "zip" = none) (hx : ("zip" : Str) ∈ G) (hs : starEach [e, e2] X.env = (false, eval e X.env) :: starEach [e2] X.env) (hpl : (backTo p2 (starEach [e2] X.env)).any (·.1) = false)
    (q : wA X [e, e2] σ H fun vs H1 => LcZ P w K mg base k N Vc Sc' Gc (relS scope sc) j1 j2 (own.map (·.2)) elt (.Tuple elts kk tpos) ifs σ vs H1 fun D H => Q (.ref D) H) :
    wE X (.ListComp elt [⟨.Tuple elts kk tpos, .Call (.Name "zip" p1) [e, e2] [] p2, ifs, 0⟩] scope pos) σ H Q := by
  obtain ⟨l, _, _⟩ := C.glo hx
  refine wE.of (pe_lc C.calm (by rw [C.eN]; exact C.nd) (pi_zip2 j1 j2 l (by rw [C.em]; exact hm) wA.pa hs hpl) (blkOk_by (own := own) (by rw [C.eN, C.es]; exact ob)) (blk_pg C ok hl hk) (fun s H Ca cl fp => blk_pts C ok hl hk s H Ca cl fp ifs) (blk_pe C ok hl hk) (fun _ => rfl)) ?_
  show wA X [e, e2] σ H _
  refine ⟨fun pp pins s I => thn (q.run pp pins s I) ?_⟩
  rintro uu s1 ⟨vs, H1, I1, r1, a, b, xs, ys, ev, q1, q2, ll, q3⟩
  refine ⟨vs, H1, I1, r1, a, b, xs, ys, ev, by rw [C.eK]; exact q1, by rw [C.eK]; exact q2, fun D hD => ?_⟩
  obtain ⟨Pv, h0, hq, hst, hd⟩ := q3 D hD
  refine ⟨fun i m H => m = xs.length - i ∧ i ≤ xs.length ∧ Pv i H, ⟨xs.length, rfl, Nat.zero_le _, h0⟩, ?_⟩
  rintro i m H ⟨rfl, hi, pv⟩
  obtain ⟨k1, k2⟩ := hq i H hi pv
  by_cases hlt : i < xs.length
  · have g1 : xs[i]? = some xs[i] := List.getElem?_eq_getElem hlt
    have g2 : ys[i]? = some (ys[i]'(by omega)) := List.getElem?_eq_getElem _
    refine .inr ⟨⟨xs, ys, _, _, by rw [C.eK]; exact k1, by rw [C.eK]; exact k2, g1, g2⟩, Pv (i + 1), fun H' p' => ⟨xs.length - (i + 1), by omega, rfl, hlt, p'⟩, fun v H' y => ?_⟩
    obtain ⟨T, x', y', rfl, hT, rfl, f1, f2⟩ := y
    exact hst i x' y' T H _ (f1 xs (by rw [C.eK]; exact k1)) (f2 ys (by rw [C.eK]; exact k2)) pv hT (Ex.upd hT) upd_same
  · have e' : i = xs.length := by omega
    subst e'
    exact .inl ⟨⟨xs, ys, by rw [C.eK]; exact k1, by rw [C.eK]; exact k2, rfl, by omega⟩, hd H pv⟩
end
section
variable {P : Program} {w : World} {K : PySem.W.Frag} {mg : Str → Option Value} {base : Heap} {k j : Nat} {N Vz Sz G : List Str} {sc : Scope} {x m : Str} {p pos apos : Pos} {ks : List Str} {kws : List Keyword} {X : Cx} {C : Addr} {σ : L2.St} {H : Hp} {Q : VK} {dvs : List V} {sp : Sp} {o : Expr} {E : XK}
/-- o.m() where it doesn't raise -/
theorem wE_methQ0 {pl : Sem Bool} (I : CxI P w K mg base k N Vz Sz G sc X) (c : Cls K C) (M : Me P w K mg base j C m dvs sp) (hj : j ≤ k)
    (ht : eval (.Call (.Attribute o m apos) [] [] pos) X.env = (do
      let ov ← eval o X.env
      standAt apos.atName
      let (f, first) ← holding [ov] (getMethod ov m pl)
      callWith pos f first (backTo pos (starEach [] X.env)) (backToKw pos (keywordEach [] X.env))))
    (q : wE X o σ H fun y H1 => MetQ C m y H1 (sp (y :: dvs) H1 Q E0)) : wE X (.Call (.Attribute o m apos) [] [] pos) σ H Q := by
  obtain ⟨f, fd, ps, ds, hm, Fk, hb, hd⟩ := M.ex
  obtain ⟨rfl, rfl, rfl, rfl, rfl, _, _, hr, _, _, _, _, _⟩ := I
  refine wE.of (pe_meth0 wE.pe c hm Fk (hr.mono hj) hb hd passL ht) ⟨fun pins s I => thn (q.run pins s I) ?_⟩
  rintro u s1 ⟨y, H1, I1, r1, ad, dx, fs, e1, e2, e3, q1⟩
  exact ⟨y, H1, I1, r1, ad, dx, fs, e1, e2, e3, q1⟩
/-- x(k = v, ..) where it does not raise -/
theorem wE_callKQ {gV : List V → List V → List V} (I : CxI P w K mg base k N Vz Sz G sc X) (D : Dk P w K mg base j x 0 ks gV sp) (hx : x ∈ G) (hj : j ≤ k)
    (hall : (backToKw pos (keywordEach kws X.env)).all (·.1.isSome) = true) (hks : (backToKw pos (keywordEach kws X.env)).filterMap (·.1) = ks) (hpl : ((backTo pos (starEach [] X.env)).any (·.1) || (backToKw pos (keywordEach kws X.env)).any (·.1.isNone)) = false)
    (q : wK X kws σ H fun zs H2 => zs.length = ks.length ∧ sp (gV [] zs) H2 Q E0) : wE X (.Call (.Name x p) [] kws pos) σ H Q := by
  obtain ⟨f, fd, ps, g, Fk, hm, kp, hb⟩ := D.ex
  obtain ⟨l, d1, _⟩ := I.glo hx
  obtain ⟨rfl, rfl, rfl, rfl, rfl, _, _, hr, _, _, _, _, _⟩ := I
  refine ⟨fun pins s J => wpAny_Call_Name_kw (ld_glob J l hm ?_ d1)⟩
  refine PySem.W.callWith_KW0 (first := []) (h₀ := X.base) J.ok.mod.kin kp hall (thn (q.run pos pins s J) fun ws s2 ⟨zs, H2, J2, rz, l2, q2⟩ => ⟨J2.kIn, ?_⟩) hpl
  rw [hks]
  exact run_fnN (us := []) (vs := []) Fk (hr.mono hj) hb passL J2 .nil rz rfl l2 q2
end
end Rp
namespace Rp
open PySem PySem.Spec PyProof.Rows L2
section
variable {P : Program} {w : World} {K : PySem.W.Frag} {mg : Str → Option Value} {base : Heap} {k : Nat} {N Vz Sz G Vc Sc' Gc : List Str} {sc scope : Scope} {X : Cx} {elt tg it c e e2 : Expr} {ifs elts : List Expr} {kk : Nat} {σ : L2.St} {H : Hp} {pos p1 p2 tpos : Pos} {Q : VK} {D : Ends}
/-- y = [.. for .. in range(e)] on one line -/
theorem wS_lcR {y : Str} {py spos : Pos} (own : List (Str × Nat)) (Vc Sc' Gc : List Str) (C : CxI P w K mg base k N Vz Sz G sc X) (ob : blkC N sc scope own = true) (ok : namesOk Vc Sc' Gc (relS scope sc) = true) (hl : localsOk Sc' (relS scope sc) = true) (hk : scope.kind = .function)
    (hyN : y ∈ N) (hy : (sc.names.lookup y == some .local) = true) (hp : (py.line == pos.line) = true) (ha : (scope.names.any fun (n, k) => n == y && (k == .local || k == .cell)) = false)
    (hm : mg "range" = none) (hx : ("range" : Str) ∈ G) (hst : starEach [e] X.env = [(false, eval e X.env)])
    (q : wE X e σ H fun v H1 => LcR P w K mg base k N Vc Sc' Gc (relS scope sc) (own.map (·.2)) elt tg ifs σ v H1 fun Da H => Put N σ y (.ref Da) fun σ' => D.nx σ' H) :
    wS X (.Assign [.Name y py] (.ListComp elt [⟨tg, .Call (.Name "range" p1) [e] [] p2, ifs, 0⟩] scope pos) spos) D σ H := by
  obtain ⟨l, _, _⟩ := C.glo hx
  have hyl : X.env.scope.names.lookup y = some .local := by rw [C.es]; exact eq_of_beq hy
  have hin : ∃ i, N[i]? = some y ∧ ∀ (v : V) R, Put N σ y v R → R (σ.set i (some v)) := by
    obtain ⟨i, hi⟩ := List.getElem?_of_mem hyN
    refine ⟨i, hi, fun v R q => ?_⟩
    obtain ⟨σ', p, r⟩ := q
    obtain ⟨j, hj, rfl⟩ := p.ix
    rw [nodup_ix C.nd hi hj]
    exact r
  obtain ⟨i, hi, hput⟩ := hin
  refine wS.of (ps_setLc (i := i) C.calm (by rw [C.eN]; exact C.nd) (by rw [C.eN]; exact hi) hyl (sw_true (by rw [C.es]; exact C.fk) hyl hp ha) (pi_range1 l (by rw [C.em]; exact hm) (pa_cons wE.pe pa_nil hst) hst) (blkOk_by (own := own) (by rw [C.eN, C.es]; exact ob)) (blk_pg C ok hl hk) (fun s H Ca cl fp => blk_pts C ok hl hk s H Ca cl fp ifs) (blk_pe C ok hl hk) (fun _ => rfl)) ?_
  refine ⟨fun pins s I => thn (q.run pins s I) ?_⟩
  rintro u s1 ⟨v, H1, I1, r1, n, rfl, hn, q1⟩
  refine ⟨_, H1, I1, r1, n, rfl, by omega, by omega, ?_⟩
  rw [show ((n : Int).toNat) = n from Int.toNat_natCast n]
  intro Da hD
  obtain ⟨Pv, h0, hs, hd⟩ := q1 Da hD
  refine ⟨fun i m H => m = n - i ∧ i ≤ n ∧ Pv i H, ⟨n, rfl, Nat.zero_le _, h0⟩, ?_⟩
  rintro j m H ⟨rfl, hj, p⟩
  by_cases hlt : j < n
  · refine .inr ⟨hlt, Pv (j + 1), fun H' p' => ⟨n - (j + 1), by omega, rfl, hlt, p'⟩, fun x H' y => ?_⟩
    obtain ⟨rfl, rfl⟩ := y
    rw [Int.zero_add]
    exact hs j H' hlt p
  · have e' : j = n := by omega
    subst e'
    exact .inl ⟨Nat.le_refl _, hput _ _ (hd H p)⟩
/-- y = [.. for a, b in zip(e, e2)] on one line -/
theorem wS_lcZ (j1 j2 : Bool) {y : Str} {py spos : Pos} (own : List (Str × Nat)) (Vc Sc' Gc : List Str) (C : CxI P w K mg base k N Vz Sz G sc X) (ob : blkC N sc scope own = true) (ok : namesOk Vc Sc' Gc (relS scope sc) = true) (hl : localsOk Sc' (relS scope sc) = true) (hk : scope.kind = .function)
    (hyN : y ∈ N) (hy : (sc.names.lookup y == some .local) = true) (hp : (py.line == pos.line) = true) (ha : (scope.names.any fun (n, k) => n == y && (k == .local || k == .cell)) = false)
    (hm : mg "zip" = none) (hx : ("zip" : Str) ∈ G) (hs : starEach [e, e2] X.env = (false, eval e X.env) :: starEach [e2] X.env) (hpl : (backTo p2 (starEach [e2] X.env)).any (·.1) = false)
    (q : wA X [e, e2] σ H fun vs H1 => LcZ P w K mg base k N Vc Sc' Gc (relS scope sc) j1 j2 (own.map (·.2)) elt (.Tuple elts kk tpos) ifs σ vs H1 fun Da H => Put N σ y (.ref Da) fun σ' => D.nx σ' H) :
    wS X (.Assign [.Name y py] (.ListComp elt [⟨.Tuple elts kk tpos, .Call (.Name "zip" p1) [e, e2] [] p2, ifs, 0⟩] scope pos) spos) D σ H := by
  obtain ⟨l, _, _⟩ := C.glo hx
  have hyl : X.env.scope.names.lookup y = some .local := by rw [C.es]; exact eq_of_beq hy
  have hin : ∃ i, N[i]? = some y ∧ ∀ (v : V) R, Put N σ y v R → R (σ.set i (some v)) := by
    obtain ⟨i, hi⟩ := List.getElem?_of_mem hyN
    refine ⟨i, hi, fun v R q => ?_⟩
    obtain ⟨σ', p, r⟩ := q
    obtain ⟨j, hj, rfl⟩ := p.ix
    rw [nodup_ix C.nd hi hj]
    exact r
  obtain ⟨i, hi, hput⟩ := hin
  refine wS.of (ps_setLc (i := i) C.calm (by rw [C.eN]; exact C.nd) (by rw [C.eN]; exact hi) hyl (sw_true (by rw [C.es]; exact C.fk) hyl hp ha) (pi_zip2 j1 j2 l (by rw [C.em]; exact hm) wA.pa hs hpl) (blkOk_by (own := own) (by rw [C.eN, C.es]; exact ob)) (blk_pg C ok hl hk) (fun s H Ca cl fp => blk_pts C ok hl hk s H Ca cl fp ifs) (blk_pe C ok hl hk) (fun _ => rfl)) ?_
  show wA X [e, e2] σ H _
  refine ⟨fun pp pins s I => thn (q.run pp pins s I) ?_⟩
  rintro uu s1 ⟨vs, H1, I1, r1, a, b, xs, ys, ev, q1, q2, ll, q3⟩
  refine ⟨vs, H1, I1, r1, a, b, xs, ys, ev, by rw [C.eK]; exact q1, by rw [C.eK]; exact q2, fun Da hD => ?_⟩
  obtain ⟨Pv, h0, hq, hst, hd⟩ := q3 Da hD
  refine ⟨fun i m H => m = xs.length - i ∧ i ≤ xs.length ∧ Pv i H, ⟨xs.length, rfl, Nat.zero_le _, h0⟩, ?_⟩
  rintro j m H ⟨rfl, hj, pv⟩
  obtain ⟨k1, k2⟩ := hq j H hj pv
  by_cases hlt : j < xs.length
  · have g1 : xs[j]? = some xs[j] := List.getElem?_eq_getElem hlt
    have g2 : ys[j]? = some (ys[j]'(by omega)) := List.getElem?_eq_getElem _
    refine .inr ⟨⟨xs, ys, _, _, by rw [C.eK]; exact k1, by rw [C.eK]; exact k2, g1, g2⟩, Pv (j + 1), fun H' p' => ⟨xs.length - (j + 1), by omega, rfl, hlt, p'⟩, fun v H' y => ?_⟩
    obtain ⟨T, x', y', rfl, hT, rfl, f1, f2⟩ := y
    exact hst j x' y' T H _ (f1 xs (by rw [C.eK]; exact k1)) (f2 ys (by rw [C.eK]; exact k2)) pv hT (Ex.upd hT) upd_same
  · have e' : j = xs.length := by omega
    subst e'
    exact .inl ⟨⟨xs, ys, by rw [C.eK]; exact k1, by rw [C.eK]; exact k2, rfl, by omega⟩, hput _ _ (hd H pv)⟩
end
end Rp
namespace Rp
open PySem PySem.Spec PyProof.Rows L2
/-! ### a table's keys, what is no key of it -/
theorem says_dic {fa : List He.Fa} {fn : List He.DefD} {ts : List He.Tab} {w : World} {K : PySem.W.Frag} (c : He.SaysT fa fn ts w K) (i : Nat) {t : He.Tab} (h : ts[i]? = some t := by rfl) : He.dicW K (t.1 K) = some (He.keysIn w.params t.2) := by
  have e : ts.map (fun t => He.dicW K (t.1 K)) = ts.map fun t => some (He.keysIn w.params t.2) := congrArg (fun z : He.AlT => z.2) c
  have e2 : (ts.map fun t => He.dicW K (t.1 K))[i]? = (ts.map fun t => some (He.keysIn w.params t.2))[i]? := by rw [e]
  rw [List.getElem?_map, List.getElem?_map, h] at e2
  exact Option.some.inj e2
theorem key_in {P : Params} {z : Str} {l : List DictEntry} {ks : List Str} (h : l.map He.keyOf = He.keysIn P ks) {e : DictEntry} (he : e ∈ l) : ∃ k t, k ∈ ks ∧ e.key = .str k t := by
  have m : He.keyOf e ∈ He.keysIn P ks := by rw [← h]; exact List.mem_map.mpr ⟨e, he, rfl⟩
  obtain ⟨k, hk, ek⟩ := List.mem_map.mp m
  unfold He.keyOf at ek
  split at ek
  · rename_i x t q
    have := (Prod.mk.inj (Option.some.inj ek)).1
    exact ⟨x, t, this ▸ hk, q⟩
  · cases ek
theorem nsIn_none {K : PySem.W.Frag} {w : World} {a : Addr} {ks : List Str} {z : Str} (h : He.dicW K a = some (He.keysIn w.params ks)) (hz : ¬ z ∈ ks) : PySem.W.nsIn K a z = some none := by
  unfold He.dicW at h
  unfold PySem.W.nsIn
  split at h
  · rename_i c es n sl q
    rw [q]
    split at h
    · have h := Option.some.inj h
      have f : es.toList.find? (·.key.isStr z) = none := by
        rw [List.find?_eq_none]
        intro e he hs
        obtain ⟨k, t, hk, ek⟩ := key_in (z := z) h he
        rw [ek] at hs
        have hs : (k == z) = true := hs
        exact hz ((eq_of_beq hs) ▸ hk)
      have g : es.toList.any (·.refKey) = false := by
        rw [List.any_eq_false]
        intro e he hs
        obtain ⟨k, t, hk, ek⟩ := key_in (z := z) h he
        unfold DictEntry.refKey at hs
        rw [ek] at hs
        cases hs
      show (match es.toList.find? (·.key.isStr z) with
        | some e => some (some e.val)
        | none => if es.toList.any (·.refKey) then none else some none) = some none
      rw [f]
      show (if es.toList.any (·.refKey) = true then (none : Option (Option Value)) else some none) = some none
      rw [g]
      rfl
    · cases h
  · cases h
/-! ### dicts made here, text keys -/
section
variable {P : Program} {w : World} {K : PySem.W.Frag} {mg : Str → Option Value} {base : Heap} {k : Nat} {N Vz Sz' G : List Str} {sc : Scope} {X : Cx} {σ : L2.St} {H : Hp} {Q : VK} {x : Str} {v : V} {c d : Expr} {pos : Pos}
theorem i_dk {p : Addr} {kvs : List (Key × V)} (C : CxI P w K mg base k N Vz Sz' G sc X) (hs : PlainIx d) (h : H p = some (.dK kvs)) (l : valV kvs (.inr x) = some v) (q : Q v H) : wIx X c d (.ref p) (.str x) H Q := by
  refine ⟨fun pins s σ v0 u I rx ry => ?_⟩
  have g : DGet H p (.str x) (some v) := .inl ⟨kvs, .inr x, .inl h, rfl, l.symm⟩
  obtain rfl : v0 = Value.ref p := rx
  exact tail_any (dict_typeIs I g) slot_dict_getitem.lookup (d_getItem (by have := C.room.units; omega) I g ry fun w' s3 I3 rw' => ⟨v, H, I3, rw', q⟩) (hs _ _)
/-- {a1: e1, .., a5: e5} -/
theorem wE_dispK5 {a1 a2 a3 a4 a5 e1 e2 e3 e4 e5 : Expr}
    (q : ∀ p H1, H p = none → Ex H H1 → H1 p = some (.dK []) → wE X a1 σ H1 fun y1 H2 => wE X e1 σ H2 fun x1 H3 => wE X a2 σ H3 fun y2 H4 => wE X e2 σ H4 fun x2 H5 => wE X a3 σ H5 fun y3 H6 => wE X e3 σ H6 fun x3 H7 => wE X a4 σ H7 fun y4 H8 => wE X e4 σ H8 fun x4 H9 => wE X a5 σ H9 fun y5 HA => wE X e5 σ HA fun x5 HB =>
      HB p = some (.dK []) ∧ ∃ kvs : List (Key × V), [(y1, x1), (y2, x2), (y3, x3), (y4, x4), (y5, x5)] = kvs.map (fun kv => (kV kv.1, kv.2)) ∧ kvs.length ≤ 15 ∧ ∀ HC, Exb p HB HC → HC p = some (.dK (mergeK [] kvs)) → Q (.ref p) HC) :
    wE X (.Dict [some a1, some a2, some a3, some a4, some a5] [e1, e2, e3, e4, e5] pos) σ H Q := by
  refine wE.of (pe_disp (pps_cons (wE.pe (e := a1)) (wE.pe (e := e1)) (pps_cons (wE.pe (e := a2)) (wE.pe (e := e2)) (pps_cons (wE.pe (e := a3)) (wE.pe (e := e3)) (pps_cons (wE.pe (e := a4)) (wE.pe (e := e4)) (pps_cons (wE.pe (e := a5)) (wE.pe (e := e5)) pps_nil))))) rfl rfl (by simp) (by show 5 ≤ 15; decide)) fun p hp => ?_
  refine ⟨fun pins s I => thn ((q p _ hp (Ex.upd hp) upd_same).run pins s I) ?_⟩
  rintro u s1 ⟨y1, H1, I1, r1, q1⟩
  refine ⟨y1, H1, I1, r1, ⟨fun pins s I => thn (q1.run pins s I) ?_⟩⟩
  rintro u s1 ⟨x1, H2, I2, r2, q2⟩
  refine ⟨x1, H2, I2, r2, ⟨fun pins s I => thn (q2.run pins s I) ?_⟩⟩
  rintro u s1 ⟨y2, H3, I3, r3, q3⟩
  refine ⟨y2, H3, I3, r3, ⟨fun pins s I => thn (q3.run pins s I) ?_⟩⟩
  rintro u s1 ⟨x2, H4, I4, r4, q4⟩
  refine ⟨x2, H4, I4, r4, ⟨fun pins s I => thn (q4.run pins s I) ?_⟩⟩
  rintro u s1 ⟨y3, H5, I5, r5, q5⟩
  refine ⟨y3, H5, I5, r5, ⟨fun pins s I => thn (q5.run pins s I) ?_⟩⟩
  rintro u s1 ⟨x3, H6, I6, r6, q6⟩
  refine ⟨x3, H6, I6, r6, ⟨fun pins s I => thn (q6.run pins s I) ?_⟩⟩
  rintro u s1 ⟨y4, H7, I7, r7, q7⟩
  refine ⟨y4, H7, I7, r7, ⟨fun pins s I => thn (q7.run pins s I) ?_⟩⟩
  rintro u s1 ⟨x4, H8, I8, r8, q8⟩
  refine ⟨x4, H8, I8, r8, ⟨fun pins s I => thn (q8.run pins s I) ?_⟩⟩
  rintro u s1 ⟨y5, H9, I9, r9, q9⟩
  refine ⟨y5, H9, I9, r9, ⟨fun pins s I => thn (q9.run pins s I) ?_⟩⟩
  rintro u s1 ⟨x5, H10, I10, r10, q10, kvs, ek, lk, qq⟩
  exact ⟨x5, H10, I10, r10, q10, kvs, ek, lk, qq _ Exb.upd upd_same⟩
end
end Rp
namespace Rp
open PySem PySem.Spec PyProof.Rows L2
/-! ### the signs of a text, one by one; a call of nothing -/
section
variable {P : Program} {w : World} {K : PySem.W.Frag} {mg : Str → Option Value} {base : Heap} {k j : Nat} {N Vz Sz G ps : List Str} {sc : Scope} {X : Cx} {σ : L2.St} {H : Hp} {Q : VK} {pos p : Pos} {x : Str} {dvs : List V} {sp : Sp}
theorem wS_text {tg it : Expr} {sts : List Stmt} {D : Ends} (C : CxI P w K mg base k N Vz Sz G sc X) (hf : ∀ x, foldedSetIterable it X.env x = pure x) (q : wE X it σ H fun v H1 => ∃ z : Str, v = .str z ∧ ∃ Pv : Nat → L2.St → Hp → Prop, Pv 0 σ H1 ∧
      (∀ i c σ H, z.cps[i]? = some c → Pv i σ H → wG X tg (.str ⟨#[c]⟩) σ H fun σ2 H2 => wB X sts { D with nx := Pv (i + 1), ct := Pv (i + 1), bk := D.nx } σ2 H2) ∧ ∀ σ H, Pv z.cps.size σ H → D.nx σ H)
    : wS X (.For tg it sts [] pos) D σ H := by
  refine wS.of (ps_for C.po C.calm (pi_str wE.pe) wG.pg wB.pss hf) ?_
  refine ⟨fun pins s I => ?_⟩
  refine thn (q.run pins s I) ?_
  rintro u s' ⟨v, H1, I1, r, z, rfl, Pv, h0, hs, hd⟩
  refine ⟨_, H1, I1, r, z, rfl, fun i m σ H => m = z.cps.size - i ∧ i ≤ z.cps.size ∧ Pv i σ H, ⟨z.cps.size, rfl, Nat.zero_le _, h0⟩, ?_⟩
  rintro i m σ H ⟨rfl, hi, p⟩
  by_cases hlt : i < z.cps.size
  · refine .inr ⟨hlt, Pv (i + 1), fun σ' H' p' => ⟨z.cps.size - (i + 1), by omega, rfl, hlt, p'⟩, fun x H' y => ?_⟩
    obtain ⟨rfl, c, hc, rfl⟩ := y
    exact hs i c σ _ hc p
  · have e' : i = z.cps.size := by omega
    subst e'
    exact .inl ⟨Nat.le_refl _, hd σ H p⟩
theorem wE_call0 (C : CxI P w K mg base k N Vz Sz G sc X) (D : Df P w K mg base j x ps dvs sp) (hx : x ∈ G) (hj : j ≤ k)
    (q : sp dvs H Q E0) : wE X (.Call (.Name x p) [] [] pos) σ H Q := by
  obtain ⟨f, fd, ds, Fk, hm, kp, hb, hd⟩ := D.ex
  obtain ⟨l, d1, _⟩ := C.glo hx
  obtain ⟨rfl, rfl, rfl, rfl, rfl, _, _, hr, _, _, _, _, _⟩ := C
  exact wE.of (pe_call0 Fk (hr.mono hj) l hm kp hb hd pass0 d1) (by show sp ([] ++ dvs) H Q E0; exact q)
end
end Rp
namespace Rp
open PySem PySem.Spec PyProof.Rows L2
/-! ### set(xs) of a list of ints, sorted(set) -/
abbrev freshSet (w : World) : Obj := { cls := .type "set", dict := none, data := .set #[] 0 (.fresh 0 0 (!w.params.followText "set-order")) }
/-- what set(xs) leaves: the set of the ints, all else as it was -/
def SetMade (w : World) (s s2 : Shared) (ns : List Int) : Prop := ∃ h' tk c, s2 = { s with heap := h', toks := tk } ∧ SetR w h' s.heap.objs.size (fun j => decide (j ∈ ns)) c ∧ c ≤ ns.length ∧ ∀ b o, s.heap.get? b = some o → h'.get? b = some o
section
variable {P : Program} {w : World} {A : Around} {E : Value → Shared → Prop} {s : Shared}
theorem call_set_ints {l : Addr} {items : Array Value} {ns : List Int} {Q : Value → Shared → Prop} (hh : A.handled = none) (hl : s.heap.IsList l items) (hit : IntsAre items.toList ns) (hb : ns.length + 1 < scanBound)
    (q : ∀ s2, SetMade w s s2 ns → Q (.ref s.heap.objs.size) s2) : wpAny (model P w) A (call (.type "set") [.ref l]) Q E s := by
  have hsz : items.size = ns.length := by have z := IntsAre.length hit; rwa [Array.length_toList] at z
  obtain ⟨c, tl, hmro⟩ := F.called_set.mro
  have hmade := F.called_set.made
  have hsub := F.called_set.sub
  refine wpAny_call (codeAny_of_tree ?_)
  show wpAny _ _ (callAny (.type "set") _) _ _ _
  refine wpAny_pure ⟨Code.quiet_builtin _ (by decide +kernel), codeAny_builtin F.entry_type_call ?_⟩
  rw [Around.under_plain (weight_type_call_type "set" [.ref l] []) rfl]
  have h1 := F.called_set.notType
  have h2 := F.called_set.canCreate
  have hct := F.typeCall_set_1 (.ref l)
  repeat (any_goals (first | assumption | wp_step))
  refine codeAny_mono (code_set_led1 (.ref l) (E := E) (Q₁ := fun obj s₁ => obj = .ref s.heap.objs.size ∧ s₁ = { s with heap := s.heap.push (freshSet w) }) ⟨rfl, rfl⟩) fun r s₁ hr => ?_
  rcases r with e | fl
  · exact hr
  cases fl with
  | ret obj =>
    obtain ⟨rfl, rfl⟩ := hr
    have hS : (s.heap.push (freshSet w)).get? s.heap.objs.size = some (freshSet w) := Heap.get?_push_size _ rfl
    have hT : Shared.TypeIs { s with heap := s.heap.push (freshSet w) } (.ref s.heap.objs.size) "set" := ⟨_, hS, rfl⟩
    have hli := F.called_set.init.lookup
    have hbi := F.called_set.init.bind (.ref s.heap.objs.size)
    repeat (any_goals (first | assumption | wp_step))
    refine codeAny_mono (codeAny_call_builtin (R := wants (fun r s2 => r = .none ∧ SetMade w s s2 ns) E) F.called_set.init.plain F.entry_set_init (check_set_init_1 hT ?_)) fun r₂ s₂ hr₂ => ?_
    · have hl1 : (s.heap.push (freshSet w)).IsList l items := hl.push _
      have hlS : l < s.heap.objs.size := by obtain ⟨o, ho, _⟩ := hl; exact Heap.lt_size ho
      obtain ⟨⟨oc, od, dt, osl⟩, hol, hcl, nl, hdl⟩ := hl1
      simp only at hcl hdl
      subst hcl; subst hdl
      have hl1 : (s.heap.push (freshSet w)).IsList l items := ⟨_, hol, rfl, nl, rfl⟩
      have hsls := F.sub_list_set
      have hslf := F.sub_list_frozenset
      have hne : (Value.type "list" == Value.type "dict") = false := by decide
      have k1 : (s.heap.push (freshSet w)).objs.size = s.heap.objs.size + 1 := Heap.size_push ..
      unfold Builtin.«set.__init__» noKeywords Builtin.Frozenset.updateFrom
      generalize hPI : pyIter = PI
      wp_walk
      subst hPI
      refine wpAny_pyIter_list hl1 (wpAny_bind (wpAny_runValue ?_))
      have hh3 : A.in1.in1.in1.handled = none := by simp [hh]
      have nI : l ≠ (s.heap.push (freshSet w)).objs.size := by rw [k1]; exact Nat.ne_of_lt (Nat.lt_succ_of_lt hlS)
      have nS : s.heap.objs.size ∉ [(s.heap.push (freshSet w)).objs.size, l] := by
        rw [k1]; intro z
        rcases List.mem_cons.mp z with z | z
        · exact Nat.ne_of_lt (Nat.lt_succ_self _) z
        · exact Nat.ne_of_gt hlS (List.mem_singleton.mp z)
      have hval : ∀ (i : Nat) (v : Value), items[i]? = some v → ∃ k t, ns[i]? = some k ∧ v = .int k t := fun i v hv => by
        have hi : i < ns.length := by have := (Array.getElem?_eq_some_iff.mp hv).1; omega
        obtain ⟨t, e⟩ := PyProof.Rows.IntsAre.int_at hit i v (by rw [Array.getElem?_toList]; exact hv)
        refine ⟨ns[i], t, List.getElem?_eq_getElem hi, ?_⟩
        rw [e, List.getD_eq_getElem?_getD, List.getElem?_eq_getElem hi] <;> rfl
      refine set_update_ints ((Walks.list hh3 _ l nI items).toS) s.heap.objs.size nS ns hsz hb hval (items.size - 0) 0 _ (by omega) (Nat.zero_le _) ⟨⟨_, Heap.get?_push_size _ rfl, rfl, rfl⟩, (hl1.push _)⟩ ⟨0, Nat.le_refl 0, setR_new_at (Heap.get?_push_of_some _ hS)⟩ ?_
      rintro ⟨h', g2, d', tk', os'⟩ c' hm hc' hS'
      obtain rfl : g2 = s.gens := hm.gens
      obtain rfl : d' = s.drawn := hm.drawn
      obtain rfl : os' = s.os := hm.os
      show wpAny _ _ _ _ _ _
      refine wpAny_pure ?_
      show wpAny _ _ (ret Value.none) _ _ _
      refine wpAny_pure ⟨rfl, h', tk', c', rfl, hS', by omega, fun b o e => ?_⟩
      have hb0 : b < s.heap.objs.size := Heap.lt_size e
      refine hm.heap b o (fun z => ?_) (Heap.get?_push_of_some _ (Heap.get?_push_of_some _ e))
      rcases List.mem_cons.mp z with z | z
      · exact Nat.ne_of_lt hb0 z
      · have := List.mem_singleton.mp z; rw [k1] at this; exact Nat.ne_of_lt (Nat.lt_succ_of_lt hb0) this
    · rcases r₂ with e | fl₂
      · exact hr₂
      cases fl₂ with
      | ret r =>
        obtain ⟨rfl, hm⟩ := hr₂
        repeat (any_goals (first | assumption | wp_step))
        exact q _ hm
      | _ => exact hr₂.elim
  | _ => exact hr.elim
end
section
variable {P : Program} {w : World} {K : PySem.W.Frag} {mg : Str → Option Value} {base : Heap} {k : Nat} {N Vz Sz G : List Str} {sc : Scope} {X : Cx} {σ : L2.St} {H : Hp} {Q : VK}
/-- the set of ints at p -/
def IsSet (w : World) (H : Hp) (p : Addr) (ns : List Int) : Prop := ∃ n, n ≤ ns.length ∧ H p = some (SetO w p (fun j => decide (j ∈ ns)) n)
theorem c_setI {a : Addr} {ns : List Int} (C : CxI P w K mg base k N Vz Sz G sc X) (h : SqL K H a (ns.map V.int)) (hb : ns.length + 1 < scanBound) (q : ∀ p H', H p = none → Ex H H' → IsSet w H' p ns → Q (.ref p) H') : wC X (.type "set") [.ref a] H Q := by
  have hc := C.calm
  obtain ⟨rfl, rfl, rfl, _⟩ := C
  refine ⟨fun pins s σ us I r => ?_⟩
  rw [Vals.ref1 r]
  obtain ⟨its, rv, pl, hz⟩ := I.list h
  have hn : H s.heap.objs.size = none := I.hok.fresh (Nat.le_refl _)
  refine call_set_ints (I.ok.hd hc) pl.isList (by simpa using rv.ints) hb fun s2 ⟨h', tk, c, e, R, hc', kp⟩ => ?_
  subst e
  exact ⟨.ref s.heap.objs.size, upd H s.heap.objs.size (SetO X.w s.heap.objs.size (fun j => decide (j ∈ ns)) c), I.laid (t' := tk) kp (Nat.le_refl _) (setO_new R), rfl, q _ _ hn (Ex.upd hn) ⟨c, hc', upd_same⟩⟩
theorem c_sortedI {a : Addr} {ns : List Int} (C : CxI P w K mg base k N Vz Sz G sc X) (h : IsSet w H a ns) (hl : ns.length < 64) (q : ∀ (es : List Int) p H', es.Pairwise (· < ·) → (∀ k : Int, k ∈ es ↔ k ∈ ns) → es.length ≤ ns.length → H p = none → Ex H H' → H' p = some (.lst (es.map V.int)) → Q (.ref p) H') : wC X (.builtin "sorted") [.ref a] H Q := by
  have hc := C.calm
  obtain ⟨rfl, rfl, rfl, _⟩ := C
  obtain ⟨n, hn, hs⟩ := h
  exact wC.of (cr_sortedSet hc) ⟨a, _, n, rfl, hs, by omega, fun es p pw mem len hp => q es p _ pw (fun k => by rw [mem k]; exact decide_eq_true_iff) (by omega) hp (Ex.upd hp) upd_same⟩
end
end Rp
namespace Rp
open PySem PySem.Spec PyProof.Rows L2
section
variable {P : Program} {w : World} {K : PySem.W.Frag} {mg : Str → Option Value} {base : Heap} {k : Nat} {N Vz Sz G : List Str} {sc : Scope} {X : Cx} {σ : L2.St} {H : Hp} {D : Ends} {elts : List Expr} {e e2 d d2 : Expr} {sts : List Stmt} {p1 p2 pos tpos : Pos} {kk : Nat} {Q : VK}
/-- for .. in zip(xs, ys), both of one length -/
theorem wS_zip2 (j1 j2 : Bool) (C : CxI P w K mg base k N Vz Sz G sc X) (hm : mg "zip" = none) (hx : ("zip" : Str) ∈ G) (hs : starEach [e, e2] X.env = (false, eval e X.env) :: starEach [e2] X.env) (hpl : (backTo p2 (starEach [e2] X.env)).any (·.1) = false)
    (q : wA X [e, e2] σ H fun vs H1 => ∃ a b xs ys, vs = [.ref a, .ref b] ∧ SqB K j1 H1 a xs ∧ SqB K j2 H1 b ys ∧ xs.length = ys.length ∧ ∃ Pv : Nat → L2.St → Hp → Prop, Pv 0 σ H1 ∧
      (∀ i σ H, i ≤ xs.length → Pv i σ H → SqB K j1 H a xs ∧ SqB K j2 H b ys) ∧
      (∀ i x y T σ H H', xs[i]? = some x → ys[i]? = some y → Pv i σ H → H T = none → Ex H H' → H' T = some (.tup [x, y]) → wG X (.Tuple elts kk tpos) (.ref T) σ H' fun σ2 H2 => wB X sts { D with nx := Pv (i + 1), ct := Pv (i + 1), bk := D.nx } σ2 H2) ∧ ∀ σ H, Pv xs.length σ H → D.nx σ H) :
    wS X (.For (.Tuple elts kk tpos) (.Call (.Name "zip" p1) [e, e2] [] p2) sts [] pos) D σ H := by
  obtain ⟨l, _, _⟩ := C.glo hx
  refine wS.of (ps_for C.po C.calm (pi_zip2 j1 j2 l (by rw [C.em]; exact hm) wA.pa hs hpl) wG.pg wB.pss (fun _ => rfl)) ?_
  show wA X [e, e2] σ H _
  refine ⟨fun pp pins s I => thn (q.run pp pins s I) ?_⟩
  rintro uu s1 ⟨vs, H1, I1, r1, a, b, xs, ys, ev, q1, q2, l1, Pv, h0, hq, hst, hd⟩
  refine ⟨vs, H1, I1, r1, a, b, xs, ys, ev, by rw [C.eK]; exact q1, by rw [C.eK]; exact q2, ?_⟩
  refine ⟨fun i m σ H => m = xs.length - i ∧ i ≤ xs.length ∧ Pv i σ H, ⟨xs.length, rfl, Nat.zero_le _, h0⟩, ?_⟩
  rintro i m σ H ⟨rfl, hi, pv⟩
  obtain ⟨k1, k2⟩ := hq i σ H hi pv
  by_cases hlt : i < xs.length
  · have g1 : xs[i]? = some xs[i] := List.getElem?_eq_getElem hlt
    have g2 : ys[i]? = some (ys[i]'(by omega)) := List.getElem?_eq_getElem _
    refine .inr ⟨⟨xs, ys, _, _, by rw [C.eK]; exact k1, by rw [C.eK]; exact k2, g1, g2⟩, Pv (i + 1), fun σ' H' p' => ⟨xs.length - (i + 1), by omega, rfl, hlt, p'⟩, fun v H' y => ?_⟩
    obtain ⟨T, x', y', rfl, hT, rfl, f1, f2⟩ := y
    exact hst i x' y' T σ H _ (f1 xs (by rw [C.eK]; exact k1)) (f2 ys (by rw [C.eK]; exact k2)) pv hT (Ex.upd hT) upd_same
  · have e' : i = xs.length := by omega
    subst e'
    exact .inl ⟨⟨xs, ys, by rw [C.eK]; exact k1, by rw [C.eK]; exact k2, rfl, by omega⟩, hd σ H pv⟩
/-- e[d:d2] -/
theorem wE_slBoth (C : CxI P w K mg base k N Vz Sz G sc X) (q : wE X e σ H fun x H1 => wE X d σ H1 fun y H2 => IsI y fun i => wE X d2 σ H2 fun z H3 => IsI z fun j => SlQ K x (some i) (some j) H3 fun p H' => Q (.ref p) H') : wE X (.Subscript e (.Slice (some d) (some d2) none p2) pos) σ H Q := by
  refine wE_sl (sl_tup.or sl_list) (po_some wE.pe) (po_some wE.pe) ⟨fun pins s I => ?_⟩
  refine thn (q.run pins s I) ?_
  rintro u s1 ⟨x, H1, I1, r1, q1⟩
  refine ⟨x, H1, I1, r1, ?_⟩
  show wE X d σ H1 _
  refine ⟨fun pins s I => ?_⟩
  refine thn (q1.run pins s I) ?_
  rintro u s1 ⟨y, H2, I2, r2, i, rfl, q2⟩
  refine ⟨_, H2, I2, r2, i, rfl, ?_⟩
  show wE X d2 σ H2 _
  refine ⟨fun pins s I => ?_⟩
  refine thn (q2.run pins s I) ?_
  rintro u s1 ⟨z, H3, I3, r3, j, rfl, q3⟩
  exact ⟨_, H3, I3, r3, j, rfl, slq_run C q3⟩
theorem o_inD {x y : V} {d : PyData} {ds : List PyData} (C : CxI P w K mg base k N Vz Sz G sc X) (h1 : Dp K H x d) (h2 : Dp K H y (.list ds)) (s1 : SeqAt.shaped d = true) (s2 : SeqAt.shaped (.list ds) = true) (q : Q (.bl (ds.any fun z => PyData.eqv z d)) H) : wO X (compareOp .In) x y H Q :=
  wO.of (op_inD (by have := C.room.un; omega)) ⟨d, ds, by rw [C.eK]; exact h1, by rw [C.eK]; exact h2, s1, s2, q⟩
end
end Rp
namespace Rp
open PySem PySem.Spec PyProof.Rows L2
/-! ### sets of tuples of ints, sorted; lists of tuples of ints, alike -/
theorem eqv_rows : ∀ ns ms : List (List Int), PyData.eqvAll (ns.map fun n => PyData.tuple (n.map PyData.int)) (ms.map fun n => PyData.tuple (n.map PyData.int)) = decide (ns = ms)
  | [], [] => rfl
  | [], m :: ms => rfl
  | n :: ns, [] => rfl
  | n :: ns, m :: ms => by
    show (PyData.eqvAll (n.map PyData.int) (m.map PyData.int) && PyData.eqvAll (ns.map fun n => PyData.tuple (n.map PyData.int)) (ms.map fun n => PyData.tuple (n.map PyData.int))) = decide (n :: ns = m :: ms)
    rw [eqv_ints, eqv_rows ns ms]
    by_cases h1 : n = m <;> by_cases h2 : ns = ms <;> simp [h1, h2]
section
variable {P : Program} {w : World} {K : PySem.W.Frag} {mg : Str → Option Value} {base : Heap} {k : Nat} {N Vz Sz G : List Str} {sc : Scope} {X : Cx} {σ : L2.St} {H : Hp} {Q : VK}
theorem o_eqRows {a b : Addr} {qs ps : List Addr} {ns ms : List (List Int)} (C : CxI P w K mg base k N Vz Sz G sc X) (h1 : SqL K H a (qs.map V.ref)) (pr : Paired (fun q ns => SqT K H q (ns.map V.int)) qs ns) (h2 : SqL K H b (ps.map V.ref)) (ps2 : Paired (fun q ns => SqT K H q (ns.map V.int)) ps ms) (q : Q (.bl (decide (ns = ms))) H) :
    wO X (compareOp .Eq) (.ref a) (.ref b) H Q :=
  wO.of (op_eqD C.room.units) ⟨_, _, by rw [C.eK]; exact .lst h1 (dpa_rows pr), by rw [C.eK]; exact .lst h2 (dpa_rows ps2), shp_list ns, shp_list ms, by
    show Q (.bl (PyData.eqvAll (ns.map fun n => PyData.tuple (n.map PyData.int)) (ms.map fun n => PyData.tuple (n.map PyData.int)))) H
    rw [eqv_rows]; exact q⟩
def IsSetT (P : Program) (w : World) (H : Hp) (p : Addr) (L : List (Addr × List Int)) : Prop := H p = some (SetTO P w p L)
theorem c_setT {l : Addr} {ks : List (Addr × List Int)} (C : CxI P w K mg base k N Vz Sz G sc X) (h : SqL K H l (ks.map fun p => V.ref p.1)) (hk : ∀ p ∈ ks, SqT K H p.1 (p.2.map V.int)) (hl : ks.length < 64)
    (q : ∀ a L H', H a = none → Ex H H' → IsSetT P w H' a L → (∀ p ∈ L, p ∈ ks) → (∀ p ∈ ks, p.2 ∈ L.map (·.2)) → Q (.ref a) H') : wC X (.type "set") [.ref l] H Q := by
  have hc := C.calm
  have hu := C.room.units
  obtain ⟨rfl, rfl, rfl, _⟩ := C
  exact wC.of (cr_setOfT hc hu) ⟨l, ks, rfl, h, hk, hl, fun a L ha h1 h2 => q a L _ ha (Ex.upd ha) upd_same h1 h2⟩
theorem c_sortedT {a : Addr} {L : List (Addr × List Int)} {d : Nat} {B : Int} (C : CxI P w K mg base k N Vz Sz G sc X) (h : IsSetT P w H a L) (hk : ∀ p ∈ L, SqT K H p.1 (p.2.map V.int)) (hd : 1 ≤ d) (hb : ∀ p ∈ L, p.2.length = d ∧ TS.Bd B p.2)
    (q : ∀ (L' : List (Addr × List Int)) p H', L'.Perm L → (L'.map (·.2)).Nodup → L'.Pairwise (fun q r => TS.code B q.2 ≤ TS.code B r.2) → H p = none → Ex H H' → H' p = some (.lst (L'.map fun q => V.ref q.1)) → Q (.ref p) H') : wC X (.builtin "sorted") [.ref a] H Q := by
  have hc := C.calm
  obtain ⟨rfl, rfl, rfl, _⟩ := C
  exact wC.of (cr_sortedT hc) ⟨a, L, d, B, rfl, h, hk, hd, hb, fun L' p pm nd _ pw hp => q L' p _ pm nd pw hp (Ex.upd hp) upd_same⟩
/-- slices of tuples, the whole of it too -/
def SlA (K : PySem.W.Frag) (x : V) (l h : Option Int) (H : Hp) (R : Addr → Hp → Prop) : Prop := ∃ a xs, x = .ref a ∧ SqT K H a xs ∧ ∀ p H', Ex H H' → SqT K H' p (cutV xs l h) → R p H'
theorem sla_run {x : V} {l h : Option Int} (C : CxI P w K mg base k N Vz Sz G sc X) (q : SlA K x l h H fun p H' => Q (.ref p) H') : rSlA X.K x l h H Q := by
  obtain ⟨a, xs, rfl, hq, q⟩ := q
  refine ⟨a, xs, rfl, by rw [C.eK]; exact hq, fun z => q a H (Ex.refl H) ?_, fun _ p hp => q p _ (Ex.upd hp) (SqT.of upd_same)⟩
  have e : cutV xs l h = xs := by
    unfold cutV
    rw [z.1, z.2, List.drop_zero, Nat.sub_zero, List.take_length]
  rw [e]; exact hq
variable {e d : Expr} {pos p2 : Pos}
theorem wE_slToA (C : CxI P w K mg base k N Vz Sz G sc X) (q : wE X e σ H fun x H1 => wE X d σ H1 fun y H2 => IsI y fun i => SlA K x none (some i) H2 fun p H' => Q (.ref p) H') : wE X (.Subscript e (.Slice none (some d) none p2) pos) σ H Q := by
  refine wE_sl sl_tupA po_none (po_some wE.pe) ⟨fun pins s I => ?_⟩
  refine thn (q.run pins s I) ?_
  rintro u s1 ⟨x, H1, I1, r1, q1⟩
  refine ⟨x, H1, I1, r1, ?_⟩
  show wE X d σ H1 _
  refine ⟨fun pins s I => ?_⟩
  refine thn (q1.run pins s I) ?_
  rintro u s1 ⟨y, H2, I2, r2, i, rfl, q2⟩
  exact ⟨_, H2, I2, r2, i, rfl, sla_run C q2⟩
theorem wE_slFromA (C : CxI P w K mg base k N Vz Sz G sc X) (q : wE X e σ H fun x H1 => wE X d σ H1 fun y H2 => IsI y fun i => SlA K x (some i) none H2 fun p H' => Q (.ref p) H') : wE X (.Subscript e (.Slice (some d) none none p2) pos) σ H Q := by
  refine wE_sl sl_tupA (po_some wE.pe) po_none ⟨fun pins s I => ?_⟩
  refine thn (q.run pins s I) ?_
  rintro u s1 ⟨x, H1, I1, r1, q1⟩
  refine ⟨x, H1, I1, r1, ?_⟩
  show wE X d σ H1 _
  refine ⟨fun pins s I => ?_⟩
  refine thn (q1.run pins s I) ?_
  rintro u s1 ⟨y, H2, I2, r2, i, rfl, q2⟩
  exact ⟨_, H2, I2, r2, i, rfl, sla_run C q2⟩
end
end Rp
/-! ### t[::-1] of a tuple -/
namespace HT
open PySem PySem.Spec PyProof.Rows L2
section
variable {prog : Program} {w : World} {A : Around} {E : Value → Shared → Prop} {s : Shared}
theorem sliceApplied_back {sl : Addr} {vl vu vs : Value} {n : Nat} {Q : Int × Int × Nat → Shared → Prop} (hs : s.heap.IsSliceOf sl vl vu vs) (pl : IsPart vl none) (pu : IsPart vu none) (ps : IsPart vs (some (-1)))
    (h : Q ((n : Int) - 1, -1, n) s) : wpAny (model prog w) A (Builtin.Slice.sliceApplied (.ref sl) (pure (n : Int))) Q E s := by
  obtain ⟨os, hos, hcs, hds⟩ := id hs
  unfold Builtin.Slice.sliceApplied Builtin.Slice.sliceFields
  refine wpAny_bind (wpAny_bind (wpAny_field hos hds (x := vl) rfl (wpAny_bind (wpAny_field hos hds (x := vu) rfl (wpAny_bind (wpAny_field hos hds (x := vs) rfl (wpAny_pure ?_)))))))
  refine wpAny_bind (slicePart_ ps ?_)
  show wpAny _ _ (if ((-1 : Int) == 0) = true then _ else _) _ _ s
  rw [if_neg (by decide)]
  refine wpAny_bind (slicePart_ pl (wpAny_bind (slicePart_ pu (wpAny_bind (wpAny_pure ?_)))))
  show wpAny _ _ (match Builtin.Slice.sliceAdjust none none (-1) (n : Int) with | (lo, hi) => pure (lo, (-1 : Int), Builtin.Slice.slicePlaces lo hi (-1))) _ _ s
  have e1 : Builtin.Slice.sliceAdjust none none (-1) (n : Int) = ((n : Int) - 1, -1) := rfl
  rw [e1]
  have e2 : Builtin.Slice.slicePlaces ((n : Int) - 1) (-1) (-1) = n := by
    unfold Builtin.Slice.slicePlaces
    have h1 : ¬ ((-1 : Int) > 0) := by omega
    simp only [h1, if_false, show (- -1 : Int) = 1 from rfl, Int.ediv_one]
    split <;> omega
  show wpAny _ _ (pure ((n : Int) - 1, (-1 : Int), Builtin.Slice.slicePlaces ((n : Int) - 1) (-1) (-1))) _ _ s
  rw [e2]
  exact wpAny_pure h
theorem fm_congr {α β : Type} {f g : α → Option β} : ∀ {l : List α}, (∀ x ∈ l, f x = g x) → l.filterMap f = l.filterMap g
  | [], _ => rfl
  | x :: l, h => by rw [List.filterMap_cons, List.filterMap_cons, h x List.mem_cons_self, fm_congr fun y hy => h y (List.mem_cons_of_mem _ hy)]
theorem pick_back (xs : Array Value) : ((List.range xs.size).filterMap fun (m : Nat) => xs[(((xs.size : Nat) : Int) - 1 + (m : Int) * (-1)).toNat]?).toArray = (xs.toList.reverse).toArray := by
  congr 1
  have key : ∀ (L : List Value), (List.range L.length).filterMap (fun m => L[m]?) = L := by
    intro L
    induction L with
    | nil => rfl
    | cons x L ih =>
      rw [List.length_cons, List.range_succ_eq_map, List.filterMap_cons]
      simp only [List.getElem?_cons_zero]
      rw [List.filterMap_map]
      show x :: List.filterMap (fun m => (x :: L)[m + 1]?) (List.range L.length) = x :: L
      simp only [List.getElem?_cons_succ]
      rw [ih]
  have z := key xs.toList.reverse
  rw [List.length_reverse, Array.length_toList] at z
  refine Eq.trans (fm_congr fun m hm => ?_) z
  have hm := List.mem_range.mp hm
  rw [List.getElem?_reverse (by rw [Array.length_toList]; exact hm), Array.length_toList, Array.getElem?_toList]
  congr 1
  omega
theorem getItem_tuple_back {t sl : Addr} {items : Array Value} {vl vu vs : Value} {Q : Value → Shared → Prop} (ht : IsTup s.heap t items) (hs : s.heap.IsSliceOf sl vl vu vs) (pl : IsPart vl none) (pu : IsPart vu none) (ps : IsPart vs (some (-1)))
    (h : Q (.ref s.heap.objs.size) { s with heap := s.heap.push { cls := .type "tuple", data := .seq items.toList.reverse.toArray } })
    (hsz : items.size ≤ sizeLine) : wpAny (model prog w) A (getItem (.ref t) (.ref sl)) Q E s := by
  have htake : sizeOk (.seq items.toList.reverse.toArray) := by
    show items.toList.reverse.toArray.size ≤ sizeLine
    rw [List.size_toArray, List.length_reverse, Array.length_toList]
    exact hsz
  obtain ⟨os, hos, hcs, hds⟩ := id hs
  have hTs : s.TypeIs (.ref sl) "slice" := ⟨os, hos, hcs⟩
  unfold getItem
  try with_reducible refine wpAny_holding ?_
  first | refine wpAny_bind (wpAny_pure ?_) | skip
  refine wpAny_bind (wpAny_sequenceKey ht.typeIs (by decide) ?_)
  refine wpAny_bind (wpAny_callSpecial?_slot (name := Str.ofString "__getitem__") ht.typeIs PyProof.Rows.slot_tuple_getitem
    (wpAny_call_entry PyProof.Rows.slot_tuple_getitem ht.typeIs entry_tuple_getitem ?_ (args_tuple_getitem _ _)))
  show wpAny _ _ (Builtin.Tuple.tupleItemsOf (.ref t) >>= _) _ _ s
  refine wpAny_bind (tupleItemsOf_ ht ?_)
  refine wpAny_bind (wpAny_typeOf hTs ?_)
  rw [if_pos (by decide)]
  refine wpAny_bind (sliceApplied_back hs pl pu ps ?_)
  have hno : ¬ ((((items.size : Nat) : Int) - 1 == 0 && (-1 : Int) == 1 && items.size == items.size) = true) := by
    intro q
    rw [Bool.and_eq_true, Bool.and_eq_true] at q
    exact absurd (eq_of_beq q.1.2) (by decide)
  show wpAny _ _ (if (((items.size : Nat) : Int) - 1 == 0 && (-1 : Int) == 1 && items.size == items.size) = true then _ else _) _ _ s
  rw [if_neg hno, pick_back]
  first
    | exact wpAny_bind (m := Builtin.Tuple.tupleExact _) (wpAny_newObj_type (wpAny_pure ⟨_, rfl, wpAny_pure h⟩) htake)
    | exact wpAny_bind (m := Builtin.Tuple.tupleExact _) (wpAny_newObj_type (wpAny_bind (wpAny_pure (wpAny_pure ⟨_, rfl, wpAny_pure h⟩))) htake)
    | exact wpAny_bind (wpAny_bind (m := Builtin.Tuple.tupleExact _) (wpAny_newObj_type (wpAny_pure (wpAny_pure ⟨_, rfl, wpAny_pure h⟩)) htake))
    | exact wpAny_bind (wpAny_bind (m := Builtin.Tuple.tupleExact _) (wpAny_newObj_type (wpAny_pure ⟨_, rfl, wpAny_pure h⟩) htake))
end
end HT
namespace L2
open PySem PySem.Spec PyProof.Rows
section
variable {X : Cx}
def tRevT (K : PySem.W.Frag) (te : TE) : TE := fun σ H Q => te σ H fun x H1 => ∃ a xs, x = .ref a ∧ SqT K H1 a xs ∧ ∀ p, H1 p = none → Q (.ref p) (upd H1 p (.tup xs.reverse))
theorem pe_revT {e : Expr} {te : TE} {k : Nat} {p1 p2 p3 pos : Pos} (he : PE X e te) : PE X (.Subscript e (.Slice none none (some (.UnaryOp .USub (.Constant (.int 1) k p1) p2)) p3) pos) (tRevT X.K te) := by
  refine ⟨fun pins s σ H Q I h => ?_⟩
  refine Subscript_ (thn (he.run pins s σ H _ I h) fun v s1 ⟨x, H1, I1, r1, q1⟩ => ?_)
  obtain ⟨a, xs, ex, hx, q⟩ := q1
  subst ex
  cases r1
  have hst : PO X (some (.UnaryOp .USub (.Constant (.int 1) k p1) p2)) (tPart (tUn (rU fun i => .int (-i)) (tC (.int 1)))) := po_some (pe_un un_neg pe_int)
  refine wpAny_Slice (thn (po_none.run pins s1 σ H1 (fun o H2 => o = none ∧ H2 = H1) I1 ⟨rfl, rfl⟩) fun vl s2 ⟨l, H2, I2, pl, el, e2⟩ => ?_)
  subst el e2
  refine thn (po_none.run pins s2 σ H2 (fun o H3 => o = none ∧ H3 = H2) I2 ⟨rfl, rfl⟩) fun vu s3 ⟨u, H3, I3, pu, eu, e3⟩ => ?_
  subst eu e3
  refine thn (hst.run pins s3 σ H3 (fun o H4 => o = some (-1) ∧ H4 = H3) I3 ⟨1, rfl, -1, rfl, rfl, rfl⟩) fun vs s4 ⟨o, H4, I4, ps, eo, e4⟩ => ?_
  subst eo e4
  have I5 : Inv X pins σ H4 { s4 with heap := s4.heap.push { cls := .type "slice", data := .fields #[vl, vu, vs] } } := I4.kept (t' := s4.toks) fun b ob q => Heap.get?_push_of_some _ q
  obtain ⟨its, r, ht, hz⟩ := I5.tuple hx
  have hlen := r.length
  show wpAny (model X.prog X.w) X.A (subscriptTail e (.Slice none none (some (.UnaryOp .USub (.Constant (.int 1) k p1) p2)) p3) (.ref a) (.ref s4.heap.objs.size)) (EP X pins σ Q) X.xe { s4 with heap := s4.heap.push { cls := .type "slice", data := .fields #[vl, vu, vs] } }
  refine tail_any (ops := [.ref a, .ref s4.heap.objs.size]) ht.typeIs (PyProof.Rows.slot_tuple_getitem.lookup) ?_ (by with_unfolding_all rfl)
  refine HT.getItem_tuple_back ht (Heap.IsSliceOf.new _ vl vu vs) pl pu ps ?_ (by rw [List.size_toArray]; omega)
  refine ⟨.ref _, _, I5.laid (t' := s4.toks) (o := .tup xs.reverse) (fun b ob q => Heap.get?_push_of_some _ q) (Nat.le_refl _) ?_, rfl, q _ (I5.hok.fresh (Nat.le_refl _))⟩
  exact ⟨by rw [List.length_reverse]; exact hz, _, r.reverse, IsTup.new _ _⟩
end
end L2
namespace Rp
open PySem PySem.Spec PyProof.Rows L2
section
variable {P : Program} {w : World} {K : PySem.W.Frag} {mg : Str → Option Value} {base : Heap} {k : Nat} {N Vz Sz G : List Str} {sc : Scope} {X : Cx} {σ : L2.St} {H : Hp} {Q : VK}
variable {e d : Expr} {pos p1 p2 p3 : Pos}
theorem wE_revT {kk : Nat} (C : CxI P w K mg base k N Vz Sz G sc X) (q : wE X e σ H fun x H1 => ∃ a xs, x = .ref a ∧ H1 a = some (.tup xs) ∧ ∀ p H2, Ex H1 H2 → H2 p = some (.tup xs.reverse) → Q (.ref p) H2) :
    wE X (.Subscript e (.Slice none none (some (.UnaryOp .USub (.Constant (.int 1) kk p1) p2)) p3) pos) σ H Q := by
  refine wE.of (pe_revT wE.pe) ?_
  show wE X e σ H _
  refine ⟨fun pins s I => ?_⟩
  refine thn (q.run pins s I) ?_
  rintro u s1 ⟨x, H1, I1, r1, a, xs, rfl, hq, q1⟩
  exact ⟨_, H1, I1, r1, a, xs, rfl, by rw [C.eK]; exact .of hq, fun p hp => q1 p _ (Ex.upd hp) upd_same⟩
/-- slices of tuples of the heap -/
def SlH (x : V) (l h : Option Int) (H : Hp) (R : Addr → Hp → Prop) : Prop := ∃ a xs, x = .ref a ∧ H a = some (.tup xs) ∧ ∀ p H', Ex H H' → H' p = some (.tup (cutV xs l h)) → R p H'
theorem slh_run {x : V} {l h : Option Int} (C : CxI P w K mg base k N Vz Sz G sc X) (q : SlH x l h H fun p H' => Q (.ref p) H') : rSlA X.K x l h H Q := by
  obtain ⟨a, xs, rfl, hq, q⟩ := q
  refine ⟨a, xs, rfl, by rw [C.eK]; exact .of hq, fun z => q a H (Ex.refl H) ?_, fun _ p hp => q p _ (Ex.upd hp) upd_same⟩
  have e : cutV xs l h = xs := by
    unfold cutV
    rw [z.1, z.2, List.drop_zero, Nat.sub_zero, List.take_length]
  rw [e]; exact hq
theorem mem_cutV {xs : List V} {l h : Option Int} {x : V} (m : x ∈ cutV xs l h) : x ∈ xs := List.mem_of_mem_drop (List.mem_of_mem_take m)
variable {pos2 : Pos}
theorem wE_slToH (C : CxI P w K mg base k N Vz Sz G sc X) (q : wE X e σ H fun x H1 => wE X d σ H1 fun y H2 => IsI y fun i => SlH x none (some i) H2 fun p H' => Q (.ref p) H') : wE X (.Subscript e (.Slice none (some d) none p2) pos) σ H Q := by
  refine wE_sl sl_tupA po_none (po_some wE.pe) ⟨fun pins s I => ?_⟩
  refine thn (q.run pins s I) ?_
  rintro u s1 ⟨x, H1, I1, r1, q1⟩
  refine ⟨x, H1, I1, r1, ?_⟩
  show wE X d σ H1 _
  refine ⟨fun pins s I => ?_⟩
  refine thn (q1.run pins s I) ?_
  rintro u s1 ⟨y, H2, I2, r2, i, rfl, q2⟩
  exact ⟨_, H2, I2, r2, i, rfl, slh_run C q2⟩
theorem wE_slFromH (C : CxI P w K mg base k N Vz Sz G sc X) (q : wE X e σ H fun x H1 => wE X d σ H1 fun y H2 => IsI y fun i => SlH x (some i) none H2 fun p H' => Q (.ref p) H') : wE X (.Subscript e (.Slice (some d) none none p2) pos) σ H Q := by
  refine wE_sl sl_tupA (po_some wE.pe) po_none ⟨fun pins s I => ?_⟩
  refine thn (q.run pins s I) ?_
  rintro u s1 ⟨x, H1, I1, r1, q1⟩
  refine ⟨x, H1, I1, r1, ?_⟩
  show wE X d σ H1 _
  refine ⟨fun pins s I => ?_⟩
  refine thn (q1.run pins s I) ?_
  rintro u s1 ⟨y, H2, I2, r2, i, rfl, q2⟩
  exact ⟨_, H2, I2, r2, i, rfl, slh_run C q2⟩
end
end Rp
/-! ### t * n of a tuple, empty or not -/
namespace L2
open PySem PySem.Spec PyProof.Rows
theorem tuple_mulW0 (l : Addr) (items : Array Value) (n : Nat) (dd : Option Addr) (sl : Array (Option Value)) (x : Int) (u : Tok) (c0 : (decide (x < -(2 ^ 63)) || decide (x ≥ 2 ^ 63)) = false) (c1 : (items.isEmpty || x == 1) = true) :
    Meets (Builtin.«tuple.__mul__» ⟨[.ref l, .int x u], []⟩) (fun _ R s => s.heap.get? l = some { cls := .type "tuple", dict := dd, data := .seq items n, slots := sl } ∧ R (.ok (.ret (Value.ref l))) s) :=
  .of_wp fun prog w A R s h => by
    obtain ⟨hp, g, d, tk, os⟩ := s
    obtain ⟨hl, h⟩ := h
    have f1 := AutoSeq1.idx_int
    have f2 := AutoSeq1.sub_tuple_tuple
    wp_walk using wpAny_loadPart' hl
    repeat (first
      | (refine wpAny_ite_false (decide_eq_false (by rw [c0]; exact Bool.false_ne_true)) ?_; wp_walk using wpAny_loadPart' hl)
      | (refine wpAny_ite_true (decide_eq_true c1) ?_; wp_walk using wpAny_loadPart' hl))
    exact ⟨_, rfl, h⟩
def rRepT0 (K : PySem.W.Frag) : R2 := fun x y H Q => ∃ l k, x = .ref l ∧ y = .int k ∧ SqT K H l [] ∧ 2 ≤ k ∧ k ≤ 1000 ∧ Q (.ref l) H
section
variable {X : Cx}
theorem op_repT0 : OpR X (binaryOp .Mult) (rRepT0 X.K) := by
  intro pins s σ H x y v u Q I rx ry h
  obtain ⟨l, k, rfl, rfl, hT, h1, h2, q⟩ := h
  cases rx
  obtain ⟨t, rfl⟩ := ry
  obtain ⟨its, r, ⟨⟨cls, dd, data, sl⟩, ho, hc, n, hd⟩, hs⟩ := I.tuple hT
  simp only at hc hd
  subst hc hd
  cases r
  have c0 : (decide (k < -(2 ^ 63)) || decide (k ≥ 2 ^ 63)) = false := by
    rw [decide_eq_false (by omega), decide_eq_false (by omega)] <;> rfl
  refine wpAny_binaryOp_repeat_ref (T := "tuple") (U := "int") (by decide) ⟨_, ho, rfl⟩ (fun s' => typeIs_int s' k t) noFill_tuple_mul F.fills_int_mul F.slot_int_rmul repeat_tuple F.slot_int_index.lookup
    (call_meets F.slot_int_rmul (typeIs_int s k t) F.entry_int_rmul (F.args_int_rmul_2 _ _) (int_rmul_tuple k t l _ n dd sl)
      ⟨ho, rfl, ⟨_, ho, rfl⟩, call_meets F.slot_tuple_mul ⟨_, ho, rfl⟩ F.entry_tuple_mul (F.args_tuple_mul_2 _ _) (tuple_mulW0 l _ n dd sl k t c0 rfl) ⟨ho, ?_⟩⟩)
  exact ⟨.ref l, H, I, rfl, q⟩
end
end L2
namespace Rp
open PySem PySem.Spec PyProof.Rows L2
section
variable {P : Program} {w : World} {K : PySem.W.Frag} {mg : Str → Option Value} {base : Heap} {k : Nat} {N Vz Sz G : List Str} {sc : Scope} {X : Cx} {σ : L2.St} {H : Hp} {Q : VK}
theorem o_repTA {l : Addr} {n : Int} {xs : List V} (C : CxI P w K mg base k N Vz Sz G sc X) (h : H l = some (.tup xs)) (h1 : 2 ≤ n) (h2 : n ≤ 1000) (hl : xs.length ≤ 1000) (q : ∀ p H2, Ex H H2 → H2 p = some (.tup (List.replicate n.toNat xs).flatten) → Q (.ref p) H2) : wO X (binaryOp .Mult) (.ref l) (.int n) H Q := by
  by_cases e : xs = []
  · subst e
    refine wO.of op_repT0 ⟨l, n, rfl, rfl, by rw [C.eK]; exact .of h, h1, h2, q l H (Ex.refl H) ?_⟩
    rw [h]
    congr 2
    induction n.toNat with
    | zero => rfl
    | succ m ih => rw [List.replicate_succ, List.flatten_cons, ← ih]; rfl
  · exact wO.of op_repT ⟨l, n, xs, rfl, rfl, by rw [C.eK]; exact .of h, e, h1, h2, hl, fun p hp => q p _ (Ex.upd hp) upd_same⟩
end
end Rp
namespace Rp
open PySem PySem.Spec PyProof.Rows L2
def topS (i : Nat) : Stmt := PySem.Challenge.pw_roadpence_k04_rates_of_days.main.body.getD i (.Pass ⟨0, 0, 0, 0⟩)
abbrev s__wall : Stmt := topS 0
abbrev N__wall : List Str := ["k"]
abbrev V__wall : List Str := ["k"]
abbrev G__wall : List Str := []
theorem sc__wall : FnScope N__wall ["k"] (defScope s__wall) := ⟨rfl, rfl, rfl, by decide +kernel, rfl, by decide +kernel, by decide +kernel⟩
theorem ok__wall : namesOk V__wall V__wall G__wall (defScope s__wall) = true := by decide +kernel
abbrev s_NoSpending_init : Stmt := inClass (topS 12) 0
abbrev N_NoSpending_init : List Str := ["self", "part"]
abbrev V_NoSpending_init : List Str := ["self", "part"]
abbrev G_NoSpending_init : List Str := ["PenceError"]
theorem sc_NoSpending_init : FnScope N_NoSpending_init ["self", "part"] (defScope s_NoSpending_init) := ⟨rfl, rfl, rfl, by decide +kernel, rfl, by decide +kernel, by decide +kernel⟩
theorem ok_NoSpending_init : namesOk V_NoSpending_init V_NoSpending_init G_NoSpending_init (defScope s_NoSpending_init) = true := by decide +kernel
abbrev s_NoRule_init : Stmt := inClass (topS 13) 0
abbrev N_NoRule_init : List Str := ["self", "part"]
abbrev V_NoRule_init : List Str := ["self", "part"]
abbrev G_NoRule_init : List Str := ["PenceError"]
theorem sc_NoRule_init : FnScope N_NoRule_init ["self", "part"] (defScope s_NoRule_init) := ⟨rfl, rfl, rfl, by decide +kernel, rfl, by decide +kernel, by decide +kernel⟩
theorem ok_NoRule_init : namesOk V_NoRule_init V_NoRule_init G_NoRule_init (defScope s_NoRule_init) = true := by decide +kernel
abbrev s_NoJourney_init : Stmt := inClass (topS 14) 0
abbrev N_NoJourney_init : List Str := ["self", "part"]
abbrev V_NoJourney_init : List Str := ["self", "part"]
abbrev G_NoJourney_init : List Str := ["PenceError"]
theorem sc_NoJourney_init : FnScope N_NoJourney_init ["self", "part"] (defScope s_NoJourney_init) := ⟨rfl, rfl, rfl, by decide +kernel, rfl, by decide +kernel, by decide +kernel⟩
theorem ok_NoJourney_init : namesOk V_NoJourney_init V_NoJourney_init G_NoJourney_init (defScope s_NoJourney_init) = true := by decide +kernel
abbrev s_NoText_init : Stmt := inClass (topS 15) 0
abbrev N_NoText_init : List Str := ["self", "row"]
abbrev V_NoText_init : List Str := ["self", "row"]
abbrev G_NoText_init : List Str := ["PenceError"]
theorem sc_NoText_init : FnScope N_NoText_init ["self", "row"] (defScope s_NoText_init) := ⟨rfl, rfl, rfl, by decide +kernel, rfl, by decide +kernel, by decide +kernel⟩
theorem ok_NoText_init : namesOk V_NoText_init V_NoText_init G_NoText_init (defScope s_NoText_init) = true := by decide +kernel
abbrev s_TooMany_init : Stmt := inClass (topS 16) 0
abbrev N_TooMany_init : List Str := ["self", "many", "most"]
abbrev V_TooMany_init : List Str := ["self", "many", "most"]
abbrev G_TooMany_init : List Str := ["PenceError"]
theorem sc_TooMany_init : FnScope N_TooMany_init ["self", "many", "most"] (defScope s_TooMany_init) := ⟨rfl, rfl, rfl, by decide +kernel, rfl, by decide +kernel, by decide +kernel⟩
theorem ok_TooMany_init : namesOk V_TooMany_init V_TooMany_init G_TooMany_init (defScope s_TooMany_init) = true := by decide +kernel
abbrev s_NoRate_init : Stmt := inClass (topS 17) 0
abbrev N_NoRate_init : List Str := ["self", "money", "day"]
abbrev V_NoRate_init : List Str := ["self", "money", "day"]
abbrev G_NoRate_init : List Str := ["LookupError"]
theorem sc_NoRate_init : FnScope N_NoRate_init ["self", "money", "day"] (defScope s_NoRate_init) := ⟨rfl, rfl, rfl, by decide +kernel, rfl, by decide +kernel, by decide +kernel⟩
theorem ok_NoRate_init : namesOk V_NoRate_init V_NoRate_init G_NoRate_init (defScope s_NoRate_init) = true := by decide +kernel
abbrev s_NoDay_init : Stmt := inClass (topS 18) 0
abbrev N_NoDay_init : List Str := ["self", "day"]
abbrev V_NoDay_init : List Str := ["self", "day"]
abbrev G_NoDay_init : List Str := ["IndexError"]
theorem sc_NoDay_init : FnScope N_NoDay_init ["self", "day"] (defScope s_NoDay_init) := ⟨rfl, rfl, rfl, by decide +kernel, rfl, by decide +kernel, by decide +kernel⟩
theorem ok_NoDay_init : namesOk V_NoDay_init V_NoDay_init G_NoDay_init (defScope s_NoDay_init) = true := by decide +kernel
abbrev s_NoName_init : Stmt := inClass (topS 19) 0
abbrev N_NoName_init : List Str := ["self", "name"]
abbrev V_NoName_init : List Str := ["self", "name"]
abbrev G_NoName_init : List Str := ["KeyError"]
theorem sc_NoName_init : FnScope N_NoName_init ["self", "name"] (defScope s_NoName_init) := ⟨rfl, rfl, rfl, by decide +kernel, rfl, by decide +kernel, by decide +kernel⟩
theorem ok_NoName_init : namesOk V_NoName_init V_NoName_init G_NoName_init (defScope s_NoName_init) = true := by decide +kernel
abbrev s_NoHeads_init : Stmt := inClass (topS 20) 0
abbrev N_NoHeads_init : List Str := ["self", "heads"]
abbrev V_NoHeads_init : List Str := ["self", "heads"]
abbrev G_NoHeads_init : List Str := ["ZeroDivisionError"]
theorem sc_NoHeads_init : FnScope N_NoHeads_init ["self", "heads"] (defScope s_NoHeads_init) := ⟨rfl, rfl, rfl, by decide +kernel, rfl, by decide +kernel, by decide +kernel⟩
theorem ok_NoHeads_init : namesOk V_NoHeads_init V_NoHeads_init G_NoHeads_init (defScope s_NoHeads_init) = true := by decide +kernel
abbrev s_is_whole : Stmt := topS 25
abbrev N_is_whole : List Str := ["thing", "least", "most"]
abbrev V_is_whole : List Str := ["thing", "least", "most"]
abbrev G_is_whole : List Str := ["bool", "int", "isinstance"]
theorem sc_is_whole : FnScope N_is_whole ["thing", "least", "most"] (defScope s_is_whole) := ⟨rfl, rfl, rfl, by decide +kernel, rfl, by decide +kernel, by decide +kernel⟩
theorem ok_is_whole : namesOk V_is_whole V_is_whole G_is_whole (defScope s_is_whole) = true := by decide +kernel
abbrev s_is_truth : Stmt := topS 26
abbrev N_is_truth : List Str := ["thing"]
abbrev V_is_truth : List Str := ["thing"]
abbrev G_is_truth : List Str := ["bool", "isinstance"]
theorem sc_is_truth : FnScope N_is_truth ["thing"] (defScope s_is_truth) := ⟨rfl, rfl, rfl, by decide +kernel, rfl, by decide +kernel, by decide +kernel⟩
theorem ok_is_truth : namesOk V_is_truth V_is_truth G_is_truth (defScope s_is_truth) = true := by decide +kernel
abbrev s_is_kind : Stmt := topS 27
abbrev N_is_kind : List Str := ["thing"]
abbrev V_is_kind : List Str := ["thing"]
abbrev G_is_kind : List Str := ["KINDS"]
theorem sc_is_kind : FnScope N_is_kind ["thing"] (defScope s_is_kind) := ⟨rfl, rfl, rfl, by decide +kernel, rfl, by decide +kernel, by decide +kernel⟩
theorem ok_is_kind : namesOk V_is_kind V_is_kind G_is_kind (defScope s_is_kind) = true := by decide +kernel
abbrev s_is_day : Stmt := topS 28
abbrev N_is_day : List Str := ["thing"]
abbrev V_is_day : List Str := ["thing"]
abbrev G_is_day : List Str := ["LAST_DAY", "is_whole"]
theorem sc_is_day : FnScope N_is_day ["thing"] (defScope s_is_day) := ⟨rfl, rfl, rfl, by decide +kernel, rfl, by decide +kernel, by decide +kernel⟩
theorem ok_is_day : namesOk V_is_day V_is_day G_is_day (defScope s_is_day) = true := by decide +kernel
abbrev s_is_row : Stmt := topS 32
abbrev N_is_row : List Str := ["thing", "money", "day", "top", "bottom"]
abbrev V_is_row : List Str := ["thing", "money", "day", "top", "bottom"]
abbrev G_is_row : List Str := ["LAST_MONEY", "MOST_SIDE", "is_day", "is_whole", "isinstance", "len", "tuple"]
theorem sc_is_row : FnScope N_is_row ["thing"] (defScope s_is_row) := ⟨rfl, rfl, rfl, by decide +kernel, rfl, by decide +kernel, by decide +kernel⟩
theorem ok_is_row : namesOk V_is_row V_is_row G_is_row (defScope s_is_row) = true := by decide +kernel
abbrev s_are_rates : Stmt := topS 33
abbrev N_are_rates : List Str := ["thing", "ahead", "row"]
abbrev V_are_rates : List Str := ["thing", "ahead", "row"]
abbrev G_are_rates : List Str := ["MOST_ROWS", "is_row", "isinstance", "len", "tuple"]
theorem sc_are_rates : FnScope N_are_rates ["thing"] (defScope s_are_rates) := ⟨rfl, rfl, rfl, by decide +kernel, rfl, by decide +kernel, by decide +kernel⟩
theorem ok_are_rates : namesOk V_are_rates V_are_rates G_are_rates (defScope s_are_rates) = true := by decide +kernel
abbrev s_check_rates : Stmt := topS 34
abbrev N_check_rates : List Str := ["rates"]
abbrev V_check_rates : List Str := ["rates"]
abbrev G_check_rates : List Str := ["NoRates", "are_rates"]
theorem sc_check_rates : FnScope N_check_rates ["rates"] (defScope s_check_rates) := ⟨rfl, rfl, rfl, by decide +kernel, rfl, by decide +kernel, by decide +kernel⟩
theorem ok_check_rates : namesOk V_check_rates V_check_rates G_check_rates (defScope s_check_rates) = true := by decide +kernel
abbrev s_told_rates : Stmt := topS 35
abbrev N_told_rates : List Str := ["rates", "told"]
abbrev V_told_rates : List Str := ["rates", "told"]
abbrev G_told_rates : List Str := ["check_rates"]
theorem sc_told_rates : FnScope N_told_rates ["rates"] (defScope s_told_rates) := ⟨rfl, rfl, rfl, by decide +kernel, rfl, by decide +kernel, by decide +kernel⟩
theorem ok_told_rates : namesOk V_told_rates V_told_rates G_told_rates (defScope s_told_rates) = true := by decide +kernel
abbrev s_rate_on : Stmt := topS 36
abbrev N_rate_on : List Str := ["rates", "money", "day", "rate", "row"]
abbrev V_rate_on : List Str := ["rates", "money", "day", "rate", "row"]
abbrev G_rate_on : List Str := ["NoRate", "check_rates"]
theorem sc_rate_on : FnScope N_rate_on ["rates", "money", "day"] (defScope s_rate_on) := ⟨rfl, rfl, rfl, by decide +kernel, rfl, by decide +kernel, by decide +kernel⟩
theorem ok_rate_on : namesOk V_rate_on V_rate_on G_rate_on (defScope s_rate_on) = true := by decide +kernel
abbrev s_share_of : Stmt := topS 37
abbrev N_share_of : List Str := ["spending", "rates", "top", "bottom", "whole", "parts"]
abbrev V_share_of : List Str := ["spending", "rates", "top", "bottom", "whole", "parts"]
abbrev G_share_of : List Str := ["rate_on", "told_rates"]
theorem sc_share_of : FnScope N_share_of ["spending", "rates"] (defScope s_share_of) := ⟨rfl, rfl, rfl, by decide +kernel, rfl, by decide +kernel, by decide +kernel⟩
theorem ok_share_of : namesOk V_share_of V_share_of G_share_of (defScope s_share_of) = true := by decide +kernel
abbrev s_check_heads : Stmt := topS 41
abbrev N_check_heads : List Str := ["heads"]
abbrev V_check_heads : List Str := ["heads"]
abbrev G_check_heads : List Str := ["MOST_HEADS", "NoHeads", "NoSpending", "is_whole"]
theorem sc_check_heads : FnScope N_check_heads ["heads"] (defScope s_check_heads) := ⟨rfl, rfl, rfl, by decide +kernel, rfl, by decide +kernel, by decide +kernel⟩
theorem ok_check_heads : namesOk V_check_heads V_check_heads G_check_heads (defScope s_check_heads) = true := by decide +kernel
abbrev s_check_parts : Stmt := topS 42
abbrev N_check_parts : List Str := ["kind", "amount", "day", "paper", "heads", "money"]
abbrev V_check_parts : List Str := ["kind", "amount", "day", "paper", "heads", "money"]
abbrev G_check_parts : List Str := ["LAST_MONEY", "MOST_AMOUNT", "NoSpending", "check_heads", "is_day", "is_kind", "is_truth", "is_whole"]
theorem sc_check_parts : FnScope N_check_parts ["kind", "amount", "day", "paper", "heads", "money"] (defScope s_check_parts) := ⟨rfl, rfl, rfl, by decide +kernel, rfl, by decide +kernel, by decide +kernel⟩
theorem ok_check_parts : namesOk V_check_parts V_check_parts G_check_parts (defScope s_check_parts) = true := by decide +kernel
abbrev s_Spending_init : Stmt := inClass (topS 43) 0
abbrev N_Spending_init : List Str := ["self", "kind", "amount", "day", "paper", "heads", "money"]
abbrev V_Spending_init : List Str := ["self", "kind", "amount", "day", "paper", "heads", "money"]
abbrev G_Spending_init : List Str := ["check_parts"]
theorem sc_Spending_init : FnScope N_Spending_init ["self", "kind", "amount", "day", "paper", "heads", "money"] (defScope s_Spending_init) := ⟨rfl, rfl, rfl, by decide +kernel, rfl, by decide +kernel, by decide +kernel⟩
theorem ok_Spending_init : namesOk V_Spending_init V_Spending_init G_Spending_init (defScope s_Spending_init) = true := by decide +kernel
abbrev s_Spending_eq : Stmt := inClass (topS 43) 1
abbrev N_Spending_eq : List Str := ["self", "other"]
abbrev V_Spending_eq : List Str := ["self", "other"]
abbrev G_Spending_eq : List Str := ["Spending", "isinstance"]
theorem sc_Spending_eq : FnScope N_Spending_eq ["self", "other"] (defScope s_Spending_eq) := ⟨rfl, rfl, rfl, by decide +kernel, rfl, by decide +kernel, by decide +kernel⟩
theorem ok_Spending_eq : namesOk V_Spending_eq V_Spending_eq G_Spending_eq (defScope s_Spending_eq) = true := by decide +kernel
abbrev s_Spending_repr : Stmt := inClass (topS 43) 2
abbrev N_Spending_repr : List Str := ["self", "parts"]
abbrev V_Spending_repr : List Str := ["self", "parts"]
abbrev G_Spending_repr : List Str := ["repr"]
theorem sc_Spending_repr : FnScope N_Spending_repr ["self"] (defScope s_Spending_repr) := ⟨rfl, rfl, rfl, by decide +kernel, rfl, by decide +kernel, by decide +kernel⟩
theorem ok_Spending_repr : namesOk V_Spending_repr V_Spending_repr G_Spending_repr (defScope s_Spending_repr) = true := by decide +kernel
abbrev s_Spending_but : Stmt := inClass (topS 43) 3
abbrev N_Spending_but : List Str := ["self", "kind", "amount", "day", "paper", "heads", "money"]
abbrev V_Spending_but : List Str := ["self", "kind", "amount", "day", "paper", "heads", "money"]
abbrev G_Spending_but : List Str := ["_wall"]
theorem sc_Spending_but : FnScope N_Spending_but ["self", "kind", "amount", "day", "paper", "heads", "money"] (defScope s_Spending_but) := ⟨rfl, rfl, rfl, by decide +kernel, rfl, by decide +kernel, by decide +kernel⟩
theorem ok_Spending_but : namesOk V_Spending_but V_Spending_but G_Spending_but (defScope s_Spending_but) = true := by decide +kernel
abbrev s__law_box : Stmt := topS 45
abbrev N__law_box : List Str := ["_law_script", "_law_k", "_law_here", "_law_number", "_law_j", "_law_piece"]
abbrev V__law_box : List Str := ["_law_script", "_law_k", "_law_here", "_law_number", "_law_j", "_law_piece"]
abbrev G__law_box : List Str := ["abs", "len", "range"]
theorem sc__law_box : FnScope N__law_box ["_law_script", "_law_k"] (defScope s__law_box) := ⟨rfl, rfl, rfl, by decide +kernel, rfl, by decide +kernel, by decide +kernel⟩
theorem ok__law_box : namesOk V__law_box V__law_box G__law_box (defScope s__law_box) = true := by decide +kernel
abbrev s__law_more : Stmt := topS 46
abbrev N__law_more : List Str := ["_law_box_here", "_law_number", "_law_j"]
abbrev V__law_more : List Str := ["_law_box_here", "_law_number", "_law_j"]
abbrev G__law_more : List Str := ["range"]
theorem sc__law_more : FnScope N__law_more ["_law_box_here"] (defScope s__law_more) := ⟨rfl, rfl, rfl, by decide +kernel, rfl, by decide +kernel, by decide +kernel⟩
theorem ok__law_more : namesOk V__law_more V__law_more G__law_more (defScope s__law_more) = true := by decide +kernel
abbrev s__law_take : Stmt := topS 47
abbrev N__law_take : List Str := ["_law_box_here", "_law_count", "_law_rest_of", "_law_digit"]
abbrev V__law_take : List Str := ["_law_box_here", "_law_count", "_law_rest_of", "_law_digit"]
abbrev G__law_take : List Str := ["_law_more", "divmod"]
theorem sc__law_take : FnScope N__law_take ["_law_box_here", "_law_count"] (defScope s__law_take) := ⟨rfl, rfl, rfl, by decide +kernel, rfl, by decide +kernel, by decide +kernel⟩
theorem ok__law_take : namesOk V__law_take V__law_take G__law_take (defScope s__law_take) = true := by decide +kernel
abbrev s__law_family : Stmt := topS 48
abbrev N__law_family : List Str := ["_law_e", "_law_some"]
abbrev V__law_family : List Str := ["_law_e", "_law_some"]
abbrev G__law_family : List Str := ["Absent", "NoBook", "NoDay", "NoHeads", "NoJourney", "NoLine", "NoName", "NoPlace", "NoRate", "NoRates", "NoRule", "NoShare", "NoSpending", "NoSpot", "NoTable", "NoText", "Nothing", "TooMany", "isinstance"]
theorem sc__law_family : FnScope N__law_family ["_law_e"] (defScope s__law_family) := ⟨rfl, rfl, rfl, by decide +kernel, rfl, by decide +kernel, by decide +kernel⟩
theorem ok__law_family : namesOk V__law_family V__law_family G__law_family (defScope s__law_family) = true := by decide +kernel
abbrev s__law_word : Stmt := topS 49
abbrev N__law_word : List Str := ["_law_e", "_law_some", "_law_words", "_law_at", "_law_kinds", "_law_due"]
abbrev V__law_word : List Str := ["_law_e", "_law_some", "_law_words", "_law_at", "_law_kinds", "_law_due"]
abbrev G__law_word : List Str := ["IndexError", "KeyError", "LookupError", "PenceError", "ValueError", "ZeroDivisionError", "_law_family", "isinstance"]
theorem sc__law_word : FnScope N__law_word ["_law_e"] (defScope s__law_word) := ⟨rfl, rfl, rfl, by decide +kernel, rfl, by decide +kernel, by decide +kernel⟩
theorem ok__law_word : namesOk V__law_word V__law_word G__law_word (defScope s__law_word) = true := by decide +kernel
abbrev s__law_said : Stmt := topS 50
abbrev N__law_said : List Str := ["_law_call", "_law_e", "_law_word_here"]
abbrev V__law_said : List Str := ["_law_call", "_law_e", "_law_word_here"]
abbrev G__law_said : List Str := ["NoDay", "NoHeads", "NoName", "NoRate", "PenceError", "_law_word"]
theorem sc__law_said : FnScope N__law_said ["_law_call"] (defScope s__law_said) := ⟨rfl, rfl, rfl, by decide +kernel, rfl, by decide +kernel, by decide +kernel⟩
theorem ok__law_said : namesOk V__law_said V__law_said G__law_said (defScope s__law_said) = true := by decide +kernel
abbrev s__law_odd : Stmt := topS 51
abbrev N__law_odd : List Str := ["_law_box_here", "_law_some"]
abbrev V__law_odd : List Str := ["_law_box_here", "_law_some"]
abbrev G__law_odd : List Str := ["_law_take"]
theorem sc__law_odd : FnScope N__law_odd ["_law_box_here"] (defScope s__law_odd) := ⟨rfl, rfl, rfl, by decide +kernel, rfl, by decide +kernel, by decide +kernel⟩
theorem ok__law_odd : namesOk V__law_odd V__law_odd G__law_odd (defScope s__law_odd) = true := by decide +kernel
abbrev s__law_whole : Stmt := topS 52
abbrev N__law_whole : List Str := ["_law_thing", "_law_low", "_law_high"]
abbrev V__law_whole : List Str := ["_law_thing", "_law_low", "_law_high"]
abbrev G__law_whole : List Str := ["bool", "int", "isinstance"]
theorem sc__law_whole : FnScope N__law_whole ["_law_thing", "_law_low", "_law_high"] (defScope s__law_whole) := ⟨rfl, rfl, rfl, by decide +kernel, rfl, by decide +kernel, by decide +kernel⟩
theorem ok__law_whole : namesOk V__law_whole V__law_whole G__law_whole (defScope s__law_whole) = true := by decide +kernel
abbrev s__law_rates : Stmt := topS 53
abbrev N__law_rates : List Str := ["_law_box_here", "_law_found", "_law_turn", "_law_when", "_law_top", "_law_key"]
abbrev V__law_rates : List Str := ["_law_box_here", "_law_found", "_law_turn", "_law_when", "_law_top"]
abbrev G__law_rates : List Str := ["_law_take", "range", "sorted", "tuple"]
theorem sc__law_rates : FnScope N__law_rates ["_law_box_here"] (defScope s__law_rates) := ⟨rfl, rfl, rfl, by decide +kernel, rfl, by decide +kernel, by decide +kernel⟩
theorem ok__law_rates : namesOk V__law_rates V__law_rates G__law_rates (defScope s__law_rates) = true := by decide +kernel
abbrev s__law_rate : Stmt := topS 54
abbrev N__law_rate : List Str := ["_law_table", "_law_coin", "_law_when", "_law_found", "_law_other", "_law_since", "_law_top", "_law_bottom"]
abbrev V__law_rate : List Str := ["_law_table", "_law_coin", "_law_when", "_law_found", "_law_other", "_law_since", "_law_top", "_law_bottom"]
abbrev G__law_rate : List Str := []
theorem sc__law_rate : FnScope N__law_rate ["_law_table", "_law_coin", "_law_when"] (defScope s__law_rate) := ⟨rfl, rfl, rfl, by decide +kernel, rfl, by decide +kernel, by decide +kernel⟩
theorem ok__law_rate : namesOk V__law_rate V__law_rate G__law_rate (defScope s__law_rate) = true := by decide +kernel
abbrev s__law_are : Stmt := topS 55
abbrev N__law_are : List Str := ["_law_thing", "_law_row", "_law_keys"]
abbrev V__law_are : List Str := ["_law_thing", "_law_row", "_law_keys"]
abbrev G__law_are : List Str := ["_law_whole", "isinstance", "len", "set", "sorted", "tuple"]
theorem sc__law_are : FnScope N__law_are ["_law_thing"] (defScope s__law_are) := ⟨rfl, rfl, rfl, by decide +kernel, rfl, by decide +kernel, by decide +kernel⟩
theorem ok__law_are : namesOk V__law_are V__law_are G__law_are (defScope s__law_are) = true := by decide +kernel
abbrev s__law_bent : Stmt := topS 56
abbrev N__law_bent : List Str := ["_law_box_here", "_law_table", "_law_at", "_law_way", "_law_row", "_law_one"]
abbrev V__law_bent : List Str := ["_law_box_here", "_law_table", "_law_at", "_law_way", "_law_row"]
abbrev G__law_bent : List Str := ["_law_odd", "_law_take", "len", "list", "tuple"]
theorem sc__law_bent : FnScope N__law_bent ["_law_box_here", "_law_table"] (defScope s__law_bent) := ⟨rfl, rfl, rfl, by decide +kernel, rfl, by decide +kernel, by decide +kernel⟩
theorem ok__law_bent : namesOk V__law_bent V__law_bent G__law_bent (defScope s__law_bent) = true := by decide +kernel
abbrev s__law_odd_rates : Stmt := topS 57
abbrev N__law_odd_rates : List Str := ["_law_some", "_law_row"]
abbrev V__law_odd_rates : List Str := ["_law_some"]
abbrev G__law_odd_rates : List Str := []
theorem sc__law_odd_rates : FnScope N__law_odd_rates [] (defScope s__law_odd_rates) := ⟨rfl, rfl, rfl, by decide +kernel, rfl, by decide +kernel, by decide +kernel⟩
theorem ok__law_odd_rates : namesOk V__law_odd_rates V__law_odd_rates G__law_odd_rates (defScope s__law_odd_rates) = true := by decide +kernel
abbrev s__law_right : Stmt := topS 58
abbrev N__law_right : List Str := ["_law_table", "_law_coin", "_law_when", "_law_due"]
abbrev V__law_right : List Str := ["_law_table", "_law_coin", "_law_when", "_law_due"]
abbrev G__law_right : List Str := ["_law_rate", "_law_said"]
theorem sc__law_right : FnScope N__law_right ["_law_table", "_law_coin", "_law_when"] (defScope s__law_right) := ⟨rfl, rfl, rfl, by decide +kernel, rfl, by decide +kernel, by decide +kernel⟩
theorem ok__law_right : namesOk V__law_right V__law_right G__law_right (defScope s__law_right) = true := by decide +kernel
abbrev s_law : Stmt := topS 59
abbrev N_law : List Str := ["_law_script", "_law_k", "_law_box_here", "_law_table", "_law_kept", "_law_days", "_law_when", "_law_coin", "_law_some", "_law_thing", "_law_due", "_law_found", "_law_row", "_law_turn"]
abbrev V_law : List Str := ["_law_script", "_law_k", "_law_box_here", "_law_table", "_law_kept", "_law_days", "_law_when", "_law_coin", "_law_some", "_law_thing", "_law_due", "_law_found"]
abbrev G_law : List Str := ["_law_are", "_law_box", "_law_odd_rates", "_law_rates", "_law_right", "_law_said", "_law_take", "len", "max", "min", "range", "repr"]
theorem sc_law : FnScope N_law ["_law_script"] (defScope s_law) := ⟨rfl, rfl, rfl, by decide +kernel, rfl, by decide +kernel, by decide +kernel⟩
theorem ok_law : namesOk V_law V_law G_law (defScope s_law) = true := by decide +kernel
end Rp
namespace Rp
open PySem PySem.Spec PyProof.Rows L2
def d_is_whole : He.DefD := ⟨("is_whole", none), "is_whole", "is_whole", defArgs s_is_whole, defBody s_is_whole, defScope s_is_whole, [], []⟩
def d_is_truth : He.DefD := ⟨("is_truth", none), "is_truth", "is_truth", defArgs s_is_truth, defBody s_is_truth, defScope s_is_truth, [], []⟩
def d_is_kind : He.DefD := ⟨("is_kind", none), "is_kind", "is_kind", defArgs s_is_kind, defBody s_is_kind, defScope s_is_kind, [], []⟩
def d_is_day : He.DefD := ⟨("is_day", none), "is_day", "is_day", defArgs s_is_day, defBody s_is_day, defScope s_is_day, [], []⟩
def d_check_heads : He.DefD := ⟨("check_heads", none), "check_heads", "check_heads", defArgs s_check_heads, defBody s_check_heads, defScope s_check_heads, [], []⟩
def d_check_parts : He.DefD := ⟨("check_parts", none), "check_parts", "check_parts", defArgs s_check_parts, defBody s_check_parts, defScope s_check_parts, [], []⟩
def d_is_row : He.DefD := ⟨("is_row", none), "is_row", "is_row", defArgs s_is_row, defBody s_is_row, defScope s_is_row, [], []⟩
def d_are_rates : He.DefD := ⟨("are_rates", none), "are_rates", "are_rates", defArgs s_are_rates, defBody s_are_rates, defScope s_are_rates, [], []⟩
def d_check_rates : He.DefD := ⟨("check_rates", none), "check_rates", "check_rates", defArgs s_check_rates, defBody s_check_rates, defScope s_check_rates, [], []⟩
def d_rate_on : He.DefD := ⟨("rate_on", none), "rate_on", "rate_on", defArgs s_rate_on, defBody s_rate_on, defScope s_rate_on, [], []⟩
def d_told_rates : He.DefD := ⟨("told_rates", none), "told_rates", "told_rates", defArgs s_told_rates, defBody s_told_rates, defScope s_told_rates, [], []⟩
def d_share_of : He.DefD := ⟨("share_of", none), "share_of", "share_of", defArgs s_share_of, defBody s_share_of, defScope s_share_of, [.non], []⟩
def d__law_box : He.DefD := ⟨("_law_box", none), "_law_box", "_law_box", defArgs s__law_box, defBody s__law_box, defScope s__law_box, [], []⟩
def d__law_more : He.DefD := ⟨("_law_more", none), "_law_more", "_law_more", defArgs s__law_more, defBody s__law_more, defScope s__law_more, [], []⟩
def d__law_take : He.DefD := ⟨("_law_take", none), "_law_take", "_law_take", defArgs s__law_take, defBody s__law_take, defScope s__law_take, [], []⟩
def d__law_family : He.DefD := ⟨("_law_family", none), "_law_family", "_law_family", defArgs s__law_family, defBody s__law_family, defScope s__law_family, [], []⟩
def d__law_word : He.DefD := ⟨("_law_word", none), "_law_word", "_law_word", defArgs s__law_word, defBody s__law_word, defScope s__law_word, [], []⟩
def d__law_said : He.DefD := ⟨("_law_said", none), "_law_said", "_law_said", defArgs s__law_said, defBody s__law_said, defScope s__law_said, [], []⟩
def d__law_odd : He.DefD := ⟨("_law_odd", none), "_law_odd", "_law_odd", defArgs s__law_odd, defBody s__law_odd, defScope s__law_odd, [], []⟩
def d__law_whole : He.DefD := ⟨("_law_whole", none), "_law_whole", "_law_whole", defArgs s__law_whole, defBody s__law_whole, defScope s__law_whole, [], []⟩
def d__law_rates : He.DefD := ⟨("_law_rates", none), "_law_rates", "_law_rates", defArgs s__law_rates, defBody s__law_rates, defScope s__law_rates, [], []⟩
def d__law_rate : He.DefD := ⟨("_law_rate", none), "_law_rate", "_law_rate", defArgs s__law_rate, defBody s__law_rate, defScope s__law_rate, [], []⟩
def d__law_are : He.DefD := ⟨("_law_are", none), "_law_are", "_law_are", defArgs s__law_are, defBody s__law_are, defScope s__law_are, [], []⟩
def d__law_bent : He.DefD := ⟨("_law_bent", none), "_law_bent", "_law_bent", defArgs s__law_bent, defBody s__law_bent, defScope s__law_bent, [], []⟩
def d__law_odd_rates : He.DefD := ⟨("_law_odd_rates", none), "_law_odd_rates", "_law_odd_rates", defArgs s__law_odd_rates, defBody s__law_odd_rates, defScope s__law_odd_rates, [], []⟩
def d__law_right : He.DefD := ⟨("_law_right", none), "_law_right", "_law_right", defArgs s__law_right, defBody s__law_right, defScope s__law_right, [], []⟩
def d_law : He.DefD := ⟨("law", none), "law", "law", defArgs s_law, defBody s_law, defScope s_law, [], []⟩
def d_Spending_init : He.DefD := ⟨("Spending", some "__init__"), "__init__", "Spending.__init__", defArgs s_Spending_init, defBody s_Spending_init, defScope s_Spending_init, [.int 0, .bl true, .int 1, .int 0], []⟩
def d_NoRate_init : He.DefD := ⟨("NoRate", some "__init__"), "__init__", "NoRate.__init__", defArgs s_NoRate_init, defBody s_NoRate_init, defScope s_NoRate_init, [], []⟩
def fn : List He.DefD := [d_is_whole, d_is_truth, d_is_kind, d_is_day, d_check_heads, d_check_parts, d_is_row, d_are_rates, d_check_rates, d_rate_on, d_told_rates, d_share_of, d__law_box, d__law_more, d__law_take, d__law_family, d__law_word, d__law_said, d__law_odd, d__law_whole, d__law_rates, d__law_rate, d__law_are, d__law_bent, d__law_odd_rates, d__law_right, d_law, d_Spending_init, d_NoRate_init]
def fa0 : List He.Fa := [.glo "is_whole", .glo "is_truth", .glo "is_kind", .glo "is_day", .glo "check_heads", .glo "check_parts", .glo "is_row", .glo "are_rates", .glo "check_rates", .glo "rate_on", .glo "told_rates", .glo "share_of", .glo "_law_box", .glo "_law_more", .glo "_law_take", .glo "_law_family", .glo "_law_word", .glo "_law_said", .glo "_law_odd", .glo "_law_whole", .glo "_law_rates", .glo "_law_rate", .glo "_law_are", .glo "_law_bent", .glo "_law_odd_rates", .glo "_law_right", .glo "law", .glo "KINDS", .glo "Spending", .glo "PenceError"]
def fa1 : List He.Fa := [.glo "NoRates", .glo "NoSpot", .glo "NoShare", .glo "NoBook", .glo "NoPlace", .glo "Absent", .glo "Nothing", .glo "NoTable", .glo "NoLine", .glo "NoSpending", .glo "NoRule", .glo "NoJourney", .glo "NoText", .glo "TooMany", .glo "NoRate", .glo "NoDay", .glo "NoName", .glo "NoHeads", .free "range", .free "abs", .free "len", .free "divmod", .free "isinstance", .free "int", .free "bool", .free "tuple", .free "list", .free "set", .free "sorted", .free "max"]
def fa2 : List He.Fa := [.free "min", .free "repr", .free "ValueError", .free "KeyError", .free "IndexError", .free "LookupError", .free "ZeroDivisionError", .int "LAST_DAY" 59, .int "LAST_MONEY" 3, .int "MOST_AMOUNT" 1000000, .int "MOST_HEADS" 6, .int "MOST_ROWS" 12, .int "MOST_SIDE" 1000000, .cls "Spending", .noat "Spending" "kind", .noat "Spending" "amount", .noat "Spending" "day", .noat "Spending" "paper", .noat "Spending" "heads", .noat "Spending" "money", .mkr "Spending"]
def fa : List He.Fa := fa0 ++ fa1 ++ fa2
def ex (K : PySem.W.Frag) : Bool := He.tupB K "KINDS" [.str "bed", .str "fee", .str "meal", .str "ride", .str "sundry"] && (exFB exNames K && (xiB K (exA K "NoRate") [.type "LookupError", .type "Exception", .type "BaseException", .type "object"] "LookupError.__new__" && (He.eqO (PySem.W.findIn K (.ref (exA K "NoRate")) "money") (some none) && (He.eqO (PySem.W.findIn K (.ref (exA K "NoRate")) "day") (some none) && (He.eqO (PySem.W.findIn K (.ref (exA K "NoRate")) "__init__") (some (some (.ref (He.ma K (exA K "NoRate") "__init__")))) && (decide (PySem.W.typeIn K (.ref (He.ma K (exA K "NoRate") "__init__")) = some (.type "function")) && (PySem.W.excIn K (exA K "NoRates") [.type "ValueError", .type "Exception", .type "BaseException", .type "object"] "ValueError.__new__" && (PySem.W.keepIn K (.ref (exA K "NoRates")) && (decide (PySem.W.subIn K (.ref (exA K "NoRates")) (.type "BaseException") = some true) && (decide (PySem.W.typeIn K (.ref (exA K "NoRates")) = some (.type "type")) && (decide ((He.cT K ("_law_right", none)).2 ≠ (He.cT K ("law", none)).2))))))))))))
def loose0 : List Str := ["_wall", "__name__", "PenceError", "NoRates", "NoSpot", "NoShare", "NoBook", "NoPlace", "Absent", "Nothing"]
def loose1 : List Str := ["NoTable", "NoLine", "NoSpending", "NoRule", "NoJourney", "NoText", "TooMany", "NoRate", "NoDay", "NoName"]
def loose2 : List Str := ["NoHeads", "KINDS", "LAST_DAY", "LAST_MONEY", "is_whole", "is_truth", "is_kind", "is_day", "MOST_ROWS", "MOST_SIDE"]
def loose3 : List Str := ["is_row", "are_rates", "check_rates", "told_rates", "rate_on", "share_of", "MOST_AMOUNT", "MOST_HEADS", "check_heads", "check_parts"]
def loose4 : List Str := ["Spending", "_law_box", "_law_more", "_law_take", "_law_family", "_law_word", "_law_said", "_law_odd", "_law_whole", "_law_rates"]
def loose5 : List Str := ["_law_rate", "_law_are", "_law_bent", "_law_odd_rates", "_law_right"]
def loose : List Str := (loose0 ++ (loose1 ++ (loose2 ++ (loose3 ++ (loose4 ++ loose5)))))
abbrev RR : PySem.W.OpenRow := PySem.W.OpenLaw.row PySem.Challenge.rw_roadpence_k04_rates_of_days
abbrev RV : Program := PySem.W.view RR.prog [59]
abbrev HV : Nat := 5
def ts : List He.Tab := []
def tf : List He.Defn := [("_law_right", none), ("law", none)]
def hk : PySem.W.Hook := He.hookX HV fa fn ts tf ex
def ob (s : PySem.W.SharedT) : hk.α := He.obsX HV fa fn ts tf ex (HandSHeadRun.getT s)
theorem code_at {K : PySem.W.Frag} {p : He.Defn} {x qual : Str} {ps : Arguments} {b : List Stmt} {sc : Scope} {dvs : List V} {kws : List (Str × V)} {fd : FuncData} (F : FunD K x qual ps b sc dvs kws (He.fAd K p) fd) : ∀ oc od osl, K.lookup (He.fAd K p) = some ⟨oc, od, .func fd, osl⟩ → fd.code = .ref (He.cT K p).1 := by
  obtain ⟨oc, od, dV, kV, doc, pm, an, cdv, ct, osl, rfl, lk, hcd, _, _⟩ := F.ex
  obtain ⟨c, rfl⟩ := He.codeIn_ref hcd
  intro _ _ _ _
  exact congrArg Value.ref (He.codeOf_eq lk rfl).symm
theorem tab_first {H : Hp} {P : Addr} {q : Str} (h : H P = some (.tbl #[])) : LamX.TabS H P q := ⟨#[], h, trivial, fun pos cv e => by cases e⟩
theorem ob_eq (s : PySem.W.SharedT) : ob s = hk.obs s.abs := by
  have e : HandSHeadRun.getT s = s.abs.heap.get? := funext (HandSHeadRun.getT_eq s)
  unfold ob
  rw [e]
  rfl
set_option maxHeartbeats 0 in
theorem run (w : World) : HandSHeadRun.RunEq RR RV hk ob 9000 loose w := by
  intro os
  kernel_rfl
theorem iteNT {A B : Prop} (h : B) : if (!true) = true then A else B := iteF h
theorem iteNF {A B : Prop} (h : A) : if (!false) = true then A else B := iteT h
theorem nx_mk {f : L2.St → Hp → Prop} {r : VK} {b c : L2.St → Hp → Prop} {σ : L2.St} {H : Hp} (h : f σ H) : Ends.nx ⟨f, r, b, c⟩ σ H := h
theorem rt_mk {f : L2.St → Hp → Prop} {r : VK} {b c : L2.St → Hp → Prop} {v : V} {H : Hp} (h : r v H) : Ends.rt ⟨f, r, b, c⟩ v H := h
theorem bk_mk {f : L2.St → Hp → Prop} {r : VK} {b c : L2.St → Hp → Prop} {σ : L2.St} {H : Hp} (h : b σ H) : Ends.bk ⟨f, r, b, c⟩ σ H := h
theorem ct_mk {f : L2.St → Hp → Prop} {r : VK} {b c : L2.St → Hp → Prop} {σ : L2.St} {H : Hp} (h : c σ H) : Ends.ct ⟨f, r, b, c⟩ σ H := h
local macro_rules | `(tactic| walk_at "lk") => `(tactic| first | with_reducible exact Lk.here | ((with_reducible apply Lk.there); walk_at "lk"))
local macro_rules | `(tactic| walk_at "pt") => `(tactic| first | with_reducible exact Pt.here | ((with_reducible apply Pt.there); walk_at "pt"))
local macro_rules | `(tactic| walk_at "mem") => `(tactic| first | with_reducible exact List.mem_cons_self | ((with_reducible refine List.mem_cons_of_mem _ ?_); walk_at "mem"))
local macro_rules | `(tactic| walk_at "hk") => `(tactic| first
  | assumption
  | ((with_reducible apply Ex.get (by assumption)); walk_at "hk")
  | ((with_reducible apply Exb.get (by assumption)); (focus (walk_at "hne")); walk_at "hk"))
local macro_rules | `(tactic| walk_at "hne") => `(tactic| first
  | assumption
  | exact Ne.symm (by assumption)
  | ((with_reducible apply ne_fresh (by assumption)); walk_at "hk"))
local macro_rules | `(tactic| walk_at "hx") => `(tactic| first
  | assumption
  | exact (Ex.refl _).toB
  | exact Ex.toB (by assumption)
  | ((refine Exb.trans ?x1 (by assumption)); (case x1 => walk_at "hx"))
  | ((refine Exb.trans ?x1 (Ex.toB (by assumption))); (case x1 => walk_at "hx")))
local macro_rules | `(tactic| walk_at "put") => `(tactic| ((with_reducible apply put_i); (focus (walk_at "pt"))))
local macro_rules | `(tactic| walk_at "w1") => `(tactic| first
  | with_reducible refine nx_mk ?_
  | with_reducible refine rt_mk ?_
  | with_reducible refine wB_one ?_
  | with_reducible refine wB_cons' fun _ _ => ?_
  | with_reducible refine wB_nil ?_
  | ((with_reducible apply wE_name (by assumption)); (focus (walk_at "mem")); (focus (walk_at "lk")))
  | with_reducible refine isB ?_
  | with_reducible refine wE_lst ?_
  | with_reducible refine wE_tup ?_
  | with_reducible refine wE_int ?_
  | with_reducible refine wE_bl ?_
  | with_reducible refine wE_non ?_
  | with_reducible refine wE_str ?_
  | with_reducible refine wE_bin ?_
  | with_reducible refine wE_ifexp ?_
  | with_reducible refine o_isN ?_
  | with_reducible refine o_notN ?_
  | with_reducible refine o_add ?_
  | with_reducible refine o_sub ?_
  | with_reducible refine o_pow6 ?_
  | with_reducible refine o_pow5 ?_
  | ((with_reducible refine o_mulL ?h1 ?h2 ?_); (case h1 => omega); (case h2 => omega))
  | ((with_reducible refine o_mulR ?h1 ?h2 ?_); (case h1 => omega); (case h2 => omega))
  | ((with_reducible refine o_div ?h1 ?h2 ?_); (case h1 => omega); (case h2 => omega))
  | ((with_reducible refine o_mod ?h1 ?_); (case h1 => omega))
  | ((with_reducible refine wA_cons ?s1 ?_); (case s1 => rfl))
  | with_reducible refine wA_nil ?_
  | with_reducible refine wK_cons ?_
  | with_reducible refine wK_nil ?_
  | with_reducible refine isI ?_
  | with_reducible refine wE_slTo (by assumption) ?_
  | with_reducible refine wE_slFrom (by assumption) ?_
  | ((with_reducible refine wE_ix ?s1 ?_); (case s1 => exact fun _ _ => rfl))
  | ((with_reducible refine wS_set (by assumption) ?s0 ?s1 ?_); (case s0 => walk_at "mem"); (case s1 => rfl))
  | (with_reducible refine wS_ret ?_)
  | with_reducible refine iteT ?_
  | with_reducible refine iteNF ?_
  | with_reducible refine iteNT ?_
  | with_reducible refine iteF ?_
  | ((with_reducible refine wT_cmp ?s1 ?_); (case s1 => rfl))
  | ((with_reducible refine wT_chain ?s1 ?_); (case s1 => rfl))
  | with_reducible refine wT_not ?_
  | with_reducible refine wT_and ?_
  | with_reducible refine wT_or ?_
  | with_reducible refine wW_and ?_
  | with_reducible refine wW_and1 ?_
  | with_reducible refine wW_or ?_
  | with_reducible refine wW_or1 ?_
  | ((with_reducible refine wT_val ?s1 ?_); (case s1 => intro _; rfl))
  | with_reducible refine wE_and ?_
  | with_reducible refine wE_or ?_
  | with_reducible refine wE_one ?_
  | with_reducible refine wE_not ?_
  | ((with_reducible refine wE_cmp ?s1 ?_); (case s1 => rfl))
  | ((with_reducible refine wE_chain ?s1 ?_); (case s1 => rfl))
  | ((with_reducible refine wS_expr ?s1 ?_); (case s1 => rfl))
  | with_reducible refine o_lt ?_
  | with_reducible refine o_le ?_
  | with_reducible refine o_gt ?_
  | with_reducible refine o_ge ?_
  | with_reducible refine o_eqI ?_
  | with_reducible refine o_neI ?_
  | ((with_reducible refine wS_fld (by assumption) ?s1 ?_); (case s1 => rfl))
  | ((with_reducible refine wS_asgT ?s1 ?s2 ?s3 ?_); (case s1 => rfl); (case s2 => rfl); (case s3 => rfl))
  | ((with_reducible apply i_listL (by assumption)); (focus (exact fun _ _ => rfl)); (focus (apply SqL.of; walk_at "hk")); (focus rfl))
  | ((with_reducible apply i_tupL (by assumption)); (focus (exact fun _ _ => rfl)); (focus (apply SqT.of; walk_at "hk")); (focus rfl))
  | ((with_reducible refine wG_setL ?s1 ?_); (case s1 => exact fun _ => rfl))
  | ((with_reducible apply setL_i); (focus (walk_at "hk")); (focus rfl); (intro H3 e3 h3; simp only [Int.reduceToNat, Int.toNat_zero, Int.toNat_one, List.set_cons_succ, List.set_cons_zero] at h3))
  | ((with_reducible refine wE_fldQ (by assumption) ?s1 ?_); (case s1 => rfl))
  | walk_at "put"
  | with_reducible refine Nx.go (by assumption) ?_
  | ((with_reducible refine wG_name (by assumption) ?s0 ?_); (case s0 => walk_at "mem"))
  | ((with_reducible apply wG_tup (by assumption)); (focus (apply SqT.of; walk_at "hk")); (focus rfl); (focus rfl))
  | ((with_reducible refine wGs_cons ?s1 ?_); (case s1 => rfl))
  | ((with_reducible apply wE_nameH (by assumption)); (focus (walk_at "mem")); (focus (walk_at "lk")))
  | ((with_reducible refine wS_setH (by assumption) ?s0 ?s1 ?_); (case s0 => walk_at "mem"); (case s1 => rfl))
  | with_reducible refine wGs_nil ?_)
local macro_rules | `(tactic| walk_at "ws") => `(tactic| (repeat walk_at "w1"))
local macro_rules | `(tactic| walk_at "if") => `(tactic| ((with_reducible refine wS_if ?_); walk_at "ws"))
local macro_rules | `(tactic| walk_at "w2") => `(tactic| first
  | with_reducible refine nx_mk ?_
  | with_reducible refine wB_one ?_
  | with_reducible refine wB_cons' fun _ _ => ?_
  | with_reducible refine wB_nil ?_
  | walk_at "put"
  | with_reducible refine Nx.go (by assumption) ?_
  | ((with_reducible refine wG_name (by assumption) ?s0 ?_); (case s0 => walk_at "mem"))
  | ((with_reducible apply wG_tup (by assumption)); (focus (apply SqT.of; walk_at "hk")); (focus rfl); (focus rfl))
  | ((with_reducible refine wGs_cons ?s1 ?_); (case s1 => rfl))
  | with_reducible refine wGs_nil ?_)
local macro_rules | `(tactic| walk_at "st") => `(tactic| (repeat walk_at "w2"))
/-! ### what the top leaves -/
structure Txt (K : PySem.W.Frag) (mg : Str → Option Value) : Prop where
  range : mg "range" = none
  abs : mg "abs" = none
  len : mg "len" = none
  divmod : mg "divmod" = none
  isinstance : mg "isinstance" = none
  int : mg "int" = none
  bool : mg "bool" = none
  kinds : ∃ a, mg "KINDS" = some (.ref a) ∧ ∀ H, SqT K H a [.str "bed", .str "fee", .str "meal", .str "ride", .str "sundry"]
  lday : ∃ t, mg "LAST_DAY" = some (.int 59 t)
  lmon : ∃ t, mg "LAST_MONEY" = some (.int 3 t)
  mamt : ∃ t, mg "MOST_AMOUNT" = some (.int 1000000 t)
  mhea : ∃ t, mg "MOST_HEADS" = some (.int 6 t)
theorem kb_ii : kitB "int" "int" = some true := by decide +kernel
theorem kb_ib : kitB "int" "bool" = some false := by decide +kernel
theorem kb_bb : kitB "bool" "bool" = some true := by decide +kernel
def wholeB (i lo hi : Int) : Bool := decide (lo ≤ i) && decide (i ≤ hi)
def spWhole : Sp := fun vs H Q _ => ∃ i lo hi : Int, vs = [.int i, .int lo, .int hi] ∧ Q (.bl (wholeB i lo hi)) H
def spTruth : Sp := fun vs H Q _ => ∃ b : Bool, vs = [.bl b] ∧ Q (.bl true) H
def spKind : Sp := fun vs H Q _ => ∃ z : Str, vs = [.str z] ∧ Q (.bl (inV (.str z) [.str "bed", .str "fee", .str "meal", .str "ride", .str "sundry"])) H
def spDay : Sp := fun vs H Q _ => ∃ i : Int, vs = [.int i] ∧ Q (.bl (wholeB i 0 59)) H
section
variable {P : Program} {w : World} {K : PySem.W.Frag} {mg : Str → Option Value} {base : Heap} {f : Addr} {fd : FuncData}
theorem p_whole (F : Fn K "is_whole" "is_whole" s_is_whole f fd) (T : Txt K mg) : FnOk P w K mg base CX0 1 f fd ["thing", "least", "most"] spWhole := by
  refine fn_w F sc_is_whole ok_is_whole (fun vs H Q E h => by obtain ⟨i, lo, hi, rfl, _⟩ := h; rfl) (fun X vs H Q E C h => ?_)
  obtain ⟨i, lo, hi, rfl, q⟩ := h
  show wB X _ _ [some (.int i), some (.int lo), some (.int hi)] H
  first | refine wB_one ?_ | refine wB_cons' fun _ _ => ?_
  walk_at "ws"
  refine wE_callB C T.isinstance (by walk_at "mem") boot_isinstance (by rfl) (by rfl) ?_
  walk_at "ws"
  refine wE_bltn (v := .ty "int") C T.int (by walk_at "mem") boot_int rfl ?_
  walk_at "ws"
  refine c_isi C (.ty "int") (.base (.int i)) kb_ii ?_
  walk_at "ws"
  refine wE_callB C T.isinstance (by walk_at "mem") boot_isinstance (by rfl) (by rfl) ?_
  walk_at "ws"
  refine wE_bltn (v := .ty "bool") C T.bool (by walk_at "mem") boot_bool rfl ?_
  walk_at "ws"
  refine c_isi C (.ty "bool") (.base (.int i)) kb_ib ?_
  walk_at "ws"
  unfold wholeB at q
  refine iteD (fun h => ?_) (fun h => ?_)
  · walk_at "ws"
    rw [decide_eq_true h] at q
    exact q
  · rw [decide_eq_false h] at q
    exact q
theorem p_truth (F : Fn K "is_truth" "is_truth" s_is_truth f fd) (T : Txt K mg) : FnOk P w K mg base CX0 1 f fd ["thing"] spTruth := by
  refine fn_w F sc_is_truth ok_is_truth (fun vs H Q E h => by obtain ⟨i, rfl, _⟩ := h; rfl) (fun X vs H Q E C h => ?_)
  obtain ⟨i, rfl, q⟩ := h
  show wB X _ _ [some (.bl i)] H
  first | refine wB_one ?_ | refine wB_cons' fun _ _ => ?_
  walk_at "ws"
  refine wE_callB C T.isinstance (by walk_at "mem") boot_isinstance (by rfl) (by rfl) ?_
  walk_at "ws"
  refine wE_bltn (v := .ty "bool") C T.bool (by walk_at "mem") boot_bool rfl ?_
  walk_at "ws"
  refine c_isi C (.ty "bool") (.base (.bl i)) kb_bb ?_
  exact q
theorem p_kind (F : Fn K "is_kind" "is_kind" s_is_kind f fd) (T : Txt K mg) : FnOk P w K mg base CX0 1 f fd ["thing"] spKind := by
  refine fn_w F sc_is_kind ok_is_kind (fun vs H Q E h => by obtain ⟨i, rfl, _⟩ := h; rfl) (fun X vs H Q E C h => ?_)
  obtain ⟨z, rfl, q⟩ := h
  show wB X _ _ [some (.str z)] H
  first | refine wB_one ?_ | refine wB_cons' fun _ _ => ?_
  walk_at "ws"
  obtain ⟨a, ma, ha⟩ := T.kinds
  refine wE_glob (v := .ref a) C (by walk_at "mem") ma rfl ?_
  refine o_inT C (ha H) rfl rfl ?_
  exact q
theorem p_day (F : Fn K "is_day" "is_day" s_is_day f fd) (T : Txt K mg) (DW : Df P w K mg base 1 "is_whole" ["thing", "least", "most"] [] spWhole) : FnOk P w K mg base CX0 2 f fd ["thing"] spDay := by
  refine fn_w F sc_is_day ok_is_day (fun vs H Q E h => by obtain ⟨i, rfl, _⟩ := h; rfl) (fun X vs H Q E C h => ?_)
  obtain ⟨i, rfl, q⟩ := h
  show wB X _ _ [some (.int i)] H
  first | refine wB_one ?_ | refine wB_cons' fun _ _ => ?_
  walk_at "ws"
  obtain ⟨t, mt⟩ := T.lday
  refine wE_call C DW (by walk_at "mem") (by decide) (by rfl) (by rfl) ?_
  walk_at "ws"
  refine wE_glob (v := .int 59) C (by walk_at "mem") mt ⟨t, rfl⟩ ?_
  walk_at "ws"
  exact ⟨i, 0, 59, rfl, q⟩
end
structure Row where
  kind : Str
  bill : Int
  day : Int
  slip : Bool
  heads : Int
  coin : Int
def kindsL : List V := [.str "bed", .str "fee", .str "meal", .str "ride", .str "sundry"]
structure Row.Ok (r : Row) : Prop where
  kind : inV (.str r.kind) kindsL = true
  b1 : 1 ≤ r.bill
  b2 : r.bill ≤ 1000000
  d1 : 0 ≤ r.day
  d2 : r.day ≤ 59
  h1 : 1 ≤ r.heads
  h2 : r.heads ≤ 6
  c1 : 0 ≤ r.coin
  c2 : r.coin ≤ 3
def Row.vs (r : Row) : List V := [.str r.kind, .int r.bill, .int r.day, .bl r.slip, .int r.heads, .int r.coin]
def Row.fs (r : Row) : List (Str × V) := putF "money" (.int r.coin) (putF "heads" (.int r.heads) (putF "paper" (.bl r.slip) (putF "day" (.int r.day) (putF "amount" (.int r.bill) (putF "kind" (.str r.kind) [])))))
theorem Row.l_money (r : Row) : r.fs.lookup ("money" : Str) = some (.int r.coin) := by unfold Row.fs; rw [lookup_putF, if_pos rfl]
theorem Row.l_heads (r : Row) : r.fs.lookup ("heads" : Str) = some (.int r.heads) := by unfold Row.fs; rw [lookup_putF, if_neg (by decide +kernel), lookup_putF, if_pos rfl]
theorem Row.l_paper (r : Row) : r.fs.lookup ("paper" : Str) = some (.bl r.slip) := by unfold Row.fs; rw [lookup_putF, if_neg (by decide +kernel), lookup_putF, if_neg (by decide +kernel), lookup_putF, if_pos rfl]
theorem Row.l_day (r : Row) : r.fs.lookup ("day" : Str) = some (.int r.day) := by unfold Row.fs; rw [lookup_putF, if_neg (by decide +kernel), lookup_putF, if_neg (by decide +kernel), lookup_putF, if_neg (by decide +kernel), lookup_putF, if_pos rfl]
theorem Row.l_amount (r : Row) : r.fs.lookup ("amount" : Str) = some (.int r.bill) := by unfold Row.fs; rw [lookup_putF, if_neg (by decide +kernel), lookup_putF, if_neg (by decide +kernel), lookup_putF, if_neg (by decide +kernel), lookup_putF, if_neg (by decide +kernel), lookup_putF, if_pos rfl]
theorem Row.l_kind (r : Row) : r.fs.lookup ("kind" : Str) = some (.str r.kind) := by unfold Row.fs; rw [lookup_putF, if_neg (by decide +kernel), lookup_putF, if_neg (by decide +kernel), lookup_putF, if_neg (by decide +kernel), lookup_putF, if_neg (by decide +kernel), lookup_putF, if_neg (by decide +kernel), lookup_putF, if_pos rfl]
theorem Row.l_but (r : Row) : r.fs.lookup ("but" : Str) = none := by unfold Row.fs; rw [lookup_putF, if_neg (by decide +kernel), lookup_putF, if_neg (by decide +kernel), lookup_putF, if_neg (by decide +kernel), lookup_putF, if_neg (by decide +kernel), lookup_putF, if_neg (by decide +kernel), lookup_putF, if_neg (by decide +kernel)]; rfl
/-- the class of the spendings -/
structure Sc (K : PySem.W.Frag) (C : Addr) : Prop where
  cl : Cls K C
  nk : NoAttr K C "kind"
  na : NoAttr K C "amount"
  nd : NoAttr K C "day"
  np : NoAttr K C "paper"
  nh : NoAttr K C "heads"
  nm : NoAttr K C "money"
def spHeads : Sp := fun vs H Q _ => ∃ i : Int, vs = [.int i] ∧ 1 ≤ i ∧ i ≤ 6 ∧ Q .non H
def spParts : Sp := fun vs H Q _ => ∃ r : Row, vs = r.vs ∧ r.Ok ∧ Q .non H
def spInit (C : Addr) : Sp := fun vs H Q _ => ∃ (p dx : Addr) (r : Row), vs = .ref p :: r.vs ∧ r.Ok ∧ H p = some (.ins C dx []) ∧ ∀ H', Exb p H H' → H' p = some (.ins C dx r.fs) → Q .non H'
section
variable {P : Program} {w : World} {K : PySem.W.Frag} {mg : Str → Option Value} {base : Heap} {f C0 : Addr} {fd : FuncData}
theorem p_heads (F : Fn K "check_heads" "check_heads" s_check_heads f fd) (T : Txt K mg) (DW : Df P w K mg base 1 "is_whole" ["thing", "least", "most"] [] spWhole) : FnOk P w K mg base CX0 2 f fd ["heads"] spHeads := by
  refine fn_w F sc_check_heads ok_check_heads (fun vs H Q E h => by obtain ⟨i, rfl, h1, h2, q⟩ := h; rfl) (fun X vs H Q E C h => ?_)
  obtain ⟨i, rfl, h1, h2, q⟩ := h
  show wB X _ _ [some (.int i)] H
  first | refine wB_one ?_ | refine wB_cons' fun _ _ => ?_
  walk_at "ws"
  refine wS_if ?_
  walk_at "ws"
  refine wE_call C DW (by walk_at "mem") (by decide) (by rfl) (by rfl) ?_
  walk_at "ws"
  refine ⟨i, 0, 0, rfl, ?_⟩
  rw [show wholeB i 0 0 = false by unfold wholeB; simp; omega]
  walk_at "ws"
  refine wS_if ?_
  walk_at "ws"
  refine wE_call C DW (by walk_at "mem") (by decide) (by rfl) (by rfl) ?_
  walk_at "ws"
  refine wE_glob (v := .int 6) C (by walk_at "mem") T.mhea.choose_spec ⟨_, rfl⟩ ?_
  walk_at "ws"
  refine ⟨i, 1, 6, rfl, ?_⟩
  rw [show wholeB i 1 6 = true by unfold wholeB; simp; omega]
  walk_at "ws"
  exact q
theorem p_parts (F : Fn K "check_parts" "check_parts" s_check_parts f fd) (T : Txt K mg) (DW : Df P w K mg base 1 "is_whole" ["thing", "least", "most"] [] spWhole) (DK : Df P w K mg base 1 "is_kind" ["thing"] [] spKind)
    (DD : Df P w K mg base 2 "is_day" ["thing"] [] spDay) (DT : Df P w K mg base 1 "is_truth" ["thing"] [] spTruth) (DH : Df P w K mg base 2 "check_heads" ["heads"] [] spHeads) : FnOk P w K mg base CX0 3 f fd ["kind", "amount", "day", "paper", "heads", "money"] spParts := by
  refine fn_w F sc_check_parts ok_check_parts (fun vs H Q E h => by obtain ⟨r, rfl, o, q⟩ := h; rfl) (fun X vs H Q E C h => ?_)
  obtain ⟨r, rfl, o, q⟩ := h
  show wB X _ _ [some (.str r.kind), some (.int r.bill), some (.int r.day), some (.bl r.slip), some (.int r.heads), some (.int r.coin)] H
  first | refine wB_one ?_ | refine wB_cons' fun _ _ => ?_
  walk_at "ws"
  refine wS_if ?_
  walk_at "ws"
  refine wE_call C DK (by walk_at "mem") (by decide) (by rfl) (by rfl) ?_
  walk_at "ws"
  refine ⟨_, rfl, ?_⟩
  rw [show inV (.str r.kind) [.str "bed", .str "fee", .str "meal", .str "ride", .str "sundry"] = true from o.kind]
  walk_at "ws"
  refine wS_if ?_
  walk_at "ws"
  refine wE_call C DW (by walk_at "mem") (by decide) (by rfl) (by rfl) ?_
  walk_at "ws"
  refine wE_glob (v := .int 1000000) C (by walk_at "mem") T.mamt.choose_spec ⟨_, rfl⟩ ?_
  walk_at "ws"
  refine ⟨_, _, _, rfl, ?_⟩
  rw [show wholeB r.bill 1 1000000 = true by have := o.b1; have := o.b2; unfold wholeB; simp; omega]
  walk_at "ws"
  refine wS_if ?_
  walk_at "ws"
  refine wE_call C DD (by walk_at "mem") (by decide) (by rfl) (by rfl) ?_
  walk_at "ws"
  refine ⟨_, rfl, ?_⟩
  rw [show wholeB r.day 0 59 = true by have := o.d1; have := o.d2; unfold wholeB; simp; omega]
  walk_at "ws"
  refine wS_if ?_
  walk_at "ws"
  refine wE_call C DT (by walk_at "mem") (by decide) (by rfl) (by rfl) ?_
  walk_at "ws"
  refine ⟨_, rfl, ?_⟩
  walk_at "ws"
  refine wE_call C DH (by walk_at "mem") (by decide) (by rfl) (by rfl) ?_
  walk_at "ws"
  refine ⟨_, rfl, o.h1, o.h2, ?_⟩
  walk_at "ws"
  refine wS_if ?_
  walk_at "ws"
  refine wE_call C DW (by walk_at "mem") (by decide) (by rfl) (by rfl) ?_
  walk_at "ws"
  refine wE_glob (v := .int 3) C (by walk_at "mem") T.lmon.choose_spec ⟨_, rfl⟩ ?_
  walk_at "ws"
  refine ⟨_, _, _, rfl, ?_⟩
  rw [show wholeB r.coin 0 3 = true by have := o.c1; have := o.c2; unfold wholeB; simp; omega]
  walk_at "ws"
  exact q
end
section
variable {P : Program} {w : World} {K : PySem.W.Frag} {mg : Str → Option Value} {base : Heap} {f C0 : Addr} {fd : FuncData}
theorem p_init (F : Fn K "__init__" "Spending.__init__" s_Spending_init f fd) (S : Sc K C0) (DP : Df P w K mg base 3 "check_parts" ["kind", "amount", "day", "paper", "heads", "money"] [] spParts) :
    FnOk P w K mg base CX0 4 f fd ["self", "kind", "amount", "day", "paper", "heads", "money"] (spInit C0) := by
  refine fn_w F sc_Spending_init ok_Spending_init (fun vs H Q E h => by obtain ⟨p, dx, r, rfl, o, hp, q⟩ := h; rfl) (fun X vs H Q E C h => ?_)
  obtain ⟨p, dx, r, rfl, o, hp, q⟩ := h
  show wB X _ _ [some (.ref p), some (.str r.kind), some (.int r.bill), some (.int r.day), some (.bl r.slip), some (.int r.heads), some (.int r.coin)] H
  first | refine wB_one ?_ | refine wB_cons' fun _ _ => ?_
  walk_at "ws"
  refine wE_call C DP (by walk_at "mem") (by decide) (by rfl) (by rfl) ?_
  walk_at "ws"
  refine ⟨r, rfl, o, ?_⟩
  walk_at "ws"
  refine putq_i hp S.cl S.nk (by decide) fun H1 e1 h1 => ?_
  walk_at "ws"
  refine putq_i h1 S.cl S.na (Nat.lt_of_le_of_lt (len_put (Nat.zero_le 0)) (by decide)) fun H2 e2 h2 => ?_
  walk_at "ws"
  refine putq_i h2 S.cl S.nd (Nat.lt_of_le_of_lt (len_put (len_put (Nat.zero_le 0))) (by decide)) fun H3 e3 h3 => ?_
  walk_at "ws"
  refine putq_i h3 S.cl S.np (Nat.lt_of_le_of_lt (len_put (len_put (len_put (Nat.zero_le 0)))) (by decide)) fun H4 e4 h4 => ?_
  walk_at "ws"
  refine putq_i h4 S.cl S.nh (Nat.lt_of_le_of_lt (len_put (len_put (len_put (len_put (Nat.zero_le 0))))) (by decide)) fun H5 e5 h5 => ?_
  walk_at "ws"
  refine putq_i h5 S.cl S.nm (Nat.lt_of_le_of_lt (len_put (len_put (len_put (len_put (len_put (Nat.zero_le 0)))))) (by decide)) fun H6 e6 h6 => ?_
  walk_at "ws"
  exact q _ (((((e1.trans e2).trans e3).trans e4).trans e5).trans e6) h6
end
def spBox (K : PySem.W.Frag) : Sp := fun vs H Q _ => ∃ (a : Addr) (ns : List Int) (k : Int), vs = [.ref a, .int k] ∧ SqL K H a (ns.map V.int) ∧ 0 ≤ k ∧ ∀ p n m H', H p = none → Ex H H' → H' p = some (.lst [.int n, .int m]) → Q (.ref p) H'
theorem atI_map {ns : List Int} {k : Int} (h0 : 0 ≤ k) (h1 : k < ns.length) : ∃ z, atI (ns.map V.int) k = some (.int z) := by
  obtain ⟨v, e, hv⟩ := atI_mem (xs := ns.map V.int) h0 (by rw [List.length_map]; exact h1)
  obtain ⟨z, _, rfl⟩ := List.mem_map.mp hv
  exact ⟨z, e⟩
section
variable {P : Program} {w : World} {K : PySem.W.Frag} {mg : Str → Option Value} {base : Heap} {f C0 : Addr} {fd : FuncData}
theorem p_box (F : Fn K "_law_box" "_law_box" s__law_box f fd) (T : Txt K mg) : FnOk P w K mg base CX0 1 f fd ["_law_script", "_law_k"] (spBox K) := by
  refine fn_w F sc__law_box ok__law_box (fun vs H Q E h => by obtain ⟨a, ns, k, rfl, ha, hk, q⟩ := h; rfl) (fun X vs H Q E C h => ?_)
  obtain ⟨a, ns, k, rfl, ha, hk, q⟩ := h
  show wB X _ _ [some (.ref a), some (.int k), none, none, none, none] H
  first | refine wB_one ?_ | refine wB_cons' fun _ _ => ?_
  walk_at "ws"
  refine wS_cut (fun σ' H' => ∃ z, σ' = [some (.ref a), some (.int k), some (.int z), none, none, none] ∧ H' = H) ?_ ?_
  · refine wS_if ?_
    walk_at "ws"
    refine wE_callB C T.len (by walk_at "mem") boot_len (by rfl) (by rfl) ?_
    walk_at "ws"
    refine c_lenL C ha ?_
    walk_at "ws"
    refine iteD (fun h => ?_) (fun h => ?_)
    · walk_at "ws"
      obtain ⟨z, hz⟩ := atI_map hk (show k < ns.length by rw [List.length_map] at h; exact h)
      refine i_list C (fun _ _ => rfl) ha hz ?_
      walk_at "ws"
      exact ⟨_, rfl, rfl⟩
    · walk_at "ws"
      exact ⟨_, rfl, rfl⟩
  rintro σ1 H1 ⟨z, rfl, rfl⟩
  walk_at "ws"
  refine wS_if ?_
  walk_at "ws"
  refine iteD (fun h => ?_) (fun h => ?_)
  · walk_at "ws"
    refine wE_callB C T.abs (by walk_at "mem") boot_abs (by rfl) (by rfl) ?_
    walk_at "ws"
    refine c_abs ?_
    walk_at "ws"
    refine ⟨(by show 2 ≤ sizeLine; decide), fun p H2 hp e h2 => ?_⟩
    exact q p _ _ H2 hp e h2
  · walk_at "ws"
    refine wS_range1 C T.range (by walk_at "mem") (by rfl) ?_
    walk_at "ws"
    refine ⟨16, rfl, by decide, fun i σ H' => ∃ r y1 y2, σ = [some (.ref a), some (.int k), some (.int z), some (.int r), y1, y2] ∧ H' = H1, ⟨0, none, none, rfl, rfl⟩, ?_, ?_⟩
    · rintro i σ H' hi ⟨r, y1, y2, rfl, rfl⟩
      refine wG_name C (by walk_at "mem") ?_
      walk_at "ws"
      exact ⟨_, _, _, rfl, rfl⟩
    · rintro σ H' ⟨r, y1, y2, rfl, rfl⟩
      walk_at "ws"
      refine wE_callB C T.abs (by walk_at "mem") boot_abs (by rfl) (by rfl) ?_
      walk_at "ws"
      refine c_abs ?_
      walk_at "ws"
      refine ⟨(by show 2 ≤ sizeLine; decide), fun p H2 hp e h2 => ?_⟩
      exact q p _ _ H2 hp e h2
end
def spTake : Sp := fun vs H Q _ => ∃ (b : Addr) (n m k : Int), vs = [.ref b, .int k] ∧ H b = some (.lst [.int n, .int m]) ∧ 0 < k ∧ k < 1073741824 ∧ ∀ d n' m' H', 0 ≤ d → d < k → H' b = some (.lst [.int n', .int m']) → Exb b H H' → Q (.int d) H'
def spMore : Sp := fun vs H Q _ => ∃ (b : Addr) (n m : Int), vs = [.ref b] ∧ H b = some (.lst [.int n, .int m]) ∧ ∀ r m' H', H' b = some (.lst [.int n, .int m']) → Exb b H H' → Q (.int r) H'
section
variable {P : Program} {w : World} {K : PySem.W.Frag} {mg : Str → Option Value} {base : Heap} {f C0 : Addr} {fd : FuncData}
theorem p_more (F : Fn K "_law_more" "_law_more" s__law_more f fd) (T : Txt K mg) : FnOk P w K mg base CX0 1 f fd ["_law_box_here"] spMore := by
  refine fn_w F sc__law_more ok__law_more (fun vs H Q E h => by obtain ⟨b, n, m, rfl, hb, q⟩ := h; rfl) (fun X vs H Q E C h => ?_)
  obtain ⟨b, n, m, rfl, hb, q⟩ := h
  show wB X _ _ [some (.ref b), none, none] H
  first | refine wB_one ?_ | refine wB_cons' fun _ _ => ?_
  walk_at "ws"
  refine wS_range1 C T.range (by walk_at "mem") (by rfl) ?_
  walk_at "ws"
  refine ⟨12, rfl, by decide, fun i σ H' => ∃ r m' y, σ = [some (.ref b), some (.int r), y] ∧ H' b = some (.lst [.int n, .int m']) ∧ Exb b H H', ⟨0, m, none, rfl, hb, (Ex.refl H).toB⟩, ?_, ?_⟩
  · rintro i σ H' hi ⟨r, m', y, rfl, hb', ex⟩
    refine wG_name C (by walk_at "mem") ?_
    walk_at "ws"
    refine wS_asg (by rfl) (by rfl) (by rfl) ?_
    walk_at "ws"
    exact ⟨_, _, _, rfl, by assumption, by walk_at "hx"⟩
  · rintro σ H' ⟨r, m', y, rfl, hb', ex⟩
    walk_at "ws"
    exact q r m' H' hb' ex
theorem p_take (F : Fn K "_law_take" "_law_take" s__law_take f fd) (T : Txt K mg) (D : Df P w K mg base 1 "_law_more" ["_law_box_here"] [] spMore) : FnOk P w K mg base CX0 2 f fd ["_law_box_here", "_law_count"] spTake := by
  refine fn_w F sc__law_take ok__law_take (fun vs H Q E h => by obtain ⟨b, n, m, k, rfl, hb, k0, k1, q⟩ := h; rfl) (fun X vs H Q E C h => ?_)
  obtain ⟨b, n, m, k, rfl, hb, k0, k1, q⟩ := h
  show wB X _ _ [some (.ref b), some (.int k), none, none] H
  first | refine wB_one ?_ | refine wB_cons' fun _ _ => ?_
  walk_at "ws"
  refine wS_cut (fun σ' H' => ∃ n' m', σ' = [some (.ref b), some (.int k), none, none] ∧ H' b = some (.lst [.int n', .int m']) ∧ Exb b H H') ?_ ?_
  · refine wS_if ?_
    walk_at "ws"
    refine iteD (fun h0 => ?_) (fun _ => ?_)
    · walk_at "ws"
      refine iteD (fun h1 => ?_) (fun _ => ?_)
      · walk_at "ws"
        refine wS_asg (by rfl) (by rfl) (by rfl) ?_
        walk_at "ws"
        refine wE_call C D (by walk_at "mem") (by decide) (by rfl) (by rfl) ?_
        walk_at "ws"
        refine ⟨b, n, m, rfl, hb, fun r m' H' hb' ex => ?_⟩
        walk_at "ws"
        exact ⟨_, _, rfl, by assumption, by walk_at "hx"⟩
      · walk_at "ws"
        exact ⟨_, _, rfl, hb, by walk_at "hx"⟩
    · walk_at "ws"
      exact ⟨_, _, rfl, hb, by walk_at "hx"⟩
  · rintro σ' H' ⟨n', m', rfl, hb', ex⟩
    walk_at "ws"
    refine wE_callB C T.divmod (by walk_at "mem") boot_divmod (by rfl) (by rfl) ?_
    walk_at "ws"
    refine c_divmod k0 k1 fun p H2 hp e2 h2 => ?_
    walk_at "ws"
    refine wS_asg (by rfl) (by rfl) (by rfl) ?_
    walk_at "ws"
    exact q _ _ _ _ (Int.emod_nonneg _ (by omega)) (Int.emod_lt_of_pos _ k0) (by assumption) (by walk_at "hx")
end
/-! ### rates -/
abbrev Rt := Int × Int × Int × Int
def rtN (r : Rt) : List Int := [r.1, r.2.1, r.2.2.1, r.2.2.2]
def rtV (r : Rt) : List V := [.int r.1, .int r.2.1, .int r.2.2.1, .int r.2.2.2]
structure Rt.Ok (r : Rt) : Prop where
  m1 : 1 ≤ r.1
  m2 : r.1 ≤ 3
  d1 : 0 ≤ r.2.1
  d2 : r.2.1 ≤ 59
  t1 : 1 ≤ r.2.2.1
  t2 : r.2.2.1 ≤ 1000000
  b1 : 1 ≤ r.2.2.2
  b2 : r.2.2.2 ≤ 1000000
/-- ahead of it by money and day -/
def Rt.lt (r s : Rt) : Prop := r.1 < s.1 ∨ (r.1 = s.1 ∧ r.2.1 < s.2.1)
structure RatesOk (rs : List Rt) : Prop where
  len : rs.length ≤ 12
  ok : ∀ r ∈ rs, r.Ok
  up : rs.Pairwise Rt.lt
def Tab (K : PySem.W.Frag) (H : Hp) (p : Addr) (rs : List Rt) : Prop := ∃ qs : List Addr, H p = some (.tup (qs.map V.ref)) ∧ Paired (fun q r => H q = some (.tup (rtV r))) qs rs
def rateOf (rs : List Rt) (m d : Int) : Option (Int × Int) := rs.foldl (fun acc r => if r.1 = m ∧ r.2.1 ≤ d then some (r.2.2.1, r.2.2.2) else acc) none
theorem Tab.ex {K : PySem.W.Frag} {H H' : Hp} {p : Addr} {rs : List Rt} (t : Tab K H p rs) (e : Ex H H') : Tab K H' p rs := by
  obtain ⟨qs, h, pr⟩ := t
  exact ⟨qs, e _ _ h, Paired.mapP pr fun a b z => e _ _ z⟩
theorem Tab.exb {K : PySem.W.Frag} {H H' : Hp} {p b : Addr} {rs : List Rt} {xs : List V} (t : Tab K H p rs) (hb : H b = some (.lst xs)) (e : Exb b H H') : Tab K H' p rs := by
  have ne : ∀ q ys, H q = some (.tup ys) → q ≠ b := fun q ys h => ne_of h hb (by intro z; cases z)
  obtain ⟨qs, h, pr⟩ := t
  exact ⟨qs, e _ _ (ne _ _ h) h, Paired.mapP pr fun a c z => e _ _ (ne _ _ z) z⟩
theorem Tab.at {K : PySem.W.Frag} {H : Hp} : ∀ {qs : List Addr} {rs : List Rt} {i : Nat} {y : V}, Paired (fun q r => H q = some (.tup (rtV r))) qs rs → (qs.map V.ref)[i]? = some y → ∃ q r, y = .ref q ∧ rs[i]? = some r ∧ H q = some (.tup (rtV r))
  | _, _, i, _, .nil, h => by simp at h
  | _, _, 0, y, .cons (a := q) (b := r) z t, h => ⟨q, r, by simpa using h.symm, rfl, z⟩
  | _, _, i + 1, y, .cons z t, h => by
    obtain ⟨q, r, e, e2, e3⟩ := Tab.at (i := i) (y := y) (K := K) t (by simpa using h)
    exact ⟨q, r, e, by simpa using e2, e3⟩
theorem cut_to2 {a b c d : V} : cutV [a, b, c, d] none (some 2) = [a, b] := rfl
theorem cut_from2 {a b c d : V} : cutV [a, b, c, d] (some 2) none = [c, d] := rfl
theorem kb_tt : kitB "tuple" "tuple" = some true := by decide +kernel
theorem lex2 {a b c d : Int} (h : c < a ∨ (c = a ∧ d < b)) : Ob.lexAt (fun j => decide ([a, b].getD j 0 = [c, d].getD j 0)) (fun j => decide ([a, b].getD j 0 ≤ [c, d].getD j 0)) (decide ([a, b].length ≤ [c, d].length)) 0 (min [a, b].length [c, d].length) = false := by
  show (if decide (a = c) = true then (if decide (b = d) = true then decide ((2 : Nat) ≤ 2) else decide (b ≤ d)) else decide (a ≤ c)) = false
  by_cases e : a = c
  · rw [if_pos (decide_eq_true e), if_neg (by simp; omega)]
    exact decide_eq_false (by omega)
  · rw [if_neg (by simp; exact e)]
    exact decide_eq_false (by omega)
theorem nf2 {α : Type} {a b c d : α} : ¬ (HT.sIx [a, b, c, d].length 0 none = 0 ∧ HT.sIx [a, b, c, d].length [a, b, c, d].length (some 2) = [a, b, c, d].length) := by
  intro z
  exact absurd z.2 (by show ¬ (HT.sIx 4 4 (some 2) = 4); decide)
theorem nf2' {α : Type} {a b c d : α} : ¬ (HT.sIx [a, b, c, d].length 0 (some 2) = 0 ∧ HT.sIx [a, b, c, d].length [a, b, c, d].length none = [a, b, c, d].length) := by
  intro z
  exact absurd z.1 (by show ¬ (HT.sIx 4 0 (some 2) = 0); decide)
structure Txt2 (K : PySem.W.Frag) (mg : Str → Option Value) : Prop extends Txt K mg where
  tuple : mg "tuple" = none
  mrow : ∃ t, mg "MOST_ROWS" = some (.int 12 t)
  msid : ∃ t, mg "MOST_SIDE" = some (.int 1000000 t)
def spIsRow : Sp := fun vs H Q _ => ∃ (q : Addr) (r : Rt), vs = [.ref q] ∧ H q = some (.tup (rtV r)) ∧ r.Ok ∧ ∀ H', Ex H H' → Q (.bl true) H'
def spAreRates (K : PySem.W.Frag) : Sp := fun vs H Q _ => ∃ (p : Addr) (rs : List Rt), vs = [.ref p] ∧ Tab K H p rs ∧ RatesOk rs ∧ ∀ H', Ex H H' → Q (.bl true) H'
def spCheckRates (K : PySem.W.Frag) : Sp := fun vs H Q _ => ∃ (p : Addr) (rs : List Rt), vs = [.ref p] ∧ Tab K H p rs ∧ RatesOk rs ∧ ∀ H', Ex H H' → Q .non H'
section
variable {P : Program} {w : World} {K : PySem.W.Frag} {mg : Str → Option Value} {base : Heap} {f C0 : Addr} {fd : FuncData}
theorem p_is_row (F : Fn K "is_row" "is_row" s_is_row f fd) (T : Txt2 K mg) (DW : Df P w K mg base 1 "is_whole" ["thing", "least", "most"] [] spWhole) (DD : Df P w K mg base 2 "is_day" ["thing"] [] spDay) : FnOk P w K mg base CX0 3 f fd ["thing"] spIsRow := by
  refine fn_w F sc_is_row ok_is_row (fun vs H Q E h => by obtain ⟨p, r, rfl, hp, o, q⟩ := h; rfl) (fun X vs H Q E C h => ?_)
  obtain ⟨p, r, rfl, hp, o, q⟩ := h
  show wB X _ _ [some (.ref p), none, none, none, none] H
  first | refine wB_one ?_ | refine wB_cons' fun _ _ => ?_
  walk_at "ws"
  have hp' : H p = some (.tup [.int r.1, .int r.2.1, .int r.2.2.1, .int r.2.2.2]) := hp
  have o1 := o.m1; have o2 := o.m2; have o3 := o.d1; have o4 := o.d2; have o5 := o.t1; have o6 := o.t2; have o7 := o.b1; have o8 := o.b2
  refine wS_if ?_
  walk_at "ws"
  refine wE_callB C T.isinstance (by walk_at "mem") boot_isinstance (by rfl) (by rfl) ?_
  walk_at "ws"
  refine wE_bltn (v := .ty "tuple") C T.tuple (by walk_at "mem") boot_tuple rfl ?_
  walk_at "ws"
  refine c_isi C (.ty "tuple") (.base (.tup hp)) kb_tt ?_
  walk_at "ws"
  refine wE_callB C T.len (by walk_at "mem") boot_len (by rfl) (by rfl) ?_
  walk_at "ws"
  refine c_lenT C (SqT.of hp) ?_
  walk_at "ws"
  refine iteDF (by show ¬ ((4 : Int) ≠ 4); decide) ?_
  walk_at "ws"
  refine wS_if ?_
  walk_at "ws"
  refine wE_call C DW (by walk_at "mem") (by decide) (by rfl) (by rfl) ?_
  walk_at "ws"
  refine wE_glob (v := .int 3) C (by walk_at "mem") T.lmon.choose_spec ⟨_, rfl⟩ ?_
  walk_at "ws"
  refine ⟨_, _, _, rfl, ?_⟩
  rw [show wholeB r.1 1 3 = true by unfold wholeB; simp; omega]
  walk_at "ws"
  refine wE_call C DD (by walk_at "mem") (by decide) (by rfl) (by rfl) ?_
  walk_at "ws"
  refine ⟨_, rfl, ?_⟩
  rw [show wholeB r.2.1 0 59 = true by unfold wholeB; simp; omega]
  walk_at "ws"
  refine wE_call C DW (by walk_at "mem") (by decide) (by rfl) (by rfl) ?_
  walk_at "ws"
  refine wE_glob (v := .int 1000000) C (by walk_at "mem") T.msid.choose_spec ⟨_, rfl⟩ ?_
  walk_at "ws"
  refine ⟨_, _, _, rfl, ?_⟩
  rw [show wholeB r.2.2.1 1 1000000 = true by unfold wholeB; simp; omega]
  walk_at "ws"
  refine wE_call C DW (by walk_at "mem") (by decide) (by rfl) (by rfl) ?_
  walk_at "ws"
  refine wE_glob (v := .int 1000000) C (by walk_at "mem") T.msid.choose_spec ⟨_, rfl⟩ ?_
  walk_at "ws"
  refine ⟨_, _, _, rfl, ?_⟩
  rw [show wholeB r.2.2.2 1 1000000 = true by unfold wholeB; simp; omega]
  walk_at "ws"
  exact q H (Ex.refl H)
theorem p_are_rates (F : Fn K "are_rates" "are_rates" s_are_rates f fd) (T : Txt2 K mg) (DR : Df P w K mg base 3 "is_row" ["thing"] [] spIsRow) : FnOk P w K mg base CX0 4 f fd ["thing"] (spAreRates K) := by
  refine fn_w F sc_are_rates ok_are_rates (fun vs H Q E h => by obtain ⟨p, rs, rfl, ht, o, q⟩ := h; rfl) (fun X vs H Q E C h => ?_)
  obtain ⟨p, rs, rfl, ht, o, q⟩ := h
  show wB X _ _ [some (.ref p), none, none] H
  first | refine wB_one ?_ | refine wB_cons' fun _ _ => ?_
  walk_at "ws"
  obtain ⟨qs, hp, pr⟩ := id ht
  have hl : qs.length = rs.length := Paired.length pr
  have o1 := o.len
  refine wS_if ?_
  walk_at "ws"
  refine wE_callB C T.isinstance (by walk_at "mem") boot_isinstance (by rfl) (by rfl) ?_
  walk_at "ws"
  refine wE_bltn (v := .ty "tuple") C T.tuple (by walk_at "mem") boot_tuple rfl ?_
  walk_at "ws"
  refine c_isi C (.ty "tuple") (.base (.tup hp)) kb_tt ?_
  walk_at "ws"
  refine wE_callB C T.len (by walk_at "mem") boot_len (by rfl) (by rfl) ?_
  walk_at "ws"
  refine c_lenT C (SqT.of hp) ?_
  walk_at "ws"
  refine wE_glob (v := .int 12) C (by walk_at "mem") T.mrow.choose_spec ⟨_, rfl⟩ ?_
  walk_at "ws"
  refine iteDF (by rw [List.length_map]; omega) ?_
  walk_at "ws"
  refine ⟨(by show 2 ≤ sizeLine; decide), fun pa H2 hpa e2 h2 => ?_⟩
  walk_at "ws"
  refine wS_tup C (fun _ => rfl) ?_
  walk_at "ws"
  refine ⟨p, _, rfl, SqT.of (e2 _ _ hp), fun i σ H' => ∃ pa c d y, σ = [some (.ref p), some (.ref pa), y] ∧ H' pa = some (.tup [.int c, .int d]) ∧ Ex H H' ∧ ∀ j r, i ≤ j → rs[j]? = some r → c < r.1 ∨ (c = r.1 ∧ d < r.2.1),
    ⟨pa, 0, 0, none, rfl, h2, e2, fun j r _ hr => .inl ?_⟩, ?_, ?_, ?_⟩
  · have := (o.ok r (List.mem_of_getElem? hr)).m1
    omega
  · rintro i σ H' hi ⟨pa, c, d, y, rfl, h3, e3, _⟩
    exact SqT.of (e3 _ _ hp)
  · rintro i y σ H' hi ⟨pa, c, d, y0, rfl, h3, e3, up⟩
    obtain ⟨q0, r, rfl, hr, hq⟩ := Tab.at (K := K) pr hi
    have hq' : H' q0 = some (.tup [.int r.1, .int r.2.1, .int r.2.2.1, .int r.2.2.2]) := e3 _ _ hq
    refine wG_name C (by walk_at "mem") ?_
    walk_at "ws"
    refine wS_if ?_
    walk_at "ws"
    refine wE_call C DR (by walk_at "mem") (by decide) (by rfl) (by rfl) ?_
    walk_at "ws"
    refine ⟨q0, r, rfl, e3 _ _ hq, o.ok r (List.mem_of_getElem? hr), fun H4 e4 => ?_⟩
    walk_at "ws"
    refine slq_i (SqT.of (e4 _ _ hq')) nf2 cut_to2 fun p5 H5 hp5 e5 h5 => ?_
    walk_at "ws"
    refine o_leT C (ns := [r.1, r.2.1]) (ms := [c, d]) (SqT.of h5) (SqT.of (e5 _ _ (e4 _ _ h3))) ?_
    rw [lex2 (up i r (Nat.le_refl i) hr)]
    walk_at "ws"
    refine slq_i (SqT.of (e5 _ _ (e4 _ _ hq'))) nf2 cut_to2 fun p6 H6 hp6 e6 h6 => ?_
    walk_at "ws"
    refine ⟨p6, r.1, r.2.1, _, rfl, h6, ((e3.trans e4).trans e5).trans e6, fun j s hj hs => ?_⟩
    obtain ⟨h1, e1⟩ := List.getElem?_eq_some_iff.mp hr
    obtain ⟨h2', e2'⟩ := List.getElem?_eq_some_iff.mp hs
    have := List.pairwise_iff_getElem.mp o.up i j h1 h2' (by omega)
    rw [e1, e2'] at this
    exact this
  · rintro σ H' ⟨pa, c, d, y0, rfl, h3, e3, up⟩
    walk_at "ws"
    exact q H' e3
theorem p_check_rates (F : Fn K "check_rates" "check_rates" s_check_rates f fd) (DA : Df P w K mg base 4 "are_rates" ["thing"] [] (spAreRates K)) : FnOk P w K mg base CX0 5 f fd ["rates"] (spCheckRates K) := by
  refine fn_w F sc_check_rates ok_check_rates (fun vs H Q E h => by obtain ⟨p, rs, rfl, ht, o, q⟩ := h; rfl) (fun X vs H Q E C h => ?_)
  obtain ⟨p, rs, rfl, ht, o, q⟩ := h
  show wB X _ _ [some (.ref p)] H
  first | refine wB_one ?_ | refine wB_cons' fun _ _ => ?_
  walk_at "ws"
  refine wS_if ?_
  walk_at "ws"
  refine wE_call C DA (by walk_at "mem") (by decide) (by rfl) (by rfl) ?_
  walk_at "ws"
  refine ⟨p, rs, rfl, ht, o, fun H' e => ?_⟩
  walk_at "ws"
  exact q H' e
end
def rateAll (rs : List Rt) (m d : Int) : Option (Int × Int) := if m = 0 then some (1, 1) else rateOf rs m d
theorem rateOf_succ {rs : List Rt} {i : Nat} {r : Rt} {m d : Int} (h : rs[i]? = some r) : rateOf (rs.take (i + 1)) m d = if r.1 = m ∧ r.2.1 ≤ d then some (r.2.2.1, r.2.2.2) else rateOf (rs.take i) m d := by
  unfold rateOf
  rw [List.take_add_one, h, List.foldl_append]
  rfl
def shareI (bill t b h : Int) : Int := (2 * (bill * t) + b * h) / (2 * (b * h))
theorem rateOf_ok {rs : List Rt} (o : ∀ r ∈ rs, r.Ok) {m d t b : Int} (h : rateOf rs m d = some (t, b)) : 1 ≤ t ∧ t ≤ 1000000 ∧ 1 ≤ b ∧ b ≤ 1000000 := by
  have key : ∀ (l : List Rt) (acc : Option (Int × Int)), (∀ r ∈ l, r.Ok) → (∀ t b, acc = some (t, b) → 1 ≤ t ∧ t ≤ 1000000 ∧ 1 ≤ b ∧ b ≤ 1000000) → ∀ t b, l.foldl (fun acc r => if r.1 = m ∧ r.2.1 ≤ d then some (r.2.2.1, r.2.2.2) else acc) acc = some (t, b) → 1 ≤ t ∧ t ≤ 1000000 ∧ 1 ≤ b ∧ b ≤ 1000000 := by
    intro l
    induction l with
    | nil => intro acc _ ha t b e; exact ha t b e
    | cons r l ih =>
      intro acc ho ha t b e
      refine ih _ (fun r' hr => ho r' (List.mem_cons_of_mem _ hr)) (fun t' b' e' => ?_) t b e
      dsimp only at e'
      split at e'
      · cases e'
        have := ho r List.mem_cons_self
        exact ⟨this.t1, this.t2, this.b1, this.b2⟩
      · exact ha t' b' e'
  exact key rs none o (fun _ _ z => nomatch z) t b h
theorem rateAll_ok {rs : List Rt} (o : RatesOk rs) {m d t b : Int} (h : rateAll rs m d = some (t, b)) : 1 ≤ t ∧ t ≤ 1000000 ∧ 1 ≤ b ∧ b ≤ 1000000 := by
  unfold rateAll at h
  split at h
  · cases h
    omega
  · exact rateOf_ok o.ok h
theorem numT_len {i : Int} (h0 : 0 ≤ i) (h : i ≤ 1000000000000) : (numT i).length ≤ 13 := toString_length_le h0 (by decide) (by rw [show (10 : Int) ^ 13 = 10000000000000 from by decide]; omega)
theorem num_sz {i : Int} (h0 : 0 ≤ i) (h : i ≤ 1000000000000) : Sz (numT i) 13 := numT_len h0 h
theorem log_le {i : Int} (h0 : 0 ≤ i) (h : i ≤ 1000000000000) : i.natAbs.log2 < 1920 := by
  have z : i.natAbs < 2 ^ 40 := by
    have : (2 : Nat) ^ 40 = 1099511627776 := by decide
    omega
  by_cases hz : i.natAbs = 0
  · rw [hz]; decide
  · exact Nat.lt_trans ((Nat.log2_lt hz).mpr z) (by decide)
/-! ### NoRate -/
def okNR (ws : List V) : Prop := ∃ m d : Int, ws = [.int m, .int d] ∧ 0 ≤ m ∧ m ≤ 3 ∧ 0 ≤ d ∧ d ≤ 59
def fsNR (ws : List V) : List (Str × V) := [("day", ws.getD 1 .non), ("money", ws.getD 0 .non)]
abbrev leB : List Value := [.type "LookupError", .type "Exception", .type "BaseException", .type "object"]
section
variable {P : Program} {w : World} {K : PySem.W.Frag} {mg : Str → Option Value} {base : Heap} {f C0 CR : Addr} {fd : FuncData}
theorem p_norate (F : Fn K "__init__" "NoRate.__init__" s_NoRate_init f fd) (T : Xi K CR leB "LookupError.__new__") (tL : mg "LookupError" = none) (n1 : PySem.W.findIn K (.ref CR) "money" = some none) (n2 : PySem.W.findIn K (.ref CR) "day" = some none)
    (hf : PySem.W.findCls K (.type "LookupError") (.type "type") "__init__" = some (.val (.builtin "LookupError.__init__"))) : FnOk P w K mg base CX0 1 f fd ["self", "money", "day"] (spXI CR okNR fsNR) := by
  refine fn_w F sc_NoRate_init ok_NoRate_init (fun vs H Q E h => by obtain ⟨a, ws, rfl, ⟨m, d, rfl, _⟩, _⟩ := h; rfl) (fun X vs H Q E C h => ?_)
  obtain ⟨a, ws, rfl, ⟨m, d, rfl, m0, m1, d0, d1⟩, ha, q⟩ := h
  show wB X _ _ [some (.ref a), some (.int m), some (.int d)] H
  refine wB_cons' fun _ _ => ?_
  walk_at "ws"
  refine wE_binitB C bs_L T (by walk_at "mem") tL bt_LookupError (by kernel_rfl) (by decide +kernel) hf (by decide +kernel) (by rfl) (by rfl) (by rfl) ?_
  walk_at "ws"
  refine wE_joined (wJ_cons ?_)
  walk_at "ws"
  refine jn_i (by decide) (wJ_cons ?_)
  refine wE_fmt ?_
  walk_at "ws"
  refine fm_i (log_le m0 (by omega)) ?_
  refine jn_i (Nat.le_trans (Sz.app (Sz.lit _) (num_sz m0 (by omega))) (by decide)) (wJ_cons ?_)
  walk_at "ws"
  refine jn_i (Nat.le_trans (Sz.app (Sz.app (Sz.lit _) (num_sz m0 (by omega))) (Sz.lit _)) (by decide)) (wJ_cons ?_)
  refine wE_fmt ?_
  walk_at "ws"
  refine fm_i (log_le d0 (by omega)) ?_
  refine jn_i (Nat.le_trans (Sz.app (Sz.app (Sz.app (Sz.lit _) (num_sz m0 (by omega))) (Sz.lit _)) (num_sz d0 (by omega))) (by decide)) (wJ_nil ?_)
  walk_at "ws"
  refine ⟨a, _, rfl, by simp, ha, ?_⟩
  refine nx_mk ?_
  refine Nx.go (by assumption) ?_
  refine wB_cons' fun _ _ => ?_
  refine wS_x1 C bs_L T n1 (by rfl) ?_
  walk_at "ws"
  refine ⟨a, rfl, ha, fun dx H3 hd e3 ga gd => ?_⟩
  refine nx_mk ?_
  refine Nx.go (by assumption) ?_
  refine wB_one ?_
  refine wS_x2 C bs_L T n2 (by rfl) ?_
  walk_at "ws"
  refine ⟨a, dx, _, rfl, ga, gd, by show 1 ≤ 900; decide, fun H4 e4 g4 => ?_⟩
  walk_at "ws"
  have nd : a ≠ dx := (ne_of_none ha hd)
  exact q dx H4 (fun b o hb z => e4 b o (ne_of_none z hd) (e3 b o hb z)) hd (e4 _ _ nd ga) g4
end
def spRateX (K : PySem.W.Frag) (CR : Addr) : Sp := fun vs H Q E => ∃ (p : Addr) (rs : List Rt) (m d : Int), vs = [.ref p, .int m, .int d] ∧ Tab K H p rs ∧ RatesOk rs ∧ 0 ≤ m ∧ m ≤ 3 ∧ 0 ≤ d ∧ d ≤ 59 ∧
  (∀ t b, rateAll rs m d = some (t, b) → ∀ q H', Ex H H' → H' q = some (.tup [.int t, .int b]) → Q (.ref q) H') ∧ (rateAll rs m d = none → ∀ dd H', Ex H H' → H' dd = some (.xd (fsNR [.int m, .int d])) → E (.ref CR) (some dd) H')
section
variable {P : Program} {w : World} {K : PySem.W.Frag} {mg : Str → Option Value} {base : Heap} {f C0 CR : Addr} {fd : FuncData}
theorem p_rateX (F : Fn K "rate_on" "rate_on" s_rate_on f fd) (XQ : Xq P w K mg base 1 "NoRate" CR okNR fsNR) (DC : Df P w K mg base 5 "check_rates" ["rates"] [] (spCheckRates K)) : FnOk P w K mg base (L2.CX P w) 6 f fd ["rates", "money", "day"] (spRateX K CR) := by
  refine fn_wX F sc_rate_on ok_rate_on (fun vs H Q E h => by obtain ⟨p, rs, m, d, rfl, _⟩ := h; rfl) (fun X vs H Q E C TK h => ?_)
  obtain ⟨p, rs, m, d, rfl, ht, o, m0, m1, d0, d1, q, qE⟩ := h
  show wB X _ _ [some (.ref p), some (.int m), some (.int d), none, none] H
  refine wB_cons' fun _ _ => ?_
  walk_at "ws"
  refine wE_call C DC (by walk_at "mem") (by decide) (by rfl) (by rfl) ?_
  walk_at "ws"
  refine ⟨p, rs, rfl, ht, o, fun H1 e1 => ?_⟩
  walk_at "ws"
  refine wS_if ?_
  walk_at "ws"
  refine iteD (fun hm => ?_) (fun hm => ?_)
  · walk_at "ws"
    refine ⟨(by show 2 ≤ sizeLine; decide), fun pa H2 hpa e2 h2 => ?_⟩
    exact q 1 1 (by unfold rateAll; rw [if_pos hm]) pa H2 (e1.trans e2) h2
  walk_at "ws"
  have ea : rateAll rs m d = rateOf rs m d := by unfold rateAll; rw [if_neg hm]
  obtain ⟨qs, hp, pr⟩ := ht.ex e1
  have hl : qs.length = rs.length := Paired.length pr
  refine wS_tup C (fun _ => rfl) ?_
  walk_at "ws"
  refine ⟨p, _, rfl, SqT.of hp, fun i σ H' => ∃ x y, σ = [some (.ref p), some (.int m), some (.int d), some x, y] ∧ Ex H1 H' ∧ ((x = .non ∧ rateOf (rs.take i) m d = none) ∨ ∃ qa t b, x = .ref qa ∧ H' qa = some (.tup [.int t, .int b]) ∧ rateOf (rs.take i) m d = some (t, b)),
    ⟨.non, none, rfl, Ex.refl H1, .inl ⟨rfl, rfl⟩⟩, ?_, ?_, ?_⟩
  · rintro i σ H' hi ⟨x, y, rfl, e3, _⟩
    exact SqT.of (e3 _ _ hp)
  · rintro i y σ H' hi ⟨x, y0, rfl, e3, hx⟩
    obtain ⟨q0, r, rfl, hr0, hq⟩ := Tab.at (K := K) pr hi
    have hq' : H' q0 = some (.tup [.int r.1, .int r.2.1, .int r.2.2.1, .int r.2.2.2]) := e3 _ _ hq
    have keep : ¬ (r.1 = m ∧ r.2.1 ≤ d) → ((x = .non ∧ rateOf (rs.take (i + 1)) m d = none) ∨ ∃ qa t b, x = .ref qa ∧ H' qa = some (.tup [.int t, .int b]) ∧ rateOf (rs.take (i + 1)) m d = some (t, b)) := fun n => by
      rw [rateOf_succ hr0, if_neg n]
      exact hx
    refine wG_name C (by walk_at "mem") ?_
    walk_at "ws"
    refine wS_if ?_
    walk_at "ws"
    refine iteD (fun c1 => ?_) (fun c1 => ?_)
    · walk_at "ws"
      refine iteD (fun c2 => ?_) (fun c2 => ?_)
      · walk_at "ws"
        refine slq_i (SqT.of hq') nf2' cut_from2 fun p5 H5 hp5 e5 h5 => ?_
        walk_at "ws"
        refine ⟨_, _, rfl, e3.trans e5, .inr ⟨p5, _, _, rfl, h5, ?_⟩⟩
        rw [rateOf_succ hr0, if_pos ⟨c1, c2⟩]
      · walk_at "ws"
        exact ⟨_, _, rfl, e3, keep fun z => c2 z.2⟩
    · walk_at "ws"
      exact ⟨_, _, rfl, e3, keep fun z => c1 z.1⟩
  · rintro σ H' ⟨x, y, rfl, e3, hx⟩
    rw [List.length_map, hl, List.take_length] at hx
    rcases hx with ⟨rfl, hn⟩ | ⟨qa, t', b', rfl, hq, hs⟩
    · walk_at "ws"
      refine wS_if ?_
      walk_at "ws"
      refine iteDT rfl ?_
      walk_at "ws"
      refine wS_raise C TK ?_
      refine wM_init C XQ (by walk_at "mem") (by decide) (by rfl) (by rfl) ?_
      walk_at "ws"
      refine ⟨by simp, ⟨m, d, rfl, m0, m1, d0, d1⟩, fun dd H3 e4 g3 => ?_⟩
      exact qE (ea.trans hn) dd H3 ((e1.trans e3).trans e4) g3
    · walk_at "ws"
      refine wS_if ?_
      walk_at "ws"
      refine iteDF (fun z => by cases z) ?_
      walk_at "ws"
      exact q t' b' (ea.trans hs) qa H' (e1.trans e3) hq
end
def rsOf (x : Option (Addr × List Rt)) : List Rt := match x with
  | none => []
  | some (_, rs) => rs
/-- rates told, or None -/
def RtArg (K : PySem.W.Frag) (H : Hp) (v : V) (rs : List Rt) : Prop := (v = .non ∧ rs = []) ∨ ∃ p, v = .ref p ∧ Tab K H p rs
def spShareX (K : PySem.W.Frag) (C CR : Addr) : Sp := fun vs H Q E => ∃ (s dx : Addr) (v : V) (r : Row) (rs : List Rt), vs = [.ref s, v] ∧ H s = some (.ins C dx r.fs) ∧ r.Ok ∧ RtArg K H v rs ∧ RatesOk rs ∧
  (∀ t b, rateAll rs r.coin r.day = some (t, b) → ∀ H', Ex H H' → Q (.int (shareI r.bill t b r.heads)) H') ∧ (rateAll rs r.coin r.day = none → ∀ dd H', Ex H H' → H' dd = some (.xd (fsNR [.int r.coin, .int r.day])) → E (.ref CR) (some dd) H')
/-- told_rates -/
def spTold (K : PySem.W.Frag) : Sp := fun vs H Q _ => ∃ (v : V) (rs : List Rt), vs = [v] ∧ RtArg K H v rs ∧ RatesOk rs ∧ ∀ p H', Tab K H' p rs → Ex H H' → Q (.ref p) H'
section
variable {P : Program} {w : World} {K : PySem.W.Frag} {mg : Str → Option Value} {base : Heap} {f C0 CR : Addr} {fd : FuncData}
theorem p_told (F : Fn K "told_rates" "told_rates" s_told_rates f fd) (DC : Df P w K mg base 5 "check_rates" ["rates"] [] (spCheckRates K)) : FnOk P w K mg base CX0 6 f fd ["rates"] (spTold K) := by
  refine fn_w F sc_told_rates ok_told_rates (fun vs H Q E h => by obtain ⟨v, rs, rfl, ha, ro, q⟩ := h; rfl) (fun X vs H Q E C h => ?_)
  obtain ⟨v, rs, rfl, ha, ro, q⟩ := h
  show wB X _ _ [some v, none] H
  first | refine wB_one ?_ | refine wB_cons' fun _ _ => ?_
  walk_at "ws"
  rcases ha with ⟨rfl, rfl⟩ | ⟨p, rfl, ht⟩
  · refine iteDT rfl ?_
    walk_at "ws"
    refine ⟨(by show 0 ≤ sizeLine; decide), fun pa H2 hpa e2 h2 => ?_⟩
    walk_at "ws"
    refine wE_call C DC (by walk_at "mem") (by decide) (by rfl) (by rfl) ?_
    walk_at "ws"
    refine ⟨pa, [], rfl, ⟨[], h2, .nil⟩, ro, fun H3 e3 => ?_⟩
    walk_at "ws"
    exact q pa H3 (Tab.ex ⟨[], h2, .nil⟩ e3) (e2.trans e3)
  · refine iteDF (fun z => by cases z) ?_
    walk_at "ws"
    refine wE_call C DC (by walk_at "mem") (by decide) (by rfl) (by rfl) ?_
    walk_at "ws"
    refine ⟨p, rs, rfl, ht, ro, fun H3 e3 => ?_⟩
    walk_at "ws"
    exact q p H3 (ht.ex e3) e3
end
section
variable {P : Program} {w : World} {K : PySem.W.Frag} {mg : Str → Option Value} {base : Heap} {f C0 CR : Addr} {fd : FuncData}
theorem p_shareX (F : Fn K "share_of" "share_of" s_share_of f fd) (S : Sc K C0) (DTo : Df P w K mg base 6 "told_rates" ["rates"] [] (spTold K)) (DR : Dx P w K mg base 6 "rate_on" ["rates", "money", "day"] [] (spRateX K CR)) : FnOk P w K mg base (L2.CX P w) 7 f fd ["spending", "rates"] (spShareX K C0 CR) := by
  refine fn_wX F sc_share_of ok_share_of (fun vs H Q E h => by obtain ⟨s, dx, v, r, rs, rfl, _⟩ := h; rfl) (fun X vs H Q E C TK h => ?_)
  obtain ⟨s, dx, v, r, rs, rfl, hs, o, ha, ro, q, qE⟩ := h
  show wB X _ _ [some (.ref s), some v, none, none, none, none] H
  have o1 := o.b1; have o2 := o.b2; have o3 := o.h1; have o4 := o.h2
  refine wB_cons' fun _ _ => ?_
  walk_at "ws"
  refine wE_callX C TK DR (by walk_at "mem") (by decide) (by rfl) (by rfl) ?_
  refine wA_cons (by rfl) (wE_cut (fun x H1 => ∃ p, x = .ref p ∧ Tab K H1 p rs ∧ Ex H H1) ?_ ?_)
  · refine wE_call C DTo (by walk_at "mem") (by decide) (by rfl) (by rfl) ?_
    walk_at "ws"
    exact ⟨v, rs, rfl, ha, ro, fun p H1 ht e1 => ⟨p, rfl, ht, e1⟩⟩
  rintro x H1 ⟨p, rfl, ht, e1⟩
  have hs1 := e1 _ _ hs
  walk_at "ws"
  refine fldq_i hs1 S.cl S.nm r.l_money ?_
  walk_at "ws"
  refine fldq_i hs1 S.cl S.nd r.l_day ?_
  walk_at "ws"
  refine ⟨p, rs, r.coin, r.day, rfl, ht, ro, o.c1, o.c2, o.d1, o.d2, fun t b hr qa H2 e2 h2 => ?_, fun hr dd H2 e2 h2 => qE hr dd H2 (e1.trans e2) h2⟩
  obtain ⟨t1, t2, b1, b2⟩ := rateAll_ok ro hr
  have hs2 := e2 _ _ hs1
  walk_at "ws"
  refine fldq_i hs2 S.cl S.na r.l_amount ?_
  walk_at "ws"
  refine fldq_i hs2 S.cl S.nh r.l_heads ?_
  walk_at "ws"
  have p1 : 0 < b * r.heads := Int.mul_pos (by omega) (by omega)
  have p2 : b * r.heads ≤ 1000000 * 6 := Int.mul_le_mul b2 o4 (by omega) (by omega)
  walk_at "ws"
  exact q t b hr H2 (e1.trans e2)
end
/-! ### the law's own rates -/
def EntOk (H : Hp) (kv : List Key × V) : Prop := ∃ (m d t b : Int) (a : Addr), kv = ([.inl m, .inl d], .ref a) ∧ H a = some (.tup [.int t, .int b]) ∧ Rt.Ok (m, d, t, b)
def spRates (K : PySem.W.Frag) : Sp := fun vs H Q _ => ∃ (b : Addr) (n m : Int), vs = [.ref b] ∧ H b = some (.lst [.int n, .int m]) ∧ ∀ (rs : List Rt) p n' m' H', RatesOk rs → Tab K H' p rs → H' b = some (.lst [.int n', .int m']) → Exb b H H' → Q (.ref p) H'
theorem EntOk.keep {H H' : Hp} {kv : List Key × V} (h : EntOk H kv) (e : ∀ a xs, H a = some (.tup xs) → H' a = some (.tup xs)) : EntOk H' kv := by
  obtain ⟨m, d, t, b, a, e1, h1, o⟩ := h
  exact ⟨m, d, t, b, a, e1, e _ _ h1, o⟩
theorem tup_exb {H H' : Hp} {b : Addr} {ys : List V} (hb : H b = some (.lst ys)) (e : Exb b H H') : ∀ a xs, H a = some (.tup xs) → H' a = some (.tup xs) := fun a xs h => e _ _ (ne_of h hb (by intro z; cases z)) h
theorem tup_exd {H H' : Hp} {f : Addr} {kvs : List (List Key × V)} (hf : H f = some (.dT kvs)) (e : Exb f H H') : ∀ a xs, H a = some (.tup xs) → H' a = some (.tup xs) := fun a xs h => e _ _ (ne_of h hf (by intro z; cases z)) h
theorem valV_of_mem {κ : Type} [DecidableEq κ] : ∀ {kvs : List (κ × V)} {kv : κ × V}, (kvs.map (·.1)).Nodup → kv ∈ kvs → valV kvs kv.1 = some kv.2
  | [], _, _, h => by cases h
  | x :: r, kv, nd, h => by
    rw [List.map_cons, List.nodup_cons] at nd
    rcases List.mem_cons.mp h with e | h
    · rw [e]; exact valV_pos rfl
    · rw [valV_neg (fun z => nd.1 (by rw [z]; exact List.mem_map.mpr ⟨kv, h, rfl⟩))]
      exact valV_of_mem nd.2 h
theorem bd_of {m d : Int} (h : Rt.Ok (m, d, 1, 1) ∨ (1 ≤ m ∧ m ≤ 3 ∧ 0 ≤ d ∧ d ≤ 59)) : TS.Bd 64 [m, d] := by
  have h' : 1 ≤ m ∧ m ≤ 3 ∧ 0 ≤ d ∧ d ≤ 59 := by
    rcases h with h | h
    · exact ⟨h.m1, h.m2, h.d1, h.d2⟩
    · exact h
  intro x hx
  simp only [List.mem_cons, List.not_mem_nil, or_false] at hx
  omega
theorem paired_snoc {α β : Type} {R : α → β → Prop} {a : α} {b : β} : ∀ {xs : List α} {ys : List β}, Paired R xs ys → R a b → Paired R (xs ++ [a]) (ys ++ [b])
  | _, _, .nil, h => .cons h .nil
  | _, _, .cons z t, h => .cons z (paired_snoc t h)
section
variable {P : Program} {w : World} {K : PySem.W.Frag} {mg : Str → Option Value} {base : Heap} {f C0 : Addr} {fd : FuncData}
/-- the row of a sorted key -/
def RowOf (H : Hp) (kvs : List (List Key × V)) (x : Addr × List Int) (r : Rt) : Prop := x.2 = [r.1, r.2.1] ∧ r.Ok ∧ ∃ a, valV kvs [.inl r.1, .inl r.2.1] = some (.ref a) ∧ H a = some (.tup [.int r.2.2.1, .int r.2.2.2])
theorem rates_rows {H : Hp} {kvs : List (List Key × V)} {ps : List (Addr × List Int)} (hl : kvs.length ≤ 12) (nd : (kvs.map (·.1)).Nodup) (he : ∀ kv ∈ kvs, EntOk H kv)
    (h1 : (ps.map fun x => x.2.map (Sum.inl : Int → Key)).Perm (kvs.map (·.1))) (h2 : ps.Pairwise (fun a b => TS.code 64 a.2 ≤ TS.code 64 b.2)) : ∃ rs, Paired (RowOf H kvs) ps rs ∧ RatesOk rs := by
  have each : ∀ x ∈ ps, ∃ r, RowOf H kvs x r := fun x hx => by
    have m1 : x.2.map (Sum.inl : Int → Key) ∈ kvs.map (·.1) := h1.mem_iff.mp (List.mem_map.mpr ⟨x, hx, rfl⟩)
    obtain ⟨kv, mk, ek⟩ := List.mem_map.mp m1
    obtain ⟨m, d, t, b, a, e1, ha, o⟩ := he kv mk
    have e2 : x.2 = [m, d] := by
      have z := congrArg (List.map unI) ek
      rw [unI_map, e1] at z
      exact z.symm
    refine ⟨(m, d, t, b), e2, o, a, ?_, ha⟩
    have z := valV_of_mem nd mk
    rw [e1] at z
    exact z
  obtain ⟨rs, pr⟩ := ex_paired ps each
  refine ⟨rs, pr, ?_, ?_, ?_⟩
  · have e1 := Paired.length pr
    have e2 := h1.length_eq
    rw [List.length_map, List.length_map] at e2
    omega
  · intro r hr
    have : ∀ (ps : List (Addr × List Int)) (rs : List Rt), Paired (RowOf H kvs) ps rs → ∀ r ∈ rs, r.Ok := by
      intro ps rs h
      induction h with
      | nil => intro r hr; cases hr
      | cons z t ih =>
        intro r hr
        rcases List.mem_cons.mp hr with e | hr
        · rw [e]; exact z.2.1
        · exact ih r hr
    exact this ps rs pr r hr
  · have nd2 : (ps.map fun x => x.2.map (Sum.inl : Int → Key)).Nodup := h1.nodup_iff.mpr nd
    have key : ∀ (ps : List (Addr × List Int)) (rs : List Rt), Paired (RowOf H kvs) ps rs → (ps.map fun x => x.2.map (Sum.inl : Int → Key)).Nodup → ps.Pairwise (fun a b => TS.code 64 a.2 ≤ TS.code 64 b.2) → rs.Pairwise Rt.lt := by
      intro ps rs h
      induction h with
      | nil => intro _ _; exact .nil
      | @cons x r ps rs z t ih =>
        intro nd pw
        rw [List.map_cons, List.nodup_cons] at nd
        rw [List.pairwise_cons] at pw
        refine List.pairwise_cons.mpr ⟨fun s hs => ?_, ih nd.2 pw.2⟩
        have find : ∀ (ps : List (Addr × List Int)) (rs : List Rt), Paired (RowOf H kvs) ps rs → ∀ s ∈ rs, ∃ y ∈ ps, RowOf H kvs y s := by
          intro ps rs h
          induction h with
          | nil => intro s hs; cases hs
          | cons z t ih =>
            intro s hs
            rcases List.mem_cons.mp hs with e | hs
            · exact ⟨_, List.mem_cons_self, by rw [e]; exact z⟩
            · obtain ⟨y, m, q⟩ := ih s hs
              exact ⟨y, List.mem_cons_of_mem _ m, q⟩
        obtain ⟨y, my, qy⟩ := find ps rs t s hs
        have c := pw.1 y my
        rw [z.1, qy.1] at c
        have o1 := z.2.1
        have o2 := qy.2.1
        rcases code_lex (bd_of (.inr ⟨o1.m1, o1.m2, o1.d1, o1.d2⟩)) (bd_of (.inr ⟨o2.m1, o2.m2, o2.d1, o2.d2⟩)) c with l | ⟨l1, l2⟩
        · exact .inl l
        · refine .inr ⟨l1, ?_⟩
          have ne : r.2.1 ≠ s.2.1 := fun e => nd.1 (List.mem_map.mpr ⟨y, my, by rw [qy.1, z.1, l1, e]⟩)
          omega
    exact key ps rs pr nd2 h2
theorem p_rates (F : Fn K "_law_rates" "_law_rates" s__law_rates f fd) (T : Txt2 K mg) (ts : mg "sorted" = none) (DT : Df P w K mg base 2 "_law_take" ["_law_box_here", "_law_count"] [] spTake) : FnOk P w K mg base CX0 3 f fd ["_law_box_here"] (spRates K) := by
  refine fn_w F sc__law_rates ok__law_rates (fun vs H Q E h => by obtain ⟨b, n, m, rfl, hb, q⟩ := h; rfl) (fun X vs H Q E C h => ?_)
  obtain ⟨b, n, m, rfl, hb, q⟩ := h
  show wB X _ _ [some (.ref b), none, none, none, none, none] H
  first | refine wB_one ?_ | refine wB_cons' fun _ _ => ?_
  walk_at "ws"
  refine wE_dnewT fun g Hg hg eg hg0 => ?_
  have gb : g ≠ b := ne_fresh hg hb
  have hbg := eg _ _ hb
  walk_at "ws"
  refine wS_range1 C T.range (by walk_at "mem") (by rfl) ?_
  walk_at "ws"
  refine wE_call C DT (by walk_at "mem") (by decide) (by rfl) (by rfl) ?_
  walk_at "ws"
  refine ⟨b, _, _, 13, rfl, (by walk_at "hk"), by decide, by decide, fun dA nA mA HA dA0 dA1 hbA exA => ?_⟩
  walk_at "ws"
  have hgA : HA g = some (.dT []) := exA _ _ gb hg0
  refine ⟨dA.toNat, (by rw [Int.toNat_of_nonneg dA0]), by omega, fun i σ H' => ∃ kvs n' m' y1 y2 y3, σ = [some (.ref b), some (.ref g), y1, y2, y3, none] ∧ H' b = some (.lst [.int n', .int m']) ∧ H' g = some (.dT kvs) ∧ Exb b H H' ∧ kvs.length ≤ i ∧ (kvs.map (·.1)).Nodup ∧ ∀ kv ∈ kvs, EntOk H' kv,
    ⟨[], nA, mA, none, none, none, rfl, hbA, hgA, eg.toB.trans exA, Nat.le_refl _, List.nodup_nil, fun kv h => by cases h⟩, ?_, ?_⟩
  · rintro i σ H' hi ⟨kvs, n', m', y1, y2, y3, rfl, hb', hg', eH, hl, nd, he⟩
    clear hbA hbg hg0 hgA exA eg hb q
    refine wG_name C (by walk_at "mem") ?_
    walk_at "ws"
    refine wE_call C DT (by walk_at "mem") (by decide) (by rfl) (by rfl) ?_
    walk_at "ws"
    refine ⟨b, _, _, 60, rfl, (by walk_at "hk"), by decide, by decide, fun dB nB mB HB dB0 dB1 hbB exB => ?_⟩
    walk_at "ws"
    refine wE_call C DT (by walk_at "mem") (by decide) (by rfl) (by rfl) ?_
    walk_at "ws"
    refine ⟨b, _, _, 6, rfl, (by walk_at "hk"), by decide, by decide, fun dC nC mC HC dC0 dC1 hbC exC => ?_⟩
    walk_at "ws"
    refine ⟨(by show 3 ≤ sizeLine; decide), fun p1 H1 hp1 e1 h1 => ?_⟩
    walk_at "ws"
    refine wE_call C DT (by walk_at "mem") (by decide) (by rfl) (by rfl) ?_
    walk_at "ws"
    refine ⟨b, _, _, 3, rfl, (by walk_at "hk"), by decide, by decide, fun dD nD mD HD dD0 dD1 hbD exD => ?_⟩
    walk_at "ws"
    obtain ⟨v1, ha1, z1, rfl, hz1, hz2⟩ := pick dD0 (show dD < ([.int 0, .int dB, .int dC] : List V).length from dD1) (fun v => ∃ z, v = .int z ∧ 0 ≤ z ∧ z ≤ 59) (all2 ⟨_, rfl, by omega, by omega⟩ (all2 ⟨_, rfl, by omega, by omega⟩ (all1 ⟨_, rfl, by omega, by omega⟩)))
    refine i_list C (fun _ _ => rfl) (SqL.of (by walk_at "hk")) ha1 ?_
    walk_at "ws"
    refine wE_call C DT (by walk_at "mem") (by decide) (by rfl) (by rfl) ?_
    walk_at "ws"
    refine ⟨b, _, _, 200, rfl, (by walk_at "hk"), by decide, by decide, fun dE nE mE HE dE0 dE1 hbE exE => ?_⟩
    walk_at "ws"
    refine ⟨(by show 3 ≤ sizeLine; decide), fun p2 H2 hp2 e2 h2 => ?_⟩
    walk_at "ws"
    refine wE_call C DT (by walk_at "mem") (by decide) (by rfl) (by rfl) ?_
    walk_at "ws"
    refine ⟨b, _, _, 3, rfl, (by walk_at "hk"), by decide, by decide, fun dG nG mG HG dG0 dG1 hbG exG => ?_⟩
    walk_at "ws"
    obtain ⟨v2, ha2, z2, rfl, hz3, hz4⟩ := pick dG0 (show dG < ([.int 1, .int 1000000, .int (1 + dE)] : List V).length from dG1) (fun v => ∃ z, v = .int z ∧ 1 ≤ z ∧ z ≤ 1000000) (all2 ⟨_, rfl, by omega, by omega⟩ (all2 ⟨_, rfl, by omega, by omega⟩ (all1 ⟨_, rfl, by omega, by omega⟩)))
    refine i_list C (fun _ _ => rfl) (SqL.of (by walk_at "hk")) ha2 ?_
    walk_at "ws"
    refine wS_dput C (by rfl) ?_
    walk_at "ws"
    refine wE_call C DT (by walk_at "mem") (by decide) (by rfl) (by rfl) ?_
    walk_at "ws"
    refine ⟨b, _, _, 200, rfl, (by walk_at "hk"), by decide, by decide, fun dI nI mI HI dI0 dI1 hbI exI => ?_⟩
    walk_at "ws"
    refine ⟨(by show 4 ≤ sizeLine; decide), fun p3 H3 hp3 e3 h3 => ?_⟩
    walk_at "ws"
    refine wE_call C DT (by walk_at "mem") (by decide) (by rfl) (by rfl) ?_
    walk_at "ws"
    refine ⟨b, _, _, 4, rfl, (by walk_at "hk"), by decide, by decide, fun dJ nJ mJ HJ dJ0 dJ1 hbJ exJ => ?_⟩
    walk_at "ws"
    obtain ⟨v3, ha3, z3, rfl, hz5, hz6⟩ := pick dJ0 (show dJ < ([.int 1, .int 1000000, .int 100, .int (1 + dI)] : List V).length from dJ1) (fun v => ∃ z, v = .int z ∧ 1 ≤ z ∧ z ≤ 1000000) (all2 ⟨_, rfl, by omega, by omega⟩ (all2 ⟨_, rfl, by omega, by omega⟩ (all2 ⟨_, rfl, by omega, by omega⟩ (all1 ⟨_, rfl, by omega, by omega⟩))))
    refine i_list C (fun _ _ => rfl) (SqL.of (by walk_at "hk")) ha3 ?_
    walk_at "ws"
    refine ⟨(by show 2 ≤ sizeLine; decide), fun p4 H4 hp4 e4 h4 => ?_⟩
    walk_at "ws"
    refine wE_call C DT (by walk_at "mem") (by decide) (by rfl) (by rfl) ?_
    walk_at "ws"
    refine ⟨b, _, _, 3, rfl, (by walk_at "hk"), by decide, by decide, fun dK nK mK HK dK0 dK1 hbK exK => ?_⟩
    walk_at "ws"
    refine ⟨(by show 2 ≤ sizeLine; decide), fun p5 H5 hp5 e5 h5 => ?_⟩
    walk_at "ws"
    have all : Exb b H' H5 := by walk_at "hx"
    have hgz : H5 g = some (.dT kvs) := all _ _ gb hg'
    have hbz : H5 b = some (.lst [.int nK, .int mK]) := e5 _ _ hbK
    have hfv : HK p4 = some (.tup [.int z2, .int z3]) := tup_exb (e4 _ _ hbJ) exK _ _ h4
    refine dpq_t (ks := [.inl (1 + dK), .inl z1]) hgz h5 (by rw [sizeLine_eq]; omega) fun H6 e6 h6 => ?_
    walk_at "ws"
    refine ⟨_, nK, mK, _, _, _, rfl, e6 _ _ gb.symm hbz, h6, ?_, ?_, putK_nodup nd, fun kv hkv => ?_⟩
    · exact (eH.trans all).mut hg e6
    · exact Nat.le_trans (length_putK _ _ _) (Nat.succ_le_succ hl)
    · rcases putK_mem hkv with e | hkv
      · rw [e]
        exact ⟨_, _, z2, z3, p4, rfl, tup_exd hgz e6 _ _ (e5 _ _ hfv), ⟨by show (1 : Int) ≤ 1 + dK; omega, by show 1 + dK ≤ 3; omega, hz1, hz2, hz3, hz4, hz5, hz6⟩⟩
      · exact ((he kv hkv).keep (tup_exb hb' all)).keep (tup_exd hgz e6)
  · rintro σ H' ⟨kvs, n', m', y1, y2, y3, rfl, hb', hg', eH, hl, nd, he⟩
    walk_at "ws"
    refine wE_callT C T.tuple (by walk_at "mem") boot_tuple (by rfl) (by rfl) ?_
    walk_at "ws"
    refine wE_lcL [("_law_key", 5)] ["_law_key", "_law_found"] ["_law_key"] [] C (by decide +kernel) (by decide +kernel) (by decide +kernel) (by rfl) (fun _ => rfl) ?_
    refine wE_callB C ts (by walk_at "mem") boot_sorted (by rfl) (by rfl) ?_
    walk_at "ws"
    have hl12 : kvs.length ≤ 12 := by omega
    refine call_sortedDT (D := 2) (B := 64) C.calm hg' (fun kv hkv => ?_) (by decide) (by omega) fun ps p1 s1 s2 s3 hp1 => ?_
    · obtain ⟨m, d, t, b, a, rfl, _, o⟩ := he kv hkv
      exact ⟨[m, d], rfl, rfl, bd_of (.inr ⟨o.m1, o.m2, o.d1, o.d2⟩)⟩
    obtain ⟨rs, pr, ro⟩ := rates_rows hl12 nd he s1 s3
    have e1 : Ex H' (upd H' p1 (.lst (ps.map fun x => V.ref x.1))) := Ex.upd hp1
    have l1 : (upd H' p1 (.lst (ps.map fun x => V.ref x.1))) p1 = some (.lst (ps.map fun x => V.ref x.1)) := upd_same
    generalize upd H' p1 (.lst (ps.map fun x => V.ref x.1)) = H1 at e1 l1
    have hlen : ps.length = rs.length := Paired.length pr
    refine ⟨p1, _, rfl, SqL.of l1, fun D hD => ⟨fun i H2 => ∃ qs : List Addr, H2 D = some (.lst (qs.map V.ref)) ∧ Paired (fun q r => H2 q = some (.tup (rtV r))) qs (rs.take i) ∧ Ex H1 H2, ⟨[], upd_same, .nil, Ex.upd hD⟩, ?_, ?_, ?_⟩⟩
    · rintro i H2 _ ⟨qs, hq, pq, e2⟩
      exact SqL.of (e2 _ _ l1)
    · rintro i x H2 hx ⟨qs, hq, pq, e2⟩
      rw [List.getElem?_map] at hx
      obtain ⟨y, hy, rfl⟩ := Option.map_eq_some_iff.mp hx
      have row : ∀ (ps : List (Addr × List Int)) (rs : List Rt) (i : Nat), Paired (RowOf H' kvs) ps rs → ps[i]? = some y → ∃ r, rs[i]? = some r ∧ RowOf H' kvs y r := by
        intro ps rs i h
        induction h generalizing i with
        | nil => intro z; simp at z
        | cons z t ih =>
          intro hz
          cases i with
          | zero => simp at hz; subst hz; exact ⟨_, rfl, z⟩
          | succ i => exact ih i (by simpa using hz)
      obtain ⟨r, hr, ey, or, a, hv, ha⟩ := row ps rs i pr hy
      have hy1 : H' y.1 = some (.tup [.int r.1, .int r.2.1]) := by
        have z := s2 y (List.mem_of_getElem? hy)
        rw [ey] at z
        exact z
      intro X1 C1
      show wG X1 _ _ [some (.ref b), some (.ref g), y1, y2, y3, none] H2 _
      refine wG_name C1 (by walk_at "mem") ?_
      walk_at "ws"
      refine ⟨rfl, ?_⟩
      refine blkT_nil (iteT ?_)
      intro X2 C2
      clear C1 C
      walk_at "w1"
      walk_at "w1"
      refine wE_dget C2 (fun _ _ => rfl) ?_
      walk_at "ws"
      refine dgq_t (ks := [.inl r.1, .inl r.2.1]) (e2 _ _ (e1 _ _ hg')) (e2 _ _ (e1 _ _ hy1)) hv ?_
      walk_at "ws"
      refine o_catT C2 (SqT.of (e2 _ _ (e1 _ _ hy1))) (SqT.of (e2 _ _ (e1 _ _ ha))) (by show 2 + 2 ≤ sizeLine; decide) (by simp) (by simp) fun p3 H3 hp3 e3 h3 => ?_
      have hl3 : qs.length ≤ i := by
        have z := Paired.length pq
        rw [List.length_take] at z
        omega
      have hi12 : i < 12 := by
        have z := (List.getElem?_eq_some_iff.mp hy).1
        have := ro.len
        omega
      have nD : ∀ q xs, H2 q = some (.tup xs) → q ≠ D := fun q xs h => ne_of h hq (by intro z; cases z)
      refine ⟨qs.map V.ref, e3 _ _ hq, by rw [List.length_map, sizeLine_eq]; omega, qs ++ [p3], ?_, ?_, ?_⟩
      · rw [upd_same, List.map_append]
        rfl
      · have n3 : p3 ≠ D := (ne_of_none hq hp3).symm
        rw [List.take_add_one, hr]
        refine paired_snoc (Paired.mapP pq fun a c z => ?_) ?_
        · rw [upd_ne (nD a _ z)]
          exact e3 _ _ z
        · rw [upd_ne n3]
          exact h3
      · exact (e2.trans e3).mut hD Exb.upd
    · rintro H2 ⟨qs, hq, pq, e2⟩
      rw [List.length_map, hlen, List.take_length] at pq
      walk_at "ws"
      refine c_tupL C (SqL.of hq) fun p4 H4 hp4 e4 h4 => ?_
      have ex4 : Ex H' H4 := (e1.trans e2).trans e4
      exact q rs p4 n' m' H4 ro ⟨qs, h4, Paired.mapP pq fun a c z => e4 _ _ z⟩ (ex4 _ _ hb') (eH.trans ex4.toB)
end
/-- what the law holds to be the rate -/
def spLRate (K : PySem.W.Frag) : Sp := fun vs H Q _ => ∃ (p : Addr) (rs : List Rt) (m d : Int), vs = [.ref p, .int m, .int d] ∧ Tab K H p rs ∧
  ∀ x H', Ex H H' → ((x = .non ∧ rateAll rs m d = none) ∨ ∃ qa t b, x = .ref qa ∧ H' qa = some (.tup [.int t, .int b]) ∧ rateAll rs m d = some (t, b)) → Q x H'
section
variable {P : Program} {w : World} {K : PySem.W.Frag} {mg : Str → Option Value} {base : Heap} {f C0 : Addr} {fd : FuncData}
theorem p_lrate (F : Fn K "_law_rate" "_law_rate" s__law_rate f fd) : FnOk P w K mg base CX0 1 f fd ["_law_table", "_law_coin", "_law_when"] (spLRate K) := by
  refine fn_w F sc__law_rate ok__law_rate (fun vs H Q E h => by obtain ⟨p, rs, m, d, rfl, ht, q⟩ := h; rfl) (fun X vs H Q E C h => ?_)
  obtain ⟨p, rs, m, d, rfl, ht, q⟩ := h
  show wB X _ _ [some (.ref p), some (.int m), some (.int d), none, none, none, none, none] H
  first | refine wB_one ?_ | refine wB_cons' fun _ _ => ?_
  walk_at "ws"
  refine wS_if ?_
  walk_at "ws"
  refine iteD (fun hm => ?_) (fun hm => ?_)
  · walk_at "ws"
    refine ⟨(by show 2 ≤ sizeLine; decide), fun pa H2 hpa e2 h2 => ?_⟩
    exact q _ H2 e2 (.inr ⟨pa, 1, 1, rfl, h2, by unfold rateAll; rw [if_pos hm]⟩)
  walk_at "ws"
  obtain ⟨qs, hp, pr⟩ := id ht
  have hl : qs.length = rs.length := Paired.length pr
  refine wS_tup C (fun _ => rfl) ?_
  walk_at "ws"
  refine ⟨p, _, rfl, SqT.of hp, fun i σ H' => ∃ x y1 y2 y3 y4, σ = [some (.ref p), some (.int m), some (.int d), some x, y1, y2, y3, y4] ∧ Ex H H' ∧ ((x = .non ∧ rateOf (rs.take i) m d = none) ∨ ∃ qa t b, x = .ref qa ∧ H' qa = some (.tup [.int t, .int b]) ∧ rateOf (rs.take i) m d = some (t, b)),
    ⟨.non, none, none, none, none, rfl, Ex.refl H, .inl ⟨rfl, rfl⟩⟩, ?_, ?_, ?_⟩
  · rintro i σ H' hi ⟨x, y1, y2, y3, y4, rfl, e3, _⟩
    exact SqT.of (e3 _ _ hp)
  · rintro i y σ H' hi ⟨x, y1, y2, y3, y4, rfl, e3, hx⟩
    obtain ⟨q0, r, rfl, hr0, hq⟩ := Tab.at (K := K) pr hi
    have hq' : H' q0 = some (.tup [.int r.1, .int r.2.1, .int r.2.2.1, .int r.2.2.2]) := e3 _ _ hq
    have keep : ¬ (r.1 = m ∧ r.2.1 ≤ d) → ((x = .non ∧ rateOf (rs.take (i + 1)) m d = none) ∨ ∃ qa t b, x = .ref qa ∧ H' qa = some (.tup [.int t, .int b]) ∧ rateOf (rs.take (i + 1)) m d = some (t, b)) := fun n => by
      rw [rateOf_succ hr0, if_neg n]
      exact hx
    walk_at "ws"
    refine wS_if ?_
    walk_at "ws"
    refine iteD (fun c1 => ?_) (fun c1 => ?_)
    · walk_at "ws"
      refine iteD (fun c2 => ?_) (fun c2 => ?_)
      · walk_at "ws"
        refine ⟨(by show 2 ≤ sizeLine; decide), fun pa H2 hpa e2 h2 => ?_⟩
        walk_at "ws"
        refine ⟨_, _, _, _, _, rfl, e3.trans e2, .inr ⟨pa, r.2.2.1, r.2.2.2, rfl, h2, ?_⟩⟩
        rw [rateOf_succ hr0, if_pos ⟨c1, c2⟩]
      · walk_at "ws"
        exact ⟨_, _, _, _, _, rfl, e3, keep fun z => c2 z.2⟩
    · walk_at "ws"
      exact ⟨_, _, _, _, _, rfl, e3, keep fun z => c1 z.1⟩
  · rintro σ H' ⟨x, y1, y2, y3, y4, rfl, e3, hx⟩
    rw [List.length_map, hl, List.take_length] at hx
    walk_at "ws"
    refine q x H' e3 ?_
    unfold rateAll
    rw [if_neg hm]
    exact hx
end
theorem kinds5 {k : Str} (h : inV (.str k) kindsL = true) : k = ("bed" : Str) ∨ k = ("fee" : Str) ∨ k = ("meal" : Str) ∨ k = ("ride" : Str) ∨ k = ("sundry" : Str) := by
  have z : ("bed" : Str) = k ∨ ("fee" : Str) = k ∨ ("meal" : Str) = k ∨ ("ride" : Str) = k ∨ ("sundry" : Str) = k := by
    unfold kindsL inV at h
    simpa [eqV] using h
  rcases z with rfl | rfl | rfl | rfl | rfl
  · exact .inl rfl
  · exact .inr (.inl rfl)
  · exact .inr (.inr (.inl rfl))
  · exact .inr (.inr (.inr (.inl rfl)))
  · exact .inr (.inr (.inr (.inr rfl)))
/-! ### things of whatever kind -/
theorem kb_bi : kitB "bool" "int" = some true := by decide +kernel
theorem kit_int : ∀ T ∈ oddTs, kitB T "int" = some (decide (T = "int") || decide (T = "bool")) := by decide +kernel
theorem kit_bool : ∀ T ∈ oddTs, kitB T "bool" = some (decide (T = "bool")) := by decide +kernel
theorem kit_tuple : ∀ T ∈ oddTs, kitB T "tuple" = some (decide (T = "tuple")) := by decide +kernel
theorem kit_str : ∀ T ∈ oddTs, kitB T "str" = some (decide (T = "str")) := by decide +kernel
theorem kit_list : ∀ T ∈ oddTs, kitB T "list" = some (decide (T = "list")) := by decide +kernel
def wholeV (v : V) (lo hi : Int) : Bool := match v with
  | .int i => wholeB i lo hi
  | _ => false
def truthV (v : V) : Bool := match v with
  | .bl _ => true
  | _ => false
theorem Thg.kinds {H : Hp} {v : V} {T : String} (h : Thg H v T) : (T = "int" ∧ ∃ i, v = .int i) ∨ (T = "bool" ∧ ∃ b, v = .bl b) ∨ (T ≠ "int" ∧ T ≠ "bool" ∧ (∀ lo hi, wholeV v lo hi = false) ∧ truthV v = false) := by
  cases h
  · exact .inr (.inr ⟨by decide, by decide, fun _ _ => rfl, rfl⟩)
  · exact .inr (.inl ⟨rfl, _, rfl⟩)
  · exact .inl ⟨rfl, _, rfl⟩
  · exact .inr (.inr ⟨by decide, by decide, fun _ _ => rfl, rfl⟩)
  · exact .inr (.inr ⟨by decide, by decide, fun _ _ => rfl, rfl⟩)
  · exact .inr (.inr ⟨by decide, by decide, fun _ _ => rfl, rfl⟩)
  · exact .inr (.inr ⟨by decide, by decide, fun _ _ => rfl, rfl⟩)
theorem Thg.tupK {H : Hp} {v : V} {T : String} (h : Thg H v T) : (T = "tuple" ∧ ∃ a xs, v = .ref a ∧ H a = some (.tup xs)) ∨ (T ≠ "tuple" ∧ ∀ a xs, v = .ref a → H a ≠ some (.tup xs)) := by
  cases h with
  | tup e => exact .inl ⟨rfl, _, _, rfl, e⟩
  | non => exact .inr ⟨by decide, fun _ _ z => by cases z⟩
  | bl b => exact .inr ⟨by decide, fun _ _ z => by cases z⟩
  | int i => exact .inr ⟨by decide, fun _ _ z => by cases z⟩
  | str z => exact .inr ⟨by decide, fun _ _ z => by cases z⟩
  | lst e => exact .inr ⟨by decide, fun _ _ z g => by cases z; rw [e] at g; cases g⟩
  | dct e => exact .inr ⟨by decide, fun _ _ z g => by cases z; rw [e] at g; cases g⟩
theorem Thg.strK {H : Hp} {v : V} {T : String} (h : Thg H v T) : (T = "str" ∧ ∃ z, v = .str z) ∨ (T ≠ "str" ∧ ∀ z, v ≠ .str z) := by
  cases h with
  | str z => exact .inl ⟨rfl, z, rfl⟩
  | non => exact .inr ⟨by decide, fun _ z => by cases z⟩
  | bl b => exact .inr ⟨by decide, fun _ z => by cases z⟩
  | int i => exact .inr ⟨by decide, fun _ z => by cases z⟩
  | tup e => exact .inr ⟨by decide, fun _ z => by cases z⟩
  | lst e => exact .inr ⟨by decide, fun _ z => by cases z⟩
  | dct e => exact .inr ⟨by decide, fun _ z => by cases z⟩
theorem wholeV_int {v : V} {lo hi : Int} (h : wholeV v lo hi = true) : ∃ i, v = .int i ∧ lo ≤ i ∧ i ≤ hi := by
  cases v with
  | int i =>
    have h : wholeB i lo hi = true := h
    unfold wholeB at h
    rw [Bool.and_eq_true] at h
    exact ⟨i, rfl, of_decide_eq_true h.1, of_decide_eq_true h.2⟩
  | _ => cases h
theorem wholeB_t {i lo hi : Int} (h1 : lo ≤ i) (h2 : i ≤ hi) : wholeB i lo hi = true := by unfold wholeB; rw [decide_eq_true h1, decide_eq_true h2]; rfl
theorem truthV_bl {v : V} (h : truthV v = true) : ∃ b, v = .bl b := by
  cases v with
  | bl b => exact ⟨b, rfl⟩
  | _ => cases h
theorem inS_str {v : V} {zs : List Str} (h : inS v zs = true) : ∃ z, v = .str z ∧ z ∈ zs := by
  unfold inS at h
  obtain ⟨z, hz, e⟩ := List.any_eq_true.mp h
  cases v with
  | str y =>
    have e2 : z = y := by simpa [eqV] using e
    exact ⟨y, rfl, e2 ▸ hz⟩
  | _ => simp [eqV] at e
theorem inS_mem {z : Str} {zs : List Str} (h : z ∈ zs) : inS (.str z) zs = true := by
  unfold inS
  exact List.any_eq_true.mpr ⟨z, h, by simp [eqV]⟩
def kindsS : List Str := ["bed", "fee", "meal", "ride", "sundry"]
theorem kinds_iff {z : Str} : inV (.str z) kindsL = true ↔ z ∈ kindsS := by
  constructor
  · intro h
    rcases kinds5 h with rfl | rfl | rfl | rfl | rfl <;> decide +kernel
  · intro h
    have a : ∀ z ∈ kindsS, inV (.str z) kindsL = true := by decide +kernel
    exact a z h
def spWholeT : Sp := fun vs H Q _ => ∃ (v : V) (lo hi : Int), vs = [v, .int lo, .int hi] ∧ Pl H v ∧ Q (.bl (wholeV v lo hi)) H
def spTruthT : Sp := fun vs H Q _ => ∃ v : V, vs = [v] ∧ Pl H v ∧ Q (.bl (truthV v)) H
def spKindT : Sp := fun vs H Q _ => ∃ v : V, vs = [v] ∧ Pl H v ∧ Q (.bl (inS v kindsS)) H
def spTownT : Sp := fun vs H Q _ => ∃ v : V, vs = [v] ∧ Pl H v ∧ Q (.bl (wholeV v 0 3)) H
def spDayT : Sp := fun vs H Q _ => ∃ v : V, vs = [v] ∧ Pl H v ∧ Q (.bl (wholeV v 0 59)) H
def spShareT : Sp := fun vs H Q _ => ∃ v : V, vs = [v] ∧ Pl H v ∧ Q (.bl (wholeV v 0 1000000000000)) H
section
variable {P : Program} {w : World} {K : PySem.W.Frag} {mg : Str → Option Value} {base : Heap} {f C0 : Addr} {fd : FuncData}
/-- isinstance(thing, int) and not isinstance(thing, bool) and lo <= thing <= hi -/
theorem p_wholeT (F : Fn K "is_whole" "is_whole" s_is_whole f fd) (T : Txt K mg) : FnOk P w K mg base CX0 1 f fd ["thing", "least", "most"] spWholeT := by
  refine fn_w F sc_is_whole ok_is_whole (fun vs H Q E h => by obtain ⟨v, lo, hi, rfl, ⟨U, th⟩, q⟩ := h; rfl) (fun X vs H Q E C h => ?_)
  obtain ⟨v, lo, hi, rfl, ⟨U, th⟩, q⟩ := h
  show wB X _ _ [some v, some (.int lo), some (.int hi)] H
  first | refine wB_one ?_ | refine wB_cons' fun _ _ => ?_
  walk_at "ws"
  have hU := th.odd
  refine wE_callB C T.isinstance (by walk_at "mem") boot_isinstance (by rfl) (by rfl) ?_
  walk_at "ws"
  refine wE_bltn (v := .ty "int") C T.int (by walk_at "mem") boot_int rfl ?_
  walk_at "ws"
  rcases th.kinds with ⟨rfl, i, rfl⟩ | ⟨rfl, b, rfl⟩ | ⟨n1, n2, n3, n4⟩
  · refine c_isi C (.ty "int") th.tyX kb_ii ?_
    walk_at "ws"
    refine wE_callB C T.isinstance (by walk_at "mem") boot_isinstance (by rfl) (by rfl) ?_
    walk_at "ws"
    refine wE_bltn (v := .ty "bool") C T.bool (by walk_at "mem") boot_bool rfl ?_
    walk_at "ws"
    refine c_isi C (.ty "bool") th.tyX kb_ib ?_
    walk_at "ws"
    have q : Q (.bl (wholeB i lo hi)) H := q
    unfold wholeB at q
    refine iteD (fun h => ?_) (fun h => ?_)
    · walk_at "ws"
      rw [decide_eq_true h] at q
      exact q
    · rw [decide_eq_false h] at q
      exact q
  · refine c_isi C (.ty "int") th.tyX kb_bi ?_
    walk_at "ws"
    refine wE_callB C T.isinstance (by walk_at "mem") boot_isinstance (by rfl) (by rfl) ?_
    walk_at "ws"
    refine wE_bltn (v := .ty "bool") C T.bool (by walk_at "mem") boot_bool rfl ?_
    walk_at "ws"
    refine c_isi C (.ty "bool") th.tyX kb_bb ?_
    walk_at "ws"
    exact q
  · have e := kit_int U hU
    rw [decide_eq_false n1, decide_eq_false n2] at e
    refine c_isi C (.ty "int") th.tyX e ?_
    rw [n3] at q
    walk_at "ws"
    exact q
theorem p_truthT (F : Fn K "is_truth" "is_truth" s_is_truth f fd) (T : Txt K mg) : FnOk P w K mg base CX0 1 f fd ["thing"] spTruthT := by
  refine fn_w F sc_is_truth ok_is_truth (fun vs H Q E h => by obtain ⟨v, rfl, ⟨U, th⟩, q⟩ := h; rfl) (fun X vs H Q E C h => ?_)
  obtain ⟨v, rfl, ⟨U, th⟩, q⟩ := h
  show wB X _ _ [some v] H
  first | refine wB_one ?_ | refine wB_cons' fun _ _ => ?_
  walk_at "ws"
  have hU := th.odd
  refine wE_callB C T.isinstance (by walk_at "mem") boot_isinstance (by rfl) (by rfl) ?_
  walk_at "ws"
  refine wE_bltn (v := .ty "bool") C T.bool (by walk_at "mem") boot_bool rfl ?_
  walk_at "ws"
  rcases th.kinds with ⟨rfl, i, rfl⟩ | ⟨rfl, b, rfl⟩ | ⟨n1, n2, n3, n4⟩
  · exact c_isi C (.ty "bool") th.tyX kb_ib q
  · exact c_isi C (.ty "bool") th.tyX kb_bb q
  · rw [n4] at q
    have e := kit_bool U hU
    rw [decide_eq_false n2] at e
    exact c_isi C (.ty "bool") th.tyX e q
theorem p_kindT (F : Fn K "is_kind" "is_kind" s_is_kind f fd) (T : Txt K mg) : FnOk P w K mg base CX0 1 f fd ["thing"] spKindT := by
  refine fn_w F sc_is_kind ok_is_kind (fun vs H Q E h => by obtain ⟨v, rfl, ⟨U, th⟩, q⟩ := h; rfl) (fun X vs H Q E C h => ?_)
  obtain ⟨v, rfl, ⟨U, th⟩, q⟩ := h
  show wB X _ _ [some v] H
  first | refine wB_one ?_ | refine wB_cons' fun _ _ => ?_
  walk_at "ws"
  obtain ⟨a, ma, ha⟩ := T.kinds
  refine wE_glob (v := .ref a) C (by walk_at "mem") ma rfl ?_
  exact o_inKT (zs := kindsS) C (ha H) th q
theorem p_dayT (F : Fn K "is_day" "is_day" s_is_day f fd) (T : Txt K mg) (DW : Df P w K mg base 1 "is_whole" ["thing", "least", "most"] [] spWholeT) : FnOk P w K mg base CX0 2 f fd ["thing"] spDayT := by
  refine fn_w F sc_is_day ok_is_day (fun vs H Q E h => by obtain ⟨v, rfl, pl, q⟩ := h; rfl) (fun X vs H Q E C h => ?_)
  obtain ⟨v, rfl, pl, q⟩ := h
  show wB X _ _ [some v] H
  first | refine wB_one ?_ | refine wB_cons' fun _ _ => ?_
  walk_at "ws"
  refine wE_call C DW (by walk_at "mem") (by decide) (by rfl) (by rfl) ?_
  walk_at "ws"
  refine wE_glob (v := .int 59) C (by walk_at "mem") T.lday.choose_spec ⟨_, rfl⟩ ?_
  walk_at "ws"
  exact ⟨v, 0, 59, rfl, pl, q⟩
end
theorem iteB {b : Bool} {A B : Prop} (h1 : b = true → A) (h2 : b = false → B) : if b = true then A else B := by
  cases b
  · exact iteF (h2 rfl)
  · exact iteT (h1 rfl)
theorem ff {b : Bool} (h : b = false) (t : b = true) : False := by rw [h] at t; cases t
/-- the built-in names -/
structure TxO (mg : Str → Option Value) : Prop where
  tuple : mg "tuple" = none
  str : mg "str" = none
  list : mg "list" = none
/-! ### rates that are none -/
theorem isT {b : Bool} (h : b = true) : ¬ b = false := by rw [h]; decide
theorem isF {b : Bool} (h : b = false) : ¬ b = true := by rw [h]; decide
theorem nb {b : Bool} (h : (!b) = true) : b = false := by cases b <;> simp_all
theorem nt {b : Bool} (h : (!b) = false) : b = true := by cases b <;> simp_all
theorem FnOk.or {P : Program} {w : World} {K : PySem.W.Frag} {mg : Str → Option Value} {base : Heap} {CX : CXT} {k : Nat} {f : Addr} {fd : FuncData} {ps : List Str} {sp1 sp2 : Sp} (F : FnOk P w K mg base CX k f fd ps sp1) (G : FnOk P w K mg base CX k f fd ps sp2) :
    FnOk P w K mg base CX k f fd ps (fun vs H Q E => sp1 vs H Q E ∨ sp2 vs H Q E) :=
  ⟨fun vs H Q E q => q.elim (F.len vs H Q E) (G.len vs H Q E), fun A outer s H args us vs Q E hr he hb hv hs => hs.elim (F.run A outer s H args us vs Q E hr he hb hv) (G.run A outer s H args us vs Q E hr he hb hv)⟩
/-- a thing, with the things in it if it is a tuple -/
def Th2 (H : Hp) (v : V) : Prop := Pl H v ∧ ∀ a xs, v = .ref a → H a = some (.tup xs) → ∀ x ∈ xs, Pl H x
def Th3 (H : Hp) (v : V) : Prop := Pl H v ∧ ∀ a xs, v = .ref a → H a = some (.tup xs) → ∀ x ∈ xs, Th2 H x
theorem Pl.n {H H' : Hp} {v : V} (h : Pl H v) (e : LamX.ExtN H H') : Pl H' v := let ⟨T, t⟩ := h; ⟨T, t.n e⟩
theorem Pl.back {H H' : Hp} {a : Addr} {xs : List V} (h : Pl H (.ref a)) (e : LamX.ExtN H H') (g : H' a = some (.tup xs)) : H a = some (.tup xs) := by
  obtain ⟨T, t⟩ := h
  obtain ⟨o, ho, hn⟩ := thg_ref t
  have := e _ _ ho hn
  rw [g] at this
  cases this
  exact ho
theorem Th2.n {H H' : Hp} {v : V} (h : Th2 H v) (e : LamX.ExtN H H') : Th2 H' v :=
  ⟨h.1.n e, fun a xs ea ht x hx => by subst ea; exact (h.2 a xs rfl (h.1.back e ht) x hx).n e⟩
theorem Th3.n {H H' : Hp} {v : V} (h : Th3 H v) (e : LamX.ExtN H H') : Th3 H' v :=
  ⟨h.1.n e, fun a xs ea ht x hx => by subst ea; exact (h.2 a xs rfl (h.1.back e ht) x hx).n e⟩
def IsR (H : Hp) (v : V) (r : Rt) : Prop := ∃ q, v = .ref q ∧ H q = some (.tup (rtV r)) ∧ r.Ok
def IsRates (K : PySem.W.Frag) (H : Hp) (v : V) (rs : List Rt) : Prop := ∃ p, v = .ref p ∧ Tab K H p rs ∧ RatesOk rs
theorem isR_all {H : Hp} {a : Addr} {x0 x1 x2 x3 : V} {r : Rt} (h : H a = some (.tup [x0, x1, x2, x3])) (i : IsR H (.ref a) r) : wholeV x0 1 3 = true ∧ wholeV x1 0 59 = true ∧ wholeV x2 1 1000000 = true ∧ wholeV x3 1 1000000 = true := by
  obtain ⟨q, e, g, o⟩ := i
  cases e
  rw [h] at g
  have g := Option.some.inj g
  injection g with g
  unfold rtV at g
  simp only [List.cons.injEq, and_true] at g
  obtain ⟨rfl, rfl, rfl, rfl⟩ := g
  exact ⟨wholeB_t o.m1 o.m2, wholeB_t o.d1 o.d2, wholeB_t o.t1 o.t2, wholeB_t o.b1 o.b2⟩
theorem isR_of {H : Hp} {a : Addr} {x0 x1 x2 x3 : V} (h : H a = some (.tup [x0, x1, x2, x3])) (h0 : wholeV x0 1 3 = true) (h1 : wholeV x1 0 59 = true) (h2 : wholeV x2 1 1000000 = true) (h3 : wholeV x3 1 1000000 = true) : ∃ r, IsR H (.ref a) r := by
  obtain ⟨m, rfl, m1, m2⟩ := wholeV_int h0
  obtain ⟨d, rfl, d1, d2⟩ := wholeV_int h1
  obtain ⟨t, rfl, t1, t2⟩ := wholeV_int h2
  obtain ⟨b, rfl, b1, b2⟩ := wholeV_int h3
  exact ⟨(m, d, t, b), a, rfl, h, ⟨m1, m2, d1, d2, t1, t2, b1, b2⟩⟩
theorem four {α : Type} {xs : List α} (h : xs.length = 4) : ∃ a b c d, xs = [a, b, c, d] := match xs, h with
  | [a, b, c, d], _ => ⟨a, b, c, d, rfl⟩
theorem kb_tt' : kitB "tuple" "tuple" = some true := by decide +kernel
def spIsRowN : Sp := fun vs H Q _ => ∃ v, vs = [v] ∧ Th2 H v ∧ (∀ r, ¬ IsR H v r) ∧ Q (.bl false) H
def spAreN (K : PySem.W.Frag) : Sp := fun vs H Q _ => ∃ v, vs = [v] ∧ Th3 H v ∧ (∀ rs, ¬ IsRates K H v rs) ∧ ∀ H', Ex H H' → Q (.bl false) H'
def spChkN (K : PySem.W.Frag) (CN : Addr) : Sp := fun vs H Q E => ∃ v, vs = [v] ∧ Th3 H v ∧ (∀ rs, ¬ IsRates K H v rs) ∧ ∀ H', Ex H H' → E (.ref CN) none H'
def spRateN (K : PySem.W.Frag) (CN : Addr) : Sp := fun vs H Q E => ∃ v m d, vs = [v, m, d] ∧ Th3 H v ∧ (∀ rs, ¬ IsRates K H v rs) ∧ ∀ H', Ex H H' → E (.ref CN) none H'
def spToldN (K : PySem.W.Frag) (CN : Addr) : Sp := fun vs H Q E => ∃ v, vs = [v] ∧ v ≠ .non ∧ Th3 H v ∧ (∀ rs, ¬ IsRates K H v rs) ∧ ∀ H', Ex H H' → E (.ref CN) none H'
def spShareN (K : PySem.W.Frag) (CN : Addr) : Sp := fun vs H Q E => ∃ v s, vs = [s, v] ∧ v ≠ .non ∧ Th3 H v ∧ (∀ rs, ¬ IsRates K H v rs) ∧ ∀ H', Ex H H' → E (.ref CN) none H'
theorem tab_snoc {K : PySem.W.Frag} {H : Hp} {qs : List Addr} {rs : List Rt} {q : Addr} {r : Rt} (h : Paired (fun q r => H q = some (.tup (rtV r))) qs rs) (g : H q = some (.tup (rtV r))) : Paired (fun q r => H q = some (.tup (rtV r))) (qs ++ [q]) (rs ++ [r]) := by
  induction h with
  | nil => exact .cons g .nil
  | cons z t ih => exact .cons z ih
/-- how far the rows are good and rise -/
structure Good (K : PySem.W.Frag) (H : Hp) (xs : List V) (rs : List Rt) (c d : Int) : Prop where
  ex : ∃ qs : List Addr, xs = qs.map V.ref ∧ Paired (fun q r => H q = some (.tup (rtV r))) qs rs
  ok : ∀ r ∈ rs, r.Ok
  up : rs.Pairwise Rt.lt
  le : ∀ r ∈ rs, r.1 < c ∨ (r.1 = c ∧ r.2.1 ≤ d)
theorem Good.nil {K : PySem.W.Frag} {H : Hp} : Good K H [] [] 0 0 := ⟨⟨[], rfl, .nil⟩, (fun r h => by cases h), List.Pairwise.nil, (fun r h => by cases h)⟩
theorem Good.ex' {K : PySem.W.Frag} {H H' : Hp} {xs : List V} {rs : List Rt} {c d : Int} (g : Good K H xs rs c d) (e : Ex H H') : Good K H' xs rs c d := by
  obtain ⟨qs, h1, h2⟩ := g.ex
  exact ⟨⟨qs, h1, Paired.mapP h2 fun q r h => e _ _ h⟩, g.ok, g.up, g.le⟩
theorem Good.more {K : PySem.W.Frag} {H : Hp} {xs : List V} {rs : List Rt} {c d : Int} {y : V} {r : Rt} (g : Good K H xs rs c d) (i : IsR H y r) (l : c < r.1 ∨ (c = r.1 ∧ d < r.2.1)) : Good K H (xs ++ [y]) (rs ++ [r]) r.1 r.2.1 := by
  obtain ⟨qs, rfl, h2⟩ := g.ex
  obtain ⟨q, rfl, hq, o⟩ := i
  refine ⟨⟨qs ++ [q], by rw [List.map_append]; rfl, tab_snoc (K := K) h2 hq⟩, fun s hs => ?_, ?_, fun s hs => ?_⟩
  · rcases List.mem_append.mp hs with h | h
    · exact g.ok s h
    · rw [List.mem_singleton.mp h]; exact o
  · refine List.pairwise_append.mpr ⟨g.up, List.pairwise_singleton _ _, fun s hs t ht => ?_⟩
    rw [List.mem_singleton.mp ht]
    have := g.le s hs
    unfold Rt.lt
    omega
  · rcases List.mem_append.mp hs with h | h
    · have := g.le s h
      omega
    · rw [List.mem_singleton.mp h]; omega
theorem lex2n {a b c d : Int} (h : ¬ (c < a ∨ (c = a ∧ d < b))) : Ob.lexAt (fun j => decide ([a, b].getD j 0 = [c, d].getD j 0)) (fun j => decide ([a, b].getD j 0 ≤ [c, d].getD j 0)) (decide ([a, b].length ≤ [c, d].length)) 0 (min [a, b].length [c, d].length) = true := by
  show (if decide (a = c) = true then (if decide (b = d) = true then decide ((2 : Nat) ≤ 2) else decide (b ≤ d)) else decide (a ≤ c)) = true
  by_cases e : a = c
  · rw [if_pos (decide_eq_true e)]
    by_cases f : b = d
    · rw [if_pos (decide_eq_true f)]; rfl
    · rw [if_neg (by simp; exact f)]; exact decide_eq_true (by omega)
  · rw [if_neg (by simp; exact e)]
    exact decide_eq_true (by omega)
section
variable {P : Program} {w : World} {K : PySem.W.Frag} {mg : Str → Option Value} {base : Heap} {f C0 CN : Addr} {fd : FuncData}
theorem p_isRowN (F : Fn K "is_row" "is_row" s_is_row f fd) (T : Txt2 K mg) (DW : Df P w K mg base 1 "is_whole" ["thing", "least", "most"] [] spWholeT) (DD : Df P w K mg base 2 "is_day" ["thing"] [] spDayT) : FnOk P w K mg base CX0 3 f fd ["thing"] spIsRowN := by
  refine fn_w F sc_is_row ok_is_row (fun vs H Q E h => by obtain ⟨v, rfl, ⟨⟨U, t⟩, tl⟩, no, q⟩ := h; rfl) (fun X vs H Q E C h => ?_)
  obtain ⟨v, rfl, ⟨⟨U, t⟩, tl⟩, no, q⟩ := h
  show wB X _ _ [some v, none, none, none, none] H
  first | refine wB_one ?_ | refine wB_cons' fun _ _ => ?_
  walk_at "ws"
  refine wS_if ?_
  walk_at "ws"
  refine wE_callB C T.isinstance (by walk_at "mem") boot_isinstance (by rfl) (by rfl) ?_
  walk_at "ws"
  refine wE_bltn (v := .ty "tuple") C T.tuple (by walk_at "mem") boot_tuple rfl ?_
  walk_at "ws"
  rcases t.tupK with ⟨rfl, a, xs, rfl, ha⟩ | ⟨n1, n2⟩
  rotate_left
  · have e := kit_tuple U t.odd
    rw [decide_eq_false n1] at e
    refine c_isi C (.ty "tuple") t.tyX e ?_
    walk_at "ws"
    exact q
  refine c_isi C (.ty "tuple") t.tyX kb_tt' ?_
  walk_at "ws"
  refine wE_callB C T.len (by walk_at "mem") boot_len (by rfl) (by rfl) ?_
  walk_at "ws"
  refine c_lenT C (SqT.of ha) ?_
  walk_at "ws"
  by_cases h4 : xs.length = 4
  rotate_left
  · refine iteDT (by omega) ?_
    walk_at "ws"
    exact q
  refine iteDF (by rw [h4]; decide) ?_
  obtain ⟨x0, x1, x2, x3, rfl⟩ := four h4
  have l0 := tl a _ rfl ha x0 (by simp)
  have l1 := tl a _ rfl ha x1 (by simp)
  have l2 := tl a _ rfl ha x2 (by simp)
  have l3 := tl a _ rfl ha x3 (by simp)
  walk_at "ws"
  refine wS_if ?_
  walk_at "ws"
  refine wE_call C DW (by walk_at "mem") (by decide) (by rfl) (by rfl) ?_
  walk_at "ws"
  refine wE_glob (v := .int 3) C (by walk_at "mem") T.lmon.choose_spec ⟨_, rfl⟩ ?_
  walk_at "ws"
  refine ⟨x0, 1, 3, rfl, l0, ?_⟩
  walk_at "ws"
  refine iteB (fun k0 => ?_) (fun k0 => ?_)
  · walk_at "ws"
    exact q
  walk_at "ws"
  refine wE_call C DD (by walk_at "mem") (by decide) (by rfl) (by rfl) ?_
  walk_at "ws"
  refine ⟨x1, rfl, l1, ?_⟩
  walk_at "ws"
  refine iteB (fun k1 => ?_) (fun k1 => ?_)
  · walk_at "ws"
    exact q
  walk_at "ws"
  refine wE_call C DW (by walk_at "mem") (by decide) (by rfl) (by rfl) ?_
  walk_at "ws"
  refine wE_glob (v := .int 1000000) C (by walk_at "mem") T.msid.choose_spec ⟨_, rfl⟩ ?_
  walk_at "ws"
  refine ⟨x2, 1, 1000000, rfl, l2, ?_⟩
  walk_at "ws"
  refine iteB (fun k2 => ?_) (fun k2 => ?_)
  rotate_left
  · walk_at "ws"
    exact q
  walk_at "ws"
  refine wE_call C DW (by walk_at "mem") (by decide) (by rfl) (by rfl) ?_
  walk_at "ws"
  refine wE_glob (v := .int 1000000) C (by walk_at "mem") T.msid.choose_spec ⟨_, rfl⟩ ?_
  walk_at "ws"
  refine ⟨x3, 1, 1000000, rfl, l3, ?_⟩
  walk_at "ws"
  cases k3 : wholeV x3 1 1000000 with
  | false => exact q
  | true =>
    obtain ⟨r, hr⟩ := isR_of ha (nt k0) (nt k1) k2 k3
    exact absurd hr (no r)
def spIsRowT : Sp := fun vs H Q E => spIsRow vs H Q E ∨ spIsRowN vs H Q E
theorem p_areN (F : Fn K "are_rates" "are_rates" s_are_rates f fd) (T : Txt2 K mg) (DR : Df P w K mg base 3 "is_row" ["thing"] [] spIsRowT) : FnOk P w K mg base CX0 4 f fd ["thing"] (spAreN K) := by
  refine fn_w F sc_are_rates ok_are_rates (fun vs H Q E h => by obtain ⟨v, rfl, ⟨⟨U, t⟩, tl⟩, no, q⟩ := h; rfl) (fun X vs H Q E C h => ?_)
  obtain ⟨v, rfl, ⟨⟨U, t⟩, tl⟩, no, q⟩ := h
  show wB X _ _ [some v, none, none] H
  first | refine wB_one ?_ | refine wB_cons' fun _ _ => ?_
  walk_at "ws"
  refine wS_if ?_
  walk_at "ws"
  refine wE_callB C T.isinstance (by walk_at "mem") boot_isinstance (by rfl) (by rfl) ?_
  walk_at "ws"
  refine wE_bltn (v := .ty "tuple") C T.tuple (by walk_at "mem") boot_tuple rfl ?_
  walk_at "ws"
  rcases t.tupK with ⟨rfl, p, xs, rfl, hp⟩ | ⟨n1, n2⟩
  rotate_left
  · have e := kit_tuple U t.odd
    rw [decide_eq_false n1] at e
    refine c_isi C (.ty "tuple") t.tyX e ?_
    walk_at "ws"
    exact q H (Ex.refl H)
  refine c_isi C (.ty "tuple") t.tyX kb_tt' ?_
  walk_at "ws"
  refine wE_callB C T.len (by walk_at "mem") boot_len (by rfl) (by rfl) ?_
  walk_at "ws"
  refine c_lenT C (SqT.of hp) ?_
  walk_at "ws"
  refine wE_glob (v := .int 12) C (by walk_at "mem") T.mrow.choose_spec ⟨_, rfl⟩ ?_
  walk_at "ws"
  refine iteD (fun h12 => ?_) (fun h12 => ?_)
  · walk_at "ws"
    exact q H (Ex.refl H)
  walk_at "ws"
  refine ⟨(by show 2 ≤ sizeLine; decide), fun pa H2 hpa e2 h2 => ?_⟩
  walk_at "ws"
  refine wS_tup C (fun _ => rfl) ?_
  walk_at "ws"
  refine ⟨p, _, rfl, SqT.of (e2 _ _ hp), fun i σ H' => ∃ pa c d y rs, σ = [some (.ref p), some (.ref pa), y] ∧ H' pa = some (.tup [.int c, .int d]) ∧ Ex H H' ∧ Good K H (xs.take i) rs c d,
    ⟨pa, 0, 0, none, [], rfl, h2, e2, Good.nil⟩, ?_, ?_, ?_⟩
  · rintro i σ H' hi ⟨pa, c, d, y, rs, rfl, h3, e3, _⟩
    exact SqT.of (e3 _ _ hp)
  · rintro i y σ H' hi ⟨pa, c, d, y0, rs, rfl, h3, e3, g⟩
    have th := tl p xs rfl hp y (List.mem_of_getElem? hi)
    refine wG_name C (by walk_at "mem") ?_
    walk_at "ws"
    refine wS_if ?_
    walk_at "ws"
    refine wE_call C DR (by walk_at "mem") (by decide) (by rfl) (by rfl) ?_
    walk_at "ws"
    by_cases c1 : ∃ r, IsR H y r
    rotate_left
    · refine .inr ⟨y, rfl, th.n e3.n, fun r hr => c1 ⟨r, ?_⟩, ?_⟩
      · obtain ⟨q0, rfl, hq, o⟩ := hr
        exact ⟨q0, rfl, th.1.back e3.n hq, o⟩
      walk_at "ws"
      exact q H' e3
    obtain ⟨r, ir⟩ := c1
    obtain ⟨q0, rfl, hq, ro⟩ := id ir
    have hq' : H' q0 = some (.tup [.int r.1, .int r.2.1, .int r.2.2.1, .int r.2.2.2]) := e3 _ _ hq
    refine .inl ⟨q0, r, rfl, e3 _ _ hq, ro, fun H4 e4 => ?_⟩
    walk_at "ws"
    refine slq_i (SqT.of (e4 _ _ hq')) nf2 cut_to2 fun p5 H5 hp5 e5 h5 => ?_
    walk_at "ws"
    refine o_leT C (ns := [r.1, r.2.1]) (ms := [c, d]) (SqT.of h5) (SqT.of (e5 _ _ (e4 _ _ h3))) ?_
    by_cases l : c < r.1 ∨ (c = r.1 ∧ d < r.2.1)
    rotate_left
    · rw [lex2n l]
      walk_at "ws"
      exact q H5 ((e3.trans e4).trans e5)
    rw [lex2 l]
    walk_at "ws"
    refine slq_i (SqT.of (e5 _ _ (e4 _ _ hq'))) nf2 cut_to2 fun p6 H6 hp6 e6 h6 => ?_
    walk_at "ws"
    refine ⟨p6, r.1, r.2.1, _, rs ++ [r], rfl, h6, ((e3.trans e4).trans e5).trans e6, ?_⟩
    have z := g.more ir l
    rw [List.take_add_one, hi]
    exact z
  · rintro σ H' ⟨pa, c, d, y0, rs, rfl, h3, e3, g⟩
    rw [List.take_length] at g
    obtain ⟨qs, eq, pr⟩ := g.ex
    refine absurd ⟨p, rfl, ⟨qs, by rw [← eq]; exact hp, pr⟩, ⟨?_, g.ok, g.up⟩⟩ (no rs)
    have := Paired.length pr
    rw [eq, List.length_map] at h12
    omega
def spAreT (K : PySem.W.Frag) : Sp := fun vs H Q E => spAreRates K vs H Q E ∨ spAreN K vs H Q E
theorem p_chkN (F : Fn K "check_rates" "check_rates" s_check_rates f fd) (DA : Df P w K mg base 4 "are_rates" ["thing"] [] (spAreN K)) (XP : Xp K mg "NoRates" CN [.type "ValueError", .type "Exception", .type "BaseException", .type "object"] "ValueError.__new__") : FnOk P w K mg base (L2.CX P w) 5 f fd ["rates"] (spChkN K CN) := by
  refine fn_wX F sc_check_rates ok_check_rates (fun vs H Q E h => by obtain ⟨v, rfl, _⟩ := h; rfl) (fun X vs H Q E C TK h => ?_)
  obtain ⟨v, rfl, th, no, q⟩ := h
  show wB X _ _ [some v] H
  refine wB_one ?_
  refine wS_if ?_
  walk_at "ws"
  refine wE_call C DA (by walk_at "mem") (by decide) (by rfl) (by rfl) ?_
  walk_at "ws"
  refine ⟨v, rfl, th, no, fun H' e => ?_⟩
  walk_at "ws"
  refine wS_raise C TK ?_
  refine wM_own C XP (by walk_at "mem") (by rfl) ?_
  walk_at "ws"
  exact q H' e
theorem p_rateN (F : Fn K "rate_on" "rate_on" s_rate_on f fd) (DC : Dx P w K mg base 5 "check_rates" ["rates"] [] (spChkN K CN)) : FnOk P w K mg base (L2.CX P w) 6 f fd ["rates", "money", "day"] (spRateN K CN) := by
  refine fn_wX F sc_rate_on ok_rate_on (fun vs H Q E h => by obtain ⟨v, m, d, rfl, _⟩ := h; rfl) (fun X vs H Q E C TK h => ?_)
  obtain ⟨v, m, d, rfl, th, no, q⟩ := h
  show wB X _ _ [some v, some m, some d, none, none] H
  refine wB_cons' fun _ _ => ?_
  walk_at "ws"
  refine wE_callX C TK DC (by walk_at "mem") (by decide) (by rfl) (by rfl) ?_
  walk_at "ws"
  exact ⟨v, rfl, th, no, q⟩
theorem p_toldN (F : Fn K "told_rates" "told_rates" s_told_rates f fd) (DC : Dx P w K mg base 5 "check_rates" ["rates"] [] (spChkN K CN)) : FnOk P w K mg base (L2.CX P w) 6 f fd ["rates"] (spToldN K CN) := by
  refine fn_wX F sc_told_rates ok_told_rates (fun vs H Q E h => by obtain ⟨v, rfl, _⟩ := h; rfl) (fun X vs H Q E C TK h => ?_)
  obtain ⟨v, rfl, nv, th, no, q⟩ := h
  show wB X _ _ [some v, none] H
  refine wB_cons' fun _ _ => ?_
  walk_at "ws"
  refine iteDF nv ?_
  walk_at "ws"
  refine wE_callX C TK DC (by walk_at "mem") (by decide) (by rfl) (by rfl) ?_
  walk_at "ws"
  exact ⟨v, rfl, th, no, q⟩
theorem p_shareN (F : Fn K "share_of" "share_of" s_share_of f fd) (DTo : Dx P w K mg base 6 "told_rates" ["rates"] [] (spToldN K CN)) (DR : Dx P w K mg base 6 "rate_on" ["rates", "money", "day"] [] (spRateN K CN)) : FnOk P w K mg base (L2.CX P w) 7 f fd ["spending", "rates"] (spShareN K CN) := by
  refine fn_wX F sc_share_of ok_share_of (fun vs H Q E h => by obtain ⟨v, s, rfl, _⟩ := h; rfl) (fun X vs H Q E C TK h => ?_)
  obtain ⟨v, s, rfl, nv, th, no, q⟩ := h
  show wB X _ _ [some s, some v, none, none, none, none] H
  refine wB_cons' fun _ _ => ?_
  walk_at "ws"
  refine wE_callX C TK DR (by walk_at "mem") (by decide) (by rfl) (by rfl) ?_
  walk_at "ws"
  refine wE_callX C TK DTo (by walk_at "mem") (by decide) (by rfl) (by rfl) ?_
  walk_at "ws"
  exact ⟨v, rfl, nv, th, no, q⟩
end
/-! ### rates, as the law tells them -/
theorem rise_uniq {α : Type} {R : α → α → Prop} (asym : ∀ a b, R a b → ¬ R b a) : ∀ {xs ys : List α}, xs.Pairwise R → ys.Pairwise R → (∀ z, z ∈ xs ↔ z ∈ ys) → xs = ys
  | [], [], _, _, _ => rfl
  | [], y :: ys, _, _, h => absurd ((h y).mpr List.mem_cons_self) (by simp)
  | x :: xs, [], _, _, h => absurd ((h x).mp List.mem_cons_self) (by simp)
  | x :: xs, y :: ys, hx, hy, h => by
    rw [List.pairwise_cons] at hx hy
    have e : x = y := by
      rcases List.mem_cons.mp ((h x).mp List.mem_cons_self) with e | m1
      · exact e
      rcases List.mem_cons.mp ((h y).mpr List.mem_cons_self) with e | m2
      · exact e.symm
      exact absurd (hx.1 y m2) (asym _ _ (hy.1 x m1))
    subst e
    have t : xs = ys := rise_uniq asym hx.2 hy.2 fun z => by
      constructor
      · intro m
        rcases List.mem_cons.mp ((h z).mp (List.mem_cons_of_mem _ m)) with e | m2
        · subst e; exact absurd (hx.1 z m) (asym _ _ (hx.1 z m))
        · exact m2
      · intro m
        rcases List.mem_cons.mp ((h z).mpr (List.mem_cons_of_mem _ m)) with e | m2
        · subst e; exact absurd (hy.1 z m) (asym _ _ (hy.1 z m))
        · exact m2
    rw [t]
def keyR (r : Rt) : List Int := [r.1, r.2.1]
theorem bd_key {r : Rt} (o : r.Ok) : TS.Bd 64 (keyR r) := bd_of (.inr ⟨o.m1, o.m2, o.d1, o.d2⟩)
theorem keys_rise {rs : List Rt} (o : ∀ r ∈ rs, r.Ok) {ms : List (List Int)} (nd : ms.Nodup) (pw : ms.Pairwise fun a b => TS.code 64 a ≤ TS.code 64 b) (hm : ∀ n ∈ ms, n ∈ rs.map keyR) (hr : ∀ n ∈ rs.map keyR, n ∈ ms) : rs.map keyR = ms ↔ rs.Pairwise Rt.lt := by
  have low : ∀ n ∈ ms, ∃ r, r.Ok ∧ n = keyR r := fun n h => by
    obtain ⟨r, mr, e⟩ := List.mem_map.mp (hm n h)
    exact ⟨r, o r mr, e.symm⟩
  constructor
  · intro e
    rw [← e] at nd pw
    rw [List.nodup_iff_pairwise_ne, List.pairwise_map] at nd
    rw [List.pairwise_map] at pw
    refine ((nd.and pw).imp_of_mem ?_)
    rintro a b ma mb ⟨n, c⟩
    rcases code_lex (bd_key (o a ma)) (bd_key (o b mb)) c with l | ⟨l1, l2⟩
    · exact .inl l
    · refine .inr ⟨l1, ?_⟩
      have : a.2.1 ≠ b.2.1 := fun z => n (by unfold keyR; rw [l1, z])
      omega
  · intro up
    refine rise_uniq (R := fun a b => TS.code 64 a < TS.code 64 b) (fun a b h => by omega) ?_ ?_ fun z => ⟨hr z, hm z⟩
    · rw [List.pairwise_map]
      refine up.imp_of_mem ?_
      intro a b ma mb l
      apply Int.not_le.mp
      intro c
      rcases code_lex (bd_key (o b mb)) (bd_key (o a ma)) c with l2 | ⟨l1, l2⟩
      · unfold Rt.lt at l; omega
      · unfold Rt.lt at l; omega
    · rw [List.nodup_iff_pairwise_ne] at nd
      refine ((nd.and pw).imp_of_mem ?_)
      rintro a b ma mb ⟨n, c⟩
      apply Int.not_le.mp
      intro c2
      obtain ⟨r, ro, rfl⟩ := low a ma
      obtain ⟨s, so, rfl⟩ := low b mb
      refine n ?_
      have h1 := code_lex (bd_key ro) (bd_key so) c
      have h2 := code_lex (bd_key so) (bd_key ro) c2
      unfold keyR
      have e1 : r.1 = s.1 := by omega
      have e2 : r.2.1 = s.2.1 := by omega
      rw [e1, e2]
def spLAre (K : PySem.W.Frag) : Sp := fun vs H Q _ => ∃ v, vs = [v] ∧ Th3 H v ∧ ∀ H' b, Ex H H' → (b = true ↔ ∃ rs, IsRates K H v rs) → Q (.bl b) H'
theorem isR_pair {H : Hp} {xs : List V} {rs : List Rt} (h : Paired (IsR H) xs rs) : ∃ qs : List Addr, xs = qs.map V.ref ∧ Paired (fun q r => H q = some (.tup (rtV r))) qs rs ∧ ∀ r ∈ rs, r.Ok := by
  induction h with
  | nil => exact ⟨[], rfl, .nil, fun r h => by cases h⟩
  | cons z t ih =>
    obtain ⟨q, rfl, hq, o⟩ := z
    obtain ⟨qs, rfl, pr, os⟩ := ih
    exact ⟨q :: qs, rfl, .cons hq pr, fun r hr => (List.mem_cons.mp hr).elim (fun e => e ▸ o) (os r)⟩
theorem isR_eq {H : Hp} {v : V} {r s : Rt} (h : IsR H v r) (g : IsR H v s) : r = s := by
  obtain ⟨q, rfl, hq, _⟩ := h
  obtain ⟨p, e, hp, _⟩ := g
  cases e
  rw [hq] at hp
  have := Option.some.inj hp
  injection this with this
  unfold rtV at this
  simp only [List.cons.injEq, V.int.injEq, and_true] at this
  obtain ⟨a, b, c, d⟩ := this
  exact Prod.ext a (Prod.ext b (Prod.ext c d))
theorem pair_eq {H : Hp} {qs : List Addr} {rs : List Rt} (h : Paired (fun q r => H q = some (.tup (rtV r))) qs rs) : ∀ {ss : List Rt}, (∀ r ∈ rs, r.Ok) → (∀ r ∈ ss, r.Ok) → Paired (fun q r => H q = some (.tup (rtV r))) qs ss → rs = ss := by
  induction h with
  | nil => intro ss _ _ g; cases g; rfl
  | @cons q r qs rs z t ih =>
    intro ss o1 o2 g
    cases g with
    | @cons _ s _ ss z2 t2 =>
      rw [isR_eq (v := .ref q) ⟨q, rfl, z, o1 r List.mem_cons_self⟩ ⟨q, rfl, z2, o2 s List.mem_cons_self⟩, ih (fun r h => o1 r (List.mem_cons_of_mem _ h)) (fun r h => o2 r (List.mem_cons_of_mem _ h)) t2]
theorem isRates_tup {K : PySem.W.Frag} {H : Hp} {p : Addr} {xs : List V} {rs : List Rt} (h : IsRates K H (.ref p) rs) (hp : H p = some (.tup xs)) : ∃ qs : List Addr, xs = qs.map V.ref ∧ Paired (fun q r => H q = some (.tup (rtV r))) qs rs := by
  obtain ⟨p', e, ⟨qs, h1, h2⟩, _⟩ := h
  cases e
  rw [hp] at h1
  have := Option.some.inj h1
  injection this with this
  exact ⟨qs, this, h2⟩
section
variable {P : Program} {w : World} {K : PySem.W.Frag} {mg : Str → Option Value} {base : Heap} {f C0 CN : Addr} {fd : FuncData}
theorem p_lwhole (F : Fn K "_law_whole" "_law_whole" s__law_whole f fd) (T : Txt K mg) : FnOk P w K mg base CX0 1 f fd ["_law_thing", "_law_low", "_law_high"] spWholeT := by
  refine fn_w F sc__law_whole ok__law_whole (fun vs H Q E h => by obtain ⟨v, lo, hi, rfl, ⟨U, th⟩, q⟩ := h; rfl) (fun X vs H Q E C h => ?_)
  obtain ⟨v, lo, hi, rfl, ⟨U, th⟩, q⟩ := h
  show wB X _ _ [some v, some (.int lo), some (.int hi)] H
  first | refine wB_one ?_ | refine wB_cons' fun _ _ => ?_
  walk_at "ws"
  have hU := th.odd
  refine wE_callB C T.isinstance (by walk_at "mem") boot_isinstance (by rfl) (by rfl) ?_
  walk_at "ws"
  refine wE_bltn (v := .ty "int") C T.int (by walk_at "mem") boot_int rfl ?_
  walk_at "ws"
  rcases th.kinds with ⟨rfl, i, rfl⟩ | ⟨rfl, b, rfl⟩ | ⟨n1, n2, n3, n4⟩
  · refine c_isi C (.ty "int") th.tyX kb_ii ?_
    walk_at "ws"
    refine wE_callB C T.isinstance (by walk_at "mem") boot_isinstance (by rfl) (by rfl) ?_
    walk_at "ws"
    refine wE_bltn (v := .ty "bool") C T.bool (by walk_at "mem") boot_bool rfl ?_
    walk_at "ws"
    refine c_isi C (.ty "bool") th.tyX kb_ib ?_
    walk_at "ws"
    have q : Q (.bl (wholeB i lo hi)) H := q
    unfold wholeB at q
    refine iteD (fun h => ?_) (fun h => ?_)
    · walk_at "ws"
      rw [decide_eq_true h] at q
      exact q
    · rw [decide_eq_false h] at q
      exact q
  · refine c_isi C (.ty "int") th.tyX kb_bi ?_
    walk_at "ws"
    refine wE_callB C T.isinstance (by walk_at "mem") boot_isinstance (by rfl) (by rfl) ?_
    walk_at "ws"
    refine wE_bltn (v := .ty "bool") C T.bool (by walk_at "mem") boot_bool rfl ?_
    walk_at "ws"
    refine c_isi C (.ty "bool") th.tyX kb_bb ?_
    walk_at "ws"
    exact q
  · have e := kit_int U hU
    rw [decide_eq_false n1, decide_eq_false n2] at e
    refine c_isi C (.ty "int") th.tyX e ?_
    rw [n3] at q
    walk_at "ws"
    exact q
theorem p_lare (F : Fn K "_law_are" "_law_are" s__law_are f fd) (T : Txt2 K mg) (ts : mg "sorted" = none) (te : mg "set" = none) (DW : Df P w K mg base 1 "_law_whole" ["_law_thing", "_law_low", "_law_high"] [] spWholeT) : FnOk P w K mg base CX0 2 f fd ["_law_thing"] (spLAre K) := by
  refine fn_w F sc__law_are ok__law_are (fun vs H Q E h => by obtain ⟨v, rfl, ⟨⟨U, t⟩, tl⟩, q⟩ := h; rfl) (fun X vs H Q E C h => ?_)
  obtain ⟨v, rfl, ⟨⟨U, t⟩, tl⟩, q⟩ := h
  show wB X _ _ [some v, none, none] H
  first | refine wB_one ?_ | refine wB_cons' fun _ _ => ?_
  walk_at "ws"
  have notup : (∀ a xs, v = .ref a → H a ≠ some (.tup xs)) → ¬ ∃ rs, IsRates K H v rs := fun n ⟨rs, p, e, ⟨qs, h1, _⟩, _⟩ => n p _ e h1
  refine wS_if ?_
  walk_at "ws"
  refine wE_callB C T.isinstance (by walk_at "mem") boot_isinstance (by rfl) (by rfl) ?_
  walk_at "ws"
  refine wE_bltn (v := .ty "tuple") C T.tuple (by walk_at "mem") boot_tuple rfl ?_
  walk_at "ws"
  rcases t.tupK with ⟨rfl, p, xs, rfl, hp⟩ | ⟨n1, n2⟩
  rotate_left
  · have e := kit_tuple U t.odd
    rw [decide_eq_false n1] at e
    refine c_isi C (.ty "tuple") t.tyX e ?_
    walk_at "ws"
    exact q H false (Ex.refl H) ⟨fun z => (Bool.noConfusion z), fun z => absurd z (notup n2)⟩
  refine c_isi C (.ty "tuple") t.tyX kb_tt' ?_
  walk_at "ws"
  refine wE_callB C T.len (by walk_at "mem") boot_len (by rfl) (by rfl) ?_
  walk_at "ws"
  refine c_lenT C (SqT.of hp) ?_
  walk_at "ws"
  refine iteD (fun h12 => ?_) (fun h12 => ?_)
  · walk_at "ws"
    refine q H false (Ex.refl H) ⟨fun z => (Bool.noConfusion z), fun ⟨rs, h⟩ => ?_⟩
    obtain ⟨qs, rfl, pr⟩ := isRates_tup h hp
    obtain ⟨_, _, _, ro⟩ := h
    have l1 := ro.len
    have l2 := Paired.length pr
    rw [List.length_map] at h12
    omega
  walk_at "ws"
  refine wS_tup C (fun _ => rfl) ?_
  walk_at "ws"
  refine ⟨p, _, rfl, SqT.of hp, fun i σ H' => ∃ y rs, σ = [some (.ref p), y, none] ∧ H' = H ∧ Paired (IsR H) (xs.take i) rs,
    ⟨none, [], rfl, rfl, .nil⟩, ?_, ?_, ?_⟩
  · rintro i σ H' hi ⟨y, rs, rfl, rfl, _⟩
    exact SqT.of hp
  · rintro i y σ H' hi ⟨y0, rs, rfl, rfl, g⟩
    obtain ⟨⟨U2, t2⟩, tl2⟩ := tl p xs rfl hp y (List.mem_of_getElem? hi)
    have bad : (∀ r, ¬ IsR H' y r) → Q (.bl false) H' := fun n => q H' false (Ex.refl H') ⟨fun z => (Bool.noConfusion z), fun ⟨rs2, h⟩ => by
      exfalso
      obtain ⟨qs, rfl, pr⟩ := isRates_tup h hp
      obtain ⟨_, _, _, ro⟩ := h
      obtain ⟨q0, r, rfl, hr0, hq⟩ := Tab.at (K := K) pr hi
      exact n r ⟨q0, rfl, hq, ro.ok r (List.mem_of_getElem? hr0)⟩⟩
    refine wG_name C (by walk_at "mem") ?_
    walk_at "ws"
    refine wS_if ?_
    walk_at "ws"
    refine wE_callB C T.isinstance (by walk_at "mem") boot_isinstance (by rfl) (by rfl) ?_
    walk_at "ws"
    refine wE_bltn (v := .ty "tuple") C T.tuple (by walk_at "mem") boot_tuple rfl ?_
    walk_at "ws"
    rcases t2.tupK with ⟨rfl, a, ys, rfl, ha⟩ | ⟨n1, n2⟩
    rotate_left
    · have e := kit_tuple U2 t2.odd
      rw [decide_eq_false n1] at e
      refine c_isi C (.ty "tuple") t2.tyX e ?_
      walk_at "ws"
      exact bad fun r ⟨q0, e1, hq, _⟩ => n2 q0 _ e1 hq
    refine c_isi C (.ty "tuple") t2.tyX kb_tt' ?_
    walk_at "ws"
    refine wE_callB C T.len (by walk_at "mem") boot_len (by rfl) (by rfl) ?_
    walk_at "ws"
    refine c_lenT C (SqT.of ha) ?_
    walk_at "ws"
    by_cases h4 : ys.length = 4
    rotate_left
    · refine iteDT (by omega) ?_
      walk_at "ws"
      refine bad fun r ⟨q0, e1, hq, _⟩ => ?_
      cases e1
      rw [ha] at hq
      have := Option.some.inj hq
      injection this with this
      rw [this] at h4
      exact h4 rfl
    refine iteDF (by rw [h4]; decide) ?_
    obtain ⟨x0, x1, x2, x3, rfl⟩ := four h4
    have l0 := tl2 a _ rfl ha x0 (by simp)
    have l1 := tl2 a _ rfl ha x1 (by simp)
    have l2 := tl2 a _ rfl ha x2 (by simp)
    have l3 := tl2 a _ rfl ha x3 (by simp)
    walk_at "ws"
    refine wE_call C DW (by walk_at "mem") (by decide) (by rfl) (by rfl) ?_
    walk_at "ws"
    refine ⟨x0, 1, 3, rfl, l0, ?_⟩
    walk_at "ws"
    refine iteB (fun k0 => ?_) (fun k0 => ?_)
    · walk_at "ws"
      exact bad fun r ir => absurd (isR_all ha ir).1 (isF (nb k0))
    walk_at "ws"
    refine wE_call C DW (by walk_at "mem") (by decide) (by rfl) (by rfl) ?_
    walk_at "ws"
    refine ⟨x1, 0, 59, rfl, l1, ?_⟩
    walk_at "ws"
    refine iteB (fun k1 => ?_) (fun k1 => ?_)
    · walk_at "ws"
      exact bad fun r ir => absurd (isR_all ha ir).2.1 (isF (nb k1))
    walk_at "ws"
    refine wS_if ?_
    walk_at "ws"
    refine wE_call C DW (by walk_at "mem") (by decide) (by rfl) (by rfl) ?_
    walk_at "ws"
    refine ⟨x2, 1, 1000000, rfl, l2, ?_⟩
    walk_at "ws"
    refine iteB (fun k2 => ?_) (fun k2 => ?_)
    · walk_at "ws"
      exact bad fun r ir => absurd (isR_all ha ir).2.2.1 (isF (nb k2))
    walk_at "ws"
    refine wE_call C DW (by walk_at "mem") (by decide) (by rfl) (by rfl) ?_
    walk_at "ws"
    refine ⟨x3, 1, 1000000, rfl, l3, ?_⟩
    walk_at "ws"
    refine iteB (fun k3 => ?_) (fun k3 => ?_)
    · walk_at "ws"
      exact bad fun r ir => absurd (isR_all ha ir).2.2.2 (isF (nb k3))
    walk_at "ws"
    obtain ⟨r, ir⟩ := isR_of ha (nt k0) (nt k1) (nt k2) (nt k3)
    refine ⟨_, rs ++ [r], rfl, rfl, ?_⟩
    rw [List.take_add_one, hi]
    exact paired_snoc g ir
  · rintro σ H' ⟨y0, rs, rfl, rfl, g⟩
    rw [List.take_length] at g
    obtain ⟨qs, rfl, pr, ro⟩ := isR_pair g
    have hl : qs.length = rs.length := Paired.length pr
    rw [List.length_map] at h12
    walk_at "st"
    refine wS_lcT [("_law_row", 1)] ["_law_row"] ["_law_row"] [] C (by decide +kernel) (by decide +kernel) (by decide +kernel) (by rfl) (by walk_at "mem") (by decide +kernel) (by rfl) (by decide +kernel) (fun _ => rfl) ?_
    walk_at "ws"
    refine ⟨p, _, rfl, SqT.of hp, fun D hD => ⟨fun i H2 => ∃ as : List Addr, H2 D = some (.lst (as.map V.ref)) ∧ Paired (fun a r => H2 a = some (.tup [.int r.1, .int r.2.1])) as (rs.take i) ∧ Ex H' H2, ⟨[], upd_same, .nil, Ex.upd hD⟩, ?_, ?_, ?_⟩⟩
    · rintro i H2 _ ⟨as, hq, pq, e2⟩
      exact SqT.of (e2 _ _ hp)
    · rintro i x H2 hx ⟨as, hq, pq, e2⟩
      obtain ⟨q0, r, rfl, hr0, hq0⟩ := Tab.at (K := K) pr hx
      have hq' : H2 q0 = some (.tup [.int r.1, .int r.2.1, .int r.2.2.1, .int r.2.2.2]) := e2 _ _ hq0
      intro X1 C1
      show wG X1 _ _ [some (.ref p), none, none] H2 _
      refine wG_name C1 (by walk_at "mem") ?_
      walk_at "ws"
      refine ⟨rfl, ?_⟩
      refine blkT_nil (iteT ?_)
      intro X2 C2
      clear C1 C
      walk_at "ws"
      refine slq_i (SqT.of hq') nf2 cut_to2 fun p3 H3 hp3 e3 h3 => ?_
      have la : as.length ≤ 12 := by
        have z := Paired.length pq
        rw [List.length_take] at z
        omega
      have n3 : p3 ≠ D := (ne_of_none hq hp3).symm
      refine ⟨as.map V.ref, e3 _ _ hq, by rw [List.length_map, sizeLine_eq]; omega, as ++ [p3], by rw [upd_same, List.map_append]; rfl, ?_, ?_⟩
      · rw [List.take_add_one, hr0]
        refine paired_snoc (Paired.mapP pq fun a r z => ?_) ?_
        · rw [upd_ne (ne_of (e3 _ _ z) (e3 _ _ hq) (by intro z; cases z))]; exact e3 _ _ z
        · rw [upd_ne n3]; exact h3
      · exact (e2.trans e3).mut hD Exb.upd
    rintro H2 ⟨as, hq, pq, e2⟩
    rw [List.length_map, hl, List.take_length] at pq
    have la : as.length = rs.length := Paired.length pq
    walk_at "ws"
    refine wE_callB C ts (by walk_at "mem") boot_sorted (by rfl) (by rfl) ?_
    walk_at "ws"
    refine wE_callT C te (by walk_at "mem") (by rfl) (by rfl) (by rfl) ?_
    walk_at "ws"
    obtain ⟨ks, k1, k2, k3⟩ : ∃ ks : List (Addr × List Int), ks.map (fun p => V.ref p.1) = as.map V.ref ∧ (∀ p ∈ ks, H2 p.1 = some (.tup (p.2.map V.int))) ∧ ks.map (·.2) = rs.map keyR := by
      clear hq hl ro pr q notup tl e2 la g
      induction pq with
      | nil => exact ⟨[], rfl, (fun p h => by cases h), rfl⟩
      | @cons a r as rs z t ih =>
        obtain ⟨ks, h1, h2, h3⟩ := ih
        refine ⟨(a, keyR r) :: ks, by rw [List.map_cons, List.map_cons, h1], fun p hp => ?_, by rw [List.map_cons, List.map_cons, h3]⟩
        rcases List.mem_cons.mp hp with e | m
        · rw [e]; exact z
        · exact h2 p m
    have kl : ks.length = rs.length := by have z := congrArg List.length k3; rwa [List.length_map, List.length_map] at z
    have kz : ∀ p ∈ ks, ∃ r ∈ rs, p.2 = keyR r := fun p hp => by
      have z : p.2 ∈ rs.map keyR := by rw [← k3]; exact List.mem_map.mpr ⟨p, hp, rfl⟩
      obtain ⟨r, mr, e⟩ := List.mem_map.mp z
      exact ⟨r, mr, e.symm⟩
    rw [← k1] at hq
    refine c_setT C (SqL.of hq) (fun p hp => SqT.of (k2 p hp)) (by omega) fun a L H3 ha e3 hS s1 s2 => ?_
    walk_at "ws"
    refine c_sortedT (d := 2) (B := 64) C hS (fun p hp => SqT.of (e3 _ _ (k2 p (s1 p hp)))) (by decide) (fun p hp => ?_) fun L' p4 H4 pm nd pw hp4 e4 h4 => ?_
    · obtain ⟨r, mr, e⟩ := kz p (s1 p hp)
      rw [e]
      exact ⟨rfl, bd_key (ro r mr)⟩
    walk_at "ws"
    have m' : ∀ x, x ∈ L' → H4 x.1 = some (.tup (x.2.map V.int)) := fun x hx => e4 _ _ (e3 _ _ (k2 x (s1 x (pm.mem_iff.mp hx))))
    have pl : ∀ L0 : List (Addr × List Int), (∀ x ∈ L0, H4 x.1 = some (.tup (x.2.map V.int))) → Paired (fun q ns => SqT K H4 q (ns.map V.int)) (L0.map (·.1)) (L0.map (·.2)) := fun L0 => by
      induction L0 with
      | nil => exact fun _ => .nil
      | cons x L0 ih => exact fun h => .cons (SqT.of (h x List.mem_cons_self)) (ih fun y hy => h y (List.mem_cons_of_mem _ hy))
    refine o_eqRows (qs := ks.map (·.1)) (ps := L'.map (·.1)) (ns := ks.map (·.2)) (ms := L'.map (·.2)) C (SqL.of (by rw [List.map_map]; exact e4 _ _ (e3 _ _ hq))) (pl ks fun x hx => e4 _ _ (e3 _ _ (k2 x hx))) (SqL.of (by rw [List.map_map]; exact h4)) (pl L' m') ?_
    walk_at "ws"
    have kr := keys_rise ro nd (List.pairwise_map.mpr pw) (fun n hn => by
      obtain ⟨x, hx, rfl⟩ := List.mem_map.mp hn
      rw [← k3]
      exact List.mem_map.mpr ⟨x, s1 x (pm.mem_iff.mp hx), rfl⟩) (fun n hn => by
      rw [← k3] at hn
      obtain ⟨x, hx, rfl⟩ := List.mem_map.mp hn
      obtain ⟨y, hy, e⟩ := List.mem_map.mp (s2 x hx)
      exact List.mem_map.mpr ⟨y, pm.mem_iff.mpr hy, e⟩)
    refine q H4 _ ((e2.trans e3).trans e4) ⟨fun h => ?_, fun ⟨ss, h⟩ => ?_⟩
    · have h := of_decide_eq_true h
      rw [k3] at h
      exact ⟨rs, p, rfl, ⟨qs, hp, pr⟩, ⟨by omega, ro, kr.mp h⟩⟩
    · apply decide_eq_true
      rw [k3]
      refine kr.mpr ?_
      obtain ⟨qs2, e, pr2⟩ := isRates_tup h hp
      obtain ⟨_, _, _, o2⟩ := h
      have e : qs = qs2 := List.map_inj_right (fun a b h => by cases h; rfl) |>.mp e
      subst e
      rw [pair_eq pr ro o2.ok pr2]
      exact o2.up
end
/-! ### rates with one thing otherwise -/
local macro_rules | `(tactic| walk_at "w1") => `(tactic| first
  | with_reducible refine wE_slToH (by assumption) ?_
  | with_reducible refine wE_slFromH (by assumption) ?_
  | with_reducible refine wE_revT (by assumption) ?_)
def RowB (K : PySem.W.Frag) (H : Hp) (v : V) : Prop := Th2 H v ∧ ∃ d, Dq K H v d ∧ d.showable = true ∧ d.depth ≤ 10 ∧ d.shown.length ≤ 200 ∧ d.hasDict = false
def Thin (K : PySem.W.Frag) (H : Hp) (v : V) : Prop := Th3 H v ∧ ∃ d, Shw K H v d 7000
theorem RowB.n {K : PySem.W.Frag} {H H' : Hp} {v : V} (h : RowB K H v) (e : LamX.ExtN H H') : RowB K H' v := let ⟨a, d, b, c⟩ := h; ⟨a.n e, d, b.n e, c⟩
theorem Thin.n {K : PySem.W.Frag} {H H' : Hp} {v : V} (h : Thin K H v) (e : LamX.ExtN H H') : Thin K H' v := let ⟨a, d, b⟩ := h; ⟨a.n e, d, b.n e⟩
theorem rowb_tup {K : PySem.W.Frag} {H : Hp} {a : Addr} {xs : List V} (h : H a = some (.tup xs)) (l : xs.length ≤ 4) (s : SmL K H false xs) : RowB K H (.ref a) := by
  refine ⟨⟨⟨_, .tup h⟩, fun b ys e g x hx => ?_⟩, ?_⟩
  · cases e; rw [h] at g; cases g; exact (s x hx).1
  · obtain ⟨ds, d1, d2, d3, d4, d5, d6⟩ := s.all
    refine ⟨.tuple ds, .tup (.of h) d1, by rw [PyData.showable]; exact d2, by rw [PyData.depth]; omega, ?_, by rw [PyData.hasDict]; exact d6⟩
    rw [PyData.shown]
    have := tupText_le (PyData.shownAll ds)
    omega
theorem rowb_lst {K : PySem.W.Frag} {H : Hp} {a : Addr} {xs : List V} (h : H a = some (.lst xs)) (l : xs.length ≤ 4) (s : SmL K H false xs) : RowB K H (.ref a) := by
  refine ⟨⟨⟨_, .lst h⟩, fun b ys e g x hx => ?_⟩, ?_⟩
  · cases e; rw [h] at g; cases g
  · obtain ⟨ds, d1, d2, d3, d4, d5, d6⟩ := s.all
    refine ⟨.list ds, .lst (.of h) d1, by rw [PyData.showable]; exact d2, by rw [PyData.depth]; omega, ?_, by rw [PyData.hasDict]; exact d6⟩
    rw [PyData.shown]
    have := listText_le (PyData.shownAll ds)
    omega
theorem rowb_non {K : PySem.W.Frag} {H : Hp} : RowB K H .non := ⟨⟨⟨_, .non⟩, fun _ _ e => by cases e⟩, .none, .non, rfl, by decide, by decide +kernel, rfl⟩
theorem rowb_all {K : PySem.W.Frag} {H : Hp} : ∀ {xs : List V}, (∀ v ∈ xs, RowB K H v) → ∃ ds, DqAll K H xs ds ∧ PyData.showableAll ds = true ∧ PyData.depthAll ds ≤ 10 ∧ piled (PyData.shownAll ds) ≤ 202 * xs.length ∧ PyData.hasDictAll ds = false
  | [], _ => ⟨[], .nil, rfl, Nat.zero_le _, Nat.zero_le _, rfl⟩
  | v :: xs, h => by
    obtain ⟨ds, a, b, c, f, g⟩ := rowb_all (xs := xs) fun y hy => h y (List.mem_cons_of_mem _ hy)
    obtain ⟨_, d, dq, s1, s2, s3, s4⟩ := h v List.mem_cons_self
    refine ⟨d :: ds, .cons dq a, by rw [PyData.showableAll, s1, b]; rfl, ?_, ?_, ?_⟩
    · rw [PyData.depthAll]; omega
    · rw [PyData.shownAll, piled_cons, List.length_cons]; omega
    · rw [PyData.hasDictAll, s4, g]; rfl
theorem thin_tup {K : PySem.W.Frag} {H : Hp} {a : Addr} {xs : List V} (h : H a = some (.tup xs)) (l : xs.length ≤ 30) (r : ∀ x ∈ xs, RowB K H x) : Thin K H (.ref a) := by
  refine ⟨⟨⟨_, .tup h⟩, fun b ys e g x hx => ?_⟩, ?_⟩
  · cases e; rw [h] at g; cases g; exact (r x hx).1
  · obtain ⟨ds, d1, d2, d3, d5, d6⟩ := rowb_all r
    refine ⟨.tuple ds, .tup (.of h) d1, by rw [PyData.showable]; exact d2, by rw [PyData.depth]; omega, ?_, .inl (by rw [PyData.hasDict]; exact d6)⟩
    rw [PyData.shown]
    have := tupText_le (PyData.shownAll ds)
    omega
theorem thin_lst {K : PySem.W.Frag} {H : Hp} {a : Addr} {xs : List V} (h : H a = some (.lst xs)) (l : xs.length ≤ 30) (r : ∀ x ∈ xs, RowB K H x) : Thin K H (.ref a) := by
  refine ⟨⟨⟨_, .lst h⟩, fun b ys e g x hx => ?_⟩, ?_⟩
  · cases e; rw [h] at g; cases g
  · obtain ⟨ds, d1, d2, d3, d5, d6⟩ := rowb_all r
    refine ⟨.list ds, .lst (.of h) d1, by rw [PyData.showable]; exact d2, by rw [PyData.depth]; omega, ?_, .inl (by rw [PyData.hasDict]; exact d6)⟩
    rw [PyData.shown]
    have := listText_le (PyData.shownAll ds)
    omega
/-- nothing in it that has anything in it -/
def Fla (H : Hp) (v : V) : Prop := ∀ a xs, v = .ref a → H a = some (.tup xs) → ∀ x ∈ xs, ∀ b, x ≠ .ref b
theorem flaT {H : Hp} {a : Addr} {xs : List V} (h : H a = some (.tup xs)) (n : ∀ x ∈ xs, ∀ b, x ≠ .ref b) : Fla H (.ref a) := fun b ys e g => by cases e; rw [h] at g; cases g; exact n
theorem thin_od {K : PySem.W.Frag} {H : Hp} {v : V} (h : Od K H v) (f : Fla H v) : Thin K H v := by
  refine ⟨⟨h.th, fun a xs e g x hx => ⟨h.tl a xs e g x hx, fun b ys e2 _ => absurd e2 (f a xs e g x hx b)⟩⟩, ?_⟩
  obtain ⟨m, s⟩ := h.sm
  obtain ⟨d, a1, a2, a3, a4, a5⟩ := shw_sml s
  exact ⟨d, a1, a2, a3, by omega, a5⟩
theorem sml4 {K : PySem.W.Frag} {H : Hp} {a b c d : Int} (ha : 0 ≤ a ∧ a ≤ 2000000) (hb : 0 ≤ b ∧ b ≤ 2000000) (hc : 0 ≤ c ∧ c ≤ 2000000) (hd : 0 ≤ d ∧ d ≤ 2000000) : SmL K H false [.int a, .int b, .int c, .int d] :=
  .cons ⟨_, .int _⟩ (sml_int ha.1 (by omega)) (.cons ⟨_, .int _⟩ (sml_int hb.1 (by omega)) (.cons ⟨_, .int _⟩ (sml_int hc.1 (by omega)) (.cons ⟨_, .int _⟩ (sml_int hd.1 (by omega)) .nil)))
theorem tab_rows {K : PySem.W.Frag} {H : Hp} {t : Addr} {rs : List Rt} (h : Tab K H t rs) (o : RatesOk rs) : ∃ xs, H t = some (.tup xs) ∧ xs.length = rs.length ∧ ∀ x ∈ xs, ∃ a r, x = .ref a ∧ H a = some (.tup (rtV r)) ∧ r.Ok := by
  obtain ⟨qs, hp, pr⟩ := h
  refine ⟨_, hp, by rw [List.length_map]; exact Paired.length pr, fun x hx => ?_⟩
  obtain ⟨i, hi⟩ := List.getElem?_of_mem hx
  obtain ⟨q0, r, rfl, hr0, hq⟩ := Tab.at (K := K) pr hi
  exact ⟨q0, r, rfl, hq, o.ok r (List.mem_of_getElem? hr0)⟩
theorem rowb_rt {K : PySem.W.Frag} {H : Hp} {a : Addr} {r : Rt} (h : H a = some (.tup (rtV r))) (o : r.Ok) : RowB K H (.ref a) := by
  have o1 := o.m1; have o2 := o.m2; have o3 := o.d1; have o4 := o.d2; have o5 := o.t1; have o6 := o.t2; have o7 := o.b1; have o8 := o.b2
  exact rowb_tup h (Nat.le_refl _) (sml4 (by omega) (by omega) (by omega) (by omega))
/-- all stays but b and D -/
def Exc (b D : Addr) (H H' : Hp) : Prop := ∀ a o, a ≠ b → a ≠ D → H a = some o → H' a = some o
theorem Exb.exc {b D : Addr} {H H' H2 : Hp} (e : Exb b H H') (x : Exc b D H' H2) : Exc b D H H2 := fun a o n m h => x a o n m (e a o n h)
def spOdT (K : PySem.W.Frag) : Sp := fun vs H Q _ => ∃ (b : Addr) (n m : Int), vs = [.ref b] ∧ H b = some (.lst [.int n, .int m]) ∧ ∀ v n' m' H', (∀ D l HZ, H D = some (.lst l) → Exc b D H' HZ → Od K HZ v ∧ Fla HZ v) → H' b = some (.lst [.int n', .int m']) → Exb b H H' → Q v H'
theorem o_pow29 {X : Cx} {H : Hp} {Q : VK} (q : Q (.int 100000000000000000000000000000) H) : wO X (binaryOp .Pow) (.int 10) (.int 29) H Q := o_pow (by decide) (by decide) (by decide) (by rw [show ((10 : Int) ^ (29 : Int).toNat) = 100000000000000000000000000000 by decide]; exact q)
section
variable {P : Program} {w : World} {K : PySem.W.Frag} {mg : Str → Option Value} {base : Heap} {f C0 CN : Addr} {fd : FuncData}
theorem p_odT (F : Fn K "_law_odd" "_law_odd" s__law_odd f fd) (DT : Df P w K mg base 2 "_law_take" ["_law_box_here", "_law_count"] [] spTake) : FnOk P w K mg base CX0 3 f fd ["_law_box_here"] (spOdT K) := by
  refine fn_w F sc__law_odd ok__law_odd (fun vs H Q E h => by obtain ⟨b, n, m, rfl, hb, q⟩ := h; rfl) (fun X vs H Q E C h => ?_)
  obtain ⟨b, n, m, rfl, hb, q⟩ := h
  show wB X _ _ [some (.ref b), none] H
  first | refine wB_one ?_ | refine wB_cons' fun _ _ => ?_
  walk_at "ws"
  refine wE_un ?_
  walk_at "ws"
  refine o_neg ?_
  walk_at "ws"
  refine o_pow29 ?_
  walk_at "ws"
  refine ⟨(by show 0 ≤ sizeLine; decide), fun p1 H1 hp1 e1 g1 => ?_⟩
  walk_at "ws"
  refine ⟨(by show 0 ≤ sizeLine; decide), fun p2 H2 hp2 e2 g2 => ?_⟩
  walk_at "ws"
  refine wE_dnewK fun p3 H3 hp3 e3 g3 => ?_
  walk_at "ws"
  refine ⟨(by show 1 ≤ sizeLine; decide), fun p4 H4 hp4 e4 g4 => ?_⟩
  walk_at "ws"
  refine ⟨(by show 1 ≤ sizeLine; decide), fun p5 H5 hp5 e5 g5 => ?_⟩
  walk_at "ws"
  refine ⟨(by show 18 ≤ sizeLine; decide), fun p6 H6 hp6 e6 g6 => ?_⟩
  walk_at "ws"
  refine ⟨(by show 1 ≤ sizeLine; decide), fun p7 H7 hp7 e7 g7 => ?_⟩
  walk_at "ws"
  refine wE_disp1 fun p8 H8 hp8 e8 g8 => ?_
  walk_at "ws"
  refine ⟨g8, .inl 0, rfl, fun H9 e9 g9 => ?_⟩
  walk_at "ws"
  refine ⟨(by show 2 ≤ sizeLine; decide), fun p10 H10 hp10 e10 g10 => ?_⟩
  walk_at "ws"
  have e79 : Ex H7 H9 := e8.mut hp8 e9
  have l6 := e10 _ _ (e79 _ _ (e7 _ _ g6))
  refine o_catL l6 g10 (by show 18 + 2 ≤ sizeLine; decide) fun p11 H11 hp11 e11 g11 => ?_
  have e6a : Ex H6 H11 := ((e7.trans e79).trans e10).trans e11
  have x1 := e6a _ _ (e6 _ _ (e5 _ _ (e4 _ _ (e3 _ _ (e2 _ _ g1)))))
  have x2 := e6a _ _ (e6 _ _ (e5 _ _ (e4 _ _ (e3 _ _ g2))))
  have x3 := e6a _ _ (e6 _ _ (e5 _ _ (e4 _ _ g3)))
  have x4 := e6a _ _ (e6 _ _ (e5 _ _ g4))
  have x5 := e6a _ _ (e6 _ _ g5)
  have x7 := e11 _ _ (e10 _ _ (e79 _ _ g7))
  have x9 := e11 _ _ (e10 _ _ g9)
  have ea : Ex H H11 := (((((e1.trans e2).trans e3).trans e4).trans e5).trans e6).trans e6a
  have hb' := ea _ _ hb
  have m1 : ∀ D l, H D = some (.lst l) → p1 ≠ D := fun D l hb => ne_fresh hp1 hb
  have n1 : p1 ≠ b := m1 b _ hb
  have m2 : ∀ D l, H D = some (.lst l) → p2 ≠ D := fun D l hb => ne_fresh hp2 (e1 _ _ hb)
  have n2 : p2 ≠ b := m2 b _ hb
  have m3 : ∀ D l, H D = some (.lst l) → p3 ≠ D := fun D l hb => ne_fresh hp3 (e2 _ _ (e1 _ _ hb))
  have n3 : p3 ≠ b := m3 b _ hb
  have m4 : ∀ D l, H D = some (.lst l) → p4 ≠ D := fun D l hb => ne_fresh hp4 (e3 _ _ (e2 _ _ (e1 _ _ hb)))
  have n4 : p4 ≠ b := m4 b _ hb
  have m5 : ∀ D l, H D = some (.lst l) → p5 ≠ D := fun D l hb => ne_fresh hp5 (e4 _ _ (e3 _ _ (e2 _ _ (e1 _ _ hb))))
  have n5 : p5 ≠ b := m5 b _ hb
  have hb6 : ∀ D l, H D = some (.lst l) → H6 D = some (.lst l) := fun D l hb => e6 _ _ (e5 _ _ (e4 _ _ (e3 _ _ (e2 _ _ (e1 _ _ hb)))))
  have m7 : ∀ D l, H D = some (.lst l) → p7 ≠ D := fun D l hb => ne_fresh hp7 (hb6 D l hb)
  have n7 : p7 ≠ b := m7 b _ hb
  have m8 : ∀ D l, H D = some (.lst l) → p8 ≠ D := fun D l hb => ne_fresh hp8 (e7 _ _ (hb6 D l hb))
  have n8 : p8 ≠ b := m8 b _ hb
  have m11 : ∀ D l, H D = some (.lst l) → p11 ≠ D := fun D l hb => ne_fresh hp11 (e10 _ _ (e79 _ _ (e7 _ _ (hb6 D l hb))))
  have n11 : p11 ≠ b := m11 b _ hb
  clear hp1 e1 g1 hp2 e2 g2 hp3 e3 g3 hp4 e4 g4 hp5 e5 g5 hp6 e6 g6 hp7 e7 g7 hp8 e8 g8 e9 g9 hp10 e10 g10 e79 l6 hp11 e11 e6a hb6
  walk_at "ws"
  refine wE_call C DT (by walk_at "mem") (by decide) (by rfl) (by rfl) ?_
  walk_at "ws"
  refine ⟨b, _, _, 20, rfl, (by walk_at "hk"), by decide, by decide, fun dA nA mA HA dA0 dA1 hbA exA => ?_⟩
  walk_at "ws"
  have key : ∀ D l HZ, H D = some (.lst l) → Exc b D H11 HZ → ∀ v ∈ (([.non, .bl true, .bl false, .int 0, .int (-1), .int 7, .int 60, .int (1000000 + 1), .int 100000000000000000000000000000, .str "", .str "meal", .str "Meal", .str "let", .ref p1, .ref p2, .ref p3, .ref p4, .ref p5] ++ [.ref p7, .ref p8]) : List V), Od K HZ v ∧ Fla HZ v := by
    intro D l HZ hD exZ
    have y1 := exZ _ _ n1 (m1 D l hD) x1
    have y2 := exZ _ _ n2 (m2 D l hD) x2
    have y3 := exZ _ _ n3 (m3 D l hD) x3
    have y4 := exZ _ _ n4 (m4 D l hD) x4
    have y5 := exZ _ _ n5 (m5 D l hD) x5
    have y7 := exZ _ _ n7 (m7 D l hD) x7
    have y8 := exZ _ _ n8 (m8 D l hD) x9
    have dI : ∀ i : Int, smD false (.int i) = true → Od K HZ (.int i) ∧ Fla HZ (.int i) := fun i h => ⟨Od.flat false ⟨_, .int i⟩ (fun _ z => by cases z) (.int i) h, fun _ _ z => by cases z⟩
    have dS : ∀ z : Str, smD false (.str z) = true → Od K HZ (.str z) ∧ Fla HZ (.str z) := fun i h => ⟨Od.flat false ⟨_, .str i⟩ (fun _ z => by cases z) (.str i) h, fun _ _ z => by cases z⟩
    have dB : ∀ z : Bool, Od K HZ (.bl z) ∧ Fla HZ (.bl z) := fun z => ⟨Od.flat false ⟨_, .bl z⟩ (fun _ z => by cases z) (.bl z) (by cases z <;> decide +kernel), fun _ _ z => by cases z⟩
    have dT : ∀ {a : Addr} {xs : List V}, HZ a = some (.tup xs) → (∀ x ∈ xs, Pl HZ x) → ∀ ys, HZ a = some (.tup ys) → ∀ x ∈ ys, Pl HZ x := fun {a xs} h g ys h2 => by rw [h] at h2; cases h2; exact g
    exact
      (all2 ⟨Od.flat false ⟨_, .non⟩ (fun _ z => by cases z) .non (by decide +kernel), fun _ _ z => by cases z⟩ (all2 (dB _) (all2 (dB _) (all2 (dI _ (by decide +kernel)) (all2 (dI _ (by decide +kernel)) (all2 (dI _ (by decide +kernel)) (all2 (dI _ (by decide +kernel)) (all2 (dI _ (by decide +kernel)) (all2 (dI _ (by decide +kernel))
      (all2 (dS _ (by decide +kernel)) (all2 (dS _ (by decide +kernel)) (all2 (dS _ (by decide +kernel)) (all2 (dS _ (by decide +kernel))
      (all2 ⟨Od.ofR false ⟨_, .tup y1⟩ (dT y1 fun x h => by cases h) (.tup (.of y1) .nil) (by decide +kernel), flaT y1 (by simp)⟩
      (all2 ⟨Od.ofR false ⟨_, .lst y2⟩ (fun xs h => by rw [y2] at h; cases h) (.lst (.of y2) .nil) (by decide +kernel), fun a xs e g => by cases e; rw [y2] at g; cases g⟩
      (all2 ⟨Od.ofR true ⟨_, .dct y3⟩ (fun xs h => by rw [y3] at h; cases h) (.dct (ds := []) y3 .nil) (by decide +kernel), fun a xs e g => by cases e; rw [y3] at g; cases g⟩
      (all2 ⟨Od.ofR false ⟨_, .tup y4⟩ (dT y4 fun x h => by rw [List.mem_singleton.mp h]; exact ⟨_, .int _⟩) (.tup (.of y4) (.cons (.int _) .nil)) (by decide +kernel), flaT y4 (by simp)⟩
      (all2 ⟨Od.ofR false ⟨_, .lst y5⟩ (fun xs h => by rw [y5] at h; cases h) (.lst (.of y5) (.cons (.int _) .nil)) (by decide +kernel), fun a xs e g => by cases e; rw [y5] at g; cases g⟩
      (all2 ⟨Od.ofR false ⟨_, .tup y7⟩ (dT y7 fun x h => by rw [List.mem_singleton.mp h]; exact ⟨_, .str _⟩) (.tup (.of y7) (.cons (.str _) .nil)) (by decide +kernel), flaT y7 (by simp)⟩
      (all1 ⟨Od.ofR true ⟨_, .dct y8⟩ (fun xs h => by rw [y8] at h; cases h) (.dct (ds := [.int 1]) y8 (.cons (.int _) .nil)) (by decide +kernel), fun a xs e g => by cases e; rw [y8] at g; cases g⟩))))))))))))))))))))
  have y11 := exA _ _ n11 g11
  obtain ⟨v, hv, hT⟩ := pick dA0 (xs := [.non, .bl true, .bl false, .int 0, .int (-1), .int 7, .int 60, .int (1000000 + 1), .int 100000000000000000000000000000, .str "", .str "meal", .str "Meal", .str "let", .ref p1, .ref p2, .ref p3, .ref p4, .ref p5] ++ [.ref p7, .ref p8]) (by show dA < 20; exact dA1) (fun v => ∀ D l HZ, H D = some (.lst l) → Exc b D HA HZ → Od K HZ v ∧ Fla HZ v) (fun v hv D l HZ hD e => key D l HZ hD (exA.exc e) v hv)
  refine i_list C (fun _ _ => rfl) (SqL.of y11) hv ?_
  walk_at "ws"
  exact q v _ _ HA hT hbA (ea.toB.trans exA)
end
local macro_rules | `(tactic| walk_at "w1") => `(tactic| first
  | with_reducible refine wE_slToH (by assumption) ?_
  | with_reducible refine wE_slFromH (by assumption) ?_
  | with_reducible refine wE_revT (by assumption) ?_)
def spBent (K : PySem.W.Frag) : Sp := fun vs H Q _ => ∃ (b t : Addr) (n m : Int) (rs : List Rt), vs = [.ref b, .ref t] ∧ H b = some (.lst [.int n, .int m]) ∧ Tab K H t rs ∧ RatesOk rs ∧ ∀ v n' m' H', (∀ D l HZ, D ≠ b → H D = some (.lst l) → Exc b D H' HZ → Thin K HZ v) → H' b = some (.lst [.int n', .int m']) → Exb b H H' → Q v H'
theorem le_to {n : Nat} {d : Int} (h : d < (n : Int) + 1) : d ≤ n := by omega
def Row4 (H : Hp) (a : Addr) : Prop := ∃ w x y z : Int, H a = some (.tup [.int w, .int x, .int y, .int z]) ∧ (0 ≤ w ∧ w ≤ 2000000) ∧ (0 ≤ x ∧ x ≤ 2000000) ∧ (0 ≤ y ∧ y ≤ 2000000) ∧ 0 ≤ z ∧ z ≤ 2000000
theorem Row4.rowb {K : PySem.W.Frag} {H : Hp} {a : Addr} (h : Row4 H a) : RowB K H (.ref a) := by
  obtain ⟨w, x, y, z, g, h1, h2, h3, h4⟩ := h
  exact rowb_tup g (Nat.le_refl _) (sml4 h1 h2 h3 h4)
theorem Row4.ex {H H' : Hp} {a : Addr} (h : Row4 H a) (e : Ex H H') : Row4 H' a := by
  obtain ⟨w, x, y, z, g, h1⟩ := h
  exact ⟨w, x, y, z, e _ _ g, h1⟩
theorem Row4.exc {H H' : Hp} {a b D : Addr} {ys zs : List V} (h : Row4 H a) (g : H b = some (.lst ys)) (g2 : H D = some (.lst zs)) (e : Exc b D H H') : Row4 H' a := by
  obtain ⟨w, x, y, z, h0, h1⟩ := h
  exact ⟨w, x, y, z, e _ _ (ne_of h0 g (by intro z; cases z)) (ne_of h0 g2 (by intro z; cases z)) h0, h1⟩
theorem Row4.up {H : Hp} {a D : Addr} {xs ys : List V} (h : Row4 H a) (g : H D = some (.lst xs)) : Row4 (upd H D (.lst ys)) a := by
  obtain ⟨w, x, y, z, h0, h1⟩ := h
  exact ⟨w, x, y, z, by rw [upd_ne (ne_of h0 g (by intro z; cases z))]; exact h0, h1⟩
section
variable {P : Program} {w : World} {K : PySem.W.Frag} {mg : Str → Option Value} {base : Heap} {f C0 CN : Addr} {fd : FuncData}
theorem p_bent (F : Fn K "_law_bent" "_law_bent" s__law_bent f fd) (T : Txt2 K mg) (tl : mg "list" = none) (DT : Df P w K mg base 2 "_law_take" ["_law_box_here", "_law_count"] [] spTake) (DO : Df P w K mg base 3 "_law_odd" ["_law_box_here"] [] (spOdT K)) : FnOk P w K mg base CX0 4 f fd ["_law_box_here", "_law_table"] (spBent K) := by
  refine fn_w F sc__law_bent ok__law_bent (fun vs H Q E h => by obtain ⟨b, t, n, m, rs, rfl, hb, ht, ro, q⟩ := h; rfl) (fun X vs H Q E C h => ?_)
  obtain ⟨b, t, n, m, rs, rfl, hb, ht, ro, q⟩ := h
  show wB X _ _ [some (.ref b), some (.ref t), none, none, none, none] H
  first | refine wB_one ?_ | refine wB_cons' fun _ _ => ?_
  walk_at "ws"
  obtain ⟨xs, hx, lx, hr⟩ := tab_rows ht ro
  have l12 := ro.len
  clear ht
  have tb : t ≠ b := ne_of hx hb (by intro z; cases z)
  refine wS_par C (by decide +kernel) (by decide +kernel) (by rfl) (by decide +kernel) (by rfl) (by rfl) (by rfl) (by rfl) ?_
  walk_at "ws"
  refine wE_call C DT (by walk_at "mem") (by decide) (by rfl) (by rfl) ?_
  walk_at "ws"
  refine wE_callB C T.len (by walk_at "mem") boot_len (by rfl) (by rfl) ?_
  walk_at "ws"
  refine c_lenT C (SqT.of hx) ?_
  walk_at "ws"
  refine ⟨b, _, _, _, rfl, hb, by omega, by omega, fun dA nA mA HA dA0 dA1 hbA exA => ?_⟩
  walk_at "ws"
  refine wE_call C DT (by walk_at "mem") (by decide) (by rfl) (by rfl) ?_
  walk_at "ws"
  refine ⟨b, _, _, 9, rfl, (by walk_at "hk"), by decide, by decide, fun dB nB mB HB dB0 dB1 hbB exB => ?_⟩
  walk_at "ws"
  refine ⟨_, _, rfl, ?_⟩
  walk_at "ws"
  refine ⟨(by show 4 ≤ sizeLine; decide), fun p1 H1 hp1 e1 g1 => ?_⟩
  walk_at "ws"
  refine ⟨(by show 4 ≤ sizeLine; decide), fun p2 H2 hp2 e2 g2 => ?_⟩
  walk_at "ws"
  refine ⟨(by show 4 ≤ sizeLine; decide), fun p3 H3 hp3 e3 g3 => ?_⟩
  walk_at "ws"
  refine ⟨(by show 4 ≤ sizeLine; decide), fun p4 H4 hp4 e4 g4 => ?_⟩
  walk_at "ws"
  refine ⟨(by show 4 ≤ sizeLine; decide), fun p5 H5 hp5 e5 g5 => ?_⟩
  walk_at "ws"
  refine ⟨(by show 4 ≤ sizeLine; decide), fun p6 H6 hp6 e6 g6 => ?_⟩
  walk_at "ws"
  refine ⟨(by show 6 ≤ sizeLine; decide), fun p7 H7 hp7 e7 g7 => ?_⟩
  walk_at "ws"
  refine ⟨(by show 3 ≤ sizeLine; decide), fun p8 H8 hp8 e8 g8 => ?_⟩
  walk_at "ws"
  refine ⟨(by show 4 ≤ sizeLine; decide), fun p9 H9 hp9 e9 g9 => ?_⟩
  walk_at "ws"
  refine ⟨(by show 4 ≤ sizeLine; decide), fun p10 H10 hp10 e10 g10 => ?_⟩
  walk_at "ws"
  refine ⟨(by show 4 ≤ sizeLine; decide), fun p11 H11 hp11 e11 g11 => ?_⟩
  walk_at "ws"
  refine ⟨(by show 5 ≤ sizeLine; decide), fun p12 H12 hp12 e12 g12 => ?_⟩
  walk_at "ws"
  refine o_catL (by walk_at "hk") g12 (by show 6 + 5 ≤ sizeLine; decide) fun p13 H13 hp13 e13 g13 => ?_
  walk_at "ws"
  have ex : Ex HB H13 := (((((((((((e1.trans e2).trans e3).trans e4).trans e5).trans e6).trans e7).trans e8).trans e9).trans e10).trans e11).trans e12).trans e13
  have xb : Exb b H HB := exA.trans exB
  have m9 : ∀ D l, HB D = some (.lst l) → p9 ≠ D := fun D l hb => ne_fresh hp9 (e8 _ _ (e7 _ _ (e6 _ _ (e5 _ _ (e4 _ _ (e3 _ _ (e2 _ _ (e1 _ _ hb))))))))
  have hb13 := ex _ _ hbB
  have x1 := (e13 _ _ (e12 _ _ (e11 _ _ (e10 _ _ (e9 _ _ (e8 _ _ (e7 _ _ (e6 _ _ (e5 _ _ (e4 _ _ (e3 _ _ (e2 _ _ g1))))))))))))
  have x2 := (e13 _ _ (e12 _ _ (e11 _ _ (e10 _ _ (e9 _ _ (e8 _ _ (e7 _ _ (e6 _ _ (e5 _ _ (e4 _ _ (e3 _ _ g2)))))))))))
  have x3 := (e13 _ _ (e12 _ _ (e11 _ _ (e10 _ _ (e9 _ _ (e8 _ _ (e7 _ _ (e6 _ _ (e5 _ _ (e4 _ _ g3))))))))))
  have x4 := (e13 _ _ (e12 _ _ (e11 _ _ (e10 _ _ (e9 _ _ (e8 _ _ (e7 _ _ (e6 _ _ (e5 _ _ g4)))))))))
  have x5 := (e13 _ _ (e12 _ _ (e11 _ _ (e10 _ _ (e9 _ _ (e8 _ _ (e7 _ _ (e6 _ _ g5))))))))
  have x6 := (e13 _ _ (e12 _ _ (e11 _ _ (e10 _ _ (e9 _ _ (e8 _ _ (e7 _ _ g6)))))))
  have x8 := (e13 _ _ (e12 _ _ (e11 _ _ (e10 _ _ (e9 _ _ g8)))))
  have x9 := (e13 _ _ (e12 _ _ (e11 _ _ (e10 _ _ g9))))
  have x10 := (e13 _ _ (e12 _ _ (e11 _ _ g10)))
  have x11 := (e13 _ _ (e12 _ _ g11))
  clear hp1 e1 hp2 e2 hp3 e3 hp4 e4 hp5 e5 hp6 e6 hp7 e7 hp8 e8 hp9 e9 hp10 e10 hp11 e11 hp12 e12 hp13 e13 g1 g2 g3 g4 g5 g6 g7 g8 g9 g10 g11 g12
  refine wE_call C DT (by walk_at "mem") (by decide) (by rfl) (by rfl) ?_
  walk_at "ws"
  refine ⟨b, _, _, 11, rfl, (by walk_at "hk"), by decide, by decide, fun dC nC mC HC dC0 dC1 hbC exC => ?_⟩
  walk_at "ws"
  have key : ∀ D l HZ, D ≠ b → H D = some (.lst l) → Exc b D H13 HZ → ∀ v ∈ (([.ref p1, .ref p2, .ref p3, .ref p4, .ref p5, .ref p6] ++ [.ref p8, .ref p9, .ref p10, .non, .ref p11]) : List V), RowB K HZ v := by
    intro D l HZ nD hD exZ
    have hDB := xb _ _ nD hD
    have hD13 := ex _ _ hDB
    have y1 := exZ _ _ (ne_of x1 hb13 (by intro z; cases z)) (ne_of x1 hD13 (by intro z; cases z)) x1
    have y2 := exZ _ _ (ne_of x2 hb13 (by intro z; cases z)) (ne_of x2 hD13 (by intro z; cases z)) x2
    have y3 := exZ _ _ (ne_of x3 hb13 (by intro z; cases z)) (ne_of x3 hD13 (by intro z; cases z)) x3
    have y4 := exZ _ _ (ne_of x4 hb13 (by intro z; cases z)) (ne_of x4 hD13 (by intro z; cases z)) x4
    have y5 := exZ _ _ (ne_of x5 hb13 (by intro z; cases z)) (ne_of x5 hD13 (by intro z; cases z)) x5
    have y6 := exZ _ _ (ne_of x6 hb13 (by intro z; cases z)) (ne_of x6 hD13 (by intro z; cases z)) x6
    have y8 := exZ _ _ (ne_of x8 hb13 (by intro z; cases z)) (ne_of x8 hD13 (by intro z; cases z)) x8
    have y9 := exZ _ _ (ne_of x9 hb13 (by intro z; cases z)) (m9 D l hDB) x9
    have y10 := exZ _ _ (ne_of x10 hb13 (by intro z; cases z)) (ne_of x10 hD13 (by intro z; cases z)) x10
    have y11 := exZ _ _ (ne_of x11 hb13 (by intro z; cases z)) (ne_of x11 hD13 (by intro z; cases z)) x11
    exact
      (all2 (rowb_tup y1 (by decide) (sml4 (by decide) (by decide) (by decide) (by decide))) (all2 (rowb_tup y2 (by decide) (sml4 (by decide) (by decide) (by decide) (by decide))) (all2 (rowb_tup y3 (by decide) (sml4 (by decide) (by decide) (by decide) (by decide))) (all2 (rowb_tup y4 (by decide) (sml4 (by decide) (by decide) (by decide) (by decide))) (all2 (rowb_tup y5 (by decide) (sml4 (by decide) (by decide) (by decide) (by decide))) (all2 (rowb_tup y6 (by decide) (.cons ⟨_, .int _⟩ (sml_int (by decide) (by decide)) (.cons ⟨_, .bl _⟩ sml_bl (.cons ⟨_, .int _⟩ (sml_int (by decide) (by decide)) (.cons ⟨_, .int _⟩ (sml_int (by decide) (by decide)) .nil))))) (all2 (rowb_tup y8 (by decide) (.cons ⟨_, .int _⟩ (sml_int (by decide) (by decide)) (.cons ⟨_, .int _⟩ (sml_int (by decide) (by decide)) (.cons ⟨_, .int _⟩ (sml_int (by decide) (by decide)) .nil)))) (all2 (rowb_lst y9 (by decide) (sml4 (by decide) (by decide) (by decide) (by decide))) (all2 (rowb_tup y10 (by decide) (sml4 (by decide) (by decide) (by decide) (by decide))) (all2 (rowb_non) (all1 (rowb_tup y11 (by decide) (sml4 (by decide) (by decide) (by decide) (by decide))))))))))))))
  have y13 := exC _ _ (ne_of g13 hb13 (by intro z; cases z)) g13
  obtain ⟨v, hv, hT⟩ := pick dC0 (xs := [.ref p1, .ref p2, .ref p3, .ref p4, .ref p5, .ref p6] ++ [.ref p8, .ref p9, .ref p10, .non, .ref p11]) (by show dC < 11; exact dC1) (fun v => ∀ D l HZ, D ≠ b → H D = some (.lst l) → Exc b D HC HZ → RowB K HZ v) (fun v hv D l HZ nD hD e => key D l HZ nD hD (exC.exc e) v hv)
  refine i_list C (fun _ _ => rfl) (SqL.of y13) hv ?_
  have xc : Exb b H HC := (xb.trans ex.toB).trans exC
  have hxC := xc _ _ tb hx
  have hrC : ∀ x ∈ xs, ∃ a r, x = V.ref a ∧ HC a = some (.tup (rtV r)) ∧ r.Ok := fun x h => by
    obtain ⟨a, r, e, h1, h2⟩ := hr x h
    exact ⟨a, r, e, xc _ _ (ne_of h1 hb (by intro z; cases z)) h1, h2⟩
  clear x1 x2 x3 x4 x5 x6 x8 x9 x10 x11 key m9 g13 y13 hv ex xb hb13 hbA hbB exA exB hx hr
  walk_at "ws"
  refine wS_if ?_
  walk_at "ws"
  have rowsC : ∀ {H' : Hp} {D : Addr} {l : List V}, D ≠ b → H D = some (.lst l) → Exc b D HC H' → ∀ x ∈ xs, RowB K H' x := fun nD hD e x h => by
    obtain ⟨a, r, rfl, h1, h2⟩ := hrC x h
    exact rowb_rt (e _ _ (ne_of h1 hbC (by intro z; cases z)) (ne_of h1 (xc _ _ nD hD) (by intro z; cases z)) h1) h2
  have fin : ∀ {v : V} {H' : Hp}, Ex HC H' → (∀ D l HZ, D ≠ b → H D = some (.lst l) → Exc b D H' HZ → Thin K HZ v) → Q v H' := fun e th => q _ _ _ _ th (e _ _ hbC) (xc.trans e.toB)
  refine iteD (fun c1 => ?_) (fun c1 => ?_)
  · walk_at "ws"
    refine ⟨t, xs, rfl, hxC, fun p20 H20 e20 g20 => ?_⟩
    walk_at "ws"
    refine ⟨(by show 1 ≤ sizeLine; decide), fun p21 H21 hp21 e21 g21 => ?_⟩
    walk_at "ws"
    have l20 := cutV_length xs none (some dA)
    refine o_catTA C (e21 _ _ g20) g21 (by rw [sizeLine_eq, List.length_singleton]; omega) fun p22 H22 e22 g22 => ?_
    walk_at "ws"
    refine ⟨t, xs, rfl, e22 _ _ (e21 _ _ (e20 _ _ hxC)), fun p23 H23 e23 g23 => ?_⟩
    walk_at "ws"
    have l23 := cutV_length xs (some dA) none
    refine o_catTA C (e23 _ _ g22) g23 (by rw [sizeLine_eq, List.length_append, List.length_singleton]; omega) fun p24 H24 e24 g24 => ?_
    have ea : Ex HC H24 := (((e20.trans e21).trans e22).trans e23).trans e24
    refine fin ea (fun D l HZ nD hD eZ => thin_tup (eZ _ _ (ne_of g24 (ea _ _ hbC) (by intro z; cases z)) (ne_of g24 (ea _ _ (xc _ _ nD hD)) (by intro z; cases z)) g24) (by rw [List.length_append, List.length_append, List.length_singleton]; omega) fun x hx => ?_)
    rcases List.mem_append.mp hx with hx | hx
    · rcases List.mem_append.mp hx with hx | hx
      · exact rowsC nD hD (ea.toB.exc eZ) x (mem_cutV hx)
      · rw [List.mem_singleton.mp hx]
        exact hT D l HZ nD hD (ea.toB.exc eZ)
    · exact rowsC nD hD (ea.toB.exc eZ) x (mem_cutV hx)
  walk_at "ws"
  refine wS_if ?_
  walk_at "ws"
  refine iteD (fun c2 => ?_) (fun c2 => ?_)
  · walk_at "ws"
    refine ⟨t, xs, rfl, hxC, fun p20 H20 e20 g20 => ?_⟩
    exact fin e20 (fun D l HZ nD hD eZ => thin_tup (eZ _ _ (ne_of g20 (e20 _ _ hbC) (by intro z; cases z)) (ne_of g20 (e20 _ _ (xc _ _ nD hD)) (by intro z; cases z)) g20) (by rw [List.length_reverse]; omega) fun x hx => rowsC nD hD (e20.toB.exc eZ) x (List.mem_reverse.mp hx))
  walk_at "ws"
  refine wS_if ?_
  walk_at "ws"
  refine iteD (fun c3 => ?_) (fun c3 => ?_)
  · walk_at "ws"
    refine wE_un ?_
    walk_at "ws"
    refine o_neg ?_
    walk_at "ws"
    refine ⟨t, xs, rfl, hxC, fun p20 H20 e20 g20 => ?_⟩
    walk_at "ws"
    have l20 := cutV_length xs (some (-1)) none
    refine o_catTA C (e20 _ _ hxC) g20 (by rw [sizeLine_eq]; omega) fun p22 H22 e22 g22 => ?_
    have ea : Ex HC H22 := e20.trans e22
    refine fin ea (fun D l HZ nD hD eZ => thin_tup (eZ _ _ (ne_of g22 (ea _ _ hbC) (by intro z; cases z)) (ne_of g22 (ea _ _ (xc _ _ nD hD)) (by intro z; cases z)) g22) (by rw [List.length_append]; omega) fun x hx => ?_)
    rcases List.mem_append.mp hx with hx | hx
    · exact rowsC nD hD (ea.toB.exc eZ) x hx
    · exact rowsC nD hD (ea.toB.exc eZ) x (mem_cutV hx)
  walk_at "ws"
  refine wS_if ?_
  walk_at "ws"
  refine iteD (fun c4 => ?_) (fun c4 => ?_)
  · walk_at "ws"
    refine ⟨t, xs, rfl, hxC, fun p20 H20 e20 g20 => ?_⟩
    walk_at "ws"
    refine wE_callT C T.tuple (by walk_at "mem") boot_tuple (by rfl) (by rfl) ?_
    walk_at "ws"
    refine wE_lcT [("_law_one", 5)] ["_law_one"] ["_law_one"] [] C (by decide +kernel) (by decide +kernel) (by decide +kernel) (by rfl) (fun _ => rfl) ?_
    walk_at "ws"
    refine ⟨t, xs, rfl, e20 _ _ hxC, fun p21 H21 e21 g21 => ?_⟩
    have l21 : (cutV xs none (some 1)).length ≤ 12 := Nat.le_trans (cutV_length xs none (some 1)) (by omega)
    generalize hys : cutV xs none (some 1) = ys at g21 l21
    have my : ∀ x ∈ ys, x ∈ xs := fun x h => by rw [← hys] at h; exact mem_cutV h
    have ef : Ex HC H21 := e20.trans e21
    refine ⟨p21, ys, rfl, SqT.of g21, fun D hD => ⟨fun i H2 => ∃ as : List Addr, as.length = i ∧ H2 D = some (.lst (as.map V.ref)) ∧ (∀ a ∈ as, Row4 H2 a) ∧ Ex H21 H2, ⟨[], rfl, upd_same, (fun a h => by cases h), Ex.upd hD⟩, ?_, ?_, ?_⟩⟩
    · rintro i H2 _ ⟨as, la, hq, hz, e2⟩
      exact SqT.of (e2 _ _ g21)
    · rintro i x H2 hx ⟨as, la, hq, hz, e2⟩
      have i12 : i < 12 := by
        have z := (List.getElem?_eq_some_iff.mp hx).1
        omega
      obtain ⟨a0, r, rfl, h1, h2⟩ := hrC x (my x (List.mem_of_getElem? hx))
      have h1' : H2 a0 = some (.tup [.int r.1, .int r.2.1, .int r.2.2.1, .int r.2.2.2]) := e2 _ _ (ef _ _ h1)
      intro X1 C1
      show wG X1 _ _ [some (.ref b), some (.ref t), some (.int dA), some (.int dB), some v, none] H2 _
      refine wG_name C1 (by walk_at "mem") ?_
      walk_at "ws"
      refine ⟨rfl, ?_⟩
      refine blkT_nil (iteT ?_)
      intro X2 C2
      clear C1 C
      walk_at "ws"
      refine ⟨a0, _, rfl, h1', fun p3 H3 e3 h3 => ?_⟩
      walk_at "ws"
      refine ⟨(by show 2 ≤ sizeLine; decide), fun p4 H4 hp4 e4 h4 => ?_⟩
      walk_at "ws"
      have h3 : H3 p3 = some (.tup [.int r.1, .int r.2.1]) := h3
      refine o_catTA C2 (e4 _ _ h3) h4 (by show 2 + 2 ≤ sizeLine; decide) fun p5 H5 e5 h5 => ?_
      have en : Ex H2 H5 := (e3.trans e4).trans e5
      have rw5 : Row4 H5 p5 := ⟨r.1, r.2.1, _, r.2.2.2, h5, by have := h2.m1; have := h2.m2; omega, by have := h2.d1; have := h2.d2; omega, by omega, by have := h2.b1; have := h2.b2; omega⟩
      refine ⟨as.map V.ref, en _ _ hq, by rw [List.length_map, sizeLine_eq]; omega, as ++ [p5], by rw [List.length_append, la]; rfl, by rw [upd_same, List.map_append]; rfl, fun a ha => ?_, (e2.trans en).mut hD Exb.upd⟩
      rcases List.mem_append.mp ha with ha | ha
      · exact ((hz a ha).ex en).up (en _ _ hq)
      · rw [List.mem_singleton.mp ha]
        exact rw5.up (en _ _ hq)
    rintro H2 ⟨as, la, hq, hz, e2⟩
    walk_at "ws"
    refine c_tupL C (SqL.of hq) fun p6 H6 hp6 e6 g6 => ?_
    walk_at "ws"
    have l20 := cutV_length xs none (some dA)
    refine o_catTA C (e6 _ _ (e2 _ _ (e21 _ _ g20))) g6 (by rw [sizeLine_eq, List.length_map]; omega) fun p7 H7 e7 g7 => ?_
    walk_at "ws"
    refine ⟨t, xs, rfl, e7 _ _ (e6 _ _ (e2 _ _ (ef _ _ hxC))), fun p8 H8 e8 g8 => ?_⟩
    walk_at "ws"
    have l8 := cutV_length xs (some dA) none
    refine o_catTA C (e8 _ _ g7) g8 (by rw [sizeLine_eq, List.length_append, List.length_map]; omega) fun p9 H9 e9 g9 => ?_
    have e69 : Ex H2 H9 := ((e6.trans e7).trans e8).trans e9
    have ea : Ex HC H9 := (ef.trans e2).trans e69
    have one : ys.length ≤ 1 := by
      rw [← hys]
      unfold cutV
      rw [List.length_take]
      have e : HT.sIx xs.length xs.length (some 1) = min 1 xs.length := rfl
      rw [e]
      omega
    refine fin ea (fun D l HZ nD hD eZ => thin_tup (eZ _ _ (ne_of g9 (ea _ _ hbC) (by intro z; cases z)) (ne_of g9 (ea _ _ (xc _ _ nD hD)) (by intro z; cases z)) g9) (by rw [List.length_append, List.length_append, List.length_map]; omega) fun x hx => ?_)
    rcases List.mem_append.mp hx with hx | hx
    · rcases List.mem_append.mp hx with hx | hx
      · exact rowsC nD hD (ea.toB.exc eZ) x (mem_cutV hx)
      · obtain ⟨a, ma, rfl⟩ := List.mem_map.mp hx
        exact (((hz a ma).ex e69).exc (ea _ _ hbC) (ea _ _ (xc _ _ nD hD)) eZ).rowb
    · exact rowsC nD hD (ea.toB.exc eZ) x (mem_cutV hx)
  walk_at "ws"
  refine iteD (fun c5 => ?_) (fun c5 => ?_)
  · walk_at "ws"
    refine wE_callT C tl (by walk_at "mem") (by rfl) (by rfl) (by rfl) ?_
    walk_at "ws"
    refine c_listT C (SqT.of hxC) fun p20 H20 hp20 e20 g20 => ?_
    exact fin e20 (fun D l HZ nD hD eZ => thin_lst (eZ _ _ (ne_fresh hp20 hbC) (ne_fresh hp20 (xc _ _ nD hD)) g20) (by omega) fun x hx => rowsC nD hD (e20.toB.exc eZ) x hx)
  · walk_at "ws"
    refine wE_call C DO (by walk_at "mem") (by decide) (by rfl) (by rfl) ?_
    walk_at "ws"
    refine ⟨b, _, _, rfl, hbC, fun v n' m' H' od hb' e' => ?_⟩
    exact q _ _ _ _ (fun D l HZ nD hD eZ => thin_od (od D l HZ (xc _ _ nD hD) eZ).1 (od D l HZ (xc _ _ nD hD) eZ).2) hb' (xc.trans e')
end
def spOddR (K : PySem.W.Frag) : Sp := fun vs H Q _ => vs = [] ∧ ∀ p vs' H', Ex H H' → H' p = some (.lst vs') → vs'.length = 17 → (∀ v ∈ vs', Thin K H' v) → Q (.ref p) H'
section
variable {P : Program} {w : World} {K : PySem.W.Frag} {mg : Str → Option Value} {base : Heap} {f C0 CN : Addr} {fd : FuncData}
theorem p_oddR (F : Fn K "_law_odd_rates" "_law_odd_rates" s__law_odd_rates f fd) : FnOk P w K mg base CX0 1 f fd [] (spOddR K) := by
  refine fn_w F sc__law_odd_rates ok__law_odd_rates (fun vs H Q E h => by obtain ⟨rfl, q⟩ := h; rfl) (fun X vs H Q E C h => ?_)
  obtain ⟨rfl, q⟩ := h
  show wB X _ _ [none, none] H
  first | refine wB_one ?_ | refine wB_cons' fun _ _ => ?_
  walk_at "ws"
  refine ⟨(by show 4 ≤ sizeLine; decide), fun p1 H1 hp1 e1 g1 => ?_⟩
  walk_at "ws"
  refine ⟨(by show 4 ≤ sizeLine; decide), fun p2 H2 hp2 e2 g2 => ?_⟩
  walk_at "ws"
  refine ⟨(by show 4 ≤ sizeLine; decide), fun p3 H3 hp3 e3 g3 => ?_⟩
  walk_at "ws"
  refine ⟨(by show 4 ≤ sizeLine; decide), fun p4 H4 hp4 e4 g4 => ?_⟩
  walk_at "ws"
  refine wE_un ?_
  walk_at "ws"
  refine o_neg ?_
  walk_at "ws"
  refine ⟨(by show 4 ≤ sizeLine; decide), fun p5 H5 hp5 e5 g5 => ?_⟩
  walk_at "ws"
  refine wE_un ?_
  walk_at "ws"
  refine o_neg ?_
  walk_at "ws"
  refine ⟨(by show 4 ≤ sizeLine; decide), fun p6 H6 hp6 e6 g6 => ?_⟩
  walk_at "ws"
  refine ⟨(by show 6 ≤ sizeLine; decide), fun p7 H7 hp7 e7 g7 => ?_⟩
  walk_at "ws"
  refine wE_un ?_
  walk_at "ws"
  refine o_neg ?_
  walk_at "ws"
  refine ⟨(by show 4 ≤ sizeLine; decide), fun p8 H8 hp8 e8 g8 => ?_⟩
  walk_at "ws"
  refine wE_un ?_
  walk_at "ws"
  refine o_neg ?_
  walk_at "ws"
  refine ⟨(by show 4 ≤ sizeLine; decide), fun p9 H9 hp9 e9 g9 => ?_⟩
  walk_at "ws"
  refine ⟨(by show 4 ≤ sizeLine; decide), fun p10 H10 hp10 e10 g10 => ?_⟩
  walk_at "ws"
  refine ⟨(by show 4 ≤ sizeLine; decide), fun p11 H11 hp11 e11 g11 => ?_⟩
  walk_at "ws"
  refine ⟨(by show 4 ≤ sizeLine; decide), fun p12 H12 hp12 e12 g12 => ?_⟩
  walk_at "ws"
  refine ⟨(by show 5 ≤ sizeLine; decide), fun p13 H13 hp13 e13 g13 => ?_⟩
  walk_at "ws"
  refine o_catL (by walk_at "hk") g13 (by show 6 + 5 ≤ sizeLine; decide) fun p14 H14 hp14 e14 g14 => ?_
  walk_at "ws"
  refine ⟨(by show 4 ≤ sizeLine; decide), fun p15 H15 hp15 e15 g15 => ?_⟩
  walk_at "ws"
  refine ⟨(by show 4 ≤ sizeLine; decide), fun p16 H16 hp16 e16 g16 => ?_⟩
  walk_at "ws"
  refine ⟨(by show 4 ≤ sizeLine; decide), fun p17 H17 hp17 e17 g17 => ?_⟩
  walk_at "ws"
  refine ⟨(by show 1 ≤ sizeLine; decide), fun p18 H18 hp18 e18 g18 => ?_⟩
  walk_at "ws"
  refine ⟨(by show 4 ≤ sizeLine; decide), fun p19 H19 hp19 e19 g19 => ?_⟩
  walk_at "ws"
  refine ⟨(by show 1 ≤ sizeLine; decide), fun p20 H20 hp20 e20 g20 => ?_⟩
  walk_at "ws"
  refine ⟨(by show 4 ≤ sizeLine; decide), fun p21 H21 hp21 e21 g21 => ?_⟩
  walk_at "ws"
  refine ⟨(by show 0 ≤ sizeLine; decide), fun p22 H22 hp22 e22 g22 => ?_⟩
  walk_at "ws"
  refine ⟨(by show 6 ≤ sizeLine; decide), fun p23 H23 hp23 e23 g23 => ?_⟩
  walk_at "ws"
  refine o_catL (by walk_at "hk") g23 (by show 11 + 6 ≤ sizeLine; decide) fun p24 H24 hp24 e24 g24 => ?_
  walk_at "st"
  have x1 := (e24 _ _ (e23 _ _ (e22 _ _ (e21 _ _ (e20 _ _ (e19 _ _ (e18 _ _ (e17 _ _ (e16 _ _ (e15 _ _ (e14 _ _ (e13 _ _ (e12 _ _ (e11 _ _ (e10 _ _ (e9 _ _ (e8 _ _ (e7 _ _ (e6 _ _ (e5 _ _ (e4 _ _ (e3 _ _ (e2 _ _ g1)))))))))))))))))))))))
  have x2 := (e24 _ _ (e23 _ _ (e22 _ _ (e21 _ _ (e20 _ _ (e19 _ _ (e18 _ _ (e17 _ _ (e16 _ _ (e15 _ _ (e14 _ _ (e13 _ _ (e12 _ _ (e11 _ _ (e10 _ _ (e9 _ _ (e8 _ _ (e7 _ _ (e6 _ _ (e5 _ _ (e4 _ _ (e3 _ _ g2))))))))))))))))))))))
  have x3 := (e24 _ _ (e23 _ _ (e22 _ _ (e21 _ _ (e20 _ _ (e19 _ _ (e18 _ _ (e17 _ _ (e16 _ _ (e15 _ _ (e14 _ _ (e13 _ _ (e12 _ _ (e11 _ _ (e10 _ _ (e9 _ _ (e8 _ _ (e7 _ _ (e6 _ _ (e5 _ _ (e4 _ _ g3)))))))))))))))))))))
  have x4 := (e24 _ _ (e23 _ _ (e22 _ _ (e21 _ _ (e20 _ _ (e19 _ _ (e18 _ _ (e17 _ _ (e16 _ _ (e15 _ _ (e14 _ _ (e13 _ _ (e12 _ _ (e11 _ _ (e10 _ _ (e9 _ _ (e8 _ _ (e7 _ _ (e6 _ _ (e5 _ _ g4))))))))))))))))))))
  have x5 := (e24 _ _ (e23 _ _ (e22 _ _ (e21 _ _ (e20 _ _ (e19 _ _ (e18 _ _ (e17 _ _ (e16 _ _ (e15 _ _ (e14 _ _ (e13 _ _ (e12 _ _ (e11 _ _ (e10 _ _ (e9 _ _ (e8 _ _ (e7 _ _ (e6 _ _ g5)))))))))))))))))))
  have x6 := (e24 _ _ (e23 _ _ (e22 _ _ (e21 _ _ (e20 _ _ (e19 _ _ (e18 _ _ (e17 _ _ (e16 _ _ (e15 _ _ (e14 _ _ (e13 _ _ (e12 _ _ (e11 _ _ (e10 _ _ (e9 _ _ (e8 _ _ (e7 _ _ g6))))))))))))))))))
  have x8 := (e24 _ _ (e23 _ _ (e22 _ _ (e21 _ _ (e20 _ _ (e19 _ _ (e18 _ _ (e17 _ _ (e16 _ _ (e15 _ _ (e14 _ _ (e13 _ _ (e12 _ _ (e11 _ _ (e10 _ _ (e9 _ _ g8))))))))))))))))
  have x9 := (e24 _ _ (e23 _ _ (e22 _ _ (e21 _ _ (e20 _ _ (e19 _ _ (e18 _ _ (e17 _ _ (e16 _ _ (e15 _ _ (e14 _ _ (e13 _ _ (e12 _ _ (e11 _ _ (e10 _ _ g9)))))))))))))))
  have x10 := (e24 _ _ (e23 _ _ (e22 _ _ (e21 _ _ (e20 _ _ (e19 _ _ (e18 _ _ (e17 _ _ (e16 _ _ (e15 _ _ (e14 _ _ (e13 _ _ (e12 _ _ (e11 _ _ g10))))))))))))))
  have x11 := (e24 _ _ (e23 _ _ (e22 _ _ (e21 _ _ (e20 _ _ (e19 _ _ (e18 _ _ (e17 _ _ (e16 _ _ (e15 _ _ (e14 _ _ (e13 _ _ (e12 _ _ g11)))))))))))))
  have x12 := (e24 _ _ (e23 _ _ (e22 _ _ (e21 _ _ (e20 _ _ (e19 _ _ (e18 _ _ (e17 _ _ (e16 _ _ (e15 _ _ (e14 _ _ (e13 _ _ g12))))))))))))
  have x15 := (e24 _ _ (e23 _ _ (e22 _ _ (e21 _ _ (e20 _ _ (e19 _ _ (e18 _ _ (e17 _ _ (e16 _ _ g15)))))))))
  have x16 := (e24 _ _ (e23 _ _ (e22 _ _ (e21 _ _ (e20 _ _ (e19 _ _ (e18 _ _ (e17 _ _ g16))))))))
  have x17 := (e24 _ _ (e23 _ _ (e22 _ _ (e21 _ _ (e20 _ _ (e19 _ _ (e18 _ _ g17)))))))
  have x18 := (e24 _ _ (e23 _ _ (e22 _ _ (e21 _ _ (e20 _ _ (e19 _ _ g18))))))
  have x19 := (e24 _ _ (e23 _ _ (e22 _ _ (e21 _ _ (e20 _ _ g19)))))
  have x20 := (e24 _ _ (e23 _ _ (e22 _ _ (e21 _ _ g20))))
  have x21 := (e24 _ _ (e23 _ _ (e22 _ _ g21)))
  have x22 := (e24 _ _ (e23 _ _ g22))
  have ex : Ex H H24 := (((((((((((((((((((((((e1.trans e2).trans e3).trans e4).trans e5).trans e6).trans e7).trans e8).trans e9).trans e10).trans e11).trans e12).trans e13).trans e14).trans e15).trans e16).trans e17).trans e18).trans e19).trans e20).trans e21).trans e22).trans e23).trans e24)
  have g24 : H24 p24 = some (.lst ([.ref p1, .ref p2, .ref p3, .ref p4, .ref p5, .ref p6, .ref p8, .ref p9, .ref p10, .ref p11, .ref p12, .ref p15, .ref p16, .ref p17, .ref p19, .ref p21, .ref p22] : List V)) := g24
  have rb : ∀ x ∈ ([.ref p1, .ref p2, .ref p3, .ref p4, .ref p5, .ref p6, .ref p8, .ref p9, .ref p10, .ref p11, .ref p12, .ref p15, .ref p16, .ref p17, .ref p19, .ref p21, .ref p22] : List V), RowB K H24 x := (all2 (rowb_tup x1 (Nat.le_of_ble_eq_true rfl) (.cons ⟨_, .bl _⟩ sml_bl (.cons ⟨_, .int _⟩ (sml_of (.int _) (by decide +kernel)) (.cons ⟨_, .int _⟩ (sml_of (.int _) (by decide +kernel)) (.cons ⟨_, .int _⟩ (sml_of (.int _) (by decide +kernel)) .nil))))) (all2 (rowb_tup x2 (Nat.le_of_ble_eq_true rfl) (.cons ⟨_, .int _⟩ (sml_of (.int _) (by decide +kernel)) (.cons ⟨_, .bl _⟩ sml_bl (.cons ⟨_, .int _⟩ (sml_of (.int _) (by decide +kernel)) (.cons ⟨_, .int _⟩ (sml_of (.int _) (by decide +kernel)) .nil))))) (all2 (rowb_tup x3 (Nat.le_of_ble_eq_true rfl) (.cons ⟨_, .int _⟩ (sml_of (.int _) (by decide +kernel)) (.cons ⟨_, .int _⟩ (sml_of (.int _) (by decide +kernel)) (.cons ⟨_, .bl _⟩ sml_bl (.cons ⟨_, .int _⟩ (sml_of (.int _) (by decide +kernel)) .nil))))) (all2 (rowb_tup x4 (Nat.le_of_ble_eq_true rfl) (.cons ⟨_, .int _⟩ (sml_of (.int _) (by decide +kernel)) (.cons ⟨_, .int _⟩ (sml_of (.int _) (by decide +kernel)) (.cons ⟨_, .int _⟩ (sml_of (.int _) (by decide +kernel)) (.cons ⟨_, .bl _⟩ sml_bl .nil))))) (all2 (rowb_tup x5 (Nat.le_of_ble_eq_true rfl) (.cons ⟨_, .int _⟩ (sml_of (.int _) (by decide +kernel)) (.cons ⟨_, .int _⟩ (sml_of (.int _) (by decide +kernel)) (.cons ⟨_, .int _⟩ (sml_of (.int _) (by decide +kernel)) (.cons ⟨_, .int _⟩ (sml_of (.int _) (by decide +kernel)) .nil))))) (all2 (rowb_tup x6 (Nat.le_of_ble_eq_true rfl) (.cons ⟨_, .int _⟩ (sml_of (.int _) (by decide +kernel)) (.cons ⟨_, .int _⟩ (sml_of (.int _) (by decide +kernel)) (.cons ⟨_, .int _⟩ (sml_of (.int _) (by decide +kernel)) (.cons ⟨_, .int _⟩ (sml_of (.int _) (by decide +kernel)) .nil))))) (all2 (rowb_tup x8 (Nat.le_of_ble_eq_true rfl) (.cons ⟨_, .int _⟩ (sml_of (.int _) (by decide +kernel)) (.cons ⟨_, .int _⟩ (sml_of (.int _) (by decide +kernel)) (.cons ⟨_, .int _⟩ (sml_of (.int _) (by decide +kernel)) (.cons ⟨_, .int _⟩ (sml_of (.int _) (by decide +kernel)) .nil))))) (all2 (rowb_tup x9 (Nat.le_of_ble_eq_true rfl) (.cons ⟨_, .int _⟩ (sml_of (.int _) (by decide +kernel)) (.cons ⟨_, .int _⟩ (sml_of (.int _) (by decide +kernel)) (.cons ⟨_, .int _⟩ (sml_of (.int _) (by decide +kernel)) (.cons ⟨_, .int _⟩ (sml_of (.int _) (by decide +kernel)) .nil))))) (all2 (rowb_tup x10 (Nat.le_of_ble_eq_true rfl) (.cons ⟨_, .int _⟩ (sml_of (.int _) (by decide +kernel)) (.cons ⟨_, .int _⟩ (sml_of (.int _) (by decide +kernel)) (.cons ⟨_, .int _⟩ (sml_of (.int _) (by decide +kernel)) (.cons ⟨_, .int _⟩ (sml_of (.int _) (by decide +kernel)) .nil))))) (all2 (rowb_tup x11 (Nat.le_of_ble_eq_true rfl) (.cons ⟨_, .non⟩ (sml_of .non (by decide +kernel)) (.cons ⟨_, .int _⟩ (sml_of (.int _) (by decide +kernel)) (.cons ⟨_, .int _⟩ (sml_of (.int _) (by decide +kernel)) (.cons ⟨_, .int _⟩ (sml_of (.int _) (by decide +kernel)) .nil))))) (all2 (rowb_tup x12 (Nat.le_of_ble_eq_true rfl) (.cons ⟨_, .int _⟩ (sml_of (.int _) (by decide +kernel)) (.cons ⟨_, .non⟩ (sml_of .non (by decide +kernel)) (.cons ⟨_, .int _⟩ (sml_of (.int _) (by decide +kernel)) (.cons ⟨_, .int _⟩ (sml_of (.int _) (by decide +kernel)) .nil))))) (all2 (rowb_tup x15 (Nat.le_of_ble_eq_true rfl) (.cons ⟨_, .int _⟩ (sml_of (.int _) (by decide +kernel)) (.cons ⟨_, .int _⟩ (sml_of (.int _) (by decide +kernel)) (.cons ⟨_, .non⟩ (sml_of .non (by decide +kernel)) (.cons ⟨_, .int _⟩ (sml_of (.int _) (by decide +kernel)) .nil))))) (all2 (rowb_tup x16 (Nat.le_of_ble_eq_true rfl) (.cons ⟨_, .int _⟩ (sml_of (.int _) (by decide +kernel)) (.cons ⟨_, .int _⟩ (sml_of (.int _) (by decide +kernel)) (.cons ⟨_, .int _⟩ (sml_of (.int _) (by decide +kernel)) (.cons ⟨_, .non⟩ (sml_of .non (by decide +kernel)) .nil))))) (all2 (rowb_tup x17 (Nat.le_of_ble_eq_true rfl) (.cons ⟨_, .int _⟩ (sml_of (.int _) (by decide +kernel)) (.cons ⟨_, .str _⟩ (sml_of (.str _) (by decide +kernel)) (.cons ⟨_, .int _⟩ (sml_of (.int _) (by decide +kernel)) (.cons ⟨_, .int _⟩ (sml_of (.int _) (by decide +kernel)) .nil))))) (all2 (rowb_tup x19 (Nat.le_of_ble_eq_true rfl) (.cons ⟨_, .lst x18⟩ (sml_of (.lst (.of x18) (.cons (.int _) .nil)) (by decide +kernel)) (.cons ⟨_, .int _⟩ (sml_of (.int _) (by decide +kernel)) (.cons ⟨_, .int _⟩ (sml_of (.int _) (by decide +kernel)) (.cons ⟨_, .int _⟩ (sml_of (.int _) (by decide +kernel)) .nil))))) (all2 (rowb_tup x21 (Nat.le_of_ble_eq_true rfl) (.cons ⟨_, .int _⟩ (sml_of (.int _) (by decide +kernel)) (.cons ⟨_, .lst x20⟩ (sml_of (.lst (.of x20) (.cons (.int _) .nil)) (by decide +kernel)) (.cons ⟨_, .int _⟩ (sml_of (.int _) (by decide +kernel)) (.cons ⟨_, .int _⟩ (sml_of (.int _) (by decide +kernel)) .nil))))) (all1 (rowb_tup x22 (Nat.le_of_ble_eq_true rfl) .nil))))))))))))))))))
  have rl : ([.ref p1, .ref p2, .ref p3, .ref p4, .ref p5, .ref p6, .ref p8, .ref p9, .ref p10, .ref p11, .ref p12, .ref p15, .ref p16, .ref p17, .ref p19, .ref p21, .ref p22] : List V).length = 17 := rfl
  clear x1 x2 x3 x4 x5 x6 x8 x9 x10 x11 x12 x15 x16 x17 x18 x19 x20 x21 x22 hp1 e1 hp2 e2 hp3 e3 hp4 e4 hp5 e5 hp6 e6 hp7 e7 hp8 e8 hp9 e9 hp10 e10 hp11 e11 hp12 e12 hp13 e13 hp14 e14 hp15 e15 hp16 e16 hp17 e17 hp18 e18 hp19 e19 hp20 e20 hp21 e21 hp22 e22 hp23 e23 hp24 e24 g1 g2 g3 g4 g5 g6 g7 g8 g9 g10 g11 g12 g13 g14 g15 g16 g17 g18 g19 g20 g21 g22 g23
  generalize ([.ref p1, .ref p2, .ref p3, .ref p4, .ref p5, .ref p6, .ref p8, .ref p9, .ref p10, .ref p11, .ref p12, .ref p15, .ref p16, .ref p17, .ref p19, .ref p21, .ref p22] : List V) = ws at g24 rb rl
  walk_at "ws"
  refine wE_lcL [("_law_row", 1)] ["_law_row"] ["_law_row"] [] C (by decide +kernel) (by decide +kernel) (by decide +kernel) (by rfl) (fun _ => rfl) ?_
  walk_at "ws"
  refine ⟨p24, ws, rfl, SqL.of g24, fun D hD => ⟨fun i H2 => ∃ as : List Addr, as.length = i ∧ H2 D = some (.lst (as.map V.ref)) ∧ (∀ a ∈ as, ∃ y ∈ ws, H2 a = some (.tup [y])) ∧ Ex H24 H2, ⟨[], rfl, upd_same, (fun a h => by cases h), Ex.upd hD⟩, ?_, ?_, ?_⟩⟩
  · rintro i H2 _ ⟨as, la, hq, hz, e2⟩
    exact SqL.of (e2 _ _ g24)
  · rintro i x H2 hx ⟨as, la, hq, hz, e2⟩
    have i17 := (List.getElem?_eq_some_iff.mp hx).1
    intro X1 C1
    show wG X1 _ _ [some (.ref p24), none] H2 _
    refine wG_name C1 (by walk_at "mem") ?_
    walk_at "ws"
    refine ⟨rfl, ?_⟩
    refine blkT_nil (iteT ?_)
    intro X2 C2
    clear C1 C
    walk_at "ws"
    refine ⟨(by show 1 ≤ sizeLine; decide), fun p4 H4 hp4 e4 h4 => ?_⟩
    refine ⟨as.map V.ref, e4 _ _ hq, by rw [List.length_map, sizeLine_eq]; omega, as ++ [p4], by rw [List.length_append, la]; rfl, by rw [upd_same, List.map_append]; rfl, fun a ha => ?_, (e2.trans e4).mut hD Exb.upd⟩
    rcases List.mem_append.mp ha with ha | ha
    · obtain ⟨y, my, hy⟩ := hz a ha
      exact ⟨y, my, by rw [upd_ne (ne_of (e4 _ _ hy) (e4 _ _ hq) (by intro z; cases z))]; exact e4 _ _ hy⟩
    · rw [List.mem_singleton.mp ha]
      exact ⟨x, List.mem_of_getElem? hx, by rw [upd_ne (ne_of h4 (e4 _ _ hq) (by intro z; cases z))]; exact h4⟩
  rintro H2 ⟨as, la, hq, hz, e2⟩
  refine q D _ H2 (ex.trans e2) hq (by rw [List.length_map, la, rl]) fun v hv => ?_
  obtain ⟨a, ma, rfl⟩ := List.mem_map.mp hv
  obtain ⟨y, my, hy⟩ := hz a ma
  exact thin_tup hy (by show 1 ≤ 30; decide) (all1 ((rb y my).n e2.n))
end
/-! ### the law's own look at a refusal -/
def famB (x : Str) : List Bool := exNames.map fun y => decide (x = y)
def spFam (K : PySem.W.Frag) : SpE := fun cls d H Q => ∃ x, x ∈ exNames ∧ cls = .ref (exA K x) ∧ DOk d H ∧ ∀ p H', H p = none → Ex H H' → H' p = some (.lst ((famB x).map V.bl)) → Q (.ref p) H'
def spWord (K : PySem.W.Frag) : SpE := fun cls d H Q => ∃ x, x ∈ exNames ∧ cls = .ref (exA K x) ∧ DOk d H ∧ ∀ H', Ex H H' → Q (.str (exWord x)) H'
section
variable {P : Program} {w : World} {K : PySem.W.Frag} {mg : Str → Option Value} {base : Heap} {f C0 : Addr} {fd : FuncData}
theorem p_family (F : Fn K "_law_family" "_law_family" s__law_family f fd) (tIs : mg "isinstance" = none) (E : ExF exNames K mg) : FnE P w K mg base 1 f fd "_law_e" (spFam K) := by
  refine fn_E F sc__law_family ok__law_family (fun X a oe cls d H Q C z h => ?_)
  obtain ⟨x, hx, rfl, dk, q⟩ := h
  show wB X _ _ [some (.ref a), none] H
  refine wB_cons' fun _ _ => ?_
  walk_at "ws"
  refine wE_callBH C tIs (by walk_at "mem") boot_isinstance (by rfl) (by rfl) ?_
  walk_at "ws"
  refine wE_globH (v := .ref (exA K "NoRates")) C (by walk_at "mem") (E.g "NoRates" (by decide)) rfl ?_
  walk_at "ws"
  refine c_isH C (E.f x hx) z dk (fun _ r => r) (E.kit x hx "NoRates" (by decide)) ?_
  walk_at "ws"
  refine wE_callBH C tIs (by walk_at "mem") boot_isinstance (by rfl) (by rfl) ?_
  walk_at "ws"
  refine wE_globH (v := .ref (exA K "NoSpot")) C (by walk_at "mem") (E.g "NoSpot" (by decide)) rfl ?_
  walk_at "ws"
  refine c_isH C (E.f x hx) z dk (fun _ r => r) (E.kit x hx "NoSpot" (by decide)) ?_
  walk_at "ws"
  refine wE_callBH C tIs (by walk_at "mem") boot_isinstance (by rfl) (by rfl) ?_
  walk_at "ws"
  refine wE_globH (v := .ref (exA K "NoShare")) C (by walk_at "mem") (E.g "NoShare" (by decide)) rfl ?_
  walk_at "ws"
  refine c_isH C (E.f x hx) z dk (fun _ r => r) (E.kit x hx "NoShare" (by decide)) ?_
  walk_at "ws"
  refine wE_callBH C tIs (by walk_at "mem") boot_isinstance (by rfl) (by rfl) ?_
  walk_at "ws"
  refine wE_globH (v := .ref (exA K "NoBook")) C (by walk_at "mem") (E.g "NoBook" (by decide)) rfl ?_
  walk_at "ws"
  refine c_isH C (E.f x hx) z dk (fun _ r => r) (E.kit x hx "NoBook" (by decide)) ?_
  walk_at "ws"
  refine ⟨(by show 4 ≤ sizeLine; decide), fun p0 H0 hp0 e0 g0 => ?_⟩
  walk_at "ws"
  have d0 := dk.ex e0
  refine wE_callBH C tIs (by walk_at "mem") boot_isinstance (by rfl) (by rfl) ?_
  walk_at "ws"
  refine wE_globH (v := .ref (exA K "NoPlace")) C (by walk_at "mem") (E.g "NoPlace" (by decide)) rfl ?_
  walk_at "ws"
  refine c_isH C (E.f x hx) z d0 (fun _ r => r) (E.kit x hx "NoPlace" (by decide)) ?_
  walk_at "ws"
  refine wE_callBH C tIs (by walk_at "mem") boot_isinstance (by rfl) (by rfl) ?_
  walk_at "ws"
  refine wE_globH (v := .ref (exA K "Absent")) C (by walk_at "mem") (E.g "Absent" (by decide)) rfl ?_
  walk_at "ws"
  refine c_isH C (E.f x hx) z d0 (fun _ r => r) (E.kit x hx "Absent" (by decide)) ?_
  walk_at "ws"
  refine wE_callBH C tIs (by walk_at "mem") boot_isinstance (by rfl) (by rfl) ?_
  walk_at "ws"
  refine wE_globH (v := .ref (exA K "Nothing")) C (by walk_at "mem") (E.g "Nothing" (by decide)) rfl ?_
  walk_at "ws"
  refine c_isH C (E.f x hx) z d0 (fun _ r => r) (E.kit x hx "Nothing" (by decide)) ?_
  walk_at "ws"
  refine wE_callBH C tIs (by walk_at "mem") boot_isinstance (by rfl) (by rfl) ?_
  walk_at "ws"
  refine wE_globH (v := .ref (exA K "NoTable")) C (by walk_at "mem") (E.g "NoTable" (by decide)) rfl ?_
  walk_at "ws"
  refine c_isH C (E.f x hx) z d0 (fun _ r => r) (E.kit x hx "NoTable" (by decide)) ?_
  walk_at "ws"
  refine ⟨(by show 4 ≤ sizeLine; decide), fun p1 H1 hp1 e1 g1 => ?_⟩
  walk_at "ws"
  refine o_catL (e1 _ _ g0) g1 (by show 4 + 4 ≤ sizeLine; decide) fun a1 K1 ha1 f1 c1 => ?_
  walk_at "ws"
  have d1 := (d0.ex e1).ex f1
  refine wE_callBH C tIs (by walk_at "mem") boot_isinstance (by rfl) (by rfl) ?_
  walk_at "ws"
  refine wE_globH (v := .ref (exA K "NoLine")) C (by walk_at "mem") (E.g "NoLine" (by decide)) rfl ?_
  walk_at "ws"
  refine c_isH C (E.f x hx) z d1 (fun _ r => r) (E.kit x hx "NoLine" (by decide)) ?_
  walk_at "ws"
  refine wE_callBH C tIs (by walk_at "mem") boot_isinstance (by rfl) (by rfl) ?_
  walk_at "ws"
  refine wE_globH (v := .ref (exA K "NoSpending")) C (by walk_at "mem") (E.g "NoSpending" (by decide)) rfl ?_
  walk_at "ws"
  refine c_isH C (E.f x hx) z d1 (fun _ r => r) (E.kit x hx "NoSpending" (by decide)) ?_
  walk_at "ws"
  refine wE_callBH C tIs (by walk_at "mem") boot_isinstance (by rfl) (by rfl) ?_
  walk_at "ws"
  refine wE_globH (v := .ref (exA K "NoRule")) C (by walk_at "mem") (E.g "NoRule" (by decide)) rfl ?_
  walk_at "ws"
  refine c_isH C (E.f x hx) z d1 (fun _ r => r) (E.kit x hx "NoRule" (by decide)) ?_
  walk_at "ws"
  refine wE_callBH C tIs (by walk_at "mem") boot_isinstance (by rfl) (by rfl) ?_
  walk_at "ws"
  refine wE_globH (v := .ref (exA K "NoJourney")) C (by walk_at "mem") (E.g "NoJourney" (by decide)) rfl ?_
  walk_at "ws"
  refine c_isH C (E.f x hx) z d1 (fun _ r => r) (E.kit x hx "NoJourney" (by decide)) ?_
  walk_at "ws"
  refine ⟨(by show 4 ≤ sizeLine; decide), fun p2 H2 hp2 e2 g2 => ?_⟩
  walk_at "ws"
  refine o_catL (e2 _ _ c1) g2 (by show 8 + 4 ≤ sizeLine; decide) fun a2 K2 ha2 f2 c2 => ?_
  walk_at "ws"
  have d2 := (d1.ex e2).ex f2
  refine wE_callBH C tIs (by walk_at "mem") boot_isinstance (by rfl) (by rfl) ?_
  walk_at "ws"
  refine wE_globH (v := .ref (exA K "NoText")) C (by walk_at "mem") (E.g "NoText" (by decide)) rfl ?_
  walk_at "ws"
  refine c_isH C (E.f x hx) z d2 (fun _ r => r) (E.kit x hx "NoText" (by decide)) ?_
  walk_at "ws"
  refine wE_callBH C tIs (by walk_at "mem") boot_isinstance (by rfl) (by rfl) ?_
  walk_at "ws"
  refine wE_globH (v := .ref (exA K "TooMany")) C (by walk_at "mem") (E.g "TooMany" (by decide)) rfl ?_
  walk_at "ws"
  refine c_isH C (E.f x hx) z d2 (fun _ r => r) (E.kit x hx "TooMany" (by decide)) ?_
  walk_at "ws"
  refine wE_callBH C tIs (by walk_at "mem") boot_isinstance (by rfl) (by rfl) ?_
  walk_at "ws"
  refine wE_globH (v := .ref (exA K "NoRate")) C (by walk_at "mem") (E.g "NoRate" (by decide)) rfl ?_
  walk_at "ws"
  refine c_isH C (E.f x hx) z d2 (fun _ r => r) (E.kit x hx "NoRate" (by decide)) ?_
  walk_at "ws"
  refine wE_callBH C tIs (by walk_at "mem") boot_isinstance (by rfl) (by rfl) ?_
  walk_at "ws"
  refine wE_globH (v := .ref (exA K "NoDay")) C (by walk_at "mem") (E.g "NoDay" (by decide)) rfl ?_
  walk_at "ws"
  refine c_isH C (E.f x hx) z d2 (fun _ r => r) (E.kit x hx "NoDay" (by decide)) ?_
  walk_at "ws"
  refine ⟨(by show 4 ≤ sizeLine; decide), fun p3 H3 hp3 e3 g3 => ?_⟩
  walk_at "ws"
  refine o_catL (e3 _ _ c2) g3 (by show 12 + 4 ≤ sizeLine; decide) fun a3 K3 ha3 f3 c3 => ?_
  walk_at "ws"
  have d3 := (d2.ex e3).ex f3
  refine wE_callBH C tIs (by walk_at "mem") boot_isinstance (by rfl) (by rfl) ?_
  walk_at "ws"
  refine wE_globH (v := .ref (exA K "NoName")) C (by walk_at "mem") (E.g "NoName" (by decide)) rfl ?_
  walk_at "ws"
  refine c_isH C (E.f x hx) z d3 (fun _ r => r) (E.kit x hx "NoName" (by decide)) ?_
  walk_at "ws"
  refine wE_callBH C tIs (by walk_at "mem") boot_isinstance (by rfl) (by rfl) ?_
  walk_at "ws"
  refine wE_globH (v := .ref (exA K "NoHeads")) C (by walk_at "mem") (E.g "NoHeads" (by decide)) rfl ?_
  walk_at "ws"
  refine c_isH C (E.f x hx) z d3 (fun _ r => r) (E.kit x hx "NoHeads" (by decide)) ?_
  walk_at "ws"
  refine ⟨(by show 2 ≤ sizeLine; decide), fun p4 H4 hp4 e4 g4 => ?_⟩
  walk_at "ws"
  refine o_catL (e4 _ _ c3) g4 (by show 16 + 2 ≤ sizeLine; decide) fun a4 K4 ha4 f4 c4 => ?_
  have d4 := (d3.ex e4).ex f4
  have en := ((((((((e0).trans e1).trans f1).trans e2).trans f2).trans e3).trans f3).trans e4).trans f4
  exact q a4 K4 (((((((((e0).trans e1).trans f1).trans e2).trans f2).trans e3).trans f3).trans e4).free ha4) en c4
theorem p_word (F : Fn K "_law_word" "_law_word" s__law_word f fd) (tIs : mg "isinstance" = none) (tValueError : mg "ValueError" = none) (tKeyError : mg "KeyError" = none) (tIndexError : mg "IndexError" = none) (tLookupError : mg "LookupError" = none) (tZeroDivisionError : mg "ZeroDivisionError" = none)
    (E : ExF exNames K mg) (DF : DE P w K mg base 1 "_law_family" "_law_e" (spFam K)) : FnE P w K mg base 2 f fd "_law_e" (spWord K) := by
  refine fn_E F sc__law_word ok__law_word (fun X a oe cls d H Q C z h => ?_)
  obtain ⟨x, hx, rfl, dk, q⟩ := h
  have hu : X.A.units + 64 < cLine := by have := C.room.un; omega
  show wB X _ _ [some (.ref a), none, none, none, none, none] H
  refine wB_cons' fun _ _ => ?_
  walk_at "ws"
  refine wE_callE C DF (by walk_at "mem") (by decide) z (by rfl) (by rfl) ?_
  walk_at "ws"
  refine ⟨rfl, x, hx, rfl, dk, fun p0 H0 hp0 e0 g0 => ?_⟩
  walk_at "ws"
  refine ⟨(by show 11 ≤ sizeLine; decide), fun p1 H1 hp1 e1 g1 => ?_⟩
  walk_at "ws"
  refine ⟨(by show 7 ≤ sizeLine; decide), fun p2 H2 hp2 e2 g2 => ?_⟩
  walk_at "ws"
  refine o_catL (e2 _ _ g1) g2 (by show 11 + 7 ≤ sizeLine; decide) fun p3 H3 hp3 e3 g3 => ?_
  walk_at "ws"
  have g03 := e3 _ _ (e2 _ _ (e1 _ _ g0))
  have dk3 := (((dk.ex e0).ex e1).ex e2).ex e3
  refine wS_if ?_
  walk_at "ws"
  refine wE_countB (b0 := true) hu (by rfl) (by rfl) (by rfl) (by rfl) (by rfl) ?_
  walk_at "ws"
  refine ⟨p0, famB x, rfl, SqL.of g03, ?_⟩
  walk_at "ws"
  refine ⟨rfl, SqL.of g03, ?_⟩
  have cn : ∀ x ∈ exNames, (famB x).count true = 1 := by decide +kernel
  rw [cn x hx]
  walk_at "ws"
  refine iteDF (by decide) ?_
  walk_at "ws"
  refine wE_indexH (by rfl) (by rfl) (by rfl) (by rfl) (by rfl) ?_
  walk_at "ws"
  refine ⟨p0, _, rfl, SqL.of g03, ?_⟩
  walk_at "ws"
  have fl : ∀ x ∈ exNames, ((famB x).map V.bl).all flatV = true := by decide +kernel
  have ix : ∀ x ∈ exNames, (famB x)[exIx x]? = some true ∧ ∀ m, m < exIx x → (famB x)[m]? = some false := by decide +kernel
  refine ⟨exIx x, .bl true, SqL.of g03, rfl, fl x hx, ?_, rfl, fun m z' hm hz' => ?_, ?_⟩
  · rw [List.getElem?_map, (ix x hx).1]; rfl
  · rw [List.getElem?_map, (ix x hx).2 m hm] at hz'
    cases hz'
    rfl
  walk_at "ws"
  refine wE_callBH C tIs (by walk_at "mem") boot_isinstance (by rfl) (by rfl) ?_
  walk_at "ws"
  refine wE_globH (v := .ref (exA K "PenceError")) C (by walk_at "mem") E.gp rfl ?_
  walk_at "ws"
  refine c_isH C (E.f x hx) z dk3 (fun _ r => r) (E.kitP x hx) ?_
  walk_at "ws"
  refine wE_callBH C tIs (by walk_at "mem") boot_isinstance (by rfl) (by rfl) ?_
  walk_at "ws"
  refine wE_bltnH (v := .ty "ValueError") C tValueError (by walk_at "mem") bt_ValueError rfl ?_
  walk_at "ws"
  refine c_isH C (E.f x hx) z dk3 (fun _ r => r) (E.kitT x hx "ValueError" (by decide)) ?_
  walk_at "ws"
  refine wE_callBH C tIs (by walk_at "mem") boot_isinstance (by rfl) (by rfl) ?_
  walk_at "ws"
  refine wE_bltnH (v := .ty "KeyError") C tKeyError (by walk_at "mem") bt_KeyError rfl ?_
  walk_at "ws"
  refine c_isH C (E.f x hx) z dk3 (fun _ r => r) (E.kitT x hx "KeyError" (by decide)) ?_
  walk_at "ws"
  refine ⟨(by show 3 ≤ sizeLine; decide), fun p4 H4 hp4 e4 g4 => ?_⟩
  walk_at "ws"
  have dk4 := dk3.ex e4
  refine wE_callBH C tIs (by walk_at "mem") boot_isinstance (by rfl) (by rfl) ?_
  walk_at "ws"
  refine wE_bltnH (v := .ty "IndexError") C tIndexError (by walk_at "mem") bt_IndexError rfl ?_
  walk_at "ws"
  refine c_isH C (E.f x hx) z dk4 (fun _ r => r) (E.kitT x hx "IndexError" (by decide)) ?_
  walk_at "ws"
  refine wE_callBH C tIs (by walk_at "mem") boot_isinstance (by rfl) (by rfl) ?_
  walk_at "ws"
  refine wE_bltnH (v := .ty "LookupError") C tLookupError (by walk_at "mem") bt_LookupError rfl ?_
  walk_at "ws"
  refine c_isH C (E.f x hx) z dk4 (fun _ r => r) (E.kitT x hx "LookupError" (by decide)) ?_
  walk_at "ws"
  refine wE_callBH C tIs (by walk_at "mem") boot_isinstance (by rfl) (by rfl) ?_
  walk_at "ws"
  refine wE_bltnH (v := .ty "ZeroDivisionError") C tZeroDivisionError (by walk_at "mem") bt_ZeroDivisionError rfl ?_
  walk_at "ws"
  refine c_isH C (E.f x hx) z dk4 (fun _ r => r) (E.kitT x hx "ZeroDivisionError" (by decide)) ?_
  walk_at "ws"
  refine ⟨(by show 3 ≤ sizeLine; decide), fun p5 H5 hp5 e5 g5 => ?_⟩
  walk_at "ws"
  refine o_catL (e5 _ _ g4) g5 (by show 3 + 3 ≤ sizeLine; decide) fun p6 H6 hp6 e6 g6 => ?_
  walk_at "ws"
  refine ⟨(by show 6 ≤ sizeLine; decide), fun p7 H7 hp7 e7 g7 => ?_⟩
  walk_at "ws"
  have g6b := e7 _ _ g6
  have kd : [V.bl (decide (exIx x < 14)), V.bl (exTy x "ValueError"), V.bl (exTy x "KeyError")] ++ [V.bl (exTy x "IndexError"), V.bl (exTy x "LookupError"), V.bl (exTy x "ZeroDivisionError")] = [decide (exIx x < 14), exTy x "ValueError", exTy x "KeyError", exTy x "IndexError", exTy x "LookupError", exTy x "ZeroDivisionError"].map V.bl := rfl
  rw [kd] at g6b
  have ex7 := ((((((e0.trans e1).trans e2).trans e3).trans e4).trans e5).trans e6).trans e7
  have wl : ∀ x ∈ exNames, atI (([.str "rates", .str "spot", .str "share", .str "book", .str "place", .str "absent", .str "nothing", .str "table", .str "line", .str "spending", .str "rule"] : List V) ++ [.str "journey", .str "text", .str "many", .str "rate", .str "day", .str "name", .str "heads"]) (exIx x : Nat) = some (.str (exWord x)) := by decide +kernel
  have g3b := (((e4.trans e5).trans e6).trans e7) _ _ g3
  refine wS_cut (fun σ' H' => ∃ pd bs, σ' = [some (.ref a), some (.ref p0), some (.ref p3), some (.int (exIx x : Nat)), some (.ref p6), some (.ref pd)] ∧ Ex H7 H' ∧ H' pd = some (.lst (bs.map V.bl)) ∧ bs = [decide (exIx x < 14), exTy x "ValueError", exTy x "KeyError", exTy x "IndexError", exTy x "LookupError", exTy x "ZeroDivisionError"]) ?_ ?_
  · refine wS_if ?_
    walk_at "ws"
    refine iteD (fun h13 => ?_) (fun h13 => ?_)
    · walk_at "ws"
      refine ⟨(by show 6 ≤ sizeLine; decide), fun p8 H8 hp8 e8 g8 => ?_⟩
      walk_at "ws"
      refine ⟨p8, [false, false, decide ((exIx x : Int) = 16), decide ((exIx x : Int) = 15), decide ((exIx x : Int) < 17), decide ((exIx x : Int) = 17)], rfl, e8, g8, ?_⟩
      have k : ∀ x ∈ exNames, (13 : Int) < (exIx x : Int) → [false, false, decide ((exIx x : Int) = 16), decide ((exIx x : Int) = 15), decide ((exIx x : Int) < 17), decide ((exIx x : Int) = 17)] = [decide (exIx x < 14), exTy x "ValueError", exTy x "KeyError", exTy x "IndexError", exTy x "LookupError", exTy x "ZeroDivisionError"] := by decide +kernel
      exact k x hx h13
    · walk_at "ws"
      refine ⟨p7, [true, true, false, false, false, false], rfl, Ex.refl _, g7, ?_⟩
      have k : ∀ x ∈ exNames, ¬ (13 : Int) < (exIx x : Int) → [true, true, false, false, false, false] = [decide (exIx x < 14), exTy x "ValueError", exTy x "KeyError", exTy x "IndexError", exTy x "LookupError", exTy x "ZeroDivisionError"] := by decide +kernel
      exact k x hx h13
  rintro σ8 H8 ⟨pd, bs, rfl, e8, g8, rfl⟩
  walk_at "ws"
  refine o_eqBs hu (SqL.of (e8 _ _ g6b)) (SqL.of g8) ?_
  rw [decide_eq_true rfl]
  walk_at "ws"
  refine i_listH C (fun _ _ => rfl) (SqL.of (e8 _ _ g3b)) (wl x hx) ?_
  exact q H8 (ex7.trans e8)
end
/-! ### the law's own try: told, or the word of the refusal with its fields -/
abbrev saidC (P : Program) (w : World) (K : PySem.W.Frag) (mg : Str → Option Value) (base : Heap) (k : Nat) (suite : List Stmt) : Addr → Value → Option Addr → TS := fun a cls d D σ H => ∀ Xs oe, CxH P w K mg base k N__law_said V__law_said V__law_said G__law_said (defScope s__law_said) a oe Xs → IsE cls d oe → wB Xs suite D σ H
section
variable {P : Program} {w : World} {K : PySem.W.Frag} {mg : Str → Option Value} {base : Heap} {f C0 : Addr} {fd : FuncData} {q : Str}
def saidT : List Stmt := match defBody s__law_said with
  | [.Try _ hs _ _ _] => hs.flatMap fun | .ExceptHandler _ _ b _ => [.If (.Constant .none 0 ⟨0, 0, 0, 0⟩) b [] ⟨0, 0, 0, 0⟩]
  | _ => []
def suiteOf (i : Nat) : List Stmt := match saidT[i]? with
  | some (.If _ b _ _) => b
  | _ => []
theorem fld1 {nm : List Str} {x f : Str} {vs : List V} {cls : Value} {d : Option Addr} {H : Hp} (h : ExD nm K x vs cls d H) (e : exFields x = [f]) : ∃ dd fs v, d = some dd ∧ H dd = some (.xd fs) ∧ fs.lookup f = some v ∧ vs = [v] := by
  rcases h.dict with ⟨z, _⟩ | ⟨dd, fs, h1, h2, h3, h4⟩
  · rw [e] at z; cases z
  · rw [e] at h3 h4
    match vs, h3, h4 with
    | [v], _, h4 => exact ⟨dd, fs, v, h1, h2, h4 0 f v rfl rfl, rfl⟩
theorem fld2 {nm : List Str} {x f g : Str} {vs : List V} {cls : Value} {d : Option Addr} {H : Hp} (h : ExD nm K x vs cls d H) (e : exFields x = [f, g]) : ∃ dd fs v u, d = some dd ∧ H dd = some (.xd fs) ∧ fs.lookup f = some v ∧ fs.lookup g = some u ∧ vs = [v, u] := by
  rcases h.dict with ⟨z, _⟩ | ⟨dd, fs, h1, h2, h3, h4⟩
  · rw [e] at z; cases z
  · rw [e] at h3 h4
    match vs, h3, h4 with
    | [v, u], _, h4 => exact ⟨dd, fs, v, u, h1, h2, h4 0 f v rfl rfl, h4 1 g u rfl rfl, rfl⟩
theorem len3 {σ : L2.St} (h : σ.length = 3) : ∃ a b c, σ = [a, b, c] := match σ, h with
  | [a, b, c], _ => ⟨a, b, c, rfl⟩
/-- the first clause's suite -/
theorem p_suite0 (E : ExF exNames K mg) (DW : DE P w K mg base 2 "_law_word" "_law_e" (spWord K)) {x : Str} {vs : List V} {cls : Value} {d : Option Addr} {H : Hp} {Q : VK} {nx bk ct : L2.St → Hp → Prop} {s0 s2 : Option V} {a : Addr} {Xs : Cx} {oe : Obj} (h : ExD exNames K x vs cls d H) (hx14 : exIx x < 14)
    (q : ∀ p H', H p = none → Ex H H' → H' p = some (.tup (.str (exWord x) :: vs)) → Q (.ref p) H') (C : CxH P w K mg base 2 N__law_said V__law_said V__law_said G__law_said (defScope s__law_said) a oe Xs) (z : IsE cls d oe) : wB Xs (suiteOf 0) { nx := nx, rt := Q, bk := bk, ct := ct } [s0, some (.ref a), s2] H := by
  have hx := h.hx
  have ec := h.cls
  subst ec
  refine wB_cons' fun _ _ => ?_
  walk_at "ws"
  refine wE_callE C DW (by walk_at "mem") (by decide) z (by rfl) (by rfl) ?_
  walk_at "ws"
  refine ⟨rfl, x, hx, rfl, h.dok, fun H1 e1 => ?_⟩
  walk_at "ws"
  refine wS_if ?_
  walk_at "ws"
  refine ⟨(by show 3 ≤ sizeLine; decide), fun p1 H2 hp1 e2 g2 => ?_⟩
  refine o_inLH C (SqL.of g2) rfl rfl ?_
  have k1 : ∀ x ∈ exNames, inV (.str (exWord x)) [.str "spending", .str "rule", .str "journey"] = decide (exFields x = (["part"] : List Str)) := by decide +kernel
  rw [k1 x hx]
  walk_at "ws"
  have f2 : Ex H H2 := e1.trans e2
  refine iteD (fun hp => ?_) (fun hp => ?_)
  · obtain ⟨dd, fs, v, rfl, hd, hl, rfl⟩ := fld1 (h.ex f2) hp
    walk_at "ws"
    refine wE_fldH (fs := fs) (d := dd) C (E.f x hx) z (E.nof x hx "part" (by rw [hp]; exact List.mem_cons_self)) (by rfl) ?_
    walk_at "ws"
    refine ⟨rfl, hd, v, hl, ?_⟩
    walk_at "ws"
    refine ⟨(by show 2 ≤ sizeLine; decide), fun p3 H3 hp3 e3 g3 => ?_⟩
    exact q p3 H3 (f2.free hp3) (f2.trans e3) g3
  walk_at "ws"
  refine wS_if ?_
  walk_at "ws"
  refine o_eqSS ?_
  walk_at "ws"
  have k2 : ∀ x ∈ exNames, (exWord x = "text") = (exFields x = (["row"] : List Str)) := fun x hx => propext ((by decide +kernel : ∀ x ∈ exNames, exWord x = "text" ↔ exFields x = (["row"] : List Str)) x hx)
  rw [decide_eq_decide.mpr (iff_of_eq (k2 x hx))]
  refine iteD (fun hp => ?_) (fun hp2 => ?_)
  · obtain ⟨dd, fs, v, rfl, hd, hl, rfl⟩ := fld1 (h.ex f2) hp
    walk_at "ws"
    refine wE_fldH (fs := fs) (d := dd) C (E.f x hx) z (E.nof x hx "row" (by rw [hp]; exact List.mem_cons_self)) (by rfl) ?_
    walk_at "ws"
    refine ⟨rfl, hd, v, hl, ?_⟩
    walk_at "ws"
    refine ⟨(by show 2 ≤ sizeLine; decide), fun p3 H3 hp3 e3 g3 => ?_⟩
    exact q p3 H3 (f2.free hp3) (f2.trans e3) g3
  walk_at "ws"
  refine o_eqSS ?_
  walk_at "ws"
  have k3 : ∀ x ∈ exNames, (exWord x = "many") = (exFields x = (["many", "most"] : List Str)) := fun x hx => propext ((by decide +kernel : ∀ x ∈ exNames, exWord x = "many" ↔ exFields x = (["many", "most"] : List Str)) x hx)
  rw [decide_eq_decide.mpr (iff_of_eq (k3 x hx))]
  refine iteD (fun hp => ?_) (fun hp3 => ?_)
  · obtain ⟨dd, fs, v, u, rfl, hd, hl, hl2, rfl⟩ := fld2 (h.ex f2) hp
    walk_at "ws"
    refine wE_fldH (fs := fs) (d := dd) C (E.f x hx) z (E.nof x hx "many" (by rw [hp]; exact List.mem_cons_self)) (by rfl) ?_
    walk_at "ws"
    refine ⟨rfl, hd, v, hl, ?_⟩
    walk_at "ws"
    refine wE_fldH (fs := fs) (d := dd) C (E.f x hx) z (E.nof x hx "most" (by rw [hp]; exact List.mem_cons_of_mem _ List.mem_cons_self)) (by rfl) ?_
    walk_at "ws"
    refine ⟨rfl, hd, u, hl2, ?_⟩
    walk_at "ws"
    refine ⟨(by show 3 ≤ sizeLine; decide), fun p3 H3 hp3 e3 g3 => ?_⟩
    exact q p3 H3 (f2.free hp3) (f2.trans e3) g3
  have k4 : ∀ x ∈ exNames, exIx x < 14 → ¬ exFields x = (["part"] : List Str) → ¬ exFields x = (["row"] : List Str) → ¬ exFields x = (["many", "most"] : List Str) → exFields x = [] := by decide +kernel
  have ef := k4 x hx hx14 hp hp2 hp3
  have ev : vs = [] := by
    rcases h.dict with ⟨_, ev, _⟩ | ⟨dd, fs, h1, h2, h3, h4⟩
    · exact ev
    · rw [ef] at h3; exact List.length_eq_zero_iff.mp h3
  subst ev
  walk_at "ws"
  refine ⟨(by show 1 ≤ sizeLine; decide), fun p3 H3 hp3 e3 g3 => ?_⟩
  exact q p3 H3 (f2.free hp3) (f2.trans e3) g3
theorem p_suite1 (i : Nat) (x f : Str) (hi : (i = 1 ∧ x = "NoHeads" ∧ f = "heads") ∨ (i = 2 ∧ x = "NoName" ∧ f = "name") ∨ (i = 3 ∧ x = "NoDay" ∧ f = "day")) (E : ExF exNames K mg) (DW : DE P w K mg base 2 "_law_word" "_law_e" (spWord K)) {vs : List V} {cls : Value} {d : Option Addr} {H : Hp} {Q : VK} {nx bk ct : L2.St → Hp → Prop} {s0 s2 : Option V} {a : Addr} {Xs : Cx} {oe : Obj}
    (h : ExD exNames K x vs cls d H) (q : ∀ p H', H p = none → Ex H H' → H' p = some (.tup (.str (exWord x) :: vs)) → Q (.ref p) H') (C : CxH P w K mg base 2 N__law_said V__law_said V__law_said G__law_said (defScope s__law_said) a oe Xs) (z : IsE cls d oe) : wB Xs (suiteOf i) { nx := nx, rt := Q, bk := bk, ct := ct } [s0, some (.ref a), s2] H := by
  have hx := h.hx
  have ec := h.cls
  subst ec
  have ef : exFields x = [f] := by rcases hi with ⟨_, rfl, rfl⟩ | ⟨_, rfl, rfl⟩ | ⟨_, rfl, rfl⟩ <;> decide +kernel
  have go : ∀ H1, Ex H H1 → ∃ dd fs v, d = some dd ∧ H1 dd = some (.xd fs) ∧ fs.lookup f = some v ∧ vs = [v] := fun H1 e1 => fld1 (h.ex e1) ef
  rcases hi with ⟨rfl, rfl, rfl⟩ | ⟨rfl, rfl, rfl⟩ | ⟨rfl, rfl, rfl⟩
  all_goals
    refine wB_one ?_
    walk_at "ws"
    refine wE_callE C DW (by walk_at "mem") (by decide) z (by rfl) (by rfl) ?_
    walk_at "ws"
    refine ⟨rfl, _, hx, rfl, h.dok, fun H1 e1 => ?_⟩
    obtain ⟨dd, fs, v, rfl, hd, hl, rfl⟩ := go H1 e1
    walk_at "ws"
    refine wE_fldH (fs := fs) (d := dd) C (E.f _ hx) z (E.nof _ hx _ (by rw [ef]; exact List.mem_cons_self)) (by rfl) ?_
    walk_at "ws"
    refine ⟨rfl, hd, v, hl, ?_⟩
    walk_at "ws"
    refine ⟨(by show 2 ≤ sizeLine; decide), fun p3 H3 hp3 e3 g3 => ?_⟩
    exact q p3 H3 (e1.free hp3) (e1.trans e3) g3
theorem p_suite4 (E : ExF exNames K mg) (DW : DE P w K mg base 2 "_law_word" "_law_e" (spWord K)) {vs : List V} {cls : Value} {d : Option Addr} {H : Hp} {Q : VK} {nx bk ct : L2.St → Hp → Prop} {s0 s2 : Option V} {a : Addr} {Xs : Cx} {oe : Obj}
    (h : ExD exNames K "NoRate" vs cls d H) (q : ∀ p H', H p = none → Ex H H' → H' p = some (.tup (.str (exWord "NoRate") :: vs)) → Q (.ref p) H') (C : CxH P w K mg base 2 N__law_said V__law_said V__law_said G__law_said (defScope s__law_said) a oe Xs) (z : IsE cls d oe) : wB Xs (suiteOf 4) { nx := nx, rt := Q, bk := bk, ct := ct } [s0, some (.ref a), s2] H := by
  have hx := h.hx
  have ec := h.cls
  subst ec
  have ef : exFields "NoRate" = (["money", "day"] : List Str) := by decide +kernel
  refine wB_one ?_
  walk_at "ws"
  refine wE_callE C DW (by walk_at "mem") (by decide) z (by rfl) (by rfl) ?_
  walk_at "ws"
  refine ⟨rfl, _, hx, rfl, h.dok, fun H1 e1 => ?_⟩
  obtain ⟨dd, fs, v, u, rfl, hd, hl, hl2, rfl⟩ := fld2 (h.ex e1) ef
  walk_at "ws"
  refine wE_fldH (fs := fs) (d := dd) C (E.f _ hx) z (E.nof _ hx "money" (by rw [ef]; exact List.mem_cons_self)) (by rfl) ?_
  walk_at "ws"
  refine ⟨rfl, hd, v, hl, ?_⟩
  walk_at "ws"
  refine wE_fldH (fs := fs) (d := dd) C (E.f _ hx) z (E.nof _ hx "day" (by rw [ef]; exact List.mem_cons_of_mem _ List.mem_cons_self)) (by rfl) ?_
  walk_at "ws"
  refine ⟨rfl, hd, u, hl2, ?_⟩
  walk_at "ws"
  refine ⟨(by show 3 ≤ sizeLine; decide), fun p3 H3 hp3 e3 g3 => ?_⟩
  exact q p3 H3 (e1.free hp3) (e1.trans e3) g3
theorem p_said (F : Fn K "_law_said" "_law_said" s__law_said f fd) (gm : mg "_law_said" = some (.ref f)) (kp : PySem.W.keepIn K (.ref f) = true) (hb : Binds K fd ["_law_call"] []) (E : ExF exNames K mg) (DW : DE P w K mg base 2 "_law_word" "_law_e" (spWord K)) : Giv P w K mg base 3 "_law_said" q (TTsaid exNames K) := by
  obtain ⟨dvs, kws, F⟩ := F.ex
  obtain ⟨oc, od, dV, kV, doc, pm, an, cdv, ct, osl, rfl, lk, hcd, _, _⟩ := F.ex
  refine ⟨⟨f, "_law_call", N__law_said, _, _, _, dV, kV, doc, pm, cdv, ct, oc, an, od, osl, gm, kp, lk, hcd, hb, sc__law_said, rfl, .inl (by decide +kernel), by decide, by decide, ?_⟩⟩
  rintro X rfl rfl rfl rfl rfl hr
  intro fl c' s H Q tl act hc h
  refine ⟨_, pss_one (ps_try_clauses (X := (cxOf C8.CX0 X.prog X.w X.K X.mg X.base N__law_said "_law_said" (defScope s__law_said) f cdv X.A X.stack s H C8.E0).nox) (i := 1) (n := "_law_e") (Wout := fun _ _ _ _ => False)
    (l := [(.ref (exA X.K "PenceError"), saidC X.prog X.w X.K X.mg X.base 2 (suiteOf 0)), (.ref (exA X.K "NoHeads"), saidC X.prog X.w X.K X.mg X.base 2 (suiteOf 1)), (.ref (exA X.K "NoName"), saidC X.prog X.w X.K X.mg X.base 2 (suiteOf 2)), (.ref (exA X.K "NoDay"), saidC X.prog X.w X.K X.mg X.base 2 (suiteOf 3)), (.ref (exA X.K "NoRate"), saidC X.prog X.w X.K X.mg X.base 2 (suiteOf 4))])
    (tb := fun W D σ H => ∃ Ech : XK, (∀ cls d σ' H', Ech cls d H' → W cls d σ' H') ∧ σ[0]? = some (some (.ref fl)) ∧ H c' = some (LamX.CodeO c' q) ∧ tl Ech H (ToldQ D.rt))
    rfl rfl sc__law_said.nd rfl (show (defScope s__law_said).names.lookup ("_law_e" : Str) = some NameKind.local by decide +kernel) L2.takes0 (fun W pn xe tk po => ⟨fun pins s' σ H' D I hh => ?_⟩) ?_), ?_⟩
  · obtain ⟨Ech, hW, h1, h2, h3⟩ := hh
    exact (pss_one (ps_ret (pe_tup (pa_cons pe_str (pa_cons (act W pn xe Ech _ _ tk hW) pa_nil))))).run pins s' σ H' D I ⟨h1, h2, h3⟩
  · have nm : ∀ x, x ∈ G__law_said → X.mg x = some (.ref (exA X.K x)) → Names (cxOf C8.CX0 X.prog X.w X.K X.mg X.base N__law_said "_law_said" (defScope s__law_said) f cdv X.A X.stack s H C8.E0).nox x (.ref (exA X.K x)) := fun x hx hm => by
      have q := ok__law_said
      unfold namesOk at q
      simp only [Bool.and_eq_true] at q
      have z := List.all_eq_true.mp q.2 x hx
      simp only [Bool.and_eq_true, Bool.not_eq_true', beq_iff_eq] at z
      exact ⟨z.1.1, z.1.2, .inl hm⟩
    have cx : ∀ a oe pn, CxH X.prog X.w X.K X.mg X.base 2 N__law_said V__law_said V__law_said G__law_said (defScope s__law_said) a oe ((cxOf C8.CX0 X.prog X.w X.K X.mg X.base N__law_said "_law_said" (defScope s__law_said) f cdv X.A X.stack s H C8.E0).nox.suite a ((a, oe) :: pn)) := fun a oe pn =>
      ⟨rfl, rfl, rfl, rfl, rfl, rfl, rfl, let r := (hr.deeper (envOfC "_law_said" (defScope s__law_said) s.heap.objs.size f cdv)); ⟨r.dp, r.un⟩, rfl, List.mem_cons_self, fun _ => rfl, sc__law_said.nd, ok__law_said, sc__law_said.kind⟩
    refine .cons (nm "PenceError" (by decide) E.gp) (fun a oe cls d pn z1 z2 => ⟨fun pins s' σ H' D I hh => (hh _ oe (cx a oe pn) ⟨z1, z2⟩).run pins s' I⟩) ?_
    refine .cons (nm "NoHeads" (by decide) (E.g _ (by decide))) (fun a oe cls d pn z1 z2 => ⟨fun pins s' σ H' D I hh => (hh _ oe (cx a oe pn) ⟨z1, z2⟩).run pins s' I⟩) ?_
    refine .cons (nm "NoName" (by decide) (E.g _ (by decide))) (fun a oe cls d pn z1 z2 => ⟨fun pins s' σ H' D I hh => (hh _ oe (cx a oe pn) ⟨z1, z2⟩).run pins s' I⟩) ?_
    refine .cons (nm "NoDay" (by decide) (E.g _ (by decide))) (fun a oe cls d pn z1 z2 => ⟨fun pins s' σ H' D I hh => (hh _ oe (cx a oe pn) ⟨z1, z2⟩).run pins s' I⟩) ?_
    refine .cons (nm "NoRate" (by decide) (E.g _ (by decide))) (fun a oe cls d pn z1 z2 => ⟨fun pins s' σ H' D I hh => (hh _ oe (cx a oe pn) ⟨z1, z2⟩).run pins s' I⟩) .nil
  · refine ⟨saidX exNames X.K Q, fun cls d σ' H' hs => ?_, rfl, hc, h⟩
    obtain ⟨x, vs, hd, hq⟩ := hs
    have hx := hd.hx
    have ec := hd.cls
    have no : ∀ (b : Bool) (R : Prop), b = false → b = true → R := fun b R z1 z2 => by rw [z1] at z2; cases z2
    by_cases h14 : exIx x < 14
    · refine ⟨true, by rw [ec]; exact (E.exP x hx).trans (congrArg some (decide_eq_true h14)), fun _ hl a na => ?_, fun z => by cases z⟩
      obtain ⟨s0, s1, s2, rfl⟩ := len3 hl
      exact fun Xs oe C z => p_suite0 E DW hd h14 hq C z
    refine ⟨false, by rw [ec]; exact (E.exP x hx).trans (congrArg some (decide_eq_false h14)), (fun z => by cases z), fun _ => ?_⟩
    have four : ∀ x ∈ exNames, ¬ exIx x < 14 → x = "NoHeads" ∨ x = "NoName" ∨ x = "NoDay" ∨ x = "NoRate" := by decide +kernel
    by_cases h1 : x = "NoHeads"
    · subst h1
      refine ⟨true, by rw [ec]; exact (E.exm _ hx _ (by decide) (by decide)).trans rfl, fun _ hl a na => ?_, fun z => by cases z⟩
      obtain ⟨s0, s1, s2, rfl⟩ := len3 hl
      exact fun Xs oe C z => p_suite1 1 _ _ (.inl ⟨rfl, rfl, rfl⟩) E DW hd hq C z
    refine ⟨false, by rw [ec]; exact (E.exm _ hx _ (by decide) (by decide)).trans (congrArg some (decide_eq_false h1)), (fun z => by cases z), fun _ => ?_⟩
    by_cases h2 : x = "NoName"
    · subst h2
      refine ⟨true, by rw [ec]; exact (E.exm _ hx _ (by decide) (by decide)).trans rfl, fun _ hl a na => ?_, fun z => by cases z⟩
      obtain ⟨s0, s1, s2, rfl⟩ := len3 hl
      exact fun Xs oe C z => p_suite1 2 _ _ (.inr (.inl ⟨rfl, rfl, rfl⟩)) E DW hd hq C z
    refine ⟨false, by rw [ec]; exact (E.exm _ hx _ (by decide) (by decide)).trans (congrArg some (decide_eq_false h2)), (fun z => by cases z), fun _ => ?_⟩
    by_cases h3 : x = "NoDay"
    · subst h3
      refine ⟨true, by rw [ec]; exact (E.exm _ hx _ (by decide) (by decide)).trans rfl, fun _ hl a na => ?_, fun z => by cases z⟩
      obtain ⟨s0, s1, s2, rfl⟩ := len3 hl
      exact fun Xs oe C z => p_suite1 3 _ _ (.inr (.inr ⟨rfl, rfl, rfl⟩)) E DW hd hq C z
    refine ⟨false, by rw [ec]; exact (E.exm _ hx _ (by decide) (by decide)).trans (congrArg some (decide_eq_false h3)), (fun z => by cases z), fun _ => ?_⟩
    have h4 : x = "NoRate" := by
      rcases four x hx h14 with z | z | z | z
      · exact absurd z h1
      · exact absurd z h2
      · exact absurd z h3
      · exact z
    subst h4
    refine ⟨true, by rw [ec]; exact (E.exm _ hx _ (by decide) (by decide)).trans rfl, fun _ hl a na => ?_, fun z => by cases z⟩
    obtain ⟨s0, s1, s2, rfl⟩ := len3 hl
    exact fun Xs oe C z => p_suite4 E DW hd hq C z
end
/-! ### the rate, told and held against -/
abbrev qLam : Str := ("_law_right" : Str) ++ ".<locals>." ++ "<lambda>"
abbrev qLam2 : Str := ("law" : Str) ++ ".<locals>." ++ "<lambda>"
abbrev tLaw (PT PT2 : Addr) : List (Addr × Str) := [(PT, qLam), (PT2, qLam2)]
theorem Tab.extN {K : PySem.W.Frag} {H H' : Hp} {p : Addr} {rs : List Rt} (t : Tab K H p rs) (e : LamX.ExtN H H') : Tab K H' p rs := by
  obtain ⟨qs, h, pr⟩ := t
  exact ⟨qs, extN_tup e h, Paired.mapP pr fun a b z => extN_tup e z⟩
theorem so_rate : PyData.strOk "rate" = true := by decide +kernel
theorem so_told : PyData.strOk "told" = true := by decide +kernel
def dueP (rs : List Rt) (m d : Int) : List PyData := match rateAll rs m d with
  | some (t, b) => [.str "told", .tuple [.int t, .int b]]
  | none => [.str "rate", .int m, .int d]
theorem dueP_ok (rs : List Rt) (m d : Int) : SeqAt.shaped (.tuple (dueP rs m d)) = true := by
  unfold dueP SeqAt.shaped
  split <;> simp [PyData.canLay0, PyData.canLayAll0, PyData.depth, PyData.depthAll, so_rate, so_told]
theorem shp_refl {d : PyData} (h : SeqAt.shaped d = true) : PyData.eqv d d = true := SeqAt.eqv_refl d (SeqAt.canLay_of_shaped h)
/-- what is due, in the heap -/
def DueAt (H : Hp) (p : Addr) (rs : List Rt) (m d : Int) : Prop := (∃ (q : Addr) (t b : Int), rateAll rs m d = some (t, b) ∧ H p = some (.tup [.str "told", .ref q]) ∧ H q = some (.tup [.int t, .int b])) ∨ (rateAll rs m d = none ∧ H p = some (.tup [.str "rate", .int m, .int d]))
theorem DueAt.n {H H' : Hp} {p : Addr} {rs : List Rt} {m d : Int} (h : DueAt H p rs m d) (e : LamX.ExtN H H') : DueAt H' p rs m d := by
  rcases h with ⟨q, t, b, h1, h2, h3⟩ | ⟨h1, h2⟩
  · exact .inl ⟨q, t, b, h1, extN_tup e h2, extN_tup e h3⟩
  · exact .inr ⟨h1, extN_tup e h2⟩
theorem DueAt.dp {K : PySem.W.Frag} {H : Hp} {p : Addr} {rs : List Rt} {m d : Int} (h : DueAt H p rs m d) : Dp K H (.ref p) (.tuple (dueP rs m d)) := by
  rcases h with ⟨q, t, b, h1, h2, h3⟩ | ⟨h1, h2⟩
  · unfold dueP
    rw [h1]
    exact .tup (.of h2) (.cons (.str _) (.cons (.tup (.of h3) (.cons (.int _) (.cons (.int _) .nil))) .nil))
  · unfold dueP
    rw [h1]
    exact .tup (.of h2) (.cons (.str _) (.cons (.int _) (.cons (.int _) .nil)))
/-- the word of what is due -/
def dueW (rs : List Rt) (m d : Int) : Str := match rateAll rs m d with
  | some _ => "told"
  | none => "rate"
def spRightR (K : PySem.W.Frag) (PT PT2 : Addr) : Sp := fun vs H Q _ => ∃ (p : Addr) (rs : List Rt) (m d : Int), vs = [.ref p, .int m, .int d] ∧ Tab K H p rs ∧ RatesOk rs ∧ 0 ≤ m ∧ m ≤ 3 ∧ 0 ≤ d ∧ d ≤ 59 ∧ LamX.Tabs (tLaw PT PT2) H ∧ ∀ H', LamX.ExtN H H' → LamX.Tabs (tLaw PT PT2) H' → Q (.bl true) H'
def gRD : List V → List V → List V := fun vs zs => vs ++ zs.take 1 ++ zs.drop 2 ++ (zs.drop 1).take 1
section
variable {P : Program} {w : World} {K : PySem.W.Frag} {mg : Str → Option Value} {base : Heap} {k : Nat} {N Vz Sz G : List Str} {sc : Scope} {X : Cx} {σ : L2.St} {H : Hp} {Q : VK}
theorem o_eqD0 {a b : Addr} {d : PyData} (C : CxI P w K mg base k N Vz Sz G sc X) (h1 : Dp K H (.ref a) d) (h2 : Dp K H (.ref b) d) (hs : SeqAt.shaped d = true) (he : PyData.eqv d d = true) (q : Q (.bl true) H) : wO X (compareOp .Eq) (.ref a) (.ref b) H Q := by
  exact wO.of (op_eqD C.room.units) ⟨d, d, by rw [C.eK]; exact h1, by rw [C.eK]; exact h2, hs, hs, by rw [he]; exact q⟩
theorem o_eqBB {a b : Bool} (C : CxI P w K mg base k N Vz Sz G sc X) (q : Q (.bl (decide (a = b))) H) : wO X (compareOp .Eq) (.bl a) (.bl b) H Q :=
  wO.of (op_eqD C.room.units) ⟨.bool a, .bool b, .bl a, .bl b, by cases a <;> rfl, by cases b <;> rfl, by
    have e : PyData.eqv (.bool a) (.bool b) = decide (a = b) := by cases a <;> cases b <;> rfl
    rw [e]; exact q⟩
end
section
variable {P : Program} {w : World} {K : PySem.W.Frag} {mg : Str → Option Value} {base : Heap} {f C0 c PT PT2 : Addr} {fd : FuncData}
theorem said_rate {Q : VK} {H : Hp} {p : Addr} {m d : Int} {rs : List Rt} (ht : Tab K H p rs) (ro : RatesOk rs) (m0 : 0 ≤ m) (m1 : m ≤ 3) (d0 : 0 ≤ d) (d1 : d ≤ 59) (q : ∀ p H', H p = none → Ex H H' → DueAt H' p rs m d → Q (.ref p) H') :
    spRateX K (exA K "NoRate") [.ref p, .int m, .int d] H (ToldQ Q) (saidX exNames K Q) := by
  refine ⟨p, rs, m, d, rfl, ht, ro, m0, m1, d0, d1, fun t b hr qa H' e g => told_i fun p H2 hp e2 g2 => ?_, fun hr dd H' e g => ?_⟩
  · exact q p H2 (e.free hp) (e.trans e2) (.inl ⟨qa, t, b, hr, g2, e2 _ _ g⟩)
  · refine ⟨"NoRate", [.int m, .int d], ⟨by decide, rfl, .inr ⟨dd, _, rfl, g, rfl, ?_⟩⟩, fun p H2 hp e2 g2 => ?_⟩
    · intro i f v h1 h2
      have ef : exFields "NoRate" = (["money", "day"] : List Str) := by decide +kernel
      rw [ef] at h1
      match i, h1, h2 with
      | 0, h1, h2 => cases h1; cases h2; rfl
      | 1, h1, h2 => cases h1; cases h2; rfl
      | i + 2, h1, _ => simp at h1
    · exact q p H2 (e.free hp) (e.trans e2) (.inr ⟨hr, by rw [show exWord "NoRate" = "rate" from by decide +kernel] at g2; exact g2⟩)
theorem p_right (F : Fn K "_law_right" "_law_right" s__law_right f fd) (hcd : ∀ oc od osl, K.lookup f = some ⟨oc, od, .func fd, osl⟩ → fd.code = .ref c) (tb : LamX.TabB base mg c PT) (nP : PT ≠ PT2)
    (DU : Df P w K mg base 1 "_law_rate" ["_law_table", "_law_coin", "_law_when"] [] (spLRate K)) (DR : Dx P w K mg base 6 "rate_on" ["rates", "money", "day"] [] (spRateX K (exA K "NoRate"))) (DK : Dk P w K mg base 6 "rate_on" 0 ["rates", "day", "money"] gRD (spRateX K (exA K "NoRate")))
    (DSaid : Giv P w K mg base 3 "_law_said" qLam (TTsaid exNames K)) : FnG P w K mg base CX0 10 f fd ["_law_table", "_law_coin", "_law_when"] (spRightR K PT PT2) := by
  refine fn_wGL F hcd tb sc__law_right ok__law_right (fun vs H Q E h => by obtain ⟨p, rs, m, d, rfl, _⟩ := h; rfl) (fun X vs H Q _ C gd M h => ?_)
  obtain ⟨p, rs, m, d, rfl, ht, ro, m0, m1, d0, d1, hTb, q⟩ := h
  show wB X _ _ [some (.ref p), some (.int m), some (.int d), none] H
  have hmT : (PT, qLam) ∈ tLaw PT PT2 := List.mem_cons_self
  have huT : ∀ p ∈ tLaw PT PT2, p.1 = PT → p.2 = qLam := fun p hp e => by
    rcases List.mem_cons.mp hp with h | h
    · rw [h]
    · rw [List.mem_singleton.mp h] at e; exact absurd e.symm nP
  refine wB_cons' fun _ _ => ?_
  walk_at "ws"
  refine wE_call C DU (by walk_at "mem") (by decide) (by rfl) (by rfl) ?_
  walk_at "ws"
  refine ⟨p, rs, m, d, rfl, ht, fun x H1 e1 hx => ?_⟩
  walk_at "st"
  refine wS_cut (fun σ H2 => ∃ pd : Addr, σ = [some (.ref p), some (.int m), some (.int d), some (.ref pd)] ∧ DueAt H2 pd rs m d ∧ Ex H1 H2) ?_ ?_
  · walk_at "ws"
    rcases hx with ⟨rfl, hn⟩ | ⟨qa, t, b, rfl, hq, hs⟩
    · refine iteDT rfl ?_
      walk_at "ws"
      refine ⟨(by show 3 ≤ sizeLine; decide), fun pd H2 hpd e2 g2 => ?_⟩
      walk_at "ws"
      exact ⟨pd, rfl, .inr ⟨hn, g2⟩, e2⟩
    · refine iteDF (fun z => by cases z) ?_
      walk_at "ws"
      refine ⟨(by show 2 ≤ sizeLine; decide), fun pd H2 hpd e2 g2 => ?_⟩
      walk_at "ws"
      exact ⟨pd, rfl, .inl ⟨qa, t, b, hs, g2, e2 _ _ hq⟩, e2⟩
  rintro _ H2 ⟨pd, rfl, du, e2⟩
  have e12 : LamX.ExtN H H2 := (e1.trans e2).n
  have ht2 := ht.extN e12
  have tT2 := (hTb.ext e1).ext e2
  clear hx hTb e1 e2 ht
  walk_at "ws"
  refine wS_if ?_
  walk_at "ws"
  refine wE_lam (kl := 6) (Vc := ["_law_coin", "_law_table", "_law_when"]) (Gc := ["rate_on"]) C M DSaid (by walk_at "mem") (by decide) (by decide) hmT huT (by decide +kernel) (by rfl) (fun _ _ _ _ _ => rfl) (by decide +kernel) (by rfl) ⟨tT2, fun HL eL tL => ?_⟩
  intro X1 C1 T1
  refine wE_callX C1 T1 DR (by walk_at "mem") (by decide) (by rfl) (by rfl) ?_
  walk_at "ws"
  refine said_rate (ht2.extN eL) ro m0 m1 d0 d1 fun p3 H3 hp3 e3 g3 => ?_
  have x3 := eL.trans e3.n
  have tT3 := tL.ext e3
  clear C1 T1 tL
  walk_at "ws"
  refine o_neD0 C g3.dp (du.n x3).dp (dueP_ok rs m d) (shp_refl (dueP_ok rs m d)) ?_
  walk_at "ws"
  refine wE_lam (kl := 6) (Vc := ["_law_coin", "_law_table", "_law_when"]) (Gc := ["rate_on"]) C M DSaid (by walk_at "mem") (by decide) (by decide) hmT huT (by decide +kernel) (by rfl) (fun _ _ _ _ _ => rfl) (by decide +kernel) (by rfl) ⟨tT3, fun HL eL tL => ?_⟩
  intro X1 C1 T1
  refine wE_callKX C1 T1 DK (by walk_at "mem") (by decide) (by rfl) (by rfl) (by rfl) ?_
  walk_at "ws"
  refine ⟨rfl, ?_⟩
  have x4 := x3.trans eL
  refine said_rate (ht2.extN x4) ro m0 m1 d0 d1 fun p4 H4 hp4 e4 g4 => ?_
  have x5 := x4.trans e4.n
  have tT4 := tL.ext e4
  clear C1 T1 tL
  walk_at "ws"
  refine o_eqD0 C g4.dp (du.n x5).dp (dueP_ok rs m d) (shp_refl (dueP_ok rs m d)) ?_
  walk_at "ws"
  exact q H4 (e12.trans x5) tT4
end
def mealR : Row := ⟨("meal" : Str), 7, 0, true, 1, 3⟩
theorem mealR_ok : mealR.Ok := by
  refine ⟨(by decide +kernel : inV (.str ("meal" : Str)) kindsL = true), ?_, ?_, ?_, ?_, ?_, ?_, ?_, ?_⟩ <;> decide
def gMoney : List V → List V → List V := fun vs zs => vs ++ [.int 0, .bl true, .int 1] ++ zs
def spRateU (K : PySem.W.Frag) (CR CN : Addr) : Sp := fun vs H Q E => spRateX K CR vs H Q E ∨ spRateN K CN vs H Q E
def spShareU (K : PySem.W.Frag) (C0 CR CN : Addr) : Sp := fun vs H Q E => spShareX K C0 CR vs H Q E ∨ spShareN K CN vs H Q E
theorem isRates_n {K : PySem.W.Frag} {H H' : Hp} {v : V} {rs : List Rt} (h : IsRates K H v rs) (e : LamX.ExtN H H') : IsRates K H' v rs := by
  obtain ⟨p, rfl, t, o⟩ := h
  exact ⟨p, rfl, t.extN e, o⟩
theorem isRates_back {K : PySem.W.Frag} {H H' : Hp} {v : V} {rs : List Rt} (th : Th3 H v) (e : LamX.ExtN H H') (h : IsRates K H' v rs) : IsRates K H v rs := by
  obtain ⟨p, rfl, ⟨qs, h1, h2⟩, o⟩ := h
  have hp := th.1.back e h1
  have each : ∀ q ∈ qs, ∀ ys, H' q = some (.tup ys) → H q = some (.tup ys) := fun q hq ys g => (th.2 p _ rfl hp (.ref q) (List.mem_map.mpr ⟨q, hq, rfl⟩)).1.back e g
  refine ⟨p, rfl, ⟨qs, hp, ?_⟩, o⟩
  clear h1 hp o
  induction h2 with
  | nil => exact .nil
  | cons z t ih => exact .cons (each _ List.mem_cons_self _ z) (ih fun q hq => each q (List.mem_cons_of_mem _ hq))
/-- the word that is said of a thing -/
def Wd (K : PySem.W.Frag) (H : Hp) (v : V) (z : Str) : Prop := (∃ rs, IsRates K H v rs ∧ z = dueW rs 3 0) ∨ ((∀ rs, ¬ IsRates K H v rs) ∧ z = "rates")
theorem Wd.ex (K : PySem.W.Frag) (H : Hp) (v : V) : ∃ z, Wd K H v z := by
  by_cases h : ∃ rs, IsRates K H v rs
  · obtain ⟨rs, h⟩ := h
    exact ⟨_, .inl ⟨rs, h, rfl⟩⟩
  · exact ⟨_, .inr ⟨fun rs g => h ⟨rs, g⟩, rfl⟩⟩
theorem Wd.n {K : PySem.W.Frag} {H H' : Hp} {v : V} {z : Str} (w : Wd K H v z) (th : Th3 H v) (e : LamX.ExtN H H') : Wd K H' v z := by
  rcases w with ⟨rs, h, rfl⟩ | ⟨h, rfl⟩
  · exact .inl ⟨rs, isRates_n h e, rfl⟩
  · exact .inr ⟨fun rs g => h rs (isRates_back th e g), rfl⟩
theorem dueW_ne (rs : List Rt) (m d : Int) : dueW rs m d ≠ ("rates" : Str) := by
  unfold dueW
  split <;> decide +kernel
theorem Wd.iff {K : PySem.W.Frag} {H : Hp} {v : V} {z : Str} {b : Bool} (w : Wd K H v z) (h : b = true ↔ ∃ rs, IsRates K H v rs) : decide (z = ("rates" : Str)) = !b := by
  rcases w with ⟨rs, g, rfl⟩ | ⟨g, rfl⟩
  · rw [h.mpr ⟨rs, g⟩, decide_eq_false (dueW_ne rs 3 0)]; rfl
  · have : b = false := by
      cases b
      · rfl
      · obtain ⟨rs, k⟩ := h.mp rfl
        exact absurd k (g rs)
    rw [this]
    exact decide_eq_true rfl
section
variable {P : Program} {w : World} {K : PySem.W.Frag} {mg : Str → Option Value} {base : Heap} {f C0 c PT PT2 : Addr} {fd : FuncData}
theorem rates_said {Q : VK} {H : Hp} (q : ∀ p H' rest, H p = none → Ex H H' → H' p = some (.tup (.str "rates" :: rest)) → Q (.ref p) H') : saidX exNames K Q (.ref (exA K "NoRates")) none H :=
  ⟨"NoRates", [], ⟨by decide, rfl, .inl ⟨by decide +kernel, rfl, fun d e => by cases e⟩⟩, fun p H' hp e h => q p H' [] hp e (by rw [show exWord "NoRates" = "rates" from by decide +kernel] at h; exact h)⟩
theorem due_word {H : Hp} {p : Addr} {rs : List Rt} {m d : Int} (h : DueAt H p rs m d) : ∃ rest, H p = some (.tup (.str (dueW rs m d) :: rest)) := by
  rcases h with ⟨q, t, b, h1, h2, h3⟩ | ⟨h1, h2⟩
  · exact ⟨_, by unfold dueW; rw [h1]; exact h2⟩
  · exact ⟨_, by unfold dueW; rw [h1]; exact h2⟩
theorem said_rateU {Q : VK} {H : Hp} {v : V} {z : Str} (w : Wd K H v z) (th : Th3 H v) (q : ∀ p H' rest, H p = none → Ex H H' → H' p = some (.tup (.str z :: rest)) → Q (.ref p) H') :
    spRateU K (exA K "NoRate") (exA K "NoRates") [v, .int 3, .int 0] H (ToldQ Q) (saidX exNames K Q) := by
  rcases w with ⟨rs, ⟨p, rfl, t, o⟩, rfl⟩ | ⟨h, rfl⟩
  · refine .inl (said_rate t o (by decide) (by decide) (by decide) (by decide) fun p H' hp e g => ?_)
    obtain ⟨rest, g⟩ := due_word g
    exact q p H' rest hp e g
  · exact .inr ⟨v, .int 3, .int 0, rfl, th, h, fun H' e => rates_said fun p H2 rest hp e2 g => q p H2 rest (e.free hp) (e.trans e2) g⟩
theorem said_shareU {Q : VK} {H : Hp} {v : V} {z : Str} {s dx : Addr} (w : Wd K H v z) (th : Th3 H v) (nv : v ≠ .non) (hs : H s = some (.ins C0 dx mealR.fs)) (q : ∀ p H' rest, H p = none → Ex H H' → H' p = some (.tup (.str z :: rest)) → Q (.ref p) H') :
    spShareU K C0 (exA K "NoRate") (exA K "NoRates") [.ref s, v] H (ToldQ Q) (saidX exNames K Q) := by
  rcases w with ⟨rs, ⟨p, rfl, t, o⟩, rfl⟩ | ⟨h, rfl⟩
  · refine .inl ⟨s, dx, .ref p, mealR, rs, rfl, hs, mealR_ok, .inr ⟨p, rfl, t⟩, o, fun t b hr H' e => told_i fun p H2 hp e2 g2 => ?_, fun hr dd H' e g => ?_⟩
    · have hr : rateAll rs 3 0 = some (t, b) := hr
      exact q p H2 _ (e.free hp) (e.trans e2) (by unfold dueW; rw [hr]; exact g2)
    · have hr : rateAll rs 3 0 = none := hr
      refine ⟨"NoRate", [.int 3, .int 0], ⟨by decide, rfl, .inr ⟨dd, _, rfl, g, rfl, ?_⟩⟩, fun p H2 hp e2 g2 => ?_⟩
      · intro i f v h1 h2
        have ef : exFields "NoRate" = (["money", "day"] : List Str) := by decide +kernel
        rw [ef] at h1
        match i, h1, h2 with
        | 0, h1, h2 => cases h1; cases h2; rfl
        | 1, h1, h2 => cases h1; cases h2; rfl
        | i + 2, h1, _ => simp at h1
      · exact q p H2 _ (e.free hp) (e.trans e2) (by unfold dueW; rw [hr]; rw [show exWord "NoRate" = "rate" from by decide +kernel] at g2; exact g2)
  · exact .inr ⟨v, .ref s, rfl, nv, th, h, fun H' e => rates_said fun p H2 rest hp e2 g => q p H2 rest (e.free hp) (e.trans e2) g⟩
end
section
variable {P : Program} {w : World} {K : PySem.W.Frag} {mg : Str → Option Value} {base : Heap} {k : Nat} {N Vz Sz G : List Str} {sc : Scope} {X : Cx} {σ : L2.St} {H : Hp} {Q : VK} {v : V}
theorem o_inLF {ad : Addr} {xs : List V} (C : CxI P w K mg base k N Vz Sz G sc X) (h : SqL K H ad xs) (h1 : flatV v = true) (h2 : xs.all flatV = true) (q : Q (.bl (inV v xs)) H) : wO X (compareOp .In) v (.ref ad) H Q :=
  wO.of op_in_seq ⟨ad, xs, rfl, .inl (by rw [C.eK]; exact h), h1, h2, q⟩
end
def spLaw (K : PySem.W.Frag) (PT PT2 : Addr) : Sp := fun vs H Q _ => ∃ (a : Addr) (ns : List Int), vs = [.ref a] ∧ SqL K H a (ns.map V.int) ∧ ns.length ≤ 63 ∧ LamX.Tabs (tLaw PT PT2) H ∧ ∀ H', Q (.bl true) H'
theorem in_word {z : Str} {zs : List V} {b : Bool} (h : zs = [.str z] ∨ zs = [.str z, .str z]) (zb : decide (z = ("rates" : Str)) = !b) : inV (.str ("rates" : Str)) zs = !b := by
  rw [← zb]
  have e : inV (.str ("rates" : Str)) [.str z] = decide (z = ("rates" : Str)) := by
    rw [Bool.eq_iff_iff]
    unfold inV
    simp [eqV]
  have e2 : inV (.str ("rates" : Str)) [.str z, .str z] = decide (z = ("rates" : Str)) := by
    rw [Bool.eq_iff_iff]
    unfold inV
    simp [eqV]
  rcases h with rfl | rfl
  · exact e
  · exact e2
theorem ends_word {z : Str} {zs : List V} (h : zs = [.str z] ∨ zs = [.str z, .str z]) : atI zs 0 = some (.str z) ∧ atI zs (-1) = some (.str z) ∧ zs.all flatV = true := by
  rcases h with rfl | rfl
  · exact ⟨rfl, rfl, rfl⟩
  · exact ⟨rfl, rfl, rfl⟩
/-- the heap without the box -/
def holeH (b : Addr) (H : Hp) : Hp := fun x => if x = b then none else H x
theorem hole_get {b x : Addr} {H : Hp} {o : HO} (n : x ≠ b) (h : H x = some o) : holeH b H x = some o := by
  unfold holeH
  rw [if_neg n]; exact h
theorem hole_ex {b : Addr} {H H' : Hp} (e : Exb b H H') : LamX.ExtN (holeH b H) H' := fun x o h _ => by
  unfold holeH at h
  by_cases n : x = b
  · rw [if_pos n] at h; cases h
  · rw [if_neg n] at h; exact e x o n h
local macro_rules | `(tactic| walk_at "w1") => `(tactic| first
  | with_reducible refine wE_slToH (by assumption) ?_
  | with_reducible refine wE_slFromH (by assumption) ?_)
section
variable {P : Program} {w : World} {K : PySem.W.Frag} {mg : Str → Option Value} {base : Heap} {f C0 c PT PT2 : Addr} {fd : FuncData}
theorem p_law (F : Fn K "law" "law" s_law f fd) (hcd : ∀ oc od osl, K.lookup f = some ⟨oc, od, .func fd, osl⟩ → fd.code = .ref c) (tb : LamX.TabB base mg c PT2) (nP : PT ≠ PT2) (T : Txt2 K mg) (tmax : mg "max" = none) (tmin : mg "min" = none) (trepr : mg "repr" = none)
    (DB : Df P w K mg base 1 "_law_box" ["_law_script", "_law_k"] [] (spBox K)) (DT : Df P w K mg base 2 "_law_take" ["_law_box_here", "_law_count"] [] spTake) (DA : Df P w K mg base 3 "_law_rates" ["_law_box_here"] [] (spRates K))
    (DE : Df P w K mg base 4 "_law_bent" ["_law_box_here", "_law_table"] [] (spBent K)) (DL : Df P w K mg base 2 "_law_are" ["_law_thing"] [] (spLAre K)) (DO : Df P w K mg base 1 "_law_odd_rates" [] [] (spOddR K))
    (DRi : Dg P w K mg base 10 "_law_right" ["_law_table", "_law_coin", "_law_when"] [] (spRightR K PT PT2)) (DSaid : Giv P w K mg base 3 "_law_said" qLam2 (TTsaid exNames K))
    (DR : Dx P w K mg base 6 "rate_on" ["rates", "money", "day"] [] (spRateU K (exA K "NoRate") (exA K "NoRates"))) (DS : Dx P w K mg base 7 "share_of" ["spending", "rates"] [] (spShareU K C0 (exA K "NoRate") (exA K "NoRates")))
    (MM : Mf P w K mg base 4 "Spending" C0 2 ["money"] gMoney (spInit C0)) : FnG P w K mg base CX0 11 f fd ["_law_script"] (spLaw K PT PT2) := by
  refine fn_wGL F hcd tb sc_law ok_law (fun vs H Q E h => by obtain ⟨a, ns, rfl, _⟩ := h; rfl) (fun X vs H Q _ C gd M h => ?_)
  obtain ⟨a, ns, rfl, hS, hlen, hTb, q⟩ := h
  show wB X _ _ [some (.ref a), none, none, none, none, none, none, none, none, none, none, none, none, none] H
  have hmT : (PT2, qLam2) ∈ tLaw PT PT2 := List.mem_cons_of_mem _ List.mem_cons_self
  have huT : ∀ p ∈ tLaw PT PT2, p.1 = PT2 → p.2 = qLam2 := fun p hp e => by
    rcases List.mem_cons.mp hp with h | h
    · rw [h] at e; exact absurd e nP
    · rw [List.mem_singleton.mp h]
  refine wB_cons' fun _ _ => ?_
  refine wS_range1 C T.range (by walk_at "mem") (by rfl) ?_
  walk_at "ws"
  refine wE_callB C tmax (by walk_at "mem") boot_max (by rfl) (by rfl) ?_
  walk_at "ws"
  refine wE_callB C tmin (by walk_at "mem") boot_min (by rfl) (by rfl) ?_
  walk_at "ws"
  refine wE_callB C T.len (by walk_at "mem") boot_len (by rfl) (by rfl) ?_
  walk_at "ws"
  refine c_lenL C hS ?_
  walk_at "ws"
  refine c_min C ?_
  walk_at "ws"
  refine c_max C ?_
  walk_at "ws"
  refine ⟨Int.toNat _, congrArg V.int (Int.toNat_of_nonneg ?_).symm, ?_, ?_⟩
  · split <;> omega
  · split <;> (try split) <;> omega
  refine ⟨fun i σ H' => ∃ y1 y2 y3 y4 y5 y6 y7 y8 y9 y10 y11, σ = [some (.ref a), y1, y2, y3, y4, y5, y6, y7, y8, y9, y10, y11, none, none] ∧ LamX.Tabs (tLaw PT PT2) H' ∧ SqL K H' a (ns.map V.int), ⟨none, none, none, none, none, none, none, none, none, none, none, rfl, hTb, hS⟩, ?_, ?_⟩
  · clear hTb hS
    rintro i σ H0 hi ⟨y1, y2, y3, y4, y5, y6, y7, y8, y9, y10, y11, rfl, tT, hS⟩
    refine wG_name C (by walk_at "mem") ?_
    walk_at "ws"
    refine wE_call C DB (by walk_at "mem") (by decide) (by rfl) (by rfl) ?_
    walk_at "ws"
    refine ⟨a, ns, i, rfl, hS, by omega, fun b n m H1 hb0 e1 h1 => ?_⟩
    have tT1 := tT.ext e1
    walk_at "ws"
    refine wE_call C DA (by walk_at "mem") (by decide) (by rfl) (by rfl) ?_
    walk_at "ws"
    refine ⟨b, n, m, rfl, h1, fun rs pt n2 m2 H2 ro T2 h2 e2 => ?_⟩
    have tT2 := tabs_exb tT1 h1 e2
    have x2 : LamX.ExtN H0 H2 := extN_mut e1.n hb0 e2
    clear h1 tT1 tT e1 e2
    walk_at "ws"
    refine wE_callB C trepr (by walk_at "mem") boot_repr (by rfl) (by rfl) ?_
    walk_at "ws"
    obtain ⟨xs, hx, lx, hr⟩ := tab_rows T2 ro
    have l12 := ro.len
    have thin2 : Thin K (holeH b H2) (.ref pt) := thin_tup (hole_get (ne_of hx h2 (by intro z; cases z)) hx) (by omega) fun x h => by
      obtain ⟨a, r, rfl, g1, g2⟩ := hr x h
      exact rowb_rt (hole_get (ne_of g1 h2 (by intro z; cases z)) g1) g2
    obtain ⟨dk, shm⟩ := thin2.2
    have sh2 := shm.n (hole_ex (b := b) (H := H2) (Ex.refl H2).toB)
    refine c_reprW C gd sh2 (by rw [sizeLine_eq]; omega) ?_
    walk_at "ws"
    refine wE_call C DT (by walk_at "mem") (by decide) (by rfl) (by rfl) ?_
    walk_at "ws"
    refine ⟨b, _, _, 60, rfl, (by walk_at "hk"), by decide, by decide, fun d3 n3 m3 H3 d30 d31 hb3 ex3 => ?_⟩
    walk_at "ws"
    refine ⟨(by show 3 ≤ sizeLine; decide), fun p4 H4 hp4 e4 g4 => ?_⟩
    walk_at "ws"
    have tT3 := tabs_exb tT2 h2 ex3
    have pb : pt ≠ b := ne_of hx h2 (by intro z; cases z)
    have hx3 := ex3 _ _ pb hx
    have hr3 : ∀ x ∈ xs, ∃ a r, x = V.ref a ∧ H3 a = some (.tup (rtV r)) ∧ r.Ok := fun x h => by
      obtain ⟨a, r, e, k1, k2⟩ := hr x h
      exact ⟨a, r, e, ex3 _ _ (ne_of k1 h2 (by intro z; cases z)) k1, k2⟩
    have T3 : Tab K H3 pt rs := T2.exb h2 ex3
    have x3 : LamX.ExtN H0 H3 := extN_mut x2 hb0 ex3
    have sh3 : Shw K H3 (.ref pt) dk 7000 := shm.n (hole_ex ex3)
    clear T2 tT2 hx hr x2 thin2 sh2 shm h2 ex3
    refine wE_lcT [("_law_row", 12)] ["_law_row"] ["_law_row"] [] C (by decide +kernel) (by decide +kernel) (by decide +kernel) (by rfl) (fun _ => rfl) ?_
    walk_at "ws"
    refine ⟨pt, xs, rfl, SqT.of (e4 _ _ hx3), fun D hD => ⟨fun i H5 => ∃ is : List Int, is.length = i ∧ H5 D = some (.lst (is.map V.int)) ∧ (∀ z ∈ is, 0 ≤ z ∧ z ≤ 59) ∧ Ex H4 H5, ⟨[], rfl, upd_same, (fun a h => by cases h), Ex.upd hD⟩, ?_, ?_, ?_⟩⟩
    · rintro i5 H5 _ ⟨is, la, hq, hz, e5⟩
      exact SqT.of (e5 _ _ (e4 _ _ hx3))
    · rintro i5 x H5 hxi ⟨is, la, hq, hz, e5⟩
      have i12 : i5 < 12 := by
        have z := (List.getElem?_eq_some_iff.mp hxi).1
        omega
      obtain ⟨a0, r, rfl, k1, k2⟩ := hr3 x (List.mem_of_getElem? hxi)
      have k1' : H5 a0 = some (.tup [.int r.1, .int r.2.1, .int r.2.2.1, .int r.2.2.2]) := e5 _ _ (e4 _ _ k1)
      intro X1 C1
      show wG X1 _ _ [some (.ref a), some (.int i), some (.ref b), some (.ref pt), some (.str dk.shown), y5, y6, y7, y8, y9, y10, y11, none, none] H5 _
      refine wG_name C1 (by walk_at "mem") ?_
      walk_at "ws"
      refine ⟨rfl, ?_⟩
      refine blkT_nil (iteT ?_)
      intro X2 C2
      clear C1 C
      walk_at "ws"
      refine ⟨is.map V.int, hq, by rw [List.length_map, sizeLine_eq]; omega, is ++ [r.2.1], by rw [List.length_append, la]; rfl, by rw [upd_same, List.map_append]; rfl, fun z hz2 => ?_, e5.mut hD Exb.upd⟩
      rcases List.mem_append.mp hz2 with hz2 | hz2
      · exact hz z hz2
      · rw [List.mem_singleton.mp hz2]
        exact ⟨k2.d1, k2.d2⟩
    rintro H5 ⟨is, la, hq, hz, e5⟩
    walk_at "ws"
    refine o_catL (e5 _ _ g4) hq (by rw [sizeLine_eq, List.length_map]; show 3 + _ ≤ _; omega) fun p6 H6 hp6 e6 g6 => ?_
    have g6 : H6 p6 = some (.lst (([0, 59, d3] ++ is).map V.int)) := g6
    have zs6 : ∀ z ∈ [0, 59, d3] ++ is, 0 ≤ z ∧ z ≤ 59 := fun z h => by
      rcases List.mem_append.mp h with h | h
      · simp only [List.mem_cons, List.not_mem_nil, or_false] at h
        rcases h with rfl | rfl | rfl <;> omega
      · exact hz z h
    have ln6 : ([0, 59, d3] ++ is).length ≤ 15 := by rw [List.length_append, la]; show 3 + _ ≤ 15; omega
    generalize ([0, 59, d3] ++ is) = js at g6 zs6 ln6
    have e36 : Ex H3 H6 := (e4.trans e5).trans e6
    have tT6 := tT3.ext e36
    have hx6 := e36 _ _ hx3
    have hr6 : ∀ x ∈ xs, ∃ a r, x = V.ref a ∧ H6 a = some (.tup (rtV r)) ∧ r.Ok := fun x h => by
      obtain ⟨a, r, e, k1, k2⟩ := hr3 x h
      exact ⟨a, r, e, e36 _ _ k1, k2⟩
    have T6 := T3.ex e36
    have x6 := x3.trans e36.n
    have sh6 := sh3.n e36.n
    have hb6 := e36 _ _ hb3
    clear tT3 hx3 hr3 T3 x3 sh3 hb3 e36 e4 e5 e6 g4 hq hz la hp6 hp4
    walk_at "ws"
    refine wS_list C (fun _ => rfl) ?_
    walk_at "ws"
    refine wE_lcT [("_law_row", 12)] ["_law_row"] ["_law_row"] ["max"] C (by decide +kernel) (by decide +kernel) (by decide +kernel) (by rfl) (fun _ => rfl) ?_
    walk_at "ws"
    refine ⟨pt, xs, rfl, hx6, fun p7 H7 e7 g7 => ?_⟩
    have m7 : ∀ x ∈ cutV xs none (some 4), x ∈ xs := fun x h => mem_cutV h
    have l7 : (cutV xs none (some 4)).length ≤ 12 := Nat.le_trans (cutV_length xs none (some 4)) (by omega)
    generalize cutV xs none (some 4) = ys at g7 m7 l7
    refine ⟨p7, ys, rfl, SqT.of g7, fun D hD => ⟨fun i H5 => ∃ is : List Int, is.length = i ∧ H5 D = some (.lst (is.map V.int)) ∧ (∀ z ∈ is, 0 ≤ z ∧ z ≤ 59) ∧ Ex H7 H5, ⟨[], rfl, upd_same, (fun a h => by cases h), Ex.upd hD⟩, ?_, ?_, ?_⟩⟩
    · rintro i5 H5 _ ⟨is, la, hq, hz, e5⟩
      exact SqT.of (e5 _ _ g7)
    · rintro i5 x H5 hxi ⟨is, la, hq, hz, e5⟩
      have i12 : i5 < 12 := by
        have z := (List.getElem?_eq_some_iff.mp hxi).1
        omega
      obtain ⟨a0, r, rfl, k1, k2⟩ := hr6 x (m7 x (List.mem_of_getElem? hxi))
      have k1' : H5 a0 = some (.tup [.int r.1, .int r.2.1, .int r.2.2.1, .int r.2.2.2]) := e5 _ _ (e7 _ _ k1)
      intro X1 C1
      show wG X1 _ _ [some (.ref a), some (.int i), some (.ref b), some (.ref pt), some (.str dk.shown), some (.ref p6), y6, y7, y8, y9, y10, y11, none, none] H5 _
      refine wG_name C1 (by walk_at "mem") ?_
      walk_at "ws"
      refine ⟨rfl, ?_⟩
      refine blkT_nil (iteT ?_)
      intro X2 C2
      clear C1 C
      walk_at "ws"
      refine wE_callB C2 tmax (by walk_at "mem") boot_max (by rfl) (by rfl) ?_
      walk_at "ws"
      refine c_max C2 ?_
      refine ⟨is.map V.int, hq, by rw [List.length_map, sizeLine_eq]; omega, is ++ [_], by rw [List.length_append, la]; rfl, by rw [upd_same, List.map_append]; rfl, fun z hz2 => ?_, e5.mut hD Exb.upd⟩
      rcases List.mem_append.mp hz2 with hz2 | hz2
      · exact hz z hz2
      · rw [List.mem_singleton.mp hz2]
        have := k2.d1
        have := k2.d2
        split <;> omega
    rintro H8 ⟨is, la, hq, hz, e8⟩
    walk_at "ws"
    refine o_catL (e8 _ _ (e7 _ _ g6)) hq (by rw [sizeLine_eq, List.length_map, List.length_map]; omega) fun p9 H9 hp9 e9 g9 => ?_
    have g9 : H9 p9 = some (.lst ((js ++ is).map V.int)) := by rw [g9, List.map_append]
    have zs9 : ∀ z ∈ js ++ is, 0 ≤ z ∧ z ≤ 59 := fun z h => (List.mem_append.mp h).elim (zs6 z) (hz z)
    generalize js ++ is = ws at g9 zs9
    have e69 : Ex H6 H9 := (e7.trans e8).trans e9
    have tT9 := tT6.ext e69
    have hx9 := e69 _ _ hx6
    have hr9 : ∀ x ∈ xs, ∃ a r, x = V.ref a ∧ H9 a = some (.tup (rtV r)) ∧ r.Ok := fun x h => by
      obtain ⟨a, r, e, k1, k2⟩ := hr6 x h
      exact ⟨a, r, e, e69 _ _ k1, k2⟩
    have T9 := T6.ex e69
    have x9 := x6.trans e69.n
    have sh9 := sh6.n e69.n
    have hb9 := e69 _ _ hb6
    clear tT6 hx6 hr6 T6 x6 sh6 hb6 e69 e7 e8 e9 g7 m7 hq hz la hp9 g6 zs6 ln6
    walk_at "ws"
    refine ⟨p9, ws.map V.int, rfl, SqL.of g9, fun j σ H' => ∃ y6 y7, σ = [some (.ref a), some (.int i), some (.ref b), some (.ref pt), some (.str dk.shown), some (.ref p6), y6, y7, y8, y9, y10, y11, none, none] ∧ LamX.Tabs (tLaw PT PT2) H' ∧ LamX.ExtN H9 H', ⟨y6, y7, rfl, tT9, (Ex.refl H9).n⟩, ?_, ?_, ?_⟩
    · rintro j σ H' hj ⟨y6, y7, rfl, _, z⟩
      exact SqL.of (extN_lst z g9)
    · rintro j y σ HA hy ⟨y6, y7, rfl, tTA, zA⟩
      rw [List.getElem?_map] at hy
      obtain ⟨d, hd, rfl⟩ := Option.map_eq_some_iff.mp hy
      obtain ⟨d0, d1⟩ := zs9 d (List.mem_of_getElem? hd)
      refine wG_name C (by walk_at "mem") ?_
      walk_at "ws"
      refine wS_range1 C T.range (by walk_at "mem") (by rfl) ?_
      walk_at "ws"
      refine ⟨4, rfl, by decide, fun l σ H' => ∃ y7, σ = [some (.ref a), some (.int i), some (.ref b), some (.ref pt), some (.str dk.shown), some (.ref p6), some (.int d), y7, y8, y9, y10, y11, none, none] ∧ LamX.Tabs (tLaw PT PT2) H' ∧ LamX.ExtN H9 H', ⟨y7, rfl, tTA, zA⟩, ?_, ?_⟩
      · rintro l σ HB hl ⟨y7, rfl, tTB, zB⟩
        refine wG_name C (by walk_at "mem") ?_
        walk_at "ws"
        refine wS_if ?_
        walk_at "ws"
        refine wE_callG C gd DRi (by walk_at "mem") (by decide) (by rfl) (by rfl) ?_
        walk_at "ws"
        refine ⟨pt, rs, (l : Int), d, rfl, T9.extN zB, ro, by omega, by omega, d0, d1, tTB, fun HC zC tTC => ?_⟩
        walk_at "ws"
        exact ⟨_, rfl, tTC, zB.trans zC⟩
      · rintro σ HB ⟨y7, rfl, tTB, zB⟩
        walk_at "ws"
        exact ⟨_, _, rfl, tTB, zB⟩
    rintro σ HA ⟨z6, z7, rfl, tTA, zA⟩
    have hxA := extN_tup zA hx9
    have hrA : ∀ x ∈ xs, ∃ a r, x = V.ref a ∧ HA a = some (.tup (rtV r)) ∧ r.Ok := fun x h => by
      obtain ⟨a, r, e, k1, k2⟩ := hr9 x h
      exact ⟨a, r, e, extN_tup zA k1, k2⟩
    have TA := T9.extN zA
    have xA := x9.trans zA
    have shA := sh9.n zA
    have hbA := extN_lst zA hb9
    clear tT9 hx9 hr9 T9 x9 sh9 hb9 zA g9 zs9
    walk_at "ws"
    refine wS_if ?_
    walk_at "ws"
    refine wE_callB C trepr (by walk_at "mem") boot_repr (by rfl) (by rfl) ?_
    walk_at "ws"
    refine c_reprW C gd shA (by rw [sizeLine_eq]; omega) ?_
    walk_at "ws"
    refine o_neS0 ?_
    clear shA
    walk_at "ws"
    refine wE_lcR [("_law_turn", 13)] ["_law_turn", "_law_box_here", "_law_table"] ["_law_turn"] ["_law_bent"] C (by decide +kernel) (by decide +kernel) (by decide +kernel) (by rfl) T.range (by walk_at "mem") (by rfl) ?_
    walk_at "ws"
    refine ⟨14, rfl, by decide, fun D hD => ⟨fun i H5 => ∃ (vs : List V) (n m : Int), vs.length = i ∧ H5 D = some (.lst vs) ∧ H5 b = some (.lst [.int n, .int m]) ∧ (∀ v ∈ vs, ∀ HZ, Exc b D H5 HZ → Thin K HZ v) ∧ Exb b HA H5, ⟨[], _, _, rfl, upd_same, by rw [upd_ne (ne_of_none hbA hD)]; exact hbA, (fun a h => by cases h), (Ex.upd hD).toB⟩, ?_, ?_⟩⟩
    · rintro i5 H5 hi5 ⟨vs, n5, m5, lv, hq, hb5, hz, e5⟩
      have nD : D ≠ b := (ne_of_none hbA hD).symm
      intro X1 C1
      show wG X1 _ _ [some (.ref a), some (.int i), some (.ref b), some (.ref pt), some (.str dk.shown), some (.ref p6), z6, z7, y8, y9, y10, y11, none, none] H5 _
      refine wG_name C1 (by walk_at "mem") ?_
      walk_at "ws"
      refine ⟨rfl, ?_⟩
      refine blkT_nil (iteT ?_)
      intro X2 C2
      clear C1 C
      walk_at "ws"
      refine wE_call C2 DE (by walk_at "mem") (by decide) (by rfl) (by rfl) ?_
      walk_at "ws"
      refine ⟨b, pt, n5, m5, rs, rfl, hb5, TA.exb hbA e5, ro, fun v n8 m8 H8 th hb8 e8 => ?_⟩
      have hq8 := e8 _ _ nD hq
      refine ⟨vs, hq8, by rw [sizeLine_eq]; omega, vs ++ [v], n8, m8, by rw [List.length_append, lv]; rfl, upd_same, by rw [upd_ne nD.symm]; exact hb8, fun u hu HZ eZ => ?_, (e5.trans e8).mut hD Exb.upd⟩
      have e9 : Exc b D H8 HZ := fun x o n1 n2 h => eZ x o n1 n2 (by rw [upd_ne n2]; exact h)
      rcases List.mem_append.mp hu with hu | hu
      · exact hz u hu HZ (e8.exc e9)
      · rw [List.mem_singleton.mp hu]
        exact th D vs HZ nD hq e9
    rintro H5 ⟨vs, n5, m5, lv, hq, hb5, hz, e5⟩
    have tT5 := tabs_exb tTA hbA e5
    have x5 : LamX.ExtN H0 H5 := extN_mut xA hb0 e5
    have hx5 := e5 _ _ pb hxA
    have hr5 : ∀ x ∈ xs, RowB K H5 x := fun x h => by
      obtain ⟨a, r, rfl, k1, k2⟩ := hrA x h
      exact rowb_rt (e5 _ _ (ne_of k1 hbA (by intro z; cases z)) k1) k2
    have thv : ∀ v ∈ vs, Thin K H5 v := fun v h => hz v h H5 fun x o _ _ g => g
    clear hz e5 hxA hrA TA xA tTA hbA
    walk_at "ws"
    refine o_repTA C hx5 (by decide) (by decide) (by omega) fun p6' H6 e6 g6 => ?_
    walk_at "ws"
    refine ⟨p6', _, rfl, g6, fun p7 H7 e7 g7 => ?_⟩
    have r7 : ∀ x ∈ cutV (List.replicate (13 : Int).toNat xs).flatten none (some 13), x ∈ xs := fun x h => by
      obtain ⟨l, m1, m2⟩ := List.mem_flatten.mp (mem_cutV h)
      rw [(List.mem_replicate.mp m1).2] at m2
      exact m2
    have l7 : (cutV (List.replicate (13 : Int).toNat xs).flatten none (some 13)).length ≤ 13 := by
      generalize (List.replicate (13 : Int).toNat xs).flatten = zs
      unfold cutV
      rw [List.length_take]
      have e : HT.sIx zs.length zs.length (some 13) = min 13 zs.length := rfl
      rw [e]
      omega
    generalize cutV (List.replicate (13 : Int).toNat xs).flatten none (some 13) = ys at g7 r7 l7
    walk_at "ws"
    refine ⟨(by show 4 ≤ sizeLine; decide), fun p8 H8 hp8 e8 g8 => ?_⟩
    walk_at "ws"
    refine ⟨(by show 1 ≤ sizeLine; decide), fun p9 H9 hp9 e9 g9 => ?_⟩
    walk_at "ws"
    refine o_repTA C g9 (by decide) (by decide) (by show 1 ≤ 1000; decide) fun p10 H10 e10 g10 => ?_
    walk_at "ws"
    refine ⟨(by show 2 ≤ sizeLine; decide), fun p11 H11 hp11 e11 g11 => ?_⟩
    walk_at "ws"
    have e5b : Ex H5 H11 := ((((e6.trans e7).trans e8).trans e9).trans e10).trans e11
    refine o_catL (e5b _ _ hq) g11 (by rw [sizeLine_eq, lv]; show 14 + 2 ≤ _; decide) fun p12 H12 hp12 e12 g12 => ?_
    have e5c := e5b.trans e12
    have th7 : Thin K H12 (.ref p7) := thin_tup (e12 _ _ (e11 _ _ (e10 _ _ (e9 _ _ (e8 _ _ g7))))) (by omega) fun x h => (hr5 x (r7 x h)).n e5c.n
    have th10 : Thin K H12 (.ref p10) := thin_tup (e12 _ _ (e11 _ _ g10)) (by show 2 ≤ 30; decide) fun x h => by
      have g8' := e12 _ _ (e11 _ _ (e10 _ _ (e9 _ _ g8)))
      obtain ⟨l, m1, m2⟩ := List.mem_flatten.mp h
      rw [(List.mem_replicate.mp m1).2] at m2
      rw [List.mem_singleton.mp m2]
      exact rowb_tup g8' (by decide) (sml4 (by decide) (by decide) (by decide) (by decide))
    have th12 : ∀ v ∈ vs ++ [.ref p7, .ref p10], Thin K H12 v := fun v h => by
      rcases List.mem_append.mp h with h | h
      · exact (thv v h).n e5c.n
      · exact all2 th7 (all1 th10) v h
    have l12' : (vs ++ [V.ref p7, .ref p10]).length = 16 := by rw [List.length_append, lv]; rfl
    generalize vs ++ [V.ref p7, .ref p10] = us at g12 th12 l12'
    have tT12 := tT5.ext e5c
    have x12 := x5.trans e5c.n
    clear tT5 x5 hx5 hr5 thv g6 g7 g8 g9 g10 g11 r7 e6 e7 e8 e9 e10 e11 e12 e5b e5c th7 th10 hp8 hp9 hp11 hp12 hq
    walk_at "ws"
    refine wS_list C (fun _ => rfl) ?_
    walk_at "ws"
    refine wE_call0 C DO (by walk_at "mem") (by decide) ?_
    refine ⟨rfl, fun p13 vs' H13 e13 g13 l13 th13 => ?_⟩
    refine o_catL (e13 _ _ g12) g13 (by rw [sizeLine_eq, l12', l13]; decide) fun p14 H14 hp14 e14 g14 => ?_
    have th14 : ∀ v ∈ us ++ vs', Thin K H14 v := fun v h => by
      rcases List.mem_append.mp h with h | h
      · exact (th12 v h).n (e13.trans e14).n
      · exact (th13 v h).n e14.n
    generalize us ++ vs' = ts at g14 th14
    have tT14 := tT12.ext (e13.trans e14)
    have x14 := x12.trans (e13.trans e14).n
    clear tT12 x12 e13 e14 g12 g13 th12 th13 hp14
    walk_at "ws"
    refine ⟨p14, ts, rfl, SqL.of g14, fun j σ H' => ∃ y4 y9 y10 y11, σ = [some (.ref a), some (.int i), some (.ref b), some (.ref pt), some y4, some (.ref p6), z6, z7, some (.ref p12), y9, y10, y11, none, none] ∧ LamX.Tabs (tLaw PT PT2) H' ∧ LamX.ExtN H14 H', ⟨_, y9, y10, y11, rfl, tT14, (Ex.refl H14).n⟩, ?_, ?_, ?_⟩
    · rintro j σ H' hj ⟨y4, y9, y10, y11, rfl, _, z⟩
      exact SqL.of (extN_lst z g14)
    · rintro j v σ HB hy ⟨y4, y9, y10, y11, rfl, tTB, zB⟩
      have thB : Thin K HB v := (th14 v (List.mem_of_getElem? hy)).n zB
      refine wG_name C (by walk_at "mem") ?_
      walk_at "st"
      refine wS_par C (by decide +kernel) (by decide +kernel) (by rfl) (by decide +kernel) (by rfl) (by rfl) (by rfl) (by rfl) ?_
      walk_at "ws"
      refine wE_callB C trepr (by walk_at "mem") boot_repr (by rfl) (by rfl) ?_
      walk_at "ws"
      obtain ⟨th3, dv, shB⟩ := thB
      refine c_reprW C gd shB (by rw [sizeLine_eq]; omega) ?_
      walk_at "ws"
      refine wE_call C DL (by walk_at "mem") (by decide) (by rfl) (by rfl) ?_
      walk_at "ws"
      refine ⟨v, rfl, th3, fun HC bb eC hbb => ?_⟩
      obtain ⟨z, wd⟩ := Wd.ex K HB v
      have zb := wd.iff hbb
      walk_at "ws"
      refine ⟨_, _, rfl, ?_⟩
      walk_at "ws"
      have tTC := tTB.ext eC
      refine wE_lam (kl := 6) (Vc := ["_law_thing"]) (Gc := ["rate_on"]) C M DSaid (by walk_at "mem") (by decide) (by decide) hmT huT (by decide +kernel) (by rfl) (fun _ _ _ _ _ => rfl) (by decide +kernel) (by rfl) ⟨tTC, fun HL eL tL => ?_⟩
      intro X1 C1 T1
      refine wE_callX C1 T1 DR (by walk_at "mem") (by decide) (by rfl) (by rfl) ?_
      walk_at "ws"
      have xL := eC.n.trans eL
      refine said_rateU (wd.n th3 xL) (th3.n xL) fun p1 HD rest hp1 e1 g1 => ?_
      have xD := xL.trans e1.n
      have tTD := tL.ext e1
      clear C1 T1 tL xL hbb tTC
      walk_at "ws"
      refine ⟨(by show 1 ≤ sizeLine; decide), fun pf HE hpf eE gE => ?_⟩
      have xE := xD.trans eE.n
      have tTE := tTD.ext eE
      clear tTD g1
      walk_at "st"
      refine wS_cut (fun σ H' => ∃ zs : List V, (zs = [.str z] ∨ zs = [.str z, .str z]) ∧ σ = [some (.ref a), some (.int i), some (.ref b), some (.ref pt), some (.str dv.shown), some (.ref p6), z6, z7, some (.ref p12), some v, some (.bl bb), some (.ref pf), none, none] ∧ H' pf = some (.lst zs) ∧ LamX.Tabs (tLaw PT PT2) H' ∧ LamX.ExtN HB H') ?_ ?_
      · refine wS_if ?_
        walk_at "ws"
        refine iteB (fun h => ?_) (fun h => ?_)
        rotate_left
        · walk_at "ws"
          exact ⟨[.str z], .inl rfl, rfl, gE, tTE, xE⟩
        have nv : v ≠ .non := fun e => by subst e; simp at h
        walk_at "ws"
        refine wE_append (by rfl) (by rfl) (by rfl) (by rfl) (by rfl) ?_
        walk_at "ws"
        refine ⟨pf, _, rfl, gE, ?_⟩
        walk_at "ws"
        refine wE_lam (kl := 7) (Vc := ["_law_thing"]) (Gc := ["Spending", "share_of"]) C M DSaid (by walk_at "mem") (by decide) (by decide) hmT huT (by decide +kernel) (by rfl) (fun _ _ _ _ _ => rfl) (by decide +kernel) (by rfl) ⟨tTE, fun HL eL tL => ?_⟩
        intro X1 C1 T1
        refine wE_callX C1 T1 DS (by walk_at "mem") (by decide) (by rfl) (by rfl) ?_
        walk_at "ws"
        refine wE_makeN C1 MM (by walk_at "mem") (by decide) (by rfl) (by rfl) (by rfl) (by rfl) ?_
        walk_at "ws"
        refine ⟨rfl, rfl, fun y dx hy hdx hne => ⟨y, dx, mealR, rfl, mealR_ok, upd_same, fun H5 e5 h5 => ⟨rfl, ?_⟩⟩⟩
        have e45 := (Ex.new2 hdx hy hne).mut hy e5
        have x45 := eL.trans e45.n
        have xF := xE.trans x45
        walk_at "ws"
        refine said_shareU (wd.n th3 xF) (th3.n xF) nv h5 fun p2 HF rest2 hp2 e2 g2 => ?_
        walk_at "ws"
        have l2 := extN_lst (x45.trans e2.n) gE
        refine ⟨l2, (by show 1 < sizeLine; decide), fun HG e3 g3 => ?_⟩
        walk_at "ws"
        exact ⟨[.str z, .str z], .inr rfl, rfl, g3, tabs_exb ((tL.ext e45).ext e2) l2 e3, extN_kp xD hpf (eE.n.trans (x45.trans e2.n)) e3.kp⟩
      clear tTE xE gE eE xD hpf e1 hp1 eL
      rintro _ HH ⟨zs, hzs, rfl, gH, tTH, xH⟩
      have iv := in_word hzs zb
      obtain ⟨i0, im, fl⟩ := ends_word hzs
      have shH := shB.n xH
      walk_at "ws"
      refine wS_if ?_
      walk_at "ws"
      refine o_inLF C (SqL.of gH) rfl fl ?_
      rw [iv]
      walk_at "ws"
      refine o_eqBB C ?_
      rw [show decide (bb = !bb) = false by cases bb <;> rfl]
      walk_at "ws"
      refine i_list C (fun _ _ => rfl) (SqL.of gH) i0 ?_
      walk_at "ws"
      refine wE_un ?_
      walk_at "ws"
      refine o_neg ?_
      walk_at "ws"
      refine i_list C (fun _ _ => rfl) (SqL.of gH) im ?_
      walk_at "ws"
      refine o_neS0 ?_
      walk_at "ws"
      refine wE_callB C trepr (by walk_at "mem") boot_repr (by rfl) (by rfl) ?_
      walk_at "ws"
      refine c_reprW C gd shH (by rw [sizeLine_eq]; omega) ?_
      walk_at "ws"
      refine o_neS0 ?_
      walk_at "ws"
      exact ⟨_, _, _, _, rfl, tTH, zB.trans xH⟩
    · rintro σ HB ⟨y4, y9, y10, y11, rfl, tTB, zB⟩
      walk_at "ws"
      exact ⟨_, _, _, _, _, _, _, _, _, _, _, rfl, tTB, sq_extN hS (x14.trans zB)⟩
  · rintro σ H' ⟨y1, y2, y3, y4, y5, y6, y7, y8, y9, y10, y11, rfl, _, _⟩
    walk_at "ws"
    exact q _
end
theorem df_mk {P : Program} {w : World} {K : PySem.W.Frag} {mg : Str → Option Value} {base : Heap} {k : Nat} {x : Str} {st : Stmt} {f : Addr} {fd : FuncData} {ps : List Str} {sp : Sp} (F : FunD K x x (defArgs st) (defBody st) (defScope st) [] [] f fd) (hm : mg x = some (.ref f))
    (h : ∀ (kV doc pm : Value) (an : Option Addr) (cdv ct : Value) (us : List Value), us.length = ps.length → bindArgs (PySem.W.fnOf x x (defArgs st) (defBody st) (defScope st) .none kV doc pm an cdv ct) ⟨us, []⟩ = pure (ps.zip us)) (ok : FnOk P w K mg base CX0 k f fd ps sp) : Df P w K mg base k x ps [] sp :=
  ⟨f, fd, [], ok, hm, F.kp, FunD.bindsN F h, .nil⟩
set_option maxHeartbeats 0 in
theorem facts {P : Program} {w : World} {K : PySem.W.Frag} {h : Heap} {mg : Str → Option Value} {fl : Addr} (X : K.In h) (G : h.Ns mainGlobals mg) (hfa : mg ("law" : Str) = some (.ref fl)) (cX : He.SaysX fa fn ts tf ex w h K) :
    ∃ fd : FuncData, (∀ (s : Shared) (v : Value), BindsTo s fd ⟨[v], []⟩ [("_law_script", v)]) ∧ ∀ base : Heap, K.In base → base.Ns mainGlobals mg → LamX.TabB base mg (He.cT K ("_law_right", none)).1 (He.cT K ("_law_right", none)).2 → LamX.TabB base mg (He.cT K ("law", none)).1 (He.cT K ("law", none)).2 → FnG P w K mg base CX0 11 fl fd ["_law_script"] (spLaw K (He.cT K ("_law_right", none)).2 (He.cT K ("law", none)).2) := by
  have cx := cX.more
  have ct := cX.t
  have c := ct.d
  obtain ⟨fd_is_whole, F_is_whole⟩ : ∃ fd, FunD K "is_whole" "is_whole" (defArgs s_is_whole) (defBody s_is_whole) (defScope s_is_whole) [] [] (He.ga K "is_whole") fd := c.def_ 0 (d := d_is_whole) rfl
  obtain ⟨fd_is_truth, F_is_truth⟩ : ∃ fd, FunD K "is_truth" "is_truth" (defArgs s_is_truth) (defBody s_is_truth) (defScope s_is_truth) [] [] (He.ga K "is_truth") fd := c.def_ 1 (d := d_is_truth) rfl
  obtain ⟨fd_is_kind, F_is_kind⟩ : ∃ fd, FunD K "is_kind" "is_kind" (defArgs s_is_kind) (defBody s_is_kind) (defScope s_is_kind) [] [] (He.ga K "is_kind") fd := c.def_ 2 (d := d_is_kind) rfl
  obtain ⟨fd_is_day, F_is_day⟩ : ∃ fd, FunD K "is_day" "is_day" (defArgs s_is_day) (defBody s_is_day) (defScope s_is_day) [] [] (He.ga K "is_day") fd := c.def_ 3 (d := d_is_day) rfl
  obtain ⟨fd_check_heads, F_check_heads⟩ : ∃ fd, FunD K "check_heads" "check_heads" (defArgs s_check_heads) (defBody s_check_heads) (defScope s_check_heads) [] [] (He.ga K "check_heads") fd := c.def_ 4 (d := d_check_heads) rfl
  obtain ⟨fd_check_parts, F_check_parts⟩ : ∃ fd, FunD K "check_parts" "check_parts" (defArgs s_check_parts) (defBody s_check_parts) (defScope s_check_parts) [] [] (He.ga K "check_parts") fd := c.def_ 5 (d := d_check_parts) rfl
  obtain ⟨fd_is_row, F_is_row⟩ : ∃ fd, FunD K "is_row" "is_row" (defArgs s_is_row) (defBody s_is_row) (defScope s_is_row) [] [] (He.ga K "is_row") fd := c.def_ 6 (d := d_is_row) rfl
  obtain ⟨fd_are_rates, F_are_rates⟩ : ∃ fd, FunD K "are_rates" "are_rates" (defArgs s_are_rates) (defBody s_are_rates) (defScope s_are_rates) [] [] (He.ga K "are_rates") fd := c.def_ 7 (d := d_are_rates) rfl
  obtain ⟨fd_check_rates, F_check_rates⟩ : ∃ fd, FunD K "check_rates" "check_rates" (defArgs s_check_rates) (defBody s_check_rates) (defScope s_check_rates) [] [] (He.ga K "check_rates") fd := c.def_ 8 (d := d_check_rates) rfl
  obtain ⟨fd_rate_on, F_rate_on⟩ : ∃ fd, FunD K "rate_on" "rate_on" (defArgs s_rate_on) (defBody s_rate_on) (defScope s_rate_on) [] [] (He.ga K "rate_on") fd := c.def_ 9 (d := d_rate_on) rfl
  obtain ⟨fd_told_rates, F_told_rates⟩ : ∃ fd, FunD K "told_rates" "told_rates" (defArgs s_told_rates) (defBody s_told_rates) (defScope s_told_rates) [] [] (He.ga K "told_rates") fd := c.def_ 10 (d := d_told_rates) rfl
  obtain ⟨fd_share_of, F_share_of⟩ : ∃ fd, FunD K "share_of" "share_of" (defArgs s_share_of) (defBody s_share_of) (defScope s_share_of) [.non] [] (He.ga K "share_of") fd := c.def_ 11 (d := d_share_of) rfl
  obtain ⟨fd__law_box, F__law_box⟩ : ∃ fd, FunD K "_law_box" "_law_box" (defArgs s__law_box) (defBody s__law_box) (defScope s__law_box) [] [] (He.ga K "_law_box") fd := c.def_ 12 (d := d__law_box) rfl
  obtain ⟨fd__law_more, F__law_more⟩ : ∃ fd, FunD K "_law_more" "_law_more" (defArgs s__law_more) (defBody s__law_more) (defScope s__law_more) [] [] (He.ga K "_law_more") fd := c.def_ 13 (d := d__law_more) rfl
  obtain ⟨fd__law_take, F__law_take⟩ : ∃ fd, FunD K "_law_take" "_law_take" (defArgs s__law_take) (defBody s__law_take) (defScope s__law_take) [] [] (He.ga K "_law_take") fd := c.def_ 14 (d := d__law_take) rfl
  obtain ⟨fd__law_family, F__law_family⟩ : ∃ fd, FunD K "_law_family" "_law_family" (defArgs s__law_family) (defBody s__law_family) (defScope s__law_family) [] [] (He.ga K "_law_family") fd := c.def_ 15 (d := d__law_family) rfl
  obtain ⟨fd__law_word, F__law_word⟩ : ∃ fd, FunD K "_law_word" "_law_word" (defArgs s__law_word) (defBody s__law_word) (defScope s__law_word) [] [] (He.ga K "_law_word") fd := c.def_ 16 (d := d__law_word) rfl
  obtain ⟨fd__law_said, F__law_said⟩ : ∃ fd, FunD K "_law_said" "_law_said" (defArgs s__law_said) (defBody s__law_said) (defScope s__law_said) [] [] (He.ga K "_law_said") fd := c.def_ 17 (d := d__law_said) rfl
  obtain ⟨fd__law_odd, F__law_odd⟩ : ∃ fd, FunD K "_law_odd" "_law_odd" (defArgs s__law_odd) (defBody s__law_odd) (defScope s__law_odd) [] [] (He.ga K "_law_odd") fd := c.def_ 18 (d := d__law_odd) rfl
  obtain ⟨fd__law_whole, F__law_whole⟩ : ∃ fd, FunD K "_law_whole" "_law_whole" (defArgs s__law_whole) (defBody s__law_whole) (defScope s__law_whole) [] [] (He.ga K "_law_whole") fd := c.def_ 19 (d := d__law_whole) rfl
  obtain ⟨fd__law_rates, F__law_rates⟩ : ∃ fd, FunD K "_law_rates" "_law_rates" (defArgs s__law_rates) (defBody s__law_rates) (defScope s__law_rates) [] [] (He.ga K "_law_rates") fd := c.def_ 20 (d := d__law_rates) rfl
  obtain ⟨fd__law_rate, F__law_rate⟩ : ∃ fd, FunD K "_law_rate" "_law_rate" (defArgs s__law_rate) (defBody s__law_rate) (defScope s__law_rate) [] [] (He.ga K "_law_rate") fd := c.def_ 21 (d := d__law_rate) rfl
  obtain ⟨fd__law_are, F__law_are⟩ : ∃ fd, FunD K "_law_are" "_law_are" (defArgs s__law_are) (defBody s__law_are) (defScope s__law_are) [] [] (He.ga K "_law_are") fd := c.def_ 22 (d := d__law_are) rfl
  obtain ⟨fd__law_bent, F__law_bent⟩ : ∃ fd, FunD K "_law_bent" "_law_bent" (defArgs s__law_bent) (defBody s__law_bent) (defScope s__law_bent) [] [] (He.ga K "_law_bent") fd := c.def_ 23 (d := d__law_bent) rfl
  obtain ⟨fd__law_odd_rates, F__law_odd_rates⟩ : ∃ fd, FunD K "_law_odd_rates" "_law_odd_rates" (defArgs s__law_odd_rates) (defBody s__law_odd_rates) (defScope s__law_odd_rates) [] [] (He.ga K "_law_odd_rates") fd := c.def_ 24 (d := d__law_odd_rates) rfl
  obtain ⟨fd__law_right, F__law_right⟩ : ∃ fd, FunD K "_law_right" "_law_right" (defArgs s__law_right) (defBody s__law_right) (defScope s__law_right) [] [] (He.ga K "_law_right") fd := c.def_ 25 (d := d__law_right) rfl
  obtain ⟨fd_law, F_law⟩ : ∃ fd, FunD K "law" "law" (defArgs s_law) (defBody s_law) (defScope s_law) [] [] (He.ga K "law") fd := c.def_ 26 (d := d_law) rfl
  obtain ⟨fd_Spending_init, F_Spending_init⟩ : ∃ fd, FunD K "__init__" "Spending.__init__" (defArgs s_Spending_init) (defBody s_Spending_init) (defScope s_Spending_init) [.int 0, .bl true, .int 1, .int 0] [] (He.ma K (He.ga K "Spending") "__init__") fd := c.def_ 27 (d := d_Spending_init) rfl
  obtain ⟨fd_NoRate_init, F_NoRate_init⟩ : ∃ fd, FunD K "__init__" "NoRate.__init__" (defArgs s_NoRate_init) (defBody s_NoRate_init) (defScope s_NoRate_init) [] [] (He.ma K (He.ga K "NoRate") "__init__") fd := c.def_ 28 (d := d_NoRate_init) rfl
  obtain ⟨cx1, cx⟩ := He.ba cx
  obtain ⟨cx2, cx⟩ := He.ba cx
  obtain ⟨cx3, cx⟩ := He.ba cx
  obtain ⟨cx4, cx⟩ := He.ba cx
  obtain ⟨cx5, cx⟩ := He.ba cx
  obtain ⟨cx6, cx⟩ := He.ba cx
  obtain ⟨cx7, cx⟩ := He.ba cx
  obtain ⟨cx8, cx⟩ := He.ba cx
  obtain ⟨cx9, cx⟩ := He.ba cx
  obtain ⟨cx10, cx⟩ := He.ba cx
  obtain ⟨cx11, cx12⟩ := He.ba cx
  have T : Txt K mg := ⟨He.free_ok X G (c.fact 48 (f := .free "range") rfl), He.free_ok X G (c.fact 49 (f := .free "abs") rfl), He.free_ok X G (c.fact 50 (f := .free "len") rfl), He.free_ok X G (c.fact 51 (f := .free "divmod") rfl), He.free_ok X G (c.fact 52 (f := .free "isinstance") rfl), He.free_ok X G (c.fact 53 (f := .free "int") rfl), He.free_ok X G (c.fact 54 (f := .free "bool") rfl), ⟨_, He.glo_ok X G (c.fact 27 (f := .glo "KINDS") rfl), fun H => He.tupB_ok cx1 H⟩, He.int_ok X G (c.fact 67 (f := .int "LAST_DAY" 59) rfl), He.int_ok X G (c.fact 68 (f := .int "LAST_MONEY" 3) rfl), He.int_ok X G (c.fact 69 (f := .int "MOST_AMOUNT" 1000000) rfl), He.int_ok X G (c.fact 70 (f := .int "MOST_HEADS" 6) rfl)⟩
  have T2 : Txt2 K mg := ⟨T, He.free_ok X G (c.fact 55 (f := .free "tuple") rfl), He.int_ok X G (c.fact 71 (f := .int "MOST_ROWS" 12) rfl), He.int_ok X G (c.fact 72 (f := .int "MOST_SIDE" 1000000) rfl)⟩
  have tsorted : mg "sorted" = none := He.free_ok X G (c.fact 58 (f := .free "sorted") rfl)
  have tset : mg "set" = none := He.free_ok X G (c.fact 57 (f := .free "set") rfl)
  have tlist : mg "list" = none := He.free_ok X G (c.fact 56 (f := .free "list") rfl)
  have tmax : mg "max" = none := He.free_ok X G (c.fact 59 (f := .free "max") rfl)
  have tmin : mg "min" = none := He.free_ok X G (c.fact 60 (f := .free "min") rfl)
  have trepr : mg "repr" = none := He.free_ok X G (c.fact 61 (f := .free "repr") rfl)
  have tValueError : mg "ValueError" = none := He.free_ok X G (c.fact 62 (f := .free "ValueError") rfl)
  have tKeyError : mg "KeyError" = none := He.free_ok X G (c.fact 63 (f := .free "KeyError") rfl)
  have tIndexError : mg "IndexError" = none := He.free_ok X G (c.fact 64 (f := .free "IndexError") rfl)
  have tLookupError : mg "LookupError" = none := He.free_ok X G (c.fact 65 (f := .free "LookupError") rfl)
  have tZeroDivisionError : mg "ZeroDivisionError" = none := He.free_ok X G (c.fact 66 (f := .free "ZeroDivisionError") rfl)
  have S : Sc K (He.ga K "Spending") := ⟨He.cls_ok (c.fact 73 (f := .cls "Spending") rfl), He.noat_ok (c.fact 74 (f := .noat "Spending" "kind") rfl), He.noat_ok (c.fact 75 (f := .noat "Spending" "amount") rfl), He.noat_ok (c.fact 76 (f := .noat "Spending" "day") rfl), He.noat_ok (c.fact 77 (f := .noat "Spending" "paper") rfl), He.noat_ok (c.fact 78 (f := .noat "Spending" "heads") rfl), He.noat_ok (c.fact 79 (f := .noat "Spending" "money") rfl)⟩
  have MK := He.mkr_ok (c.fact 80 (f := .mkr "Spending") rfl)
  have gS : mg "Spending" = some (.ref (He.ga K "Spending")) := He.glo_ok X G (c.fact 28 (f := .glo "Spending") rfl)
  have gx0 : mg "NoRates" = some (.ref (He.ga K "NoRates")) := He.glo_ok X G (c.fact 30 (f := .glo "NoRates") rfl)
  have gx1 : mg "NoSpot" = some (.ref (He.ga K "NoSpot")) := He.glo_ok X G (c.fact 31 (f := .glo "NoSpot") rfl)
  have gx2 : mg "NoShare" = some (.ref (He.ga K "NoShare")) := He.glo_ok X G (c.fact 32 (f := .glo "NoShare") rfl)
  have gx3 : mg "NoBook" = some (.ref (He.ga K "NoBook")) := He.glo_ok X G (c.fact 33 (f := .glo "NoBook") rfl)
  have gx4 : mg "NoPlace" = some (.ref (He.ga K "NoPlace")) := He.glo_ok X G (c.fact 34 (f := .glo "NoPlace") rfl)
  have gx5 : mg "Absent" = some (.ref (He.ga K "Absent")) := He.glo_ok X G (c.fact 35 (f := .glo "Absent") rfl)
  have gx6 : mg "Nothing" = some (.ref (He.ga K "Nothing")) := He.glo_ok X G (c.fact 36 (f := .glo "Nothing") rfl)
  have gx7 : mg "NoTable" = some (.ref (He.ga K "NoTable")) := He.glo_ok X G (c.fact 37 (f := .glo "NoTable") rfl)
  have gx8 : mg "NoLine" = some (.ref (He.ga K "NoLine")) := He.glo_ok X G (c.fact 38 (f := .glo "NoLine") rfl)
  have gx9 : mg "NoSpending" = some (.ref (He.ga K "NoSpending")) := He.glo_ok X G (c.fact 39 (f := .glo "NoSpending") rfl)
  have gx10 : mg "NoRule" = some (.ref (He.ga K "NoRule")) := He.glo_ok X G (c.fact 40 (f := .glo "NoRule") rfl)
  have gx11 : mg "NoJourney" = some (.ref (He.ga K "NoJourney")) := He.glo_ok X G (c.fact 41 (f := .glo "NoJourney") rfl)
  have gx12 : mg "NoText" = some (.ref (He.ga K "NoText")) := He.glo_ok X G (c.fact 42 (f := .glo "NoText") rfl)
  have gx13 : mg "TooMany" = some (.ref (He.ga K "TooMany")) := He.glo_ok X G (c.fact 43 (f := .glo "TooMany") rfl)
  have gx14 : mg "NoRate" = some (.ref (He.ga K "NoRate")) := He.glo_ok X G (c.fact 44 (f := .glo "NoRate") rfl)
  have gx15 : mg "NoDay" = some (.ref (He.ga K "NoDay")) := He.glo_ok X G (c.fact 45 (f := .glo "NoDay") rfl)
  have gx16 : mg "NoName" = some (.ref (He.ga K "NoName")) := He.glo_ok X G (c.fact 46 (f := .glo "NoName") rfl)
  have gx17 : mg "NoHeads" = some (.ref (He.ga K "NoHeads")) := He.glo_ok X G (c.fact 47 (f := .glo "NoHeads") rfl)
  have E : ExF exNames K mg := exFB_ok (nm := exNames) (K := K) (mg := mg) (by unfold exNames; exact List.forall_mem_cons.mpr ⟨gx0, List.forall_mem_cons.mpr ⟨gx1, List.forall_mem_cons.mpr ⟨gx2, List.forall_mem_cons.mpr ⟨gx3, List.forall_mem_cons.mpr ⟨gx4, List.forall_mem_cons.mpr ⟨gx5, List.forall_mem_cons.mpr ⟨gx6, List.forall_mem_cons.mpr ⟨gx7, List.forall_mem_cons.mpr ⟨gx8, List.forall_mem_cons.mpr ⟨gx9, List.forall_mem_cons.mpr ⟨gx10, List.forall_mem_cons.mpr ⟨gx11, List.forall_mem_cons.mpr ⟨gx12, List.forall_mem_cons.mpr ⟨gx13, List.forall_mem_cons.mpr ⟨gx14, List.forall_mem_cons.mpr ⟨gx15, List.forall_mem_cons.mpr ⟨gx16, List.forall_mem_cons.mpr ⟨gx17, fun _ h => nomatch h⟩⟩⟩⟩⟩⟩⟩⟩⟩⟩⟩⟩⟩⟩⟩⟩⟩⟩) (He.glo_ok X G (c.fact 29 (f := .glo "PenceError") rfl)) cx2
  have XI := xiB_ok cx3
  have nPT := of_decide_eq_true cx12
  have XP : Xp K mg "NoRates" (exA K "NoRates") [.type "ValueError", .type "Exception", .type "BaseException", .type "object"] "ValueError.__new__" := ⟨cx8, gx0, cx9, of_decide_eq_true cx10, of_decide_eq_true cx11⟩
  have g_is_whole : mg "is_whole" = some (.ref (He.ga K "is_whole")) := He.glo_ok X G (c.fact 0 (f := .glo "is_whole") rfl)
  have g_is_truth : mg "is_truth" = some (.ref (He.ga K "is_truth")) := He.glo_ok X G (c.fact 1 (f := .glo "is_truth") rfl)
  have g_is_kind : mg "is_kind" = some (.ref (He.ga K "is_kind")) := He.glo_ok X G (c.fact 2 (f := .glo "is_kind") rfl)
  have g_is_day : mg "is_day" = some (.ref (He.ga K "is_day")) := He.glo_ok X G (c.fact 3 (f := .glo "is_day") rfl)
  have g_check_heads : mg "check_heads" = some (.ref (He.ga K "check_heads")) := He.glo_ok X G (c.fact 4 (f := .glo "check_heads") rfl)
  have g_check_parts : mg "check_parts" = some (.ref (He.ga K "check_parts")) := He.glo_ok X G (c.fact 5 (f := .glo "check_parts") rfl)
  have g_is_row : mg "is_row" = some (.ref (He.ga K "is_row")) := He.glo_ok X G (c.fact 6 (f := .glo "is_row") rfl)
  have g_are_rates : mg "are_rates" = some (.ref (He.ga K "are_rates")) := He.glo_ok X G (c.fact 7 (f := .glo "are_rates") rfl)
  have g_check_rates : mg "check_rates" = some (.ref (He.ga K "check_rates")) := He.glo_ok X G (c.fact 8 (f := .glo "check_rates") rfl)
  have g_rate_on : mg "rate_on" = some (.ref (He.ga K "rate_on")) := He.glo_ok X G (c.fact 9 (f := .glo "rate_on") rfl)
  have g_told_rates : mg "told_rates" = some (.ref (He.ga K "told_rates")) := He.glo_ok X G (c.fact 10 (f := .glo "told_rates") rfl)
  have g_share_of : mg "share_of" = some (.ref (He.ga K "share_of")) := He.glo_ok X G (c.fact 11 (f := .glo "share_of") rfl)
  have g__law_box : mg "_law_box" = some (.ref (He.ga K "_law_box")) := He.glo_ok X G (c.fact 12 (f := .glo "_law_box") rfl)
  have g__law_more : mg "_law_more" = some (.ref (He.ga K "_law_more")) := He.glo_ok X G (c.fact 13 (f := .glo "_law_more") rfl)
  have g__law_take : mg "_law_take" = some (.ref (He.ga K "_law_take")) := He.glo_ok X G (c.fact 14 (f := .glo "_law_take") rfl)
  have g__law_family : mg "_law_family" = some (.ref (He.ga K "_law_family")) := He.glo_ok X G (c.fact 15 (f := .glo "_law_family") rfl)
  have g__law_word : mg "_law_word" = some (.ref (He.ga K "_law_word")) := He.glo_ok X G (c.fact 16 (f := .glo "_law_word") rfl)
  have g__law_said : mg "_law_said" = some (.ref (He.ga K "_law_said")) := He.glo_ok X G (c.fact 17 (f := .glo "_law_said") rfl)
  have g__law_odd : mg "_law_odd" = some (.ref (He.ga K "_law_odd")) := He.glo_ok X G (c.fact 18 (f := .glo "_law_odd") rfl)
  have g__law_whole : mg "_law_whole" = some (.ref (He.ga K "_law_whole")) := He.glo_ok X G (c.fact 19 (f := .glo "_law_whole") rfl)
  have g__law_rates : mg "_law_rates" = some (.ref (He.ga K "_law_rates")) := He.glo_ok X G (c.fact 20 (f := .glo "_law_rates") rfl)
  have g__law_rate : mg "_law_rate" = some (.ref (He.ga K "_law_rate")) := He.glo_ok X G (c.fact 21 (f := .glo "_law_rate") rfl)
  have g__law_are : mg "_law_are" = some (.ref (He.ga K "_law_are")) := He.glo_ok X G (c.fact 22 (f := .glo "_law_are") rfl)
  have g__law_bent : mg "_law_bent" = some (.ref (He.ga K "_law_bent")) := He.glo_ok X G (c.fact 23 (f := .glo "_law_bent") rfl)
  have g__law_odd_rates : mg "_law_odd_rates" = some (.ref (He.ga K "_law_odd_rates")) := He.glo_ok X G (c.fact 24 (f := .glo "_law_odd_rates") rfl)
  have g__law_right : mg "_law_right" = some (.ref (He.ga K "_law_right")) := He.glo_ok X G (c.fact 25 (f := .glo "_law_right") rfl)
  have g_law : mg "law" = some (.ref (He.ga K "law")) := He.glo_ok X G (c.fact 26 (f := .glo "law") rfl)
  have e := hfa.symm.trans g_law
  cases e
  have b_law := FunD.bindsA (ps := ["_law_script"]) F_law fun _ _ _ _ _ _ us hl => match us, hl with | [_], _ => rfl
  obtain ⟨iH, bH⟩ := FunD.kbindsD (ps := ["self", "kind", "amount", "day", "paper", "heads", "money"]) F_Spending_init 3 ["money"] (fun vs ds zs => vs ++ ds.take 3 ++ zs) (by simp) (fun r1 r2 r3 => (r1.append (r2.take 3)).append r3) fun T kV doc pm an cdv ct us its ws hl hi hw => match us, its, ws, hl, hi, hw with | [_, _, _], [_, _, _, _], [_], _, _, _ => ⟨_, rfl, rfl⟩
  obtain ⟨dO2, vO2, bO2⟩ := FunD.binds1 (ps := ["spending", "rates"]) F_share_of 2 1 (by simp) rfl fun T kV doc pm an cdv ct us its hl hi => match us, its, hl, hi with | [_, _], [_], _, _ => ⟨_, rfl, rfl⟩
  have bKr := kbindsZ (ps := ["rates", "money", "day"]) F_rate_on 0 ["rates", "day", "money"] (fun vs zs => vs ++ zs.take 1 ++ zs.drop 2 ++ (zs.drop 1).take 1) (fun r1 r2 => ((r1.append (r2.take 1)).append (r2.drop 2)).append ((r2.drop 1).take 1)) fun kV doc pm an cdv ct us ws hl hw => match us, ws, hl, hw with | [], [_, _, _], _, _ => rfl
  have bN : Binds K fd_NoRate_init ["self", "money", "day"] [] := FunD.bindsN F_NoRate_init fun _ _ _ _ _ _ us hl => match us, hl with | [_, _, _], _ => rfl
  refine ⟨fd_law, fun s v => b_law s [v] rfl, fun base _ _ tb__law_right tb_law => ?_⟩
  have D_is_whole : Df P w K mg base 1 "is_whole" ["thing", "least", "most"] [] spWhole := df_mk F_is_whole g_is_whole (fun _ _ _ _ _ _ us hl => match us, hl with | [_, _, _], _ => rfl) (p_whole ⟨_, _, F_is_whole⟩ T)
  have DWT : Df P w K mg base 1 "is_whole" ["thing", "least", "most"] [] spWholeT := df_mk F_is_whole g_is_whole (fun _ _ _ _ _ _ us hl => match us, hl with | [_, _, _], _ => rfl) (p_wholeT ⟨_, _, F_is_whole⟩ T)
  have D_is_truth : Df P w K mg base 1 "is_truth" ["thing"] [] spTruth := df_mk F_is_truth g_is_truth (fun _ _ _ _ _ _ us hl => match us, hl with | [_], _ => rfl) (p_truth ⟨_, _, F_is_truth⟩ T)
  have D_is_kind : Df P w K mg base 1 "is_kind" ["thing"] [] spKind := df_mk F_is_kind g_is_kind (fun _ _ _ _ _ _ us hl => match us, hl with | [_], _ => rfl) (p_kind ⟨_, _, F_is_kind⟩ T)
  have D_is_day : Df P w K mg base 2 "is_day" ["thing"] [] spDay := df_mk F_is_day g_is_day (fun _ _ _ _ _ _ us hl => match us, hl with | [_], _ => rfl) (p_day ⟨_, _, F_is_day⟩ T D_is_whole)
  have DDT : Df P w K mg base 2 "is_day" ["thing"] [] spDayT := df_mk F_is_day g_is_day (fun _ _ _ _ _ _ us hl => match us, hl with | [_], _ => rfl) (p_dayT ⟨_, _, F_is_day⟩ T DWT)
  have D_check_heads : Df P w K mg base 2 "check_heads" ["heads"] [] spHeads := df_mk F_check_heads g_check_heads (fun _ _ _ _ _ _ us hl => match us, hl with | [_], _ => rfl) (p_heads ⟨_, _, F_check_heads⟩ T D_is_whole)
  have D_check_parts : Df P w K mg base 3 "check_parts" ["kind", "amount", "day", "paper", "heads", "money"] [] spParts := df_mk F_check_parts g_check_parts (fun _ _ _ _ _ _ us hl => match us, hl with | [_, _, _, _, _, _], _ => rfl) (p_parts ⟨_, _, F_check_parts⟩ T D_is_whole D_is_kind D_is_day D_is_truth D_check_heads)
  have OI : FnOk P w K mg base CX0 4 _ fd_Spending_init ["self", "kind", "amount", "day", "paper", "heads", "money"] (spInit (He.ga K "Spending")) := p_init ⟨_, _, F_Spending_init⟩ S D_check_parts
  have MM : Mf P w K mg base 4 "Spending" (He.ga K "Spending") 2 ["money"] gMoney (spInit (He.ga K "Spending")) := ⟨_, fd_Spending_init, _, _, MK, OI, gS, bH⟩
  have D_is_row : Df P w K mg base 3 "is_row" ["thing"] [] spIsRow := df_mk F_is_row g_is_row (fun _ _ _ _ _ _ us hl => match us, hl with | [_], _ => rfl) (p_is_row ⟨_, _, F_is_row⟩ T2 D_is_whole D_is_day)
  have DRT : Df P w K mg base 3 "is_row" ["thing"] [] spIsRowT := df_mk F_is_row g_is_row (fun _ _ _ _ _ _ us hl => match us, hl with | [_], _ => rfl) (FnOk.or (sp1 := spIsRow) (sp2 := spIsRowN) (p_is_row ⟨_, _, F_is_row⟩ T2 D_is_whole D_is_day) (p_isRowN ⟨_, _, F_is_row⟩ T2 DWT DDT))
  have D_are_rates : Df P w K mg base 4 "are_rates" ["thing"] [] (spAreRates K) := df_mk F_are_rates g_are_rates (fun _ _ _ _ _ _ us hl => match us, hl with | [_], _ => rfl) (p_are_rates ⟨_, _, F_are_rates⟩ T2 D_is_row)
  have DAN : Df P w K mg base 4 "are_rates" ["thing"] [] (spAreN K) := df_mk F_are_rates g_are_rates (fun _ _ _ _ _ _ us hl => match us, hl with | [_], _ => rfl) (p_areN ⟨_, _, F_are_rates⟩ T2 DRT)
  have D_check_rates : Df P w K mg base 5 "check_rates" ["rates"] [] (spCheckRates K) := df_mk F_check_rates g_check_rates (fun _ _ _ _ _ _ us hl => match us, hl with | [_], _ => rfl) (p_check_rates ⟨_, _, F_check_rates⟩ D_are_rates)
  have DCN : Dx P w K mg base 5 "check_rates" ["rates"] [] (spChkN K (exA K "NoRates")) := ⟨_, fd_check_rates, [], p_chkN ⟨_, _, F_check_rates⟩ DAN XP, g_check_rates, F_check_rates.kp, FunD.bindsN F_check_rates (fun _ _ _ _ _ _ us hl => match us, hl with | [_], _ => rfl), .nil⟩
  have XQ : Xq P w K mg base 1 "NoRate" (exA K "NoRate") okNR fsNR := ⟨_, _, _, _, _, fd_NoRate_init, _, bs_L, XI, gx14, He.eqO_ok cx6, of_decide_eq_true cx7, p_norate ⟨_, _, F_NoRate_init⟩ XI tLookupError (He.eqO_ok cx4) (He.eqO_ok cx5) (by rfl), bN⟩
  have OR1 : FnOk P w K mg base (L2.CX P w) 6 _ fd_rate_on ["rates", "money", "day"] (spRateX K (exA K "NoRate")) := p_rateX ⟨_, _, F_rate_on⟩ XQ D_check_rates
  have OR2 : FnOk P w K mg base (L2.CX P w) 6 _ fd_rate_on ["rates", "money", "day"] (spRateN K (exA K "NoRates")) := p_rateN ⟨_, _, F_rate_on⟩ DCN
  have DR : Dx P w K mg base 6 "rate_on" ["rates", "money", "day"] [] (spRateX K (exA K "NoRate")) := ⟨_, fd_rate_on, [], OR1, g_rate_on, F_rate_on.kp, FunD.bindsN F_rate_on (fun _ _ _ _ _ _ us hl => match us, hl with | [_, _, _], _ => rfl), .nil⟩
  have DRN : Dx P w K mg base 6 "rate_on" ["rates", "money", "day"] [] (spRateN K (exA K "NoRates")) := ⟨_, fd_rate_on, [], OR2, g_rate_on, F_rate_on.kp, FunD.bindsN F_rate_on (fun _ _ _ _ _ _ us hl => match us, hl with | [_, _, _], _ => rfl), .nil⟩
  have DRU : Dx P w K mg base 6 "rate_on" ["rates", "money", "day"] [] (spRateU K (exA K "NoRate") (exA K "NoRates")) := ⟨_, fd_rate_on, [], FnOk.or (sp1 := spRateX K (exA K "NoRate")) (sp2 := spRateN K (exA K "NoRates")) OR1 OR2, g_rate_on, F_rate_on.kp, FunD.bindsN F_rate_on (fun _ _ _ _ _ _ us hl => match us, hl with | [_, _, _], _ => rfl), .nil⟩
  have DKr : Dk P w K mg base 6 "rate_on" 0 ["rates", "day", "money"] gRD (spRateX K (exA K "NoRate")) := ⟨_, fd_rate_on, _, _, OR1, g_rate_on, F_rate_on.kp, bKr⟩
  have D_told_rates : Df P w K mg base 6 "told_rates" ["rates"] [] (spTold K) := df_mk F_told_rates g_told_rates (fun _ _ _ _ _ _ us hl => match us, hl with | [_], _ => rfl) (p_told ⟨_, _, F_told_rates⟩ D_check_rates)
  have DTN : Dx P w K mg base 6 "told_rates" ["rates"] [] (spToldN K (exA K "NoRates")) := ⟨_, fd_told_rates, [], p_toldN ⟨_, _, F_told_rates⟩ DCN, g_told_rates, F_told_rates.kp, FunD.bindsN F_told_rates (fun _ _ _ _ _ _ us hl => match us, hl with | [_], _ => rfl), .nil⟩
  have OS1 : FnOk P w K mg base (L2.CX P w) 7 _ fd_share_of ["spending", "rates"] (spShareX K (He.ga K "Spending") (exA K "NoRate")) := p_shareX ⟨_, _, F_share_of⟩ S D_told_rates DR
  have OS2 : FnOk P w K mg base (L2.CX P w) 7 _ fd_share_of ["spending", "rates"] (spShareN K (exA K "NoRates")) := p_shareN ⟨_, _, F_share_of⟩ DTN DRN
  have DSU : Dx P w K mg base 7 "share_of" ["spending", "rates"] [] (spShareU K (He.ga K "Spending") (exA K "NoRate") (exA K "NoRates")) := ⟨_, fd_share_of, dO2, FnOk.or (sp1 := spShareX K (He.ga K "Spending") (exA K "NoRate")) (sp2 := spShareN K (exA K "NoRates")) OS1 OS2, g_share_of, F_share_of.kp, bO2, vO2⟩
  have D__law_box : Df P w K mg base 1 "_law_box" ["_law_script", "_law_k"] [] (spBox K) := df_mk F__law_box g__law_box (fun _ _ _ _ _ _ us hl => match us, hl with | [_, _], _ => rfl) (p_box ⟨_, _, F__law_box⟩ T)
  have D__law_more : Df P w K mg base 1 "_law_more" ["_law_box_here"] [] spMore := df_mk F__law_more g__law_more (fun _ _ _ _ _ _ us hl => match us, hl with | [_], _ => rfl) (p_more ⟨_, _, F__law_more⟩ T)
  have D__law_take : Df P w K mg base 2 "_law_take" ["_law_box_here", "_law_count"] [] spTake := df_mk F__law_take g__law_take (fun _ _ _ _ _ _ us hl => match us, hl with | [_, _], _ => rfl) (p_take ⟨_, _, F__law_take⟩ T D__law_more)
  have D_fam : DE P w K mg base 1 "_law_family" "_law_e" (spFam K) := ⟨_, fd__law_family, p_family ⟨_, _, F__law_family⟩ T.isinstance E, g__law_family, F__law_family.kp, FunD.bindsN F__law_family (fun _ _ _ _ _ _ us hl => match us, hl with | [_], _ => rfl)⟩
  have D_word : DE P w K mg base 2 "_law_word" "_law_e" (spWord K) := ⟨_, fd__law_word, p_word ⟨_, _, F__law_word⟩ T.isinstance tValueError tKeyError tIndexError tLookupError tZeroDivisionError E D_fam, g__law_word, F__law_word.kp, FunD.bindsN F__law_word (fun _ _ _ _ _ _ us hl => match us, hl with | [_], _ => rfl)⟩
  have D_said : Giv P w K mg base 3 "_law_said" qLam (TTsaid exNames K) := p_said ⟨_, _, F__law_said⟩ g__law_said F__law_said.kp (FunD.bindsN F__law_said (fun _ _ _ _ _ _ us hl => match us, hl with | [_], _ => rfl)) E D_word
  have D_said2 : Giv P w K mg base 3 "_law_said" qLam2 (TTsaid exNames K) := p_said ⟨_, _, F__law_said⟩ g__law_said F__law_said.kp (FunD.bindsN F__law_said (fun _ _ _ _ _ _ us hl => match us, hl with | [_], _ => rfl)) E D_word
  have D__law_odd : Df P w K mg base 3 "_law_odd" ["_law_box_here"] [] (spOdT K) := df_mk F__law_odd g__law_odd (fun _ _ _ _ _ _ us hl => match us, hl with | [_], _ => rfl) (p_odT ⟨_, _, F__law_odd⟩ D__law_take)
  have D__law_whole : Df P w K mg base 1 "_law_whole" ["_law_thing", "_law_low", "_law_high"] [] spWholeT := df_mk F__law_whole g__law_whole (fun _ _ _ _ _ _ us hl => match us, hl with | [_, _, _], _ => rfl) (p_lwhole ⟨_, _, F__law_whole⟩ T)
  have D__law_rates : Df P w K mg base 3 "_law_rates" ["_law_box_here"] [] (spRates K) := df_mk F__law_rates g__law_rates (fun _ _ _ _ _ _ us hl => match us, hl with | [_], _ => rfl) (p_rates ⟨_, _, F__law_rates⟩ T2 tsorted D__law_take)
  have D__law_rate : Df P w K mg base 1 "_law_rate" ["_law_table", "_law_coin", "_law_when"] [] (spLRate K) := df_mk F__law_rate g__law_rate (fun _ _ _ _ _ _ us hl => match us, hl with | [_, _, _], _ => rfl) (p_lrate ⟨_, _, F__law_rate⟩ )
  have D__law_are : Df P w K mg base 2 "_law_are" ["_law_thing"] [] (spLAre K) := df_mk F__law_are g__law_are (fun _ _ _ _ _ _ us hl => match us, hl with | [_], _ => rfl) (p_lare ⟨_, _, F__law_are⟩ T2 tsorted tset D__law_whole)
  have D__law_bent : Df P w K mg base 4 "_law_bent" ["_law_box_here", "_law_table"] [] (spBent K) := df_mk F__law_bent g__law_bent (fun _ _ _ _ _ _ us hl => match us, hl with | [_, _], _ => rfl) (p_bent ⟨_, _, F__law_bent⟩ T2 tlist D__law_take D__law_odd)
  have D__law_odd_rates : Df P w K mg base 1 "_law_odd_rates" [] [] (spOddR K) := df_mk F__law_odd_rates g__law_odd_rates (fun _ _ _ _ _ _ us hl => match us, hl with | [], _ => rfl) (p_oddR ⟨_, _, F__law_odd_rates⟩ )
  have DRi : Dg P w K mg base 10 "_law_right" ["_law_table", "_law_coin", "_law_when"] [] (spRightR K (He.cT K ("_law_right", none)).2 (He.cT K ("law", none)).2) := ⟨_, fd__law_right, [], p_right ⟨_, _, F__law_right⟩ (code_at (p := ("_law_right", none)) F__law_right) tb__law_right nPT D__law_rate DR DKr D_said, g__law_right, F__law_right.kp, FunD.bindsN F__law_right (fun _ _ _ _ _ _ us hl => match us, hl with | [_, _, _], _ => rfl), .nil⟩
  exact p_law ⟨_, _, F_law⟩ (code_at (p := ("law", none)) F_law) tb_law nPT T2 tmax tmin trepr D__law_box D__law_take D__law_rates D__law_bent D__law_are D__law_odd_rates DRi D_said2 DRU DSU MM
end Rp
open PySem PySem.W PySem.Calls PyProof.Rows in
set_option maxRecDepth 100000 in
set_option maxHeartbeats 0 in
theorem PySem.Challenge.cw_roadpence_k04_rates_of_days_holds : PySem.Challenge.rw_roadpence_k04_rates_of_days.Holds := by
  w_on; o_law
  refine HandSHeadRun.head_any (r := OpenLaw.row PySem.Challenge.rw_roadpence_k04_rates_of_days) (q := Rp.RV) (H := Rp.hk) (ob := Rp.ob) (M := 9000) (loose := Rp.loose) (d := HandSHeadRun.topDef (OpenLaw.row PySem.Challenge.rw_roadpence_k04_rates_of_days).prog 59) (kwd := []) Rp.ob_eq
    (by kernel_rfl) (fun s => by kernel_rfl) Rp.run (by kernel_rfl) (by kernel_rfl) (by kernel_rfl) (by rfl) (by first | assumption | decide +kernel) (by decide +kernel) ⟨rfl, rfl, rfl, rfl, rfl, by decide +kernel⟩ ?hw ?hc
  case hw => w_witness2
  case hc =>
    refine Rp.walk_ofG (l := PySem.Challenge.rw_roadpence_k04_rates_of_days) (n := 63) (k := 11) (x := "_law_script") rfl (by decide) (by kernel_rfl) ⟨rfl, by decide, by decide⟩ ?F
    intro w mg fa h Y G hmg0
    obtain ⟨K, KX, c⟩ := Y
    have hmg : mg ("law" : PySem.Str) = some (.ref fa) := by
      have e : (HandSHeadRun.topDef (OpenLaw.row PySem.Challenge.rw_roadpence_k04_rates_of_days).prog 59).name = ("law" : PySem.Str) := by kernel_rfl
      rw [← e]
      exact hmg0
    obtain ⟨fd, hb, hF⟩ := Rp.facts (P := (PySem.Challenge.rw_roadpence_k04_rates_of_days).prog) (w := w) KX G hmg c
    have each : ∀ {R : PySem.Addr × PySem.Addr → Prop}, (∀ t ∈ Rp.tf, R (He.cT K t)) → ∀ p ∈ Rp.tf.map (He.cT K), R p := fun g p hp => by
      obtain ⟨t, ht, rfl⟩ := List.mem_map.mp hp
      exact g t ht
    exact ⟨K, fd, Rp.tf.map (He.cT K), Rp.spLaw K (He.cT K ("_law_right", none)).2 (He.cT K ("law", none)).2, KX, each (R := fun p => h.get? p.2 = some Rp.tabO) fun t ht => c.empty t ht, each (R := fun p => K.lookup p.2 = none) fun t ht => c.out t ht, each (R := fun p => PySem.W.CodeHd h p.1 p.2) fun t ht => PySem.W.codeHd_of_K KX (c.hd t ht), hb, fun H a ns hl hT hS => ⟨a, ns, rfl, hS, hl, (fun p hp => (List.mem_cons.mp hp).elim (fun z => by rw [z]; exact Rp.tab_first (hT _ (List.mem_map.mpr ⟨("_law_right", none), by decide, rfl⟩))) (fun z => by rw [List.mem_singleton.mp z]; exact Rp.tab_first (hT _ (List.mem_map.mpr ⟨("law", none), by decide, rfl⟩)))), fun _ => rfl⟩, fun base k1 k2 tabs => hF base k1 k2 (tabs _ (List.mem_map.mpr ⟨("_law_right", none), by decide, rfl⟩)) (tabs _ (List.mem_map.mpr ⟨("law", none), by decide, rfl⟩))⟩
