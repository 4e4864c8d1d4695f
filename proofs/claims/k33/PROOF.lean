import PyProof.Rows.All
import Wide.All
import OpenK.AllK
import Wide.FinOn
import KE.KStateDown
import HandS.Base
import HandS.Call
import HandS.Ends
import HandS.More
import HandS.Words
import HandS.WordsExc
import HandS.Defaults
import HandS.ForMost
import HandS.MakeKw
import HandS.IsInst
import HandS.TupLe
import HandS.TupAny
import HandS.TupSets
import HandS.Conv
import HandS.Keys
import HandS.Head0
import HandS.Head1
import HandS.Head2
import HandS.HeadEnd
import HandS.HeadHook1
import HandS.HeadHook2
import HandS.Flow
import HandS.FStr
import HandS.RaiseMore
import HandS.OwnEq
import HandS.Text
import HandS.Iter
import HandS.Wide
import HandS.WideBits
import HandS.Zip
import KE.GoesMore
import KE.GoesNew
import KE.KAssignIn
import PyProof.EnumMake
import PyProof.FString2
import HandS.ForExc
import HandS.ExcCtx
import HandS.ExcInitHot
import HandS.ExcInit
import HandS.ExcField
import HandS.HotCalls
import HandS.ExcIs
import KE.KExcIs
import KE.KExcInit
import KE.DataFind
import KE.KTryMore
import HandS.Lambda
import HandS.HeadWalk
import HandS.HeadHook3
import HandS.HeadHook4
import PyProof.ReprRoads
import KE.KNestM
import PyProof.Rows.StrJoinMade
import HandS.Hot
import KE.SortKeyHeap
import KE.KSortKey
import HandS.SortKw
import HandS.List
import PyProof.ReprLoop
import PyProof.ReprHeads
import PyProof.ReprHeadsEmpty
import PyProof.StrHeap
import PyProof.FString
import HandS.MakeKwOnly
import HandS.SetFor
import HandS.Strs
import HandS.Deep
import HandS.Set
import HandS.TupMul
import HandS.Style
import PyProof.ReprReads
import PyProof.DictTruth
import PyProof.Rows.Range3
import PyProof.Conv_bool
import PyProof.ListRange
import PyProof.RangeFor
import PyProof.ExcClass
import PyProof.ExcFactsAll.IndexError
import HandS.Exc
import PySem.Challenge.RW_roadpence_k33_whole_journeys_in_any_orde
set_option Elab.async false
set_option linter.all false
set_option maxRecDepth 100000
set_option maxHeartbeats 4000000
namespace Rp
open PySem PySem.Spec PyProof.Rows L2
/-! ### wishes -/
/-! each a structure, so that no unification unfolds it -/
structure wE (X : Cx) (e : Expr) (σ : L2.St) (H : Hp) (Q : VK) : Prop where
  run : ∀ (pins : List (Addr × Obj)) (s : Shared), Inv X pins σ H s → wpAny (model X.prog X.w) X.A (eval e X.env) (EP X pins σ Q) X.xe s
structure wT (X : Cx) (e : Expr) (σ : L2.St) (H : Hp) (Q : Bool → Hp → Prop) : Prop where
  run : ∀ (pins : List (Addr × Obj)) (s : Shared), Inv X pins σ H s → wpAny (model X.prog X.w) X.A (isTrue e X.env (eval e X.env)) (TP X pins σ Q) X.xe s
structure wW (X : Cx) (e : Expr) (σ : L2.St) (H : Hp) (Q : Bool → Hp → Prop) : Prop where
  run : ∀ (whole : Sem Value) (pins : List (Addr × Obj)) (s : Shared), Inv X pins σ H s → wpAny (model X.prog X.w) X.A (isTrue e X.env whole) (TP X pins σ Q) X.xe s
structure wA (X : Cx) (es : List Expr) (σ : L2.St) (H : Hp) (Q : List V → Hp → Prop) : Prop where
  run : ∀ (pos : Pos) (pins : List (Addr × Obj)) (s : Shared), Inv X pins σ H s → wpAny (model X.prog X.w) X.A (spliced (backTo pos (starEach es X.env))) (AP X pins σ Q) X.xe s
structure wK (X : Cx) (kws : List Keyword) (σ : L2.St) (H : Hp) (Q : List V → Hp → Prop) : Prop where
  run : ∀ (pos : Pos) (pins : List (Addr × Obj)) (s : Shared), Inv X pins σ H s → wpAny (model X.prog X.w) X.A (evalAll ((backToKw pos (keywordEach kws X.env)).map (·.2))) (AP X pins σ Q) X.xe s
structure wS (X : Cx) (st : Stmt) (D : Ends) (σ : L2.St) (H : Hp) : Prop where
  run : ∀ (pins : List (Addr × Obj)) (s : Shared), Inv X pins σ H s → wpAny (model X.prog X.w) X.A (exec st X.env) (SP X pins D) X.xe s
structure wB (X : Cx) (st : List Stmt) (D : Ends) (σ : L2.St) (H : Hp) : Prop where
  run : ∀ (pins : List (Addr × Obj)) (s : Shared), Inv X pins σ H s → wpAny (model X.prog X.w) X.A (execs st X.env) (SP X pins D) X.xe s
structure wG (X : Cx) (tg : Expr) (v : V) (σ : L2.St) (H : Hp) (Q : L2.St → Hp → Prop) : Prop where
  run : ∀ (pins : List (Addr × Obj)) (s : Shared) (u : Value), Inv X pins σ H s → RelV v u →
  wpAny (model X.prog X.w) X.A (assign tg X.env u) (fun _ s' => ∃ σ' H', Inv X pins σ' H' s' ∧ Q σ' H') X.xe s
structure wGs (X : Cx) (ts : List Expr) (vs : List V) (σ : L2.St) (H : Hp) (Q : L2.St → Hp → Prop) : Prop where
  run : ∀ (pins : List (Addr × Obj)) (s : Shared) (us : List Value), Inv X pins σ H s → Vals vs us →
  wpAny (model X.prog X.w) X.A (assignInOrder ((assignEach ts X.env).map (·.2)) us) (fun _ s' => ∃ σ' H', Inv X pins σ' H' s' ∧ Q σ' H') X.xe s
structure wO (X : Cx) (f : Value → Value → Sem Value) (x y : V) (H : Hp) (Q : VK) : Prop where
  run : ∀ (pins : List (Addr × Obj)) (s : Shared) (σ : L2.St) (v u : Value), Inv X pins σ H s → RelV x v → RelV y u →
  wpAny (model X.prog X.w) X.A (f v u) (EP X pins σ Q) X.xe s
structure wU (X : Cx) (f : Value → Sem Value) (x : V) (H : Hp) (Q : VK) : Prop where
  run : ∀ (pins : List (Addr × Obj)) (s : Shared) (σ : L2.St) (v : Value), Inv X pins σ H s → RelV x v →
  wpAny (model X.prog X.w) X.A (f v) (EP X pins σ Q) X.xe s
structure wC (X : Cx) (f : Value) (xs : List V) (H : Hp) (Q : VK) : Prop where
  run : ∀ (pins : List (Addr × Obj)) (s : Shared) (σ : L2.St) (us : List Value), Inv X pins σ H s → Vals xs us →
  wpAny (model X.prog X.w) X.A (call f us) (EP X pins σ Q) X.xe s
structure wIx (X : Cx) (value slice : Expr) (x y : V) (H : Hp) (Q : VK) : Prop where
  run : ∀ (pins : List (Addr × Obj)) (s : Shared) (σ : L2.St) (v u : Value), Inv X pins σ H s → RelV x v → RelV y u →
  wpAny (model X.prog X.w) X.A (subscriptTail value slice v u) (EP X pins σ Q) X.xe s
section
variable {X : Cx} {e a b c : Expr} {es : List Expr} {kws : List Keyword} {st : Stmt} {sts rest : List Stmt} {t : TE} {tt : TT} {ta : TA} {ts : TS} {r : R2} {σ : L2.St} {H : Hp} {Q : VK} {QB : Bool → Hp → Prop} {QA : List V → Hp → Prop} {D : Ends} {pos : Pos}
theorem wE.pe : PE X e (wE X e) := ⟨fun pins s σ H Q I h => h.run pins s I⟩
theorem wE.of (h : PE X e t) (q : t σ H Q) : wE X e σ H Q := ⟨fun pins s I => h.run pins s σ H Q I q⟩
theorem wT.pt : PT X e (wT X e) := ⟨fun pins s σ H Q I h => h.run pins s I⟩
theorem wT.of (h : PT X e tt) (q : tt σ H QB) : wT X e σ H QB := ⟨fun pins s I => h.run pins s σ H QB I q⟩
theorem wW.pw : PW X e (wW X e) := ⟨fun wh pins s σ H Q I h => h.run wh pins s I⟩
theorem wW.of (h : PW X e tt) (q : tt σ H QB) : wW X e σ H QB := ⟨fun wh pins s I => h.run wh pins s σ H QB I q⟩
theorem wA.pa : PA X es (wA X es) := ⟨fun pos pins s σ H Q I h => h.run pos pins s I⟩
theorem wA.of (h : PA X es ta) (q : ta σ H QA) : wA X es σ H QA := ⟨fun pos pins s I => h.run pos pins s σ H QA I q⟩
theorem wK.pk : PK X kws (wK X kws) := ⟨fun pos pins s σ H Q I h => h.run pos pins s I⟩
theorem wK.of (h : PK X kws ta) (q : ta σ H QA) : wK X kws σ H QA := ⟨fun pos pins s I => h.run pos pins s σ H QA I q⟩
theorem wS.ps : PS X st (wS X st) := ⟨fun pins s σ H D I h => h.run pins s I⟩
theorem wS.of (h : PS X st ts) (q : ts D σ H) : wS X st D σ H := ⟨fun pins s I => h.run pins s σ H D I q⟩
theorem wB.pss : PSs X sts (wB X sts) := ⟨fun pins s σ H D I h => h.run pins s I⟩
theorem wB.of (h : PSs X sts ts) (q : ts D σ H) : wB X sts D σ H := ⟨fun pins s I => h.run pins s σ H D I q⟩
theorem wG.pg : PG X e (wG X e) := ⟨fun pins s σ H v u Q I r h => h.run pins s u I r⟩
theorem wG.of {g : TG} {v : V} {QS : L2.St → Hp → Prop} (h : PG X e g) (q : g v σ H QS) : wG X e v σ H QS := ⟨fun pins s u I r => h.run pins s σ H v u QS I r q⟩
theorem wGs.pgs : PGs X es (wGs X es) := ⟨fun pins s σ H v u Q I r h => h.run pins s u I r⟩
theorem wGs.of {g : TGs} {vs : List V} {QS : L2.St → Hp → Prop} (h : PGs X es g) (q : g vs σ H QS) : wGs X es vs σ H QS := ⟨fun pins s u I r => h.run pins s σ H vs u QS I r q⟩
theorem wO.op {f : Value → Value → Sem Value} : OpR X f (wO X f) := fun pins s σ H x y v u Q I rx ry q => q.run pins s σ v u I rx ry
theorem wO.of {f : Value → Value → Sem Value} {x y : V} (h : OpR X f r) (q : r x y H Q) : wO X f x y H Q := ⟨fun pins s σ v u I rx ry => h pins s σ H x y v u Q I rx ry q⟩
theorem wU.un {f : Value → Sem Value} : UnR X f (wU X f) := fun pins s σ H x v Q I rx q => q.run pins s σ v I rx
theorem wU.of {f : Value → Sem Value} {x : V} {ru : V → Hp → VK → Prop} (h : UnR X f ru) (q : ru x H Q) : wU X f x H Q := ⟨fun pins s σ v I rx => h pins s σ H x v Q I rx q⟩
theorem wC.call {f : Value} : CallR X f (wC X f) := fun pins s σ H xs us Q I r q => q.run pins s σ us I r
theorem wC.of {f : Value} {vs : List V} {rc : List V → Hp → VK → Prop} (h : CallR X f rc) (q : rc vs H Q) : wC X f vs H Q := ⟨fun pins s σ us I r => h pins s σ H vs us Q I r q⟩
def IsB (z : V) (R : Bool → Prop) : Prop := ∃ k, z = .bl k ∧ R k
theorem isB {k : Bool} {R : Bool → Prop} (q : R k) : IsB (.bl k) R := ⟨k, rfl, q⟩
/-! ### names -/
/-- the name x stands with the value v -/
inductive Lk : List Str → L2.St → Str → V → Prop where
  | here {N σ x v} : Lk (x :: N) (some v :: σ) x v
  | there {N σ x v y w} : Lk N σ x v → Lk (y :: N) (w :: σ) x v
inductive Pt : List Str → L2.St → Str → V → L2.St → Prop where
  | here {N σ x v w} : Pt (x :: N) (w :: σ) x v (some v :: σ)
  | there {N σ σ' x v y w} : Pt N σ x v σ' → Pt (y :: N) (w :: σ) x v (w :: σ')
def Put (N : List Str) (σ : L2.St) (x : Str) (v : V) (R : L2.St → Prop) : Prop := ∃ σ', Pt N σ x v σ' ∧ R σ'
theorem put_i {N : List Str} {σ σ1 : L2.St} {x : Str} {v : V} {R : L2.St → Prop} (pt : Pt N σ x v σ1) (q : R σ1) : Put N σ x v R := ⟨_, pt, q⟩
theorem Lk.ix : ∀ {N σ x v}, Lk N σ x v → ∃ i : Nat, N[i]? = some x ∧ σ[i]? = some (some v)
  | _, _, _, _, .here => ⟨0, rfl, rfl⟩
  | _, _, _, _, .there h => let ⟨i, a, b⟩ := h.ix; ⟨i + 1, a, b⟩
theorem Pt.ix : ∀ {N σ x v σ'}, Pt N σ x v σ' → ∃ i : Nat, N[i]? = some x ∧ σ' = σ.set i (some v)
  | _, _, _, _, _, .here => ⟨0, rfl, rfl⟩
  | _, _, _, _, _, .there h => let ⟨i, a, b⟩ := h.ix; ⟨i + 1, a, by rw [b]; rfl⟩
/-- what of the names must be: V the names that are seen, S those that are stored, G the globals and built-ins -/
def namesOk (V S G : List Str) (sc : Scope) : Bool :=
  (V.all fun x => ((sc.names.lookup x == some .local) || (sc.names.lookup x == some .cell) || (sc.names.lookup x == some .free)) && !(x == ("__debug__" : Str)) && !(x == ("__classdict__" : Str))) &&
  (S.all fun x => (sc.names.lookup x == some .local) || (sc.names.lookup x == some .cell)) &&
  (G.all fun x => (sc.names.lookup x == some .globalImplicit) && !(x == ("__debug__" : Str)) && !(x == ("__name__" : Str)))
structure CxI (P : Program) (w : World) (K : PySem.W.Frag) (mg : Str → Option Value) (base : Heap) (k : Nat) (N Vz Sz G : List Str) (sc : Scope) (X : Cx) : Prop where
  eP : X.prog = P
  ew : X.w = w
  eK : X.K = K
  em : X.mg = mg
  eb : X.base = base
  eN : X.N = N
  es : X.env.scope = sc
  room : Room k X.A
  calm : X.calm = true
  fn : (∀ x, X.fn x = true) ∨ ∀ x ∈ Sz, sc.names.lookup x = some .local
  po : PassesOwn (model X.prog X.w) X.A X.env X.xe
  nd : N.Nodup
  ok : namesOk Vz Sz G sc = true
  fk : sc.kind = .function
section
variable {P : Program} {w : World} {K : PySem.W.Frag} {mg : Str → Option Value} {base : Heap} {k : Nat} {N Vz Sz G : List Str} {sc : Scope} {x : Str} {v : V} {p : Pos}
theorem CxI.vis (C : CxI P w K mg base k N Vz Sz G sc X) (h : x ∈ Vz) : Vis X.env.scope x ∧ (x == ("__debug__" : Str)) = false ∧ (x == ("__classdict__" : Str)) = false := by
  have q := C.ok
  unfold namesOk at q
  rw [Bool.and_eq_true, Bool.and_eq_true] at q
  have q1 := List.all_eq_true.mp q.1.1 x h
  rw [Bool.and_eq_true, Bool.and_eq_true, Bool.or_eq_true, Bool.or_eq_true] at q1
  obtain ⟨⟨a, b⟩, c⟩ := q1
  rw [C.es]
  refine ⟨?_, by simpa using b, by simpa using c⟩
  rcases a with (a | a) | a
  · exact .inl (eq_of_beq a)
  · exact .inr (.inl (eq_of_beq a))
  · exact .inr (.inr (eq_of_beq a))
theorem CxI.loc (C : CxI P w K mg base k N Vz Sz G sc X) (h : x ∈ Sz) : Loc X.env.scope x ∧ (X.fn x = true ∨ X.env.scope.names.lookup x = some .local) := by
  have q := C.ok
  unfold namesOk at q
  rw [Bool.and_eq_true, Bool.and_eq_true] at q
  have q1 := List.all_eq_true.mp q.1.2 x h
  rw [Bool.or_eq_true] at q1
  rw [C.es]
  refine ⟨?_, ?_⟩
  · rcases q1 with a | a
    · exact .inl (eq_of_beq a)
    · exact .inr (eq_of_beq a)
  · rcases C.fn with f | f
    · exact .inl (f x)
    · exact .inr (f x h)
theorem CxI.glo (C : CxI P w K mg base k N Vz Sz G sc X) (h : x ∈ G) : Gl X x ∧ (x == ("__debug__" : Str)) = false ∧ x ≠ "__name__" := by
  have q := C.ok
  unfold namesOk at q
  rw [Bool.and_eq_true, Bool.and_eq_true] at q
  have q1 := List.all_eq_true.mp q.2 x h
  rw [Bool.and_eq_true, Bool.and_eq_true] at q1
  obtain ⟨⟨a, b⟩, c⟩ := q1
  refine ⟨?_, by simpa using b, by simpa using c⟩
  show X.env.scope.names.lookup x = _
  rw [C.es]
  exact eq_of_beq a
theorem wE_name (C : CxI P w K mg base k N Vz Sz G sc X) (hx : x ∈ Vz) (h : Lk N σ x v) (q : Q v H) : wE X (.Name x p) σ H Q := by
  obtain ⟨i, h1, h2⟩ := h.ix
  obtain ⟨l, d1, d2⟩ := C.vis hx
  exact wE.of (pe_var (i := i) (by rw [C.eN]; exact h1) l d1 d2) ⟨v, h2, q⟩
theorem wE_glob {u : Value} (C : CxI P w K mg base k N Vz Sz G sc X) (h : x ∈ G) (hm : mg x = some u) (r : RelV v u) (q : Q v H) : wE X (.Name x p) σ H Q := by
  obtain ⟨l, d1, d2⟩ := C.glo h
  exact wE.of (pe_glob l (by rw [C.em]; exact hm) r d1) q
/-! ### constants and displays -/
theorem wE_int {i j} (q : Q (.int i) H) : wE X (.Constant (.int i) j p) σ H Q := wE.of pe_int q
theorem wE_bl {i j} (q : Q (.bl i) H) : wE X (.Constant (.bool i) j p) σ H Q := wE.of pe_bl q
theorem wE_non {j} (q : Q .non H) : wE X (.Constant .none j p) σ H Q := wE.of pe_non q
theorem wE_str {z j} (q : Q (.str z) H) : wE X (.Constant (.str z) j p) σ H Q := wE.of pe_str q
theorem wA_nil (q : QA [] H) : wA X [] σ H QA := wA.of pa_nil q
theorem wA_cons (hs : starEach (e :: es) X.env = (false, eval e X.env) :: starEach es X.env) (q : wE X e σ H fun x H1 => wA X es σ H1 fun xs H2 => QA (x :: xs) H2) : wA X (e :: es) σ H QA := wA.of (pa_cons wE.pe wA.pa hs) q
theorem wK_nil (q : QA [] H) : wK X [] σ H QA := wK.of pk_nil q
theorem wK_cons {nm kp} (q : wE X e σ H fun x H1 => wK X kws σ H1 fun xs H2 => QA (x :: xs) H2) : wK X (⟨nm, e, kp⟩ :: kws) σ H QA := wK.of (pk_cons wE.pe wK.pk) q
/-! ### heaps -/
/-- all that is known stays -/
def Ex (H H' : Hp) : Prop := ∀ a o, H a = some o → H' a = some o
theorem Ex.refl (H : Hp) : Ex H H := fun _ _ h => h
theorem Ex.trans {H H1 H2 : Hp} (a : Ex H H1) (b : Ex H1 H2) : Ex H H2 := fun c o h => b c o (a c o h)
/-- but for the object at b -/
def Exb (b0 : Addr) (H H' : Hp) : Prop := ∀ a o, a ≠ b0 → H a = some o → H' a = some o
theorem Ex.upd {H : Hp} {p : Addr} {o : HO} (h : H p = none) : Ex H (upd H p o) := fun a u e => by rw [upd_ne (ne_of_none e h)]; exact e
theorem Exb.upd {H : Hp} {p : Addr} {o : HO} : Exb p H (upd H p o) := fun a u n e => by rw [upd_ne n]; exact e
theorem Ex.toB {H H' : Hp} {b0 : Addr} (h : Ex H H') : Exb b0 H H' := fun a o _ q => h a o q
theorem Exb.trans {b0 : Addr} {H H1 H2 : Hp} (x : Exb b0 H H1) (y : Exb b0 H1 H2) : Exb b0 H H2 := fun c o n h => y c o n (x c o n h)
theorem wE_tup {x1} (q : wA X es σ H fun xs H1 => xs.length ≤ sizeLine ∧ ∀ p H2, H1 p = none → Ex H1 H2 → H2 p = some (.tup xs) → Q (.ref p) H2) : wE X (.Tuple es x1 pos) σ H Q :=
  wE.of (pe_tup wA.pa) (⟨fun pos pins s I => wpAny_mono (q.run pos pins s I) (fun us s' ⟨xs, H1, I1, r, z, q1⟩ => ⟨xs, H1, I1, r, z, fun p hp => q1 p _ hp (Ex.upd hp) upd_same⟩) fun _ _ z => z⟩)
theorem wE_lst (q : wA X es σ H fun xs H1 => xs.length ≤ sizeLine ∧ ∀ p H2, H1 p = none → Ex H1 H2 → H2 p = some (.lst xs) → Q (.ref p) H2) : wE X (.List es pos) σ H Q :=
  wE.of (pe_lst wA.pa) (⟨fun pos pins s I => wpAny_mono (q.run pos pins s I) (fun us s' ⟨xs, H1, I1, r, z, q1⟩ => ⟨xs, H1, I1, r, z, fun p hp => q1 p _ hp (Ex.upd hp) upd_same⟩) fun _ _ z => z⟩)
/-! ### operators -/
theorem wE_bin {op} (q : wE X a σ H fun x H1 => wE X b σ H1 fun y H2 => wO X (binaryOp op) x y H2 Q) : wE X (.BinOp a op b pos) σ H Q := wE.of (pe_op wO.op wE.pe wE.pe) q
theorem wE_un {op} (q : wE X a σ H fun x H1 => wU X (unaryOp op) x H1 Q) : wE X (.UnaryOp op a pos) σ H Q := wE.of (pe_un wU.un wE.pe) q
theorem wE_cmp {op} (hm : behindInMarks op b = false) (q : wE X a σ H fun x H1 => wE X b σ H1 fun y H2 => wO X (compareOp op) x y H2 Q) : wE X (.Compare a [op] [b] pos) σ H Q := wE.of (pe_cmpR wO.op wE.pe wE.pe hm) q
theorem wE_chain {op op'} (hm : lastMarks [op, op'] [b, c] = false) (q : wE X a σ H fun x H1 => wE X b σ H1 fun y H2 => wO X (compareOp op) x y H2 fun z H3 => IsB z fun k =>
    (if k = true then wE X c σ H3 fun w H4 => wO X (compareOp op') y w H4 Q else Q (.bl false) H3)) : wE X (.Compare a [op, op'] [b, c] pos) σ H Q := wE.of (pe_chain wO.op wO.op wE.pe wE.pe wE.pe hm) q
theorem wE_ifexp (q : wT X c σ H fun k H1 => if k = true then wE X a σ H1 Q else wE X b σ H1 Q) : wE X (.IfExp c a b pos) σ H Q := wE.of (pe_ifExp wT.pt wE.pe wE.pe) q
theorem wE_and {rest : List Expr} (q : wE X a σ H fun x H1 => IsB x fun c => if c = true then wE X (.BoolOp .And (b :: rest) pos) σ H1 Q else Q (.bl false) H1) : wE X (.BoolOp .And (a :: b :: rest) pos) σ H Q := wE.of (pe_and wE.pe wE.pe) q
theorem wE_or {rest : List Expr} (q : wE X a σ H fun x H1 => IsB x fun c => if c = true then Q (.bl true) H1 else wE X (.BoolOp .Or (b :: rest) pos) σ H1 Q) : wE X (.BoolOp .Or (a :: b :: rest) pos) σ H Q := wE.of (pe_or wE.pe wE.pe) q
theorem wE_one {op} (q : wE X a σ H Q) : wE X (.BoolOp op [a] pos) σ H Q := wE.of (pe_one wE.pe) q
theorem wE_not (q : wE X a σ H fun x H1 => IsB x fun c => Q (.bl (!c)) H1) : wE X (.UnaryOp .Not a pos) σ H Q := wE.of (pe_not wE.pe) q
theorem wE_ix (hs : PlainIx b) (q : wE X a σ H fun x H1 => wE X b σ H1 fun y H2 => wIx X a b x y H2 Q) : wE X (.Subscript a b pos) σ H Q :=
  wE.of (t := tOp (wIx X a b) (wE X a) (wE X b)) ⟨fun pins s σ H Q I h => Subscript_ (binT wE.pe wE.pe I h fun v u s2 x y H2 I2 rx ry q => q.run pins s2 σ v u I2 rx ry)⟩ q
theorem wIx_of {value slice : Expr} {x y : V} (hr : IxR X r) (hs : PlainIx slice) (q : r x y H Q) : wIx X value slice x y H Q := ⟨fun pins s σ v u I rx ry => hr value slice pins s σ H x y v u Q I rx ry q (hs _ _)⟩
/-! tests -/
theorem wT_cmp {op} (hm : behindInMarks op b = false) (q : wE X a σ H fun x H1 => wE X b σ H1 fun y H2 => wO X (compareOp op) x y H2 fun z H3 => IsB z fun k => QB k H3) : wT X (.Compare a [op] [b] pos) σ H QB := wT.of (pt_cmpR wO.op wE.pe wE.pe hm) q
theorem wT_chain {op op'} (hm : lastMarks [op, op'] [b, c] = false) (q : wE X a σ H fun x H1 => wE X b σ H1 fun y H2 => wO X (compareOp op) x y H2 fun z H3 => IsB z fun k =>
    (if k = true then wE X c σ H3 fun w H4 => wO X (compareOp op') y w H4 fun z H5 => IsB z fun k => QB k H5 else IsB (V.bl false) fun k => QB k H3)) : wT X (.Compare a [op, op'] [b, c] pos) σ H QB := wT.of (pt_chain wO.op wO.op wE.pe wE.pe wE.pe hm) q
theorem wT_val (he : ∀ whole, isTrue e X.env whole = (do let v ← whole; standAt e.pos; holding [v] (truthy v))) (q : wE X e σ H fun x H1 => IsB x fun k => QB k H1) : wT X e σ H QB := wT.of (pt_val wE.pe he) q
theorem wT_truth (he : ∀ whole, isTrue e X.env whole = (do let v ← whole; standAt e.pos; holding [v] (truthy v))) (q : wE X e σ H fun x H1 => ∃ k, TruV X.K x H1 k ∧ QB k H1) : wT X e σ H QB := wT.of (pt_truth wE.pe he) q
theorem wT_not (q : wT X a σ H fun k H1 => QB (!k) H1) : wT X (.UnaryOp .Not a pos) σ H QB := wT.of (pt_not wT.pt) q
theorem wT_and (q : wW X (.BoolOp .And es pos) σ H QB) : wT X (.BoolOp .And es pos) σ H QB := wT.of wW.pw.pt q
theorem wT_or (q : wW X (.BoolOp .Or es pos) σ H QB) : wT X (.BoolOp .Or es pos) σ H QB := wT.of wW.pw.pt q
theorem wW_and {rest : List Expr} (q : wT X a σ H fun c H1 => if c = true then wW X (.BoolOp .And (b :: rest) pos) σ H1 QB else QB false H1) : wW X (.BoolOp .And (a :: b :: rest) pos) σ H QB := wW.of (pw_and wT.pt wW.pw) q
theorem wW_or {rest : List Expr} (q : wT X a σ H fun c H1 => if c = true then QB true H1 else wW X (.BoolOp .Or (b :: rest) pos) σ H1 QB) : wW X (.BoolOp .Or (a :: b :: rest) pos) σ H QB := wW.of (pw_or wT.pt wW.pw) q
theorem wW_and1 (q : wT X a σ H QB) : wW X (.BoolOp .And [a] pos) σ H QB := wW.of (pw_and1 wT.pt) q
theorem wW_or1 (q : wT X a σ H QB) : wW X (.BoolOp .Or [a] pos) σ H QB := wW.of (pw_or1 wT.pt) q
/-! ### statements -/
theorem wB_nil (q : D.nx σ H) : wB X [] D σ H := wB.of pss_nil q
theorem wB_cons (q : wS X st { D with nx := fun σ' H' => wB X rest D σ' H' } σ H) : wB X (st :: rest) D σ H := wB.of (pss_cons wS.ps wB.pss) q
theorem wS_pass (q : D.nx σ H) : wS X (.Pass pos) D σ H := wS.of ps_pass q
theorem wS_ret (q : wE X e σ H D.rt) : wS X (.Return (some e) pos) D σ H := wS.of (ps_ret wE.pe) q
theorem wS_retN (q : D.rt .non H) : wS X (.Return none pos) D σ H := wS.of ps_retN q
theorem wS_if {s1 s2 : List Stmt} (q : wT X c σ H fun k H1 => if k = true then wB X s1 D σ H1 else wB X s2 D σ H1) : wS X (.If c s1 s2 pos) D σ H := wS.of (ps_if wT.pt wB.pss wB.pss) q
theorem wS_expr (hs : swapsWith e none pos.line X.env = pure false) (q : wE X e σ H fun _ H1 => D.nx σ H1) : wS X (.Expr e pos) D σ H := wS.of (ps_expr wE.pe hs) q
theorem wS_set {pos' : Pos} (C : CxI P w K mg base k N Vz Sz G sc X) (hx : x ∈ Sz) (hs : swapsWith e (some (.Name x pos')) pos.line X.env = pure false) (q : wE X e σ H fun v H1 => Put N σ x v fun σ' => D.nx σ' H1) : wS X (.Assign [.Name x pos'] e pos) D σ H := by
  refine ⟨fun pins s I => ?_⟩
  refine wpAny_Assign_Name (thn (q.run pins s I) fun v s1 ⟨y, H1, I1, r1, σ', hp, q1⟩ => ?_) hs
  obtain ⟨i, h1, rfl⟩ := hp.ix
  obtain ⟨l, hf⟩ := C.loc hx
  exact store_ok I1 (by rw [C.eN]; exact C.nd) (i := i) (by rw [C.eN]; exact h1) l r1 (fun s2 I2 => ⟨_, H1, I2, q1⟩) hf
theorem wS_asg {tg : Expr} (hs : swapsWithSole [tg] e pos.line X.env = pure false) (hw : swappedStores [tg] e X.env = pure none) (h1 : (assignEach [tg] X.env).map (·.2) = [assign tg X.env])
    (q : wE X e σ H fun v H1 => wG X tg v σ H1 D.nx) : wS X (.Assign [tg] e pos) D σ H := wS.of (ps_asg wE.pe wG.pg hs hw h1) q
theorem wG_name {QS : L2.St → Hp → Prop} (C : CxI P w K mg base k N Vz Sz G sc X) (hx : x ∈ Sz) (q : Put N σ x v fun σ' => QS σ' H) : wG X (.Name x pos) v σ H QS := by
  obtain ⟨σ', hp, q⟩ := q
  obtain ⟨i, h1, rfl⟩ := hp.ix
  obtain ⟨l, hf⟩ := C.loc hx
  exact wG.of (pg_name (i := i) (by rw [C.eN]; exact C.nd) (by rw [C.eN]; exact h1) l hf) q
theorem wGs_nil {QS : L2.St → Hp → Prop} (q : QS σ H) : wGs X [] [] σ H QS := wGs.of pgs_nil ⟨rfl, q⟩
theorem wGs_cons {QS : L2.St → Hp → Prop} {vs : List V} (hs : (assignEach (e :: es) X.env).map (·.2) = assign e X.env :: (assignEach es X.env).map (·.2)) (q : wG X e v σ H fun σ' H' => wGs X es vs σ' H' QS) : wGs X (e :: es) (v :: vs) σ H QS :=
  wGs.of (pgs_cons wG.pg wGs.pgs hs) ⟨v, vs, rfl, q⟩
theorem wG_tup {QS : L2.St → Hp → Prop} {x1} {ad : Addr} {xs : List V} (C : CxI P w K mg base k N Vz Sz G sc X) (hq : SqT K H ad xs) (hn : (assignEach es X.env).length = xs.length) (hst : (assignEach es X.env).findIdx? (·.1) = none)
    (q : wGs X es xs σ H QS) : wG X (.Tuple es x1 pos) (.ref ad) σ H QS :=
  wG.of (pg_tup C.calm wGs.pgs rfl hst) ⟨ad, xs, rfl, by rw [C.eK]; exact hq, hn.symm, q⟩
theorem wG_sub {QS : L2.St → Hp → Prop} {o i : Expr} {tS : TSet} (hS : PSet X tS) (ha : ∀ v, assign (.Subscript o i pos) X.env v = (do
      let ov ← holding [v] (eval o X.env)
      let iv ← holding [v, ov] (eval i X.env)
      standAt pos
      holding [v, ov, iv] (setItem ov iv v)
      release [v, ov, iv] [])) (q : wE X o σ H fun ov H1 => wE X i σ H1 fun iv H2 => tS ov iv v H2 fun H3 => QS σ H3) : wG X (.Subscript o i pos) v σ H QS := wG.of (pg_sub wE.pe wE.pe hS ha) q
end
end
end Rp
namespace Rp
open PySem PySem.Spec PyProof.Rows L2
section
variable {P : Program} {w : World} {K : PySem.W.Frag} {mg : Str → Option Value} {base : Heap} {k j : Nat} {N Vz Sz G ps : List Str} {sc : Scope} {x : Str} {v : V} {p : Pos} {X : Cx} {f : Addr} {fd : FuncData} {sp : Sp} {st : Stmt} {qual : Str}
/-- a def of the text, with whatever defaults -/
structure Fn (K : PySem.W.Frag) (x qual : Str) (st : Stmt) (f : Addr) (fd : FuncData) : Prop where
  ex : ∃ (dvs : List V) (kws : List (Str × V)), FunD K x qual (defArgs st) (defBody st) (defScope st) dvs kws f fd
/-- a def by its body -/
theorem fn_w (F : Fn K x qual st f fd) (S : FnScope N ps (defScope st)) (ok : namesOk Vz Vz G (defScope st) = true) (len : ∀ vs H Q E, sp vs H Q E → vs.length = ps.length)
    (body : ∀ (X : Cx) (vs : List V) (H : Hp) (Q : VK) (E : XK), CxI P w K mg base k N Vz Vz G (defScope st) X → sp vs H Q E → wB X (defBody st) { nx := fun _ H' => Q .non H', rt := Q } (start N vs) H) : FnOk P w K mg base CX0 (k + 1) f fd ps sp := by
  obtain ⟨dvs, kws, F⟩ := F.ex
  refine FunD.ok F S len fun cdv A outer s H vs Q E hr h => ?_
  exact ⟨_, PSs.nox wB.pss, body _ vs H Q E ⟨rfl, rfl, rfl, rfl, rfl, rfl, rfl, hr, rfl, .inl fun _ => rfl, PassesOwn.never, S.nd, ok, S.kind⟩ h⟩
/-- a def of the text as its callers see it -/
structure Df (P : Program) (w : World) (K : PySem.W.Frag) (mg : Str → Option Value) (base : Heap) (k : Nat) (x : Str) (ps : List Str) (dvs : List V) (sp : Sp) : Prop where
  ex : ∃ f fd ds, FnOk P w K mg base CX0 k f fd ps sp ∧ mg x = some (.ref f) ∧ PySem.W.keepIn K (.ref f) = true ∧ Binds K fd ps ds ∧ Vals dvs ds
variable {e a b : Expr} {es : List Expr} {σ : L2.St} {H : Hp} {Q : VK} {pos : Pos} {dvs : List V}
theorem wE_call (C : CxI P w K mg base k N Vz Sz G sc X) (D : Df P w K mg base j x ps dvs sp) (hx : x ∈ G) (hj : j ≤ k) (he : starEach (e :: es) X.env = (false, eval e X.env) :: starEach es X.env) (hpl : (backTo pos (starEach es X.env)).any (·.1) = false)
    (q : wA X (e :: es) σ H fun vs H1 => sp (vs ++ dvs) H1 Q E0) : wE X (.Call (.Name x p) (e :: es) [] pos) σ H Q := by
  obtain ⟨f, fd, ds, Fk, hm, kp, hb, hd⟩ := D.ex
  obtain ⟨l, d1, _⟩ := C.glo hx
  obtain ⟨rfl, rfl, rfl, rfl, rfl, _, _, hr, _, _, _, _, _⟩ := C
  exact wE.of (pe_call Fk (hr.mono hj) l hm kp hb hd pass0 wA.pa d1 he hpl) q
theorem wE_callB {id : String} (C : CxI P w K mg base k N Vz Sz G sc X) (hm : mg x = none) (hx : x ∈ G) (hv : bootBuiltins x = some (.builtin id)) (he : starEach (e :: es) X.env = (false, eval e X.env) :: starEach es X.env) (hpl : (backTo pos (starEach es X.env)).any (·.1) = false)
    (q : wA X (e :: es) σ H fun vs H1 => wC X (.builtin id) vs H1 Q) : wE X (.Call (.Name x p) (e :: es) [] pos) σ H Q := by
  obtain ⟨l, d1, d2⟩ := C.glo hx
  exact wE.of (pe_callB wC.call l (by rw [C.em]; exact hm) hv wA.pa d2 d1 he hpl) q
theorem wE_callT {id : String} (C : CxI P w K mg base k N Vz Sz G sc X) (hm : mg x = none) (hx : x ∈ G) (hv : bootBuiltins x = some (.type id)) (he : starEach (e :: es) X.env = (false, eval e X.env) :: starEach es X.env) (hpl : (backTo pos (starEach es X.env)).any (·.1) = false)
    (q : wA X (e :: es) σ H fun vs H1 => wC X (.type id) vs H1 Q) : wE X (.Call (.Name x p) (e :: es) [] pos) σ H Q := by
  obtain ⟨l, d1, d2⟩ := C.glo hx
  exact wE.of (pe_callTy wC.call l (by rw [C.em]; exact hm) hv wA.pa d2 d1 he hpl) q
/-! ### for over a range from 0, a list, a tuple -/
theorem wS_range1 {tg : Expr} {sts : List Stmt} {p1 p2 : Pos} {D : Ends} (C : CxI P w K mg base k N Vz Sz G sc X) (hm : mg "range" = none) (hx : ("range" : Str) ∈ G) (hs : starEach [e] X.env = [(false, eval e X.env)])
    (q : wE X e σ H fun v H1 => ∃ n : Nat, v = .int n ∧ n < 1000000 ∧ ∃ Pv : Nat → L2.St → Hp → Prop, Pv 0 σ H1 ∧ (∀ i σ H, i < n → Pv i σ H → wG X tg (.int i) σ H fun σ2 H2 => wB X sts { D with nx := Pv (i + 1), ct := Pv (i + 1), bk := D.nx } σ2 H2) ∧ ∀ σ H, Pv n σ H → D.nx σ H) :
    wS X (.For tg (.Call (.Name "range" p1) [e] [] p2) sts [] pos) D σ H := by
  obtain ⟨l, _, _⟩ := C.glo hx
  refine wS.of (ps_for C.po C.calm (pi_range1 l (by rw [C.em]; exact hm) (pa_cons wE.pe pa_nil hs) hs) wG.pg wB.pss (fun _ => rfl)) ?_
  refine ⟨fun pins s I => ?_⟩
  refine thn (q.run pins s I) ?_
  rintro u s' ⟨v, H1, I1, r, n, rfl, hn, Pv, h0, hs, hd⟩
  refine ⟨_, H1, I1, r, n, rfl, by omega, by omega, ?_⟩
  rw [show ((n : Int).toNat) = n from Int.toNat_natCast n]
  exact for_range (lo := 0) (n := n) Pv h0 (fun i σ H hi hp => by rw [Int.zero_add]; exact hs i σ H hi hp) hd
theorem wS_list {tg it : Expr} {sts : List Stmt} {D : Ends} (C : CxI P w K mg base k N Vz Sz G sc X) (hf : ∀ x, foldedSetIterable it X.env x = pure x) (q : wE X it σ H fun v H1 => ∃ ad xs, v = .ref ad ∧ SqL K H1 ad xs ∧ ∃ Pv : Nat → L2.St → Hp → Prop, Pv 0 σ H1 ∧
      (∀ i σ H, i ≤ xs.length → Pv i σ H → SqL K H ad xs) ∧ (∀ i y σ H, xs[i]? = some y → Pv i σ H → wG X tg y σ H fun σ2 H2 => wB X sts { D with nx := Pv (i + 1), ct := Pv (i + 1), bk := D.nx } σ2 H2) ∧ ∀ σ H, Pv xs.length σ H → D.nx σ H)
    (hi : PI X tg it (iList X.K (wE X it)) := by exact pi_list wE.pe) : wS X (.For tg it sts [] pos) D σ H := by
  refine wS.of (ps_for C.po C.calm hi wG.pg wB.pss hf) ?_
  refine ⟨fun pins s I => ?_⟩
  refine thn (q.run pins s I) ?_
  rintro u s' ⟨v, H1, I1, r, ad, xs, rfl, hS, Pv, h0, hl, hs, hd⟩
  exact ⟨_, H1, I1, r, ad, rfl, ⟨xs, by rw [C.eK]; exact hS⟩, for_list (xs := xs) Pv h0 (fun i σ H hi hp => by rw [C.eK]; exact hl i σ H hi hp) hs hd⟩
theorem wS_tup {tg it : Expr} {sts : List Stmt} {D : Ends} (C : CxI P w K mg base k N Vz Sz G sc X) (hf : ∀ x, foldedSetIterable it X.env x = pure x) (q : wE X it σ H fun v H1 => ∃ ad xs, v = .ref ad ∧ SqT K H1 ad xs ∧ ∃ Pv : Nat → L2.St → Hp → Prop, Pv 0 σ H1 ∧
      (∀ i σ H, i ≤ xs.length → Pv i σ H → SqT K H ad xs) ∧ (∀ i y σ H, xs[i]? = some y → Pv i σ H → wG X tg y σ H fun σ2 H2 => wB X sts { D with nx := Pv (i + 1), ct := Pv (i + 1), bk := D.nx } σ2 H2) ∧ ∀ σ H, Pv xs.length σ H → D.nx σ H)
    : wS X (.For tg it sts [] pos) D σ H := by
  refine wS.of (ps_for C.po C.calm (pi_tup wE.pe) wG.pg wB.pss hf) ?_
  refine ⟨fun pins s I => ?_⟩
  refine thn (q.run pins s I) ?_
  rintro u s' ⟨v, H1, I1, r, ad, xs, rfl, hS, Pv, h0, hl, hs, hd⟩
  exact ⟨_, H1, I1, r, ad, rfl, ⟨xs, by rw [C.eK]; exact hS⟩, for_tup (xs := xs) Pv h0 (fun i σ H hi hp => by rw [C.eK]; exact hl i σ H hi hp) hs hd⟩
/-! ### operations by values -/
variable {m n : Int}
theorem o_add (q : Q (.int (m + n)) H) : wO X (binaryOp .Add) (.int m) (.int n) H Q := wO.of op_add ⟨m, n, rfl, rfl, q⟩
theorem o_sub (q : Q (.int (m - n)) H) : wO X (binaryOp .Sub) (.int m) (.int n) H Q := wO.of op_sub ⟨m, n, rfl, rfl, q⟩
theorem o_mulL (h1 : -(2 ^ 64) < m) (h2 : m < 2 ^ 64) (q : Q (.int (m * n)) H) : wO X (binaryOp .Mult) (.int m) (.int n) H Q := wO.of op_mul ⟨m, n, rfl, rfl, .inl ⟨h1, h2⟩, q⟩
theorem o_mulR (h1 : -(2 ^ 64) < n) (h2 : n < 2 ^ 64) (q : Q (.int (m * n)) H) : wO X (binaryOp .Mult) (.int m) (.int n) H Q := wO.of op_mul ⟨m, n, rfl, rfl, .inr ⟨h1, h2⟩, q⟩
theorem o_div (h1 : 0 < n) (h2 : n < 1073741824) (q : Q (.int (m / n)) H) : wO X (binaryOp .FloorDiv) (.int m) (.int n) H Q := wO.of op_fdiv ⟨m, n, rfl, rfl, ⟨h1, h2⟩, q⟩
theorem o_mod (h1 : 0 < n) (q : Q (.int (m % n)) H) : wO X (binaryOp .Mod) (.int m) (.int n) H Q := wO.of op_mod ⟨m, n, rfl, rfl, h1, q⟩
theorem o_pow (h0 : 0 ≤ n) (h1 : n ≤ 1000000) (h2 : m.natAbs < 2 ^ 64) (q : Q (.int (m ^ n.toNat)) H) : wO X (binaryOp .Pow) (.int m) (.int n) H Q := wO.of op_pow ⟨m, n, rfl, rfl, ⟨h0, h1, h2⟩, q⟩
theorem o_lt (q : Q (.bl (decide (m < n))) H) : wO X (compareOp .Lt) (.int m) (.int n) H Q := wO.of op_lt ⟨m, n, rfl, rfl, q⟩
theorem o_le (q : Q (.bl (decide (m ≤ n))) H) : wO X (compareOp .LtE) (.int m) (.int n) H Q := wO.of op_le ⟨m, n, rfl, rfl, q⟩
theorem o_gt (q : Q (.bl (decide (n < m))) H) : wO X (compareOp .Gt) (.int m) (.int n) H Q := wO.of op_gt ⟨m, n, rfl, rfl, q⟩
theorem o_ge (q : Q (.bl (decide (n ≤ m))) H) : wO X (compareOp .GtE) (.int m) (.int n) H Q := wO.of op_ge ⟨m, n, rfl, rfl, q⟩
theorem o_eqI (q : Q (.bl (decide (m = n))) H) : wO X (compareOp .Eq) (.int m) (.int n) H Q := wO.of op_eq ⟨rfl, by rw [show decide (V.int m = V.int n) = decide (m = n) by simp]; exact q⟩
theorem o_neI (q : Q (.bl (decide (m ≠ n))) H) : wO X (compareOp .NotEq) (.int m) (.int n) H Q := wO.of op_ne ⟨rfl, by rw [show (!decide (V.int m = V.int n)) = decide (m ≠ n) by simp]; exact q⟩
theorem o_isN {y : V} (q : Q (.bl (decide (y = .non))) H) : wO X (compareOp .Is) y .non H Q := wO.of op_isN ⟨rfl, q⟩
theorem o_notN {y : V} (q : Q (.bl (!decide (y = .non))) H) : wO X (compareOp .IsNot) y .non H Q := wO.of op_notN ⟨rfl, q⟩
theorem o_neg (q : Q (.int (-m)) H) : wU X (unaryOp .USub) (.int m) H Q := wU.of un_neg ⟨m, rfl, q⟩
theorem i_list {c d : Expr} {ad : Addr} {xs : List V} (C : CxI P w K mg base k N Vz Sz G sc X) (hs : PlainIx d) (h : SqL K H ad xs) (hi : atI xs m = some v) (q : Q v H) : wIx X c d (.ref ad) (.int m) H Q :=
  wIx_of ix_list hs ⟨ad, xs, m, v, rfl, rfl, by rw [C.eK]; exact h, hi, q⟩
theorem i_tup {c d : Expr} {ad : Addr} {xs : List V} (C : CxI P w K mg base k N Vz Sz G sc X) (hs : PlainIx d) (h : SqT K H ad xs) (hi : atI xs m = some v) (q : Q v H) : wIx X c d (.ref ad) (.int m) H Q :=
  wIx_of ix_tup hs ⟨ad, xs, m, v, rfl, rfl, by rw [C.eK]; exact h, hi, q⟩
theorem atI_mem {α : Type} {xs : List α} (h0 : 0 ≤ m) (h1 : m < xs.length) : ∃ v, atI xs m = some v ∧ v ∈ xs := by
  have e : ixN xs.length m = some m.toNat := by unfold ixN; rw [if_pos h0, if_pos h1]
  have hl : m.toNat < xs.length := by omega
  refine ⟨xs[m.toNat], ?_, List.getElem_mem hl⟩
  unfold atI
  rw [e]
  exact List.getElem?_eq_getElem hl
/-! ### calls of built-ins by values -/
theorem c_abs (q : Q (.int (if m < 0 then -m else m)) H) : wC X (.builtin "abs") [.int m] H Q := wC.of call_abs ⟨m, rfl, q⟩
theorem c_max (C : CxI P w K mg base k N Vz Sz G sc X) (q : Q (.int (if n > m then n else m)) H) : wC X (.builtin "max") [.int m, .int n] H Q := wC.of (call_max2 C.calm) ⟨m, n, rfl, q⟩
theorem c_min (C : CxI P w K mg base k N Vz Sz G sc X) (q : Q (.int (if n < m then n else m)) H) : wC X (.builtin "min") [.int m, .int n] H Q := wC.of (call_min2 C.calm) ⟨m, n, rfl, q⟩
theorem c_lenL {ad : Addr} {xs : List V} (C : CxI P w K mg base k N Vz Sz G sc X) (h : SqL K H ad xs) (q : Q (.int xs.length) H) : wC X (.builtin "len") [.ref ad] H Q := wC.of call_len ⟨.ref ad, xs.length, rfl, .inl ⟨xs, by rw [C.eK]; exact h, rfl⟩, q⟩
theorem c_lenT {ad : Addr} {xs : List V} (C : CxI P w K mg base k N Vz Sz G sc X) (h : SqT K H ad xs) (q : Q (.int xs.length) H) : wC X (.builtin "len") [.ref ad] H Q := wC.of call_len ⟨.ref ad, xs.length, rfl, .inr ⟨xs, by rw [C.eK]; exact h, rfl⟩, q⟩
theorem c_divmod (h1 : 0 < n) (h2 : n < 1073741824) (q : ∀ p H2, H p = none → Ex H H2 → H2 p = some (.tup [.int (m / n), .int (m % n)]) → Q (.ref p) H2) : wC X (.builtin "divmod") [.int m, .int n] H Q :=
  wC.of call_divmod ⟨m, n, rfl, ⟨h1, h2⟩, fun p hp => q p _ hp (Ex.upd hp) upd_same⟩
/-! ### a store into a list -/
theorem Ex.get {H H' : Hp} {a : Addr} {o : HO} (e : Ex H H') (h : H a = some o) : H' a = some o := e a o h
theorem Exb.get {H H' : Hp} {a b : Addr} {o : HO} (e : Exb b H H') (n : a ≠ b) (h : H a = some o) : H' a = some o := e a o n h
def SetLq (v ov iv : V) (H2 : Hp) (R : Hp → Prop) : Prop := ∃ p xs k j, ov = .ref p ∧ iv = .int k ∧ H2 p = some (.lst xs) ∧ ixN xs.length k = some j ∧ ∀ H3, Exb p H2 H3 → H3 p = some (.lst (xs.set j v)) → R H3
theorem wG_setL {QS : L2.St → Hp → Prop} {o i : Expr} (ha : ∀ v, assign (.Subscript o i pos) X.env v = (do
      let ov ← holding [v] (eval o X.env)
      let iv ← holding [v, ov] (eval i X.env)
      standAt pos
      holding [v, ov, iv] (setItem ov iv v)
      release [v, ov, iv] [])) (q : wE X o σ H fun ov H1 => wE X i σ H1 fun iv H2 => SetLq v ov iv H2 fun H3 => QS σ H3) :
    wG X (.Subscript o i pos) v σ H QS := by
  refine wG_sub (tS := rSetL) set_list ha ?_
  refine ⟨fun pins s I => ?_⟩
  refine thn (q.run pins s I) ?_
  rintro u s1 ⟨ov, H1, I1, r1, q1⟩
  refine ⟨ov, H1, I1, r1, ?_⟩
  refine ⟨fun pins2 s2 I2 => ?_⟩
  refine thn (q1.run pins2 s2 I2) ?_
  rintro u2 s3 ⟨iv, H2, I3, r2, p, xs, k, j, h1, h2, h3, h4, h5⟩
  exact ⟨iv, H2, I3, r2, p, xs, k, j, h1, h2, h3, h4, h5 _ Exb.upd upd_same⟩
theorem setL_i {H2 : Hp} {p : Addr} {xs : List V} {k : Int} {j : Nat} {v : V} {R : Hp → Prop} (h : H2 p = some (.lst xs)) (hj : ixN xs.length k = some j) (q : ∀ H3, Exb p H2 H3 → H3 p = some (.lst (xs.set j v)) → R H3) :
    SetLq v (.ref p) (.int k) H2 R := ⟨p, xs, k, j, rfl, rfl, h, hj, q⟩
theorem call_i {vs : List V} {R : V → Hp → Prop} {sp : Sp} (q : sp vs H R E0) : sp (vs ++ []) H R E0 := by rw [List.append_nil]; exact q
theorem wS_cut {st : Stmt} {D : Ends} (J : L2.St → Hp → Prop) (h1 : wS X st { D with nx := J } σ H) (h2 : ∀ σ' H', J σ' H' → D.nx σ' H') : wS X st D σ H := by
  refine ⟨fun pins s I => ?_⟩
  refine thn (h1.run pins s I) fun f s1 q => ?_
  cases f with
  | next => obtain ⟨σ', H', I', q⟩ := q; exact ⟨σ', H', I', h2 _ _ q⟩
  | ret v => exact q
  | brk => exact q
  | cont => exact q
theorem iteD {p A B : Prop} [Decidable p] (h1 : p → A) (h2 : ¬ p → B) : if decide p = true then A else B := by
  by_cases h : p
  · rw [decide_eq_true h]; exact iteT (h1 h)
  · rw [decide_eq_false h]; exact iteF (h2 h)
theorem iteDT {p A B : Prop} [Decidable p] (h : p) (a : A) : if decide p = true then A else B := by rw [decide_eq_true h]; exact iteT a
theorem iteDF {p A B : Prop} [Decidable p] (h : ¬ p) (a : B) : if decide p = true then A else B := by rw [decide_eq_false h]; exact iteF a
theorem bb_divmod : bootBuiltins "divmod" = some (.builtin "divmod") := by decide +kernel
end
end Rp
namespace Rp
open PySem PySem.Spec PyProof.Rows L2
section
variable {P : Program} {w : World} {K : PySem.W.Frag} {mg : Str → Option Value} {base : Heap} {k j n : Nat} {N Vz Sz G ps ks : List Str} {sc : Scope} {x m : Str} {v : V} {p apos : Pos} {X : Cx} {f C : Addr} {fd : FuncData} {sp : Sp} {st : Stmt} {qual : Str}
variable {e a b o : Expr} {es : List Expr} {kws : List Keyword} {σ : L2.St} {H : Hp} {Q : VK} {pos : Pos} {dvs : List V} {E : XK}
/-! ### isinstance -/
theorem c_isi {y c : V} {t u : Value} {r : Bool} (I : CxI P w K mg base k N Vz Sz G sc X) (hc : ClsV c u) (ty : TyX K H y t) (h : PySem.W.kitOne K t u = some r) (q : Q (.bl r) H) : wC X (.builtin "isinstance") [y, c] H Q :=
  wC.of call_isi ⟨y, c, t, u, r, rfl, hc, by rw [I.eK]; exact ty, by rw [I.eK]; exact h, q⟩
theorem wE_bltn {u : Value} (I : CxI P w K mg base k N Vz Sz G sc X) (hm : mg x = none) (hx : x ∈ G) (hv : bootBuiltins x = some u) (r : RelV v u) (q : Q v H) : wE X (.Name x p) σ H Q := by
  obtain ⟨l, d1, d2⟩ := I.glo hx
  exact wE.of (pe_bltn l (by rw [I.em]; exact hm) hv r d2 d1) q
/-! ### instances -/
theorem wE_fld {y : V} {pos' : Pos} (I : CxI P w K mg base k N Vz Sz G sc X) (hb : attributeBase e x X.env (eval e X.env) = eval e X.env)
    (q : wE X e σ H fun y H1 => ∃ a C dx fs v, y = .ref a ∧ H1 a = some (.ins C dx fs) ∧ Cls K C ∧ NoAttr K C x ∧ fs.lookup x = some v ∧ Q v H1) : wE X (.Attribute e x pos) σ H Q := by
  obtain ⟨rfl, rfl, rfl, rfl, rfl, _, _, _, _, _, _, _, _⟩ := I
  exact wE.of (pe_fld wE.pe hb) q
def FldQ (K : PySem.W.Frag) (y : V) (x : Str) (H : Hp) (R : V → Prop) : Prop := ∃ a C dx fs v, y = .ref a ∧ H a = some (.ins C dx fs) ∧ Cls K C ∧ NoAttr K C x ∧ fs.lookup x = some v ∧ R v
theorem wE_fldQ (I : CxI P w K mg base k N Vz Sz G sc X) (hb : attributeBase e x X.env (eval e X.env) = eval e X.env)
    (q : wE X e σ H fun y H1 => FldQ K y x H1 fun v => Q v H1) : wE X (.Attribute e x pos) σ H Q := by
  obtain ⟨rfl, rfl, rfl, rfl, rfl, _, _, _, _, _, _, _, _⟩ := I
  exact wE.of (pe_fld wE.pe hb) q
/-- o.x = e -/
def PutQ (K : PySem.W.Frag) (v y : V) (x : Str) (H : Hp) (R : Hp → Prop) : Prop := ∃ a C dx fs, y = .ref a ∧ H a = some (.ins C dx fs) ∧ Cls K C ∧ NoAttr K C x ∧ fs.length < 1000 ∧ R (upd H a (.ins C dx (putF x v fs)))
theorem wS_fld {pos' : Pos} {D : Ends} (I : CxI P w K mg base k N Vz Sz G sc X) (hs : swapsWith e (some (.Attribute o x pos')) pos.line X.env = pure false)
    (q : wE X e σ H fun v H1 => wE X o σ H1 fun y H2 => PutQ K v y x H2 fun H3 => D.nx σ H3) : wS X (.Assign [.Attribute o x pos'] e pos) D σ H := by
  obtain ⟨rfl, rfl, rfl, rfl, rfl, _, _, _, _, _, _, _, _⟩ := I
  exact wS.of (ps_fld wE.pe wE.pe hs) q
/-! ### a class of the text -/
/-- the class x, made by an __init__ whose promise is sp (self first) -/
structure Mf (P : Program) (w : World) (K : PySem.W.Frag) (mg : Str → Option Value) (base : Heap) (k : Nat) (x : Str) (C : Addr) (n : Nat) (ks : List Str) (gV : List V → List V → List V) (sp : Sp) : Prop where
  ex : ∃ f fd ps g, Mk K C f ∧ FnOk P w K mg base CX0 k f fd ps sp ∧ mg x = some (.ref C) ∧ KBn K fd ps (n + 1) ks g gV
theorem wE_makeN {gV : List V → List V → List V} (I : CxI P w K mg base k N Vz Sz G sc X) (M : Mf P w K mg base j x C n ks gV sp) (hx : x ∈ G) (hj : j + 1 ≤ k)
    (hall : (backToKw pos (keywordEach kws X.env)).all (·.1.isSome) = true) (hks : (backToKw pos (keywordEach kws X.env)).filterMap (·.1) = ks)
    (he : starEach (e :: es) X.env = (false, eval e X.env) :: starEach es X.env) (hpl : ((backTo pos (starEach (e :: es) X.env)).any (·.1) || (backToKw pos (keywordEach kws X.env)).any (·.1.isNone)) = false)
    (q : wA X (e :: es) σ H fun vs H1 => wK X kws σ H1 fun zs H2 => vs.length = n ∧ zs.length = ks.length ∧
      ∀ y dx, H2 y = none → H2 dx = none → dx ≠ y → sp (gV (.ref y :: vs) zs) (upd (upd H2 dx (.own y)) y (.ins C dx [])) (fun v H3 => v = .non ∧ Q (.ref y) H3) E0) : wE X (.Call (.Name x p) (e :: es) kws pos) σ H Q := by
  obtain ⟨f, fd, ps, g, Mk1, Fk, hm, hb⟩ := M.ex
  obtain ⟨l, d1, _⟩ := I.glo hx
  obtain ⟨rfl, rfl, rfl, rfl, rfl, _, _, hr, _, _, _, _, _⟩ := I
  exact wE.of (pe_makeN Mk1 Fk (hr.mono hj) l hm hb pass0 wA.pa wK.pk hall hks d1 he hpl) q
/-- the same without keywords, the defaults dvs behind -/
structure Mp (P : Program) (w : World) (K : PySem.W.Frag) (mg : Str → Option Value) (base : Heap) (k : Nat) (x : Str) (C : Addr) (dvs : List V) (sp : Sp) : Prop where
  ex : ∃ f fd ps ds, Mk K C f ∧ FnOk P w K mg base CX0 k f fd ps sp ∧ mg x = some (.ref C) ∧ Binds K fd ps ds ∧ Vals dvs ds
theorem wE_make (I : CxI P w K mg base k N Vz Sz G sc X) (M : Mp P w K mg base j x C dvs sp) (hx : x ∈ G) (hj : j + 1 ≤ k)
    (he : starEach (e :: es) X.env = (false, eval e X.env) :: starEach es X.env) (hpl : (backTo pos (starEach es X.env)).any (·.1) = false)
    (q : wA X (e :: es) σ H fun vs H1 => ∀ y dx, H1 y = none → H1 dx = none → dx ≠ y → sp (.ref y :: (vs ++ dvs)) (upd (upd H1 dx (.own y)) y (.ins C dx [])) (fun v H2 => v = .non ∧ Q (.ref y) H2) E0) :
    wE X (.Call (.Name x p) (e :: es) [] pos) σ H Q := by
  obtain ⟨f, fd, ps, ds, Mk1, Fk, hm, hb, hd⟩ := M.ex
  obtain ⟨l, d1, _⟩ := I.glo hx
  obtain ⟨rfl, rfl, rfl, rfl, rfl, _, _, hr, _, _, _, _, _⟩ := I
  exact wE.of (pe_make Mk1 Fk (hr.mono hj) l hm hb hd pass0 wA.pa d1 he hpl) q
/-- o.m(k = v, ..): keywords alone -/
structure Mm (P : Program) (w : World) (K : PySem.W.Frag) (mg : Str → Option Value) (base : Heap) (k : Nat) (C : Addr) (m : Str) (ks : List Str) (gV : List V → List V → List V) (sp : Sp) : Prop where
  ex : ∃ f fd ps g, Meth K C m f ∧ FnOk P w K mg base CX0 k f fd ps sp ∧ KBn K fd ps 1 ks g gV
def MetQ (C : Addr) (m : Str) (y : V) (H : Hp) (R : Prop) : Prop := ∃ a dx fs, y = .ref a ∧ H a = some (.ins C dx fs) ∧ fs.lookup m = none ∧ R
theorem wE_methK {pl : Sem Bool} {gV : List V → List V → List V} (I : CxI P w K mg base k N Vz Sz G sc X) (c : Cls K C) (M : Mm P w K mg base j C m ks gV sp) (hj : j ≤ k)
    (hall : (backToKw pos (keywordEach kws X.env)).all (·.1.isSome) = true) (hks : (backToKw pos (keywordEach kws X.env)).filterMap (·.1) = ks) (hpl : ((backTo pos (starEach [] X.env)).any (·.1) || (backToKw pos (keywordEach kws X.env)).any (·.1.isNone)) = false)
    (ht : eval (.Call (.Attribute o m apos) [] kws pos) X.env = (do
      let ov ← eval o X.env
      standAt apos.atName
      let (f, first) ← holding [ov] (getMethod ov m pl)
      callWith pos f first (backTo pos (starEach [] X.env)) (backToKw pos (keywordEach kws X.env))))
    (q : wE X o σ H fun y H1 => MetQ C m y H1 (wK X kws σ H1 fun zs H2 => zs.length = ks.length ∧ sp (gV [y] zs) H2 Q E0)) : wE X (.Call (.Attribute o m apos) [] kws pos) σ H Q := by
  obtain ⟨f, fd, ps, g, hm, Fk, hb⟩ := M.ex
  obtain ⟨rfl, rfl, rfl, rfl, rfl, _, _, hr, _, _, _, _, _⟩ := I
  refine ⟨fun pins s I => ?_⟩
  refine PySem.W.methodCall_KW (pl := pl) (thn (q.run pins s I) fun u s1 ⟨y, H1, I1, rx, a, dx, fs, ex, ea, l, q1⟩ => ?_) ht
  subst ex
  obtain rfl : u = Value.ref a := rx
  refine getmeth_ok I1 ea c hm l ?_
  refine PySem.W.callWith_KW0 (first := [.ref a]) (h₀ := X.base) I.ok.mod.kin hm.kp hall (thn (q1.run pos pins s1 I1) fun ws s2 ⟨zs, H2, I2, rz, l2, q2⟩ => ⟨I2.kIn, ?_⟩) hpl
  rw [hks]
  exact run_fnN (us := [.ref a]) (vs := [.ref a]) Fk (hr.mono hj) hb pass0 I2 (.cons rfl .nil) rz rfl l2 q2
/-! ### membership among flat things -/
theorem o_inT {ad : Addr} {xs : List V} (I : CxI P w K mg base k N Vz Sz G sc X) (h : SqT K H ad xs) (h1 : flatV v = true) (h2 : xs.all flatV = true) (q : Q (.bl (inV v xs)) H) : wO X (compareOp .In) v (.ref ad) H Q :=
  wO.of op_in_seq ⟨ad, xs, rfl, .inr (by rw [I.eK]; exact h), h1, h2, q⟩
/-! ### slices and + of tuples -/
theorem wE_sl {lo hi : Option Expr} {p2 : Pos} {r : V → Option Int → Option Int → Hp → VK → Prop} {tl th : TO} (hr : SlR X r) (h1 : PO X lo tl) (h2 : PO X hi th) (q : wE X e σ H fun x H1 => tl σ H1 fun l H2 => th σ H2 fun h H3 => r x l h H3 Q) :
    wE X (.Subscript e (.Slice lo hi none p2) pos) σ H Q := wE.of (pe_slice hr wE.pe h1 h2) q
theorem putq_i {H : Hp} {a dx : Addr} {fs : List (Str × V)} {R : Hp → Prop} {x : Str} {v : V} (h : H a = some (.ins C dx fs)) (c : Cls K C) (na : NoAttr K C x) (hl : fs.length < 1000)
    (q : ∀ H3, Exb a H H3 → H3 a = some (.ins C dx (putF x v fs)) → R H3) : PutQ K v (.ref a) x H R := ⟨a, C, dx, fs, rfl, h, c, na, hl, q _ Exb.upd upd_same⟩
theorem fldq_i {H : Hp} {a dx : Addr} {fs : List (Str × V)} {R : V → Prop} {x : Str} {v : V} (h : H a = some (.ins C dx fs)) (c : Cls K C) (na : NoAttr K C x) (hl : fs.lookup x = some v) (q : R v) : FldQ K (.ref a) x H R := ⟨a, C, dx, fs, v, rfl, h, c, na, hl, q⟩
theorem len_put {x : Str} {v : V} {fs : List (Str × V)} {n : Nat} (h : fs.length ≤ n) : (putF x v fs).length ≤ n + 1 := Nat.le_trans (length_putF x v fs) (Nat.succ_le_succ h)
/-- a new object may be changed: what was known ahead stays -/
theorem Ex.mut {H H1 H2 : Hp} {y : Addr} (a : Ex H H1) (h : H y = none) (b : Exb y H1 H2) : Ex H H2 := fun c o e => b c o (ne_of_none e h) (a c o e)
theorem Exb.mut {b y : Addr} {H H1 H2 : Hp} (a : Exb b H H1) (h : H y = none) (c : Exb y H1 H2) : Exb b H H2 := fun d o n e => c d o (ne_of_none e h) (a d o n e)
theorem Ex.new2 {H : Hp} {y dx : Addr} {o1 o2 : HO} (h1 : H dx = none) (h2 : H y = none) (n : dx ≠ y) : Ex H (L2.upd (L2.upd H dx o1) y o2) := fun c o e => by
  rw [upd_ne (ne_of_none e h2), upd_ne (ne_of_none e h1)]; exact e
end
end Rp
namespace Rp
open PySem PySem.Spec PyProof.Rows L2
theorem swapped2 {x y : Str} {px py pt pt2 : Pos} {kt k2} {a b : Expr} {env : Env} (hb : env.blockKind = .function) (hx : env.kindOf x = some .local) (hy : env.kindOf y = some .local) (hl : (py.line == px.line) = true) (hne : x ≠ y)
    (h1 : ([a, b].any fun | .Starred .. => true | _ => false) = false) (h2 : [a, b].all (foldedForSure 8) = false) (h3 : [a, b].all (constantsAlone 8) = false) :
    swappedStores [.Tuple [.Name x px, .Name y py] kt pt] (.Tuple [a, b] k2 pt2) env = pure (some [x, y]) := by
  have hl' : py.line = px.line := eq_of_beq hl
  have e0 : ((y == x) = false) := by simp [Ne.symm hne]
  unfold swappedStores
  simp only [hb, h1, h2, h3, List.length_cons, List.length_nil, List.filterMap_cons, List.filterMap_nil, hx, hy, Option.map_some, Option.getD_some, List.head?_cons, Expr.pos, hl', beq_self_eq_true, Bool.and_true, bne_self_eq_false, Bool.or_false, Bool.true_or, Bool.not_true, Bool.false_eq_true, if_false, if_true, ↓reduceIte]
  simp [List.eraseDups_cons, e0, hne, Ne.symm hne]
  intro h
  exfalso
  simp only [List.any_cons, List.any_nil, Bool.or_false, Bool.or_eq_false_iff] at h1
  rcases h with h | h
  · exact absurd (h1.1.symm.trans h) (by decide)
  · exact absurd (h1.2.symm.trans h) (by decide)
section
variable {P : Program} {w : World} {K : PySem.W.Frag} {mg : Str → Option Value} {base : Heap} {k : Nat} {N Vz Sz G : List Str} {sc : Scope} {x y : Str} {X : Cx}
variable {a b : Expr} {σ : L2.St} {H : Hp} {pos : Pos} {D : Ends}
theorem wS_par {px py pt pt2 : Pos} {kt k2} (C : CxI P w K mg base k N Vz Sz G sc X) (hx : (sc.names.lookup x == some .local) = true) (hy : (sc.names.lookup y == some .local) = true) (hl : (py.line == px.line) = true) (hne : (x == y) = false)
    (h1 : ([a, b].any fun | .Starred .. => true | _ => false) = false) (h2 : [a, b].all (foldedForSure 8) = false) (h3 : [a, b].all (constantsAlone 8) = false)
    (hs : swapsWithSole [.Tuple [.Name x px, .Name y py] kt pt] (.Tuple [a, b] k2 pt2) pos.line X.env = pure false)
    (q : wA X [a, b] σ H fun vs H1 => ∃ v w, vs = [v, w] ∧ Put N σ x v fun σ1 => Put N σ1 y w fun σ2 => D.nx σ2 H1) : wS X (.Assign [.Tuple [.Name x px, .Name y py] kt pt] (.Tuple [a, b] k2 pt2) pos) D σ H := by
  have ex : X.env.kindOf x = some .local := by show X.env.scope.names.lookup x = _; rw [C.es]; exact eq_of_beq hx
  have ey : X.env.kindOf y = some .local := by show X.env.scope.names.lookup y = _; rw [C.es]; exact eq_of_beq hy
  have hb : X.env.blockKind = .function := by unfold Env.blockKind; rw [C.es, C.fk]; rfl
  have ne : x ≠ y := fun z => by rw [z] at hne; simp at hne
  have hw := swapped2 (kt := kt) (pt := pt) (k2 := k2) (pt2 := pt2) hb ex ey hl ne h1 h2 h3
  refine ⟨fun pins s I => ?_⟩
  rw [exec_Assign_arm]
  refine wpAny_bind (wpAny_standAt ?_)
  rw [hs]
  refine wpAny_bind (wpAny_pure ?_)
  rw [if_neg (by decide)]
  refine wpAny_bind (Tuple_ (thn (q.run _ pins s I) fun us s1 ⟨vs, H1, I1, r1, q1⟩ => ?_))
  obtain ⟨v, w, e1, σ1, p1, σ2, p2, q1⟩ := q1
  subst e1
  obtain ⟨u1, u2, rfl, rv, rw'⟩ : ∃ u1 u2, us = [u1, u2] ∧ RelV v u1 ∧ RelV w u2 := by
    cases r1 with
    | cons p q =>
      cases q with
      | cons p' q' =>
        cases q'
        exact ⟨_, _, rfl, p, p'⟩
  obtain ⟨i, hi, rfl⟩ := p1.ix
  obtain ⟨j, hj, rfl⟩ := p2.ix
  have hij : i ≠ j := fun z => by
    rw [z] at hi
    exact ne (Option.some.inj (hi.symm.trans hj))
  have hN : X.N.Nodup := by rw [C.eN]; exact C.nd
  have hi' : X.N[i]? = some x := by rw [C.eN]; exact hi
  have hj' : X.N[j]? = some y := by rw [C.eN]; exact hj
  have hx2 : X.env.scope.names.lookup x = some .local := ex
  have hy2 : X.env.scope.names.lookup y = some .local := ey
  refine wpAny_newObj_type ?_ (by show 2 ≤ sizeLine; decide)
  have I2 : Inv X pins σ H1 { s1 with heap := s1.heap.push { cls := .type "tuple", data := .seq [u1, u2].toArray } } := I1.kept (t' := s1.toks) fun b o e => Heap.get?_push_of_some _ e
  rw [hw]
  refine wpAny_bind (wpAny_pure ?_)
  show wpAny (model X.prog X.w) X.A (do rule "assign.swapped-stores"; let items ← unpackItems (.ref s1.heap.objs.size) 2 none; assignInOrder [fun v => bindName X.env y v, fun v => bindName X.env x v] items.reverse; pure Flow.next) _ _ _
  refine wpAny_bind (wpAny_rule (wpAny_bind (unpackItems_tuple (items := #[u1, u2]) (I.ok.hd C.calm) (IsTup.new s1.heap _) fun h' hx' => ?_)))
  have I3 := I2.kept (h' := h') (t' := s1.toks) fun b o e => hx' b o (Nat.ne_of_lt (Heap.lt_size e)) e
  show wpAny _ _ (assignInOrder [fun v => bindName X.env y v, fun v => bindName X.env x v] [u2, u1] >>= fun _ => pure Flow.next) _ _ _
  refine wpAny_bind (assignInOrder_cons (wpAny_bindName (store_ok I3 hN hj' (.inl hy2) rw' (fun s2 I4 => ?_) (.inr hy2))))
  refine assignInOrder_cons (wpAny_bindName (store_ok I4 hN hi' (.inl hx2) rv (fun s3 I5 => assignInOrder_nil (wpAny_pure ?_)) (.inr hx2)))
  rw [List.set_comm _ _ (Ne.symm hij)] at I5
  exact ⟨_, H1, I5, q1⟩
end
section
variable {P : Program} {w : World} {K : PySem.W.Frag} {mg : Str → Option Value} {base : Heap} {k : Nat} {N Vz Sz G : List Str} {sc : Scope} {x y : Str} {X : Cx}
variable {σ : L2.St} {H : Hp} {pos : Pos} {Q : VK}
theorem o_pow6 (q : Q (.int 1000000) H) : wO X (binaryOp .Pow) (.int 10) (.int 6) H Q := o_pow (by decide) (by decide) (by decide) (by rw [show ((10 : Int) ^ (6 : Int).toNat) = 1000000 by decide]; exact q)
theorem pick {xs : List V} {d : Int} (h0 : 0 ≤ d) (h1 : d < xs.length) (Pr : V → Prop) (all : ∀ v ∈ xs, Pr v) : ∃ v, atI xs d = some v ∧ Pr v := by
  obtain ⟨v, e, m⟩ := atI_mem h0 h1
  exact ⟨v, e, all v m⟩
theorem all1 {Pr : V → Prop} {a : V} (h : Pr a) : ∀ v ∈ [a], Pr v := fun v hv => by rw [List.mem_singleton.mp hv]; exact h
theorem all2 {Pr : V → Prop} {a : V} {xs : List V} (h : Pr a) (t : ∀ v ∈ xs, Pr v) : ∀ v ∈ a :: xs, Pr v := fun v hv => by
  rcases List.mem_cons.mp hv with e | e
  · rw [e]; exact h
  · exact t v e
end
theorem ne_fresh {H : Hp} {p b : Addr} {o : HO} (hp : H p = none) (hb : H b = some o) : p ≠ b := (ne_of_none hb hp).symm
section
variable {P : Program} {w : World} {K : PySem.W.Frag} {mg : Str → Option Value} {base : Heap} {k : Nat} {N Vz Sz G : List Str} {sc : Scope} {x y : Str} {X : Cx}
variable {σ : L2.St} {H : Hp} {pos : Pos} {Q : VK} {v : V}
theorem atI_nat' {xs : List V} {j : Nat} (h : xs[j]? = some v) : atI xs (@OfNat.ofNat Int j (@instOfNat j)) = some v := by
  have hj : j < xs.length := (List.getElem?_eq_some_iff.mp h).1
  show (ixN xs.length ((j : Nat) : Int)).bind _ = _
  have e : ixN xs.length ((j : Nat) : Int) = some j := by unfold ixN; rw [if_pos (Int.natCast_nonneg j), if_pos (by omega)]; simp
  rw [e]
  exact h
theorem i_listL {c d : Expr} {ad : Addr} {xs : List V} {j : Nat} (C : CxI P w K mg base k N Vz Sz G sc X) (hs : PlainIx d) (h : SqL K H ad xs) (hi : xs[j]? = some v) (q : Q v H) : wIx X c d (.ref ad) (.int (@OfNat.ofNat Int j (@instOfNat j))) H Q :=
  i_list C hs h (atI_nat' hi) q
theorem i_tupL {c d : Expr} {ad : Addr} {xs : List V} {j : Nat} (C : CxI P w K mg base k N Vz Sz G sc X) (hs : PlainIx d) (h : SqT K H ad xs) (hi : xs[j]? = some v) (q : Q v H) : wIx X c d (.ref ad) (.int (@OfNat.ofNat Int j (@instOfNat j))) H Q :=
  i_tup C hs h (atI_nat' hi) q
end
section
variable {X : Cx} {st : Stmt} {rest : List Stmt} {D : Ends} {σ : L2.St} {H : Hp}
theorem wB_one (q : wS X st D σ H) : wB X [st] D σ H := wB.of (pss_one wS.ps) q
/-- what follows a statement, under a name of its own -/
structure Nx (X : Cx) (rest : List Stmt) (D : Ends) (R : L2.St → Hp → Prop) : Prop where
  h : ∀ σ' H', wB X rest D σ' H' → R σ' H'
theorem Nx.go {R : L2.St → Hp → Prop} (n : Nx X rest D R) (q : wB X rest D σ H) : R σ H := n.h _ _ q
theorem wB_cons' (q : ∀ R : L2.St → Hp → Prop, Nx X rest D R → wS X st { D with nx := R } σ H) : wB X (st :: rest) D σ H := wB_cons (q _ ⟨fun _ _ h => h⟩)
end
theorem Ex.free {H H' : Hp} {p : Addr} (e : Ex H H') (hp : H' p = none) : H p = none := by
  cases q : H p with
  | none => rfl
  | some o => rw [e p o q] at hp; cases hp
theorem Exb.free {b : Addr} {H H' : Hp} {p : Addr} {o : HO} (e : Exb b H H') (hb : H' b = some o) (hp : H' p = none) : H p = none := by
  cases q : H p with
  | none => rfl
  | some u =>
    by_cases z : p = b
    · rw [z, hb] at hp; cases hp
    · rw [e p u z q] at hp; cases hp
def IsI (z : V) (R : Int → Prop) : Prop := ∃ i, z = .int i ∧ R i
theorem isI {i : Int} {R : Int → Prop} (q : R i) : IsI (.int i) R := ⟨i, rfl, q⟩
def SlQ (K : PySem.W.Frag) (x : V) (l h : Option Int) (H : Hp) (R : Addr → Hp → Prop) : Prop := (∃ a xs, x = .ref a ∧ SqT K H a xs ∧ ¬ (HT.sIx xs.length 0 l = 0 ∧ HT.sIx xs.length xs.length h = xs.length) ∧
  ∀ p H', H p = none → Ex H H' → H' p = some (.tup (cutV xs l h)) → R p H') ∨ (∃ a xs, x = .ref a ∧ SqL K H a xs ∧ ∀ p H', H p = none → Ex H H' → H' p = some (.lst (cutV xs l h)) → R p H')
section
variable {P : Program} {w : World} {K : PySem.W.Frag} {mg : Str → Option Value} {base : Heap} {k : Nat} {N Vz Sz G : List Str} {sc : Scope} {X : Cx} {e d : Expr} {σ : L2.St} {H : Hp} {pos p2 : Pos} {Q : VK}
theorem slq_i {a : Addr} {xs ys : List V} {l h : Option Int} {R : Addr → Hp → Prop} (hq : SqT K H a xs) (hn : ¬ (HT.sIx xs.length 0 l = 0 ∧ HT.sIx xs.length xs.length h = xs.length)) (hy : cutV xs l h = ys)
    (q : ∀ p H', H p = none → Ex H H' → H' p = some (.tup ys) → R p H') : SlQ K (.ref a) l h H R := .inl ⟨a, xs, rfl, hq, hn, by rw [hy]; exact q⟩
theorem slq_l {a : Addr} {xs ys : List V} {l h : Option Int} {R : Addr → Hp → Prop} (hq : SqL K H a xs) (hy : cutV xs l h = ys)
    (q : ∀ p H', H p = none → Ex H H' → H' p = some (.lst ys) → R p H') : SlQ K (.ref a) l h H R := .inr ⟨a, xs, rfl, hq, by rw [hy]; exact q⟩
theorem slq_run {x : V} {l h : Option Int} (C : CxI P w K mg base k N Vz Sz G sc X) (q : SlQ K x l h H fun p H' => Q (.ref p) H') : rSlT X.K x l h H Q ∨ rSlL X.K x l h H Q := by
  rcases q with ⟨a, xs, rfl, hq, hn, q⟩ | ⟨a, xs, rfl, hq, q⟩
  · exact .inl ⟨a, xs, rfl, by rw [C.eK]; exact hq, hn, fun p hp => q p _ hp (Ex.upd hp) upd_same⟩
  · exact .inr ⟨a, xs, rfl, by rw [C.eK]; exact hq, fun p hp => q p _ hp (Ex.upd hp) upd_same⟩
theorem wE_slTo (C : CxI P w K mg base k N Vz Sz G sc X) (q : wE X e σ H fun x H1 => wE X d σ H1 fun y H2 => IsI y fun i => SlQ K x none (some i) H2 fun p H' => Q (.ref p) H') : wE X (.Subscript e (.Slice none (some d) none p2) pos) σ H Q := by
  refine wE_sl (sl_tup.or sl_list) po_none (po_some wE.pe) ⟨fun pins s I => ?_⟩
  refine thn (q.run pins s I) ?_
  rintro u s1 ⟨x, H1, I1, r1, q1⟩
  refine ⟨x, H1, I1, r1, ?_⟩
  show wE X d σ H1 _
  refine ⟨fun pins s I => ?_⟩
  refine thn (q1.run pins s I) ?_
  rintro u s1 ⟨y, H2, I2, r2, i, rfl, q2⟩
  exact ⟨_, H2, I2, r2, i, rfl, slq_run C q2⟩
theorem wE_slFrom (C : CxI P w K mg base k N Vz Sz G sc X) (q : wE X e σ H fun x H1 => wE X d σ H1 fun y H2 => IsI y fun i => SlQ K x (some i) none H2 fun p H' => Q (.ref p) H') : wE X (.Subscript e (.Slice (some d) none none p2) pos) σ H Q := by
  refine wE_sl (sl_tup.or sl_list) (po_some wE.pe) po_none ⟨fun pins s I => ?_⟩
  refine thn (q.run pins s I) ?_
  rintro u s1 ⟨x, H1, I1, r1, q1⟩
  refine ⟨x, H1, I1, r1, ?_⟩
  show wE X d σ H1 _
  refine ⟨fun pins s I => ?_⟩
  refine thn (q1.run pins s I) ?_
  rintro u s1 ⟨y, H2, I2, r2, i, rfl, q2⟩
  exact ⟨_, H2, I2, r2, i, rfl, slq_run C q2⟩
/-- <= of tuples of ints -/
theorem o_leT {a b : Addr} {ns ms : List Int} (C : CxI P w K mg base k N Vz Sz G sc X) (h1 : SqT K H a (ns.map V.int)) (h2 : SqT K H b (ms.map V.int))
    (q : Q (.bl (Ob.lexAt (fun j => decide (ns.getD j 0 = ms.getD j 0)) (fun j => decide (ns.getD j 0 ≤ ms.getD j 0)) (decide (ns.length ≤ ms.length)) 0 (min ns.length ms.length))) H) : wO X (compareOp .LtE) (.ref a) (.ref b) H Q :=
  wO.of (op_leT C.room.units0) ⟨a, b, ns, ms, rfl, rfl, by rw [C.eK]; exact h1, by rw [C.eK]; exact h2, q⟩
theorem dp_int {i : Int} : Dp K H (.int i) (.int i) := .int i
/-- == and != of tuples of ints -/
theorem dpa_ints : ∀ (ns : List Int), DpAll K H (ns.map V.int) (ns.map PyData.int)
  | [] => .nil
  | n :: ns => .cons (.int n) (dpa_ints ns)
end
section
variable {X : Cx} {e : Expr} {σ : L2.St} {H : Hp} {Q : VK}
theorem wE_val (v0 : V) (h : wE X e σ H fun v H' => v = v0 ∧ H' = H) (q : Q v0 H) : wE X e σ H Q := ⟨fun pins s I => thn (h.run pins s I) fun u s1 ⟨v, H1, I1, r, hv, hH⟩ => by
  subst hv
  subst hH
  exact ⟨_, _, I1, r, q⟩⟩
end
section
variable {P : Program} {w : World} {K : PySem.W.Frag} {mg : Str → Option Value} {base : Heap} {k : Nat} {N Vz Sz G : List Str} {sc : Scope} {X : Cx} {σ : L2.St} {H : Hp} {Q : VK}
theorem o_pow5 (q : Q (.int 100000) H) : wO X (binaryOp .Pow) (.int 10) (.int 5) H Q := o_pow (by decide) (by decide) (by decide) (by rw [show ((10 : Int) ^ (5 : Int).toNat) = 100000 by decide]; exact q)
end
section
variable {X : Cx} {e : Expr} {es : List Expr} {σ : L2.St} {H : Hp} {pos p2 : Pos} {D : Ends} {k1 : Nat}
theorem wS_asgT (hs : swapsWithSole [.Tuple es k1 p2] e pos.line X.env = pure false) (hw : swappedStores [.Tuple es k1 p2] e X.env = pure none) (h1 : (assignEach [.Tuple es k1 p2] X.env).map (·.2) = [assign (.Tuple es k1 p2) X.env])
    (q : wE X e σ H fun v H1 => wG X (.Tuple es k1 p2) v σ H1 D.nx) : wS X (.Assign [.Tuple es k1 p2] e pos) D σ H := wS_asg hs hw h1 q
end
end Rp
namespace Rp
open PySem PySem.Spec PyProof.Rows L2
section
variable {prog : Program} {w : World} {A : Around} {E : Value → Shared → Prop} {s : Shared}
/-- what is drawn of a tuple -/
theorem collect_tup {l : Addr} {vs : List Value} {Q : List Value → Shared → Prop} (hl : IsTup s.heap l vs.toArray)
    (h : Q vs { s with heap := (s.heap.push (seqObj "list" #[] 0)).update s.heap.objs.size (Obj.mapSeq (· ++ vs.toArray)) }) (hsz : vs.length ≤ sizeLine) :
    wpAny (model prog w) A (collect (.ref l)) Q E s := by
  obtain ⟨o, ho, hc, n, hd⟩ := id hl
  unfold collect
  refine wpAny_bind (wpAny_runValue (codeAny_builtin entry_proto_collect' ?_))
  show wpAny _ _ (do again (.builtin "list.__iadd__" ⟨[← newList [], .ref l], []⟩)) _ _ s
  refine wpAny_bind (wpAny_newList (wpAny_pure ⟨Code.quiet_builtin _ (by decide +kernel), codeAny_builtin entry_list_iadd' ?_⟩))
  show wpAny _ _ (Builtin.List.listExtendWith (.ref s.heap.objs.size) (.ref l) (.ref s.heap.objs.size)) _ _ { s with heap := s.heap.push (seqObj "list" #[] 0) }
  unfold Builtin.List.listExtendWith
  have ho' : (s.heap.push (seqObj "list" #[] 0)).get? l = some o := Heap.get?_push_of_some _ ho
  refine wpAny_bind (wpAny_typeOf (T := "tuple") ⟨o, ho', hc⟩ ?_)
  rw [if_pos (by rw [show (Value.type "tuple" == Value.type "tuple") = true by rfl]; simp)]
  refine wpAny_bind (listItems_at ho' hd ?_)
  refine wpAny_bind (listItems_at (xs := #[]) (n := 0) (Heap.get?_push_size _ rfl) rfl ?_)
  rw [if_neg (by simp)]
  refine wpAny_bind (listUpdate_at (xs := #[]) (n := 0) (Heap.get?_push_size _ rfl) rfl ?_ (Nat.zero_le _) (by show (#[] ++ vs.toArray).size ≤ sizeLine + 1; simp only [Array.size_append, List.size_toArray, List.length_nil]; omega))
  refine wpAny_pure ?_
  show wpAny (model prog w) A (do
      let o ← load s.heap.objs.size
      match o.data with
      | .seq xs _ => pure xs.toList
      | _ => unsupported "internal:collect") Q E { s with heap := (s.heap.push (seqObj "list" #[] 0)).update s.heap.objs.size (Obj.mapSeq (· ++ vs.toArray)) }
  refine wpAny_bind (wpAny_load (get?_update_seq (Heap.get?_push_size _ rfl) _) ?_)
  show wpAny _ _ (pure ((#[] : Array Value) ++ vs.toArray).toList) Q E _
  rw [show ((#[] : Array Value) ++ vs.toArray).toList = vs by simp]
  exact wpAny_pure h
end
theorem ext_upd {h : Heap} {vs : List Value} : ∀ b o, h.get? b = some o → ((h.push (seqObj "list" #[] 0)).update h.objs.size (Obj.mapSeq (· ++ vs.toArray))).get? b = some o := fun b o e => by
  have hlt : b < h.objs.size := Heap.lt_size e
  rw [Heap.get?_update_ne _ _ _ _ (Nat.ne_of_lt hlt)]
  exact Heap.get?_push_of_some _ e
theorem refs_of : ∀ us : List Value, (∀ u ∈ us, ∃ a, u = Value.ref a) → ∃ bs : List Addr, us = bs.map Value.ref
  | [], _ => ⟨[], rfl⟩
  | u :: us, h => by
    obtain ⟨a, rfl⟩ := h u List.mem_cons_self
    obtain ⟨bs, rfl⟩ := refs_of us fun v hv => h v (List.mem_cons_of_mem _ hv)
    exact ⟨a :: bs, rfl⟩
def unref : Value → Addr
  | .ref a => a
  | _ => 0
theorem unref_map (bs : List Addr) : (bs.map Value.ref).map unref = bs := by
  rw [List.map_map]
  exact List.map_id bs
theorem vals_refs' : ∀ bs : List Addr, Vals (bs.map V.ref) (bs.map Value.ref)
  | [] => .nil
  | _ :: r => .cons rfl (vals_refs' r)
section
variable {X : Cx} {pins : List (Addr × Obj)} {σ : L2.St} {H : Hp} {s : Shared}
/-- sorted of a thing that gives these tuples of ints -/
theorem sorted_src {src : Addr} {as : List Addr} {nss : List (List Int)} {d : Nat} {B : Int} {Q : VK} (I : Inv X pins σ H s)
    (hcol : ∀ R : List Value → Shared → Prop, (∀ h' tk, (∀ b o, s.heap.get? b = some o → h'.get? b = some o) → R (as.map Value.ref) { s with heap := h', toks := tk }) → wpAny (model X.prog X.w) X.A.in1 (collect (.ref src)) R X.xe s)
    (hT : Paired (fun a ns => SqT X.K H a (ns.map V.int)) as nss) (hB : ∀ ns ∈ nss, ns.length = d ∧ TS.Bd B ns) (hd : 1 ≤ d) (h64 : as.length < 64)
    (q : ∀ (ps : List (Addr × List Int)) (p : Addr), ps.Perm (as.zip nss) → ps.Pairwise (fun a b => TS.code B a.2 ≤ TS.code B b.2) → H p = none → Q (.ref p) (upd H p (.lst (ps.map fun x => V.ref x.1)))) :
    wpAny (model X.prog X.w) X.A (call (.builtin "sorted") [.ref src]) (EP X pins σ Q) X.xe s := by
  refine Calls.call_function_entry PyProof.Rows.kind_sorted PyProof.Rows.plain_sorted PyProof.Rows.entry_sorted (PyProof.Rows.args_sorted1 _) ?_
  unfold Builtin.«sorted»
  refine wpAny_bind (m := checkCount "sorted" 1 1 _) (wpAny_pure ?_)
  refine wpAny_bind (hcol _ fun h' tk hk => ?_)
  have I1 : Inv X pins σ H { s with heap := h', toks := tk } := I.kept hk
  have hal : (as.map Value.ref).length = as.length := List.length_map _
  refine wpAny_bind (wpAny_newList ?_ (by rw [hal, sizeLine_eq]; omega))
  have hoL : (h'.push (seqObj "list" (as.map Value.ref).toArray 0)).get? h'.objs.size = some (seqObj "list" (as.map Value.ref).toArray 0) := Heap.get?_push_size _ rfl
  show wpAny _ _ _ _ _ { s with heap := h'.push (seqObj "list" (as.map Value.ref).toArray 0), toks := tk }
  -- the ints of each
  have hraw : ∀ (as : List Addr) (nss : List (List Int)), Paired (fun a ns => SqT X.K H a (ns.map V.int)) as nss → ∀ a ∈ as, ∃ ns ∈ nss, TS.TupInts s.heap (.ref a) ns := by
    intro as nss h
    induction h with
    | nil => intro a ha; cases ha
    | cons z t ih =>
      intro a ha
      rcases List.mem_cons.mp ha with e | ha
      · rw [e]; exact ⟨_, List.mem_cons_self, tupI_raw I z⟩
      · obtain ⟨ns, m, x⟩ := ih a ha
        exact ⟨ns, List.mem_cons_of_mem _ m, x⟩
  have hzip : ∀ (as : List Addr) (nss : List (List Int)), Paired (fun a ns => SqT X.K H a (ns.map V.int)) as nss → as.zip nss = as.map fun a => (a, TS.intsOf s.heap (.ref a)) := by
    intro as nss h
    induction h with
    | nil => rfl
    | cons z t ih =>
      rw [List.zip_cons_cons, List.map_cons, ih, (tupI_raw I z).ints]
  have keep : ∀ b o, s.heap.get? b = some o → (h'.push (seqObj "list" (as.map Value.ref).toArray 0)).get? b = some o := fun b o e => Heap.get?_push_of_some _ (hk b o e)
  have ok : TS.TupsOk (h'.push (seqObj "list" (as.map Value.ref).toArray 0)) d B (as.map Value.ref) := fun v hv => by
    obtain ⟨a, ha, rfl⟩ := List.mem_map.mp hv
    obtain ⟨ns, m, x⟩ := hraw as nss hT a ha
    obtain ⟨h1, h2⟩ := hB ns m
    exact ⟨ns, x.keeps fun b o e _ => keep b o e, h1, h2⟩
  refine wpAny_bind (wpAny_holding (wpAny_call_entry PyProof.Rows.slot_list_sort ⟨_, hoL, rfl⟩ PyProof.Rows.entry_list_sort
    (TS.sort_tups (s := { s with heap := h'.push (seqObj "list" (as.map Value.ref).toArray 0), toks := tk }) hoL (by rw [hal]; exact h64) hd ok (fun v => TS.code B (TS.intsOf s.heap v)) (fun v hv ns t => ?_) fun out g1 g2 => ⟨_, rfl, ?_⟩) (PyProof.Rows.args_list_sort _)))
  · obtain ⟨a, ha, rfl⟩ := List.mem_map.mp hv
    obtain ⟨ns0, m, x⟩ := hraw as nss hT a ha
    have e : ns = ns0 := t.ints.symm.trans (x.keeps fun b o e _ => keep b o e).ints
    rw [e]
    show TS.code B (TS.intsOf s.heap (.ref a)) = _
    rw [x.ints]
  · obtain ⟨e', he'⟩ := PyProof.Rows.sortedHeap_at (vs := as.map Value.ref) (out := out) hoL
    have hrf : ∀ u ∈ out.toList, ∃ a, u = Value.ref a := fun u hu => by
      obtain ⟨a, _, e⟩ := List.mem_map.mp (g1.mem_iff.mp hu)
      exact ⟨a, e.symm⟩
    obtain ⟨bs, hbs⟩ := refs_of out.toList hrf
    have hperm : bs.Perm as := by
      have z := g1.map unref
      rw [hbs, unref_map, unref_map] at z
      exact z
    have hlen : (bs.map V.ref).length ≤ sizeLine := by
      rw [List.length_map, hperm.length_eq]
      exact Nat.le_trans (Nat.le_of_lt h64) (by decide)
    have hq := q (bs.map fun a => (a, TS.intsOf s.heap (.ref a))) h'.objs.size (by rw [hzip as nss hT]; exact hperm.map _) (by
      rw [hbs, List.pairwise_map] at g2
      rw [List.pairwise_map]
      refine List.Pairwise.imp_of_mem (fun {a b} ma mb z => ?_) g2
      have ea : ∀ c ∈ bs, TS.intsOf (h'.push (seqObj "list" (as.map Value.ref).toArray 0)) (.ref c) = TS.intsOf s.heap (.ref c) := fun c mc => by
        obtain ⟨ns, _, x⟩ := hraw as nss hT c (hperm.mem_iff.mp mc)
        rw [x.ints, (x.keeps fun b o e _ => keep b o e).ints]
      show TS.code B (TS.intsOf s.heap (.ref a)) ≤ TS.code B (TS.intsOf s.heap (.ref b))
      exact z) (I1.hok.fresh (Nat.le_refl _))
    rw [List.map_map] at hq
    refine wpAny_pure ⟨_, rfl, .ref h'.objs.size, upd H h'.objs.size (.lst (bs.map V.ref)), I1.laid (t' := tk) (fun b u e => ?_) (Nat.le_refl _)
      (show ObjOk X.prog X.w _ _ _ (.lst (bs.map V.ref)) from ⟨hlen, out.toList, e', by rw [hbs]; exact vals_refs' bs, by rw [Array.toArray_toList]; exact he'⟩), rfl, hq⟩
    have hb : b < h'.objs.size := Heap.lt_size e
    rw [PyProof.Rows.sortedHeap_old (Nat.ne_of_lt hb) (by rw [size_push']; exact Nat.lt_succ_of_lt hb)]
    exact Heap.get?_push_of_some _ e
/-- sorted(t), t a tuple of tuples of ints -/
theorem call_sortedTT {t : Addr} {as : List Addr} {nss : List (List Int)} {d : Nat} {B : Int} {Q : VK} (hq : SqT X.K H t (as.map V.ref)) (hT : Paired (fun a ns => SqT X.K H a (ns.map V.int)) as nss) (hB : ∀ ns ∈ nss, ns.length = d ∧ TS.Bd B ns) (hd : 1 ≤ d) (h64 : as.length < 64)
    (q : ∀ (ps : List (Addr × List Int)) (p : Addr), ps.Perm (as.zip nss) → ps.Pairwise (fun a b => TS.code B a.2 ≤ TS.code B b.2) → H p = none → Q (.ref p) (upd H p (.lst (ps.map fun x => V.ref x.1)))) : wC X (.builtin "sorted") [.ref t] H Q := by
  refine ⟨fun pins s σ us I r => ?_⟩
  obtain ⟨u, rfl, rx⟩ := vals1 r
  cases rx
  refine sorted_src I (fun R h => ?_) hT hB hd h64 q
  obtain ⟨its, rv, ht, hz⟩ := I.tuple hq
  have e : its = as.map Value.ref := by
    obtain ⟨e1, e2⟩ := bkV_refs rv fun y hy => by
      obtain ⟨a, _, rfl⟩ := List.mem_map.mp hy
      exact ⟨a, rfl⟩
    obtain ⟨bs, rfl⟩ := refs_of its e2
    rw [List.map_map] at e1
    have e3 : as = bs := by
      have z := congrArg (List.map fun x => match x with | V.ref a => a | _ => (0 : Addr)) e1
      rw [List.map_map, List.map_map] at z
      exact (List.map_id as).symm.trans (z.trans (List.map_id bs))
    rw [e3]
  rw [e] at ht
  exact collect_tup ht (h _ _ ext_upd) (by rw [List.length_map, sizeLine_eq]; omega)
end
def unI : Key → Int
  | .inl i => i
  | .inr _ => 0
theorem unI_map (ns : List Int) : (ns.map (Sum.inl : Int → Key)).map unI = ns := by
  rw [List.map_map]
  exact List.map_id ns
section
variable {X : Cx} {H : Hp}
/-- sorted(d), d a dict whose keys are tuples of ints -/
theorem call_sortedDT {d : Addr} {kvs : List (List Key × V)} {D : Nat} {B : Int} {Q : VK} (hcalm : X.calm = true) (hd : H d = some (.dT kvs)) (hB : ∀ kv ∈ kvs, ∃ ns : List Int, kv.1 = ns.map Sum.inl ∧ ns.length = D ∧ TS.Bd B ns) (hD : 1 ≤ D) (h64 : kvs.length < 64)
    (q : ∀ (ps : List (Addr × List Int)) (p : Addr), (ps.map fun x => x.2.map (Sum.inl : Int → Key)).Perm (kvs.map (·.1)) → (∀ x ∈ ps, H x.1 = some (.tup (x.2.map V.int))) → ps.Pairwise (fun a b => TS.code B a.2 ≤ TS.code B b.2) → H p = none → Q (.ref p) (upd H p (.lst (ps.map fun x => V.ref x.1)))) :
    wC X (.builtin "sorted") [.ref d] H Q := by
  refine ⟨fun pins s σ us I r => ?_⟩
  obtain ⟨u, rfl, rx⟩ := vals1 r
  cases rx
  obtain ⟨z, hs, ks, pr, o, es, ep, ho, hx, hdt, he, hn⟩ := (show ObjOk X.prog X.w H s.heap d (.dT kvs) from I.hok d _ hd)
  have l1 : es.size = ks.length := size_of_entries he
  have l2 : kvs.length = ks.length := Paired.length pr
  have hT : ∀ (kvs : List (List Key × V)) (ks : List (List Key × Addr × Value)), KT H kvs ks → (∀ kv ∈ kvs, ∃ ns : List Int, kv.1 = ns.map Sum.inl ∧ ns.length = D ∧ TS.Bd B ns) →
      Paired (fun a ns => H a = some (.tup (ns.map V.int))) (ks.map (·.2.1)) (kvs.map fun kv => kv.1.map unI) := by
    intro kvs ks h
    induction h with
    | nil => intro _; exact .nil
    | @cons p q r t hz ht ih =>
      intro hb
      obtain ⟨ns, e, _⟩ := hb p List.mem_cons_self
      refine .cons ?_ (ih fun kv m => hb kv (List.mem_cons_of_mem _ m))
      have e2 := hz.2.1
      rw [e, List.map_map] at e2
      show H q.2.1 = some (.tup ((p.1.map unI).map V.int))
      rw [e, unI_map]
      exact e2
  have hT0 := hT kvs ks pr hB
  have hmem : ∀ (as : List Addr) (nss : List (List Int)), Paired (fun a ns => H a = some (.tup (ns.map V.int))) as nss → ∀ x ∈ as.zip nss, H x.1 = some (.tup (x.2.map V.int)) := by
    intro as nss h
    induction h with
    | nil => intro x hx; cases hx
    | cons z t ih =>
      intro x hx
      rcases List.mem_cons.mp (show x ∈ _ :: _ from hx) with e | hx
      · rw [e]; exact z
      · exact ih x hx
  have hsnd : ∀ (as : List Addr) (nss : List (List Int)), Paired (fun a ns => H a = some (.tup (ns.map V.int))) as nss → (as.zip nss).map (·.2) = nss := by
    intro as nss h
    induction h with
    | nil => rfl
    | cons z t ih => rw [List.zip_cons_cons, List.map_cons, ih]
  refine sorted_src (as := ks.map (·.2.1)) (nss := kvs.map fun kv => kv.1.map unI) (d := D) (B := B) I (fun R h => ?_) (Paired.mapP hT0 fun a ns z => .inl (.inl z)) (fun ns m => ?_) hD (by rw [List.length_map]; omega) fun ps p h1 h2 h3 => q ps p ?_ (fun x hx => hmem _ _ hT0 x (h1.mem_iff.mp hx)) h2 h3
  · refine PySem.W.kdu_collect (kdl_raw hs hx hdt) (I.ok.hd hcalm) ho (by omega) fun h' tk acc' hk it => ?_
    have ea : acc'.toList = ks.map fun x => Value.ref x.2.1 := by
      have hl : acc'.toList.length = ks.length := by rw [Array.length_toList, it.1]; exact l1
      apply List.ext_getElem?
      intro j
      rw [List.getElem?_map]
      cases hj : acc'.toList[j]? with
      | none =>
        have h1 := List.getElem?_eq_none_iff.mp hj
        rw [List.getElem?_eq_none (by omega)]
        all_goals rfl
      | some v =>
        obtain ⟨en, hen, hv⟩ := it.2 j v (by rw [← Array.getElem?_toList]; exact hj)
        have qe := entry_at he j
        rw [hen] at qe
        cases hb : ks[j]? with
        | none =>
          rw [hb] at qe
          exact nomatch (show some en = none from qe)
        | some b =>
          rw [hb] at qe
          have e2 : en = entryOfKey (tupleKind (mixKind X.prog X.w)) b := Option.some.inj qe
          rw [hv, e2]
          all_goals rfl
    have hh := h h' tk hk
    rw [List.map_map] at hh
    rw [ea]
    exact hh
  · obtain ⟨kv, mk, rfl⟩ := List.mem_map.mp m
    obtain ⟨ns, e, h1, h2⟩ := hB kv mk
    rw [e, unI_map]
    exact ⟨h1, h2⟩
  · have e1 : (kvs.map (·.1)) = (kvs.map fun kv => kv.1.map unI).map fun ns => ns.map (Sum.inl : Int → Key) := by
      rw [List.map_map]
      refine List.map_congr_left fun kv m => ?_
      obtain ⟨ns, e, _⟩ := hB kv m
      show kv.1 = (kv.1.map unI).map Sum.inl
      rw [e, unI_map]
    rw [e1, ← hsnd _ _ hT0]
    have z := h1.map fun x => x.2.map (Sum.inl : Int → Key)
    rw [List.map_map]
    exact z
end
end Rp
namespace Rp
open PySem PySem.Spec PyProof.Rows L2
/-! ### dicts with tuple keys -/
def DgQ (H : Hp) (x y : V) (R : V → Prop) : Prop := ∃ a v, x = .ref a ∧ DGet H a y (some v) ∧ R v
def DpQ (v x y : V) (H : Hp) (R : Hp → Prop) : Prop := ∃ a H', x = .ref a ∧ DPut H a y v H' ∧ R H'
section
variable {P : Program} {w : World} {K : PySem.W.Frag} {mg : Str → Option Value} {base : Heap} {k : Nat} {N Vz Sz G : List Str} {sc : Scope} {X : Cx} {e o d : Expr} {σ : L2.St} {H : Hp} {pos pos' : Pos} {Q : VK} {D : Ends}
theorem wE_dnewT (q : ∀ p H2, H p = none → Ex H H2 → H2 p = some (.dT []) → Q (.ref p) H2) : wE X (.Dict [] [] pos) σ H Q := wE.of pe_dnewT fun p hp => q p _ hp (Ex.upd hp) upd_same
theorem wE_dget (C : CxI P w K mg base k N Vz Sz G sc X) (hs : NoSl d) (q : wE X o σ H fun x H1 => wE X d σ H1 fun y H2 => DgQ H2 x y fun v => Q v H2) : wE X (.Subscript o d pos) σ H Q := wE.of (pe_dget (hu_of C.room) wE.pe wE.pe hs) q
theorem wS_dput (C : CxI P w K mg base k N Vz Sz G sc X) (hs : swapsWith e (some (.Subscript o d pos')) pos.line X.env = pure false) (q : wE X e σ H fun v H1 => wE X o σ H1 fun x H2 => wE X d σ H2 fun y H3 => DpQ v x y H3 fun H4 => D.nx σ H4) :
    wS X (.Assign [.Subscript o d pos'] e pos) D σ H := wS.of (ps_dput (hu_of C.room) wE.pe wE.pe wE.pe hs) q
theorem dpq_t {a b : Addr} {kvs : List (List Key × V)} {ks : List Key} {v : V} {R : Hp → Prop} (e : H a = some (.dT kvs)) (eb : H b = some (.tup (ks.map kV))) (hl : kvs.length < sizeLine) (q : ∀ H', Exb a H H' → H' a = some (.dT (putK kvs ks v)) → R H') : DpQ v (.ref a) (.ref b) H R :=
  ⟨a, _, rfl, DPut.t e eb hl, q _ Exb.upd upd_same⟩
theorem dgq_t {a b : Addr} {kvs : List (List Key × V)} {ks : List Key} {v : V} {R : V → Prop} (e : H a = some (.dT kvs)) (eb : H b = some (.tup (ks.map kV))) (hv : valV kvs ks = some v) (q : R v) : DgQ H (.ref a) (.ref b) R :=
  ⟨a, v, rfl, by rw [← hv]; exact DGet.t e eb, q⟩
end
/-! ### comprehensions over a list, a tuple -/
section
variable {P : Program} {w : World} {K : PySem.W.Frag} {mg : Str → Option Value} {base : Heap} {k : Nat} {N Vz Sz G Vc Sc' Gc : List Str} {sc scope : Scope} {X : Cx} {elt tg it c : Expr} {ifs : List Expr} {σ : L2.St} {H : Hp} {pos : Pos} {Q : VK} {D : Ends}
/-- the contexts of a comprehension's block -/
def BlkE (P : Program) (w : World) (K : PySem.W.Frag) (mg : Str → Option Value) (base : Heap) (k : Nat) (N Vc Sc' Gc : List Str) (scope : Scope) (e : Expr) : TE := fun σ H Q => ∀ X, CxI P w K mg base k N Vc Sc' Gc scope X → wE X e σ H Q
def BlkT (P : Program) (w : World) (K : PySem.W.Frag) (mg : Str → Option Value) (base : Heap) (k : Nat) (N Vc Sc' Gc : List Str) (scope : Scope) (ifs : List Expr) : TT := fun σ H Q => match ifs with
  | [] => Q true H
  | [c] => ∀ X, CxI P w K mg base k N Vc Sc' Gc scope X → wT X c σ H Q
  | _ => False
def BlkG (P : Program) (w : World) (K : PySem.W.Frag) (mg : Str → Option Value) (base : Heap) (k : Nat) (N Vc Sc' Gc : List Str) (scope : Scope) (e : Expr) : TG := fun v σ H Q => ∀ X, CxI P w K mg base k N Vc Sc' Gc scope X → wG X e v σ H Q
def localsOk (S : List Str) (sc : Scope) : Bool := S.all fun x => sc.names.lookup x == some .local
theorem blk_cx (C : CxI P w K mg base k N Vz Sz G sc X) (ok : namesOk Vc Sc' Gc (relS scope sc) = true) (hl : localsOk Sc' (relS scope sc) = true) (hk : scope.kind = .function) (s : Shared) (H : Hp) (Ca : Addr) (cl : List (Str × Addr)) (fp : List Addr) :
    CxI P w K mg base k N Vc Sc' Gc (relS scope sc) (X.blk s H scope (compEnvC scope cl Ca X.env) fp) :=
  ⟨C.eP, C.ew, C.eK, C.em, C.eb, C.eN, by rw [← C.es]; rfl, C.room, C.calm, .inr fun x hx => eq_of_beq (List.all_eq_true.mp hl x hx), PassesOwn.never, C.nd, ok, hk⟩
theorem blk_pe (C : CxI P w K mg base k N Vz Sz G sc X) (ok : namesOk Vc Sc' Gc (relS scope sc) = true) (hl : localsOk Sc' (relS scope sc) = true) (hk : scope.kind = .function) (s : Shared) (H : Hp) (Ca : Addr) (cl : List (Str × Addr)) (fp : List Addr) :
    PE (X.blk s H scope (compEnvC scope cl Ca X.env) fp) elt (BlkE P w K mg base k N Vc Sc' Gc (relS scope sc) elt) := ⟨fun pins s' σ H' Q I h => (h _ (blk_cx C ok hl hk s H Ca cl fp)).run pins s' I⟩
theorem blk_pg (C : CxI P w K mg base k N Vz Sz G sc X) (ok : namesOk Vc Sc' Gc (relS scope sc) = true) (hl : localsOk Sc' (relS scope sc) = true) (hk : scope.kind = .function) (s : Shared) (H : Hp) (Ca : Addr) (cl : List (Str × Addr)) (fp : List Addr) :
    PG (X.blk s H scope (compEnvC scope cl Ca X.env) fp) tg (BlkG P w K mg base k N Vc Sc' Gc (relS scope sc) tg) := ⟨fun pins s' σ H' v u Q I r h => (h _ (blk_cx C ok hl hk s H Ca cl fp)).run pins s' u I r⟩
theorem blk_pts (C : CxI P w K mg base k N Vz Sz G sc X) (ok : namesOk Vc Sc' Gc (relS scope sc) = true) (hl : localsOk Sc' (relS scope sc) = true) (hk : scope.kind = .function) (s : Shared) (H : Hp) (Ca : Addr) (cl : List (Str × Addr)) (fp : List Addr) :
    ∀ ifs : List Expr, PTs (X.blk s H scope (compEnvC scope cl Ca X.env) fp) ifs (BlkT P w K mg base k N Vc Sc' Gc (relS scope sc) ifs)
  | [] => pts_nil
  | [c] => pts_one ⟨fun pins s' σ H' Q I h => (h _ (blk_cx C ok hl hk s H Ca cl fp)).run pins s' I⟩
  | _ :: _ :: _ => ⟨fun _ _ _ _ _ _ h => h.elim⟩
/-- the step of a comprehension, the new list at D -/
def LcStep (P : Program) (w : World) (K : PySem.W.Frag) (mg : Str → Option Value) (base : Heap) (k : Nat) (N Vc Sc' Gc : List Str) (scope : Scope) (vs : List Nat) (elt tg : Expr) (ifs : List Expr) (σ : L2.St) (D : Addr) (x : V) (H : Hp) (Nx : Hp → Prop) : Prop :=
  BlkG P w K mg base k N Vc Sc' Gc scope tg x (wipe σ vs) H fun σ2 H2 => wipe σ2 vs = wipe σ vs ∧ BlkT P w K mg base k N Vc Sc' Gc scope ifs σ2 H2 fun b H3 =>
    if b = true then BlkE P w K mg base k N Vc Sc' Gc scope elt σ2 H3 fun y H4 => ∃ acc, H4 D = some (.lst acc) ∧ acc.length < sizeLine ∧ Nx (L2.upd H4 D (.lst (acc ++ [y]))) else Nx H3
def LcL (P : Program) (w : World) (K : PySem.W.Frag) (mg : Str → Option Value) (base : Heap) (k : Nat) (N Vc Sc' Gc : List Str) (scope : Scope) (vs : List Nat) (elt tg : Expr) (ifs : List Expr) (σ : L2.St) (v : V) (H1 : Hp) (Q : Addr → Hp → Prop) : Prop :=
  ∃ ad xs, v = .ref ad ∧ SqL K H1 ad xs ∧ ∀ D, H1 D = none → ∃ Pv : Nat → Hp → Prop, Pv 0 (L2.upd H1 D (.lst [])) ∧ (∀ i H, i ≤ xs.length → Pv i H → SqL K H ad xs) ∧
    (∀ i x H, xs[i]? = some x → Pv i H → LcStep P w K mg base k N Vc Sc' Gc scope vs elt tg ifs σ D x H (Pv (i + 1))) ∧ ∀ H, Pv xs.length H → Q D H
def LcT (P : Program) (w : World) (K : PySem.W.Frag) (mg : Str → Option Value) (base : Heap) (k : Nat) (N Vc Sc' Gc : List Str) (scope : Scope) (vs : List Nat) (elt tg : Expr) (ifs : List Expr) (σ : L2.St) (v : V) (H1 : Hp) (Q : Addr → Hp → Prop) : Prop :=
  ∃ ad xs, v = .ref ad ∧ SqT K H1 ad xs ∧ ∀ D, H1 D = none → ∃ Pv : Nat → Hp → Prop, Pv 0 (L2.upd H1 D (.lst [])) ∧ (∀ i H, i ≤ xs.length → Pv i H → SqT K H ad xs) ∧
    (∀ i x H, xs[i]? = some x → Pv i H → LcStep P w K mg base k N Vc Sc' Gc scope vs elt tg ifs σ D x H (Pv (i + 1))) ∧ ∀ H, Pv xs.length H → Q D H
variable {own : List (Str × Nat)}
theorem lcL_read {s : Shared} {v : V} {u : Value} {pins : List (Addr × Obj)} {H1 : Hp} (C : CxI P w K mg base k N Vz Sz G sc X) (q : LcL P w K mg base k N Vc Sc' Gc (relS scope sc) (own.map (·.2)) elt tg ifs σ v H1 fun D H => Q (.ref D) H) :
    ∃ a, v = .ref a ∧ (∃ xs, SqL X.K H1 a xs) ∧ ∀ D, H1 D = none → ∃ W : Nat → Nat → Hp → Prop, (∃ m, W 0 m (L2.upd H1 D (.lst []))) ∧ ∀ i m H, W i m H →
      ((Itl X.K a).stop i H ∧ Q (.ref D) H) ∨ ((Itl X.K a).go i H ∧ ∃ Nx : Hp → Prop, (∀ H', Nx H' → ∃ m', m' < m ∧ W (i + 1) m' H') ∧ ∀ x H', (Itl X.K a).yld i H x H' → LcStep P w K mg base k N Vc Sc' Gc (relS scope sc) (own.map (·.2)) elt tg ifs σ D x H' Nx) := by
  obtain ⟨ad, xs, rfl, hS, q⟩ := q
  rw [← C.eK] at hS
  refine ⟨ad, rfl, ⟨xs, hS⟩, fun D hD => ?_⟩
  obtain ⟨Pv, h0, hl, hs, hd⟩ := q D hD
  exact lc_list (K := X.K) (xs := xs) Pv h0 (fun i H hi hp => by rw [C.eK]; exact hl i H hi hp) hs hd
theorem lcT_read {s : Shared} {v : V} {u : Value} {pins : List (Addr × Obj)} {H1 : Hp} (C : CxI P w K mg base k N Vz Sz G sc X) (q : LcT P w K mg base k N Vc Sc' Gc (relS scope sc) (own.map (·.2)) elt tg ifs σ v H1 fun D H => Q (.ref D) H) :
    ∃ a, v = .ref a ∧ (∃ xs, SqT X.K H1 a xs) ∧ ∀ D, H1 D = none → ∃ W : Nat → Nat → Hp → Prop, (∃ m, W 0 m (L2.upd H1 D (.lst []))) ∧ ∀ i m H, W i m H →
      ((Itt X.K a).stop i H ∧ Q (.ref D) H) ∨ ((Itt X.K a).go i H ∧ ∃ Nx : Hp → Prop, (∀ H', Nx H' → ∃ m', m' < m ∧ W (i + 1) m' H') ∧ ∀ x H', (Itt X.K a).yld i H x H' → LcStep P w K mg base k N Vc Sc' Gc (relS scope sc) (own.map (·.2)) elt tg ifs σ D x H' Nx) := by
  obtain ⟨ad, xs, rfl, hS, q⟩ := q
  rw [← C.eK] at hS
  refine ⟨ad, rfl, ⟨xs, hS⟩, fun D hD => ?_⟩
  obtain ⟨Pv, h0, hl, hs, hd⟩ := q D hD
  exact lc_tup (K := X.K) (xs := xs) Pv h0 (fun i H hi hp => by rw [C.eK]; exact hl i H hi hp) hs hd
theorem wE_lcL (own : List (Str × Nat)) (Vc Sc' Gc : List Str) (C : CxI P w K mg base k N Vz Sz G sc X) (ob : blkC N sc scope own = true) (ok : namesOk Vc Sc' Gc (relS scope sc) = true) (hl : localsOk Sc' (relS scope sc) = true) (hk : scope.kind = .function)
    (hf : ∀ x, foldedSetIterable it X.env x = pure x) (q : wE X it σ H fun v H1 => LcL P w K mg base k N Vc Sc' Gc (relS scope sc) (own.map (·.2)) elt tg ifs σ v H1 fun D H => Q (.ref D) H) :
    wE X (.ListComp elt [⟨tg, it, ifs, 0⟩] scope pos) σ H Q := by
  refine wE.of (pe_lc C.calm (by rw [C.eN]; exact C.nd) (pi_list wE.pe) (blkOk_by (own := own) (by rw [C.eN, C.es]; exact ob)) (blk_pg C ok hl hk) (fun s H Ca cl fp => blk_pts C ok hl hk s H Ca cl fp ifs) (blk_pe C ok hl hk) hf) ?_
  show wE X it σ H _
  refine ⟨fun pins s I => thn (q.run pins s I) ?_⟩
  rintro u s1 ⟨v, H1, I1, r1, q1⟩
  exact ⟨v, H1, I1, r1, lcL_read (s := s1) (u := u) (pins := pins) C q1⟩
theorem wE_lcT (own : List (Str × Nat)) (Vc Sc' Gc : List Str) (C : CxI P w K mg base k N Vz Sz G sc X) (ob : blkC N sc scope own = true) (ok : namesOk Vc Sc' Gc (relS scope sc) = true) (hl : localsOk Sc' (relS scope sc) = true) (hk : scope.kind = .function)
    (hf : ∀ x, foldedSetIterable it X.env x = pure x) (q : wE X it σ H fun v H1 => LcT P w K mg base k N Vc Sc' Gc (relS scope sc) (own.map (·.2)) elt tg ifs σ v H1 fun D H => Q (.ref D) H) :
    wE X (.ListComp elt [⟨tg, it, ifs, 0⟩] scope pos) σ H Q := by
  refine wE.of (pe_lc C.calm (by rw [C.eN]; exact C.nd) (pi_tup wE.pe) (blkOk_by (own := own) (by rw [C.eN, C.es]; exact ob)) (blk_pg C ok hl hk) (fun s H Ca cl fp => blk_pts C ok hl hk s H Ca cl fp ifs) (blk_pe C ok hl hk) hf) ?_
  show wE X it σ H _
  refine ⟨fun pins s I => thn (q.run pins s I) ?_⟩
  rintro u s1 ⟨v, H1, I1, r1, q1⟩
  exact ⟨v, H1, I1, r1, lcT_read (s := s1) (u := u) (pins := pins) C q1⟩
/-- y = [..] on one line -/
theorem wS_lcT {y : Str} {py spos : Pos} (own : List (Str × Nat)) (Vc Sc' Gc : List Str) (C : CxI P w K mg base k N Vz Sz G sc X) (ob : blkC N sc scope own = true) (ok : namesOk Vc Sc' Gc (relS scope sc) = true) (hl : localsOk Sc' (relS scope sc) = true) (hk : scope.kind = .function)
    (hyN : y ∈ N) (hy : (sc.names.lookup y == some .local) = true) (hp : (py.line == pos.line) = true) (ha : (scope.names.any fun (n, k) => n == y && (k == .local || k == .cell)) = false)
    (hf : ∀ x, foldedSetIterable it X.env x = pure x) (q : wE X it σ H fun v H1 => LcT P w K mg base k N Vc Sc' Gc (relS scope sc) (own.map (·.2)) elt tg ifs σ v H1 fun Da H => Put N σ y (.ref Da) fun σ' => D.nx σ' H) :
    wS X (.Assign [.Name y py] (.ListComp elt [⟨tg, it, ifs, 0⟩] scope pos) spos) D σ H := by
  have hyl : X.env.scope.names.lookup y = some .local := by rw [C.es]; exact eq_of_beq hy
  have hin : ∃ i, N[i]? = some y ∧ ∀ (v : V) R, Put N σ y v R → R (σ.set i (some v)) := by
    obtain ⟨i, hi⟩ := List.getElem?_of_mem hyN
    refine ⟨i, hi, fun v R q => ?_⟩
    obtain ⟨σ', p, r⟩ := q
    obtain ⟨j, hj, rfl⟩ := p.ix
    rw [nodup_ix C.nd hi hj]
    exact r
  obtain ⟨i, hi, hput⟩ := hin
  refine wS.of (ps_setLc (i := i) C.calm (by rw [C.eN]; exact C.nd) (by rw [C.eN]; exact hi) hyl (sw_true (by rw [C.es]; exact C.fk) hyl hp ha) (pi_tup wE.pe) (blkOk_by (own := own) (by rw [C.eN, C.es]; exact ob)) (blk_pg C ok hl hk) (fun s H Ca cl fp => blk_pts C ok hl hk s H Ca cl fp ifs) (blk_pe C ok hl hk) hf) ?_
  show wE X it σ H _
  refine ⟨fun pins s I => thn (q.run pins s I) ?_⟩
  rintro u s1 ⟨v, H1, I1, r1, q1⟩
  refine ⟨v, H1, I1, r1, lcT_read (Q := fun x H => gName i x σ H D.nx) (s := s1) (u := u) (pins := pins) C ?_⟩
  obtain ⟨ad, xs, e, hS, q1⟩ := q1
  refine ⟨ad, xs, e, hS, fun Da hD => ?_⟩
  obtain ⟨Pv, h0, hl, hs, hd⟩ := q1 Da hD
  exact ⟨Pv, h0, hl, hs, fun H hp => hput _ _ (hd H hp)⟩
end
section
variable {P : Program} {w : World} {K : PySem.W.Frag} {mg : Str → Option Value} {base : Heap} {k : Nat} {N Vz Sz G : List Str} {sc : Scope} {X : Cx} {σ : L2.St} {H : Hp} {Q : VK}
/-- + of two tuples, none empty -/
theorem o_catT {a b : Addr} {xs ys : List V} (C : CxI P w K mg base k N Vz Sz G sc X) (h1 : SqT K H a xs) (h2 : SqT K H b ys) (hz : xs.length + ys.length ≤ sizeLine) (n1 : xs ≠ []) (n2 : ys ≠ []) (q : ∀ p H2, H p = none → Ex H H2 → H2 p = some (.tup (xs ++ ys)) → Q (.ref p) H2) :
    wO X (binaryOp .Add) (.ref a) (.ref b) H Q :=
  wO.of op_catA ⟨a, b, xs, ys, rfl, rfl, by rw [C.eK]; exact h1, by rw [C.eK]; exact h2, hz, fun z => absurd z n1, fun _ z => absurd z n2, fun _ _ p hp => q p _ hp (Ex.upd hp) upd_same⟩
/-- tuple(xs) of a list -/
theorem c_tupL {a : Addr} {xs : List V} (C : CxI P w K mg base k N Vz Sz G sc X) (h : SqL K H a xs) (q : ∀ p H2, H p = none → Ex H H2 → H2 p = some (.tup xs) → Q (.ref p) H2) : wC X (.type "tuple") [.ref a] H Q :=
  wC.of call_tuple_of ⟨a, xs, rfl, .inl ⟨by rw [C.eK]; exact h, fun p hp => q p _ hp (Ex.upd hp) upd_same⟩⟩
theorem putK_mem {κ : Type} [DecidableEq κ] {kvs : List (κ × V)} {k : κ} {v : V} {x : κ × V} (h : x ∈ putK kvs k v) : x = (k, v) ∨ x ∈ kvs := by
  unfold putK at h
  split at h
  · obtain ⟨y, hy, rfl⟩ := List.mem_map.mp h
    split
    · rename_i e; exact .inl (by rw [e])
    · exact .inr hy
  · rcases List.mem_append.mp h with h | h
    · exact .inr h
    · exact .inl (List.mem_singleton.mp h)
theorem putK_nodup {κ : Type} [DecidableEq κ] {kvs : List (κ × V)} {k : κ} {v : V} (h : (kvs.map (·.1)).Nodup) : ((putK kvs k v).map (·.1)).Nodup := by
  unfold putK
  split
  · have e : (kvs.map fun kv => if kv.1 = k then (kv.1, v) else kv).map (·.1) = kvs.map (·.1) := by
      rw [List.map_map]
      refine List.map_congr_left fun y _ => ?_
      show (if y.1 = k then (y.1, v) else y).1 = y.1
      split <;> rfl
    first | (rw [e]; exact h) | (simpa using h)
  · rename_i hn
    rw [List.map_append, List.nodup_append]
    refine ⟨h, by simp, fun a ha b hb => ?_⟩
    have eb : b = k := by simpa using hb
    rw [eb]
    rintro rfl
    obtain ⟨y, hy, ey⟩ := List.mem_map.mp ha
    exact hn (List.any_eq_true.mpr ⟨y, hy, by simpa using ey⟩)
end
theorem ex_paired {α β : Type} {R : α → β → Prop} : ∀ l : List α, (∀ x ∈ l, ∃ y, R x y) → ∃ ys, Paired R l ys
  | [], _ => ⟨[], .nil⟩
  | x :: l, h => by
    obtain ⟨y, hy⟩ := h x List.mem_cons_self
    obtain ⟨ys, hys⟩ := ex_paired l fun z hz => h z (List.mem_cons_of_mem _ hz)
    exact ⟨y :: ys, .cons hy hys⟩
section
variable {P : Program} {w : World} {K : PySem.W.Frag} {mg : Str → Option Value} {base : Heap} {k : Nat} {N Vc Sc' Gc : List Str} {scope : Scope} {c : Expr} {σ : L2.St} {H : Hp} {Q : Bool → Hp → Prop}
theorem blkT_nil (h : Q true H) : BlkT P w K mg base k N Vc Sc' Gc scope [] σ H Q := h
theorem blkT_one (h : ∀ X, CxI P w K mg base k N Vc Sc' Gc scope X → wT X c σ H Q) : BlkT P w K mg base k N Vc Sc' Gc scope [c] σ H Q := h
end
end Rp
namespace Rp
open PySem PySem.Spec PyProof.Rows L2
theorem eqv_ints : ∀ ns ms : List Int, PyData.eqvAll (ns.map PyData.int) (ms.map PyData.int) = decide (ns = ms)
  | [], [] => rfl
  | [], _ :: _ => rfl
  | _ :: _, [] => rfl
  | n :: ns, m :: ms => by
    show ((n == m) && PyData.eqvAll (ns.map PyData.int) (ms.map PyData.int)) = _
    rw [eqv_ints ns ms]
    by_cases h : n = m
    · subst h; simp
    · simp [h]
theorem lay_ints : ∀ ns : List Int, PyData.canLayAll0 (ns.map PyData.int) = true
  | [] => rfl
  | n :: ns => by show (true && PyData.canLayAll0 (ns.map PyData.int)) = true; rw [lay_ints ns]; rfl
theorem dep_ints : ∀ ns : List Int, PyData.depthAll (ns.map PyData.int) ≤ 1
  | [] => by decide
  | n :: ns => by
    have h := dep_ints ns
    show max (PyData.depth (.int n)) (PyData.depthAll (ns.map PyData.int)) ≤ 1
    have : PyData.depth (.int n) ≤ 1 := by first | exact Nat.le_refl _ | exact Nat.zero_le _ | simp [PyData.depth]
    omega
theorem shp_ints (ns : List Int) : SeqAt.shaped (.tuple (ns.map PyData.int)) = true := by
  refine Bool.and_eq_true_iff.mpr ⟨lay_ints ns, decide_eq_true ?_⟩
  have h := dep_ints ns
  have e : PyData.depth (.tuple (ns.map PyData.int)) ≤ PyData.depthAll (ns.map PyData.int) + 1 := by first | exact Nat.le_refl _ | (show 1 + _ ≤ _ + 1; omega) | simp [PyData.depth]
  omega
theorem shp_rows : ∀ nss : List (List Int), PyData.canLayAll0 (nss.map fun ns => PyData.tuple (ns.map PyData.int)) = true ∧ PyData.depthAll (nss.map fun ns => PyData.tuple (ns.map PyData.int)) ≤ 2
  | [] => ⟨rfl, by decide⟩
  | ns :: nss => by
    obtain ⟨h1, h2⟩ := shp_rows nss
    refine ⟨?_, ?_⟩
    · show (PyData.canLayAll0 (ns.map PyData.int) && _) = true
      rw [lay_ints ns, h1]
      rfl
    · have h := dep_ints ns
      have e : PyData.depth (.tuple (ns.map PyData.int)) ≤ PyData.depthAll (ns.map PyData.int) + 1 := by first | exact Nat.le_refl _ | (show 1 + _ ≤ _ + 1; omega) | simp [PyData.depth]
      show max (PyData.depth (.tuple (ns.map PyData.int))) _ ≤ 2
      omega
theorem shp_list (nss : List (List Int)) : SeqAt.shaped (.list (nss.map fun ns => PyData.tuple (ns.map PyData.int))) = true := by
  obtain ⟨h1, h2⟩ := shp_rows nss
  refine Bool.and_eq_true_iff.mpr ⟨h1, decide_eq_true ?_⟩
  have e : PyData.depth (.list (nss.map fun ns => PyData.tuple (ns.map PyData.int))) ≤ PyData.depthAll (nss.map fun ns => PyData.tuple (ns.map PyData.int)) + 1 := by first | exact Nat.le_refl _ | (show 1 + _ ≤ _ + 1; omega) | simp [PyData.depth]
  omega
section
variable {P : Program} {w : World} {K : PySem.W.Frag} {mg : Str → Option Value} {base : Heap} {k : Nat} {N Vz Sz G : List Str} {sc : Scope} {X : Cx} {σ : L2.St} {H : Hp} {Q : VK}
theorem dp_ints {a : Addr} {ns : List Int} (h : SqT K H a (ns.map V.int)) : Dp K H (.ref a) (.tuple (ns.map PyData.int)) := .tup h (dpa_ints ns)
theorem o_eqTI {a b : Addr} {ns ms : List Int} (C : CxI P w K mg base k N Vz Sz G sc X) (h1 : SqT K H a (ns.map V.int)) (h2 : SqT K H b (ms.map V.int)) (q : Q (.bl (decide (ns = ms))) H) : wO X (compareOp .Eq) (.ref a) (.ref b) H Q :=
  wO.of (op_eqD C.room.units) ⟨_, _, by rw [C.eK]; exact dp_ints h1, by rw [C.eK]; exact dp_ints h2, shp_ints ns, shp_ints ms, by
    show Q (.bl (PyData.eqvAll (ns.map PyData.int) (ms.map PyData.int))) H
    rw [eqv_ints]; exact q⟩
theorem o_neTI {a b : Addr} {ns ms : List Int} (C : CxI P w K mg base k N Vz Sz G sc X) (h1 : SqT K H a (ns.map V.int)) (h2 : SqT K H b (ms.map V.int)) (q : Q (.bl (!decide (ns = ms))) H) : wO X (compareOp .NotEq) (.ref a) (.ref b) H Q :=
  wO.of (op_neD C.room.units) ⟨_, _, by rw [C.eK]; exact dp_ints h1, by rw [C.eK]; exact dp_ints h2, shp_ints ns, shp_ints ms, by
    show Q (.bl (!PyData.eqvAll (ns.map PyData.int) (ms.map PyData.int))) H
    rw [eqv_ints]; exact q⟩
/-- xs != [] of a list of tuples of ints -/
theorem dpa_rows : ∀ {qs : List Addr} {nss : List (List Int)}, Paired (fun q ns => SqT K H q (ns.map V.int)) qs nss → DpAll K H (qs.map V.ref) (nss.map fun ns => PyData.tuple (ns.map PyData.int))
  | _, _, .nil => .nil
  | _, _, .cons z t => .cons (dp_ints z) (dpa_rows t)
theorem o_neNil {a b : Addr} {qs : List Addr} {nss : List (List Int)} (C : CxI P w K mg base k N Vz Sz G sc X) (h1 : SqL K H a (qs.map V.ref)) (pr : Paired (fun q ns => SqT K H q (ns.map V.int)) qs nss) (h2 : SqL K H b []) (q : Q (.bl (decide (nss ≠ []))) H) :
    wO X (compareOp .NotEq) (.ref a) (.ref b) H Q :=
  wO.of (op_neD C.room.units) ⟨_, _, by rw [C.eK]; exact .lst h1 (dpa_rows pr), by rw [C.eK]; exact .lst h2 .nil, shp_list nss, by decide, by
    have e : (!PyData.eqv (.list (nss.map fun ns => PyData.tuple (ns.map PyData.int))) (.list [])) = decide (nss ≠ []) := by
      cases nss with
      | nil => rfl
      | cons n ns => rfl
    rw [e]; exact q⟩
theorem o_catL {a b : Addr} {xs ys : List V} (h1 : H a = some (.lst xs)) (h2 : H b = some (.lst ys)) (hz : xs.length + ys.length ≤ sizeLine) (q : ∀ p H2, H p = none → Ex H H2 → H2 p = some (.lst (xs ++ ys)) → Q (.ref p) H2) : wO X (binaryOp .Add) (.ref a) (.ref b) H Q :=
  wO.of op_cat ⟨a, b, xs, ys, rfl, rfl, h1, h2, hz, fun p hp => q p _ hp (Ex.upd hp) upd_same⟩
/-- + of two tuples, the right one not empty -/
theorem o_catT0 {a b : Addr} {xs ys : List V} (C : CxI P w K mg base k N Vz Sz G sc X) (h1 : SqT K H a xs) (h2 : SqT K H b ys) (hz : xs.length + ys.length ≤ sizeLine) (n2 : ys ≠ []) (q : ∀ p H2, Ex H H2 → SqT K H2 p (xs ++ ys) → Q (.ref p) H2) :
    wO X (binaryOp .Add) (.ref a) (.ref b) H Q :=
  wO.of op_catA ⟨a, b, xs, ys, rfl, rfl, by rw [C.eK]; exact h1, by rw [C.eK]; exact h2, hz, fun z => q b H (Ex.refl H) (by rw [z]; exact h2), fun _ z => absurd z n2, fun _ _ p hp => q p _ (Ex.upd hp) (SqT.of upd_same)⟩
theorem c_minL {a : Addr} {ns : List Int} (C : CxI P w K mg base k N Vz Sz G sc X) (h : SqL K H a (ns.map V.int)) (h0 : 0 < ns.length) (q : ∀ m, m ∈ ns → (∀ y ∈ ns, m ≤ y) → Q (.int m) H) : wC X (.builtin "min") [.ref a] H Q :=
  wC.of (cr_min C.calm) ⟨a, ns, rfl, by rw [C.eK]; exact h, h0, q⟩
end
section
variable {P : Program} {w : World} {K : PySem.W.Frag} {mg : Str → Option Value} {base : Heap} {k : Nat} {N Vz Sz G : List Str} {sc : Scope} {X : Cx} {σ : L2.St} {H : Hp} {D : Ends} {tg a b c : Expr} {sts : List Stmt} {p1 p2 pos : Pos}
theorem rg_step {d : Int} (h0 : 0 ≤ d) (h1 : d < 4) : ∃ n : Nat, RgC 0 60 (1 + d) n ∧ ∀ i : Nat, i < n → 0 ≤ (0 : Int) + (i : Nat) * (1 + d) ∧ (0 : Int) + (i : Nat) * (1 + d) < 60 := by
  have : d = 0 ∨ d = 1 ∨ d = 2 ∨ d = 3 := by omega
  rcases this with rfl | rfl | rfl | rfl
  · exact ⟨60, ⟨by decide, by decide, by decide +kernel, by decide +kernel⟩, fun i hi => by omega⟩
  · exact ⟨30, ⟨by decide, by decide, by decide +kernel, by decide +kernel⟩, fun i hi => by omega⟩
  · exact ⟨20, ⟨by decide, by decide, by decide +kernel, by decide +kernel⟩, fun i hi => by omega⟩
  · exact ⟨15, ⟨by decide, by decide, by decide +kernel, by decide +kernel⟩, fun i hi => by omega⟩
def Rg3Q (vs : List V) (R : Int → Int → Nat → Prop) : Prop := ∃ i j c n, vs = [.int i, .int j, .int c] ∧ RgC i j c n ∧ R i c n
theorem wS_range3 (C : CxI P w K mg base k N Vz Sz G sc X) (hm : mg "range" = none) (hx : ("range" : Str) ∈ G) (hs : starEach [a, b, c] X.env = (false, eval a X.env) :: starEach [b, c] X.env) (hpl : (backTo p2 (starEach [b, c] X.env)).any (·.1) = false)
    (q : wA X [a, b, c] σ H fun vs H1 => Rg3Q vs fun lo st n => ∃ Pv : Nat → L2.St → Hp → Prop, Pv 0 σ H1 ∧ (∀ i σ H, i < n → Pv i σ H → wG X tg (.int (lo + (i : Nat) * st)) σ H fun σ2 H2 => wB X sts { D with nx := Pv (i + 1), ct := Pv (i + 1), bk := D.nx } σ2 H2) ∧ ∀ σ H, Pv n σ H → D.nx σ H) :
    wS X (.For tg (.Call (.Name "range" p1) [a, b, c] [] p2) sts [] pos) D σ H := by
  obtain ⟨l, _, _⟩ := C.glo hx
  refine wS.of (ps_for C.po C.calm (pi_range3 l (by rw [C.em]; exact hm) wA.pa hs hpl) wG.pg wB.pss (fun _ => rfl)) ?_
  show wA X [a, b, c] σ H _
  refine ⟨fun pos pins s I => thn (q.run pos pins s I) ?_⟩
  rintro u s1 ⟨vs, H1, I1, r1, i, j, cc, n, e, hr, Pv, h0, hs, hd⟩
  exact ⟨vs, H1, I1, r1, i, j, cc, n, e, hr, for_rangeC (lo := i) (c := cc) (n := n) Pv h0 hs hd⟩
end
end Rp
namespace Rp
open PySem PySem.Spec PyProof.Rows L2
/-! ### comparisons by an own method -/
/-- what the model calls the type of what stands for y -/
def TyV (X : Cx) (y : V) (H : Hp) (tb : Value) : Prop := ∀ (pins : List (Addr × Obj)) (σ : L2.St) (s : Shared) (u : Value), Inv X pins σ H s → RelV y u → PySem.W.Looks (model X.prog X.w) s.heap (typeOf u) tb
/-- a class's own method for a mark (two places) -/
structure Mo (P : Program) (w : World) (K : PySem.W.Frag) (mg : Str → Option Value) (base : Heap) (k : Nat) (C : Addr) (m : Str) (sp : Sp) : Prop where
  ex : ∃ f fd ps, FnOk P w K mg base CX0 k f fd ps sp ∧ PySem.W.findIn K (.ref C) m = some (some (.ref f)) ∧ PySem.W.isFn K (.ref f) = true ∧ Binds K fd ps []
section
variable {P : Program} {w : World} {K : PySem.W.Frag} {mg : Str → Option Value} {base : Heap} {k j : Nat} {N Vz Sz G : List Str} {sc : Scope} {X : Cx} {H : Hp} {Q : VK} {sp : Sp} {y : V} {tb : Value} {a c dx : Addr} {fs : List (Str × V)}
theorem ty_ins {b dy : Addr} {gs : List (Str × V)} {D : Addr} (h : H b = some (.ins D dy gs)) : TyV X (.ref b) H (.ref D) := fun pins σ s u I r => by
  obtain rfl : u = Value.ref b := r
  obtain ⟨mB, J, _⟩ := ins_get I.hok h
  obtain ⟨od, J, _⟩ := J.look
  exact J.type
theorem ty_int {n : Int} : TyV X (.int n) H (.type "int") := fun pins σ s u I r => by
  obtain ⟨t, rfl⟩ := r
  exact .now
theorem ty_str {z : Str} : TyV X (.str z) H (.type "str") := fun pins σ s u I r => by
  obtain ⟨t, rfl⟩ := r
  exact .now
theorem ty_non : TyV X .non H (.type "NoneType") := fun pins σ s u I r => by
  obtain rfl : u = Value.none := r
  exact .now
theorem ty_bl {b : Bool} : TyV X (.bl b) H (.type "bool") := fun pins σ s u I r => by
  obtain rfl : u = Value.bool b := r
  exact .now
theorem ty_at {p : Addr} {o : Obj} {T : Value} {s : Shared} {M : Model} (h : s.heap.get? p = some o) (e : o.cls = T) : PySem.W.Looks M s.heap (typeOf (.ref p)) T := fun A R E s' k z => wpAny_typeOf_ref (k _ _ h) (by rw [e]; exact z)
theorem ty_lst {p : Addr} {xs : List V} (h : H p = some (.lst xs)) : TyV X (.ref p) H (.type "list") := fun pins σ s u I r => by
  obtain rfl : u = Value.ref p := r
  obtain ⟨_, its, n, _, e⟩ := (show ObjOk X.prog X.w H s.heap p (.lst xs) from I.hok p _ h)
  exact ty_at e rfl
theorem ty_tup {p : Addr} {xs : List V} (h : H p = some (.tup xs)) : TyV X (.ref p) H (.type "tuple") := fun pins σ s u I r => by
  obtain rfl : u = Value.ref p := r
  obtain ⟨_, its, _, o, ho, hc, _⟩ := (show ObjOk X.prog X.w H s.heap p (.tup xs) from I.hok p _ h)
  exact ty_at ho hc
theorem o_own {op : CmpOp} (C : CxI P w K mg base k N Vz Sz G sc X) (M : Mo P w K mg base j c (cmpInfo op).2.1 sp) (hj : j ≤ k) (h : H a = some (.ins c dx fs)) (ty : TyV X y H tb) (nf : PySem.W.notFirst K c tb = true)
    (hop : ∀ (v u : Value) (Q : Value → Shared → Prop) (E : Value → Shared → Prop) (s : Shared), wpAny (model X.prog X.w) X.A (richCompare op v u) Q E s → wpAny (model X.prog X.w) X.A (compareOp op v u) Q E s)
    (q : sp [.ref a, y] H (fun v H' => ∃ b : Bool, v = .bl b ∧ Q (.bl b) H') E0) : wO X (compareOp op) (.ref a) y H Q := by
  obtain ⟨f, fd, ps, Fk, hs, hf, hb⟩ := M.ex
  obtain ⟨rfl, rfl, rfl, rfl, rfl, _, _, hr, _, _, _, _, _⟩ := C
  refine ⟨fun pins s σ v u I rx ry => hop _ _ _ _ _ ?_⟩
  obtain rfl : v = Value.ref a := rx
  obtain ⟨mA, J, _⟩ := ins_get I.hok h
  obtain ⟨od, J, _⟩ := J.look
  obtain ⟨m, hF⟩ := I.fr
  have hr' := hr.mono hj
  refine PySem.W.cmp_K (op := op) (tb := tb) hr'.units0 hF I.ok.mod.kin J (ty pins σ s u I ry) nf hs hf ?_
  have hl := Fk.len _ _ _ _ q
  have r2 : Vals [V.ref a, y] [Value.ref a, u] := .cons rfl (.cons ry .nil)
  refine wpAny_call (codeAny_mono (Fk.run X.A X.stack s H ⟨[.ref a, u], []⟩ [.ref a, u] [.ref a, y] _ E0 hr' I.env0 (by
    have z := hb s [.ref a, u] I.kIn (by simpa using hl)
    simpa using z) r2 q) fun r s' hq => ?_)
  cases r with
  | error e => exact pass0 pins σ H s e s' I hq
  | ok fl =>
    cases fl with
    | ret w =>
      obtain ⟨z, H', I', rz, b, ez, q'⟩ := I.after hq
      subst ez
      cases rz
      exact ⟨.bl b, H', I', rfl, q'⟩
    | next => exact False.elim hq
    | brk => exact False.elim hq
    | cont => exact False.elim hq
/-- one == y by the own __eq__ -/
theorem o_eqOwn (C : CxI P w K mg base k N Vz Sz G sc X) (M : Mo P w K mg base j c "__eq__" sp) (hj : j ≤ k) (h : H a = some (.ins c dx fs)) (ty : TyV X y H tb) (nf : PySem.W.notFirst K c tb = true)
    (q : sp [.ref a, y] H (fun v H' => ∃ b : Bool, v = .bl b ∧ Q (.bl b) H') E0) : wO X (compareOp .Eq) (.ref a) y H Q :=
  o_own (op := .Eq) C M hj h ty nf (fun _ _ _ _ _ h => h) q
end
end Rp
namespace Rp
open PySem PySem.Spec PyProof.Rows L2
/-! ### texts of several parts -/
structure wJ (X : Cx) (es : List Expr) (acc : Str) (σ : L2.St) (H : Hp) (Q : Str → Hp → Prop) : Prop where
  h : tJs (es.map fun e => wE X e) acc σ H Q
section
variable {P : Program} {w : World} {K : PySem.W.Frag} {mg : Str → Option Value} {base : Heap} {k j : Nat} {N Vz Sz G : List Str} {sc : Scope} {X : Cx} {σ : L2.St} {H : Hp} {Q : VK} {QJ : Str → Hp → Prop} {e o v1 v2 : Expr} {es rest : List Expr} {acc : Str} {pos apos : Pos}
theorem pj_all : ∀ es : List Expr, PJ X es (es.map fun e => wE X e)
  | [] => .nil
  | _ :: es => .cons wE.pe (pj_all es)
theorem wE_joined (q : wJ X (v1 :: v2 :: rest) Str.empty σ H fun out H1 => Q (.str out) H1) : wE X (.JoinedStr (v1 :: v2 :: rest) pos) σ H Q := wE.of (pe_joined (pj_all _)) q.h
theorem wE_joined1 (q : wE X e σ H Q) : wE X (.JoinedStr [e] pos) σ H Q := wE.of (pe_joined1 wE.pe) q
def JnQ (x : V) (acc : Str) (R : Str → Prop) : Prop := ∃ y : Str, x = .str y ∧ (acc ++ y).length ≤ sizeLine ∧ R (acc ++ y)
theorem wJ_cons (q : wE X e σ H fun x H1 => JnQ x acc fun a2 => wJ X es a2 σ H1 QJ) : wJ X (e :: es) acc σ H QJ :=
  ⟨⟨fun pins s I => thn (q.run pins s I) fun u s1 ⟨x, H1, I1, r1, y, ex, hy, z⟩ => ⟨x, H1, I1, r1, y, ex, hy, z.h⟩⟩⟩
theorem wJ_nil (q : QJ acc H) : wJ X [] acc σ H QJ := ⟨q⟩
theorem jn_i {y : Str} {R : Str → Prop} (h : (acc ++ y).length ≤ sizeLine) (q : R (acc ++ y)) : JnQ (.str y) acc R := ⟨y, rfl, h, q⟩
def FmQ (x : V) (H : Hp) (Q : VK) : Prop := (∃ y : Str, x = .str y ∧ y.length ≤ sizeLine ∧ Q (.str y) H) ∨ ∃ i : Int, x = .int i ∧ i.natAbs.log2 < 1920 ∧ Q (.str (toString i)) H
theorem wE_fmt (q : wE X e σ H fun x H1 => FmQ x H1 Q) : wE X (.FormattedValue e (-1) none pos) σ H Q := wE.of (pe_fmt wE.pe) q
theorem fm_s {y : Str} (h : y.length ≤ sizeLine) (q : Q (.str y) H) : FmQ (.str y) H Q := .inl ⟨y, rfl, h, q⟩
theorem fm_i {i : Int} (h : i.natAbs.log2 < 1920) (q : Q (.str (toString i)) H) : FmQ (.int i) H Q := .inr ⟨i, rfl, h, q⟩
theorem c_reprI {i : Int} (h : i.natAbs.log2 < 1920) (q : Q (.str (toString i)) H) : wC X (.builtin "repr") [.int i] H Q := wC.of SkE.call_repr_int ⟨i, rfl, h, q⟩
theorem c_reprS {y : Str} (h : (reprText y).length ≤ sizeLine) (q : Q (.str (reprText y)) H) : wC X (.builtin "repr") [.str y] H Q := by
  refine ⟨fun pins s σ us I r => ?_⟩
  obtain ⟨u, rfl, t, rfl⟩ := Vals.one r
  exact PySem.P.repr_of_str ⟨.str (reprText y), H, I.tok _, ⟨_, rfl⟩, q⟩ h
theorem c_strI {i : Int} (h : i.natAbs.log2 < 1920) (q : Q (.str (toString i)) H) : wC X (.type "str") [.int i] H Q := wC.of call_str_int ⟨i, rfl, h, q⟩
/-- s.join(a list of texts) -/
def JoQ (x : V) (R : Str → Prop) : Prop := ∃ a, x = .str a ∧ R a
theorem wE_join (hs : starEach [e] X.env = [(false, eval e X.env)]) (hbase : attributeBase o "join" X.env (eval o X.env) = eval o X.env) (hline : (apos.endLine == pos.line) = true)
    (q : wE X o σ H fun x H1 => JoQ x fun a => wE X e σ H1 fun y H2 => ∃ p, ∃ ys : List Str, y = .ref p ∧ (SqL X.K H2 p (ys.map V.str) ∨ SqT X.K H2 p (ys.map V.str)) ∧ (ys.map (·.length)).sum + ys.length * a.length ≤ 16777216 ∧ Q (.str (Txt.join a ys)) H2) :
    wE X (.Call (.Attribute o "join" apos) [e] [] pos) σ H Q := by
  refine wE.of (pe_join wE.pe wE.pe hs hbase hline) ?_
  refine ⟨fun pins s I => thn (q.run pins s I) fun u s1 ⟨x, H1, I1, r1, a, ex, z⟩ => ⟨x, H1, I1, r1, ⟨a, ex⟩, ?_⟩⟩
  refine ⟨fun pins2 s2 I2 => thn (z.run pins2 s2 I2) fun u2 s3 ⟨y, H2, I3, r2, p, ys, ey, h1, h2, h3⟩ => ⟨y, H2, I3, r2, a, p, ys, ex, by rw [ey], h1, h2, h3⟩⟩
/-- xs.append(e) -/
theorem wE_append (hbase : attributeBase o "append" X.env (eval o X.env) = eval o X.env)
    (hfew : ((backTo pos (starEach [e] X.env)).all (fun x => !x.1) && (backToKw pos (keywordEach [] X.env)).all (fun x => x.1.isSome) && decide ([e].length + ([] : List Keyword).length + (if ([] : List Keyword).isEmpty then 0 else 1) < 30)) = true)
    (hline : (apos.endLine == pos.line) = true) (hs : starEach [e] X.env = (false, eval e X.env) :: starEach [] X.env) (hplain : (backTo pos (starEach [] X.env)).any (·.1) = false)
    (q : wE X o σ H fun x H1 => ∃ l xs, x = .ref l ∧ H1 l = some (.lst xs) ∧ wE X e σ H1 fun y H2 => H2 l = some (.lst xs) ∧ xs.length < sizeLine ∧ ∀ H3, Exb l H2 H3 → H3 l = some (.lst (xs ++ [y])) → Q .non H3) :
    wE X (.Call (.Attribute o "append" apos) [e] [] pos) σ H Q := by
  refine wE.of (pe_bm (T := "list") F.plainAttrs_list F.slot_list_append F.type_list_append mt_append wE.pe wA.pa hbase hfew hline hs hplain) ?_
  refine ⟨fun pins s I => thn (q.run pins s I) fun u s1 ⟨x, H1, I1, r1, l, xs, ex, hl, z⟩ => ⟨x, H1, I1, r1, ?_, ?_⟩⟩
  · subst ex
    exact .inl ⟨rfl, _, SqL.of hl⟩
  · refine wA_cons hs ?_
    refine ⟨fun pins2 s2 I2 => thn (z.run pins2 s2 I2) fun u2 s3 ⟨y, H2, I3, r2, h1, h2, h3⟩ => ⟨y, H2, I3, r2, ?_⟩⟩
    exact wA_nil ⟨l, xs, y, ex, rfl, h1, h2, h3 _ Exb.upd upd_same⟩
end
end Rp
namespace Rp
open PySem PySem.Spec PyProof.Rows L2
/-! ### != by an own __eq__ -/
section
variable {M : Model} {prog : Program} {w : World} {A : Around} {E : Value → Shared → Prop} {s : Shared} {K : PySem.W.Frag} {x C f : Addr} {u tb : Value} {ox : Obj} {od : Option Obj}
theorem ne_entry {Q : Fin → Shared → Prop} (hu : A.units < cLine) (X : K.In s.heap) (I : PySem.W.InstAt s.heap x ox C od) (hs : PySem.W.findIn K (.ref C) "__eq__" = some (some (.ref f))) (hf : PySem.W.isFn K (.ref f) = true)
    (hc : wpAny M A (call (.ref f) [.ref x, u]) (fun v s' => ∃ b : Bool, v = .bool b ∧ Q (.done (.ret (.bool (!b)))) s') E s) : wpAny M A (Builtin.«object.__ne__» ⟨[.ref x, u], []⟩) Q E s := by
  unfold Builtin.«object.__ne__»
  repeat (first
    | with_reducible refine wpAny_cRoomFor hu ?_
    | (refine wpAny_bind (m := callSpecialIfBound? (.ref x) (Str.ofString "__eq__") [u]) (PySem.W.ifBound_K X I hs hf (wpAny_mono hc (fun v s' z => ?_) fun _ _ e => e)); obtain ⟨b, rfl, z⟩ := z)
    | with_reducible refine wpAny_truthy_bool ?_
    | wp_step)
  all_goals exact z
theorem ne_call {Q : Value → Shared → Prop} (hu : A.in1.units < cLine) (X : K.In s.heap) (I : PySem.W.InstAt s.heap x ox C od) (hm : PySem.W.mroIn K C (.type "object") = some true) (hs : PySem.W.findIn K (.ref C) "__eq__" = some (some (.ref f)))
    (hf : PySem.W.isFn K (.ref f) = true) (hc : wpAny (model prog w) A.in1 (call (.ref f) [.ref x, u]) (fun v s' => ∃ b : Bool, v = .bool b ∧ Q (.bool (!b)) s') E s) : wpAny (model prog w) A (call (.builtin "object.__ne__") [.ref x, u]) Q E s :=
  wpAny_call (codeAny_call_builtin F.cmp_object.ne.plain F.cmpEntry_ne (PySem.W.check_slot F.cmpKind_ne F.cmpSplit_ne (I.type.andThen (PySem.W.looks_mroIn X hm)) (F.cmpArgs_ne _ _) (ne_entry hu X I hs hf hc)))
theorem ne_bound {args : List Value} {Q : Option Value → Shared → Prop} (X : K.In s.heap) (I : PySem.W.InstAt s.heap x ox C od) (hs : PySem.W.findIn K (.ref C) "__ne__" = some (some (.builtin "object.__ne__")))
    (h : wpAny M A (call (.builtin "object.__ne__") (.ref x :: args)) (fun v => Q (some v)) E s) : wpAny M A (callSpecialIfBound? (.ref x) "__ne__" args) Q E s := by
  simp only [callSpecialIfBound?, bindSpecialIfBound?]
  refine wpAny_holding (wpAny_bind (wpAny_bind (wpAny_bind (I.type.here ((PySem.W.looks_findIn X hs).here ?_)))))
  refine wpAny_bind (wpAny_askSetting (wpAny_ite ?_))
  have last : wpAny M A (call (.builtin "object.__ne__") ([.ref x] ++ args) >>= fun v => pure (some v)) Q E s := wpAny_bind (wpAny_mono h (fun v s' q => wpAny_pure q) fun _ _ q => q)
  split
  · exact wpAny_bind (wpAny_of_eq (F.cmp_object.ne.bind _) (wpAny_pure (by exact last)))
  · exact wpAny_tryCatch (wpAny_bind (wpAny_of_eq (F.cmp_object.ne.bind _) (wpAny_pure (by exact last))))
theorem ne_rich {Q : Value → Shared → Prop} (hu : A.units + 1 < cLine) (X : K.In s.heap) (I : PySem.W.InstAt s.heap x ox C od) (hb : PySem.W.Looks (model prog w) s.heap (typeOf u) tb) (hn : PySem.W.notFirst K C tb = true)
    (hm : PySem.W.mroIn K C (.type "object") = some true) (hne : PySem.W.findIn K (.ref C) "__ne__" = some (some (.builtin "object.__ne__"))) (hs : PySem.W.findIn K (.ref C) "__eq__" = some (some (.ref f))) (hf : PySem.W.isFn K (.ref f) = true)
    (hc : wpAny (model prog w) A.in1 (call (.ref f) [.ref x, u]) (fun v s' => ∃ b : Bool, v = .bool b ∧ Q (.bool (!b)) s') E s) : wpAny (model prog w) A (richCompare .NotEq (.ref x) u) Q E s := by
  have one : wpAny (model prog w) A (tryCompare (.ref x) "__ne__" u) (fun r s' => ∃ b : Bool, r = some (.bool (!b)) ∧ Q (.bool (!b)) s') E s := by
    unfold tryCompare
    refine wpAny_bind (ne_bound X I hne (ne_call (show A.in1.units < cLine from hu) X I hm hs hf (wpAny_mono hc (fun v s' z => ?_) fun _ _ e => e)))
    obtain ⟨b, e, z⟩ := z
    exact ⟨b, e, wpAny_pure ⟨b, rfl, z⟩⟩
  unfold richCompare
  simp only [oneThing_ref]
  refine wpAny_holding (wpAny_bind (wpAny_cRoomFor (Nat.lt_of_succ_lt hu) ?_))
  rw [cmpInfo_NotEq]
  dsimp only
  refine wpAny_bind (I.type.here (wpAny_bind (hb.here ?_)))
  split
  · rename_i q
    have e : PySem.W.subIn K tb (.ref C) = some false := by
      rcases Bool.or_eq_true_iff.mp hn with e | e
      · rw [beq_iff_eq.mp e] at q
        simp at q
      · exact beq_iff_eq.mp e
    refine wpAny_bind ((PySem.W.looks_subIn X e).here ?_)
    simp only [Bool.false_eq_true, if_false]
    refine wpAny_bind (wpAny_mono one (fun r s' z => ?_) fun _ _ e => e)
    obtain ⟨b, rfl, hq⟩ := z
    exact wpAny_pure hq
  · refine wpAny_bind (wpAny_pure ?_)
    simp only [Bool.false_eq_true, if_false]
    refine wpAny_bind (wpAny_mono one (fun r s' z => ?_) fun _ _ e => e)
    obtain ⟨b, rfl, hq⟩ := z
    exact wpAny_pure hq
end
section
variable {P : Program} {w : World} {K : PySem.W.Frag} {mg : Str → Option Value} {base : Heap} {k j : Nat} {N Vz Sz G : List Str} {sc : Scope} {X : Cx} {H : Hp} {Q : VK} {sp : Sp} {y : V} {tb : Value} {a c dx : Addr} {fs : List (Str × V)}
/-- one != y by the own __eq__ -/
theorem o_neOwn (C : CxI P w K mg base k N Vz Sz G sc X) (M : Mo P w K mg base j c "__eq__" sp) (hj : j + 1 ≤ k) (hm : PySem.W.mroIn K c (.type "object") = some true) (hne : PySem.W.findIn K (.ref c) "__ne__" = some (some (.builtin "object.__ne__")))
    (h : H a = some (.ins c dx fs)) (ty : TyV X y H tb) (nf : PySem.W.notFirst K c tb = true) (q : sp [.ref a, y] H (fun v H' => ∃ b : Bool, v = .bl b ∧ Q (.bl (!b)) H') E0) : wO X (compareOp .NotEq) (.ref a) y H Q := by
  obtain ⟨f, fd, ps, Fk, hs, hf, hb⟩ := M.ex
  obtain ⟨rfl, rfl, rfl, rfl, rfl, _, _, hr, _, _, _, _, _⟩ := C
  refine ⟨fun pins s σ v u I rx ry => ?_⟩
  obtain rfl : v = Value.ref a := rx
  obtain ⟨mA, J, _⟩ := ins_get I.hok h
  obtain ⟨od, J, _⟩ := J.look
  have hr' : Room j X.A.in1 := Room.in1 (hr.mono hj)
  show wpAny (model X.prog X.w) X.A (richCompare .NotEq (.ref a) u) (EP X pins σ Q) X.xe s
  refine ne_rich (tb := tb) hr'.units0 I.kIn J (ty pins σ s u I ry) nf hm hne hs hf ?_
  have hl := Fk.len _ _ _ _ q
  have r2 : Vals [V.ref a, y] [Value.ref a, u] := .cons rfl (.cons ry .nil)
  have e0 : Env0 X.prog X.w X.K X.mg X.base X.A.in1 X.stack s H := by
    have e := I.env0
    exact ⟨e.frames, e.mod, e.bs, e.bsz, e.funs, e.frf, e.hok, e.bare⟩
  refine wpAny_call (codeAny_mono (Fk.run X.A.in1 X.stack s H ⟨[.ref a, u], []⟩ [.ref a, u] [.ref a, y] _ E0 hr' e0 (by
    have z := hb s [.ref a, u] I.kIn (by simpa using hl)
    simpa using z) r2 q) fun r s' hq => ?_)
  cases r with
  | error e => exact pass0 pins σ H s e s' I hq
  | ok fl =>
    cases fl with
    | ret w =>
      obtain ⟨z, H', I', rz, b, ez, q'⟩ := I.after hq
      subst ez
      cases rz
      exact ⟨b, rfl, .bl (!b), H', I', rfl, q'⟩
    | next => exact False.elim hq
    | brk => exact False.elim hq
    | cont => exact False.elim hq
end
end Rp
namespace Rp
open PySem PySem.Spec PyProof.Rows L2
/-! ### thing == one, where thing is of a built-in type: one's own __eq__ is asked second -/
section
variable {prog : Program} {w : World} {A : Around} {E : Value → Shared → Prop} {s : Shared} {K : PySem.W.Frag} {x C f : Addr} {u : Value} {T : String} {ox : Obj} {od : Option Obj}
theorem rc_back {Q : Value → Shared → Prop} (hu : A.units < cLine) (X : K.In s.heap) (I : PySem.W.InstAt s.heap x ox C od) (hT : s.TypeIs u T) (hsub : PySem.W.subIn K (.ref C) (.type T) = some false) (hone : oneThing? .Eq u (.ref x) = none)
    (dec : ∀ E' : Value → Shared → Prop, wpAny (model prog w) A (tryCompare u "__eq__" (.ref x)) (fun r s' => r = none ∧ s' = s) E' s) (hs : PySem.W.findIn K (.ref C) "__eq__" = some (some (.ref f))) (hf : PySem.W.isFn K (.ref f) = true)
    (hc : wpAny (model prog w) A (call (.ref f) [.ref x, u]) (PySem.W.CmpBack Q) E s) : wpAny (model prog w) A (richCompare .Eq u (.ref x)) Q E s := by
  have two : wpAny (model prog w) A (tryCompare (.ref x) "__eq__" u) (fun r s' => ∃ v, r = some v ∧ Q v s') E s := by
    unfold tryCompare
    refine wpAny_bind (PySem.W.ifBound_K X I hs hf (wpAny_mono hc (fun v s' hv => ?_) fun _ _ e => e))
    cases v <;> first | exact hv.elim | exact wpAny_pure ⟨_, rfl, hv⟩
  simp only [richCompare, cmpInfo_Eq, hone]
  refine wpAny_holding (wpAny_bind (wpAny_cRoomFor hu ?_))
  refine wpAny_bind (wpAny_typeOf hT ?_)
  refine wpAny_bind (I.type.here ?_)
  have hne : (Value.type T != Value.ref C) = true := by simp
  rw [hne]
  simp only [if_true]
  refine wpAny_bind ((PySem.W.looks_subIn X hsub).here ?_)
  simp only [Bool.false_eq_true, if_false, Bool.not_false, if_true]
  refine wpAny_bind (m := tryCompare u _ (.ref x)) (wpAny_mono (dec E) (fun r s1 z => ?_) fun _ _ e => e)
  obtain ⟨z1, z2⟩ := z
  subst z1
  subst z2
  refine wpAny_bind (m := tryCompare (.ref x) _ u) (wpAny_mono two (fun r s2 z => ?_) fun _ _ e => e)
  obtain ⟨v, rfl, hq⟩ := z
  exact wpAny_pure hq
end
end Rp
namespace Rp
open PySem PySem.Spec PyProof.Rows L2
section
variable {prog : Program} {w : World} {A : Around} {E : Value → Shared → Prop} {s : Shared} {x C dx : Addr}
theorem dec_non : wpAny (model prog w) A (tryCompare .none "__eq__" (.ref x)) (fun r s' => r = none ∧ s' = s) E s :=
  wpAny_tryCompare_declines (show s.TypeIs .none "NoneType" from rfl) F.slot_NoneType_eq_refl (call_gives F.slot_NoneType_eq_refl rfl F.entry_NoneType_eq (F.args_NoneType_eq_2 _ _) (PySem.SeqAt.NoneType___eq___none_ref_0 x) ⟨rfl, rfl, rfl⟩)
theorem int_dec (b : Int) (u : Tok) : Meets (Builtin.«int.__eq__» ⟨[.int b u, .ref x], []⟩) (fun _ R s => s.heap.get? x = some (PySem.W.instObj C dx) ∧ R (.ok (.ret .notImplemented)) s) :=
  .of_wp fun prog w A R s h => by
    obtain ⟨hp, g, d, tk, os⟩ := s
    obtain ⟨hl, h⟩ := h
    wp_walk using wpAny_loadPart' hl, wpAny_load hl
    exact ⟨_, rfl, h⟩
theorem bool_dec (b : Bool) : Meets (Builtin.«int.__eq__» ⟨[.bool b, .ref x], []⟩) (fun _ R s => s.heap.get? x = some (PySem.W.instObj C dx) ∧ R (.ok (.ret .notImplemented)) s) :=
  .of_wp fun prog w A R s h => by
    obtain ⟨hp, g, d, tk, os⟩ := s
    obtain ⟨hl, h⟩ := h
    wp_walk using wpAny_loadPart' hl, wpAny_load hl
    exact ⟨_, rfl, h⟩
theorem str_dec (b : Str) (u : Tok) : Meets (Builtin.«str.__eq__» ⟨[.str b u, .ref x], []⟩) (fun _ R s => s.heap.get? x = some (PySem.W.instObj C dx) ∧ R (.ok (.ret .notImplemented)) s) :=
  .of_wp fun prog w A R s h => by
    obtain ⟨hp, g, d, tk, os⟩ := s
    obtain ⟨hl, h⟩ := h
    wp_walk using wpAny_loadPart' hl, wpAny_load hl
    exact ⟨_, rfl, h⟩
theorem dec_int (hx : s.heap.get? x = some (PySem.W.instObj C dx)) (b : Int) (u : Tok) : wpAny (model prog w) A (tryCompare (.int b u) "__eq__" (.ref x)) (fun r s' => r = none ∧ s' = s) E s :=
  wpAny_tryCompare_declines (typeIs_int s b u) F.slot_int_eq (call_meets F.slot_int_eq (typeIs_int s b u) F.entry_int_eq (F.args_int_eq_2 _ _) (int_dec (C := C) (dx := dx) b u) ⟨hx, rfl, rfl, rfl⟩)
theorem dec_str (hx : s.heap.get? x = some (PySem.W.instObj C dx)) (b : Str) (u : Tok) : wpAny (model prog w) A (tryCompare (.str b u) "__eq__" (.ref x)) (fun r s' => r = none ∧ s' = s) E s :=
  wpAny_tryCompare_declines (typeIs_str s b u) F.slot_str_eq (call_meets F.slot_str_eq (typeIs_str s b u) F.entry_str_eq (F.args_str_eq_2 _ _) (str_dec (C := C) (dx := dx) b u) ⟨hx, rfl, rfl, rfl⟩)
theorem dec_bl (hx : s.heap.get? x = some (PySem.W.instObj C dx)) (b : Bool) : wpAny (model prog w) A (tryCompare (.bool b) "__eq__" (.ref x)) (fun r s' => r = none ∧ s' = s) E s :=
  wpAny_tryCompare_declines (show s.TypeIs (.bool b) "bool" from rfl) F.slot_bool_eq (call_meets F.slot_bool_eq (show s.TypeIs (.bool b) "bool" from rfl) F.entry_int_eq (F.args_int_eq_2 _ _) (bool_dec (C := C) (dx := dx) b) ⟨hx, rfl, rfl, rfl⟩)
theorem lst_dec {K : PySem.W.Frag} {l : Addr} (items : Array Value) (n : Nat) (hs : PySem.W.subIn K (.ref C) (.type "list") = some false) : Meets (Builtin.«list.__eq__» ⟨[.ref l, .ref x], []⟩) (fun _ R s => K.In s.heap ∧ s.heap.get? l = some { cls := .type "list", data := .seq items n } ∧ s.heap.get? x = some (PySem.W.instObj C dx) ∧ R (.ok (.ret .notImplemented)) s) :=
  .of_wp fun prog w A R s h => by
    obtain ⟨hp, g, d, tk, os⟩ := s
    obtain ⟨X, hl, hx, h⟩ := h
    unfold Builtin.«list.__eq__»
    repeat (first | with_reducible refine wpAny_loadPart' hl ?_ | with_reducible refine wpAny_loadPart' hx ?_ | with_reducible refine (PySem.W.looks_subIn X hs).here ?_ | wp_step)
    all_goals exact ⟨_, rfl, h⟩
theorem tup_dec {K : PySem.W.Frag} {l : Addr} {o : Obj} (hs : PySem.W.subIn K (.ref C) (.type "tuple") = some false) : Meets (Builtin.«tuple.__eq__» ⟨[.ref l, .ref x], []⟩) (fun _ R s => K.In s.heap ∧ s.heap.get? l = some o ∧ s.heap.get? x = some (PySem.W.instObj C dx) ∧ R (.ok (.ret .notImplemented)) s) :=
  .of_wp fun prog w A R s h => by
    obtain ⟨hp, g, d, tk, os⟩ := s
    obtain ⟨X, hl, hx, h⟩ := h
    unfold Builtin.«tuple.__eq__»
    repeat (first | with_reducible refine wpAny_loadPart' hl ?_ | with_reducible refine wpAny_loadPart' hx ?_ | with_reducible refine (PySem.W.looks_subIn X hs).here ?_ | wp_step)
    all_goals exact ⟨_, rfl, h⟩
theorem dec_lst {K : PySem.W.Frag} {l : Addr} {items : Array Value} {n : Nat} (X : K.In s.heap) (hs : PySem.W.subIn K (.ref C) (.type "list") = some false) (hl : s.heap.get? l = some { cls := .type "list", data := .seq items n }) (hx : s.heap.get? x = some (PySem.W.instObj C dx)) :
    wpAny (model prog w) A (tryCompare (.ref l) "__eq__" (.ref x)) (fun r s' => r = none ∧ s' = s) E s :=
  wpAny_tryCompare_declines (show s.TypeIs (.ref l) "list" from ⟨_, hl, rfl⟩) F.slot_list_eq (call_meets F.slot_list_eq (show s.TypeIs (.ref l) "list" from ⟨_, hl, rfl⟩) F.entry_list_eq (F.args_list_eq_2 _ _) (lst_dec (K := K) (C := C) (dx := dx) items n hs) ⟨X, hl, hx, rfl, rfl, rfl⟩)
theorem dec_tup {K : PySem.W.Frag} {l : Addr} {o : Obj} (X : K.In s.heap) (hs : PySem.W.subIn K (.ref C) (.type "tuple") = some false) (hl : s.heap.get? l = some o) (ht : o.cls = .type "tuple") (hx : s.heap.get? x = some (PySem.W.instObj C dx)) :
    wpAny (model prog w) A (tryCompare (.ref l) "__eq__" (.ref x)) (fun r s' => r = none ∧ s' = s) E s :=
  wpAny_tryCompare_declines (show s.TypeIs (.ref l) "tuple" from ⟨_, hl, ht⟩) F.slot_tuple_eq (call_meets F.slot_tuple_eq (show s.TypeIs (.ref l) "tuple" from ⟨_, hl, ht⟩) F.entry_tuple_eq (F.args_tuple_eq_2 _ _) (tup_dec (K := K) (C := C) (dx := dx) (o := o) hs) ⟨X, hl, hx, rfl, rfl, rfl⟩)
theorem dct_dec {K : PySem.W.Frag} {l : Addr} {es : Array DictEntry} {n : Nat} {o : Obj} (hd : o.data = .dict es n) (ho : o.cls = .type "dict") (hs : PySem.W.subIn K (.ref C) (.type "dict") = some false) :
    Meets (Builtin.«dict.__eq__» ⟨[.ref l, .ref x], []⟩) (fun _ R s => K.In s.heap ∧ s.heap.get? l = some o ∧ s.heap.get? x = some (PySem.W.instObj C dx) ∧ R (.ok (.ret .notImplemented)) s) :=
  .of_wp fun prog w A R s h => by
    obtain ⟨hp, g, d, tk, os⟩ := s
    obtain ⟨X, hl, hx, h⟩ := h
    unfold Builtin.«dict.__eq__»
    repeat (first | with_reducible refine wpAny_loadPart' hl ?_ | with_reducible refine wpAny_loadPart' hx ?_ | with_reducible refine (PySem.W.looks_subIn X hs).here ?_ | wp_step)
    all_goals exact ⟨_, rfl, h⟩
theorem dec_dct {K : PySem.W.Frag} {l : Addr} {es : Array DictEntry} {n : Nat} {o : Obj} (X : K.In s.heap) (hd : o.data = .dict es n) (ho : o.cls = .type "dict") (hs : PySem.W.subIn K (.ref C) (.type "dict") = some false) (hl : s.heap.get? l = some o) (hx : s.heap.get? x = some (PySem.W.instObj C dx)) :
    wpAny (model prog w) A (tryCompare (.ref l) "__eq__" (.ref x)) (fun r s' => r = none ∧ s' = s) E s :=
  wpAny_tryCompare_declines (show s.TypeIs (.ref l) "dict" from ⟨_, hl, ho⟩) F.slot_dict_eq (call_meets F.slot_dict_eq (show s.TypeIs (.ref l) "dict" from ⟨_, hl, ho⟩) F.entry_dict_eq (F.args_dict_eq_2 _ _) (dct_dec (K := K) (C := C) (dx := dx) hd ho hs) ⟨X, hl, hx, rfl, rfl, rfl⟩)
end
end Rp
namespace Rp
open PySem PySem.Spec PyProof.Rows L2
/-- a thing of a built-in type whose own == declines -/
inductive Thg (H : Hp) : V → String → Prop where
  | non : Thg H .non "NoneType"
  | bl (b : Bool) : Thg H (.bl b) "bool"
  | int (i : Int) : Thg H (.int i) "int"
  | str (z : Str) : Thg H (.str z) "str"
  | lst {p : Addr} {xs : List V} (e : H p = some (.lst xs)) : Thg H (.ref p) "list"
  | tup {p : Addr} {xs : List V} (e : H p = some (.tup xs)) : Thg H (.ref p) "tuple"
  | dct {p : Addr} {kvs : List (Key × V)} (e : H p = some (.dK kvs)) : Thg H (.ref p) "dict"
section
variable {P : Program} {w : World} {K : PySem.W.Frag} {mg : Str → Option Value} {base : Heap} {k j : Nat} {N Vz Sz G : List Str} {sc : Scope} {X : Cx} {H : Hp} {Q : VK} {sp : Sp} {y : V} {T : String} {a c dx : Addr} {fs : List (Str × V)}
/-- thing == one -/
theorem o_eqBack (C : CxI P w K mg base k N Vz Sz G sc X) (M : Mo P w K mg base j c "__eq__" sp) (hj : j ≤ k) (h : H a = some (.ins c dx fs)) (th : Thg H y T) (hsub : PySem.W.subIn K (.ref c) (.type T) = some false)
    (q : sp [.ref a, y] H (fun v H' => ∃ b : Bool, v = .bl b ∧ Q (.bl b) H') E0) : wO X (compareOp .Eq) y (.ref a) H Q := by
  obtain ⟨f, fd, ps, Fk, hs, hf, hb⟩ := M.ex
  obtain ⟨rfl, rfl, rfl, rfl, rfl, _, _, hr, _, _, _, _, _⟩ := C
  refine ⟨fun pins s σ u v I ry rx => ?_⟩
  obtain rfl : v = Value.ref a := rx
  obtain ⟨mA, J, _⟩ := ins_get I.hok h
  have hx : s.heap.get? a = some (PySem.W.instObj c dx) := by
    obtain ⟨_, _, _, hx, _⟩ := (show ObjOk X.prog X.w H s.heap a (.ins c dx fs) from I.hok a _ h)
    exact hx
  obtain ⟨od, J, _⟩ := J.look
  have hr' := hr.mono hj
  have ty : s.TypeIs u T := by
    cases th with
    | non => obtain rfl : u = Value.none := ry
             rfl
    | bl b => obtain rfl : u = Value.bool b := ry
              rfl
    | int i => obtain ⟨t, rfl⟩ := ry
               exact typeIs_int s i t
    | str z => obtain ⟨t, rfl⟩ := ry
               exact typeIs_str s z t
    | @lst p xs e =>
      obtain rfl : u = Value.ref p := ry
      obtain ⟨_, its, n, _, e⟩ := (show ObjOk X.prog X.w H s.heap p (.lst xs) from I.hok p _ e)
      exact ⟨_, e, rfl⟩
    | @tup p xs e =>
      obtain rfl : u = Value.ref p := ry
      obtain ⟨_, its, _, o, ho, hc, _⟩ := (show ObjOk X.prog X.w H s.heap p (.tup xs) from I.hok p _ e)
      exact ⟨_, ho, hc⟩
    | @dct p kvs e =>
      obtain rfl : u = Value.ref p := ry
      obtain ⟨_, _, _, _, o, _, _, e, ex, _⟩ := (show ObjOk X.prog X.w H s.heap p (.dK kvs) from I.hok p _ e)
      exact ⟨o, e, ex.1⟩
  have dec : ∀ E' : Value → Shared → Prop, wpAny (model X.prog X.w) X.A (tryCompare u "__eq__" (.ref a)) (fun r s' => r = none ∧ s' = s) E' s := fun E' => by
    cases th with
    | non => obtain rfl : u = Value.none := ry
             exact dec_non
    | bl b => obtain rfl : u = Value.bool b := ry
              exact dec_bl hx b
    | int i => obtain ⟨t, rfl⟩ := ry
               exact dec_int hx i t
    | str z => obtain ⟨t, rfl⟩ := ry
               exact dec_str hx z t
    | @lst p xs e =>
      obtain rfl : u = Value.ref p := ry
      obtain ⟨_, its, n, _, e⟩ := (show ObjOk X.prog X.w H s.heap p (.lst xs) from I.hok p _ e)
      exact dec_lst I.kIn hsub e hx
    | @tup p xs e =>
      obtain rfl : u = Value.ref p := ry
      obtain ⟨_, its, _, o, ho, hc, _⟩ := (show ObjOk X.prog X.w H s.heap p (.tup xs) from I.hok p _ e)
      exact dec_tup I.kIn hsub ho hc hx
    | @dct p kvs e =>
      obtain rfl : u = Value.ref p := ry
      obtain ⟨_, _, _, _, o, es, ep, e, ex, hd, _⟩ := (show ObjOk X.prog X.w H s.heap p (.dK kvs) from I.hok p _ e)
      exact dec_dct I.kIn hd ex.1 hsub e hx
  show wpAny (model X.prog X.w) X.A (richCompare .Eq u (.ref a)) (EP X pins σ Q) X.xe s
  refine rc_back hr'.units0 I.kIn J ty hsub (ty.oneThing_none _ _) dec hs hf ?_
  have hl := Fk.len _ _ _ _ q
  have r2 : Vals [V.ref a, y] [Value.ref a, u] := .cons rfl (.cons ry .nil)
  refine wpAny_call (codeAny_mono (Fk.run X.A X.stack s H ⟨[.ref a, u], []⟩ [.ref a, u] [.ref a, y] _ E0 hr' I.env0 (by
    have z := hb s [.ref a, u] I.kIn (by simpa using hl)
    simpa using z) r2 q) fun r s' hq => ?_)
  cases r with
  | error e => exact pass0 pins σ H s e s' I hq
  | ok fl =>
    cases fl with
    | ret w =>
      obtain ⟨z, H', I', rz, b, ez, q'⟩ := I.after hq
      subst ez
      cases rz
      exact ⟨.bl b, H', I', rfl, q'⟩
    | next => exact False.elim hq
    | brk => exact False.elim hq
    | cont => exact False.elim hq
end
end Rp
namespace Rp
open PySem PySem.Spec PyProof.Rows L2
/-! ### `in`, == and != of lists whose things have an own ==, with whatever answer -/
section
open SeqAt MeetsSeq MeetsSeq2 MeetsSeq3 SeqRoads2
open AutoSeq1 (wpAny_loadPart')
variable {prog : Program} {w : World} {A : Around} {R : Result → Shared → Prop}
def ConI (prog : Program) (w : World) (A : Around) (E : Value → Shared → Prop) (l : Addr) (x : Value) (N : Nat) (e : Nat → Bool) (I : Nat → Shared → Prop) : Prop :=
  ∀ i s, I i s → ∃ (items : Array Value) (n : Nat), s.heap.get? l = some { cls := .type "list", data := .seq items n } ∧ items.size = N ∧
    ∀ (h1 : i < items.size), wpAny (model prog w) A.in1 (eqBool items[i] x) (fun r s' => r = e i ∧ I (i + 1) s') E s
theorem con_loopG (l : Addr) (x : Value) (N : Nat) (e : Nat → Bool) (I : Nat → Shared → Prop) (hl : ConI prog w A (fun e s' => R (.error e) s') l x N e I)
    (yes : ∀ i s, i < N → e i = true → I (i + 1) s → R (.ok (.ret (.bool true))) s) (no : (∀ i, i < N → e i = false) → ∀ s, I N s → R (.ok (.ret (.bool false))) s) (k : Nat) :
    ∀ i : Nat, N - i = k → i ≤ N → (∀ j, j < i → e j = false) → ∀ s, I i s →
      wpAny (model prog w) A.in1 (Builtin.«list.__contains__.loop» ⟨[.ref l, x, rawInt i], []⟩) (GQ.FinOf prog w A R) (fun e s' => R (.error e) s') s := by
  induction k with
  | zero =>
    intro i hk hi hf s h
    obtain ⟨items, n, hl1, hs1, _⟩ := hl _ _ h
    have hi' : i = N := by omega
    have hR : R (.ok (.ret (.bool false))) s := no (fun j hj => hf j (by omega)) s (hi' ▸ h)
    obtain ⟨hp, g, d, tk, os⟩ := s
    wp_walk using wpAny_loadPart' hl1
    have hi1 : items[((i : Nat) : Int).toNat]? = none := by simp; omega
    rw [hi1]
    wp_walk
    exact hR
  | succ k ih =>
    intro i hk hi hf s h
    obtain ⟨items, n, hl1, hs1, turn⟩ := hl _ _ h
    have hlt : i < items.size := by omega
    have ht := turn hlt
    obtain ⟨hp, g, d, tk, os⟩ := s
    wp_walk using wpAny_loadPart' hl1
    have hi1 : items[((i : Nat) : Int).toNat]? = some items[i] := by simp [hlt]
    have hc : ((i : Int) + 1) = ((i + 1 : Nat) : Int) := by omega
    rw [hi1]
    refine wpAny_bind (wpAny_mono ht (fun r s2 h2 => ?_) fun _ _ x => x)
    obtain ⟨hr, h2⟩ := h2
    cases hb : e i with
    | true =>
      rw [hb] at hr
      subst hr
      have hR := yes i s2 (by omega) hb h2
      obtain ⟨hp2, g2, d2, tk2, os2⟩ := s2
      wp_walk
      exact hR
    | false =>
      rw [hb] at hr
      subst hr
      have hrec := ih (i + 1) (by omega) (by omega) (fun j hj => (Nat.lt_or_eq_of_le (Nat.le_of_lt_succ hj)).elim (hf j) fun z => by rw [z]; exact hb) s2 h2
      obtain ⟨hp2, g2, d2, tk2, os2⟩ := s2
      wp_walk
      rw [hc]
      exact ⟨plainId_quiet plain_contains_loop _, codeAny_builtin entry_contains_loop (by
        rw [Around.under_plainId plain_contains_loop _]
        exact hrec)⟩
theorem list_conG (l : Addr) (x : Value) (N : Nat) (e : Nat → Bool) (I : Nat → Shared → Prop) (hl : ConI prog w A (fun e s' => R (.error e) s') l x N e I)
    (yes : ∀ i s, i < N → e i = true → I (i + 1) s → R (.ok (.ret (.bool true))) s) (no : (∀ i, i < N → e i = false) → ∀ s, I N s → R (.ok (.ret (.bool false))) s) {s : Shared} (h : I 0 s) :
    wpAny (model prog w) A.in1 (Builtin.«list.__contains__» ⟨[.ref l, x], []⟩) (GQ.FinOf prog w A R) (fun e s' => R (.error e) s') s := by
  obtain ⟨items, n, hl1, hs1, _⟩ := hl _ _ h
  have hrec := con_loopG (A := A) (R := R) l x N e I hl yes no _ 0 rfl (Nat.zero_le _) (fun j hj => absurd hj (Nat.not_lt_zero j)) s h
  obtain ⟨hp, g, d, tk, os⟩ := s
  wp_walk using wpAny_loadPart' hl1
  exact ⟨plainId_quiet plain_contains_loop _, codeAny_builtin entry_contains_loop (by
    rw [Around.under_plainId plain_contains_loop _]
    exact hrec)⟩
def EqI (prog : Program) (w : World) (A : Around) (E : Value → Shared → Prop) (l b : Addr) (N : Nat) (e : Nat → Bool) (I : Nat → Shared → Prop) : Prop :=
  ∀ i s, I i s → ∃ (items items2 : Array Value) (n n2 : Nat), s.heap.get? l = some { cls := .type "list", data := .seq items n } ∧ s.heap.get? b = some { cls := .type "list", data := .seq items2 n2 } ∧ items.size = N ∧ items2.size = N ∧
    ∀ (h1 : i < items.size) (h2 : i < items2.size), wpAny (model prog w) A.in1 (eqBool items[i] items2[i]) (fun r s' => r = e i ∧ I (i + 1) s') E s
theorem eqL_loop (l b : Addr) (N : Nat) (e : Nat → Bool) (I : Nat → Shared → Prop) (hl : EqI prog w A (fun e s' => R (.error e) s') l b N e I)
    (yes : (∀ i, i < N → e i = true) → ∀ s, I N s → R (.ok (.ret (.bool true))) s) (no : ∀ i s, i < N → e i = false → I (i + 1) s → R (.ok (.ret (.bool false))) s) (k : Nat) :
    ∀ i : Nat, N - i = k → i ≤ N → (∀ j, j < i → e j = true) → ∀ s, I i s →
      wpAny (model prog w) A.in1 (Builtin.«list.__eq__.loop» ⟨[.ref l, .ref b, rawInt i, rawInt 2], []⟩) (GQ.FinOf prog w A R) (fun e s' => R (.error e) s') s := by
  induction k with
  | zero =>
    intro i hk hi hf s h
    obtain ⟨items, items2, n, n2, hl1, hb1, hs1, hs2, _⟩ := hl _ _ h
    have hi' : i = N := by omega
    have hR : R (.ok (.ret (.bool true))) s := yes (fun j hj => hf j (by omega)) s (hi' ▸ h)
    obtain ⟨hp, g, d, tk, os⟩ := s
    wp_walk using wpAny_loadPart' hl1, wpAny_loadPart' hb1
    have hi1 : items[((i : Nat) : Int).toNat]? = none := by simp; omega
    have hi2 : items2[((i : Nat) : Int).toNat]? = none := by simp; omega
    rw [hi1, hi2]
    wp_walk using wpAny_loadPart' hl1, wpAny_loadPart' hb1
    show R (.ok (.ret (.bool (items.size == items2.size)))) _
    rw [hs1, hs2]
    simpa using hR
  | succ k ih =>
    intro i hk hi hf s h
    obtain ⟨items, items2, n, n2, hl1, hb1, hs1, hs2, turn⟩ := hl _ _ h
    have hlt : i < items.size := by omega
    have hlt2 : i < items2.size := by omega
    have ht := turn hlt hlt2
    obtain ⟨hp, g, d, tk, os⟩ := s
    wp_walk using wpAny_loadPart' hl1, wpAny_loadPart' hb1
    have hi1 : items[((i : Nat) : Int).toNat]? = some items[i] := by simp [hlt]
    have hi2 : items2[((i : Nat) : Int).toNat]? = some items2[i] := by simp [hlt2]
    have hc : ((i : Int) + 1) = ((i + 1 : Nat) : Int) := by omega
    rw [hi1, hi2]
    refine wpAny_bind (wpAny_mono ht (fun r s2 h2 => ?_) fun _ _ x => x)
    obtain ⟨hr, h2⟩ := h2
    cases hb : e i with
    | false =>
      rw [hb] at hr
      subst hr
      have hR := no i s2 (by omega) hb h2
      obtain ⟨it3, it4, n3, n4, hl3, hb3, hs3, hs4, _⟩ := hl _ _ h2
      have hlt3 : i < it3.size := by omega
      have hlt4 : i < it4.size := by omega
      obtain ⟨hp2, g2, d2, tk2, os2⟩ := s2
      wp_walk using wpAny_loadPart' hl3, wpAny_loadPart' hb3
      have hi3 : it3[((i : Nat) : Int).toNat]? = some it3[i] := by simp [hlt3]
      have hi4 : it4[((i : Nat) : Int).toNat]? = some it4[i] := by simp [hlt4]
      rw [hi3, hi4]
      wp_walk
      simpa using hR
    | true =>
      rw [hb] at hr
      subst hr
      have hrec := ih (i + 1) (by omega) (by omega) (fun j hj => (Nat.lt_or_eq_of_le (Nat.le_of_lt_succ hj)).elim (hf j) fun z => by rw [z]; exact hb) s2 h2
      obtain ⟨hp2, g2, d2, tk2, os2⟩ := s2
      wp_walk
      rw [hc]
      exact ⟨plainId_quiet plain_eq_loop _, codeAny_builtin entry_eq_loop (by
        rw [Around.under_plainId plain_eq_loop _]
        exact hrec)⟩
theorem list_eqL (l b : Addr) (N : Nat) (e : Nat → Bool) (I : Nat → Shared → Prop) (hl : EqI prog w A (fun e s' => R (.error e) s') l b N e I)
    (yes : (∀ i, i < N → e i = true) → ∀ s, I N s → R (.ok (.ret (.bool true))) s) (no : ∀ i s, i < N → e i = false → I (i + 1) s → R (.ok (.ret (.bool false))) s) {s : Shared} (h : I 0 s) :
    wpAny (model prog w) A.in1 (Builtin.«list.__eq__» ⟨[.ref l, .ref b], []⟩) (GQ.FinOf prog w A R) (fun e s' => R (.error e) s') s := by
  obtain ⟨items, items2, n, n2, hl1, hb1, hs1, hs2, _⟩ := hl _ _ h
  have hrec := eqL_loop (A := A) (R := R) l b N e I hl yes no _ 0 rfl (Nat.zero_le _) (fun j hj => absurd hj (Nat.not_lt_zero j)) s h
  obtain ⟨hp, g, d, tk, os⟩ := s
  have f3 := AutoSeq1.sub_list_list
  have hne : ¬ (items.size != items2.size) = true := by simp [hs1, hs2]
  wp_walk using wpAny_loadPart' hl1, wpAny_loadPart' hb1
  exact ⟨plainId_quiet plain_eq_loop _, codeAny_builtin entry_eq_loop (by
    rw [Around.under_plainId plain_eq_loop _]
    exact hrec)⟩
theorem neL_loop (l b : Addr) (N : Nat) (e : Nat → Bool) (I : Nat → Shared → Prop) (hl : EqI prog w A (fun e s' => R (.error e) s') l b N e I)
    (yes : (∀ i, i < N → e i = true) → ∀ s, I N s → R (.ok (.ret (.bool false))) s) (no : ∀ i s, i < N → e i = false → I (i + 1) s → R (.ok (.ret (.bool true))) s) (k : Nat) :
    ∀ i : Nat, N - i = k → i ≤ N → (∀ j, j < i → e j = true) → ∀ s, I i s →
      wpAny (model prog w) A.in1 (Builtin.«list.__eq__.loop» ⟨[.ref l, .ref b, rawInt i, rawInt 3], []⟩) (GQ.FinOf prog w A R) (fun e s' => R (.error e) s') s := by
  induction k with
  | zero =>
    intro i hk hi hf s h
    obtain ⟨items, items2, n, n2, hl1, hb1, hs1, hs2, _⟩ := hl _ _ h
    have hi' : i = N := by omega
    have hR : R (.ok (.ret (.bool false))) s := yes (fun j hj => hf j (by omega)) s (hi' ▸ h)
    obtain ⟨hp, g, d, tk, os⟩ := s
    wp_walk using wpAny_loadPart' hl1, wpAny_loadPart' hb1
    have hi1 : items[((i : Nat) : Int).toNat]? = none := by simp; omega
    have hi2 : items2[((i : Nat) : Int).toNat]? = none := by simp; omega
    rw [hi1, hi2]
    wp_walk using wpAny_loadPart' hl1, wpAny_loadPart' hb1
    show R (.ok (.ret (.bool (items.size != items2.size)))) _
    rw [hs1, hs2]
    simpa using hR
  | succ k ih =>
    intro i hk hi hf s h
    obtain ⟨items, items2, n, n2, hl1, hb1, hs1, hs2, turn⟩ := hl _ _ h
    have hlt : i < items.size := by omega
    have hlt2 : i < items2.size := by omega
    have ht := turn hlt hlt2
    obtain ⟨hp, g, d, tk, os⟩ := s
    wp_walk using wpAny_loadPart' hl1, wpAny_loadPart' hb1
    have hi1 : items[((i : Nat) : Int).toNat]? = some items[i] := by simp [hlt]
    have hi2 : items2[((i : Nat) : Int).toNat]? = some items2[i] := by simp [hlt2]
    have hc : ((i : Int) + 1) = ((i + 1 : Nat) : Int) := by omega
    rw [hi1, hi2]
    refine wpAny_bind (wpAny_mono ht (fun r s2 h2 => ?_) fun _ _ x => x)
    obtain ⟨hr, h2⟩ := h2
    cases hb : e i with
    | false =>
      rw [hb] at hr
      subst hr
      have hR := no i s2 (by omega) hb h2
      obtain ⟨it3, it4, n3, n4, hl3, hb3, hs3, hs4, _⟩ := hl _ _ h2
      have hlt3 : i < it3.size := by omega
      have hlt4 : i < it4.size := by omega
      obtain ⟨hp2, g2, d2, tk2, os2⟩ := s2
      wp_walk using wpAny_loadPart' hl3, wpAny_loadPart' hb3
      have hi3 : it3[((i : Nat) : Int).toNat]? = some it3[i] := by simp [hlt3]
      have hi4 : it4[((i : Nat) : Int).toNat]? = some it4[i] := by simp [hlt4]
      rw [hi3, hi4]
      wp_walk
      simpa using hR
    | true =>
      rw [hb] at hr
      subst hr
      have hrec := ih (i + 1) (by omega) (by omega) (fun j hj => (Nat.lt_or_eq_of_le (Nat.le_of_lt_succ hj)).elim (hf j) fun z => by rw [z]; exact hb) s2 h2
      obtain ⟨hp2, g2, d2, tk2, os2⟩ := s2
      wp_walk
      rw [hc]
      exact ⟨plainId_quiet plain_eq_loop _, codeAny_builtin entry_eq_loop (by
        rw [Around.under_plainId plain_eq_loop _]
        exact hrec)⟩
theorem list_neL (l b : Addr) (N : Nat) (e : Nat → Bool) (I : Nat → Shared → Prop) (hl : EqI prog w A (fun e s' => R (.error e) s') l b N e I)
    (yes : (∀ i, i < N → e i = true) → ∀ s, I N s → R (.ok (.ret (.bool false))) s) (no : ∀ i s, i < N → e i = false → I (i + 1) s → R (.ok (.ret (.bool true))) s) {s : Shared} (h : I 0 s) :
    wpAny (model prog w) A.in1 (Builtin.«list.__ne__» ⟨[.ref l, .ref b], []⟩) (GQ.FinOf prog w A R) (fun e s' => R (.error e) s') s := by
  obtain ⟨items, items2, n, n2, hl1, hb1, hs1, hs2, _⟩ := hl _ _ h
  have hrec := neL_loop (A := A) (R := R) l b N e I hl yes no _ 0 rfl (Nat.zero_le _) (fun j hj => absurd hj (Nat.not_lt_zero j)) s h
  obtain ⟨hp, g, d, tk, os⟩ := s
  have f3 := AutoSeq1.sub_list_list
  have hne : ¬ (items.size != items2.size) = true := by simp [hs1, hs2]
  wp_walk using wpAny_loadPart' hl1, wpAny_loadPart' hb1
  exact ⟨plainId_quiet plain_eq_loop _, codeAny_builtin entry_eq_loop (by
    rw [Around.under_plainId plain_eq_loop _]
    exact hrec)⟩
end
section
open SeqAt MeetsSeq MeetsSeq2 MeetsSeq3 SeqRoads2
variable {prog : Program} {w : World} {A : Around} {E : Value → Shared → Prop} {s : Shared}
theorem in_conG {l : Addr} {x : Value} {Q : Value → Shared → Prop} (N : Nat) (e : Nat → Bool) (I : Nat → Shared → Prop) (hl : ConI prog w A E l x N e I)
    (yes : ∀ i s, i < N → e i = true → I (i + 1) s → Q (.bool true) s) (no : (∀ i, i < N → e i = false) → ∀ s, I N s → Q (.bool false) s) (h : I 0 s) : wpAny (model prog w) A (compareOp .In x (.ref l)) Q E s := by
  obtain ⟨items, n, hl1, _⟩ := hl _ _ h
  show wpAny _ A (do return .bool (← contains (.ref l) x)) Q E s
  refine wpAny_bind (wpAny_contains_slot (T := "list") ⟨_, hl1, rfl⟩ F.slot_list_contains (wpAny_mono (GQ.call_here F.slot_list_contains ⟨_, hl1, rfl⟩ F.entry_list_contains (F.args_list_contains_2 _ _)
    (list_conG (R := wants (fun v s' => ∃ b, v = .bool b ∧ Q (.bool b) s') E) l x N e I hl (fun i s a b c => ⟨true, rfl, yes i s a b c⟩) (fun a s b => ⟨false, rfl, no a s b⟩) h)) (fun v s' hv => ?_) fun _ _ e => e))
  obtain ⟨b, rfl, hq⟩ := hv
  exact wpAny_truthy_bool (wpAny_pure hq)
theorem notIn_conG {l : Addr} {x : Value} {Q : Value → Shared → Prop} (N : Nat) (e : Nat → Bool) (I : Nat → Shared → Prop) (hl : ConI prog w A E l x N e I)
    (yes : ∀ i s, i < N → e i = true → I (i + 1) s → Q (.bool false) s) (no : (∀ i, i < N → e i = false) → ∀ s, I N s → Q (.bool true) s) (h : I 0 s) : wpAny (model prog w) A (compareOp .NotIn x (.ref l)) Q E s := by
  obtain ⟨items, n, hl1, _⟩ := hl _ _ h
  show wpAny _ A (do return .bool (!(← contains (.ref l) x))) Q E s
  refine wpAny_bind (wpAny_contains_slot (T := "list") ⟨_, hl1, rfl⟩ F.slot_list_contains (wpAny_mono (GQ.call_here F.slot_list_contains ⟨_, hl1, rfl⟩ F.entry_list_contains (F.args_list_contains_2 _ _)
    (list_conG (R := wants (fun v s' => ∃ b, v = .bool b ∧ Q (.bool (!b)) s') E) l x N e I hl (fun i s a b c => ⟨true, rfl, yes i s a b c⟩) (fun a s b => ⟨false, rfl, no a s b⟩) h)) (fun v s' hv => ?_) fun _ _ e => e))
  obtain ⟨b, rfl, hq⟩ := hv
  exact wpAny_truthy_bool (wpAny_pure hq)
theorem rc_eqL {l b : Addr} {Q : Value → Shared → Prop} (hu : A.units < cLine) (N : Nat) (e : Nat → Bool) (I : Nat → Shared → Prop) (hl : EqI prog w A E l b N e I)
    (yes : (∀ i, i < N → e i = true) → ∀ s, I N s → Q (.bool true) s) (no : ∀ i s, i < N → e i = false → I (i + 1) s → Q (.bool false) s) (h : I 0 s) : wpAny (model prog w) A (richCompare .Eq (.ref l) (.ref b)) Q E s := by
  obtain ⟨items, items2, n, n2, hl1, hb1, _⟩ := hl _ _ h
  refine wpAny_richCompare_same_room (op := .Eq) ⟨_, hl1, rfl⟩ ⟨_, hb1, rfl⟩ F.slot_list_eq (GQ.call_here F.slot_list_eq ⟨_, hl1, rfl⟩ F.entry_list_eq (F.args_list_eq_2 _ _) ?_) hu
  exact list_eqL (R := wants (fun v s' => v ≠ .notImplemented ∧ Q v s') E) l b N e I hl (fun a s' q => ⟨(fun x => nomatch x), yes a s' q⟩) (fun i s' a c q => ⟨(fun x => nomatch x), no i s' a c q⟩) h
theorem rc_neL {l b : Addr} {Q : Value → Shared → Prop} (hu : A.units < cLine) (N : Nat) (e : Nat → Bool) (I : Nat → Shared → Prop) (hl : EqI prog w A E l b N e I)
    (yes : (∀ i, i < N → e i = true) → ∀ s, I N s → Q (.bool false) s) (no : ∀ i s, i < N → e i = false → I (i + 1) s → Q (.bool true) s) (h : I 0 s) : wpAny (model prog w) A (richCompare .NotEq (.ref l) (.ref b)) Q E s := by
  obtain ⟨items, items2, n, n2, hl1, hb1, _⟩ := hl _ _ h
  refine wpAny_richCompare_same_room (op := .NotEq) ⟨_, hl1, rfl⟩ ⟨_, hb1, rfl⟩ F.slot_list_ne (GQ.call_here F.slot_list_ne ⟨_, hl1, rfl⟩ F.entry_list_ne (F.args_list_ne_2 _ _) ?_) hu
  exact list_neL (R := wants (fun v s' => v ≠ .notImplemented ∧ Q v s') E) l b N e I hl (fun a s' q => ⟨(fun x => nomatch x), yes a s' q⟩) (fun i s' a c q => ⟨(fun x => nomatch x), no i s' a c q⟩) h
end
/-! ### by values -/
/-- == inside a builtin: the answer, the heap as it was -/
def EqB (X : Cx) (n : Nat) (x y : V) (H : Hp) (r : Bool) : Prop :=
  ∀ (A : Around) (pins : List (Addr × Obj)) (s : Shared) (σ : L2.St) (u v : Value), Sub X n A → Inv X pins σ H s → RelV x u → RelV y v →
    wpAny (model X.prog X.w) A (eqBool u v) (fun r' s' => r' = r ∧ Inv X pins σ H s') X.xe s
section
variable {P : Program} {w : World} {K : PySem.W.Frag} {mg : Str → Option Value} {base : Heap} {k j n m : Nat} {N Vz Sz G : List Str} {sc : Scope} {X : Cx} {H : Hp} {Q : VK} {sp : Sp} {x y : V} {a b c dx dy : Addr} {fs gs : List (Str × V)} {r : Bool}
theorem EqB.mono (h : EqB X n x y H r) (hn : n ≤ m) : EqB X m x y H r := fun A pins s σ u v sb => h A pins s σ u v (sb.mono hn)
theorem eqB_same : EqB X n (.ref a) (.ref a) H true := by
  intro A pins s σ u v sb I ru rv
  obtain rfl : u = Value.ref a := ru
  obtain rfl : v = Value.ref a := rv
  exact SeqAt.EqAt.same (A := A) (s := s) (.ref a) X.prog X.w X.xe _ ⟨rfl, I⟩
theorem eqB_ins (C : CxI P w K mg base k N Vz Sz G sc X) (M : Mo P w K mg base j c "__eq__" sp) (hab : a ≠ b) (ha : H a = some (.ins c dx fs)) (hb' : H b = some (.ins c dy gs))
    (q : sp [.ref a, .ref b] H (fun v H' => v = .bl r ∧ H' = H) E0) : EqB X j (.ref a) (.ref b) H r := by
  intro A pins s σ u v sb I ru rv
  obtain rfl : u = Value.ref a := ru
  obtain rfl : v = Value.ref b := rv
  obtain ⟨f, fd, ps, Fk, hs, hf, hb⟩ := M.ex
  obtain ⟨rfl, rfl, rfl, rfl, rfl, _, _, hr, _, _, _, _, _⟩ := C
  obtain ⟨mA, J, _⟩ := ins_get I.hok ha
  obtain ⟨mB, J', _⟩ := ins_get I.hok hb'
  obtain ⟨od, J, _⟩ := J.look
  obtain ⟨od', J', _⟩ := J'.look
  obtain ⟨mm, hF⟩ := I.fr
  refine GQ.eqBool_refG hab (PySem.W.cmp_K (op := .Eq) (tb := .ref c) sb.room.units0 hF I.ok.mod.kin J J'.type (by simp [PySem.W.notFirst]) hs hf ?_)
  have e0 : Env0 X.prog X.w X.K X.mg X.base A X.stack s H := by
    have e := I.env0
    exact ⟨by rw [sb.fr]; exact e.frames, e.mod, e.bs, e.bsz, e.funs, e.frf, e.hok, e.bare⟩
  have hl := Fk.len _ _ _ _ q
  have r2 : Vals [V.ref a, V.ref b] [Value.ref a, Value.ref b] := .cons rfl (.cons rfl .nil)
  refine wpAny_call (codeAny_mono (Fk.run A X.stack s H ⟨[.ref a, .ref b], []⟩ [.ref a, .ref b] [.ref a, .ref b] _ E0 sb.room e0 (by
    have := hb s [.ref a, .ref b] I.kIn (by simpa using hl)
    simpa using this) r2 q) fun r' s' hq => ?_)
  cases r' with
  | error e => exact pass0 pins σ H s e s' I hq
  | ok fl =>
    cases fl with
    | ret w =>
      obtain ⟨z, H', I', rz, ez, eh⟩ := I.after hq
      subst ez
      subst eh
      cases rz
      exact ⟨r, rfl, rfl, I'⟩
    | next => exact False.elim hq
    | brk => exact False.elim hq
    | cont => exact False.elim hq
/-- the pairs of two lists -/
def PrsB (X : Cx) (n : Nat) (xs ys : List V) (H : Hp) (e : Nat → Bool) : Prop := xs.length = ys.length ∧ ∀ (i : Nat) x y, xs[i]? = some x → ys[i]? = some y → EqB X n x y H (e i)
theorem turnB {A : Around} (sb : Sub X (n + 1) A) {e : Nat → Bool} {pins : List (Addr × Obj)} {σ : L2.St} {xs ys : List V} {its its2 : List Value} (p : PrsB X n xs ys H e) (r : Vals xs its) (r2 : Vals ys its2)
    (i : Nat) (h1 : i < its.toArray.size) (h2 : i < its2.toArray.size) (s' : Shared) (I1 : Inv X pins σ H s') :
    wpAny (model X.prog X.w) A.in1 (eqBool its.toArray[i] its2.toArray[i]) (fun r s2 => r = e i ∧ Inv X pins σ H s2) X.xe s' := by
  have g1 : its[i]? = some its.toArray[i] := by
    have h1' : i < its.length := by simpa using h1
    rw [List.getElem?_eq_getElem h1'] <;> simp
  have g2 : its2[i]? = some its2.toArray[i] := by
    have h2' : i < its2.length := by simpa using h2
    rw [List.getElem?_eq_getElem h2'] <;> simp
  have k1 : i < xs.length := by rw [r.length]; simpa using h1
  have k2 : i < ys.length := by rw [r2.length]; simpa using h2
  obtain ⟨u, hu, ru⟩ := r.get (List.getElem?_eq_getElem k1)
  obtain ⟨v, hv, rv⟩ := r2.get (List.getElem?_eq_getElem k2)
  rw [g1] at hu
  rw [g2] at hv
  rw [Option.some.inj hu, Option.some.inj hv]
  exact p.2 i _ _ (List.getElem?_eq_getElem k1) (List.getElem?_eq_getElem k2) A.in1 pins s' σ u v sb.in1 I1 ru rv
theorem sub_cx (C : CxI P w K mg base k N Vz Sz G sc X) : Sub X k X.A := ⟨C.room, rfl⟩
theorem eqI_of {A : Around} (sb : Sub X (n + 1) A) {e : Nat → Bool} {pins : List (Addr × Obj)} {σ : L2.St} {xs ys : List V} {a b : Addr} (p : PrsB X n xs ys H e) (ha : H a = some (.lst xs)) (hb : H b = some (.lst ys)) :
    EqI X.prog X.w A X.xe a b xs.length e (fun _ s' => Inv X pins σ H s') := by
  intro i s' I1
  obtain ⟨z, its, k, r, e⟩ := I1.hok a _ ha
  obtain ⟨z2, its2, k2, r2, e2⟩ := I1.hok b _ hb
  exact ⟨its.toArray, its2.toArray, k, k2, e, e2, by rw [List.size_toArray, ← r.length], by rw [List.size_toArray, ← r2.length, ← p.1], fun h1 h2 => turnB sb p r r2 i h1 h2 s' I1⟩
theorem o_eqL {e : Nat → Bool} {xs ys : List V} (C : CxI P w K mg base k N Vz Sz G sc X) (hk : n + 1 ≤ k) (ha : H a = some (.lst xs)) (hb : H b = some (.lst ys)) (p : PrsB X n xs ys H e) (t : Bool)
    (ht : (t = true → ∀ i, i < xs.length → e i = true) ∧ (t = false → ∃ i, i < xs.length ∧ e i = false)) (q : Q (.bl t) H) : wO X (compareOp .Eq) (.ref a) (.ref b) H Q := by
  refine ⟨fun pins s σ v u I rx ry => ?_⟩
  obtain rfl : v = Value.ref a := rx
  obtain rfl : u = Value.ref b := ry
  have sb := (sub_cx C).mono hk
  show wpAny _ _ (richCompare .Eq (.ref a) (.ref b)) _ _ _
  refine rc_eqL sb.room.units0 xs.length e (fun _ s' => Inv X pins σ H s') (eqI_of sb p ha hb) (fun al s' I' => ?_) (fun i s' hi he I' => ?_) I
  · cases t with
    | true => exact ⟨.bl true, H, I', rfl, q⟩
    | false =>
      obtain ⟨i, hi, z⟩ := ht.2 rfl
      rw [al i hi] at z
      cases z
  · cases t with
    | false => exact ⟨.bl false, H, I', rfl, q⟩
    | true => rw [ht.1 rfl i hi] at he; cases he
theorem o_neL {e : Nat → Bool} {xs ys : List V} (C : CxI P w K mg base k N Vz Sz G sc X) (hk : n + 1 ≤ k) (ha : H a = some (.lst xs)) (hb : H b = some (.lst ys)) (p : PrsB X n xs ys H e) (t : Bool)
    (ht : (t = true → ∀ i, i < xs.length → e i = true) ∧ (t = false → ∃ i, i < xs.length ∧ e i = false)) (q : Q (.bl (!t)) H) : wO X (compareOp .NotEq) (.ref a) (.ref b) H Q := by
  refine ⟨fun pins s σ v u I rx ry => ?_⟩
  obtain rfl : v = Value.ref a := rx
  obtain rfl : u = Value.ref b := ry
  have sb := (sub_cx C).mono hk
  show wpAny _ _ (richCompare .NotEq (.ref a) (.ref b)) _ _ _
  refine rc_neL sb.room.units0 xs.length e (fun _ s' => Inv X pins σ H s') (eqI_of sb p ha hb) (fun al s' I' => ?_) (fun i s' hi he I' => ?_) I
  · cases t with
    | true => exact ⟨.bl false, H, I', rfl, q⟩
    | false =>
      obtain ⟨i, hi, z⟩ := ht.2 rfl
      rw [al i hi] at z
      cases z
  · cases t with
    | false => exact ⟨.bl true, H, I', rfl, q⟩
    | true => rw [ht.1 rfl i hi] at he; cases he
theorem conI_of {A : Around} (sb : Sub X (n + 1) A) {e : Nat → Bool} {pins : List (Addr × Obj)} {σ : L2.St} {xs : List V} {l : Addr} {v : Value} (rx : RelV x v) (p : ∀ (i : Nat) y, xs[i]? = some y → EqB X n y x H (e i)) (hl : H l = some (.lst xs)) :
    ConI X.prog X.w A X.xe l v xs.length e (fun _ s' => Inv X pins σ H s') := by
  intro i s' I1
  obtain ⟨z, its, k, r, ee⟩ := I1.hok l _ hl
  refine ⟨its.toArray, k, ee, by rw [List.size_toArray, ← r.length], fun h1 => ?_⟩
  have g1 : its[i]? = some its.toArray[i] := by
    have h1' : i < its.length := by simpa using h1
    rw [List.getElem?_eq_getElem h1'] <;> simp
  have k1 : i < xs.length := by rw [r.length]; simpa using h1
  obtain ⟨u, hu, ru⟩ := r.get (List.getElem?_eq_getElem k1)
  rw [g1] at hu
  rw [Option.some.inj hu]
  exact p i _ (List.getElem?_eq_getElem k1) A.in1 pins s' σ u v sb.in1 I1 ru rx
/-- x in xs -/
theorem o_inL {e : Nat → Bool} {xs : List V} (C : CxI P w K mg base k N Vz Sz G sc X) (hk : n + 1 ≤ k) (ha : H a = some (.lst xs)) (p : ∀ (i : Nat) y, xs[i]? = some y → EqB X n y x H (e i)) (t : Bool)
    (ht : (t = false → ∀ i, i < xs.length → e i = false) ∧ (t = true → ∃ i, i < xs.length ∧ e i = true)) (q : Q (.bl t) H) : wO X (compareOp .In) x (.ref a) H Q := by
  refine ⟨fun pins s σ v u I rx ry => ?_⟩
  obtain rfl : u = Value.ref a := ry
  have sb := (sub_cx C).mono hk
  refine in_conG xs.length e (fun _ s' => Inv X pins σ H s') (conI_of sb rx p ha) (fun i s' hi he I' => ?_) (fun al s' I' => ?_) I
  · cases t with
    | true => exact ⟨.bl true, H, I', rfl, q⟩
    | false => rw [ht.1 rfl i hi] at he; cases he
  · cases t with
    | false => exact ⟨.bl false, H, I', rfl, q⟩
    | true =>
      obtain ⟨i, hi, z⟩ := ht.2 rfl
      rw [al i hi] at z
      cases z
theorem o_notInL {e : Nat → Bool} {xs : List V} (C : CxI P w K mg base k N Vz Sz G sc X) (hk : n + 1 ≤ k) (ha : H a = some (.lst xs)) (p : ∀ (i : Nat) y, xs[i]? = some y → EqB X n y x H (e i)) (t : Bool)
    (ht : (t = false → ∀ i, i < xs.length → e i = false) ∧ (t = true → ∃ i, i < xs.length ∧ e i = true)) (q : Q (.bl (!t)) H) : wO X (compareOp .NotIn) x (.ref a) H Q := by
  refine ⟨fun pins s σ v u I rx ry => ?_⟩
  obtain rfl : u = Value.ref a := ry
  have sb := (sub_cx C).mono hk
  refine notIn_conG xs.length e (fun _ s' => Inv X pins σ H s') (conI_of sb rx p ha) (fun i s' hi he I' => ?_) (fun al s' I' => ?_) I
  · cases t with
    | true => exact ⟨.bl false, H, I', rfl, q⟩
    | false => rw [ht.1 rfl i hi] at he; cases he
  · cases t with
    | false => exact ⟨.bl true, H, I', rfl, q⟩
    | true =>
      obtain ⟨i, hi, z⟩ := ht.2 rfl
      rw [al i hi] at z
      cases z
end
/-! ### repr(one), by an own __repr__ -/
section
variable {prog : Program} {w : World} {A : Around} {E : Value → Shared → Prop} {s : Shared} {K : PySem.W.Frag} {x C f : Addr} {ox : Obj} {od : Option Obj}
theorem repr_K {Q : Value → Shared → Prop} (hu : A.in1.units < cLine) (X : K.In s.heap) (I : PySem.W.InstAt s.heap x ox C od) (hs : PySem.W.findIn K (.ref C) "__repr__" = some (some (.ref f))) (hf : PySem.W.isFn K (.ref f) = true)
    (hc : wpAny (model prog w) A.in1 (call (.ref f) [.ref x]) (fun r s' => ∃ m tk, r = .str m tk ∧ Q (.str m tk) s') E s) : wpAny (model prog w) A (call (.builtin "repr") [.ref x]) Q E s := by
  refine Calls.call_function_entry F.kind_repr F.plain_repr F.entry_repr (F.args_repr1 _) ?_
  unfold Builtin.«repr»
  refine wpAny_bind (m := oneArg "repr" _) (wpAny_pure ?_)
  refine wpAny_bind (wpAny_cRoomFor hu ?_)
  refine wpAny_bind (m := specialOf (.ref x) _) (wpAny_bind (I.type.here ((PySem.W.looks_findIn X hs).here ?_)))
  show wpAny _ _ (if (some (Value.ref f)).isNone = true then _ else _) _ _ _
  rw [if_neg (by simp)]
  refine wpAny_bind (m := callSpecialIfBound? (.ref x) (Str.ofString "__repr__") _) (PySem.W.ifBound_K X I hs hf (wpAny_mono hc (fun r s' hr => ?_) fun _ _ y => y))
  obtain ⟨m, tk, rfl, hq⟩ := hr
  refine wpAny_bind (wpAny_isInstance (typeIs_str _ _ _) isSubtype_str_str ?_)
  first
    | exact wpAny_pure ⟨_, rfl, hq⟩
    | (rw [if_pos rfl]; exact wpAny_pure ⟨_, rfl, hq⟩)
    | (simp only [if_true]; exact wpAny_pure ⟨_, rfl, hq⟩)
end
section
variable {P : Program} {w : World} {K : PySem.W.Frag} {mg : Str → Option Value} {base : Heap} {k j : Nat} {N Vz Sz G : List Str} {sc : Scope} {X : Cx} {H : Hp} {Q : VK} {sp : Sp} {a c dx : Addr} {fs : List (Str × V)}
theorem c_reprOwn (C : CxI P w K mg base k N Vz Sz G sc X) (M : Mo P w K mg base j c "__repr__" sp) (hj : j + 1 ≤ k) (ha : H a = some (.ins c dx fs)) (q : sp [.ref a] H (fun v H' => ∃ z : Str, v = .str z ∧ Q (.str z) H') E0) : wC X (.builtin "repr") [.ref a] H Q := by
  obtain ⟨f, fd, ps, Fk, hs, hf, hb⟩ := M.ex
  obtain ⟨rfl, rfl, rfl, rfl, rfl, _, _, hr, _, _, _, _, _⟩ := C
  refine ⟨fun pins s σ us I r => ?_⟩
  obtain ⟨u, rfl, rx⟩ := vals1 r
  obtain rfl : u = Value.ref a := rx
  obtain ⟨mA, J, _⟩ := ins_get I.hok ha
  obtain ⟨od, J, _⟩ := J.look
  have sb : Sub X (j + 1) X.A := ⟨hr.mono hj, rfl⟩
  have sb1 := sb.in1
  refine repr_K sb1.room.units0 I.kIn J hs hf ?_
  have e0 : Env0 X.prog X.w X.K X.mg X.base X.A.in1 X.stack s H := by
    have e := I.env0
    exact ⟨by rw [sb1.fr]; exact e.frames, e.mod, e.bs, e.bsz, e.funs, e.frf, e.hok, e.bare⟩
  have hl := Fk.len _ _ _ _ q
  have r2 : Vals [V.ref a] [Value.ref a] := .cons rfl .nil
  refine wpAny_call (codeAny_mono (Fk.run X.A.in1 X.stack s H ⟨[.ref a], []⟩ [.ref a] [.ref a] _ E0 sb1.room e0 (by
    have := hb s [.ref a] I.kIn (by simpa using hl)
    simpa using this) r2 q) fun r' s' hq => ?_)
  cases r' with
  | error e => exact pass0 pins σ H s e s' I hq
  | ok fl =>
    cases fl with
    | ret w =>
      obtain ⟨z, H', I', rz, t, ez, q'⟩ := I.after hq
      subst ez
      obtain ⟨tk, rfl⟩ := rz
      exact ⟨t, tk, rfl, .str t, H', I', ⟨tk, rfl⟩, q'⟩
    | next => exact False.elim hq
    | brk => exact False.elim hq
    | cont => exact False.elim hq
end
end Rp
namespace Rp
open PySem PySem.Spec PyProof.Rows L2
/-! ### sizes of texts -/
def Sz (s : Str) (n : Nat) : Prop := s.length ≤ n
theorem slen_app (a b : Str) : (a ++ b).length = a.length + b.length := by first | exact PySem.Str.length_append a b | simp
theorem Sz.app {a b : Str} {n m : Nat} (h : Sz a n) (k : Sz b m) : Sz (a ++ b) (n + m) := by unfold Sz at *; rw [slen_app]; omega
theorem Sz.lit (s : Str) : Sz s s.length := Nat.le_refl _
theorem Sz.mono {s : Str} {n m : Nat} (h : Sz s n) (k : n ≤ m) : Sz s m := Nat.le_trans h k
section
variable {P : Program} {w : World} {K : PySem.W.Frag} {mg : Str → Option Value} {base : Heap} {k j : Nat} {N Vz Sz' G : List Str} {sc : Scope} {X : Cx} {σ : L2.St} {H : Hp} {Q : VK} {x y : Str} {n m : Nat}
theorem o_addS (h1 : Sz x n) (h2 : Sz y m) (h : n + m ≤ sizeLine) (q : Q (.str (x ++ y)) H) : wO X (binaryOp .Add) (.str x) (.str y) H Q :=
  wO.of op_add_str ⟨x, y, rfl, rfl, Nat.le_trans (Nat.add_le_add h1 h2) h, q⟩
theorem o_neS (q : Q (.bl (decide (x ≠ y))) H) : wO X (compareOp .NotEq) (.str x) (.str y) H Q :=
  wO.of op_ne ⟨rfl, by rw [show (!decide (V.str x = V.str y)) = decide (x ≠ y) by simp]; exact q⟩
theorem o_eqSS (q : Q (.bl (decide (x = y))) H) : wO X (compareOp .Eq) (.str x) (.str y) H Q :=
  wO.of op_eq ⟨rfl, by rw [show decide (V.str x = V.str y) = decide (x = y) by simp]; exact q⟩
theorem o_neB {a b : Bool} (q : Q (.bl (decide (a ≠ b))) H) : wO X (compareOp .NotEq) (.bl a) (.bl b) H Q :=
  wO.of op_ne ⟨rfl, by rw [show (!decide (V.bl a = V.bl b)) = decide (a ≠ b) by simp]; exact q⟩
theorem c_strB {b : Bool} (q : Q (.str (if b then "True" else "False")) H) : wC X (.type "str") [.bl b] H Q := by
  refine ⟨fun pins s σ us I r => ?_⟩
  obtain ⟨u, rfl, rx⟩ := vals1 r
  obtain rfl : u = Value.bool b := rx
  exact PySem.P.str_of_bool ⟨.str _, H, I.tok _, ⟨_, rfl⟩, q⟩
theorem c_reprB {b : Bool} (q : Q (.str (if b then "True" else "False")) H) : wC X (.builtin "repr") [.bl b] H Q := by
  refine ⟨fun pins s σ us I r => ?_⟩
  obtain ⟨u, rfl, rx⟩ := vals1 r
  obtain rfl : u = Value.bool b := rx
  exact PySem.P.repr_of_bool ⟨.str _, H, I.tok _, ⟨_, rfl⟩, q⟩
theorem c_reprN (q : Q (.str "None") H) : wC X (.builtin "repr") [.non] H Q := by
  refine ⟨fun pins s σ us I r => ?_⟩
  obtain ⟨u, rfl, rx⟩ := vals1 r
  obtain rfl : u = Value.none := rx
  exact PySem.P.repr_of_none ⟨.str _, H, I.tok _, ⟨_, rfl⟩, q⟩
/-! ### dicts -/
variable {e o kx vx : Expr} {pos apos : Pos}
theorem wE_dnewK (q : ∀ p H2, H p = none → Ex H H2 → H2 p = some (.dK []) → Q (.ref p) H2) : wE X (.Dict [] [] pos) σ H Q := wE.of pe_dnewK fun p hp => q p _ hp (Ex.upd hp) upd_same
/-- {k: v} -/
theorem wE_disp1 (q : ∀ p H1, H p = none → Ex H H1 → H1 p = some (.dK []) → wE X kx σ H1 fun x H2 => wE X vx σ H2 fun y H3 => H3 p = some (.dK []) ∧ ∃ kk : Key, x = kV kk ∧ ∀ H4, Exb p H3 H4 → H4 p = some (.dK [(kk, y)]) → Q (.ref p) H4) :
    wE X (.Dict [some kx] [vx] pos) σ H Q := by
  refine wE.of (pe_disp (pps_cons (wE.pe (e := kx)) (wE.pe (e := vx)) pps_nil) rfl rfl (by simp) (by show 1 ≤ 15; decide)) fun p hp => ?_
  refine ⟨fun pins s I => thn ((q p _ hp (Ex.upd hp) upd_same).run pins s I) ?_⟩
  rintro u s1 ⟨x, H1, I1, r1, q1⟩
  refine ⟨x, H1, I1, r1, ⟨fun pins s I => thn (q1.run pins s I) ?_⟩⟩
  rintro u s1 ⟨y, H2, I2, r2, q2, kk, rfl, q3⟩
  exact ⟨y, H2, I2, r2, q2, [(kk, y)], rfl, by show 1 ≤ 15; decide, q3 _ Exb.upd upd_same⟩
/-- xs.index(e), flat things -/
def IxQ (K : PySem.W.Frag) (a : Addr) (ys : List V) (y : V) (H : Hp) (R : Int → Prop) : Prop := ∃ (j : Nat) (z : V), SqL K H a ys ∧ flatV y = true ∧ ys.all flatV = true ∧ ys[j]? = some z ∧ eqV z y = true ∧ (∀ (m : Nat) (z' : V), m < j → ys[m]? = some z' → eqV z' y = false) ∧ R (j : Nat)
theorem wE_index (C : CxI P w K mg base k N Vz Sz' G sc X) (hbase : attributeBase o "index" X.env (eval o X.env) = eval o X.env)
    (hfew : ((backTo pos (starEach [e] X.env)).all (fun x => !x.1) && (backToKw pos (keywordEach [] X.env)).all (fun x => x.1.isSome) && decide ([e].length + ([] : List Keyword).length + (if ([] : List Keyword).isEmpty then 0 else 1) < 30)) = true)
    (hline : (apos.endLine == pos.line) = true) (hs : starEach [e] X.env = (false, eval e X.env) :: starEach [] X.env) (hplain : (backTo pos (starEach [] X.env)).any (·.1) = false)
    (q : wE X o σ H fun x H1 => ∃ l xs, x = .ref l ∧ SqL K H1 l xs ∧ wE X e σ H1 fun y H2 => IxQ K l xs y H2 fun i => Q (.int i) H2) :
    wE X (.Call (.Attribute o "index" apos) [e] [] pos) σ H Q := by
  refine wE.of (pe_bm (T := "list") F.plainAttrs_list F.slot_list_index F.type_list_index mt_index wE.pe wA.pa hbase hfew hline hs hplain) ?_
  refine ⟨fun pins s I => thn (q.run pins s I) fun u s1 ⟨x, H1, I1, r1, l, xs, ex, hl, z⟩ => ⟨x, H1, I1, r1, ?_, ?_⟩⟩
  · subst ex
    exact .inl ⟨rfl, _, by rw [C.eK]; exact hl⟩
  · refine wA_cons hs ?_
    refine ⟨fun pins2 s2 I2 => thn (z.run pins2 s2 I2) fun u2 s3 ⟨y, H2, I3, r2, j, z', h1, h2, h3, h4, h5, h6, h7⟩ => ⟨y, H2, I3, r2, ?_⟩⟩
    exact wA_nil ⟨l, xs, y, j, z', ex, rfl, by rw [C.eK]; exact h1, h2, h3, h4, h5, h6, h7⟩
end
/-! ### texts of numbers, joined texts: which are alike -/
open TL
def numT (i : Int) : Str := Str.ofString (toString i)
theorem tl_of (s : String) : TL.tl (Str.ofString s) = s.toList.map Char.toNat := by rw [Str.ofString_eq_toList]
theorem numT_tl {i : Int} (h : 0 ≤ i) : TL.tl (numT i) = (Nat.toDigits 10 i.toNat).map Char.toNat := by
  obtain ⟨n, rfl⟩ := Int.eq_ofNat_of_zero_le h
  unfold numT
  rw [tl_of]
  have e : (toString (n : Int)) = n.repr := rfl
  rw [e, Nat.toList_repr, Int.toNat_natCast]
theorem numT_digit {i : Int} (h : 0 ≤ i) : ∀ c ∈ TL.tl (numT i), 48 ≤ c ∧ c ≤ 57 := by
  rw [numT_tl h]
  intro c hc
  obtain ⟨d, hd, rfl⟩ := List.mem_map.mp hc
  have z := Nat.isDigit_of_mem_toDigits (b := 10) (by decide) (by decide) hd
  unfold Char.isDigit at z
  rw [Bool.and_eq_true, decide_eq_true_eq, decide_eq_true_eq] at z
  obtain ⟨z1, z2⟩ := z
  have a1 : (48 : UInt32).toNat ≤ d.val.toNat := UInt32.le_iff_toNat_le.mp z1
  have a2 : d.val.toNat ≤ (57 : UInt32).toNat := UInt32.le_iff_toNat_le.mp z2
  exact ⟨a1, a2⟩
theorem numT_inj {i j : Int} (hi : 0 ≤ i) (hj : 0 ≤ j) (h : numT i = numT j) : i = j := by
  have z := congrArg TL.tl h
  rw [numT_tl hi, numT_tl hj] at z
  have inj : ∀ a b : Char, a.toNat = b.toNat → a = b := fun a b e => Char.ext (UInt32.toNat_inj.mp e)
  have z2 := List.map_inj_right (f := Char.toNat) (fun {a b} e => inj a b e) |>.mp z
  have z3 := congrArg (fun l => Nat.ofDigitChars 10 l 0) z2
  simp only [Nat.ofDigitChars_ten_toDigits] at z3
  omega
theorem app_left {a b c : Str} (h : a ++ b = a ++ c) : b = c := by
  have z := congrArg TL.tl h
  rw [TL.tl_append, TL.tl_append] at z
  exact TL.ext_tl (List.append_cancel_left z)
theorem app_right {a b c : Str} (h : a ++ c = b ++ c) : a = b := by
  have z := congrArg TL.tl h
  rw [TL.tl_append, TL.tl_append] at z
  exact TL.ext_tl (List.append_cancel_right z)
theorem join_inj {y : Str} {s : Nat} {S : List Nat} (ey : TL.tl y = s :: S) (hk : y.cps.all (· < 256) = true) {ps qs : List Str} (h1 : ps ≠ []) (h2 : qs ≠ []) (hp : ∀ p ∈ ps, s ∉ TL.tl p) (hq : ∀ p ∈ qs, s ∉ TL.tl p)
    (h : Txt.join y ps = Txt.join y qs) : ps = qs := by
  rw [← TL.split_join ey hk h1 hp, ← TL.split_join ey hk h2 hq, h]
/-- a part that may be left out -/
theorem opt_part {α : Type} (f : α → Nat) (c : Nat) {A A' B B' : List α} (hA : ∀ x ∈ A, f x = c) (hA' : ∀ x ∈ A', f x = c) (l : A.length ≤ 1) (l' : A'.length ≤ 1) (hB : ∀ x ∈ B, f x ≠ c) (hB' : ∀ x ∈ B', f x ≠ c) (h : A ++ B = A' ++ B') : A = A' ∧ B = B' := by
  match A, A', hA, hA', l, l', h with
  | [], [], _, _, _, _, h => exact ⟨rfl, h⟩
  | [x], [y], _, _, _, _, h => rw [List.cons_append, List.cons_append, List.nil_append, List.nil_append] at h; injection h with h1 h2; exact ⟨by rw [h1], h2⟩
  | [], [y], _, hA', _, _, h =>
    rw [List.nil_append, List.cons_append, List.nil_append] at h
    exact absurd (hA' y List.mem_cons_self) (hB y (by rw [h]; exact List.mem_cons_self))
  | [x], [], hA, _, _, _, h =>
    rw [List.nil_append, List.cons_append, List.nil_append] at h
    exact absurd (hA x List.mem_cons_self) (hB' x (by rw [← h]; exact List.mem_cons_self))
  | _ :: _ :: _, _, _, _, l, _, _ => simp at l
  | _, _ :: _ :: _, _, _, _, l', _ => simp at l'
/-- the first sign -/
def sgn (s : Str) : Nat := (TL.tl s).headD 0
end Rp
namespace Rp
open PySem PySem.Spec PyProof.Rows L2
section
variable {P : Program} {w : World} {K : PySem.W.Frag} {mg : Str → Option Value} {base : Heap} {k : Nat} {N Vz Sz G Vc Sc' Gc : List Str} {sc scope : Scope} {X : Cx} {elt tg it c : Expr} {ifs : List Expr} {σ : L2.St} {H : Hp} {pos : Pos} {Q : VK} {D : Ends}
/-- y = [.. for .. in a list] on one line -/
theorem wS_lcL {y : Str} {py spos : Pos} (own : List (Str × Nat)) (Vc Sc' Gc : List Str) (C : CxI P w K mg base k N Vz Sz G sc X) (ob : blkC N sc scope own = true) (ok : namesOk Vc Sc' Gc (relS scope sc) = true) (hl : localsOk Sc' (relS scope sc) = true) (hk : scope.kind = .function)
    (hyN : y ∈ N) (hy : (sc.names.lookup y == some .local) = true) (hp : (py.line == pos.line) = true) (ha : (scope.names.any fun (n, k) => n == y && (k == .local || k == .cell)) = false)
    (hf : ∀ x, foldedSetIterable it X.env x = pure x) (q : wE X it σ H fun v H1 => LcL P w K mg base k N Vc Sc' Gc (relS scope sc) (own.map (·.2)) elt tg ifs σ v H1 fun Da H => Put N σ y (.ref Da) fun σ' => D.nx σ' H) :
    wS X (.Assign [.Name y py] (.ListComp elt [⟨tg, it, ifs, 0⟩] scope pos) spos) D σ H := by
  have hyl : X.env.scope.names.lookup y = some .local := by rw [C.es]; exact eq_of_beq hy
  have hin : ∃ i, N[i]? = some y ∧ ∀ (v : V) R, Put N σ y v R → R (σ.set i (some v)) := by
    obtain ⟨i, hi⟩ := List.getElem?_of_mem hyN
    refine ⟨i, hi, fun v R q => ?_⟩
    obtain ⟨σ', p, r⟩ := q
    obtain ⟨j, hj, rfl⟩ := p.ix
    rw [nodup_ix C.nd hi hj]
    exact r
  obtain ⟨i, hi, hput⟩ := hin
  refine wS.of (ps_setLc (i := i) C.calm (by rw [C.eN]; exact C.nd) (by rw [C.eN]; exact hi) hyl (sw_true (by rw [C.es]; exact C.fk) hyl hp ha) (pi_list wE.pe) (blkOk_by (own := own) (by rw [C.eN, C.es]; exact ob)) (blk_pg C ok hl hk) (fun s H Ca cl fp => blk_pts C ok hl hk s H Ca cl fp ifs) (blk_pe C ok hl hk) hf) ?_
  show wE X it σ H _
  refine ⟨fun pins s I => thn (q.run pins s I) ?_⟩
  rintro u s1 ⟨v, H1, I1, r1, q1⟩
  refine ⟨v, H1, I1, r1, lcL_read (Q := fun x H => gName i x σ H D.nx) (s := s1) (u := u) (pins := pins) C ?_⟩
  obtain ⟨ad, xs, e, hS, q1⟩ := q1
  refine ⟨ad, xs, e, hS, fun Da hD => ?_⟩
  obtain ⟨Pv, h0, hl, hs, hd⟩ := q1 Da hD
  exact ⟨Pv, h0, hl, hs, fun H hp => hput _ _ (hd H hp)⟩
end
/-- the names of the built-in types of things -/
def oddTs : List String := ["NoneType", "bool", "int", "str", "list", "tuple", "dict"]
/-- what is known of a class with an own == -/
structure ClsF (K : PySem.W.Frag) (C : Addr) : Prop where
  sub1 : ∀ T ∈ oddTs, PySem.W.subIn K (.type T) (.ref C) = some false
  sub2 : ∀ T ∈ oddTs, PySem.W.subIn K (.ref C) (.type T) = some false
  kit : ∀ T ∈ oddTs, PySem.W.kitOne K (.type T) (.ref C) = some false
  mro : PySem.W.mroIn K C (.type "object") = some true
  hne : PySem.W.findIn K (.ref C) "__ne__" = some (some (.builtin "object.__ne__"))
  ha : PySem.W.findIn K (.ref C) "__class__" = some (some (.builtin "object.__class__"))
  hn : PySem.W.specialIn K (.builtin "object.__class__") "__get__" = some (some (.builtin "getset_descriptor.__get__"))
  ht : PySem.W.takesIn K (.builtin "object.__class__") = some true
def clsFB (K : PySem.W.Frag) (C : Addr) : Bool :=
  (oddTs.all fun T => decide (PySem.W.subIn K (.type T) (.ref C) = some false) && (decide (PySem.W.subIn K (.ref C) (.type T) = some false) && decide (PySem.W.kitOne K (.type T) (.ref C) = some false))) &&
  (decide (PySem.W.mroIn K C (.type "object") = some true) && (He.eqO (PySem.W.findIn K (.ref C) "__ne__") (some (some (.builtin "object.__ne__"))) && (He.eqO (PySem.W.findIn K (.ref C) "__class__") (some (some (.builtin "object.__class__"))) &&
  (He.eqO (PySem.W.specialIn K (.builtin "object.__class__") "__get__") (some (some (.builtin "getset_descriptor.__get__"))) && decide (PySem.W.takesIn K (.builtin "object.__class__") = some true)))))
theorem clsFB_ok {K : PySem.W.Frag} {C : Addr} (h : clsFB K C = true) : ClsF K C := by
  unfold clsFB at h
  rw [Bool.and_eq_true, Bool.and_eq_true, Bool.and_eq_true, Bool.and_eq_true, Bool.and_eq_true] at h
  obtain ⟨h1, h2, h3, h4, h5, h6⟩ := h
  have z := List.all_eq_true.mp h1
  refine ⟨fun T hT => ?_, fun T hT => ?_, fun T hT => ?_, of_decide_eq_true h2, He.eqO_ok h3, He.eqO_ok h4, He.eqO_ok h5, of_decide_eq_true h6⟩
  all_goals
    have y := z T hT
    rw [Bool.and_eq_true, Bool.and_eq_true] at y
  · exact of_decide_eq_true y.1
  · exact of_decide_eq_true y.2.1
  · exact of_decide_eq_true y.2.2
section
variable {K : PySem.W.Frag} {X : Cx} {H : Hp} {y : V} {T : String}
theorem ty_dct {p : Addr} {kvs : List (Key × V)} (h : H p = some (.dK kvs)) : TyV X (.ref p) H (.type "dict") := fun pins σ s u I r => by
  obtain rfl : u = Value.ref p := r
  obtain ⟨_, _, _, _, o, _, _, e, ex, _⟩ := (show ObjOk X.prog X.w H s.heap p (.dK kvs) from I.hok p _ h)
  exact ty_at e ex.1
theorem Thg.tyV (h : Thg H y T) : TyV X y H (.type T) := by
  cases h with
  | non => exact ty_non
  | bl b => exact ty_bl
  | int i => exact ty_int
  | str z => exact ty_str
  | lst e => exact ty_lst e
  | tup e => exact ty_tup e
  | dct e => exact ty_dct e
theorem Thg.tyX (h : Thg H y T) : TyX K H y (.type T) := by
  cases h with
  | non => exact .base .non
  | bl b => exact .base (.bl b)
  | int i => exact .base (.int i)
  | str z => exact .base (.str z)
  | lst e => exact .base (.lst e)
  | tup e => exact .base (.tup e)
  | dct e => exact .base (.dK e)
theorem Thg.odd (h : Thg H y T) : T ∈ oddTs := by
  cases h <;> decide
theorem Thg.ex {H' : Hp} (h : Thg H y T) (e : Ex H H') : Thg H' y T := by
  cases h with
  | non => exact .non
  | bl b => exact .bl b
  | int i => exact .int i
  | str z => exact .str z
  | lst q => exact .lst (e _ _ q)
  | tup q => exact .tup (e _ _ q)
  | dct q => exact .dct (e _ _ q)
theorem ClsF.nf {C : Addr} (F : ClsF K C) (h : T ∈ oddTs) : PySem.W.notFirst K C (.type T) = true := by
  unfold PySem.W.notFirst
  rw [F.sub1 T h]
  simp
theorem ClsF.ty {C a dx : Addr} {fs : List (Str × V)} (F : ClsF K C) (c : Cls K C) (h : H a = some (.ins C dx fs)) : TyX K H (.ref a) (.ref C) := .base (.ins h c F.ha F.hn F.ht F.mro)
theorem nf_self {C : Addr} : PySem.W.notFirst K C (.ref C) = true := by unfold PySem.W.notFirst; simp
end
end Rp
namespace Rp
open PySem PySem.Spec PyProof.Rows L2
section
variable {P : Program} {w : World} {K : PySem.W.Frag} {mg : Str → Option Value} {base : Heap} {k : Nat} {N Vz Sz' G Vc Sc' Gc : List Str} {sc scope : Scope} {X : Cx} {elt tg it c e o : Expr} {ifs : List Expr} {σ : L2.St} {H : Hp} {pos apos p1 p2 : Pos} {Q : VK} {D : Ends} {m n : Int} {x y : Str}
/-! ### wide division -/
theorem pylong_no {n : Int} (h0 : 0 < n) (h1 : n < 4611686018427387904) : Builtin.divisionGoesByPylong m n = false := PyProof.noPylong_of_log2 (by
  have z : n.natAbs < 2 ^ 62 := by
    have e : (2 : Nat) ^ 62 = 4611686018427387904 := by decide
    omega
  by_cases hz : n.natAbs = 0
  · rw [hz]; decide
  · exact Nat.lt_trans ((Nat.log2_lt hz).mpr z) (by decide))
theorem c_divmodW (h1 : 0 < n) (h2 : n < 4611686018427387904) (q : ∀ p H2, H p = none → Ex H H2 → H2 p = some (.tup [.int (m / n), .int (m % n)]) → Q (.ref p) H2) : wC X (.builtin "divmod") [.int m, .int n] H Q :=
  wC.of call_divmodW ⟨m, n, rfl, ⟨h1, pylong_no h1 h2⟩, fun p hp => q p _ hp (Ex.upd hp) upd_same⟩
/-! ### comprehensions over a text, a range -/
def LcS (P : Program) (w : World) (K : PySem.W.Frag) (mg : Str → Option Value) (base : Heap) (k : Nat) (N Vc Sc' Gc : List Str) (scope : Scope) (vs : List Nat) (elt tg : Expr) (ifs : List Expr) (σ : L2.St) (v : V) (H1 : Hp) (Q : Addr → Hp → Prop) : Prop :=
  ∃ z : Str, v = .str z ∧ ∀ D, H1 D = none → ∃ Pv : Nat → Hp → Prop, Pv 0 (L2.upd H1 D (.lst [])) ∧
    (∀ i c H, z.cps[i]? = some c → Pv i H → LcStep P w K mg base k N Vc Sc' Gc scope vs elt tg ifs σ D (.str ⟨#[c]⟩) H (Pv (i + 1))) ∧ ∀ H, Pv z.cps.size H → Q D H
theorem wE_lcS (own : List (Str × Nat)) (Vc Sc' Gc : List Str) (C : CxI P w K mg base k N Vz Sz' G sc X) (ob : blkC N sc scope own = true) (ok : namesOk Vc Sc' Gc (relS scope sc) = true) (hl : localsOk Sc' (relS scope sc) = true) (hk : scope.kind = .function)
    (hf : ∀ x, foldedSetIterable it X.env x = pure x) (q : wE X it σ H fun v H1 => LcS P w K mg base k N Vc Sc' Gc (relS scope sc) (own.map (·.2)) elt tg ifs σ v H1 fun D H => Q (.ref D) H) :
    wE X (.ListComp elt [⟨tg, it, ifs, 0⟩] scope pos) σ H Q := by
  refine wE.of (pe_lc C.calm (by rw [C.eN]; exact C.nd) (pi_str wE.pe) (blkOk_by (own := own) (by rw [C.eN, C.es]; exact ob)) (blk_pg C ok hl hk) (fun s H Ca cl fp => blk_pts C ok hl hk s H Ca cl fp ifs) (blk_pe C ok hl hk) hf) ?_
  show wE X it σ H _
  refine ⟨fun pins s I => thn (q.run pins s I) ?_⟩
  rintro u s1 ⟨v, H1, I1, r1, z, rfl, q1⟩
  refine ⟨_, H1, I1, r1, z, rfl, fun D hD => ?_⟩
  obtain ⟨Pv, h0, hs, hd⟩ := q1 D hD
  refine ⟨fun i m H => m = z.cps.size - i ∧ i ≤ z.cps.size ∧ Pv i H, ⟨z.cps.size, rfl, Nat.zero_le _, h0⟩, ?_⟩
  rintro i m H ⟨rfl, hi, p⟩
  by_cases hlt : i < z.cps.size
  · refine .inr ⟨hlt, Pv (i + 1), fun H' p' => ⟨z.cps.size - (i + 1), by omega, rfl, hlt, p'⟩, fun x H' y => ?_⟩
    obtain ⟨rfl, c, hc, rfl⟩ := y
    exact hs i c H' hc p
  · have e' : i = z.cps.size := by omega
    subst e'
    exact .inl ⟨Nat.le_refl _, hd H p⟩
def LcR (P : Program) (w : World) (K : PySem.W.Frag) (mg : Str → Option Value) (base : Heap) (k : Nat) (N Vc Sc' Gc : List Str) (scope : Scope) (vs : List Nat) (elt tg : Expr) (ifs : List Expr) (σ : L2.St) (v : V) (H1 : Hp) (Q : Addr → Hp → Prop) : Prop :=
  ∃ n : Nat, v = .int n ∧ n < 1000000 ∧ ∀ D, H1 D = none → ∃ Pv : Nat → Hp → Prop, Pv 0 (L2.upd H1 D (.lst [])) ∧
    (∀ i H, i < n → Pv i H → LcStep P w K mg base k N Vc Sc' Gc scope vs elt tg ifs σ D (.int i) H (Pv (i + 1))) ∧ ∀ H, Pv n H → Q D H
/-- [.. for .. in range(e)] -/
theorem wE_lcR (own : List (Str × Nat)) (Vc Sc' Gc : List Str) (C : CxI P w K mg base k N Vz Sz' G sc X) (ob : blkC N sc scope own = true) (ok : namesOk Vc Sc' Gc (relS scope sc) = true) (hl : localsOk Sc' (relS scope sc) = true) (hk : scope.kind = .function)
    (hm : mg "range" = none) (hx : ("range" : Str) ∈ G) (hst : starEach [e] X.env = [(false, eval e X.env)])
    (q : wE X e σ H fun v H1 => LcR P w K mg base k N Vc Sc' Gc (relS scope sc) (own.map (·.2)) elt tg ifs σ v H1 fun D H => Q (.ref D) H) :
    wE X (.ListComp elt [⟨tg, .Call (.Name "range" p1) [e] [] p2, ifs, 0⟩] scope pos) σ H Q := by
  obtain ⟨l, _, _⟩ := C.glo hx
  refine wE.of (pe_lc C.calm (by rw [C.eN]; exact C.nd) (pi_range1 l (by rw [C.em]; exact hm) (pa_cons wE.pe pa_nil hst) hst) (blkOk_by (own := own) (by rw [C.eN, C.es]; exact ob)) (blk_pg C ok hl hk) (fun s H Ca cl fp => blk_pts C ok hl hk s H Ca cl fp ifs) (blk_pe C ok hl hk) (fun _ => rfl)) ?_
  refine ⟨fun pins s I => thn (q.run pins s I) ?_⟩
  rintro u s1 ⟨v, H1, I1, r1, n, rfl, hn, q1⟩
  refine ⟨_, H1, I1, r1, n, rfl, by omega, by omega, ?_⟩
  rw [show ((n : Int).toNat) = n from Int.toNat_natCast n]
  intro D hD
  obtain ⟨Pv, h0, hs, hd⟩ := q1 D hD
  refine ⟨fun i m H => m = n - i ∧ i ≤ n ∧ Pv i H, ⟨n, rfl, Nat.zero_le _, h0⟩, ?_⟩
  rintro i m H ⟨rfl, hi, p⟩
  by_cases hlt : i < n
  · refine .inr ⟨hlt, Pv (i + 1), fun H' p' => ⟨n - (i + 1), by omega, rfl, hlt, p'⟩, fun x H' y => ?_⟩
    obtain ⟨rfl, rfl⟩ := y
    rw [Int.zero_add]
    exact hs i H' hlt p
  · have e' : i = n := by omega
    subst e'
    exact .inl ⟨Nat.le_refl _, hd H p⟩
/-! ### texts -/
theorem o_inSign {c : Nat} (q : Q (.bl (decide (c ∈ y.cps.toList))) H) : wO X (compareOp .In) (.str ⟨#[c]⟩) (.str y) H Q := wO.of op_in_sign ⟨c, y, rfl, rfl, q⟩
theorem c_all {a : Addr} {bs : List Bool} (C : CxI P w K mg base k N Vz Sz' G sc X) (h : SqL K H a (bs.map V.bl)) (q : Q (.bl (bs.all id)) H) : wC X (.builtin "all") [.ref a] H Q := wC.of (cr_all C.calm) ⟨a, bs, rfl, by rw [C.eK]; exact h, q⟩
theorem i_str {c d : Expr} {z : Str} {j : Nat} (hs : PlainIx d) (hz : z.length ≤ sizeLine) (hi : atI z.cps.toList m = some j) (q : Q (.str ⟨#[j]⟩) H) : wIx X c d (.str z) (.int m) H Q := wIx_of ix_str hs ⟨z, m, j, rfl, rfl, hz, hi, q⟩
theorem c_lenS {z : Str} (hz : z.length ≤ sizeLine) (q : Q (.int z.length) H) : wC X (.builtin "len") [.str z] H Q := wC.of call_len_str ⟨z, rfl, hz, q⟩
theorem c_intB {b : Bool} (q : Q (.int (if b then 1 else 0)) H) : wC X (.type "int") [.bl b] H Q := wC.of call_int1 (.inr ⟨b, rfl, q⟩)
theorem o_notB {a b : Bool} (q : Q (.bl (!decide (a = b))) H) : wO X (compareOp .IsNot) (.bl a) (.bl b) H Q := wO.of op_isnot_bl ⟨a, b, rfl, rfl, q⟩
/-- one sign so many times -/
theorem o_mulS {c : Nat} (h1 : 1 ≤ n) (h2 : n ≤ 1000) (q : Q (.str ⟨(List.replicate n.toNat c).toArray⟩) H) : wO X (binaryOp .Mult) (.str ⟨#[c]⟩) (.int n) H Q := by
  refine ⟨fun pins s σ v u I rx ry => ?_⟩
  obtain ⟨t, rfl⟩ := rx
  obtain ⟨t', rfl⟩ := ry
  have hl : (⟨#[c]⟩ : Str).length = 1 := rfl
  have fold : ∀ (k : Nat) (acc : Array Nat), (List.replicate k (#[c] : Array Nat)).foldl (· ++ ·) acc = acc ++ (List.replicate k c).toArray := by
    intro k
    induction k with
    | zero => intro acc; simp
    | succ k ih => intro acc; rw [List.replicate_succ, List.foldl_cons, ih, List.replicate_succ]; apply Array.ext'; simp
  refine PySem.P.mul_str ?_ (fun _ _ => ?_) (fun _ _ => ?_) ?_
  · have e1 : ¬ n < -(2 ^ 63 : Int) := by omega
    have e2 : ¬ n ≥ 2 ^ 63 := by omega
    rw [decide_eq_false e1, decide_eq_false e2]; rfl
  · rw [hl]
    have : (2 ^ 63 - 1) / 1000 ≤ ((2 ^ 63 - 1) / n : Int) := (by
      refine Int.le_ediv_of_mul_le (by omega) ?_
      have : (2 ^ 63 - 1) / 1000 * n ≤ (2 ^ 63 - 1) / 1000 * 1000 := Int.mul_le_mul_of_nonneg_left h2 (by decide)
      refine Int.le_trans this (by decide))
    have e : (1 : Int) ≤ (2 ^ 63 - 1) / 1000 := by decide
    have e' : ((1 : Nat) : Int) = 1 := rfl
    omega
  · rw [hl]
    unfold PySem.Builtin.Str.tooLong
    simp only [Nat.one_mul]
    have : n.toNat ≤ 1000 := by omega
    first
      | (rw [decide_eq_false]; rw [sizeLine_eq]; omega)
      | (simp only [decide_eq_false_iff_not]; rw [sizeLine_eq]; omega)
  · rw [if_neg (by omega)]
    split
    · rename_i z
      have hn : n = 1 := by
        rcases Bool.or_eq_true_iff.mp z with z | z
        · exact eq_of_beq z
        · rw [hl] at z; cases z
      subst hn
      exact ⟨.str ⟨#[c]⟩, H, I, ⟨t, rfl⟩, q⟩
    · rw [fold]
      refine ⟨?_, ⟨.str ⟨(List.replicate n.toNat c).toArray⟩, H, I.tok _, ⟨s.toks, by simp⟩, q⟩⟩
      show (#[] ++ (List.replicate n.toNat c).toArray).size ≤ sizeLine
      rw [sizeLine_eq]
      simp only [Array.size_append, List.size_toArray, List.length_replicate, List.length_nil]
      omega
/-! ### a table with text keys -/
theorem o_inTab {d : Addr} {es : Array DictEntry} {nn : Nat} {r : Option Value} (C : CxI P w K mg base k N Vz Sz' G sc X) (T : KDict K w d es nn) (h : PySem.W.nsIn K d x = some r) (q : Q (.bl r.isSome) H) : wO X (compareOp .In) (.str x) (.ref d) H Q := by
  obtain ⟨rfl, rfl, rfl, _⟩ := C
  exact wO.of (op_in_kd T) ⟨x, r, rfl, rfl, h, q⟩
theorem i_tab {c d : Expr} {p : Addr} {es : Array DictEntry} {nn : Nat} {u0 : Value} {v0 : V} (C : CxI P w K mg base k N Vz Sz' G sc X) (hs : PlainIx d) (T : KDict K w p es nn) (h : PySem.W.nsIn K p x = some (some u0)) (r : RelV v0 u0) (q : Q v0 H) : wIx X c d (.ref p) (.str x) H Q := by
  obtain ⟨rfl, rfl, rfl, _⟩ := C
  exact wIx_of ix_kdict hs ⟨p, x, v0, rfl, rfl, ⟨es, nn, u0, T.at_, T.lit, h, r⟩, q⟩
/-! ### f-strings, more -/
def FrQ (x : V) (H : Hp) (Q : VK) : Prop := (∃ y : Str, x = .str y ∧ (reprText y).length ≤ sizeLine ∧ Q (.str (reprText y)) H) ∨ ∃ i : Int, x = .int i ∧ i.natAbs.log2 < 1920 ∧ Q (.str (toString i)) H
theorem wE_fmtR (q : wE X e σ H fun x H1 => FrQ x H1 Q) : wE X (.FormattedValue e 114 none pos) σ H Q := wE.of (pe_fmtR wE.pe) q
theorem fr_s (h : (reprText y).length ≤ sizeLine) (q : Q (.str (reprText y)) H) : FrQ (.str y) H Q := .inl ⟨y, rfl, h, q⟩
/-- {x} of a truth -/
theorem wE_fmtB {e : Expr} (q : wE X e σ H fun x H1 => ∃ b : Bool, x = .bl b ∧ Q (.str (if b then "True" else "False")) H1) : wE X (.FormattedValue e (-1) none pos) σ H Q := by
  refine ⟨fun pins s I => ?_⟩
  refine wpAny_FormattedValue_plain (thn (q.run pins s I) ?_)
  rintro u s1 ⟨x, H1, I1, r1, b, rfl, q1⟩
  obtain rfl : u = Value.bool b := r1
  exact wpAny_formatField_bool ⟨.str _, H1, (I1.tok _).tok _, ⟨_, rfl⟩, q1⟩
end
end Rp
namespace Rp
open PySem PySem.Spec PyProof.Rows L2
/-! ### defs that may raise -/
/-- a def's wish of what it lets out, whatever its names -/
abbrev wOf (E : XK) : WX := fun cls d _ H => E cls d H
section
variable {P : Program} {w : World} {K : PySem.W.Frag} {mg : Str → Option Value} {base : Heap} {k j n : Nat} {N Vz Sz G ps ks : List Str} {sc : Scope} {x m : Str} {v : V} {p apos : Pos} {X : Cx} {f C : Addr} {fd : FuncData} {sp : Sp} {st : Stmt} {qual : Str}
variable {e a b o : Expr} {es : List Expr} {kws : List Keyword} {σ : L2.St} {H : Hp} {Q : VK} {pos : Pos} {dvs : List V} {E : XK}
theorem passLN {X : Cx} : Passes (L2N.CX X.prog X.w) X E0 := fun _ _ _ _ _ _ _ c => by
  obtain ⟨_, _, _, _, _, _, _, _, _, _, _, _, z⟩ := c
  exact z.elim
/-- a raising def by its body -/
theorem fn_wX (F : Fn K x qual st f fd) (S : FnScope N ps (defScope st)) (ok : namesOk Vz Vz G (defScope st) = true) (len : ∀ vs H Q E, sp vs H Q E → vs.length = ps.length)
    (body : ∀ (X : Cx) (vs : List V) (H : Hp) (Q : VK) (E : XK), CxI P w K mg base k N Vz Vz G (defScope st) X → L2N.Takes X (wOf E) → sp vs H Q E → wB X (defBody st) { nx := fun _ H' => Q .non H', rt := Q } (start N vs) H) : FnOk P w K mg base (L2N.CX P w) (k + 1) f fd ps sp := by
  obtain ⟨dvs, kws, F⟩ := F.ex
  refine FunD.ok F S len fun cdv A outer s H vs Q E hr h => ⟨_, wB.pss, body _ vs H Q E ?_ (L2N.takes_of rfl rfl rfl rfl) h⟩
  exact ⟨rfl, rfl, rfl, rfl, rfl, rfl, rfl, hr, rfl, .inl fun _ => rfl, passes_of rfl, S.nd, ok, S.kind⟩
/-- such a def as its callers see it -/
structure Dx (P : Program) (w : World) (K : PySem.W.Frag) (mg : Str → Option Value) (base : Heap) (k : Nat) (x : Str) (ps : List Str) (dvs : List V) (sp : Sp) : Prop where
  ex : ∃ f fd ds, FnOk P w K mg base (L2N.CX P w) k f fd ps sp ∧ mg x = some (.ref f) ∧ PySem.W.keepIn K (.ref f) = true ∧ Binds K fd ps ds ∧ Vals dvs ds
theorem wE_callX (I : CxI P w K mg base k N Vz Sz G sc X) (T : L2N.Takes X (wOf E)) (D : Dx P w K mg base j x ps dvs sp) (hx : x ∈ G) (hj : j ≤ k) (he : starEach (e :: es) X.env = (false, eval e X.env) :: starEach es X.env) (hpl : (backTo pos (starEach es X.env)).any (·.1) = false)
    (q : wA X (e :: es) σ H fun vs H1 => sp (vs ++ dvs) H1 Q E) : wE X (.Call (.Name x p) (e :: es) [] pos) σ H Q := by
  obtain ⟨f, fd, ds, Fk, hm, kp, hb, hd⟩ := D.ex
  obtain ⟨l, d1, _⟩ := I.glo hx
  obtain ⟨rfl, rfl, rfl, rfl, rfl, _, _, hr, _, _, _, _, _⟩ := I
  exact wE.of (pe_call Fk (hr.mono hj) l hm kp hb hd (L2N.passes_call T fun _ _ _ _ h => h) wA.pa d1 he hpl) q
/-- where nothing is let out -/
theorem wE_callQ (I : CxI P w K mg base k N Vz Sz G sc X) (D : Dx P w K mg base j x ps dvs sp) (hx : x ∈ G) (hj : j ≤ k) (he : starEach (e :: es) X.env = (false, eval e X.env) :: starEach es X.env) (hpl : (backTo pos (starEach es X.env)).any (·.1) = false)
    (q : wA X (e :: es) σ H fun vs H1 => sp (vs ++ dvs) H1 Q E0) : wE X (.Call (.Name x p) (e :: es) [] pos) σ H Q := by
  obtain ⟨f, fd, ds, Fk, hm, kp, hb, hd⟩ := D.ex
  obtain ⟨l, d1, _⟩ := I.glo hx
  obtain ⟨rfl, rfl, rfl, rfl, rfl, _, _, hr, _, _, _, _, _⟩ := I
  exact wE.of (pe_call Fk (hr.mono hj) l hm kp hb hd passLN wA.pa d1 he hpl) q
/-! ### keywords -/
structure Dk (P : Program) (w : World) (K : PySem.W.Frag) (mg : Str → Option Value) (base : Heap) (k : Nat) (x : Str) (n : Nat) (ks : List Str) (gV : List V → List V → List V) (sp : Sp) : Prop where
  ex : ∃ f fd ps g, FnOk P w K mg base (L2N.CX P w) k f fd ps sp ∧ mg x = some (.ref f) ∧ PySem.W.keepIn K (.ref f) = true ∧ KBn K fd ps n ks g gV
theorem wE_callNX {gV : List V → List V → List V} (I : CxI P w K mg base k N Vz Sz G sc X) (T : L2N.Takes X (wOf E)) (D : Dk P w K mg base j x n ks gV sp) (hx : x ∈ G) (hj : j ≤ k)
    (hall : (backToKw pos (keywordEach kws X.env)).all (·.1.isSome) = true) (hks : (backToKw pos (keywordEach kws X.env)).filterMap (·.1) = ks)
    (he : starEach (e :: es) X.env = (false, eval e X.env) :: starEach es X.env) (hpl : ((backTo pos (starEach (e :: es) X.env)).any (·.1) || (backToKw pos (keywordEach kws X.env)).any (·.1.isNone)) = false)
    (q : wA X (e :: es) σ H fun vs H1 => wK X kws σ H1 fun zs H2 => vs.length = n ∧ zs.length = ks.length ∧ sp (gV vs zs) H2 Q E) : wE X (.Call (.Name x p) (e :: es) kws pos) σ H Q := by
  obtain ⟨f, fd, ps, g, Fk, hm, kp, hb⟩ := D.ex
  obtain ⟨l, d1, _⟩ := I.glo hx
  obtain ⟨rfl, rfl, rfl, rfl, rfl, _, _, hr, _, _, _, _, _⟩ := I
  exact wE.of (pe_callN Fk (hr.mono hj) l hm kp hb (L2N.passes_call T fun _ _ _ _ h => h) wA.pa wK.pk hall hks d1 he hpl) q
/-! ### methods by places -/
structure Me (P : Program) (w : World) (K : PySem.W.Frag) (mg : Str → Option Value) (base : Heap) (k : Nat) (C : Addr) (m : Str) (dvs : List V) (sp : Sp) : Prop where
  ex : ∃ f fd ps ds, Meth K C m f ∧ FnOk P w K mg base (L2N.CX P w) k f fd ps sp ∧ Binds K fd ps ds ∧ Vals dvs ds
theorem wE_methX {pl : Sem Bool} (I : CxI P w K mg base k N Vz Sz G sc X) (T : L2N.Takes X (wOf E)) (c : Cls K C) (M : Me P w K mg base j C m dvs sp) (hj : j ≤ k)
    (hst : starEach (e :: es) X.env = (false, eval e X.env) :: starEach es X.env) (hpl : (backTo pos (starEach es X.env)).any (·.1) = false)
    (ht : eval (.Call (.Attribute o m apos) (e :: es) [] pos) X.env = (do
      let ov ← eval o X.env
      standAt apos.atName
      let (f, first) ← holding [ov] (getMethod ov m pl)
      callWith pos f first (backTo pos (starEach (e :: es) X.env)) (backToKw pos (keywordEach [] X.env))))
    (q : wE X o σ H fun y H1 => MetQ C m y H1 (wA X (e :: es) σ H1 fun vs H2 => sp (y :: (vs ++ dvs)) H2 Q E)) : wE X (.Call (.Attribute o m apos) (e :: es) [] pos) σ H Q := by
  obtain ⟨f, fd, ps, ds, hm, Fk, hb, hd⟩ := M.ex
  obtain ⟨rfl, rfl, rfl, rfl, rfl, _, _, hr, _, _, _, _, _⟩ := I
  refine wE.of (pe_meth wE.pe c hm Fk (hr.mono hj) hb hd (L2N.passes_call T fun _ _ _ _ h => h) wA.pa hst hpl ht) ⟨fun pins s I => thn (q.run pins s I) ?_⟩
  rintro u s1 ⟨y, H1, I1, r1, ad, dx, fs, e1, e2, e3, q1⟩
  exact ⟨y, H1, I1, r1, ad, dx, fs, e1, e2, e3, q1⟩
theorem wE_methQ {pl : Sem Bool} (I : CxI P w K mg base k N Vz Sz G sc X) (c : Cls K C) (M : Me P w K mg base j C m dvs sp) (hj : j ≤ k)
    (hst : starEach (e :: es) X.env = (false, eval e X.env) :: starEach es X.env) (hpl : (backTo pos (starEach es X.env)).any (·.1) = false)
    (ht : eval (.Call (.Attribute o m apos) (e :: es) [] pos) X.env = (do
      let ov ← eval o X.env
      standAt apos.atName
      let (f, first) ← holding [ov] (getMethod ov m pl)
      callWith pos f first (backTo pos (starEach (e :: es) X.env)) (backToKw pos (keywordEach [] X.env))))
    (q : wE X o σ H fun y H1 => MetQ C m y H1 (wA X (e :: es) σ H1 fun vs H2 => sp (y :: (vs ++ dvs)) H2 Q E0)) : wE X (.Call (.Attribute o m apos) (e :: es) [] pos) σ H Q := by
  obtain ⟨f, fd, ps, ds, hm, Fk, hb, hd⟩ := M.ex
  obtain ⟨rfl, rfl, rfl, rfl, rfl, _, _, hr, _, _, _, _, _⟩ := I
  refine wE.of (pe_meth wE.pe c hm Fk (hr.mono hj) hb hd passLN wA.pa hst hpl ht) ⟨fun pins s I => thn (q.run pins s I) ?_⟩
  rintro u s1 ⟨y, H1, I1, r1, ad, dx, fs, e1, e2, e3, q1⟩
  exact ⟨y, H1, I1, r1, ad, dx, fs, e1, e2, e3, q1⟩
/-! ### classes whose __init__ may raise -/
structure Mx (P : Program) (w : World) (K : PySem.W.Frag) (mg : Str → Option Value) (base : Heap) (k : Nat) (x : Str) (C : Addr) (dvs : List V) (sp : Sp) : Prop where
  ex : ∃ f fd ps ds, Mk K C f ∧ FnOk P w K mg base (L2N.CX P w) k f fd ps sp ∧ mg x = some (.ref C) ∧ Binds K fd ps ds ∧ Vals dvs ds
theorem wE_makeX (I : CxI P w K mg base k N Vz Sz G sc X) (T : L2N.Takes X (wOf E)) (M : Mx P w K mg base j x C dvs sp) (hx : x ∈ G) (hj : j + 1 ≤ k)
    (he : starEach (e :: es) X.env = (false, eval e X.env) :: starEach es X.env) (hpl : (backTo pos (starEach es X.env)).any (·.1) = false)
    (q : wA X (e :: es) σ H fun vs H1 => ∀ y dx, H1 y = none → H1 dx = none → dx ≠ y → sp (.ref y :: (vs ++ dvs)) (upd (upd H1 dx (.own y)) y (.ins C dx [])) (fun v H2 => v = .non ∧ Q (.ref y) H2) E) :
    wE X (.Call (.Name x p) (e :: es) [] pos) σ H Q := by
  obtain ⟨f, fd, ps, ds, Mk1, Fk, hm, hb, hd⟩ := M.ex
  obtain ⟨l, d1, _⟩ := I.glo hx
  obtain ⟨rfl, rfl, rfl, rfl, rfl, _, _, hr, _, _, _, _, _⟩ := I
  exact wE.of (pe_make Mk1 Fk (hr.mono hj) l hm hb hd (L2N.passes_call T fun _ _ _ _ h => h) wA.pa d1 he hpl) q
theorem wE_makeQ (I : CxI P w K mg base k N Vz Sz G sc X) (M : Mx P w K mg base j x C dvs sp) (hx : x ∈ G) (hj : j + 1 ≤ k)
    (he : starEach (e :: es) X.env = (false, eval e X.env) :: starEach es X.env) (hpl : (backTo pos (starEach es X.env)).any (·.1) = false)
    (q : wA X (e :: es) σ H fun vs H1 => ∀ y dx, H1 y = none → H1 dx = none → dx ≠ y → sp (.ref y :: (vs ++ dvs)) (upd (upd H1 dx (.own y)) y (.ins C dx [])) (fun v H2 => v = .non ∧ Q (.ref y) H2) E0) :
    wE X (.Call (.Name x p) (e :: es) [] pos) σ H Q := by
  obtain ⟨f, fd, ps, ds, Mk1, Fk, hm, hb, hd⟩ := M.ex
  obtain ⟨l, d1, _⟩ := I.glo hx
  obtain ⟨rfl, rfl, rfl, rfl, rfl, _, _, hr, _, _, _, _, _⟩ := I
  exact wE.of (pe_make Mk1 Fk (hr.mono hj) l hm hb hd passLN wA.pa d1 he hpl) q
structure Mkx (P : Program) (w : World) (K : PySem.W.Frag) (mg : Str → Option Value) (base : Heap) (k : Nat) (x : Str) (C : Addr) (n : Nat) (ks : List Str) (gV : List V → List V → List V) (sp : Sp) : Prop where
  ex : ∃ f fd ps g, Mk K C f ∧ FnOk P w K mg base (L2N.CX P w) k f fd ps sp ∧ mg x = some (.ref C) ∧ KBn K fd ps (n + 1) ks g gV
theorem wE_makeNX {gV : List V → List V → List V} (I : CxI P w K mg base k N Vz Sz G sc X) (T : L2N.Takes X (wOf E)) (M : Mkx P w K mg base j x C n ks gV sp) (hx : x ∈ G) (hj : j + 1 ≤ k)
    (hall : (backToKw pos (keywordEach kws X.env)).all (·.1.isSome) = true) (hks : (backToKw pos (keywordEach kws X.env)).filterMap (·.1) = ks)
    (he : starEach (e :: es) X.env = (false, eval e X.env) :: starEach es X.env) (hpl : ((backTo pos (starEach (e :: es) X.env)).any (·.1) || (backToKw pos (keywordEach kws X.env)).any (·.1.isNone)) = false)
    (q : wA X (e :: es) σ H fun vs H1 => wK X kws σ H1 fun zs H2 => vs.length = n ∧ zs.length = ks.length ∧
      ∀ y dx, H2 y = none → H2 dx = none → dx ≠ y → sp (gV (.ref y :: vs) zs) (upd (upd H2 dx (.own y)) y (.ins C dx [])) (fun v H3 => v = .non ∧ Q (.ref y) H3) E) : wE X (.Call (.Name x p) (e :: es) kws pos) σ H Q := by
  obtain ⟨f, fd, ps, g, Mk1, Fk, hm, hb⟩ := M.ex
  obtain ⟨l, d1, _⟩ := I.glo hx
  obtain ⟨rfl, rfl, rfl, rfl, rfl, _, _, hr, _, _, _, _, _⟩ := I
  exact wE.of (pe_makeN Mk1 Fk (hr.mono hj) l hm hb (L2N.passes_call T fun _ _ _ _ h => h) wA.pa wK.pk hall hks d1 he hpl) q
theorem wE_cut (J : V → Hp → Prop) (h : wE X e σ H J) (q : ∀ v H', J v H' → Q v H') : wE X e σ H Q := ⟨fun pins s I => thn (h.run pins s I) fun u s1 ⟨v, H1, I1, r, z⟩ => ⟨v, H1, I1, r, q v H1 z⟩⟩
/-! ### raise -/
structure wM (X : Cx) (e : Expr) (σ : L2.St) (H : Hp) (Q : XK) : Prop where
  run : ∀ (pins : List (Addr × Obj)) (s : Shared), Inv X pins σ H s → wpAny (model X.prog X.w) X.A (eval e X.env) (L2N.MkP X pins σ Q) X.xe s
theorem wM.pmk : L2N.PMk X e (wM X e) := fun pins s σ H Q I h => h.run pins s I
theorem wM.of {t : L2.St → Hp → XK → Prop} {R : XK} (h : L2N.PMk X e t) (q : t σ H R) : wM X e σ H R := ⟨fun pins s I => h pins s σ H R I q⟩
theorem wS_raise {D : Ends} (I : CxI P w K mg base k N Vz Sz G sc X) (T : L2N.Takes X (wOf E)) (q : wM X e σ H E) : wS X (.Raise (some e) none pos) D σ H := wS.of (L2N.ps_raise I.calm T wM.pmk) q
/-- the facts of a class of the text that is an exception without an __init__ of its own -/
structure Xp (K : PySem.W.Frag) (mg : Str → Option Value) (x : Str) (C : Addr) (bmB : List Value) (newId : String) : Prop where
  ei : PySem.W.excIn K C bmB newId = true
  g : mg x = some (.ref C)
  kp : PySem.W.keepIn K (.ref C) = true
  sb : PySem.W.subIn K (.ref C) (.type "BaseException") = some true
  ty : PySem.W.typeIn K (.ref C) = some (.type "type")
theorem pmkN1 {C : Addr} {bmB : List Value} {B newId initId : String} {ta : TE} (F : ExcBaseFacts B newId initId bmB) (q : PySem.W.excIn X.K C bmB newId = true) (gC : X.mg x = some (.ref C)) (kC : PySem.W.keepIn X.K (.ref C) = true) (r : Raises X (.ref C)) (hg : Gl X x)
    (he : PE X e ta) (hs : starEach [e] X.env = (false, eval e X.env) :: starEach [] X.env) (hdb : (x == ("__debug__" : Str)) = false) : L2N.PMk X (.Call (.Name x p) [e] [] pos) (fun σ H Q => ta σ H fun _ H1 => Q (.ref C) none H1) := by
  intro pins s σ H Q I h
  refine wpAny_Call_Name_kw (ld_glob I hg gC ?_ hdb)
  refine PySem.W.callWith_K (h₀ := X.base) I.ok.mod.kin kC ?_ hs (by rfl)
  rw [hs]
  refine Calls.spliced_cons (thn (he.run pins s σ H _ I h) fun u s1 ⟨v, H1, I1, r1, q1⟩ => Calls.spliced_nil ⟨I1.kIn, ?_⟩)
  obtain ⟨bm, N, nm, qn, bs, hdct, sn, sub, ab, col, dd, k0, k1, k2, k3, k5, mN, hC, hN, hni, T⟩ := exc_obj I1.kIn q
  refine wpAny_call_exc_subT F T hC hN hni (fun h' e hm => ?_) (by show 1 ≤ sizeLine; rw [sizeLine_eq]; omega)
  exact L2N.mk_of I1 hm r q1 (I1.hok.gone hm.new)
/-- raise x(e), x a class over ValueError -/
theorem wM_own {R : XK} (I : CxI P w K mg base k N Vz Sz G sc X) (T : Xp K mg x C [.type "ValueError", .type "Exception", .type "BaseException", .type "object"] "ValueError.__new__") (hx : x ∈ G) (hs : starEach [e] X.env = (false, eval e X.env) :: starEach [] X.env)
    (q : wE X e σ H fun _ H1 => R (.ref C) none H1) : wM X (.Call (.Name x p) [e] [] pos) σ H R := by
  obtain ⟨l, d1, _⟩ := I.glo hx
  refine wM.of (pmkN1 (X := X) F.excBase_ValueError (by rw [I.eK]; exact T.ei) (by rw [I.em]; exact T.g) (by rw [I.eK]; exact T.kp) (raises_own (by rw [I.eK]; exact T.sb) (by rw [I.eK]; exact T.ty)) l wE.pe hs d1) q
end
end Rp
namespace Rp
open PySem PySem.Spec PyProof.Rows L2
/-! ### exceptions with an __init__ of their own, over whichever built-in class -/
/-- what the __init__ of a built-in class of exceptions is -/
structure InF (B initId : String) : Prop where
  slot : Slot B "__init__" initId
  entry : entryFor table initId = some Builtin.«BaseException.__init__»
  split : splitId initId = some (B, "__init__")
  kind : builtinKind initId = some Manifest.AttrKind.slot
  row : Manifest.signature? initId = some ⟨.positional, "*", B, .self, [⟨"args", .varPos, false⟩]⟩
/-- a built-in class of exceptions: who makes it (itself, or one that it stands under), its __init__, its attributes -/
structure Bs (B newId initId : String) (bmB : List Value) : Prop where
  N : ∃ B0 i0 bm0, ExcBaseFacts B0 newId i0 bm0 ∧ bmB.contains (.type B0) = true
  nA : bmB.contains (.type "AttributeError") = false
  nN : bmB.contains (.type "NameError") = false
  hB : bmB.contains (.type B) = true
  star : (B != "*") = true
  I : InF B initId
  S : StoreFacts B bmB "object.__setattr__" "object"
theorem Bs.of {B newId initId : String} {bmB : List Value} (F : ExcBaseFacts B newId initId bmB) (S : StoreFacts B bmB "object.__setattr__" "object") : Bs B newId initId bmB :=
  ⟨⟨B, initId, bmB, F, F.hasB⟩, F.noAttr, F.noName, F.hasB, F.noStar, ⟨F.init, F.initEntry, F.initSplit, F.initKind, F.initRow⟩, S⟩
theorem bs_V : Bs "ValueError" "ValueError.__new__" "ValueError.__init__" [.type "ValueError", .type "Exception", .type "BaseException", .type "object"] := .of F.excBase_ValueError F.store_ValueError
theorem bs_L : Bs "LookupError" "LookupError.__new__" "LookupError.__init__" [.type "LookupError", .type "Exception", .type "BaseException", .type "object"] := .of F.excBase_LookupError F.store_LookupError
theorem bs_I : Bs "IndexError" "IndexError.__new__" "IndexError.__init__" [.type "IndexError", .type "LookupError", .type "Exception", .type "BaseException", .type "object"] := .of F.excBase_IndexError F.store_IndexError
theorem bs_Z : Bs "ZeroDivisionError" "ZeroDivisionError.__new__" "ZeroDivisionError.__init__" [.type "ZeroDivisionError", .type "ArithmeticError", .type "Exception", .type "BaseException", .type "object"] := .of F.excBase_ZeroDivisionError F.store_ZeroDivisionError
/-! making one: the maker looks at the class that is made -/
section
variable {prog : Program} {w : World} {A : Around} {E : Value → Shared → Prop} {R : Result → Shared → Prop} {h : Heap} {g : Array GenState} {d : Drawn} {t : Nat} {os : OsState}
variable {nm q : Str} {C Na : Addr} {bs bm bm0 : List Value} {hdct : Bool} {sn : List Str} {sub : List Value} {ab : Bool} {col : Option Bool} {dd : Option Addr} {k0 k1 k2 k3 k5 : Option Value} {B newId initId : String}
theorem mk_check (F : ExcBaseFacts B newId initId bm0) (h1 : bm.contains (.type B) = true) {rest : List Value} {M : Model} {Q : Unit → Shared → Prop}
    (hC : h.get? C = some (excClassObj nm q C Na bs bm hdct sn sub ab col dd k0 k1 k2 k3 k5 newId)) (hq : Q () ⟨h, g, d, t, os⟩) : wpAny M A (checkBuiltinCall newId ⟨.ref C :: rest, []⟩) Q E ⟨h, g, d, t, os⟩ := by
  have hc : (Value.ref C :: bm).contains (.type B) = true := by rw [List.contains_cons, h1, Bool.or_true]
  have hstar := F.noStar
  simp only [checkBuiltinCall, F.newKind, F.newSplit, F.newRow]
  repeat (first | refine wpAny_loadPart_at hC ?_ | (refine wpAny_isSubtype_exc hC ?_; rw [hc]) | refine wpAny_staticBase_exc hC ?_ | refine wpAny_madeBy_exc hC ?_ | simp only [bne_self_eq_false, Bool.false_eq_true, if_false] | wp_step)
  exact hq
theorem mk_new (F : ExcBaseFacts B newId initId bm0) (h1 : bm.contains (.type B) = true) (h2 : bm.contains (.type "AttributeError") = false) (h3 : bm.contains (.type "NameError") = false) {rest : List Value}
    (hC : h.get? C = some (excClassObj nm q C Na bs bm hdct sn sub ab col dd k0 k1 k2 k3 k5 newId))
    (hq : R (.ok (.ret (.ref (h.objs.size + 1)))) ⟨(h.push { cls := .type "tuple", data := .seq rest.toArray }).push { cls := .ref C, data := .fields #[.ref h.objs.size, .none, .none, .none, .bool false, .none] }, g, d, t, os⟩) (hrest : rest.length ≤ sizeLine) :
    codeAny (model prog w) A (.builtin newId ⟨.ref C :: rest, []⟩) R ⟨h, g, d, t, os⟩ := by
  have hends := F.ends
  have c1 : (Value.ref C :: bm).contains (.type B) = true := by rw [List.contains_cons, h1, Bool.or_true]
  have c2 : (Value.ref C :: bm).contains (.type "AttributeError") = false := by rw [List.contains_cons, h2]; rfl
  have c3 : (Value.ref C :: bm).contains (.type "NameError") = false := by rw [List.contains_cons, h3]; rfl
  refine codeAny_builtinAt F.entry ?_
  unfold Builtin.«BaseException.__new__»
  refine PySem.wpAt_bind ?_
  show PySem.wpAt _ _ _ (stack >>= _) _ _ _
  refine PySem.wpAt_bind (PySem.wpAt_stack fun p below => PySem.wpAt_of_wpAny ?_)
  wp_walk
  refine PySem.wpAt_of_wpAny ?_
  rw [F.owner]
  repeat (first | with_reducible refine wpAny_madeHere_exc F.canon hC ?_ | with_reducible refine wpAny_loadPart_at hC ?_ | (with_reducible refine wpAny_isSubtype_exc hC ?_; first | rw [c1] | rw [c2] | rw [c3]) | wp_step)
  show R _ _
  rw [Heap.size_push]
  exact hq
theorem mk_type (F : ExcBaseFacts B newId initId bm0) (h1 : bm.contains (.type B) = true) (h2 : bm.contains (.type "AttributeError") = false) (h3 : bm.contains (.type "NameError") = false) {rest : List Value} {fI : Addr} {Q : Fin → Shared → Prop}
    (hC : h.get? C = some (excClassObj nm q C Na bs bm hdct sn sub ab col dd k0 k1 k2 k3 k5 newId))
    (hi : PySem.W.Looks (model prog w) h (typeLookup (.ref C) "__init__") (some (.ref fI))) (hb : ∀ self, PySem.W.Looks (model prog w) h (bindSpecial (.ref fI) self) (.ref fI, [self])) (hrest : rest.length ≤ sizeLine)
    (hq : codeAny (model prog w) A (.call (.ref fI) ⟨.ref (h.objs.size + 1) :: rest, []⟩)
      (fun r s' => match r with | .ok (.ret v) => v = .none ∧ Q (.done (.ret (.ref (h.objs.size + 1)))) s' | .ok _ => False | .error e => E e s')
      ⟨(h.push (PySem.W.kdv_tup rest)).push (HandSPX.excO C h.objs.size), g, d, t, os⟩) : wpAny (model prog w) A (Builtin.«type.__call__» ⟨.ref C :: rest, []⟩) Q E ⟨h, g, d, t, os⟩ := by
  repeat (first | with_reducible refine wpAny_loadPart_at hC ?_ | with_reducible refine wpAny_madeBy_exc hC ?_ | wp_step)
  refine codeAny_call_builtin_code (Code.quiet_builtin _ F.quiet) (mk_check F h1 hC (mk_new F h1 h2 h3 hC ?_ hrest))
  show wpAny _ _ _ _ _ _
  have k : ∀ b o, h.get? b = some o → ((h.push (PySem.W.kdv_tup rest)).push (HandSPX.excO C h.objs.size)).get? b = some o := fun b o e => Heap.get?_push_of_some _ (Heap.get?_push_of_some _ e)
  have hC1 := k _ _ hC
  have hget : ((h.push (PySem.W.kdv_tup rest)).push (HandSPX.excO C h.objs.size)).get? (h.objs.size + 1) = some (HandSPX.excO C h.objs.size) := by heap_get
  have hcC : (Value.ref C :: bm).contains (.ref C) = true := by simp
  have i1 := hi.keeps k
  have b1 := (hb (.ref (h.objs.size + 1))).keeps k
  unfold isInstance
  repeat (first | with_reducible refine wpAny_loadPart_at hget ?_ | (with_reducible refine wpAny_isSubtype_exc hC1 ?_; rw [hcC]) | wp_step)
  show wpAny _ _ (typeLookup (.ref C) _) _ _ _
  refine i1.at ?_
  refine wpAny_holding (wpAny_bind (b1.at ?_))
  refine wpAny_bind (wpAny_call (codeAny_mono hq fun r s' z => ?_))
  rcases r with e | (v | _ | _ | _) <;> first | exact z | exact z.elim | skip
  obtain ⟨rfl, z⟩ := z
  first
    | exact wpAny_pure (wpAny_pure z)
    | (wp_walk; exact z)
theorem mk_call (F : ExcBaseFacts B newId initId bm0) (h1 : bm.contains (.type B) = true) (h2 : bm.contains (.type "AttributeError") = false) (h3 : bm.contains (.type "NameError") = false) {rest : List Value} {fI : Addr}
    (hC : h.get? C = some (excClassObj nm q C Na bs bm hdct sn sub ab col dd k0 k1 k2 k3 k5 newId))
    (hi : PySem.W.Looks (model prog w) h (typeLookup (.ref C) "__init__") (some (.ref fI))) (hb : ∀ self, PySem.W.Looks (model prog w) h (bindSpecial (.ref fI) self) (.ref fI, [self])) (hrest : rest.length ≤ sizeLine)
    (hq : codeAny (model prog w) (A.under (.builtin "type.__call__" ⟨.ref C :: rest, []⟩)) (.call (.ref fI) ⟨.ref (h.objs.size + 1) :: rest, []⟩) (PySem.W.InitBack (h.objs.size + 1) R)
      ⟨(h.push (PySem.W.kdv_tup rest)).push (HandSPX.excO C h.objs.size), g, d, t, os⟩) : codeAny (model prog w) A (.call (.ref C) ⟨rest, []⟩) R ⟨h, g, d, t, os⟩ := by
  have f1 := tc_lookup
  have f2 := tc_bind (.ref C)
  have hTy : (⟨h, g, d, t, os⟩ : Shared).TypeIs (.ref C) "type" := ⟨_, hC, rfl⟩
  refine codeAny_of_tree ?_
  show wpAny _ _ (callAny (.ref C) _) _ _ _
  repeat (any_goals (first | assumption | with_reducible refine wpAny_loadPart_at hC ?_ | wp_step))
  refine ⟨rfl, ?_⟩
  refine codeAny_call_builtin_at (Code.quiet_builtin _ (by decide +kernel)) entry_typeCall (wpAny_check_type_call_sub hC (mk_type F h1 h2 h3 hC hi hb hrest ?_))
  refine codeAny_mono hq fun r s' z => ?_
  rcases r with e | (v | _ | _ | _) <;> exact z
theorem in_base (F : InF B initId) (hstar : (B != "*") = true) (h1 : bm.contains (.type B) = true) {e t0 : Addr} {rest : List Value}
    (hC : h.get? C = some (excClassObj nm q C Na bs bm hdct sn sub ab col dd k0 k1 k2 k3 k5 newId)) (he : h.get? e = some (HandSPX.excO C t0)) (hrest : rest.length ≤ sizeLine)
    (hq : ∀ h' t1, (∀ b o, b ≠ e → h.get? b = some o → h'.get? b = some o) → h'.get? e = some (HandSPX.excO C t1) → R (.ok (.ret .none)) ⟨h', g, d, t, os⟩) :
    codeAny (model prog w) A (.call (.builtin initId) ⟨.ref e :: rest, []⟩) R ⟨h, g, d, t, os⟩ := by
  have hcB : (Value.ref C :: bm).contains (.type B) = true := by rw [List.contains_cons, h1, Bool.or_true]
  refine codeAny_call_builtin F.slot.plain F.entry ?_
  simp only [checkBuiltinCall, F.kind, F.split, F.row]
  repeat (first | with_reducible refine wpAny_loadPart_at he ?_ | with_reducible refine wpAny_loadPart_at hC ?_ | (with_reducible refine wpAny_isSubtype_exc hC ?_; rw [hcB]) | wp_step)
  refine wpAny_onRaise ?_
  rw [show ∀ (a b : String) (n : Nat), Bind.check ⟨.positional, "*", B, .self, [⟨"args", .varPos, false⟩]⟩ a b n (List.map (fun x => x.fst) ({ pos := Value.ref e :: rest } : Args).kw) = pure () from
    fun a b n => check_star_args _ _ _ _ _ _]
  refine wpAny_pure ?_
  wp_walk
  refine hq _ h.objs.size (fun b o hb ho => ?_) ?_
  · rw [Heap.get?_update_other _ _ (Ne.symm hb)]
    exact Heap.get?_push_of_some _ ho
  · rw [Heap.get?_update_self _ (Heap.get?_push_of_some _ he) rfl]
    rfl
end
/-- what the text says of such a class -/
structure Xi (K : PySem.W.Frag) (C : Addr) (bmB : List Value) (newId : String) : Prop where
  cls : ∃ nm q N bs bm sn sub ab col dd k0 k1 k2 k3 k5, K.lookup C = some (excClassObj nm q C N bs bm true sn sub ab col dd k0 k1 k2 k3 k5 newId) ∧ PySem.W.excTail bmB bm = true
  sa : PySem.W.findIn K (.ref C) "__setattr__" = some (some (.builtin "object.__setattr__"))
  sb : PySem.W.subIn K (.ref C) (.type "BaseException") = some true
  ty : PySem.W.typeIn K (.ref C) = some (.type "type")
  kp : PySem.W.keepIn K (.ref C) = true
def xcB (K : PySem.W.Frag) (C : Addr) (bmB : List Value) (newId : String) : Bool := match K.lookup C with
  | some ⟨.type t, _, .cls cd, sl⟩ => (match cd.mro, sl.toList with
    | .ref D :: bm, [_, _, _, _, some (.builtin m), _] => decide (t = "type") && (decide (D = C) && (decide (m = newId) && (cd.hasDict && (!cd.hasDel && PySem.W.excTail bmB bm))))
    | _, _ => false)
  | _ => false
theorem xcB_ok {K : PySem.W.Frag} {C : Addr} {bmB : List Value} {newId : String} (h : xcB K C bmB newId = true) :
    ∃ nm q N bs bm sn sub ab col dd k0 k1 k2 k3 k5, K.lookup C = some (excClassObj nm q C N bs bm true sn sub ab col dd k0 k1 k2 k3 k5 newId) ∧ PySem.W.excTail bmB bm = true := by
  unfold xcB at h
  split at h
  · rename_i t dd cd sl ho
    split at h
    · rename_i D bm k0 k1 k2 k3 m k5 hm hs
      simp only [Bool.and_eq_true, decide_eq_true_eq, Bool.not_eq_true'] at h
      obtain ⟨rfl, rfl, rfl, hd, hdel, ht⟩ := h
      obtain ⟨nm, bs, mro, ns, qn, hdc, sn, sub, ab, col, del⟩ := cd
      dsimp only at hm hdel hd
      subst hm hdel hd
      obtain ⟨l⟩ := sl
      dsimp only at hs
      subst hs
      exact ⟨nm, qn, ns, bs, bm, sn, sub, ab, col, dd, k0, k1, k2, k3, k5, ho, ht⟩
    · cases h
  · cases h
def xiB (K : PySem.W.Frag) (C : Addr) (bmB : List Value) (newId : String) : Bool :=
  xcB K C bmB newId && (He.eqO (PySem.W.findIn K (.ref C) "__setattr__") (some (some (.builtin "object.__setattr__"))) && (decide (PySem.W.subIn K (.ref C) (.type "BaseException") = some true) && (decide (PySem.W.typeIn K (.ref C) = some (.type "type")) && PySem.W.keepIn K (.ref C))))
theorem xiB_ok {K : PySem.W.Frag} {C : Addr} {bmB : List Value} {newId : String} (h : xiB K C bmB newId = true) : Xi K C bmB newId := by
  unfold xiB at h
  simp only [Bool.and_eq_true] at h
  obtain ⟨h1, h2, h3, h4, h5⟩ := h
  exact ⟨xcB_ok h1, He.eqO_ok h2, of_decide_eq_true h3, of_decide_eq_true h4, h5⟩
section
variable {X : Cx} {pins : List (Addr × Obj)} {σ : L2.St} {H : Hp} {s : Shared} {a C dx : Addr} {f : Str} {y : V} {u : Value} {fs : List (Str × V)} {Q : Unit → Shared → Prop} {E : Value → Shared → Prop} {A : Around} {B newId initId : String} {bmB : List Value}
theorem Xi.data (T : Xi X.K C bmB newId) : ∃ cd, PySem.W.clsIn X.K C = some cd ∧ cd.hasDict = true ∧ PySem.W.excOver X.K C bmB = true := by
  obtain ⟨nm, q, N, bs, bm, sn, sub, ab, col, dd, k0, k1, k2, k3, k5, hC, hbm⟩ := T.cls
  have hcl : ∃ cd, PySem.W.clsIn X.K C = some cd ∧ cd.hasDict = true ∧ cd.mro = .ref C :: bm := by
    refine ⟨_, by unfold PySem.W.clsIn; rw [hC], rfl, rfl⟩
  obtain ⟨cd, h1, h2, h3⟩ := hcl
  refine ⟨cd, h1, h2, ?_⟩
  unfold PySem.W.excOver
  rw [h1]
  show (match cd.mro with | .ref D :: bm => D == C && PySem.W.excTail bmB bm | _ => false) = true
  rw [h3]
  show (C == C && PySem.W.excTail bmB bm) = true
  rw [hbm, beq_self_eq_true]
  rfl
theorem taker_none {K : PySem.W.Frag} (h : PySem.W.findIn K (.ref C) f = some none) : PySem.W.takerIn K C f = some none := by
  unfold PySem.W.takerIn
  rw [h]
  rfl
/-- self.f = y: the object's dict is laid -/
theorem xst_new (Z : Bs B newId initId bmB) (T : Xi X.K C bmB newId) (I : Inv X pins σ H s) (e : H a = some (exo a C none)) (hno : PySem.W.findIn X.K (.ref C) f = some none) (ry : RelV y u)
    (h : ∀ dx s', H dx = none → dx ≠ a → Inv X pins σ (upd (upd H dx (exd dx [(f, y)])) a (exo a C (some dx))) s' → Q () s') : wpAny (model X.prog X.w) A (setAttr (.ref a) f u) Q E s := by
  obtain ⟨cd, hcd, hdct, hov⟩ := T.data
  obtain ⟨t1, ho⟩ := exo_at I.hok e
  obtain ⟨hp, g, d, t, os⟩ := s
  have J : PySem.W.InstAt hp a { cls := .ref C, dict := none, data := .fields #[.ref t1, .none, .none, .none, .bool false, .none] } C none := ⟨ho, rfl, rfl, trivial⟩
  have lk : PySem.W.Looks (model X.prog X.w) hp (classData C) cd := PySem.W.looks_clsIn I.kIn hcd
  have as1 : a ≠ hp.objs.size := Nat.ne_of_lt (Heap.lt_size ho)
  -- what is left once the dict has been laid
  have fin : ∀ h' tk', h'.Ns1 hp.objs.size (fun z => if z = f then some u else none) → h'.get? a = some { cls := .ref C, dict := some hp.objs.size, data := .fields #[.ref t1, .none, .none, .none, .bool false, .none] } →
      (∀ b o, b ≠ a → hp.get? b = some o → h'.get? b = some o) → Q () ⟨h', g, d, tk', os⟩ := by
    intro h' tk' hn hx k
    have hnd : H hp.objs.size = none := I.hok.fresh (Nat.le_refl _)
    have old : ∀ {b : Addr} {o : Obj}, hp.get? b = some o → b ≠ hp.objs.size := fun {b o} z => Nat.ne_of_lt (Heap.lt_size z)
    have naN : ∀ {b : Addr}, H b = none → b ≠ a := fun {b} n z => by rw [z, e] at n; cases n
    refine h hp.objs.size _ hnd as1.symm (I.un (t' := tk') ⟨?_, ?_, ?_, ?_, ?_, ?_, ?_⟩ ?_)
    · intro b o z n _ _; exact k b o (naN n) z
    · intro b o z n _ _; exact ⟨_, k b o (naN n) z⟩
    · intro b o z n _; rw [upd_ne (naN n), upd_ne (old z)]; exact n
    · intro b o z _
      rcases Decidable.em (b = a) with hb | hb
      · subst hb; exact ⟨_, hx⟩
      · exact ⟨_, k b o hb z⟩
    · intro b xs z; rw [upd_ne (at_ne e z exo_tup), upd_ne (ne_of_none z hnd)]; exact z
    · intro b o v z; rw [upd_ne (at_ne e z exo_frz), upd_ne (ne_of_none z hnd)]; exact z
    · intro b ps z; exact ⟨#[], by rw [upd_ne (at_ne e z exo_tbl), upd_ne (ne_of_none z hnd), z, Array.append_empty]⟩
    · intro b o z
      rcases Decidable.em (b = a) with hb | hb
      · subst hb; rw [upd_same] at z; cases z; exact exo_ok hx
      rw [upd_ne hb] at z
      rcases Decidable.em (b = hp.objs.size) with hd | hd
      · subst hd; rw [upd_same] at z; cases z; exact exd_ok hn (relO_put (fs := []) ry fun _ => True.intro)
      rw [upd_ne hd] at z
      refine (I.hok b o z).stay (fun c v hc q => k c v (hc.elim (fun q => q ▸ hb) fun q => at_ne e q exo_own) q) (fun c q => ?_) fun c xs q => ?_
      · rw [upd_ne (at_ne e q exo_own), upd_ne (ne_of_none q hnd)]; exact q
      · rw [upd_ne (at_ne e q exo_tup), upd_ne (ne_of_none q hnd)]; exact q
  refine PySem.W.set_plain I.kIn J T.sa (PySem.W.osa_openX Z.S I.kIn J hov (taker_none hno) fun b => ?_)
  show wpAny _ _ (Builtin.ObjectAttr.storeInOwnDict (.ref a) (.ref C) (.str f t) f u b) _ _ _
  obtain ⟨nm, bs, mro, ns, qn, hd, sn, sb, ab, col, del⟩ := cd
  dsimp only at hdct
  subst hdct
  unfold Builtin.ObjectAttr.storeInOwnDict Builtin.ObjectAttr.ownDictForStores
  repeat (first
    | with_reducible refine HandSPX.store_in_new ?_ ?_
    | with_reducible refine wpAny_loadPart_at ho ?_
    | with_reducible refine lk.at ?_
    | wp_step)
  · exact ⟨_, #[], _, (Heap.get?_update_ne _ _ _ _ as1.symm).trans (Heap.get?_push_at rfl rfl), rfl, fun e he => absurd he (by simp), fun _ => rfl⟩
  · intro h' tk' hn' hs
    have ho2 : (hp.push { cls := .type "dict", data := .dict #[] }).get? a = _ := Heap.get?_push_of_some _ ho
    refine fin h' tk' hn' ((hs.2 a as1).trans (Heap.get?_update_self _ ho2 rfl)) fun b o hb q => ?_
    exact (hs.2 b (Nat.ne_of_lt (Heap.lt_size q))).trans ((Heap.get?_update_ne _ _ _ _ hb).trans (Heap.get?_push_of_some _ q))
/-- self.f = y: a further one -/
theorem xst_old (Z : Bs B newId initId bmB) (T : Xi X.K C bmB newId) (I : Inv X pins σ H s) (e : H a = some (exo a C (some dx))) (ed : H dx = some (exd dx fs)) (hl : fs.length ≤ 900) (hno : PySem.W.findIn X.K (.ref C) f = some none) (ry : RelV y u)
    (h : ∀ s', Inv X pins σ (upd H dx (exd dx ((f, y) :: fs))) s' → Q () s') : wpAny (model X.prog X.w) A (setAttr (.ref a) f u) Q E s := by
  obtain ⟨cd, hcd, hdct, hov⟩ := T.data
  obtain ⟨t1, ho⟩ := exo_at I.hok e
  obtain ⟨mA, hns, rel⟩ := exd_at I.hok ed
  have hw := within_of rel
  obtain ⟨hp, g, d, t, os⟩ := s
  obtain ⟨oD, esD, epD, hoD, _, _⟩ := hns.count hw
  have J : PySem.W.InstAt hp a { cls := .ref C, dict := some dx, data := .fields #[.ref t1, .none, .none, .none, .bool false, .none] } C (some oD) := ⟨ho, rfl, rfl, hoD⟩
  have lk : PySem.W.Looks (model X.prog X.w) hp (classData C) cd := PySem.W.looks_clsIn I.kIn hcd
  refine PySem.W.set_plain I.kIn J T.sa (PySem.W.osa_openX Z.S I.kIn J hov (taker_none hno) fun b => ?_)
  show wpAny _ _ (Builtin.ObjectAttr.storeInOwnDict (.ref a) (.ref C) (.str f t) f u b) _ _ _
  obtain ⟨nm, bs, mro, ns, qn, hd, sn, sb, ab, col, del⟩ := cd
  dsimp only at hdct
  subst hdct
  have hz : (fs.map (·.1)).length ≤ 1000 := by rw [List.length_map]; omega
  unfold Builtin.ObjectAttr.storeInOwnDict Builtin.ObjectAttr.ownDictForStores
  repeat (first
    | with_reducible refine PySem.OEX.store_in_old hns hw hz ?_
    | with_reducible refine wpAny_loadPart_at ho ?_
    | with_reducible refine lk.at ?_
    | wp_step)
  intro h' tk' hn' hs
  have there : ∃ o, h'.get? dx = some o := by obtain ⟨o, _, _, q, _⟩ := hn'; exact ⟨o, q⟩
  exact h _ (I.write (t' := tk') (x := dx) (e := dx) (by rw [ed]; exact True.intro) (.inl rfl) (fun b o hb q => (hs.2 b hb).trans q) there (exd_ok hn' (relO_put ry rel)))
/-- Base.__init__(self, ..) -/
theorem xin_ok {us : List Value} {Q : Value → Shared → Prop} (Z : Bs B newId initId bmB) (T : Xi X.K C bmB newId) (I : Inv X pins σ H s) (e : H a = some (exo a C none)) (hl : us.length ≤ sizeLine) (h : ∀ s', Inv X pins σ H s' → Q .none s') :
    wpAny (model X.prog X.w) A (call (.builtin initId) (.ref a :: us)) Q E s := by
  obtain ⟨nm, q, N, bs, bm, sn, sub, ab, col, dd, k0, k1, k2, k3, k5, hC, hbm⟩ := T.cls
  obtain ⟨t1, ho⟩ := exo_at I.hok e
  have same : upd H a (exo a C none) = H := funext fun b => by
    rcases Decidable.em (b = a) with hb | hb
    · subst hb; rw [upd_same, e]
    · exact upd_ne hb
  obtain ⟨hp, g, d, t, os⟩ := s
  refine wpAny_call (in_base Z.I Z.star (by rw [PySem.W.excTail_contains _ bm hbm]; exact Z.hB) (I.kIn _ _ hC) ho hl fun h' t2 k hx => h _ ?_)
  have J := I.write (t' := t) (x := a) (e := a) (o := exo a C none) (by rw [e]; exact True.intro) (.inl rfl) k ⟨_, hx⟩ (exo_ok hx)
  rwa [same] at J
end
/-! ### the rules -/
/-- the promise of such an __init__: fs: what it stores of its arguments -/
def spXI (C : Addr) (ok : List V → Prop) (fs : List V → List (Str × V)) : Sp := fun vs H Q _ => ∃ a ws, vs = .ref a :: ws ∧ ok ws ∧ H a = some (exo a C none) ∧ ∀ d H', Exb a H H' → H d = none → H' a = some (exo a C (some d)) → H' d = some (exd d (fs ws)) → Q .non H'
structure Xq (P : Program) (w : World) (K : PySem.W.Frag) (mg : Str → Option Value) (base : Heap) (k : Nat) (x : Str) (C : Addr) (ok : List V → Prop) (fs : List V → List (Str × V)) : Prop where
  ex : ∃ B newId initId bmB fI fd ps, Bs B newId initId bmB ∧ Xi K C bmB newId ∧ mg x = some (.ref C) ∧ PySem.W.findIn K (.ref C) "__init__" = some (some (.ref fI)) ∧ PySem.W.typeIn K (.ref fI) = some (.type "function") ∧ FnOk P w K mg base CX0 k fI fd ps (spXI C ok fs) ∧ Binds K fd ps []
section
variable {P : Program} {w : World} {K : PySem.W.Frag} {mg : Str → Option Value} {base : Heap} {k j n : Nat} {N Vz Sz G ps ks : List Str} {sc : Scope} {x m f : Str} {v : V} {p p' p1 p2 apos : Pos} {X : Cx} {C PC : Addr} {fd : FuncData} {sp : Sp} {B newId initId : String} {bmB : List Value}
variable {e a b o : Expr} {es : List Expr} {kws : List Keyword} {σ : L2.St} {H : Hp} {Q : VK} {pos : Pos} {dvs : List V} {E : XK} {D : Ends} {ok : List V → Prop} {fs : List V → List (Str × V)}
theorem wS_x1 (I : CxI P w K mg base k N Vz Sz G sc X) (Z : Bs B newId initId bmB) (T : Xi K C bmB newId) (hno : PySem.W.findIn K (.ref C) f = some none) (hs : swapsWith e (some (.Attribute o f p')) pos.line X.env = pure false)
    (q : wE X e σ H fun y H1 => wE X o σ H1 fun x H2 => ∃ a, x = .ref a ∧ H2 a = some (exo a C none) ∧ ∀ dx H3, H2 dx = none → Exb a H2 H3 → H3 a = some (exo a C (some dx)) → H3 dx = some (exd dx [(f, y)]) → D.nx σ H3) : wS X (.Assign [.Attribute o f p'] e pos) D σ H := by
  refine ⟨fun pins s J => ?_⟩
  refine plainObj_wpAny_Assign_Attribute (thn (q.run pins s J) fun v s1 ⟨y, H1, J1, r1, q1⟩ => thn (q1.run pins s1 J1) fun u s2 ⟨x, H2, J2, r2, a, ex, ea, q2⟩ => ?_) hs
  subst ex
  obtain rfl : u = Value.ref a := r2
  refine xst_new Z (by rw [I.eK]; exact T) J2 ea (by rw [I.eK]; exact hno) r1 fun dx s' n ne J3 => ⟨σ, _, J3, q2 dx _ n (fun b o hb z => ?_) upd_same (by rw [upd_ne ne, upd_same])⟩
  rw [upd_ne hb, upd_ne (ne_of_none z n)]
  exact z
theorem wS_x2 (I : CxI P w K mg base k N Vz Sz G sc X) (Z : Bs B newId initId bmB) (T : Xi K C bmB newId) (hno : PySem.W.findIn K (.ref C) f = some none) (hs : swapsWith e (some (.Attribute o f p')) pos.line X.env = pure false)
    (q : wE X e σ H fun y H1 => wE X o σ H1 fun x H2 => ∃ a dx fs, x = .ref a ∧ H2 a = some (exo a C (some dx)) ∧ H2 dx = some (exd dx fs) ∧ fs.length ≤ 900 ∧ ∀ H3, Exb dx H2 H3 → H3 dx = some (exd dx ((f, y) :: fs)) → D.nx σ H3) : wS X (.Assign [.Attribute o f p'] e pos) D σ H := by
  refine ⟨fun pins s J => ?_⟩
  refine plainObj_wpAny_Assign_Attribute (thn (q.run pins s J) fun v s1 ⟨y, H1, J1, r1, q1⟩ => thn (q1.run pins s1 J1) fun u s2 ⟨x, H2, J2, r2, a, dx, fs, ex, ea, ed, hl, q2⟩ => ?_) hs
  subst ex
  obtain rfl : u = Value.ref a := r2
  exact xst_old Z (by rw [I.eK]; exact T) J2 ea ed hl (by rw [I.eK]; exact hno) r1 fun s' J3 => ⟨σ, _, J3, q2 _ Exb.upd upd_same⟩
def BiQ (C : Addr) (vs : List V) (H : Hp) (R : Prop) : Prop := ∃ a ws, vs = .ref a :: ws ∧ ws.length ≤ 1000 ∧ H a = some (exo a C none) ∧ R
/-- PB.__init__(self, ..), PB a class of the text -/
theorem wE_binitO {pl : Sem Bool} (I : CxI P w K mg base k N Vz Sz G sc X) (Z : Bs B newId initId bmB) (T : Xi K C bmB newId) (hx : x ∈ G) (hm : mg x = some (.ref PC)) (hg : PySem.W.specialIn K (.ref PC) "__getattribute__" = some (some (.builtin "type.__getattribute__")))
    (hr : PySem.W.readsIn K PC (.type "type") = true) (hf : PySem.W.findCls K (.ref PC) (.type "type") "__init__" = some (.val (.builtin initId))) (hh : PySem.W.handedIn (.builtin initId) = true)
    (hc : eval (.Call (.Attribute (.Name x p1) "__init__" p2) (e :: es) [] pos) X.env = (do
      let ov ← eval (.Name x p1) X.env
      standAt p2.atName
      let (f, first) ← holding [ov] (getMethod ov "__init__" pl)
      callWith pos f first (backTo pos (starEach (e :: es) X.env)) (backToKw pos (keywordEach [] X.env))))
    (he : starEach (e :: es) X.env = (false, eval e X.env) :: starEach es X.env) (hpl : (backTo pos (starEach es X.env)).any (·.1) = false)
    (q : wA X (e :: es) σ H fun vs H1 => BiQ C vs H1 (Q .non H1)) : wE X (.Call (.Attribute (.Name x p1) "__init__" p2) (e :: es) [] pos) σ H Q := by
  obtain ⟨l, d1, _⟩ := I.glo hx
  refine ⟨fun pins s J => ?_⟩
  refine PySem.W.methodCall_KW (ld_glob J l (by rw [I.em]; exact hm) ?_ d1) hc
  refine PySem.W.method_cls J.kIn (by rw [I.eK]; exact hg) (PySem.W.cls_value J.kIn (by rw [I.eK]; exact hr) (by rw [I.eK]; exact hf) hh ?_)
  show wpAny _ _ (callWith pos (Value.builtin initId) [] (backTo pos (starEach (e :: es) X.env)) []) _ _ _
  refine PyProof.Rows.callWith_method1 (thn (q.run pos pins _ (J.tok _)) fun us s1 ⟨vs, H1, J1, r1, a, ws, ev, hl, ea, q1⟩ => ?_) he hpl
  subst ev
  cases r1 with
  | @cons _ u0 _ ur ra rw' =>
    obtain rfl : u0 = Value.ref a := ra
    exact xin_ok Z (by rw [I.eK]; exact T) J1 ea (by rw [← Paired.length rw', sizeLine_eq]; omega) fun s' J2 => ⟨.non, H1, J2, rfl, q1⟩
/-- T.__init__(self, ..), T built in -/
theorem wE_binitB {pl : Sem Bool} {t : String} (I : CxI P w K mg base k N Vz Sz G sc X) (Z : Bs B newId initId bmB) (T : Xi K C bmB newId) (hx : x ∈ G) (hm : mg x = none) (hb : bootBuiltins x = some (.type t)) (ht : typeOf (.type t) = pure (.type "type")) (hst : Manifest.isStub t = false)
    (hf : PySem.W.findCls K (.type t) (.type "type") "__init__" = some (.val (.builtin initId))) (hh : PySem.W.handedIn (.builtin initId) = true)
    (hc : eval (.Call (.Attribute (.Name x p1) "__init__" p2) (e :: es) [] pos) X.env = (do
      let ov ← eval (.Name x p1) X.env
      standAt p2.atName
      let (f, first) ← holding [ov] (getMethod ov "__init__" pl)
      callWith pos f first (backTo pos (starEach (e :: es) X.env)) (backToKw pos (keywordEach [] X.env))))
    (he : starEach (e :: es) X.env = (false, eval e X.env) :: starEach es X.env) (hpl : (backTo pos (starEach es X.env)).any (·.1) = false)
    (q : wA X (e :: es) σ H fun vs H1 => BiQ C vs H1 (Q .non H1)) : wE X (.Call (.Attribute (.Name x p1) "__init__" p2) (e :: es) [] pos) σ H Q := by
  obtain ⟨l, d1, d2⟩ := I.glo hx
  refine ⟨fun pins s J => ?_⟩
  refine PySem.W.methodCall_KW (ld_blt J l (by rw [I.em]; exact hm) hb ?_ d2 d1) hc
  obtain ⟨m, fr⟩ := J.fr
  refine PySem.W.method_type fr J.ok.mod.kin ht hst (by rw [I.eK]; exact hf) hh ?_
  show wpAny _ _ (callWith pos (Value.builtin initId) [] (backTo pos (starEach (e :: es) X.env)) []) _ _ _
  refine PyProof.Rows.callWith_method1 (thn (q.run pos pins _ (J.tok _)) fun us s1 ⟨vs, H1, J1, r1, a, ws, ev, hl, ea, q1⟩ => ?_) he hpl
  subst ev
  cases r1 with
  | @cons _ u0 _ ur ra rw' =>
    obtain rfl : u0 = Value.ref a := ra
    exact xin_ok Z (by rw [I.eK]; exact T) J1 ea (by rw [← Paired.length rw', sizeLine_eq]; omega) fun s' J2 => ⟨.non, H1, J2, rfl, q1⟩
theorem mk_endN {pins : List (Addr × Obj)} {H1 H2 : Hp} {R : XK} {hp hp2 h2 : Heap} {g1 g2 : Array GenState} {d1 d2 : Drawn} {t1 t2 : Nat} {os1 os2 : OsState} {a0 C0 d : Addr} {fl : List (Str × V)} (T : Raises X (.ref C0)) (I1 : Inv X pins σ H1 ⟨hp, g1, d1, t1, os1⟩)
    (ha : hp.objs.size ≤ a0) (k : ∀ b o, hp.get? b = some o → hp2.get? b = some o) (un : Un (frs X.stack) [] (upd H1 a0 (exo a0 C0 none)) H2 hp2 h2) (hok : HOk X.prog X.w H2 h2) (ho : os2 = os1) (hb : AllBare g2)
    (ea : H2 a0 = some (exo a0 C0 (some d))) (ed : H2 d = some (exd d fl)) (hd1 : H1 d = none) (q : R (.ref C0) (some d) (upd (del H2 a0) d (.xd fl))) : L2N.MkP X pins σ R (.ref a0) ⟨h2, g2, d2, t2, os2⟩ := by
  obtain ⟨t0, G, J, kG, ge, hoe, na⟩ := mk_end0 (d2 := d2) (t2 := t2) I1 ha k un hok ho hb ea ed hd1
  exact ⟨a0, _, _, ⟨G, g2, d2, t2, os2⟩, _, .ref C0, some d, rfl, J, kG, ge, hoe, ⟨rfl, rfl, fun vs e => by cases e; rfl⟩, rfl, rfl, na, rfl, hb, T, q⟩
/-- x(e, ..) as what is raised -/
theorem wM_init {R : XK} (I : CxI P w K mg base k N Vz Sz G sc X) (T : Xq P w K mg base j x C ok fs) (hx : x ∈ G) (hj : j + 1 ≤ k) (he : starEach (e :: es) X.env = (false, eval e X.env) :: starEach es X.env) (hpl : (backTo pos (starEach es X.env)).any (·.1) = false)
    (q : wA X (e :: es) σ H fun vs H1 => vs.length ≤ 1000 ∧ ok vs ∧ ∀ d H3, Ex H1 H3 → H3 d = some (.xd (fs vs)) → R (.ref C) (some d) H3) : wM X (.Call (.Name x p) (e :: es) [] pos) σ H R := by
  obtain ⟨B, newId, initId, bmB, fI, fd, ps, Z, TX, hm, iC, tI, F1, hb⟩ := T.ex
  obtain ⟨l, d1, _⟩ := I.glo hx
  obtain ⟨rfl, rfl, rfl, rfl, rfl, _, _, hr, _, _, _, _, _⟩ := I
  refine ⟨fun pins s J => ?_⟩
  obtain ⟨nm, q0, N0, bs, bm, sn, sub, ab, col, dd, k0, k1, k2, k3, k5, hC, hbm⟩ := TX.cls
  refine wpAny_Call_Name_kw (ld_glob J l hm ?_ d1)
  refine PySem.W.callWith_K (h₀ := X.base) J.ok.mod.kin TX.kp (thn (q.run pos pins s J) fun us s1 ⟨vs, H1, J1, r1, hz, hok, q1⟩ => ⟨J1.kIn, ?_⟩) he hpl
  show wpAny _ _ (call (.ref C) us) _ _ _
  obtain ⟨hp, g, dr, tk, os⟩ := s1
  have up1 : hp.objs.size ≤ hp.objs.size + 1 := Nat.le_succ _
  have hn : H1 (hp.objs.size + 1) = none := J1.hok.fresh up1
  have kk : ∀ b o, hp.get? b = some o → ((hp.push (PySem.W.kdv_tup us)).push (HandSPX.excO C hp.objs.size)).get? b = some o := fun b o z => Heap.get?_push_of_some _ (Heap.get?_push_of_some _ z)
  have new : ((hp.push (PySem.W.kdv_tup us)).push (HandSPX.excO C hp.objs.size)).get? (hp.objs.size + 1) = some (HandSPX.excO C hp.objs.size) := by heap_get
  have J2 := J1.laid (t' := tk) (a := hp.objs.size + 1) (o := exo (hp.objs.size + 1) C none) kk up1 (exo_ok new)
  have hlu : us.length ≤ sizeLine := by rw [← Paired.length r1, sizeLine_eq]; omega
  have r2 : Vals (V.ref (hp.objs.size + 1) :: vs) (Value.ref (hp.objs.size + 1) :: us) := .cons rfl r1
  have hq : spXI C ok fs (V.ref (hp.objs.size + 1) :: vs) (upd H1 (hp.objs.size + 1) (exo (hp.objs.size + 1) C none))
      (fun v H2 => v = .non ∧ ∃ d, H2 (hp.objs.size + 1) = some (exo (hp.objs.size + 1) C (some d)) ∧ H2 d = some (exd d (fs vs)) ∧ H1 d = none ∧ R (.ref C) (some d) (upd (del H2 (hp.objs.size + 1)) d (.xd (fs vs)))) E0 := by
    refine ⟨_, vs, rfl, hok, upd_same, fun d H2 ex hd ha hd2 => ⟨rfl, d, ha, hd2, ?_, q1 d _ (fun b o z => ?_) upd_same⟩⟩
    · cases z : H1 d with
      | none => rfl
      | some o => rw [upd_ne (ne_of_none z hn), z] at hd; cases hd
    · have nb := ne_of_none z hn
      have nd : b ≠ d := fun y => by rw [← y, upd_ne nb, z] at hd; cases hd
      rw [upd_ne nd, del_ne nb]
      exact ex b o nb (by rw [upd_ne nb]; exact z)
  have hl : (Value.ref (hp.objs.size + 1) :: us).length = ps.length := by rw [← Paired.length r2]; exact F1.len _ _ _ _ hq
  have bnd := hb _ (Value.ref (hp.objs.size + 1) :: us) J2.kIn (by rw [List.append_nil]; exact hl)
  rw [List.append_nil] at bnd
  obtain ⟨B0, i0, bm0, F0, hB0⟩ := Z.N
  refine wpAny_call (mk_call F0 (by rw [PySem.W.excTail_contains _ bm hbm]; exact hB0) (by rw [PySem.W.excTail_contains _ bm hbm]; exact Z.nA) (by rw [PySem.W.excTail_contains _ bm hbm]; exact Z.nN) (J1.kIn _ _ hC) (PySem.W.looks_findIn J1.kIn iC) (fun self => PySem.W.bind_fn J1.kIn self tI) hlu
    (codeAny_mono (F1.run _ X.stack _ _ ⟨_, []⟩ _ _ _ E0 ((hr.mono hj).make C us []) (J2.env0.make C us []) bnd r2 hq) fun r s' z => ?_))
  cases r with
  | error er => exact pass0 pins σ _ _ er s' J2 z
  | ok fl =>
    cases fl with
    | ret u =>
      obtain ⟨v, H2, os2, bare2, un2, hok2, rv, ev, d, ea, ed, hd1, q2⟩ := z
      subst ev
      obtain ⟨h2, g2, d2, t2, os'⟩ := s'
      exact ⟨rv, mk_endN (raises_own TX.sb TX.ty) J1 up1 kk un2 hok2 os2 bare2 ea ed hd1 q2⟩
    | next => exact False.elim z
    | brk => exact False.elim z
    | cont => exact False.elim z
end
end Rp
namespace Rp
open PySem PySem.Spec PyProof.Rows L2
/-! ### try with many clauses that name the exception -/
abbrev Cl : Type := Value × (Addr → Value → Option Addr → TS)
/-- the ends of a suite: the name is gone behind it -/
def goneD (D : Ends) (i : Nat) : Ends := { nx := fun σ H => D.nx (σ.set i none) H, rt := D.rt, bk := fun σ H => D.bk (σ.set i none) H, ct := fun σ H => D.ct (σ.set i none) H }
def wClauses (K : PySem.W.Frag) (ln i : Nat) (Wout : WX) (D : Ends) : List Cl → WX
  | [] => Wout
  | c :: l => fun cls d σ H => ∃ b, PySem.W.exmOne K cls c.1 = some b ∧ (b = true → σ.length = ln → ∀ a, H a = none → c.2 a cls d (goneD D i) (σ.set i (some (.ref a))) H) ∧ (b = false → wClauses K ln i Wout D l cls d σ H)
inductive ClsOk (X : Cx) (n : Str) : List ExceptHandler → List Cl → Prop
  | nil : ClsOk X n [] []
  | cons {x : Str} {c : Cl} {b₀ : Stmt} {suite : List Stmt} {p1 p2 : Pos} {hds : List ExceptHandler} {l : List Cl} (nm : Names X x c.1)
      (su : ∀ (a : Addr) (oe : Obj) (cls : Value) (d : Option Addr) (pn : List (Addr × Obj)), L2N.Zn cls d oe → (∃ vs, oe.data = .fields vs) → PSs (X.suite a ((a, oe) :: pn)) (b₀ :: suite) (c.2 a cls d)) (r : ClsOk X n hds l) :
      ClsOk X n (.ExceptHandler (some (.Name x p1)) (some n) (b₀ :: suite) p2 :: hds) (c :: l)
section
variable {X : Cx} {pins : List (Addr × Obj)} {σ : L2.St} {H : Hp} {sI s' : Shared} {a L : Addr} {B h3 : Heap} {cls : Value} {d : Option Addr} {D : Ends} {n : Str} {i : Nat} {Wout : WX}
/-- the clauses, one behind another, at an exception that has landed -/
theorem clauses_ok (hs : X.stack = X.env :: X.outer) (hf : X.env.frame = some X.env.locals) (hN : X.N.Nodup) (hi : X.N[i]? = some n) (hln : X.env.kindOf n = some .local) (tk : L2N.Takes X Wout) (J : Inv X pins σ H sI)
    (nb : ∀ b o, sI.heap.get? b = some o → b ∉ frs X.stack → B.get? b = some o) (up : sI.heap.UpToSlots h3) (fl : HandSPX.FlyingZ B (X.env :: X.outer) a (L2N.Zn cls d) h3) (na : H a = none) (os : s'.os = sI.os) (ag : AllBare s'.gens) (nL : a ≠ X.env.locals) (nF : a ∉ X.fs)
    {hds : List ExceptHandler} {l : List Cl} (hk : ClsOk X n hds l) (w : wClauses X.K X.N.length i Wout D l cls d σ H) : wpAny (model X.prog X.w) X.A (handleBy (.ref a) X.env hds) (SP X pins D) X.xe { s' with heap := h3 } := by
  have ok := J.ok
  have J3 : Inv X pins σ H { s' with heap := h3 } := J.landed nb fl.1 up os ag
  obtain ⟨oe, ve, he, hz, hd⟩ := fl.there
  have S3 := J3.suite he hd na nL nF
  induction hk with
  | nil =>
    refine wpAny_handleBy_nil ?_
    have raised : wpAny (model X.prog X.w) X.A (setFlight (.ref a) X.env.frame) (fun _ s4 => wpAny (model X.prog X.w) X.A (throw (.ref a) : Sem Flow) (SP X pins D) X.xe s4) X.xe { s' with heap := h3 } := by
      rw [hf]
      refine HandSPX.setFlight_upZ fl fun h4 z4 up4 => wpAny_throw (tk _ _ ⟨a, B, sI, pins, σ, H, cls, d, rfl, J, nb, up.trans up4, ?_, na, os, ag, w⟩)
      rw [hs]
      exact .inr (.inr z4)
    obtain ⟨_, _, _, oe2, vs2, T, oT, ts2, g1, _, g3, g4, _⟩ := id fl
    unfold PySem.passOn
    refine wpAny_bind (wpAny_field g1 g3 g4 ?_)
    rw [if_neg (show ¬ ((Value.ref T == Value.none) = true) by simp)]
    first | exact wpAny_bind (wpAny_pure (wpAny_bind raised)) | exact wpAny_bind raised
  | @cons x c b₀ suite p1 p2 hds2 l2 nm su r ih =>
    obtain ⟨b, eb, yes, no⟩ := w
    have lt : PySem.W.Looks (model X.prog X.w) h3 (typeOf (.ref a)) cls := fun A Q E s k q => wpAny_typeOf_ref (k _ _ he) (by rw [hz.1]; exact q)
    have lm := PySem.W.exm_one (M := model X.prog X.w) J3.kIn lt eb
    have named : ∀ {Q E : Value → Shared → Prop}, Q c.1 { s' with heap := h3 } → wpAny (model X.prog X.w) (X.A.mark (some (.ref a))) (eval (.Name x p1) X.env) Q E { s' with heap := h3 } := by
      intro Q E q
      rcases nm with ⟨k1, k2, k3 | ⟨k3, k4, k5⟩⟩
      · exact ld_glob (X := X.suite a ((a, oe) :: (X.pn ++ pins))) S3 k1 k3 q k2
      · exact ld_blt (X := X.suite a ((a, oe) :: (X.pn ++ pins))) S3 k1 k3 k4 q k5 k2
    refine wpAny_handleBy_cons (codeAny_handlers_test (named (lm.here ?_))) (fun q => by cases q)
    cases b with
    | false => exact ih (no rfl)
    | true =>
      refine codeAny_handlers_suite_as (HandSPX.lands_againZ fl fun h4 fl4 up4 => ?_)
      have J4 : Inv X pins σ H { s' with heap := h4 } := J.landed nb fl4.1 (up.trans up4) os ag
      obtain ⟨oe4, ve4, he4, hz4, hd4⟩ := fl4.there
      have S4 := J4.suite he4 hd4 na nL nF
      refine store_ok (X := X.suite a ((a, oe4) :: (X.pn ++ pins))) (v := .ref a) S4 hN hi (.inl hln) rfl (fun s5 S5 => ?_) (.inr hln)
      refine wpAny_mono ((su a oe4 cls d (X.pn ++ pins) hz4 ⟨_, hd4⟩).run [] s5 _ H _ S5 (yes rfl J.len a na)) (fun f s6 z => ?_) (fun _ _ z => False.elim z)
      have ends : ∀ {σ6 : L2.St} {H6 : Hp} {R : Shared → Prop}, Inv (X.suite a ((a, oe4) :: (X.pn ++ pins))) [] σ6 H6 s6 → (∀ s7, Inv X pins (σ6.set i none) H6 s7 → R s7) →
          wpAny (model X.prog X.w) X.A (do bindName X.env n .none; unbindBehindTheSuite X.env n p2) (fun _ s7 => R s7) X.xe s6 := fun S6 hq => gone_ok (S6.unsuite ok) hN hi hln hq
      cases f with
      | ret u => obtain ⟨v6, σ6, H6, S6, r6, q6⟩ := z; exact ends S6 fun s7 J7 => ⟨v6, _, H6, J7, r6, q6⟩
      | next => obtain ⟨σ6, H6, S6, q6⟩ := z; exact ends S6 fun s7 J7 => ⟨_, H6, J7, q6⟩
      | brk => obtain ⟨σ6, H6, S6, q6⟩ := z; exact ends S6 fun s7 J7 => ⟨_, H6, J7, q6⟩
      | cont => obtain ⟨σ6, H6, S6, q6⟩ := z; exact ends S6 fun s7 J7 => ⟨_, H6, J7, q6⟩
theorem ps_try_clauses {body : List Stmt} {h₀ : ExceptHandler} {hds : List ExceptHandler} {l : List Cl} {pos : Pos} {tb : WX → TS} (hs : X.stack = X.env :: X.outer) (hf : X.env.frame = some X.env.locals) (hN : X.N.Nodup) (hi : X.N[i]? = some n) (hln : X.env.kindOf n = some .local) (tk : L2N.Takes X Wout)
    (hb : ∀ (W : WX) (pn : List (Addr × Obj)) (xe : Value → Shared → Prop), L2N.Takes (X.tr pn xe) W → PassesOwn (model X.prog X.w) X.A X.env xe → PSs (X.tr pn xe) body (tb W)) (hk : ClsOk X n (h₀ :: hds) l) :
    PS X (.Try body (h₀ :: hds) [] [] pos) (fun D σ H => tb (wClauses X.K X.N.length i Wout D l) D σ H) := by
  refine ⟨fun pins s σ H D I h => wpAny_Try_except ?_⟩
  have ok := I.ok
  have hfr : X.A.frames = some (X.env :: X.outer) := by rw [ok.frames, hs]
  have body_ok := hb (wClauses X.K X.N.length i Wout D l) (X.pn ++ pins) (fun e s₁ => wpAny (model X.prog X.w) X.A (noteFrame e X.env) (fun _ s₂ => wpAny (model X.prog X.w) X.A (setFlight e none) (fun _ s₃ => wpAny (model X.prog X.w) X.A (handleBy e X.env (h₀ :: hds)) (SP X pins D) X.xe s₃) X.xe s₂) X.xe s₁)
    (fun u s' z => ?_) PassesOwn.looking
  · refine wpAny_mono (body_ok.run [] s σ H D (I.toTry _) h) (fun f s1 z => ?_) (fun e s1 he => he)
    cases f with
    | ret u => obtain ⟨v, σ', H', J', r, q⟩ := z; exact ⟨v, σ', H', J'.ofTry ok, r, q⟩
    | brk => obtain ⟨σ', H', J', q⟩ := z; exact ⟨σ', H', J'.ofTry ok, q⟩
    | cont => obtain ⟨σ', H', J', q⟩ := z; exact ⟨σ', H', J'.ofTry ok, q⟩
    | next => obtain ⟨σ', H', J', q⟩ := z; exact wpAny_execs_nil ⟨σ', H', J'.ofTry ok, q⟩
  · obtain ⟨a, B, sI, pins', σ', H', cls, d, rfl, J', nb, up, sky, na, os, ag, w⟩ := z
    have J : Inv X pins σ' H' sI := J'.ofTry ok
    have sky' : Sky B (X.env :: X.outer) a (L2N.Zn cls d) X.env.locals s'.heap := by rw [← hs]; exact sky
    refine L2N.Sky.land L2N.Zn.steady hfr hf sky' fun h3 fl3 up3 => ?_
    have nfr : a ∉ frs (X.env :: X.outer) := fun hm => by
      obtain ⟨oe, ve, he, _, hd⟩ := fl3.there
      obtain ⟨_, o', e', hnf⟩ := fl3.2.2.1.mem hm
      rw [he] at e'
      cases e'
      exact hnf _ hd
    refine clauses_ok hs hf hN hi hln tk J nb (up.trans up3) fl3 na os ag (fun z => nfr ?_) (fun hm => nfr ?_) hk w
    · exact List.mem_filterMap.mpr ⟨X.env, List.mem_cons_self, by rw [hf, z]⟩
    · obtain ⟨e, he, q⟩ := List.mem_filterMap.mp hm
      exact List.mem_filterMap.mpr ⟨e, List.mem_cons_of_mem _ he, q⟩
end
end Rp
namespace Rp
open PySem PySem.Spec PyProof.Rows L2
/-! ### where an exception is handled -/
/-- a context within an except suite, or of a def called from there with the exception: a is the exception, oe its object -/
structure CxH (P : Program) (w : World) (K : PySem.W.Frag) (mg : Str → Option Value) (base : Heap) (k : Nat) (N Vz Sz G : List Str) (sc : Scope) (a : Addr) (oe : Obj) (X : Cx) : Prop where
  eP : X.prog = P
  ew : X.w = w
  eK : X.K = K
  em : X.mg = mg
  eb : X.base = base
  eN : X.N = N
  es : X.env.scope = sc
  room : L2H.RoomH k X.A
  hnd : X.A.handled = some (.ref a)
  pin : (a, oe) ∈ X.pn
  fn : ∀ x, X.fn x = true
  nd : N.Nodup
  ok : namesOk Vz Sz G sc = true
  fk : sc.kind = .function
/-- the exception's object: its class, its dict -/
def IsE (cls : Value) (d : Option Addr) (oe : Obj) : Prop := L2N.Zn cls d oe ∧ ∃ vs, oe.data = .fields vs
/-- the dict is tracked, if there is one -/
def DOk (d : Option Addr) (H : Hp) : Prop := ∀ dd, d = some dd → ∃ fs, H dd = some (.xd fs)
theorem DOk.ex {d : Option Addr} {H H' : Hp} (h : DOk d H) (e : Ex H H') : DOk d H' := fun dd z => let ⟨fs, q⟩ := h dd z; ⟨fs, e _ _ q⟩
section
variable {P : Program} {w : World} {K : PySem.W.Frag} {mg : Str → Option Value} {base : Heap} {k j n : Nat} {N Vz Sz G ps : List Str} {sc : Scope} {x m f : Str} {v : V} {p p' apos : Pos} {X : Cx} {a0 : Addr} {oe : Obj} {cls : Value} {dd : Option Addr}
variable {e a b o : Expr} {es : List Expr} {σ : L2.St} {H : Hp} {Q : VK} {pos : Pos} {D : Ends}
theorem CxH.vis (C : CxH P w K mg base k N Vz Sz G sc a0 oe X) (h : x ∈ Vz) : Vis X.env.scope x ∧ (x == ("__debug__" : Str)) = false ∧ (x == ("__classdict__" : Str)) = false := by
  have q := C.ok
  unfold namesOk at q
  simp only [Bool.and_eq_true] at q
  have z := List.all_eq_true.mp q.1.1 x h
  simp only [Bool.and_eq_true, Bool.or_eq_true, Bool.not_eq_true', beq_iff_eq] at z
  rw [C.es]
  refine ⟨?_, z.1.2, z.2⟩
  rcases z.1.1 with (y | y) | y
  · exact .inl y
  · exact .inr (.inl y)
  · exact .inr (.inr y)
theorem CxH.loc (C : CxH P w K mg base k N Vz Sz G sc a0 oe X) (h : x ∈ Sz) : Loc X.env.scope x := by
  have q := C.ok
  unfold namesOk at q
  simp only [Bool.and_eq_true] at q
  have z := List.all_eq_true.mp q.1.2 x h
  simp only [Bool.or_eq_true, beq_iff_eq] at z
  rw [C.es]
  exact z
theorem CxH.glo (C : CxH P w K mg base k N Vz Sz G sc a0 oe X) (h : x ∈ G) : Gl X x ∧ (x == ("__debug__" : Str)) = false ∧ x ≠ "__name__" := by
  have q := C.ok
  unfold namesOk at q
  simp only [Bool.and_eq_true] at q
  have z := List.all_eq_true.mp q.2 x h
  simp only [Bool.and_eq_true, Bool.not_eq_true', beq_iff_eq] at z
  refine ⟨?_, z.1.2, fun y => ?_⟩
  · show X.env.scope.names.lookup x = _
    rw [C.es]
    exact z.1.1
  · have y2 := z.2
    rw [y] at y2
    exact absurd y2 (by decide)
theorem wE_nameH (C : CxH P w K mg base k N Vz Sz G sc a0 oe X) (hx : x ∈ Vz) (h : Lk N σ x v) (q : Q v H) : wE X (.Name x p) σ H Q := by
  obtain ⟨i, h1, h2⟩ := h.ix
  obtain ⟨l, d1, d2⟩ := C.vis hx
  exact wE.of (pe_var (i := i) (by rw [C.eN]; exact h1) l d1 d2) ⟨v, h2, q⟩
theorem wE_globH {u : Value} (C : CxH P w K mg base k N Vz Sz G sc a0 oe X) (h : x ∈ G) (hm : mg x = some u) (r : RelV v u) (q : Q v H) : wE X (.Name x p) σ H Q := by
  obtain ⟨l, d1, _⟩ := C.glo h
  exact wE.of (pe_glob l (by rw [C.em]; exact hm) r d1) q
theorem wE_bltnH {u : Value} (C : CxH P w K mg base k N Vz Sz G sc a0 oe X) (hm : mg x = none) (hx : x ∈ G) (hv : bootBuiltins x = some u) (r : RelV v u) (q : Q v H) : wE X (.Name x p) σ H Q := by
  obtain ⟨l, d1, d2⟩ := C.glo hx
  exact wE.of (pe_bltn l (by rw [C.em]; exact hm) hv r d2 d1) q
theorem wS_setH {pos' : Pos} (C : CxH P w K mg base k N Vz Sz G sc a0 oe X) (hx : x ∈ Sz) (hs : swapsWith e (some (.Name x pos')) pos.line X.env = pure false) (q : wE X e σ H fun v H1 => Put N σ x v fun σ' => D.nx σ' H1) : wS X (.Assign [.Name x pos'] e pos) D σ H := by
  refine ⟨fun pins s I => wpAny_Assign_Name (thn (q.run pins s I) fun v s1 ⟨y, H1, I1, r1, σ', hp, q1⟩ => ?_) hs⟩
  obtain ⟨i, h1, rfl⟩ := hp.ix
  exact store_ok I1 (by rw [C.eN]; exact C.nd) (i := i) (by rw [C.eN]; exact h1) (C.loc hx) r1 (fun s2 I2 => ⟨_, H1, I2, q1⟩) (.inl (C.fn x))
theorem wE_callBH {id : String} (C : CxH P w K mg base k N Vz Sz G sc a0 oe X) (hm : mg x = none) (hx : x ∈ G) (hv : bootBuiltins x = some (.builtin id)) (he : starEach (e :: es) X.env = (false, eval e X.env) :: starEach es X.env) (hpl : (backTo pos (starEach es X.env)).any (·.1) = false)
    (q : wA X (e :: es) σ H fun vs H1 => wC X (.builtin id) vs H1 Q) : wE X (.Call (.Name x p) (e :: es) [] pos) σ H Q := by
  obtain ⟨l, d1, d2⟩ := C.glo hx
  exact wE.of (pe_callB wC.call l (by rw [C.em]; exact hm) hv wA.pa d2 d1 he hpl) q
theorem i_listH {c d : Expr} {ad : Addr} {xs : List V} {m : Int} (C : CxH P w K mg base k N Vz Sz G sc a0 oe X) (hs : PlainIx d) (h : SqL K H ad xs) (hi : atI xs m = some v) (q : Q v H) : wIx X c d (.ref ad) (.int m) H Q :=
  wIx_of ix_list hs ⟨ad, xs, m, v, rfl, rfl, by rw [C.eK]; exact h, hi, q⟩
theorem o_inLH {ad : Addr} {xs : List V} (C : CxH P w K mg base k N Vz Sz G sc a0 oe X) (h : SqL K H ad xs) (h1 : flatV v = true) (h2 : xs.all flatV = true) (q : Q (.bl (inV v xs)) H) : wO X (compareOp .In) v (.ref ad) H Q :=
  wO.of op_in_seq ⟨ad, xs, rfl, .inl (by rw [C.eK]; exact h), h1, h2, q⟩
/-! #### isinstance of the exception, its fields -/
structure Xf (K : PySem.W.Frag) (C : Addr) : Prop where
  cl : (PySem.W.clsIn K C).isSome = true
  ga : PySem.W.findIn K (.ref C) "__getattribute__" = some (some (.builtin "BaseException.__getattribute__"))
  gg : PySem.W.findIn K (.ref C) "__getattr__" = some none
  sb : PySem.W.subIn K (.ref C) (.type "BaseException") = some true
  ca : PySem.W.findIn K (.ref C) "__class__" = some (some (.builtin "object.__class__"))
  cn : PySem.W.specialIn K (.builtin "object.__class__") "__get__" = some (some (.builtin "getset_descriptor.__get__"))
  ct : PySem.W.takesIn K (.builtin "object.__class__") = some true
  mo : PySem.W.mroIn K C (.type "object") = some true
  hd : PySem.W.hasDictIn K C = true
def xfBo (K : PySem.W.Frag) (C : Addr) : Bool := (PySem.W.clsIn K C).isSome && (He.eqO (PySem.W.findIn K (.ref C) "__getattribute__") (some (some (.builtin "BaseException.__getattribute__"))) && (He.eqO (PySem.W.findIn K (.ref C) "__getattr__") (some none) &&
  (decide (PySem.W.subIn K (.ref C) (.type "BaseException") = some true) && (He.eqO (PySem.W.findIn K (.ref C) "__class__") (some (some (.builtin "object.__class__"))) && (He.eqO (PySem.W.specialIn K (.builtin "object.__class__") "__get__") (some (some (.builtin "getset_descriptor.__get__"))) &&
  (decide (PySem.W.takesIn K (.builtin "object.__class__") = some true) && (decide (PySem.W.mroIn K C (.type "object") = some true) && PySem.W.hasDictIn K C)))))))
theorem xfBo_ok {K : PySem.W.Frag} {C : Addr} (h : xfBo K C = true) : Xf K C := by
  unfold xfBo at h
  simp only [Bool.and_eq_true] at h
  obtain ⟨h1, h2, h3, h4, h5, h6, h7, h8, h9⟩ := h
  exact ⟨h1, He.eqO_ok h2, He.eqO_ok h3, of_decide_eq_true h4, He.eqO_ok h5, He.eqO_ok h6, of_decide_eq_true h7, of_decide_eq_true h8, h9⟩
/-- the exception stands in the state -/
theorem CxH.inst {pins : List (Addr × Obj)} {s : Shared} {C : Addr} (I : CxH P w K mg base k N Vz Sz G sc a0 oe X) (z : IsE (.ref C) dd oe) (hdd : DOk dd H) (J : Inv X pins σ H s) : ∃ od, PySem.W.InstAt s.heap a0 oe C od ∧ ∀ d fs, dd = some d → H d = some (.xd fs) → ∃ (ob : Obj) (mA : Str → Option Value), od = some ob ∧ PySem.W.lookIn f ob = some (mA f) ∧ ∀ g, RelO (fs.lookup g) (mA g) := by
  obtain ⟨⟨z1, z2, _⟩, vs, z3⟩ := z
  obtain ⟨hget, _⟩ := J.pin (a0, oe) (List.mem_append_left _ I.pin)
  have nc : PySem.W.notCls oe = true := by unfold PySem.W.notCls; rw [z3]
  cases hd : dd with
  | none => exact ⟨none, ⟨hget, z1, nc, by rw [z2, hd]; trivial⟩, fun d fs q => by cases q⟩
  | some d =>
    obtain ⟨fs, hx⟩ := hdd d hd
    have hk : ObjOk X.prog X.w H s.heap d (.xd fs) := J.hok d _ hx
    obtain ⟨mA, hns, hr⟩ := hk
    obtain ⟨od, ho, hl⟩ := lookIn_ns hns
    refine ⟨some od, ⟨hget, z1, nc, by rw [z2, hd]; exact ho⟩, fun d' fs' q q2 => ?_⟩
    cases q
    rw [hx] at q2
    cases q2
    exact ⟨od, mA, rfl, hl f, hr⟩
theorem c_isH {c : V} {cv : Value} {C : Addr} {r : Bool} (I : CxH P w K mg base k N Vz Sz G sc a0 oe X) (T : Xf K C) (z : IsE (.ref C) dd oe) (hdd : DOk dd H) (hc : ∀ u, RelV c u → u = cv) (h : PySem.W.kitOne K (.ref C) cv = some r) (q : Q (.bl r) H) : wC X (.builtin "isinstance") [.ref a0, c] H Q := by
  refine ⟨fun pins s σ us J rv => ?_⟩
  obtain ⟨od, ins, _⟩ := I.inst (f := Str.empty) z hdd J
  cases rv with
  | cons rx rr =>
    cases rr with
    | cons rt rr =>
      cases rr
      cases rx
      have ec := hc _ rt
      subst ec
      obtain ⟨eP, ew, eK, _⟩ := I
      subst eK
      exact PySem.W.kia_one (PySem.W.kitx_exc T.cl T.ga T.gg T.sb T.ca T.cn T.ct T.mo) J.kIn ins h (fun y => nomatch y) fun tk => ⟨.bl r, H, J.kept (t' := tk) fun _ _ y => y, rfl, q⟩
/-- err.f -/
theorem wE_fldH {C : Addr} {fs : List (Str × V)} {d : Addr} (I : CxH P w K mg base k N Vz Sz G sc a0 oe X) (T : Xf K C) (z : IsE (.ref C) (some d) oe) (hno : PySem.W.findIn K (.ref C) f = some none) (hb : attributeBase e f X.env (eval e X.env) = eval e X.env)
    (q : wE X e σ H fun y H1 => y = .ref a0 ∧ H1 d = some (.xd fs) ∧ ∃ v, fs.lookup f = some v ∧ Q v H1) : wE X (.Attribute e f pos) σ H Q := by
  refine ⟨fun pins s J => attr_of hb (thn (q.run pins s J) fun u s1 hh => ?_)⟩
  obtain ⟨y, H1, J1, ry, rfl, hx, v, hl, q1⟩ := hh
  obtain rfl : u = Value.ref a0 := ry
  obtain ⟨od, ins, more⟩ := I.inst (f := f) z (fun dd e => by cases e; exact ⟨fs, hx⟩) J1
  obtain ⟨ob, mA, rfl, lk, rel⟩ := more d fs rfl hx
  obtain ⟨u, hu, ru⟩ := RelO.some_of (v := v) (o := mA f) (by rw [← hl]; exact rel f)
  obtain ⟨eP, ew, eK, _⟩ := I
  subst eK
  exact HandSPX.exc_get J1.kIn ins T.ga T.gg T.sb (PySem.W.findObj_own T.hd hno rfl (by rw [lk, hu])) (handed_of ru) ⟨v, H1, J1.tok _, ru, q1⟩
end
/-! #### defs that get the exception -/
abbrev SpE : Type := Value → Option Addr → Hp → VK → Prop
structure FnE (P : Program) (w : World) (K : PySem.W.Frag) (mg : Str → Option Value) (base : Heap) (k : Nat) (f : Addr) (fd : FuncData) (p : Str) (sp : SpE) : Prop where
  run : ∀ (A : Around) (outer : List Env) (s : Shared) (H : Hp) (a : Addr) (oe : Obj) (cls : Value) (d : Option Addr) (Q : VK), L2H.RoomH k A → A.handled = some (.ref a) → L2H.PinOk outer H s (a, oe) → IsE cls d oe → Env0 P w K mg base A outer s H → BindsTo s fd ⟨[.ref a], []⟩ [(p, .ref a)] →
    sp cls d H Q → codeAny (model P w) A (.call (.ref f) ⟨[.ref a], []⟩) (CR CX0 outer P w H s Q E0) s
section
variable {P : Program} {w : World} {K : PySem.W.Frag} {mg : Str → Option Value} {base : Heap} {k j n : Nat} {N Vz Sz G : List Str} {sc : Scope} {x qual ar : Str} {v : V} {p p' apos : Pos} {X : Cx} {a0 f : Addr} {oe : Obj} {cls : Value} {dd : Option Addr} {st : Stmt} {fd : FuncData} {sp : SpE}
variable {e : Expr} {σ : L2.St} {H : Hp} {Q : VK} {pos : Pos}
theorem fn_E (F : Fn K x qual st f fd) (S : FnScope N [ar] (defScope st)) (ok : namesOk Vz Vz G (defScope st) = true)
    (body : ∀ (X : Cx) (a : Addr) (oe : Obj) (cls : Value) (d : Option Addr) (H : Hp) (Q : VK), CxH P w K mg base k N Vz Vz G (defScope st) a oe X → IsE cls d oe → sp cls d H Q → wB X (defBody st) { nx := fun _ H' => Q .non H', rt := Q } (L2.start N [.ref a]) H) : FnE P w K mg base (k + 1) f fd ar sp := by
  obtain ⟨dvs, kws, F⟩ := F.ex
  obtain ⟨oc, od, dV, kV, doc, pm, an, cdv, ct, osl, rfl, lk, hcd, _, _⟩ := F.ex
  refine ⟨fun A outer s H a oe cls d Q hr hh hpin z e0 hb h => ?_⟩
  have KX : K.In s.heap := e0.mod.kin.keeps fun b o e => (e0.bs b o e).1
  have lim : s.heap.NoLimit := e0.mod.nolimit.keeps fun b o e => (e0.bs b o e).1
  have hkind : ∀ y ∈ [(ar, Value.ref a)], (defScope st).names.lookup y.1 = some .local ∨ ((defScope st).names.lookup y.1 = some .cell ∧ ((cellsFrom (s.heap.objs.size + 1) (defScope st).names []).lookup y.1).isSome = true) := fun y hy => by
    rw [List.mem_singleton.mp hy]
    rcases S.par ar (List.mem_singleton.mpr rfl) with q | q
    · exact .inl q
    · exact .inr ⟨q, PySem.W.cellsFrom_some _ _ _ (.inl q)⟩
  refine codeAny_call_function hr.depth (KX _ _ lk) rfl S.co S.gen rfl (PySem.W.codeRec_of KX hcd) (hb _ _ _ _ ?_)
  refine wpAny_newFunctionEnv_cells S.kind hkind fun env he s1 y => ?_
  subst he
  refine ⟨lim.keeps y.toInCall.keep, codeAny_func ?_⟩
  have I : Inv (L2H.cxH CX0 P w K mg base N qual (defScope st) f cdv A outer s H E0 (a, oe)) [] (L2.start N [.ref a]) H s1 := L2H.inv_startH S hpin e0 rfl (.cons rfl .nil) y
  have hB := body (L2H.cxH CX0 P w K mg base N qual (defScope st) f cdv A outer s H E0 (a, oe)) a oe cls d H Q ⟨rfl, rfl, rfl, rfl, rfl, rfl, rfl, hr.deeper _, hh, List.mem_cons_self, fun _ => rfl, S.nd, ok, S.kind⟩ z h
  refine wpAny_mono (hB.run [] s1 I) (fun fl s' hs => ?_) fun e s' hs => hs
  have fin : ∀ {σ' : L2.St} {H' : Hp} {v : V} {u : Value}, Inv (L2H.cxH CX0 P w K mg base N qual (defScope st) f cdv A outer s H E0 (a, oe)) [] σ' H' s' → RelV v u → Q v H' → CE outer P w H s Q u s' := fun {σ' H' v u} J rv q => ⟨v, H', J.os, J.bare, J.base, J.hok, rv, q⟩
  cases fl with
  | ret u => obtain ⟨v, σ', H', J, rv, q⟩ := hs; exact fin J rv q
  | next => obtain ⟨σ', H', J, q⟩ := hs; exact fin (v := V.non) (u := Value.none) J rfl q
  | brk => obtain ⟨_, _, _, q⟩ := hs; exact False.elim q
  | cont => obtain ⟨_, _, _, q⟩ := hs; exact False.elim q
structure DE (P : Program) (w : World) (K : PySem.W.Frag) (mg : Str → Option Value) (base : Heap) (k : Nat) (x ar : Str) (sp : SpE) : Prop where
  ex : ∃ f fd, FnE P w K mg base k f fd ar sp ∧ mg x = some (.ref f) ∧ PySem.W.keepIn K (.ref f) = true ∧ Binds K fd [ar] []
theorem wE_callE (C : CxH P w K mg base k N Vz Sz G sc a0 oe X) (D : DE P w K mg base j x ar sp) (hx : x ∈ G) (hj : j ≤ k) (z : IsE cls dd oe) (he : starEach [e] X.env = (false, eval e X.env) :: starEach [] X.env) (hpl : (backTo pos (starEach [] X.env)).any (·.1) = false)
    (q : wA X [e] σ H fun vs H1 => vs = [.ref a0] ∧ sp cls dd H1 Q) : wE X (.Call (.Name x p) [e] [] pos) σ H Q := by
  obtain ⟨f, fd, Fk, hm, kp, hb⟩ := D.ex
  obtain ⟨l, d1, _⟩ := C.glo hx
  obtain ⟨rfl, rfl, rfl, rfl, rfl, _, _, hr, hh, hp, _, _, _, _⟩ := C
  refine ⟨fun pins s I => wpAny_Call_Name_kw (ld_glob I l hm ?_ d1)⟩
  refine PySem.W.callWith_K (h₀ := X.base) I.ok.mod.kin kp (thn (q.run pos pins s I) fun us s1 ⟨vs, H1, I1, r, ev, q1⟩ => ⟨I1.kIn, ?_⟩) he hpl
  subst ev
  obtain ⟨u, rfl, ru⟩ := vals1 r
  obtain rfl : u = Value.ref a0 := ru
  have p1 := I1.pin (a0, oe) (List.mem_append_left _ hp)
  have hpin : L2H.PinOk X.stack H1 s1 (a0, oe) := ⟨p1.1, p1.2.1, fun hm => (List.mem_cons.mp (I1.stkSub a0 hm)).elim p1.2.2.1 p1.2.2.2.1, p1.2.2.2.2⟩
  have bnd := hb s1 [Value.ref a0] I1.kIn rfl
  refine wpAny_call (codeAny_mono (Fk.run X.A X.stack s1 H1 a0 oe cls dd Q (hr.mono hj) hh hpin z I1.env0 bnd q1) fun r s' hq => ?_)
  cases r with
  | error e => exact False.elim hq
  | ok fl =>
    cases fl with
    | ret u => exact I1.after hq
    | next => exact False.elim hq
    | brk => exact False.elim hq
    | cont => exact False.elim hq
end
/-! #### lists of truths -/
theorem dpa_bls {K : PySem.W.Frag} {H : Hp} : ∀ bs : List Bool, DpAll K H (bs.map V.bl) (bs.map PyData.bool)
  | [] => .nil
  | b :: bs => .cons (.bl b) (dpa_bls bs)
theorem shp_bls : ∀ bs : List Bool, PyData.canLayAll0 (bs.map PyData.bool) = true ∧ PyData.depthAll (bs.map PyData.bool) ≤ 1 ∧ PyData.plainAll (bs.map PyData.bool) = true
  | [] => ⟨rfl, by decide, rfl⟩
  | b :: bs => by
    obtain ⟨h1, h2, h3⟩ := shp_bls bs
    refine ⟨?_, ?_, ?_⟩
    · show (true && PyData.canLayAll0 (bs.map PyData.bool)) = true; rw [h1]; rfl
    · show max (PyData.depth (.bool b)) (PyData.depthAll (bs.map PyData.bool)) ≤ 1
      have : PyData.depth (.bool b) ≤ 1 := by first | exact Nat.le_refl _ | exact Nat.zero_le _ | simp [PyData.depth]
      omega
    · show (true && PyData.plainAll (bs.map PyData.bool)) = true; rw [h3]; rfl
theorem shl_bls (bs : List Bool) : SeqAt.shaped (.list (bs.map PyData.bool)) = true := by
  obtain ⟨h1, h2, _⟩ := shp_bls bs
  refine Bool.and_eq_true_iff.mpr ⟨h1, decide_eq_true ?_⟩
  have e : PyData.depth (.list (bs.map PyData.bool)) ≤ PyData.depthAll (bs.map PyData.bool) + 1 := by first | exact Nat.le_refl _ | (show 1 + _ ≤ _ + 1; omega) | simp [PyData.depth]
  omega
theorem eqv_bls : ∀ as bs : List Bool, PyData.eqvAll (as.map PyData.bool) (bs.map PyData.bool) = decide (as = bs)
  | [], [] => rfl
  | [], _ :: _ => rfl
  | _ :: _, [] => rfl
  | a :: as, b :: bs => by
    show (PyData.eqv (.bool a) (.bool b) && PyData.eqvAll (as.map PyData.bool) (bs.map PyData.bool)) = _
    rw [eqv_bls as bs]
    cases a <;> cases b <;> simp [PyData.eqv]
section
variable {X : Cx} {H : Hp} {Q : VK} {a b : Addr} {as bs : List Bool}
theorem o_eqBs (hu : X.A.units + 64 < cLine) (h1 : SqL X.K H a (as.map V.bl)) (h2 : SqL X.K H b (bs.map V.bl)) (q : Q (.bl (decide (as = bs))) H) : wO X (compareOp .Eq) (.ref a) (.ref b) H Q :=
  wO.of (op_eqD hu) ⟨_, _, .lst h1 (dpa_bls as), .lst h2 (dpa_bls bs), shl_bls as, shl_bls bs, by
    show Q (.bl (PyData.eqvAll (as.map PyData.bool) (bs.map PyData.bool))) H
    rw [eqv_bls]; exact q⟩
/-- bs.count(b) -/
theorem wE_countB {b0 : Bool} {o e : Expr} {σ : L2.St} {apos pos : Pos} (hu : X.A.units + 64 < cLine) (hbase : attributeBase o "count" X.env (eval o X.env) = eval o X.env)
    (hfew : ((backTo pos (starEach [e] X.env)).all (fun x => !x.1) && (backToKw pos (keywordEach [] X.env)).all (fun x => x.1.isSome) && decide ([e].length + ([] : List Keyword).length + (if ([] : List Keyword).isEmpty then 0 else 1) < 30)) = true)
    (hline : (apos.endLine == pos.line) = true) (hs : starEach [e] X.env = (false, eval e X.env) :: starEach [] X.env) (hplain : (backTo pos (starEach [] X.env)).any (·.1) = false)
    (q : wE X o σ H fun x H1 => ∃ (l : Addr) (as : List Bool), x = .ref l ∧ SqL X.K H1 l (as.map V.bl) ∧ wE X e σ H1 fun y H2 => y = .bl b0 ∧ SqL X.K H2 l (as.map V.bl) ∧ Q (.int (as.count b0 : Nat)) H2) : wE X (.Call (.Attribute o "count" apos) [e] [] pos) σ H Q := by
  refine wE.of (pe_bm (T := "list") (r := fun x xs H Q => ∃ (l : Addr) (as : List Bool), x = .ref l ∧ xs = [.bl b0] ∧ SqL X.K H l (as.map V.bl) ∧ Q (.int (as.count b0 : Nat)) H) F.plainAttrs_list F.slot_list_count F.type_list_count ?_ wE.pe wA.pa hbase hfew hline hs hplain) ?_
  · rintro pins s σ H x xs v us Q I rx rxs ⟨l, as, rfl, rfl, hl, q⟩
    obtain rfl : v = Value.ref l := rx
    obtain ⟨u, rfl, ru⟩ := vals1 rxs
    obtain rfl : u = Value.bool b0 := ru
    obtain ⟨its, rv, hI, _⟩ := I.list hl
    obtain ⟨ad, rds⟩ := Dp.readsAll I (as.map PyData.bool) _ _ (dpa_bls as) rv
    obtain ⟨h1, h2, h3⟩ := shp_bls as
    have cnt : (as.map PyData.bool).countP (fun y => PyData.eqv y (.bool b0)) = as.count b0 := by
      rw [List.countP_map]
      refine List.countP_congr fun c _ => ?_
      cases c <;> cases b0 <;> decide
    have dz : PyData.depth (.bool b0) ≤ 1 := by first | exact Nat.le_refl _ | exact Nat.zero_le _ | simp [PyData.depth]
    refine SeqAt.count_list_data (d := .bool b0) hI.isList rds (Reads.bool b0) h3 rfl (by omega) ?_
    rw [cnt]
    exact ⟨.int _, H, I.tok _, ⟨_, rfl⟩, q⟩
  · refine ⟨fun pins s I => thn (q.run pins s I) fun u s1 ⟨x, H1, I1, r1, l, as, ex, hl, z⟩ => ⟨x, H1, I1, r1, ?_, ?_⟩⟩
    · subst ex
      exact .inl ⟨rfl, _, hl⟩
    · refine wA_cons hs ?_
      refine ⟨fun pins2 s2 I2 => thn (z.run pins2 s2 I2) fun u2 s3 ⟨y, H2, I3, r2, ey, h2, h3⟩ => ⟨y, H2, I3, r2, ?_⟩⟩
      exact wA_nil ⟨l, as, ex, by rw [ey], h2, h3⟩
/-- bs.index(True) -/
theorem wE_indexH {o e : Expr} {σ : L2.St} {apos pos : Pos} (hbase : attributeBase o "index" X.env (eval o X.env) = eval o X.env)
    (hfew : ((backTo pos (starEach [e] X.env)).all (fun x => !x.1) && (backToKw pos (keywordEach [] X.env)).all (fun x => x.1.isSome) && decide ([e].length + ([] : List Keyword).length + (if ([] : List Keyword).isEmpty then 0 else 1) < 30)) = true)
    (hline : (apos.endLine == pos.line) = true) (hs : starEach [e] X.env = (false, eval e X.env) :: starEach [] X.env) (hplain : (backTo pos (starEach [] X.env)).any (·.1) = false)
    (q : wE X o σ H fun x H1 => ∃ l xs, x = .ref l ∧ SqL X.K H1 l xs ∧ wE X e σ H1 fun y H2 => IxQ X.K l xs y H2 fun i => Q (.int i) H2) : wE X (.Call (.Attribute o "index" apos) [e] [] pos) σ H Q := by
  refine wE.of (pe_bm (T := "list") F.plainAttrs_list F.slot_list_index F.type_list_index mt_index wE.pe wA.pa hbase hfew hline hs hplain) ?_
  refine ⟨fun pins s I => thn (q.run pins s I) fun u s1 ⟨x, H1, I1, r1, l, xs, ex, hl, z⟩ => ⟨x, H1, I1, r1, ?_, ?_⟩⟩
  · subst ex
    exact .inl ⟨rfl, _, hl⟩
  · refine wA_cons hs ?_
    refine ⟨fun pins2 s2 I2 => thn (z.run pins2 s2 I2) fun u2 s3 ⟨y, H2, I3, r2, j, z', h1, h2, h3, h4, h5, h6, h7⟩ => ⟨y, H2, I3, r2, ?_⟩⟩
    exact wA_nil ⟨l, xs, y, j, z', ex, rfl, h1, h2, h3, h4, h5, h6, h7⟩
end
end Rp
namespace Rp
open PySem PySem.Spec PyProof.Rows L2
/-! ### except (A, B, C, D, E) as e -/
section
open PySem.W
variable {M : Model} {K : Frag}
theorem exm_tup5 {c1 c2 c3 c4 c5 cls : Value} {tp e : Addr} {b : Bool} {h : Heap} (X : K.In h) (LT : Looks M h (typeOf (.ref e)) cls) (hp : h.get? tp = some { cls := .type "tuple", data := .seq [c1, c2, c3, c4, c5].toArray }) (hx : exmAny K cls [c1, c2, c3, c4, c5] = some b) :
    Looks M h (excMatches (.ref e) (.ref tp)) b := by
  intro A Q E s k₀ q
  obtain ⟨hh, g, d, tk, os⟩ := s
  have k : ∀ b o, h.get? b = some o → hh.get? b = some o := k₀
  have LT0 : Looks M h (isInstance (.ref tp) (.type "tuple")) true := ((Looks.ld hp).andThen .now).andThen (Looks.of_pure isSubtype_tuple_tuple)
  obtain ⟨b1, d1, x1, y1, z1⟩ := exmAny_cons hx
  obtain ⟨e1, S1⟩ := exm_cls (M := M) X x1
  have e1 := e1.keeps k
  have S1 := S1.keeps k
  obtain ⟨b2, d2, x2, y2, z2⟩ := exmAny_cons y1
  obtain ⟨e2, S2⟩ := exm_cls (M := M) X x2
  have e2 := e2.keeps k
  have S2 := S2.keeps k
  obtain ⟨b3, d3, x3, y3, z3⟩ := exmAny_cons y2
  obtain ⟨e3, S3⟩ := exm_cls (M := M) X x3
  have e3 := e3.keeps k
  have S3 := S3.keeps k
  obtain ⟨b4, d4, x4, y4, z4⟩ := exmAny_cons y3
  obtain ⟨e4, S4⟩ := exm_cls (M := M) X x4
  have e4 := e4.keeps k
  have S4 := S4.keeps k
  obtain ⟨b5, d5, x5, y5, z5⟩ := exmAny_cons y4
  obtain ⟨e5, S5⟩ := exm_cls (M := M) X x5
  have e5 := e5.keeps k
  have S5 := S5.keeps k
  have w5 : some false = some d5 := y5
  cases w5
  have LT := LT.keeps k
  have LT0 := LT0.keeps k
  have hp' := k _ _ hp
  subst z1 z2 z3 z4 z5
  unfold excMatches
  refine wpAny_bind (LT0.at ?_)
  dsimp only
  rw [if_pos rfl]
  first
    | refine wpAny_bind (wpAny_seqItems hp' rfl ?_)
    | refine wpAny_bind (wpAny_bind (wpAny_seqItems hp' rfl (wpAny_pure ?_)))
  dsimp only [Option.getD_some, Option.getD]
  cases b1 <;> cases b2 <;> cases b3 <;> cases b4 <;> cases b5 <;> ((repeat (first | simp only [List.forIn_cons, List.forIn_nil, Bool.not_true, Bool.false_eq_true, if_false, if_true] | lk)); exact q)
end
/-- what the one clause does with what is let out -/
def wTup (K : PySem.W.Frag) (ln i : Nat) (D : Ends) (cs : List Value) (c2 : Addr → Value → Option Addr → TS) : WX := fun cls d σ H => PySem.W.exmAny K cls cs = some true ∧ (σ.length = ln → ∀ a, H a = none → c2 a cls d (goneD D i) (σ.set i (some (.ref a))) H)
section
variable {X : Cx} {pins : List (Addr × Obj)} {σ : L2.St} {H : Hp} {sI s' : Shared} {a L : Addr} {B h3 : Heap} {cls : Value} {d : Option Addr} {D : Ends} {n : Str} {i : Nat}
theorem flying_keeps {l : List Env} {Z : Obj → Prop} {h h' : Heap} (k : ∀ b o, h.get? b = some o → h'.get? b = some o) (f : HandSPX.FlyingZ B l a Z h) : HandSPX.FlyingZ B l a Z h' := by
  obtain ⟨f1, f2, f3, oe, vs, T, oT, ts, g1, g2, g3, g4, g5, g6, g7, g8, g9⟩ := f
  exact ⟨fun b o e => k _ _ (f1 b o e), f2, Heap.FunFrames.of_keeps (fun b o e _ => ⟨o, k _ _ e, rfl⟩) f3, oe, vs, T, oT, ts, k _ _ g1, g2, g3, g4, g5, g6, k _ _ g7, g8, g9⟩
theorem tup_ok {x1 x2 x3 x4 x5 : Str} {p1 p2 p3 p4 p5 tpos pos : Pos} {kk} {b₀ : Stmt} {suite : List Stmt} {c1 c2 c3 c4 c5 : Value} {cz : Addr → Value → Option Addr → TS} (hf : X.env.frame = some X.env.locals) (hN : X.N.Nodup) (hi : X.N[i]? = some n) (hln : X.env.kindOf n = some .local) (J : Inv X pins σ H sI)
    (nb : ∀ b o, sI.heap.get? b = some o → b ∉ frs X.stack → B.get? b = some o) (up : sI.heap.UpToSlots h3) (fl : HandSPX.FlyingZ B (X.env :: X.outer) a (L2N.Zn cls d) h3) (na : H a = none) (os : s'.os = sI.os) (ag : AllBare s'.gens) (nL : a ≠ X.env.locals) (nF : a ∉ X.fs)
    (n1 : Names X x1 c1) (n2 : Names X x2 c2) (n3 : Names X x3 c3) (n4 : Names X x4 c4) (n5 : Names X x5 c5)
    (su : ∀ (a : Addr) (oe : Obj) (cls : Value) (d : Option Addr) (pn : List (Addr × Obj)), L2N.Zn cls d oe → (∃ vs, oe.data = .fields vs) → PSs (X.suite a ((a, oe) :: pn)) (b₀ :: suite) (cz a cls d))
    (w : wTup X.K X.N.length i D [c1, c2, c3, c4, c5] cz cls d σ H) : wpAny (model X.prog X.w) X.A (handleBy (.ref a) X.env [.ExceptHandler (some (.Tuple [.Name x1 p1, .Name x2 p2, .Name x3 p3, .Name x4 p4, .Name x5 p5] kk tpos)) (some n) (b₀ :: suite) pos]) (SP X pins D) X.xe { s' with heap := h3 } := by
  have ok := J.ok
  have J3 : Inv X pins σ H { s' with heap := h3 } := J.landed nb fl.1 up os ag
  obtain ⟨oe, ve, he, hz, hd⟩ := fl.there
  have S3 := J3.suite he hd na nL nF
  obtain ⟨eb, yes⟩ := w
  have named : ∀ {x : Str} {p : Pos} {c : Value} {Q E : Value → Shared → Prop}, Names X x c → Q c { s' with heap := h3 } → wpAny (model X.prog X.w) (X.A.mark (some (.ref a))) (eval (.Name x p) X.env) Q E { s' with heap := h3 } := by
    intro x p c Q E nm q
    rcases nm with ⟨k1, k2, k3 | ⟨k3, k4, k5⟩⟩
    · exact ld_glob (X := X.suite a ((a, oe) :: (X.pn ++ pins))) S3 k1 k3 q k2
    · exact ld_blt (X := X.suite a ((a, oe) :: (X.pn ++ pins))) S3 k1 k3 k4 q k5 k2
  refine wpAny_handleBy_cons (codeAny_handlers_test (wpAny_Tuple_spliced ?_)) (fun q => by cases q)
  refine Calls.spliced_cons (named n1 (Calls.spliced_cons (named n2 (Calls.spliced_cons (named n3 (Calls.spliced_cons (named n4 (Calls.spliced_cons (named n5 (Calls.spliced_nil ?_))))))))))
  refine ⟨(by show 5 ≤ sizeLine; decide), ?_⟩
  have kp : ∀ b u, h3.get? b = some u → (h3.push { cls := .type "tuple", data := .seq [c1, c2, c3, c4, c5].toArray }).get? b = some u := fun b u e => Heap.get?_push_of_some _ e
  have f5 := flying_keeps kp fl
  have J5 : Inv X pins σ H { s' with heap := h3.push { cls := .type "tuple", data := .seq [c1, c2, c3, c4, c5].toArray } } := J.landed nb f5.1 (up.trans (Heap.UpToSlots.of_keeps kp)) os ag
  have lt : PySem.W.Looks (model X.prog X.w) (h3.push { cls := .type "tuple", data := .seq [c1, c2, c3, c4, c5].toArray }) (typeOf (.ref a)) cls := fun A Q E s k q => wpAny_typeOf_ref (k _ _ (kp _ _ he)) (by rw [hz.1]; exact q)
  have lm := exm_tup5 (M := model X.prog X.w) J5.kIn lt (Heap.get?_push_size _ rfl) eb
  refine lm.here ?_
  refine codeAny_handlers_suite_as (HandSPX.lands_againZ f5 fun h4 fl4 up4 => ?_)
  have J4 : Inv X pins σ H { s' with heap := h4 } := J.landed nb fl4.1 ((up.trans (Heap.UpToSlots.of_keeps kp)).trans up4) os ag
  obtain ⟨oe4, ve4, he4, hz4, hd4⟩ := fl4.there
  have S4 := J4.suite he4 hd4 na nL nF
  refine store_ok (X := X.suite a ((a, oe4) :: (X.pn ++ pins))) (v := .ref a) S4 hN hi (.inl hln) rfl (fun s5 S5 => ?_) (.inr hln)
  refine wpAny_mono ((su a oe4 cls d (X.pn ++ pins) hz4 ⟨_, hd4⟩).run [] s5 _ H _ S5 (yes J.len a na)) (fun f s6 z => ?_) (fun _ _ z => False.elim z)
  have ends : ∀ {σ6 : L2.St} {H6 : Hp} {R : Shared → Prop}, Inv (X.suite a ((a, oe4) :: (X.pn ++ pins))) [] σ6 H6 s6 → (∀ s7, Inv X pins (σ6.set i none) H6 s7 → R s7) →
      wpAny (model X.prog X.w) X.A (do bindName X.env n .none; unbindBehindTheSuite X.env n pos) (fun _ s7 => R s7) X.xe s6 := fun S6 hq => gone_ok (S6.unsuite ok) hN hi hln hq
  cases f with
  | ret u => obtain ⟨v6, σ6, H6, S6, r6, q6⟩ := z; exact ends S6 fun s7 J7 => ⟨v6, _, H6, J7, r6, q6⟩
  | next => obtain ⟨σ6, H6, S6, q6⟩ := z; exact ends S6 fun s7 J7 => ⟨_, H6, J7, q6⟩
  | brk => obtain ⟨σ6, H6, S6, q6⟩ := z; exact ends S6 fun s7 J7 => ⟨_, H6, J7, q6⟩
  | cont => obtain ⟨σ6, H6, S6, q6⟩ := z; exact ends S6 fun s7 J7 => ⟨_, H6, J7, q6⟩
theorem ps_try_tup {body : List Stmt} {x1 x2 x3 x4 x5 : Str} {p1 p2 p3 p4 p5 tpos hpos pos : Pos} {kk} {b₀ : Stmt} {suite : List Stmt} {c1 c2 c3 c4 c5 : Value} {cz : Addr → Value → Option Addr → TS} {tb : WX → TS} (hs : X.stack = X.env :: X.outer) (hf : X.env.frame = some X.env.locals) (hN : X.N.Nodup) (hi : X.N[i]? = some n) (hln : X.env.kindOf n = some .local)
    (hb : ∀ (W : WX) (pn : List (Addr × Obj)) (xe : Value → Shared → Prop), L2N.Takes (X.tr pn xe) W → PassesOwn (model X.prog X.w) X.A X.env xe → PSs (X.tr pn xe) body (tb W))
    (n1 : Names X x1 c1) (n2 : Names X x2 c2) (n3 : Names X x3 c3) (n4 : Names X x4 c4) (n5 : Names X x5 c5)
    (su : ∀ (a : Addr) (oe : Obj) (cls : Value) (d : Option Addr) (pn : List (Addr × Obj)), L2N.Zn cls d oe → (∃ vs, oe.data = .fields vs) → PSs (X.suite a ((a, oe) :: pn)) (b₀ :: suite) (cz a cls d)) :
    PS X (.Try body [.ExceptHandler (some (.Tuple [.Name x1 p1, .Name x2 p2, .Name x3 p3, .Name x4 p4, .Name x5 p5] kk tpos)) (some n) (b₀ :: suite) hpos] [] [] pos) (fun D σ H => tb (wTup X.K X.N.length i D [c1, c2, c3, c4, c5] cz) D σ H) := by
  refine ⟨fun pins s σ H D I h => wpAny_Try_except ?_⟩
  have ok := I.ok
  have hfr : X.A.frames = some (X.env :: X.outer) := by rw [ok.frames, hs]
  have body_ok := hb (wTup X.K X.N.length i D [c1, c2, c3, c4, c5] cz) (X.pn ++ pins) (fun e s₁ => wpAny (model X.prog X.w) X.A (noteFrame e X.env) (fun _ s₂ => wpAny (model X.prog X.w) X.A (setFlight e none) (fun _ s₃ => wpAny (model X.prog X.w) X.A (handleBy e X.env [.ExceptHandler (some (.Tuple [.Name x1 p1, .Name x2 p2, .Name x3 p3, .Name x4 p4, .Name x5 p5] kk tpos)) (some n) (b₀ :: suite) hpos]) (SP X pins D) X.xe s₃) X.xe s₂) X.xe s₁)
    (fun u s' z => ?_) PassesOwn.looking
  · refine wpAny_mono (body_ok.run [] s σ H D (I.toTry _) h) (fun f s1 z => ?_) (fun e s1 he => he)
    cases f with
    | ret u => obtain ⟨v, σ', H', J', r, q⟩ := z; exact ⟨v, σ', H', J'.ofTry ok, r, q⟩
    | brk => obtain ⟨σ', H', J', q⟩ := z; exact ⟨σ', H', J'.ofTry ok, q⟩
    | cont => obtain ⟨σ', H', J', q⟩ := z; exact ⟨σ', H', J'.ofTry ok, q⟩
    | next => obtain ⟨σ', H', J', q⟩ := z; exact wpAny_execs_nil ⟨σ', H', J'.ofTry ok, q⟩
  · obtain ⟨a, B, sI, pins', σ', H', cls, d, rfl, J', nb, up, sky, na, os, ag, w⟩ := z
    have J : Inv X pins σ' H' sI := J'.ofTry ok
    have sky' : Sky B (X.env :: X.outer) a (L2N.Zn cls d) X.env.locals s'.heap := by rw [← hs]; exact sky
    refine L2N.Sky.land L2N.Zn.steady hfr hf sky' fun h3 fl3 up3 => ?_
    have nfr : a ∉ frs (X.env :: X.outer) := fun hm => by
      obtain ⟨oe, ve, he, _, hd⟩ := fl3.there
      obtain ⟨_, o', e', hnf⟩ := fl3.2.2.1.mem hm
      rw [he] at e'
      cases e'
      exact hnf _ hd
    refine tup_ok hf hN hi hln J nb (up.trans up3) fl3 na os ag (fun z => nfr ?_) (fun hm => nfr ?_) n1 n2 n3 n4 n5 su w
    · exact List.mem_filterMap.mpr ⟨X.env, List.mem_cons_self, by rw [hf, z]⟩
    · obtain ⟨e, he, q⟩ := List.mem_filterMap.mp hm
      exact List.mem_filterMap.mpr ⟨e, List.mem_cons_of_mem _ he, q⟩
end
end Rp
/-! ### a lambda handed to a def, whatever is kept of what its body lets out (CX) -/
namespace LamG
open PySem PySem.Spec PyProof.Rows L2
/-- LamX's context, with another wish -/
def cx (CX : CXT) (X : Cx) (A : Around) (outer : List Env) (s : Shared) (H : Hp) (E : XK) (scope : Scope) (f c' : Addr) : Cx :=
  { LamX.lamCx X A outer s H E scope f c' with xe := fun e s' => wpAny (model X.prog X.w) (A.deeper (LamX.lamEnv X scope s.heap.objs.size f c')) (leaving (LamX.lamEnv X scope s.heap.objs.size f c') e) (fun _ s'' => CX outer H s E e s'') (fun e' s'' => CX outer H s E e' s'') s' }
section
variable {X : Cx} {pins : List (Addr × Obj)} {σ : L2.St} {H HZ : Hp} {s s1 : Shared} {CX : CXT}
theorem act {CXg : CXT} {Eg : XK} {Ng : List Str} {qg : Str} {sg : Scope} {g f c' : Addr} {cdg pm ctv : Value} {params : Arguments} {body : Expr} {scope : Scope} {k i : Nat} {a : Str} {pn : List (Addr × Obj)} {xe : Value → Shared → Prop} {E : XK} {tb : TE} {p1 p2 : Pos}
    (I : Inv X pins σ H s) (L : LamX.LamS X.env.scope scope) (hf : s.heap.get? f = some (PySem.W.kla_obj "<lambda>" (X.env.qual ++ "<lambda>") params body scope (cloFrom X.env.cells scope.names []) pm c' ctv)) (hfn : H f = none) (hfr : f ∉ frs X.stack)
    (hbind : bindArgs (PySem.W.kla_fn "<lambda>" (X.env.qual ++ "<lambda>") params body scope (cloFrom X.env.cells scope.names []) pm (.ref c') ctv) ⟨[], []⟩ = pure [])
    (hx : Passes CX ((cxOf CXg X.prog X.w X.K X.mg X.base Ng qg sg g cdg X.A X.stack s H Eg).tr pn xe) E) (hr : Room (k + 1) (X.A.deeper (envOfC qg sg s.heap.objs.size g cdg)))
    (hbody : ∀ (A : Around) (outer : List Env) (s : Shared) (H : Hp), Room k (A.deeper (LamX.lamEnv X scope s.heap.objs.size f c')) → PE (cx CX X A outer s H E scope f c') body tb)
    (hN : Ng[i]? = some a) (hv : Vis sg a) (hd : (a == ("__debug__" : Str)) = false) (hcd : (a == ("__classdict__" : Str)) = false) :
    PE ((cxOf CXg X.prog X.w X.K X.mg X.base Ng qg sg g cdg X.A X.stack s H Eg).tr pn xe) (.Call (.Name a p1) [] [] p2)
      (fun σZ HZ Q => σZ[i]? = some (some (.ref f)) ∧ HZ c' = some (LamX.CodeO c' (X.env.qual ++ "<lambda>")) ∧ tb σ HZ Q) := by
  refine ⟨fun pinsZ sZ σZ HZ Q IZ h => ?_⟩
  obtain ⟨hs, hc, ht⟩ := h
  refine wpAny_Call_Name_kw (thn ((pe_var (pos := p1) (i := i) hN hv hd hcd).run pinsZ sZ σZ HZ (fun v H1 => v = .ref f ∧ H1 = HZ) IZ ⟨.ref f, hs, rfl, rfl⟩) fun u s1 ⟨v, H1, I1, r1, q1⟩ => ?_)
  obtain ⟨ev, eH⟩ := q1
  subst ev
  rw [eH] at I1
  obtain rfl : u = Value.ref f := r1
  have of1 := I1.base.keep f _ hf hfn hfr (fun z => nomatch (show f ∈ ([] : List Addr) from z))
  refine PySem.W.callWith_F0 ⟨_, _, _, _, of1⟩ ?_
  have un : Un (frs X.stack) [] H HZ s.heap s1.heap := I1.base
  obtain ⟨⟨oc, vs, t, hoc, hdc, hvc⟩, _, _⟩ := I1.hok c' _ hc
  have rc : codeAny (model X.prog X.w) (X.A.deeper (envOfC qg sg s.heap.objs.size g cdg)) (.call (.ref f) ⟨[], []⟩) (CR CX (envOfC qg sg s.heap.objs.size g cdg :: X.stack) X.prog X.w HZ s1 Q E) s1 := by
    refine PySem.W.kla_callFunE hr.depth of1 rfl L.co L.gen rfl ⟨c', oc, vs, t, rfl, hoc, hdc, hvc⟩ ?_
    rw [hbind]
    refine wpAny_pure (wpAny_newFunctionEnv (fun y hy => (L.own y hy).2) (fun y hy => absurd hy (by simp)) (fun h₁ hns hsb => ⟨I1.nolimit.fresh _ hsb, ?_⟩) L.kind)
    have kp : ∀ b o, s1.heap.get? b = some o → h₁.get? b = some o := fun b o e => hsb.extBut b o (Nat.ne_of_lt (Heap.lt_size e)) (Heap.get?_push_of_some _ e)
    have J0 : Inv (LamX.lamCx X (X.A.deeper (envOfC qg sg s.heap.objs.size g cdg)) (envOfC qg sg s.heap.objs.size g cdg :: X.stack) s1 HZ E scope f c') [] σ HZ { s1 with heap := h₁, toks := s1.toks + ([] : List (Str × Value)).length } :=
      LamX.lam_start2 I L I1.env0 hr.hd un hns kp
    have J : Inv (cx CX X (X.A.deeper (envOfC qg sg s.heap.objs.size g cdg)) (envOfC qg sg s.heap.objs.size g cdg :: X.stack) s1 HZ E scope f c') [] σ HZ { s1 with heap := h₁, toks := s1.toks + ([] : List (Str × Value)).length } := J0.wish _
    refine PySem.W.kla_codeExpr (wpAny_mono ((hbody _ _ s1 HZ (hr.deeper _)).run [] _ _ HZ Q J ht) (fun v s' hq => ?_) fun e s' hq => hq)
    obtain ⟨w', H', J', rv, q⟩ := hq
    exact ⟨w', H', J'.os, J'.bare, J'.base, J'.hok, rv, q⟩
  refine wpAny_call (codeAny_mono rc fun r s' hq => ?_)
  cases r with
  | error e => exact hx pinsZ σZ HZ s1 e s' I1 hq
  | ok fl =>
    cases fl with
    | ret u => exact I1.after hq
    | next => exact False.elim hq
    | brk => exact False.elim hq
    | cont => exact False.elim hq
end
/-- the def that calls what it got -/
def To (CX : CXT) (X : Cx) (Ng : List Str) (x : Str) (sg : Scope) (g : Addr) (cdg : Value) (bg : List Stmt) (a : Str) (q : Str) (TT : (XK → Hp → VK → Prop) → Hp → VK → Prop) : Prop :=
  ∀ (f c' : Addr) (s : Shared) (H : Hp) (Q : VK) (tl : XK → Hp → VK → Prop),
    (∀ (pn : List (Addr × Obj)) (xe : Value → Shared → Prop) (E : XK) (p1 p2 : Pos), Passes CX ((cxOf C8.CX0 X.prog X.w X.K X.mg X.base Ng x sg g cdg X.A X.stack s H C8.E0).tr pn xe) E →
      PE ((cxOf C8.CX0 X.prog X.w X.K X.mg X.base Ng x sg g cdg X.A X.stack s H C8.E0).tr pn xe) (.Call (.Name a p1) [] [] p2) (fun σZ HZ Q => σZ[0]? = some (some (.ref f)) ∧ HZ c' = some (LamX.CodeO c' q) ∧ tl E HZ Q)) →
    H c' = some (LamX.CodeO c' q) → TT tl H Q →
    ∃ t, PSs (cxOf C8.CX0 X.prog X.w X.K X.mg X.base Ng x sg g cdg X.A X.stack s H C8.E0).nox bg t ∧ t { nx := fun _ H' => Q .non H', rt := Q } (L2.start Ng [.ref f]) H
section
variable {X : Cx} {CX : CXT}
/-- x(lambda: body) -/
theorem call {T : List (Addr × Str)} {TT : (XK → Hp → VK → Prop) → Hp → VK → Prop} {x a : Str} {g c P : Addr} {k : Nat} {pg : Arguments} {bg : List Stmt} {sg : Scope} {dV kV doc pm cdv ct oc : Value} {an od : Option Addr} {osl : Array (Option Value)} {Ng : List Str}
    {params : Arguments} {body : Expr} {scope : Scope} {t : XK → TE} {p lpos pos : Pos} (hg : Gl X x) (hm : X.mg x = some (.ref g)) (hk : PySem.W.keepIn X.K (.ref g) = true)
    (lk : X.K.lookup g = some ⟨oc, od, .func (PySem.W.fnOf x x pg bg sg dV kV doc pm an cdv ct), osl⟩) (hcg : PySem.W.codeIn X.K cdv x = true) (hb : L2.Binds X.K (PySem.W.fnOf x x pg bg sg dV kV doc pm an cdv ct) [a] []) (Sg : FnScope Ng [a] sg) (hNg : Ng[0]? = some a) (hva : Vis sg a)
    (hG : To CX X Ng x sg g cdv bg a (X.env.qual ++ "<lambda>") TT)
    (TB : LamX.TabB X.base X.mg c P) (hcode : X.env.code = .ref c) (hmT : (P, X.env.qual ++ "<lambda>") ∈ T) (hu : ∀ p ∈ T, p.1 = P → p.2 = X.env.qual ++ "<lambda>") (hr : Room (k + 2) X.A) (L : LamX.LamS X.env.scope scope) (hdef : defaultsOf params X.env = ([], []))
    (hbind : ∀ (q : Str) (cl : List (Str × Addr)) (pm cv ctv : Value), bindArgs (PySem.W.kla_fn "<lambda>" q params body scope cl pm cv ctv) ⟨[], []⟩ = pure [])
    (hbody : ∀ (A : Around) (outer : List Env) (s : Shared) (H : Hp) (E : XK) (f c' : Addr), Room k (A.deeper (LamX.lamEnv X scope s.heap.objs.size f c')) → PE (cx CX X A outer s H E scope f c') body (t E))
    (hdb : (x == ("__debug__" : Str)) = false) (hd : (a == ("__debug__" : Str)) = false) (hcd : (a == ("__classdict__" : Str)) = false) :
    PE X (.Call (.Name x p) [.Lambda params body scope lpos] [] pos) (LamX.tLam T TT t) := by
  refine ⟨fun pins s σ H Q I h => ?_⟩
  obtain ⟨hT, h⟩ := h
  refine wpAny_Call_Name_kw (ld_glob I hg hm ?_ hdb)
  refine PySem.W.callWith_K (h₀ := X.base) I.ok.mod.kin hk ?_ (by rfl) (by rfl)
  show wpAny _ _ (spliced ((false, eval (.Lambda params body scope lpos) X.env) :: backTo pos (starEach [] X.env))) _ _ s
  refine Calls.spliced_cons (LamX.lam_make2 I TB hcode hmT hu hT hdef (L.has I.ok) fun f c' pm' ctv H1 s' I1 eN T1 hf hfn hfr hco => ?_)
  refine Calls.spliced_nil ⟨I1.kIn, ?_⟩
  have rc : codeAny (model X.prog X.w) X.A (.call (.ref g) ⟨[.ref f], []⟩) (CR C8.CX0 X.stack X.prog X.w H1 s' Q C8.E0) s' := by
    refine LamX.run_ofS (N := Ng) (ps := [a]) (us := [.ref f]) (vs := [.ref f]) lk hcg Sg hr I1.env0 (hb s' [.ref f] I1.kIn rfl) (.cons rfl .nil) rfl fun hr' => ?_
    obtain ⟨t', ht', hq'⟩ := hG f c' s' H1 Q (fun E H' Q' => t E σ H' Q') (fun pn xe E p1 p2 hx => act (i := 0) I1 L hf hfn hfr (hbind _ _ _ _ _) hx hr' (fun A outer s H hr2 => hbody A outer s H E f c' hr2) hNg hva hd hcd) hco (h H1 eN T1)
    exact ⟨t', ht'.nox, hq'⟩
  refine wpAny_call (codeAny_mono rc fun r s2 hq => ?_)
  cases r with
  | error e => exact (show False from hq).elim
  | ok fl =>
    cases fl with
    | ret u => exact I1.after hq
    | next => exact False.elim hq
    | brk => exact False.elim hq
    | cont => exact False.elim hq
end
theorem takes0 {X : Cx} : L2N.Takes X (fun _ _ _ _ => False) := fun _ _ x => by
  obtain ⟨_, _, _, _, _, _, _, _, _, _, _, _, _, _, _, _, z⟩ := x
  exact z.elim
end LamG
namespace Rp
open PySem PySem.Spec PyProof.Rows L2
/-! ### a lambda handed to a def -/
/-- what is known of the maker's code: its object, its table, its name -/
structure Mkr (base : Heap) (mg : Str → Option Value) (c PT : Addr) (qual : Str) (X : Cx) : Prop where
  tb : LamX.TabB base mg c PT
  code : X.env.code = .ref c
  qu : X.env.qual = qual ++ ".<locals>."
section
variable {P : Program} {w : World} {K : PySem.W.Frag} {mg : Str → Option Value} {base : Heap} {k j n : Nat} {N Vz Sz G Vc Sc' Gc ps : List Str} {sc scope : Scope} {x m f : Str} {v : V} {p lpos apos : Pos} {X : Cx} {c PT : Addr} {qual : Str} {T : List (Addr × Str)} {fd : FuncData} {sp : Sp} {st : Stmt} {fa : Addr}
variable {e body : Expr} {σ : L2.St} {H : Hp} {Q : VK} {pos : Pos} {params : Arguments} {E : XK}
/-- a def that makes lambdas, by its body (it lets nothing out) -/
theorem fn_wL (F : Fn K x qual st fa fd) (hc : ∀ oc od osl, K.lookup fa = some ⟨oc, od, .func fd, osl⟩ → fd.code = .ref c) (tb : LamX.TabB base mg c PT) (S : FnScope N ps (defScope st)) (ok : namesOk Vz Vz G (defScope st) = true) (len : ∀ vs H Q E, sp vs H Q E → vs.length = ps.length)
    (body : ∀ (X : Cx) (vs : List V) (H : Hp) (Q : VK) (E : XK), CxI P w K mg base k N Vz Vz G (defScope st) X → Mkr base mg c PT qual X → sp vs H Q E → wB X (defBody st) { nx := fun _ H' => Q .non H', rt := Q } (start N vs) H) : FnOk P w K mg base CX0 (k + 1) fa fd ps sp := by
  obtain ⟨dvs, kws, F⟩ := F.ex
  obtain ⟨oc, od, dV, kV, doc, pm, an, cdv, ct, osl, rfl, lk, hcd, _, _⟩ := F.ex
  have hcv : cdv = .ref c := hc _ _ _ lk
  subst hcv
  exact fn_of lk hcd S len fun A outer s H vs Q E hr h => ⟨_, PSs.nox wB.pss, body _ vs H Q E ⟨rfl, rfl, rfl, rfl, rfl, rfl, rfl, hr, rfl, .inl fun _ => rfl, PassesOwn.never, S.nd, ok, S.kind⟩ ⟨tb, rfl, rfl⟩ h⟩
/-- the lambda's body, read where it is called -/
def LamE (P : Program) (w : World) (K : PySem.W.Frag) (mg : Str → Option Value) (base : Heap) (k : Nat) (N Vc Sc' Gc : List Str) (scope : Scope) (body : Expr) (σ : L2.St) (E : XK) (H : Hp) (Q : VK) : Prop := ∀ X, CxI P w K mg base k N Vc Sc' Gc scope X → L2N.Takes X (wOf E) → wE X body σ H Q
/-- the def that gets the lambda: what it makes of the lambda's reading -/
structure Giv (P : Program) (w : World) (K : PySem.W.Frag) (mg : Str → Option Value) (base : Heap) (k : Nat) (x q : Str) (TT : (XK → Hp → VK → Prop) → Hp → VK → Prop) : Prop where
  ex : ∃ (g : Addr) (a : Str) (Ng : List Str) (pg : Arguments) (bg : List Stmt) (sg : Scope) (dV kV doc pm cdv ct oc : Value) (an od : Option Addr) (osl : Array (Option Value)), mg x = some (.ref g) ∧ PySem.W.keepIn K (.ref g) = true ∧
    K.lookup g = some ⟨oc, od, .func (PySem.W.fnOf x x pg bg sg dV kV doc pm an cdv ct), osl⟩ ∧ PySem.W.codeIn K cdv x = true ∧ Binds K (PySem.W.fnOf x x pg bg sg dV kV doc pm an cdv ct) [a] [] ∧ FnScope Ng [a] sg ∧ Ng[0]? = some a ∧ Vis sg a ∧
    (a == ("__debug__" : Str)) = false ∧ (a == ("__classdict__" : Str)) = false ∧ ∀ X, X.prog = P → X.w = w → X.K = K → X.mg = mg → X.base = base → Room k X.A → LamG.To (L2N.CX P w) X Ng x sg g cdv bg a q TT
theorem wE_lam {kl : Nat} {TT : (XK → Hp → VK → Prop) → Hp → VK → Prop} (C : CxI P w K mg base k N Vz Sz G sc X) (M : Mkr base mg c PT qual X) (D : Giv P w K mg base j x (qual ++ ".<locals>." ++ "<lambda>") TT) (hx : x ∈ G) (hk : kl + 2 ≤ k) (hj : j ≤ k)
    (hmT : (PT, qual ++ ".<locals>." ++ "<lambda>") ∈ T) (hu : ∀ p ∈ T, p.1 = PT → p.2 = qual ++ ".<locals>." ++ "<lambda>") (L : LamX.lamSB sc scope = true) (hdef : defaultsOf params X.env = ([], []))
    (hbind : ∀ (q : Str) (cl : List (Str × Addr)) (pm cv ctv : Value), bindArgs (PySem.W.kla_fn "<lambda>" q params body scope cl pm cv ctv) ⟨[], []⟩ = pure []) (okL : namesOk Vc [] Gc scope = true) (hkL : scope.kind = .function)
    (q : LamX.Tabs T H ∧ ∀ H1, LamX.ExtN H H1 → LamX.Tabs T H1 → TT (fun E H' Q' => LamE P w K mg base kl N Vc [] Gc scope body σ E H' Q') H1 Q) : wE X (.Call (.Name x p) [.Lambda params body scope lpos] [] pos) σ H Q := by
  obtain ⟨g, a, Ng, pg, bg, sg, dV, kV, doc, pm, cdv, ct, oc, an, od, osl, hm, kp, lk, hcg, hb, Sg, hNg, hva, hd1, hd2, hG⟩ := D.ex
  obtain ⟨l, d1, _⟩ := C.glo hx
  have nd := C.nd
  have hL := LamX.lamS_by L
  obtain ⟨rfl, rfl, rfl, rfl, rfl, rfl, rfl, hr, hcalm, _, _, _, _⟩ := C
  have hq : X.env.qual ++ "<lambda>" = qual ++ ".<locals>." ++ "<lambda>" := by rw [M.qu]
  refine wE.of (t := LamX.tLam T TT (fun E σ H Q => LamE X.prog X.w X.K X.mg X.base kl X.N Vc [] Gc scope body σ E H Q)) ?_ q
  refine LamG.call (CX := L2N.CX X.prog X.w) (k := kl) (t := fun E σ H Q => LamE X.prog X.w X.K X.mg X.base kl X.N Vc [] Gc scope body σ E H Q) l hm kp lk hcg hb Sg hNg hva ?_ M.tb M.code (by rw [hq]; exact hmT) (by rw [hq]; exact hu) (hr.mono hk) hL hdef hbind ?_ d1 hd1 hd2
  · rw [hq]
    exact hG X rfl rfl rfl rfl rfl (hr.mono hj)
  · intro A outer s H0 E f c' hr2
    refine ⟨fun pins s' σ' H' Q' I h => (h (LamG.cx (L2N.CX X.prog X.w) X A outer s H0 E scope f c') ⟨rfl, rfl, rfl, rfl, rfl, rfl, rfl, hr2, rfl, .inr (fun y hy => by cases hy), passes_of rfl, nd, okL, hkL⟩ (L2N.takes_of rfl rfl rfl rfl)).run pins s' I⟩
end
end Rp
namespace Rp
open PySem PySem.Spec PyProof.Rows L2
/-! ### the text's own exceptions -/
def exNames : List Str := ["NoRates", "NoSpot", "NoShare", "NoBook", "NoPlace", "Absent", "Nothing", "NoTable", "NoLine", "NoSpending", "NoRule", "NoJourney", "NoText", "TooMany", "NoRate", "NoDay", "NoName", "NoHeads"]
def exWords : List Str := ["rates", "spot", "share", "book", "place", "absent", "nothing", "table", "line", "spending", "rule", "journey", "text", "many", "rate", "day", "name", "heads"]
def exIx (x : Str) : Nat := exNames.findIdx fun y => decide (y = x)
def exWord (x : Str) : Str := exWords.getD (exIx x) Str.empty
def exFields (x : Str) : List Str := if x = "NoSpending" ∨ x = "NoRule" ∨ x = "NoJourney" then ["part"] else if x = "NoText" then ["row"] else if x = "TooMany" then ["many", "most"] else if x = "NoRate" then ["money", "day"] else if x = "NoDay" then ["day"] else
  if x = "NoName" then ["name"] else if x = "NoHeads" then ["heads"] else []
def exTys : List String := ["ValueError", "KeyError", "IndexError", "LookupError", "ZeroDivisionError"]
def exTy (x : Str) (t : String) : Bool := if t = "ValueError" then decide (exIx x < 14) else if t = "KeyError" then decide (x = "NoName") else if t = "IndexError" then decide (x = "NoDay") else if t = "LookupError" then decide (x = "NoRate" ∨ x = "NoDay" ∨ x = "NoName") else decide (x = "NoHeads")
def exCls : List Str := ["NoHeads", "NoName", "NoDay", "NoRate"]
abbrev exA (K : PySem.W.Frag) (x : Str) : Addr := He.ga K x
/-- what is known of them; nm: those that the text has -/
structure ExF (nm : List Str) (K : PySem.W.Frag) (mg : Str → Option Value) : Prop where
  g : ∀ x ∈ nm, mg x = some (.ref (exA K x))
  gp : mg "PenceError" = some (.ref (exA K "PenceError"))
  f : ∀ x ∈ nm, Xf K (exA K x)
  kit : ∀ x ∈ nm, ∀ y ∈ nm, PySem.W.kitOne K (.ref (exA K x)) (.ref (exA K y)) = some (decide (x = y))
  kitP : ∀ x ∈ nm, PySem.W.kitOne K (.ref (exA K x)) (.ref (exA K "PenceError")) = some (decide (exIx x < 14))
  kitT : ∀ x ∈ nm, ∀ t ∈ exTys, PySem.W.kitOne K (.ref (exA K x)) (.type t) = some (exTy x t)
  exP : ∀ x ∈ nm, PySem.W.exmOne K (.ref (exA K x)) (.ref (exA K "PenceError")) = some (decide (exIx x < 14))
  exm : ∀ x ∈ nm, ∀ y ∈ nm, y ∈ exCls → PySem.W.exmOne K (.ref (exA K x)) (.ref (exA K y)) = some (decide (x = y))
  nof : ∀ x ∈ nm, ∀ f ∈ exFields x, PySem.W.findIn K (.ref (exA K x)) f = some none
def exFB (nm : List Str) (K : PySem.W.Frag) : Bool := nm.all fun x => xfBo K (exA K x) && ((nm.all fun y => decide (PySem.W.kitOne K (.ref (exA K x)) (.ref (exA K y)) = some (decide (x = y))) && (decide (y ∉ exCls) || decide (PySem.W.exmOne K (.ref (exA K x)) (.ref (exA K y)) = some (decide (x = y))))) &&
  (decide (PySem.W.kitOne K (.ref (exA K x)) (.ref (exA K "PenceError")) = some (decide (exIx x < 14))) && ((exTys.all fun t => decide (PySem.W.kitOne K (.ref (exA K x)) (.type t) = some (exTy x t))) && (decide (PySem.W.exmOne K (.ref (exA K x)) (.ref (exA K "PenceError")) = some (decide (exIx x < 14))) &&
    (exFields x).all fun f => He.eqO (PySem.W.findIn K (.ref (exA K x)) f) (some none)))))
theorem exFB_ok {nm : List Str} {K : PySem.W.Frag} {mg : Str → Option Value} (g : ∀ x ∈ nm, mg x = some (.ref (exA K x))) (gp : mg "PenceError" = some (.ref (exA K "PenceError"))) (h : exFB nm K = true) : ExF nm K mg := by
  have z : ∀ x ∈ nm, _ := fun x hx => List.all_eq_true.mp h x hx
  simp only [Bool.and_eq_true, List.all_eq_true, Bool.or_eq_true, decide_eq_true_eq] at z
  refine ⟨g, gp, fun x hx => xfBo_ok (z x hx).1, fun x hx y hy => ((z x hx).2.1 y hy).1, fun x hx => (z x hx).2.2.1, fun x hx t ht => (z x hx).2.2.2.1 t ht, fun x hx => (z x hx).2.2.2.2.1, fun x hx y hy hc => ?_, fun x hx f hf => He.eqO_ok ((z x hx).2.2.2.2.2 f hf)⟩
  exact (((z x hx).2.1 y hy).2).resolve_left fun q => q hc
/-- the exception of the class x, its dict, as it is told -/
structure ExD (nm : List Str) (K : PySem.W.Frag) (x : Str) (vs : List V) (cls : Value) (d : Option Addr) (H : Hp) : Prop where
  hx : x ∈ nm
  cls : cls = .ref (exA K x)
  dict : (exFields x = [] ∧ vs = [] ∧ DOk d H) ∨ ∃ dd fs, d = some dd ∧ H dd = some (.xd fs) ∧ vs.length = (exFields x).length ∧ ∀ (i : Nat) f v, (exFields x)[i]? = some f → vs[i]? = some v → fs.lookup f = some v
theorem ExD.dok {nm : List Str} {K : PySem.W.Frag} {x : Str} {vs : List V} {cls : Value} {d : Option Addr} {H : Hp} (h : ExD nm K x vs cls d H) : DOk d H := by
  rcases h.dict with ⟨_, _, q⟩ | ⟨dd, fs, rfl, q, _⟩
  · exact q
  · intro d e; cases e; exact ⟨fs, q⟩
theorem ExD.ex {nm : List Str} {K : PySem.W.Frag} {x : Str} {vs : List V} {cls : Value} {d : Option Addr} {H H' : Hp} (h : ExD nm K x vs cls d H) (e : Ex H H') : ExD nm K x vs cls d H' := by
  refine ⟨h.hx, h.cls, ?_⟩
  rcases h.dict with ⟨q1, q2, q⟩ | ⟨dd, fs, q1, q, q2⟩
  · exact .inl ⟨q1, q2, q.ex e⟩
  · exact .inr ⟨dd, fs, q1, e _ _ q, q2⟩
/-- what the law's own def tells of a refusal -/
def saidX (nm : List Str) (K : PySem.W.Frag) (Q : VK) : XK := fun cls d H => ∃ x vs, ExD nm K x vs cls d H ∧ ∀ p H', H p = none → Ex H H' → H' p = some (.tup (.str (exWord x) :: vs)) → Q (.ref p) H'
/-- behind a told answer-/
def ToldQ (Q : VK) (v : V) (H1 : Hp) : Prop := [V.str "told", v].length ≤ sizeLine ∧ ∀ p, H1 p = none → Q (.ref p) (upd H1 p (.tup [.str "told", v]))
theorem told_i {Q : VK} {v : V} {H1 : Hp} (h : ∀ p H', H1 p = none → Ex H1 H' → H' p = some (.tup [.str "told", v]) → Q (.ref p) H') : ToldQ Q v H1 := ⟨by show 2 ≤ sizeLine; decide, fun p hp => h p _ hp (Ex.upd hp) upd_same⟩
def TTsaid (nm : List Str) (K : PySem.W.Frag) : (XK → Hp → VK → Prop) → Hp → VK → Prop := fun tl H Q => tl (saidX nm K Q) H (ToldQ Q)
theorem bt_ValueError : bootBuiltins "ValueError" = some (.type "ValueError") := by decide +kernel
theorem bt_KeyError : bootBuiltins "KeyError" = some (.type "KeyError") := by decide +kernel
theorem bt_IndexError : bootBuiltins "IndexError" = some (.type "IndexError") := by decide +kernel
theorem bt_LookupError : bootBuiltins "LookupError" = some (.type "LookupError") := by decide +kernel
theorem bt_ZeroDivisionError : bootBuiltins "ZeroDivisionError" = some (.type "ZeroDivisionError") := by decide +kernel
end Rp
namespace Rp
open PySem PySem.Spec PyProof.Rows L2
/-! ### defs of which it is known that no repr is under way -/
abbrev Gd (X : Cx) : Prop := X.A.guards = some []
structure FnG (P : Program) (w : World) (K : PySem.W.Frag) (mg : Str → Option Value) (base : Heap) (CX : CXT) (k : Nat) (f : Addr) (fd : FuncData) (ps : List Str) (sp : Sp) : Prop where
  len : ∀ vs H Q E, sp vs H Q E → vs.length = ps.length
  run : ∀ (A : Around) (outer : List Env) (s : Shared) (H : Hp) (args : Args) (us : List Value) (vs : List V) (Q : VK) (E : XK), Room k A → A.guards = some [] → Env0 P w K mg base A outer s H → BindsTo s fd args (ps.zip us) → Vals vs us → sp vs H Q E →
    codeAny (model P w) A (.call (.ref f) args) (CR CX outer P w H s Q E) s
theorem FnG.of {P : Program} {w : World} {K : PySem.W.Frag} {mg : Str → Option Value} {base : Heap} {CX : CXT} {k : Nat} {f : Addr} {fd : FuncData} {ps : List Str} {sp : Sp} (F : FnOk P w K mg base CX k f fd ps sp) : FnG P w K mg base CX k f fd ps sp :=
  ⟨F.len, fun A outer s H args us vs Q E hr _ => F.run A outer s H args us vs Q E hr⟩
section
variable {P : Program} {w : World} {K : PySem.W.Frag} {mg : Str → Option Value} {base : Heap} {k j n : Nat} {N Vz Sz G ps ks : List Str} {sc : Scope} {x m qual : Str} {v : V} {p apos : Pos} {X : Cx} {fa c PT : Addr} {fd : FuncData} {sp : Sp} {st : Stmt}
variable {e a b o : Expr} {es : List Expr} {σ : L2.St} {H : Hp} {Q : VK} {pos : Pos} {dvs : List V} {E : XK}
theorem gd_deeper {A : Around} (h : A.guards = some []) (env : Env) : (A.deeper env).guards = some [] := h
theorem fn_wG (F : Fn K x qual st fa fd) (S : FnScope N ps (defScope st)) (ok : namesOk Vz Vz G (defScope st) = true) (len : ∀ vs H Q E, sp vs H Q E → vs.length = ps.length)
    (body : ∀ (X : Cx) (vs : List V) (H : Hp) (Q : VK) (E : XK), CxI P w K mg base k N Vz Vz G (defScope st) X → Gd X → sp vs H Q E → wB X (defBody st) { nx := fun _ H' => Q .non H', rt := Q } (start N vs) H) : FnG P w K mg base CX0 (k + 1) fa fd ps sp := by
  obtain ⟨dvs, kws, F⟩ := F.ex
  obtain ⟨oc, od, dV, kV, doc, pm, an, cdv, ct, osl, rfl, lk, hcd, _, _⟩ := F.ex
  refine ⟨len, fun A outer s H args us vs Q E hr hg e0 hb r h => LamX.run_ofS lk hcd S hr e0 hb r (len _ _ _ _ h) fun hr' => ⟨_, PSs.nox wB.pss, ?_⟩⟩
  exact body _ vs H Q E ⟨rfl, rfl, rfl, rfl, rfl, rfl, rfl, hr', rfl, .inl fun _ => rfl, PassesOwn.never, S.nd, ok, S.kind⟩ (gd_deeper hg _) h
/-- .. that makes lambdas, too -/
theorem fn_wGL (F : Fn K x qual st fa fd) (hc : ∀ oc od osl, K.lookup fa = some ⟨oc, od, .func fd, osl⟩ → fd.code = .ref c) (tb : LamX.TabB base mg c PT) (S : FnScope N ps (defScope st)) (ok : namesOk Vz Vz G (defScope st) = true) (len : ∀ vs H Q E, sp vs H Q E → vs.length = ps.length)
    (body : ∀ (X : Cx) (vs : List V) (H : Hp) (Q : VK) (E : XK), CxI P w K mg base k N Vz Vz G (defScope st) X → Gd X → Mkr base mg c PT qual X → sp vs H Q E → wB X (defBody st) { nx := fun _ H' => Q .non H', rt := Q } (start N vs) H) : FnG P w K mg base CX0 (k + 1) fa fd ps sp := by
  obtain ⟨dvs, kws, F⟩ := F.ex
  obtain ⟨oc, od, dV, kV, doc, pm, an, cdv, ct, osl, rfl, lk, hcd, _, _⟩ := F.ex
  have hcv : cdv = .ref c := hc _ _ _ lk
  subst hcv
  refine ⟨len, fun A outer s H args us vs Q E hr hg e0 hb r h => LamX.run_ofS lk hcd S hr e0 hb r (len _ _ _ _ h) fun hr' => ⟨_, PSs.nox wB.pss, ?_⟩⟩
  exact body _ vs H Q E ⟨rfl, rfl, rfl, rfl, rfl, rfl, rfl, hr', rfl, .inl fun _ => rfl, PassesOwn.never, S.nd, ok, S.kind⟩ (gd_deeper hg _) ⟨tb, rfl, rfl⟩ h
structure Dg (P : Program) (w : World) (K : PySem.W.Frag) (mg : Str → Option Value) (base : Heap) (k : Nat) (x : Str) (ps : List Str) (dvs : List V) (sp : Sp) : Prop where
  ex : ∃ f fd ds, FnG P w K mg base CX0 k f fd ps sp ∧ mg x = some (.ref f) ∧ PySem.W.keepIn K (.ref f) = true ∧ Binds K fd ps ds ∧ Vals dvs ds
theorem wE_callG (I : CxI P w K mg base k N Vz Sz G sc X) (g : Gd X) (D : Dg P w K mg base j x ps dvs sp) (hx : x ∈ G) (hj : j ≤ k) (he : starEach (e :: es) X.env = (false, eval e X.env) :: starEach es X.env) (hpl : (backTo pos (starEach es X.env)).any (·.1) = false)
    (q : wA X (e :: es) σ H fun vs H1 => sp (vs ++ dvs) H1 Q E0) : wE X (.Call (.Name x p) (e :: es) [] pos) σ H Q := by
  obtain ⟨f, fd, ds, Fk, hm, kp, hb, hd⟩ := D.ex
  obtain ⟨l, d1, _⟩ := I.glo hx
  obtain ⟨rfl, rfl, rfl, rfl, rfl, _, _, hr, _, _, _, _, _⟩ := I
  refine ⟨fun pins s J => wpAny_Call_Name_kw (ld_glob J l hm ?_ d1)⟩
  refine PySem.W.callWith_K (h₀ := X.base) J.ok.mod.kin kp (thn (q.run pos pins s J) fun us s1 ⟨vs, H1, J1, r, q1⟩ => ⟨J1.kIn, ?_⟩) he hpl
  have r2 : Vals (vs ++ dvs) (us ++ ds) := r.append hd
  have hl : (us ++ ds).length = ps.length := by rw [← r2.length]; exact Fk.len _ _ _ _ q1
  refine wpAny_call (codeAny_mono (Fk.run X.A X.stack s1 H1 ⟨us, []⟩ (us ++ ds) (vs ++ dvs) Q E0 (hr.mono hj) g J1.env0 (hb s1 us J1.kIn hl) r2 q1) fun r s' hq => ?_)
  cases r with
  | error e => exact False.elim hq
  | ok fl =>
    cases fl with
    | ret u => exact J1.after hq
    | next => exact False.elim hq
    | brk => exact False.elim hq
    | cont => exact False.elim hq
/-! ### repr of data -/
theorem nod_dp {K : PySem.W.Frag} {H : Hp} : ∀ {v : V} {d : PyData}, Dp K H v d → d.hasDict = false := by
  intro v d h
  have both : (∀ {v d}, Dp K H v d → d.hasDict = false) ∧ (∀ {vs ds}, DpAll K H vs ds → PyData.hasDictAll ds = false) := by
    constructor
    · intro v d h
      induction h using Dp.rec (motive_2 := fun vs ds _ => PyData.hasDictAll ds = false) with
      | non => rfl
      | bl => rfl
      | int => rfl
      | str => rfl
      | lst _ _ ih => simpa [PyData.hasDict] using ih
      | tup _ _ ih => simpa [PyData.hasDict] using ih
      | nil => rfl
      | cons _ _ h1 h2 => simp [PyData.hasDictAll, h1, h2]
    · intro vs ds h
      induction h using DpAll.rec (motive_1 := fun v d _ => d.hasDict = false) with
      | non => rfl
      | bl => rfl
      | int => rfl
      | str => rfl
      | lst _ _ ih => simpa [PyData.hasDict] using ih
      | tup _ _ ih => simpa [PyData.hasDict] using ih
      | nil => rfl
      | cons _ _ h1 h2 => simp [PyData.hasDictAll, h1, h2]
  exact both.1 h
theorem c_reprD {ad : Addr} {d : PyData} (g : Gd X) (hd : Dp X.K H (.ref ad) d) (hs : d.showable = true) (hu : X.A.units + (d.depth + 1) < cLine) (hz : d.shown.length ≤ sizeLine) (q : Q (.str d.shown) H) : wC X (.builtin "repr") [.ref ad] H Q := by
  refine ⟨fun pins s σ us I r => ?_⟩
  obtain ⟨u, rfl, ru⟩ := vals1 r
  obtain ⟨as, rd⟩ := Dp.reads I d _ _ hd ru
  obtain rfl : u = Value.ref ad := ru
  refine repr_of_reads' rd hs (fun z => by rw [nod_dp hd] at z; cases z) g hu (fun _ _ e => e) (fun h' u tk k => ?_) hz
  exact ⟨.str d.shown, H, I.kept (t' := tk) k, ⟨u, rfl⟩, q⟩
end
end Rp
namespace Rp
open PySem PySem.Spec PyProof.Rows L2
/-! ### the end: the law's def called at the very top, where no repr is under way -/
/-- the empty table of a code object -/
abbrev tabO : Obj := { cls := .none, data := .fields #[] }
section
variable {P : Program} {w : World} {K : PySem.W.Frag} {mg mb : Str → Option Value} {k : Nat} {fa a : Addr} {ts : List Addr} {s : Shared} {vs : List Value} {ns : List Int}
/-- the script's object -/
abbrev scrO (vs : List Value) : Obj := { cls := .type "list", data := .seq vs.toArray }
/-- what is tracked at first: the tables, and the script where the written part does not hold it -/
def firstH (K : PySem.W.Frag) (a : Addr) (ts : List Addr) (vs : List Value) (ns : List Int) : Hp := fun b =>
  if b ∈ ts then some (.tbl #[]) else if b = a ∧ K.lookup a = none then some (.frz (scrO vs) (.lst (ns.map V.int))) else none
theorem first_tab {b : Addr} (h : b ∈ ts) : firstH K a ts vs ns b = some (.tbl #[]) := if_pos h
theorem first_cases (b : Addr) : (b ∈ ts ∧ firstH K a ts vs ns b = some (.tbl #[])) ∨ (b ∉ ts ∧ b = a ∧ K.lookup a = none ∧ firstH K a ts vs ns b = some (.frz (scrO vs) (.lst (ns.map V.int)))) ∨ (b ∉ ts ∧ (b = a → K.lookup a ≠ none) ∧ firstH K a ts vs ns b = none) := by
  rcases Decidable.em (b ∈ ts) with h1 | h1
  · exact .inl ⟨h1, if_pos h1⟩
  rcases Decidable.em (b = a ∧ K.lookup a = none) with h2 | h2
  · exact .inr (.inl ⟨h1, h2.1, h2.2, (if_neg h1).trans (if_pos h2)⟩)
  · exact .inr (.inr ⟨h1, fun e n => h2 ⟨e, n⟩, (if_neg h1).trans (if_neg h2)⟩)
/-- an object that is neither a table nor the script is not tracked -/
theorem first_off (hT : ∀ b ∈ ts, s.heap.get? b = some tabO) (ha : s.heap.get? a = some (scrO vs)) {b : Addr} {o : Obj} (e : s.heap.get? b = some o) (n1 : o ≠ tabO) (n2 : o ≠ scrO vs) : firstH K a ts vs ns b = none := by
  rcases first_cases (K := K) (a := a) (ts := ts) (vs := vs) (ns := ns) b with ⟨h, _⟩ | ⟨_, h, _⟩ | ⟨_, _, h⟩
  · have z := hT b h
    rw [e] at z
    exact absurd (Option.some.inj z) n1
  · subst h
    rw [e] at ha
    exact absurd (Option.some.inj ha) n2
  · exact h
theorem law_top {cs : List (Addr × Addr)} {fd : FuncData} {x : Str} {sp : Sp} (hts : cs.map (·.2) = ts) (KX : K.In s.heap) (hns : s.heap.Ns mainGlobals mg) (hb : s.heap.Ns builtinsNs mb) (hbb : ∀ x : Str, x ≠ "__name__" → mb x = bootBuiltins x) (hlim : s.heap.NoLimit) (hg : s.gens = #[])
    (hT : ∀ b ∈ ts, s.heap.get? b = some tabO) (nT : ∀ b ∈ ts, K.lookup b = none) (C : ∀ p ∈ cs, PySem.W.CodeHd s.heap p.1 p.2)
    (hbm : ∃ (bm : Addr) (ob : Obj), mg "__builtins__" = some (.ref bm) ∧ bm ≠ builtinsNs ∧ s.heap.get? bm = some ob ∧ ob.cls = .type "module" ∧ ob.dict = some builtinsNs ∧ ob.data = .plain)
    (ha : s.heap.get? a = some (scrO vs)) (hi : IntsAre vs ns) (hl : ns.length ≤ sizeLine) (hr : Room k callerA)
    (F : ∀ base : Heap, K.In base → base.Ns mainGlobals mg → (∀ p ∈ cs, LamX.TabB base mg p.1 p.2) → FnG P w K mg base CX0 k fa fd [x] sp) (hbind : ∀ (s : Shared) (u : Value), BindsTo s fd ⟨[u], []⟩ [(x, u)])
    (hsp : ∀ H : Hp, (∀ b ∈ ts, H b = some (.tbl #[])) → SqL K H a (ns.map V.int) → sp [.ref a] H (fun v _ => v = .bl true) E0) :
    codeAny (model P w) callerA (.call (.ref fa) ⟨[.ref a], []⟩) (fun r s' => r = .ok (.ret (.bool true)) ∧ OldK s.heap s'.heap ∧ s'.os = s.os ∧ AllBare s'.gens) s := by
  have rv := vals_ints hi
  have len : (ns.map V.int).length ≤ sizeLine := by rw [List.length_map]; exact hl
  let H := firstH K a ts vs ns
  have off : ∀ {b : Addr} {o : Obj}, s.heap.get? b = some o → o ≠ tabO → o ≠ scrO vs → H b = none := fun e n1 n2 => first_off hT ha e n1 n2
  have shown : ∀ {b : Addr} {o : Obj}, s.heap.get? b = some o → o ≠ tabO → o ≠ scrO vs → (hidT s.heap H).get? b = some o := fun e n1 n2 => hidT_get e (off e n1 n2)
  have ne_d : ∀ {o : Obj} {es : Array DictEntry} {ep : Nat}, o.data = .dict es ep → o ≠ tabO ∧ o ≠ scrO vs := fun d => ⟨(fun z => by rw [z] at d; cases d), (fun z => by rw [z] at d; cases d)⟩
  have ne_p : ∀ {o : Obj}, o.data = .plain → o ≠ tabO ∧ o ≠ scrO vs := fun d => ⟨(fun z => by rw [z] at d; cases d), (fun z => by rw [z] at d; cases d)⟩
  have ns_ : ∀ {b : Addr} {m : Str → Option Value}, s.heap.Ns b m → (hidT s.heap H).Ns b m := fun ⟨o, es, ep, e, d, r⟩ => ⟨o, es, ep, shown e (ne_d d).1 (ne_d d).2, d, r⟩
  have script : SqL K H a (ns.map V.int) := by
    cases hk : K.lookup a with
    | none =>
      refine .inl (.inr ⟨scrO vs, ?_⟩)
      rcases first_cases (K := K) (a := a) (ts := ts) (vs := vs) (ns := ns) a with ⟨h, _⟩ | ⟨_, _, _, h⟩ | ⟨_, h, _⟩
      · have z := hT a h
        rw [ha] at z
        cases z
      · exact h
      · exact absurd hk (h rfl)
    | some o =>
      have e := KX a o hk
      rw [ha] at e
      cases e
      exact .inr ⟨_, vs.toArray, _, hk, rfl, rfl, rfl, by rw [List.size_toArray, ← Paired.length rv]; exact len, by simpa using rv⟩
  have held : HOk P w H s.heap := fun b o e => by
    rcases first_cases (K := K) (a := a) (ts := ts) (vs := vs) (ns := ns) b with ⟨h, q⟩ | ⟨_, h, _, q⟩ | ⟨_, _, q⟩
    · rw [show H b = _ from q] at e; cases e; exact hT b h
    · rw [show H b = _ from q] at e; cases e; subst h; exact ⟨ha, len, vs, _, rv, ha⟩
    · rw [show H b = _ from q] at e; cases e
  have inK : K.In (hidT s.heap H) := fun b o e => hidT_get (KX b o e) (by
    rcases first_cases (K := K) (a := a) (ts := ts) (vs := vs) (ns := ns) b with ⟨h, _⟩ | ⟨_, h, h2, _⟩ | ⟨_, _, q⟩
    · rw [nT b h] at e; cases e
    · subst h; rw [h2] at e; cases e
    · exact q)
  have tabs : ∀ p ∈ cs, LamX.TabB (hidT s.heap H) mg p.1 p.2 := fun p hp => by
    have at_ : s.heap.get? p.2 = some tabO := hT p.2 (by rw [← hts]; exact List.mem_map.mpr ⟨p, hp, rfl⟩)
    refine ⟨?_, ?_, fun z => ?_⟩
    · obtain ⟨o, us, file, tf, flags, tg, inF, text, tt, e1, r1, r2, r3, rest⟩ := C p hp
      refine ⟨o, us, file, tf, flags, tg, inF, text, tt, shown e1 (fun z => ?_) (fun z => ?_), r1, r2, r3, rest⟩
      · rw [z] at r2; cases r2; simp at r3
      · rw [z] at r2; cases r2
    · obtain ⟨bm, ob, b1, b2, b3, b4, b5, b6⟩ := hbm
      refine ⟨bm, ob, b1, b2, fun q => ?_, fun q => ?_, shown b3 (ne_p b6).1 (ne_p b6).2, b4, b5, b6⟩
      · obtain ⟨o, es, ep, e, hd, _⟩ := hns
        rw [q, e] at b3; cases b3; rw [hd] at b6; cases b6
      · rw [q, at_] at b3; cases b3; cases b6
    · obtain ⟨o, es, ep, e, hd, _⟩ := hns
      rw [z, at_] at e; cases e; cases hd
  have md : L2.Mod K mg (hidT s.heap H) := ⟨inK, ns_ hns, ⟨mb, ns_ hb, hbb⟩, let ⟨mc, h1, h2⟩ := hlim; ⟨mc, ns_ h1, h2⟩⟩
  have nil : ∀ {b : Addr} {R : Prop}, b ∈ ([] : List Addr) → R := fun h => absurd h (by simp)
  have e0 : Env0 P w K mg (hidT s.heap H) callerA [] s H := ⟨rfl, md, fun b o e => of_hidT e, Nat.le_of_eq (hidT_size _ _), trivial, fun b h => nil h, held, .of_eq hg⟩
  have go := (F _ inK (ns_ hns) tabs).run callerA [] s H ⟨[.ref a], []⟩ [.ref a] [.ref a] (fun v _ => v = .bl true) E0 hr rfl e0 (hbind s (.ref a)) (.cons rfl .nil) (hsp H (fun b hb => first_tab hb) script)
  refine codeAny_mono go fun r s' z => ?_
  obtain ⟨u, rfl, z⟩ : ∃ u, r = .ok (.ret u) ∧ CE [] P w H s (fun v _ => v = .bl true) u s' := by
    cases r with
    | error e => exact False.elim z
    | ok fl =>
      cases fl with
      | ret u => exact ⟨u, rfl, z⟩
      | next => exact False.elim z
      | brk => exact False.elim z
      | cont => exact False.elim z
  obtain ⟨v, H', os, bare, un, held', r', ev⟩ := z
  have ev' : v = .bl true := ev
  subst ev'
  obtain rfl : u = Value.bool true := r'
  have grown : ∀ b ∈ ts, ∃ more : Array Value, s'.heap.get? b = some { cls := .none, data := .fields more } := fun b hb => by
    obtain ⟨more, q⟩ := un.tbls b #[] (first_tab hb)
    exact ⟨_, held' b _ q⟩
  have kept : ∀ b o, b ∉ ts → s.heap.get? b = some o → s'.heap.get? b = some o := fun b o hb e => by
    rcases first_cases (K := K) (a := a) (ts := ts) (vs := vs) (ns := ns) b with ⟨h, _⟩ | ⟨_, h, _, q⟩ | ⟨_, _, q⟩
    · exact absurd h hb
    · subst h
      obtain ⟨e2, _⟩ := held' b _ (un.frzs b _ _ q)
      rw [ha] at e
      cases e
      exact e2
    · exact un.keep b o e q (fun h => nil h) (by simp)
  refine ⟨rfl, ⟨fun b o e => ?_, fun b o e => ?_⟩, os, bare⟩
  · rcases Decidable.em (b ∈ ts) with hb' | hb'
    · obtain ⟨more, hm⟩ := grown b hb'
      rw [← hts] at hb'
      obtain ⟨p, hp, rfl⟩ := List.mem_map.mp hb'
      have z := hT p.2 (by rw [← hts]; exact hb')
      rw [z] at e
      cases e
      exact .inr (.inl ⟨((C p hp).tab z).isCodeTable, rfl, #[], more, rfl, by rw [Array.empty_append]; exact hm⟩)
    · exact .inl (kept b o hb' e)
  · rcases Decidable.em (b ∈ ts) with hb' | hb'
    · obtain ⟨more, hm⟩ := grown b hb'
      exact ⟨_, hm⟩
    · exact ⟨o, kept b o hb' e⟩
end
/-- the end for a head with facts -/
theorem walk_ofG {l : PySem.W.OpenLaw} {n k : Nat} {q : Program} {loose : List Str} {XP : (Str → Option Value) → Heap → Prop} {YP : World → Heap → Prop} {d : DefRec} {x : Str} (hn : l.most = some n) (hn2 : n ≤ sizeLine) (hdf : d.params.defaults = []) (hr : Room k callerA)
    (F : ∀ (w : World) (mg : Str → Option Value) (fa : Addr) (h : Heap), YP w h → h.Ns mainGlobals mg → mg d.name = some (.ref fa) → ∃ (K : PySem.W.Frag) (fd : FuncData) (cs : List (Addr × Addr)) (sp : Sp), K.In h ∧ (∀ p ∈ cs, h.get? p.2 = some tabO) ∧ (∀ p ∈ cs, K.lookup p.2 = none) ∧ (∀ p ∈ cs, PySem.W.CodeHd h p.1 p.2) ∧
      (∀ (s : Shared) (u : Value), BindsTo s fd ⟨[u], []⟩ [(x, u)]) ∧ (∀ (H : Hp) (a : Addr) (ns : List Int), ns.length ≤ n → (∀ p ∈ cs, H p.2 = some (.tbl #[])) → SqL K H a (ns.map V.int) → sp [.ref a] H (fun v _ => v = .bl true) E0) ∧
      ∀ base : Heap, K.In base → base.Ns mainGlobals mg → (∀ p ∈ cs, LamX.TabB base mg p.1 p.2) → FnG l.prog w K mg base CX0 k fa fd [x] sp) :
    PySem.W.WalkO q loose XP YP l.row.toRowW d [] (fun f vs => PySem.call f vs) := by
  refine Att.attach_callB hn hdf fun w s₀ s₁ mg mb fa o pm cd doc a vs ns G Y ho hd hcd hmg hobj hints hlen hbits hg => ?_
  obtain ⟨K, fd, cs, sp, KX, hT, nT, hC, hb, hsp, hF⟩ := F w mg fa _ Y G.T.g hmg
  have un : ∀ {R : Addr → Prop}, (∀ p ∈ cs, R p.2) → ∀ b ∈ cs.map (·.2), R b := fun h b hb => by
    obtain ⟨p, hp, rfl⟩ := List.mem_map.mp hb
    exact h p hp
  exact law_top (cs := cs) rfl KX G.T.g G.T.b G.T.builtins G.T.nolimit hg (un hT) (un nT) hC G.T.bmain hobj hints (Nat.le_trans hlen hn2) hr hF hb fun H hH hS => hsp H a ns hlen (fun p hp => hH p.2 (List.mem_map.mpr ⟨p, hp, rfl⟩)) hS
end Rp
namespace Rp
open PySem PySem.Spec PyProof.Rows L2
/-! ### what stays: all but one object and the tables of code objects -/
def Kp (b : Addr) (H H' : Hp) : Prop := ∀ a o, a ≠ b → (∀ ps, o ≠ .tbl ps) → H a = some o → H' a = some o
theorem Kp.refl {b : Addr} (H : Hp) : Kp b H H := fun _ _ _ _ h => h
theorem Kp.trans {b : Addr} {H H1 H2 : Hp} (x : Kp b H H1) (y : Kp b H1 H2) : Kp b H H2 := fun a o n t h => y a o n t (x a o n t h)
theorem Ex.kp {b : Addr} {H H' : Hp} (e : Ex H H') : Kp b H H' := fun a o _ _ h => e a o h
theorem Exb.kp {b : Addr} {H H' : Hp} (e : Exb b H H') : Kp b H H' := fun a o n _ h => e a o n h
theorem kp_N {b : Addr} {H H' : Hp} (e : LamX.ExtN H H') : Kp b H H' := fun a o _ t h => e a o h t
theorem Kp.lst {b a : Addr} {H H' : Hp} {xs : List V} (e : Kp b H H') (n : a ≠ b) (h : H a = some (.lst xs)) : H' a = some (.lst xs) := e a _ n (fun _ z => by cases z) h
theorem Kp.tup {b a : Addr} {H H' : Hp} {xs : List V} (e : Kp b H H') (n : a ≠ b) (h : H a = some (.tup xs)) : H' a = some (.tup xs) := e a _ n (fun _ z => by cases z) h
theorem Kp.ins {b a C dx : Addr} {H H' : Hp} {fs : List (Str × V)} (e : Kp b H H') (n : a ≠ b) (h : H a = some (.ins C dx fs)) : H' a = some (.ins C dx fs) := e a _ n (fun _ z => by cases z) h
theorem extN_lst {a : Addr} {H H' : Hp} {xs : List V} (e : LamX.ExtN H H') (h : H a = some (.lst xs)) : H' a = some (.lst xs) := e a _ h fun _ z => by cases z
theorem extN_tup {a : Addr} {H H' : Hp} {xs : List V} (e : LamX.ExtN H H') (h : H a = some (.tup xs)) : H' a = some (.tup xs) := e a _ h fun _ z => by cases z
theorem extN_ins {a C dx : Addr} {H H' : Hp} {fs : List (Str × V)} (e : LamX.ExtN H H') (h : H a = some (.ins C dx fs)) : H' a = some (.ins C dx fs) := e a _ h fun _ z => by cases z
theorem Kp.seq {K : PySem.W.Frag} {b a : Addr} {H H' : Hp} {xs ys : List V} (e : Kp b H H') (hb : H b = some (.lst ys)) (h : SqL K H a xs) (n : a ≠ b) : SqL K H' a xs := by
  rcases h with (h | ⟨o, h⟩) | h
  · exact .inl (.inl (e a _ n (fun _ z => by cases z) h))
  · exact .inl (.inr ⟨o, e a _ n (fun _ z => by cases z) h⟩)
  · exact .inr h
theorem tup_neb {a b : Addr} {H : Hp} {xs ys : List V} (ha : H a = some (.tup xs)) (hb : H b = some (.lst ys)) : a ≠ b := fun z => by rw [z, hb] at ha; cases ha
theorem ins_neb {a b C dx : Addr} {H : Hp} {fs : List (Str × V)} {ys : List V} (ha : H a = some (.ins C dx fs)) (hb : H b = some (.lst ys)) : a ≠ b := fun z => by rw [z, hb] at ha; cases ha
/-- the tables, while a list is written -/
theorem tabs_exb {T : List (Addr × Str)} {b : Addr} {H H' : Hp} {xs : List V} (t : LamX.Tabs T H) (hb : H b = some (.lst xs)) (e : Exb b H H') : LamX.Tabs T H' := fun p hp => by
  obtain ⟨ps, h1, h2, h3⟩ := t p hp
  refine ⟨ps, e _ _ (fun z => by rw [z, hb] at h1; cases h1) h1, h2, fun pos cv hc => ?_⟩
  obtain ⟨c, e1, e2⟩ := h3 pos cv hc
  refine ⟨c, e1, e _ _ (fun z => ?_) e2⟩
  rw [z, hb] at e2
  unfold LamX.CodeO at e2
  cases e2
section
variable {P : Program} {w : World} {K : PySem.W.Frag} {mg : Str → Option Value} {base : Heap} {k j n : Nat} {N Vz Sz G ps ks : List Str} {sc : Scope} {x m : Str} {v : V} {p apos : Pos} {X : Cx} {sp : Sp}
variable {e a b o : Expr} {es : List Expr} {kws : List Keyword} {σ : L2.St} {H : Hp} {Q : VK} {pos : Pos} {dvs : List V} {E : XK}
/-- f(k = v, ..) -/
theorem wE_callKX {gV : List V → List V → List V} (I : CxI P w K mg base k N Vz Sz G sc X) (T : L2N.Takes X (wOf E)) (D : Dk P w K mg base j x 0 ks gV sp) (hx : x ∈ G) (hj : j ≤ k)
    (hall : (backToKw pos (keywordEach kws X.env)).all (·.1.isSome) = true) (hks : (backToKw pos (keywordEach kws X.env)).filterMap (·.1) = ks) (hpl : ((backTo pos (starEach [] X.env)).any (·.1) || (backToKw pos (keywordEach kws X.env)).any (·.1.isNone)) = false)
    (q : wK X kws σ H fun zs H2 => zs.length = ks.length ∧ sp (gV [] zs) H2 Q E) : wE X (.Call (.Name x p) [] kws pos) σ H Q := by
  obtain ⟨f, fd, ps, g, Fk, hm, kp, hb⟩ := D.ex
  obtain ⟨l, d1, _⟩ := I.glo hx
  obtain ⟨rfl, rfl, rfl, rfl, rfl, _, _, hr, _, _, _, _, _⟩ := I
  refine ⟨fun pins s J => wpAny_Call_Name_kw (ld_glob J l hm ?_ d1)⟩
  refine PySem.W.callWith_KW0 (first := []) (h₀ := X.base) J.ok.mod.kin kp hall (thn (q.run pos pins s J) fun ws s2 ⟨zs, H2, J2, rz, l2, q2⟩ => ⟨J2.kIn, ?_⟩) hpl
  rw [hks]
  exact run_fnN (us := []) (vs := []) Fk (hr.mono hj) hb (L2N.passes_call T fun _ _ _ _ h => h) J2 .nil rz rfl l2 q2
/-- xs * n -/
theorem o_rep {l : Addr} {n : Int} {xs : List V} (h : H l = some (.lst xs)) (h1 : 0 ≤ n) (h2 : n ≤ 1000) (hl : xs.length ≤ 1000) (q : ∀ p H2, H p = none → Ex H H2 → H2 p = some (.lst (List.replicate n.toNat xs).flatten) → Q (.ref p) H2) : wO X (binaryOp .Mult) (.ref l) (.int n) H Q := by
  refine wO.of op_rep ⟨l, n, xs, rfl, rfl, h, by omega, by omega, ?_, fun p hp => q p _ hp (Ex.upd hp) upd_same⟩
  have : xs.length * n.toNat ≤ 1000 * 1000 := Nat.mul_le_mul hl (by omega)
  rw [sizeLine_eq]
  omega
/-- != of two things with the same data -/
theorem o_neD0 {a b : Addr} {d : PyData} (C : CxI P w K mg base k N Vz Sz G sc X) (h1 : Dp K H (.ref a) d) (h2 : Dp K H (.ref b) d) (hs : SeqAt.shaped d = true) (he : PyData.eqv d d = true) (q : Q (.bl false) H) : wO X (compareOp .NotEq) (.ref a) (.ref b) H Q := by
  exact wO.of (op_neD C.room.units) ⟨d, d, by rw [C.eK]; exact h1, by rw [C.eK]; exact h2, hs, hs, by rw [he]; exact q⟩
end
end Rp
namespace Rp
open PySem PySem.Spec PyProof.Rows L2
theorem extN_mut {H H1 H2 : Hp} {y : Addr} (a : LamX.ExtN H H1) (h : H y = none) (b : Exb y H1 H2) : LamX.ExtN H H2 := fun c o e t => b c o (ne_of_none e h) (a c o e t)
theorem sq_extN {K : PySem.W.Frag} {a : Addr} {H H' : Hp} {xs : List V} (h : SqL K H a xs) (e : LamX.ExtN H H') : SqL K H' a xs := by
  rcases h with (h | ⟨o, h⟩) | h
  · exact .inl (.inl (e a _ h fun _ z => by cases z))
  · exact .inl (.inr ⟨o, e a _ h fun _ z => by cases z⟩)
  · exact .inr h
theorem Ex.n {H H' : Hp} (e : Ex H H') : LamX.ExtN H H' := LamX.ExtN.of e
section
variable {P : Program} {w : World} {K : PySem.W.Frag} {mg : Str → Option Value} {base : Heap} {k j n : Nat} {N Vz Sz G ps ks : List Str} {sc : Scope} {x m : Str} {v : V} {p apos : Pos} {X : Cx} {sp : Sp}
variable {e a b o : Expr} {es : List Expr} {σ : L2.St} {H : Hp} {Q : VK} {pos : Pos} {D : Ends} {sts : List Stmt} {tg : Expr} {p1 p2 : Pos}
theorem c_reprC {ad : Addr} {d : PyData} (C : CxI P w K mg base k N Vz Sz G sc X) (g : Gd X) (hd : Dp K H (.ref ad) d) (hs : d.showable = true) (hdp : d.depth ≤ 60) (hz : d.shown.length ≤ sizeLine) (q : Q (.str d.shown) H) : wC X (.builtin "repr") [.ref ad] H Q :=
  c_reprD g (by rw [C.eK]; exact hd) hs (by have := C.room.un; omega) hz q
/-- for over range(a, b) -/
theorem wS_range2 (C : CxI P w K mg base k N Vz Sz G sc X) (hm : mg "range" = none) (hx : ("range" : Str) ∈ G) (hs : starEach [a, b] X.env = [(false, eval a X.env), (false, eval b X.env)]) (hs2 : starEach [b] X.env = [(false, eval b X.env)])
    (q : wA X [a, b] σ H fun vs H1 => ∃ (lo hi : Int) (n : Nat), vs = [.int lo, .int hi] ∧ hi = lo + n ∧ -1000000 ≤ lo ∧ lo < 1000000 ∧ n < 1000000 ∧ ∃ Pv : Nat → L2.St → Hp → Prop, Pv 0 σ H1 ∧ (∀ i σ H, i < n → Pv i σ H → wG X tg (.int (lo + (i : Nat))) σ H fun σ2 H2 => wB X sts { D with nx := Pv (i + 1), ct := Pv (i + 1), bk := D.nx } σ2 H2) ∧ ∀ σ H, Pv n σ H → D.nx σ H) :
    wS X (.For tg (.Call (.Name "range" p1) [a, b] [] p2) sts [] pos) D σ H := by
  obtain ⟨l, _, _⟩ := C.glo hx
  refine wS.of (ps_for C.po C.calm (pi_range2 l (by rw [C.em]; exact hm) wA.pa hs hs2) wG.pg wB.pss (fun _ => rfl)) ?_
  refine ⟨fun pos pins s I => thn (q.run pos pins s I) ?_⟩
  rintro u s1 ⟨vs, H1, I1, r1, lo, hi, n, rfl, rfl, l1, l2, l3, Pv, h0, hs, hd⟩
  refine ⟨_, H1, I1, r1, lo, lo + n, rfl, ⟨by omega, by omega, by omega, by omega⟩, ?_⟩
  rw [show (lo + (n : Int) - lo).toNat = n by omega]
  exact for_range (lo := lo) (n := n) Pv h0 hs hd
end
end Rp
namespace Rp
open PySem PySem.Spec PyProof.Rows L2
section
variable {P : Program} {w : World} {K : PySem.W.Frag} {mg : Str → Option Value} {base : Heap} {k j n : Nat} {N Vz Sz G ps ks : List Str} {sc : Scope} {x m : Str} {v : V} {p apos : Pos} {X : Cx} {C : Addr} {sp : Sp}
variable {e a b o : Expr} {es : List Expr} {kws : List Keyword} {σ : L2.St} {H : Hp} {Q : VK} {pos : Pos} {E : XK}
/-- o.m(k = v, ..): keywords alone, of a def that may raise -/
structure Mmx (P : Program) (w : World) (K : PySem.W.Frag) (mg : Str → Option Value) (base : Heap) (k : Nat) (C : Addr) (m : Str) (ks : List Str) (gV : List V → List V → List V) (sp : Sp) : Prop where
  ex : ∃ f fd ps g, Meth K C m f ∧ FnOk P w K mg base (L2N.CX P w) k f fd ps sp ∧ KBn K fd ps 1 ks g gV
theorem wE_methKX {pl : Sem Bool} {gV : List V → List V → List V} (I : CxI P w K mg base k N Vz Sz G sc X) (T : L2N.Takes X (wOf E)) (c : Cls K C) (M : Mmx P w K mg base j C m ks gV sp) (hj : j ≤ k)
    (hall : (backToKw pos (keywordEach kws X.env)).all (·.1.isSome) = true) (hks : (backToKw pos (keywordEach kws X.env)).filterMap (·.1) = ks) (hpl : ((backTo pos (starEach [] X.env)).any (·.1) || (backToKw pos (keywordEach kws X.env)).any (·.1.isNone)) = false)
    (ht : eval (.Call (.Attribute o m apos) [] kws pos) X.env = (do
      let ov ← eval o X.env
      standAt apos.atName
      let (f, first) ← holding [ov] (getMethod ov m pl)
      callWith pos f first (backTo pos (starEach [] X.env)) (backToKw pos (keywordEach kws X.env))))
    (q : wE X o σ H fun y H1 => MetQ C m y H1 (wK X kws σ H1 fun zs H2 => zs.length = ks.length ∧ sp (gV [y] zs) H2 Q E)) : wE X (.Call (.Attribute o m apos) [] kws pos) σ H Q := by
  obtain ⟨f, fd, ps, g, hm, Fk, hb⟩ := M.ex
  obtain ⟨rfl, rfl, rfl, rfl, rfl, _, _, hr, _, _, _, _, _⟩ := I
  refine ⟨fun pins s I => ?_⟩
  refine PySem.W.methodCall_KW (pl := pl) (thn (q.run pins s I) fun u s1 ⟨y, H1, I1, rx, a, dx, fs, ex, ea, l, q1⟩ => ?_) ht
  subst ex
  obtain rfl : u = Value.ref a := rx
  refine getmeth_ok I1 ea c hm l ?_
  refine PySem.W.callWith_KW0 (first := [.ref a]) (h₀ := X.base) I.ok.mod.kin hm.kp hall (thn (q1.run pos pins s1 I1) fun ws s2 ⟨zs, H2, I2, rz, l2, q2⟩ => ⟨I2.kIn, ?_⟩) hpl
  rw [hks]
  exact run_fnN (us := [.ref a]) (vs := [.ref a]) Fk (hr.mono hj) hb (L2N.passes_call T fun _ _ _ _ h => h) I2 (.cons rfl .nil) rz rfl l2 q2
end
theorem extN_kp {H H1 H2 H3 : Hp} {y : Addr} (a : LamX.ExtN H H1) (n : H1 y = none) (e : LamX.ExtN H1 H2) (k : Kp y H2 H3) : LamX.ExtN H H3 := fun c o h t => k c o (ne_of_none (a c o h t) n) t (e c o (a c o h t) t)
theorem o_neS0 {X : Cx} {x : Str} {H : Hp} {Q : VK} (q : Q (.bl false) H) : wO X (compareOp .NotEq) (.str x) (.str x) H Q := o_neS (by
  rw [show decide (x ≠ x) = false by simp]
  exact q)
theorem metq_i {C a dx : Addr} {m : Str} {H : Hp} {fs : List (Str × V)} {R : Prop} (h : H a = some (.ins C dx fs)) (l : fs.lookup m = none) (q : R) : MetQ C m (.ref a) H R := ⟨a, dx, fs, rfl, h, l, q⟩
theorem swapped0 {x y : Str} {px py pt pt2 : Pos} {kt k2} {a b : Expr} {env : Env} (hx : env.kindOf x = some .cell)
    (h1 : ([a, b].any fun | .Starred .. => true | _ => false) = false) : swappedStores [.Tuple [.Name x px, .Name y py] kt pt] (.Tuple [a, b] k2 pt2) env = pure none := by
  unfold swappedStores
  simp only [List.length_cons, List.length_nil]
  by_cases hb : env.blockKind = .function
  · simp [hb, h1]
    intro _ _ hn
    exfalso
    simp only [List.filterMap_cons, List.filterMap_nil, hx] at hn
    rw [if_neg (by rintro ⟨z, _⟩; cases z)] at hn
    split at hn
    · by_cases hy : env.kindOf y = some NameKind.local ∧ py.line = (Expr.Name x px).pos.line
      · rw [if_pos hy] at hn
        cases hn
      · rw [if_neg hy] at hn
        cases hn
    · rename_i z
      cases z
  · simp [hb]
section
variable {P : Program} {w : World} {K : PySem.W.Frag} {mg : Str → Option Value} {base : Heap} {k : Nat} {N Vz Sz G : List Str} {sc : Scope} {x y : Str} {X : Cx} {a b : Expr} {σ : L2.St} {H : Hp} {pos : Pos} {D : Ends}
/-- x, y = a, b, the first a cell -/
theorem wS_par0 {px py pt pt2 : Pos} {kt k2} (C : CxI P w K mg base k N Vz Sz G sc X) (hx : (sc.names.lookup x == some .cell) = true) (h1 : ([a, b].any fun | .Starred .. => true | _ => false) = false)
    (hs : swapsWithSole [.Tuple [.Name x px, .Name y py] kt pt] (.Tuple [a, b] k2 pt2) pos.line X.env = pure false) (h2 : (assignEach [.Tuple [.Name x px, .Name y py] kt pt] X.env).map (·.2) = [assign (.Tuple [.Name x px, .Name y py] kt pt) X.env])
    (q : wE X (.Tuple [a, b] k2 pt2) σ H fun v H1 => wG X (.Tuple [.Name x px, .Name y py] kt pt) v σ H1 D.nx) : wS X (.Assign [.Tuple [.Name x px, .Name y py] kt pt] (.Tuple [a, b] k2 pt2) pos) D σ H :=
  wS_asg hs (swapped0 (by show X.env.scope.names.lookup x = _; rw [C.es]; exact eq_of_beq hx) h1) h2 q
end
end Rp
namespace Rp
open PySem PySem.Spec PyProof.Rows L2
section
variable {K : PySem.W.Frag} {x qual : Str} {params : Arguments} {body : List Stmt} {scope : Scope} {kws : List (Str × V)} {f : Addr} {fd : FuncData} {ps : List Str}
/-- f(e, .., k = v, ..) of a def without defaults -/
theorem kbindsZ (F : FunD K x qual params body scope [] kws f fd) (n : Nat) (ks : List Str) (g : {α : Type} → List α → List α → List α)
    (hrel : ∀ {vs zs : List V} {us ws : List Value}, Vals vs us → Vals zs ws → Vals (g vs zs) (g us ws))
    (h : ∀ (kV doc pm : Value) (an : Option Addr) (cdv ct : Value) (us ws : List Value), us.length = n → ws.length = ks.length →
      bindArgs (PySem.W.fnOf x qual params body scope .none kV doc pm an cdv ct) ⟨us, ks.zip ws⟩ = pure (ps.zip (g us ws))) :
    KBn K fd ps n ks (fun us ws => g us ws) (fun vs zs => g vs zs) := by
  obtain ⟨oc, od, dV, kV, doc, pm, an, cdv, ct, osl, rfl, lk, hcd, hD, hK⟩ := F.ex
  rcases hD with ⟨_, rfl⟩ | ⟨e, _⟩
  · exact ⟨fun s us ws X l1 l2 => .of_eq (h kV doc pm an cdv ct us ws l1 l2), fun r1 r2 => hrel r1 r2⟩
  · exact absurd rfl e
end
end Rp
namespace Rp
open PySem PySem.Spec PyProof.Rows L2
/-! ### data, dicts among them: read, and shown -/
def kP : Key → PyData
  | .inl i => .int i
  | .inr x => .str x
mutual
inductive Dq (K : PySem.W.Frag) (H : Hp) : V → PyData → Prop
  | non : Dq K H .non .none
  | bl (b : Bool) : Dq K H (.bl b) (.bool b)
  | int (i : Int) : Dq K H (.int i) (.int i)
  | str (x : Str) : Dq K H (.str x) (.str x)
  | lst {a : Addr} {xs : List V} {ds : List PyData} : SqL K H a xs → DqAll K H xs ds → Dq K H (.ref a) (.list ds)
  | tup {a : Addr} {xs : List V} {ds : List PyData} : SqT K H a xs → DqAll K H xs ds → Dq K H (.ref a) (.tuple ds)
  | dct {a : Addr} {kvs : List (Key × V)} {ds : List PyData} : H a = some (.dK kvs) → DqAll K H (kvs.map (·.2)) ds → Dq K H (.ref a) (.dict ((kvs.map fun p => kP p.1).zip ds))
inductive DqAll (K : PySem.W.Frag) (H : Hp) : List V → List PyData → Prop
  | nil : DqAll K H [] []
  | cons {v : V} {vs : List V} {d : PyData} {ds : List PyData} : Dq K H v d → DqAll K H vs ds → DqAll K H (v :: vs) (d :: ds)
end
mutual
def noL : PyData → Bool
  | .none => true
  | .bool _ => true
  | .int _ => true
  | .str _ => true
  | .list _ => false
  | .tuple xs => noLAll xs
  | .dict kvs => noLKv kvs
def noLAll : List PyData → Bool
  | [] => true
  | x :: xs => noL x && noLAll xs
def noLKv : List (PyData × PyData) → Bool
  | [] => true
  | (k, v) :: r => noL k && noL v && noLKv r
end
theorem DqAll.len {K : PySem.W.Frag} {H : Hp} : ∀ {vs : List V} {ds : List PyData}, DqAll K H vs ds → vs.length = ds.length
  | _, _, .nil => rfl
  | _, _, .cons _ t => congrArg (· + 1) t.len
theorem noL_zip : ∀ {ks ds : List PyData}, ks.length = ds.length → noLKv (ks.zip ds) = true → noLAll ds = true
  | [], [], _, _ => rfl
  | k :: ks, d :: ds, h, e => by
    rw [List.zip_cons_cons, noLKv, Bool.and_eq_true, Bool.and_eq_true] at e
    rw [noLAll, e.1.2, noL_zip (Nat.succ.inj h) e.2]
    rfl
theorem kp_read {h : Heap} {prog : Program} {w : World} : ∀ {es : List DictEntry} {vs : List (Key × Value)}, Pairs (mixKind prog w) es vs → ReadsAll h (es.map (·.key)) (vs.map fun p => kP p.1) []
  | _, _, .nil => .nil
  | _, _, .cons e e2 t => by
    have ih := kp_read (h := h) t
    rcases keyIs_shape e with ⟨i, t, hk, hv⟩ | ⟨x, t, hk, hv⟩
    · rw [List.map_cons, List.map_cons, hk, hv]
      exact ReadsAll.cons (as := []) (.int i t) ih
    · rw [List.map_cons, List.map_cons, hk, hv]
      exact ReadsAll.cons (as := []) (.str x t) ih
theorem kp_val {prog : Program} {w : World} : ∀ {es : List DictEntry} {vs : List (Key × Value)}, Pairs (mixKind prog w) es vs → es.map (·.val) = vs.map (·.2)
  | _, _, .nil => rfl
  | _, _, .cons e e2 t => by rw [List.map_cons, List.map_cons, e2, kp_val t]
theorem kv_fst : ∀ {kvs : List (Key × V)} {vs : List (Key × Value)}, KV kvs vs → (kvs.map fun p => kP p.1) = vs.map fun p => kP p.1
  | _, _, .nil => rfl
  | _, _, .cons e t => by rw [List.map_cons, List.map_cons, e.1, kv_fst t]
theorem kv_vals : ∀ {kvs : List (Key × V)} {vs : List (Key × Value)}, KV kvs vs → Vals (kvs.map (·.2)) (vs.map (·.2))
  | _, _, .nil => .nil
  | _, _, .cons e t => .cons e.2 (kv_vals t)
section
variable {X : Cx} {pins : List (Addr × Obj)} {σ : L2.St} {H : Hp} {s : Shared}
theorem Dq.reads (I : Inv X pins σ H s) {v : V} {d : PyData} (h : Dq X.K H v d) : ∀ u, RelV v u → ∃ as, Reads s.heap u d as ∧ (noL d = true → sysModules ∉ as) := by
  induction h using Dq.rec (motive_2 := fun vs ds _ => ∀ us, Vals vs us → ∃ as, ReadsAll s.heap us ds as ∧ (noLAll ds = true → sysModules ∉ as)) with
  | non => intro u r; cases r; exact ⟨_, Reads.none, fun _ h => nomatch h⟩
  | bl b => intro u r; cases r; exact ⟨_, Reads.bool b, fun _ h => nomatch h⟩
  | int i => intro u r; obtain ⟨t, rfl⟩ := r; exact ⟨_, Reads.int i t, fun _ h => nomatch h⟩
  | str x => intro u r; obtain ⟨t, rfl⟩ := r; exact ⟨_, Reads.str x t, fun _ h => nomatch h⟩
  | lst hs ha ih =>
    intro u r
    cases r
    obtain ⟨its, rv, ⟨o, n, ho, hc, _, hd⟩, _⟩ := I.list hs
    obtain ⟨as, hr, _⟩ := ih its rv
    exact ⟨_, Reads.list ho hc hd hr, fun z => nomatch z⟩
  | tup hs ha ih =>
    intro u r
    cases r
    obtain ⟨its, rv, ⟨o, ho, hc, n, hd⟩, _⟩ := I.tuple hs
    obtain ⟨as, hr, hn⟩ := ih its rv
    exact ⟨_, Reads.tuple ho hc hd hr, fun z => hn (by simpa only [noL] using z)⟩
  | @dct a kvs ds e ha ih =>
    intro u r
    cases r
    obtain ⟨_, hsys, vs, hkv, o, es, ep, ho, hx, hd, _, hp, _⟩ := (show ObjOk X.prog X.w H s.heap a (.dK kvs) from I.hok a _ e)
    obtain ⟨as, hr, hn⟩ := ih _ (kv_vals hkv)
    have hl : (kvs.map fun p => kP p.1).length = ds.length := by
      have := ha.len
      rw [List.length_map] at this ⊢
      exact this
    refine ⟨_, Reads.dict ho hx.1 hd (as := []) (bs := as) ?_ ?_, fun z => ?_⟩
    · rw [List.map_fst_zip (Nat.le_of_eq hl), kv_fst hkv]
      exact kp_read hp
    · rw [List.map_snd_zip (Nat.le_of_eq hl.symm), kp_val hp]
      exact hr
    · rw [List.cons_append, List.nil_append]
      intro hm
      rcases List.mem_cons.mp hm with hm | hm
      · rw [← hm] at hsys
        simp at hsys
      · exact hn (noL_zip hl (by simpa only [noL] using z)) hm
  | nil =>
    rename_i us r
    cases r
    exact ⟨_, ReadsAll.nil, fun _ h => nomatch h⟩
  | cons h1 h2 i1 i2 =>
    rename_i us r
    cases r with
    | cons r1 r2 =>
      obtain ⟨as, q1, n1⟩ := i1 _ r1
      obtain ⟨bs, q2, n2⟩ := i2 _ r2
      refine ⟨_, ReadsAll.cons q1 q2, fun z => ?_⟩
      rw [noLAll, Bool.and_eq_true] at z
      intro hm
      rcases List.mem_append.mp hm with hm | hm
      · exact n1 z.1 hm
      · exact n2 z.2 hm
end
mutual
theorem Dq.keep {K : PySem.W.Frag} {H H' : Hp} (e : ∀ a xs, (SqT K H a xs → SqT K H' a xs) ∧ (SqL K H a xs → SqL K H' a xs) ∧ ∀ kvs, H a = some (.dK kvs) → H' a = some (.dK kvs)) : ∀ {v : V} {d : PyData}, Dq K H v d → Dq K H' v d
  | _, _, .non => .non
  | _, _, .bl b => .bl b
  | _, _, .int i => .int i
  | _, _, .str x => .str x
  | _, _, .lst h t => .lst ((e _ _).2.1 h) (DqAll.keep e t)
  | _, _, .tup h t => .tup ((e _ _).1 h) (DqAll.keep e t)
  | _, _, .dct h t => .dct ((e _ []).2.2 _ h) (DqAll.keep e t)
theorem DqAll.keep {K : PySem.W.Frag} {H H' : Hp} (e : ∀ a xs, (SqT K H a xs → SqT K H' a xs) ∧ (SqL K H a xs → SqL K H' a xs) ∧ ∀ kvs, H a = some (.dK kvs) → H' a = some (.dK kvs)) : ∀ {vs : List V} {ds : List PyData}, DqAll K H vs ds → DqAll K H' vs ds
  | _, _, .nil => .nil
  | _, _, .cons h t => .cons (Dq.keep e h) (DqAll.keep e t)
end
theorem sqT_extN {K : PySem.W.Frag} {a : Addr} {H H' : Hp} {xs : List V} (h : SqT K H a xs) (e : LamX.ExtN H H') : SqT K H' a xs := by
  rcases h with (h | ⟨o, h⟩) | h
  · exact .inl (.inl (e a _ h fun _ z => by cases z))
  · exact .inl (.inr ⟨o, e a _ h fun _ z => by cases z⟩)
  · exact .inr h
theorem sqL_extN {K : PySem.W.Frag} {a : Addr} {H H' : Hp} {xs : List V} (h : SqL K H a xs) (e : LamX.ExtN H H') : SqL K H' a xs := sq_extN h e
theorem Dq.n {K : PySem.W.Frag} {H H' : Hp} {v : V} {d : PyData} (h : Dq K H v d) (e : LamX.ExtN H H') : Dq K H' v d :=
  h.keep fun a xs => ⟨fun z => sqT_extN z e, fun z => sq_extN z e, fun kvs z => e a _ z fun _ y => (by cases y)⟩
theorem Dq.ex {K : PySem.W.Frag} {H H' : Hp} {v : V} {d : PyData} (h : Dq K H v d) (e : Ex H H') : Dq K H' v d := h.n e.n
section
variable {P : Program} {w : World} {K : PySem.W.Frag} {mg : Str → Option Value} {base : Heap} {k j n : Nat} {N Vz Sz G ps ks : List Str} {sc : Scope} {x m : Str} {v : V} {X : Cx} {sp : Sp} {σ : L2.St} {H : Hp} {Q : VK} {T : String}
/-- repr of whatever data -/
theorem c_reprQ {d : PyData} (C : CxI P w K mg base k N Vz Sz G sc X) (g : Gd X) (hd : Dq K H v d) (hs : d.showable = true) (hdp : d.depth ≤ 60) (hz : d.shown.length ≤ sizeLine) (hl : d.hasDict = false ∨ noL d = true) (q : Q (.str d.shown) H) : wC X (.builtin "repr") [v] H Q := by
  have at_ : ∀ {ad : Addr}, v = .ref ad → wC X (.builtin "repr") [v] H Q := by
    rintro ad rfl
    refine ⟨fun pins s σ us I r => ?_⟩
    obtain ⟨u, rfl, ru⟩ := vals1 r
    obtain ⟨as, rd, hn⟩ := Dq.reads I (by rw [C.eK]; exact hd) _ ru
    obtain rfl : u = Value.ref ad := ru
    refine repr_of_reads' rd hs (fun z => hl.elim (fun y => by rw [y] at z; cases z) hn) g (by have := C.room.un; omega) (fun _ _ e => e) (fun h' u tk k => ?_) hz
    exact ⟨.str d.shown, H, I.kept (t' := tk) k, ⟨u, rfl⟩, q⟩
  cases hd with
  | non => exact c_reprN q
  | bl b => exact c_reprB q
  | int i => exact c_reprI (of_decide_eq_true hs) q
  | str x => exact c_reprS hz q
  | lst _ _ => exact at_ rfl
  | tup _ _ => exact at_ rfl
  | dct _ _ => exact at_ rfl
/-! ### thing in a tuple of texts -/
theorem str_dct_dec (b : Str) (u : Tok) (l : Addr) (o : Obj) (es : Array DictEntry) (n : Nat) (hd : o.data = .dict es n) : Meets (Builtin.«str.__eq__» ⟨[.str b u, .ref l], []⟩) (fun _ R s => s.heap.get? l = some o ∧ R (.ok (.ret .notImplemented)) s) :=
  .of_wp fun prog w A R s h => by
    obtain ⟨hp, g, d, tk, os⟩ := s
    obtain ⟨hl, h⟩ := h
    obtain ⟨c, dd, da, sl⟩ := o
    simp only at hd
    subst hd
    wp_walk using AutoSeq1.wpAny_loadPart' hl, wpAny_load hl
    exact ⟨_, rfl, h⟩
theorem dct_str_dec (b : Str) (u : Tok) (l : Addr) (o : Obj) (es : Array DictEntry) (n : Nat) (hd : o.data = .dict es n) (ho : o.cls = .type "dict") : Meets (Builtin.«dict.__eq__» ⟨[.ref l, .str b u], []⟩) (fun _ R s => s.heap.get? l = some o ∧ R (.ok (.ret .notImplemented)) s) :=
  .of_wp fun prog w A R s h => by
    obtain ⟨hp, g, d, tk, os⟩ := s
    obtain ⟨hl, h⟩ := h
    obtain ⟨c, dd, da, sl⟩ := o
    simp only at hd ho
    subst hd ho
    unfold Builtin.«dict.__eq__»
    repeat (first | with_reducible refine AutoSeq1.wpAny_loadPart' hl ?_ | with_reducible refine wpAny_of_eq F.sub_str_dict ?_ | wp_step)
    all_goals exact ⟨_, rfl, h⟩
theorem eqAt_str_dct {A : Around} {s : Shared} {l : Addr} {o : Obj} {es : Array DictEntry} {n : Nat} (b : Str) (u : Tok) (hl : s.heap.get? l = some o) (ho : o.cls = .type "dict") (hd : o.data = .dict es n) (hu : A.units < cLine) : SeqAt.EqAt A s (.str b u) (.ref l) false := fun prog w E Q h => by
  unfold eqBool
  refine wpAny_holding ?_
  refine wpAny_ite_split (fun hab => absurd (eq_of_beq hab) nofun) (fun _ => ?_)
  refine wpAny_bind (SeqAt.rc_eq_decline_or (k := false) (typeIs_str s b u) ⟨_, hl, ho⟩ (by decide) F.sub_dict_str F.slot_str_eq F.slot_dict_eq_refl
    (fun _ hq => call_meets F.slot_str_eq (typeIs_str s b u) F.entry_str_eq (F.args_str_eq_2 _ _) (str_dct_dec b u l o es n hd) ⟨hl, hq⟩)
    (fun _ hq => call_meets F.slot_dict_eq_refl ⟨_, hl, ho⟩ F.entry_dict_eq (F.args_dict_eq_2 _ _) (dct_str_dec b u l o es n hd ho) ⟨hl, hq⟩)
    (fun _ hq => wpAny_of_eq (rfl : isSame (.str b u) (.ref l) = pure false) hq) (.inr hu) (wpAny_truthy_bool h))
def isStr : V → Bool
  | .str _ => true
  | _ => false
/-- a text == a thing -/
theorem eqAt_str_thg {pins : List (Addr × Obj)} {s : Shared} {y : V} {u : Value} {A : Around} (I : Inv X pins σ H s) (b : Str) (t : Tok) (th : Thg H y T) (r : RelV y u) (hu : A.units < cLine) : SeqAt.EqAt A s (.str b t) u (eqV (.str b) y) := by
  cases th with
  | non => exact eqAt_V (show L2.RelV (.str b) (.str b t) from ⟨t, rfl⟩) r rfl rfl
  | bl b => exact eqAt_V (show L2.RelV (.str _) (.str _ t) from ⟨t, rfl⟩) r rfl rfl
  | int i => exact eqAt_V (show L2.RelV (.str _) (.str _ t) from ⟨t, rfl⟩) r rfl rfl
  | str z => exact eqAt_V (show L2.RelV (.str _) (.str _ t) from ⟨t, rfl⟩) r rfl rfl
  | @lst p xs e =>
    obtain rfl : u = Value.ref p := r
    obtain ⟨_, its, n, _, e⟩ := (show ObjOk X.prog X.w H s.heap p (.lst xs) from I.hok p _ e)
    exact SeqAt.EqAt.str_list b t ⟨_, e, rfl, _, rfl⟩ hu
  | @tup p xs e =>
    obtain rfl : u = Value.ref p := r
    obtain ⟨_, its, _, o, ho, hc, n, hd⟩ := (show ObjOk X.prog X.w H s.heap p (.tup xs) from I.hok p _ e)
    exact SeqAt.EqAt.str_tuple b t ⟨_, ho, hc, _, hd⟩ hu
  | @dct p kvs e =>
    obtain rfl : u = Value.ref p := r
    obtain ⟨_, _, _, _, o, _, _, e, ex, hd, _⟩ := (show ObjOk X.prog X.w H s.heap p (.dK kvs) from I.hok p _ e)
    exact eqAt_str_dct b t e ex.1 hd hu
/-- y is one of texts -/
def inS (y : V) (zs : List Str) : Bool := zs.any fun z => eqV (.str z) y
theorem strs_at {pins : List (Addr × Obj)} {s : Shared} {y : V} {u : Value} {A : Around} (I : Inv X pins σ H s) (th : Thg H y T) (r : RelV y u) (hu : A.units < cLine) : ∀ {zs : List Str} {us : List Value}, Vals (zs.map V.str) us → ∃ e : Value → Bool, (∀ w ∈ us, SeqAt.EqAt A s w u (e w)) ∧ us.any e = inS y zs := by
  intro zs us rv
  let e : Value → Bool := fun w => match w with
    | .str b _ => eqV (.str b) y
    | _ => false
  refine ⟨e, ?_, ?_⟩
  · induction zs generalizing us with
    | nil => cases rv; intro w h; cases h
    | cons z zs ih =>
      cases rv with
      | cons r1 r2 =>
        intro w h
        rcases List.mem_cons.mp h with rfl | h
        · obtain ⟨t, rfl⟩ := r1
          exact eqAt_str_thg I z t th r hu
        · exact ih r2 w h
  · induction zs generalizing us with
    | nil => cases rv; rfl
    | cons z zs ih =>
      cases rv with
      | cons r1 r2 =>
        obtain ⟨t, rfl⟩ := r1
        rw [List.any_cons, ih r2]
        rfl
theorem o_inKT {ad : Addr} {zs : List Str} (C : CxI P w K mg base k N Vz Sz G sc X) (h : SqT K H ad (zs.map V.str)) (th : Thg H v T) (q : Q (.bl (inS v zs)) H) : wO X (compareOp .In) v (.ref ad) H Q := by
  refine ⟨fun pins s σ u w I ru rw' => ?_⟩
  cases rw'
  obtain ⟨its, r, pl, hz⟩ := I.tuple (by rw [C.eK]; exact h)
  obtain ⟨e, he, ha⟩ := strs_at (A := X.A.in1) I th ru (by have := C.room.un; show X.A.units + 1 < cLine; omega) r
  refine SeqAt.in_tupleAt e pl (fun w hw => he w (by simpa using hw)) ⟨.bl _, H, I, rfl, ?_⟩
  rw [show its.toArray.any e = its.any e by simp, ha]
  exact q
end
theorem Paired.atR {α β : Type} {R : α → β → Prop} : ∀ {l : List α} {m : List β}, Paired R l m → ∀ {i : Nat} {x : α}, l[i]? = some x → ∃ y, m[i]? = some y ∧ R x y
  | _, _, .nil, _, _, h => by simp at h
  | _, _, .cons z t, 0, _, h => ⟨_, rfl, by rw [← Option.some.inj h]; exact z⟩
  | _, _, .cons z t, i + 1, _, h => Paired.atR t h
theorem at_mapR {as : List Addr} {i : Nat} {y : V} (h : (as.map V.ref)[i]? = some y) : ∃ a, y = .ref a ∧ as[i]? = some a := by
  rw [List.getElem?_map] at h
  cases e : as[i]? with
  | none => rw [e] at h; cases h
  | some a => rw [e] at h; exact ⟨a, (Option.some.inj h).symm, rfl⟩
end Rp
namespace Rp
open PySem PySem.Spec PyProof.Rows L2
/-! ### small things, and what is made of them -/
abbrev Pl (H : Hp) (v : V) : Prop := ∃ T, Thg H v T
/-- no list in it, or no dict -/
def mdD (m : Bool) (d : PyData) : Bool := if m then noL d else !d.hasDict
def smD (m : Bool) (d : PyData) : Bool := d.showable && (decide (d.depth ≤ 2) && (decide (d.shown.length ≤ 40) && mdD m d))
def Sml (K : PySem.W.Frag) (H : Hp) (m : Bool) (v : V) : Prop := ∃ d, Dq K H v d ∧ smD m d = true
def SmL (K : PySem.W.Frag) (H : Hp) (m : Bool) (xs : List V) : Prop := ∀ v ∈ xs, Pl H v ∧ Sml K H m v
theorem Sml.n {K : PySem.W.Frag} {H H' : Hp} {m : Bool} {v : V} (h : Sml K H m v) (e : LamX.ExtN H H') : Sml K H' m v := let ⟨d, a, b⟩ := h; ⟨d, a.n e, b⟩
theorem Thg.n {H H' : Hp} {y : V} {T : String} (h : Thg H y T) (e : LamX.ExtN H H') : Thg H' y T := by
  cases h with
  | non => exact .non
  | bl b => exact .bl b
  | int i => exact .int i
  | str z => exact .str z
  | lst q => exact .lst (e _ _ q fun _ z => by cases z)
  | tup q => exact .tup (e _ _ q fun _ z => by cases z)
  | dct q => exact .dct (e _ _ q fun _ z => by cases z)
theorem thg_ref {H : Hp} {a : Addr} {T : String} (h : Thg H (.ref a) T) : ∃ o, H a = some o ∧ ∀ ps, o ≠ .tbl ps := by
  cases h with
  | lst q => exact ⟨_, q, fun _ z => by cases z⟩
  | tup q => exact ⟨_, q, fun _ z => by cases z⟩
  | dct q => exact ⟨_, q, fun _ z => by cases z⟩
theorem SmL.n {K : PySem.W.Frag} {H H' : Hp} {m : Bool} {xs : List V} (h : SmL K H m xs) (e : LamX.ExtN H H') : SmL K H' m xs := fun v hv => let ⟨⟨T, a⟩, b⟩ := h v hv; ⟨⟨T, a.n e⟩, b.n e⟩
theorem SmL.app {K : PySem.W.Frag} {H : Hp} {m : Bool} {xs ys : List V} (h : SmL K H m xs) (g : SmL K H m ys) : SmL K H m (xs ++ ys) := fun v hv => (List.mem_append.mp hv).elim (h v) (g v)
theorem SmL.take {K : PySem.W.Frag} {H : Hp} {m : Bool} {xs : List V} (h : SmL K H m xs) (n : Nat) : SmL K H m (xs.take n) := fun v hv => h v (List.mem_of_mem_take hv)
theorem SmL.drop {K : PySem.W.Frag} {H : Hp} {m : Bool} {xs : List V} (h : SmL K H m xs) (n : Nat) : SmL K H m (xs.drop n) := fun v hv => h v (List.mem_of_mem_drop hv)
theorem SmL.cons {K : PySem.W.Frag} {H : Hp} {m : Bool} {v : V} {xs : List V} (a : Pl H v) (b : Sml K H m v) (h : SmL K H m xs) : SmL K H m (v :: xs) := fun y hy => by
  rcases List.mem_cons.mp hy with e | e
  · rw [e]; exact ⟨a, b⟩
  · exact h y e
theorem SmL.nil {K : PySem.W.Frag} {H : Hp} {m : Bool} : SmL K H m [] := fun _ h => nomatch h
theorem log_le12 {i : Int} (h0 : 0 ≤ i) (h : i ≤ 2000000000000) : i.natAbs.log2 < 1920 := by
  have z : i.natAbs < 2 ^ 41 := by
    have : (2 : Nat) ^ 41 = 2199023255552 := by decide
    omega
  by_cases hz : i.natAbs = 0
  · rw [hz]; decide
  · exact Nat.lt_trans ((Nat.log2_lt hz).mpr z) (by decide)
theorem sml_int {K : PySem.W.Frag} {H : Hp} {m : Bool} {i : Int} (h0 : 0 ≤ i) (h : i ≤ 2000000000000) : Sml K H m (.int i) := by
  refine ⟨.int i, .int i, ?_⟩
  have l : (PyData.int i).shown.length ≤ 13 := toString_length_le h0 (by decide) (by rw [show (10 : Int) ^ 13 = 10000000000000 from by decide]; omega)
  unfold smD mdD
  rw [show (PyData.int i).showable = true from decide_eq_true (log_le12 h0 h), decide_eq_true (show (PyData.int i).depth ≤ 2 from Nat.zero_le _), decide_eq_true (show (PyData.int i).shown.length ≤ 40 by omega)]
  cases m <;> rfl
theorem sml_bl {K : PySem.W.Frag} {H : Hp} {m b : Bool} : Sml K H m (.bl b) := ⟨.bool b, .bl b, by cases m <;> cases b <;> decide +kernel⟩
theorem sml_str {K : PySem.W.Frag} {H : Hp} {m : Bool} {z : Str} (h : (reprText z).length ≤ 40) : Sml K H m (.str z) := by
  refine ⟨.str z, .str z, ?_⟩
  unfold smD mdD
  rw [show (PyData.str z).showable = true from rfl, decide_eq_true (show (PyData.str z).depth ≤ 2 from Nat.zero_le _), decide_eq_true (show (PyData.str z).shown.length ≤ 40 from h)]
  cases m <;> rfl
theorem sml_of {K : PySem.W.Frag} {H : Hp} {m : Bool} {v : V} {d : PyData} (h : Dq K H v d) (e : smD m d = true) : Sml K H m v := ⟨d, h, e⟩
theorem SmL.all {K : PySem.W.Frag} {H : Hp} {m : Bool} : ∀ {xs : List V}, SmL K H m xs → ∃ ds, DqAll K H xs ds ∧ PyData.showableAll ds = true ∧ PyData.depthAll ds ≤ 2 ∧ ds.length = xs.length ∧ piled (PyData.shownAll ds) ≤ 42 * xs.length ∧ (if m then noLAll ds = true else PyData.hasDictAll ds = false)
  | [], _ => ⟨[], .nil, rfl, Nat.zero_le _, rfl, Nat.zero_le _, by cases m <;> rfl⟩
  | v :: xs, h => by
    obtain ⟨ds, a, b, c, e, f, g⟩ := SmL.all (xs := xs) fun y hy => h y (List.mem_cons_of_mem _ hy)
    obtain ⟨_, d, dq, sm⟩ := h v List.mem_cons_self
    unfold smD at sm
    rw [Bool.and_eq_true, Bool.and_eq_true, Bool.and_eq_true] at sm
    obtain ⟨s1, s2, s3, s4⟩ := sm
    have s2 := of_decide_eq_true s2
    have s3 := of_decide_eq_true s3
    refine ⟨d :: ds, .cons dq a, by rw [PyData.showableAll, s1, b]; rfl, ?_, by rw [List.length_cons, List.length_cons, e], ?_, ?_⟩
    · rw [PyData.depthAll]; omega
    · rw [PyData.shownAll, piled_cons, List.length_cons]; omega
    · cases m with
      | true =>
        show noLAll (d :: ds) = true
        rw [noLAll, show noL d = true from s4, show noLAll ds = true from g]
        rfl
      | false =>
        show PyData.hasDictAll (d :: ds) = false
        have s4' : (!d.hasDict) = true := s4
        rw [PyData.hasDictAll, show d.hasDict = false by simpa using s4', show PyData.hasDictAll ds = false from g]
        rfl
theorem join_le (ts : List Str) : (Str.join ", " ts).length ≤ piled ts := by
  by_cases h : ts = []
  · subst h; exact Nat.zero_le _
  · have := join_length_add ts h; omega
theorem tupText_le (ts : List Str) : (tupleText ts).length ≤ piled ts + 3 := by
  unfold tupleText
  rw [slen_app, slen_app]
  have j := join_le ts
  have t1 : ("(" : Str).length = 1 := rfl
  have t2 : (Str.ofString (if (ts.length == 1) = true then ",)" else ")")).length ≤ 2 := by
    split
    · exact (by decide : (Str.ofString ",)").length ≤ 2)
    · exact (by decide : (Str.ofString ")").length ≤ 2)
  first
    | omega
    | (show ("(" : Str).length + _ + _ ≤ _; omega)
/-- what may be shown -/
def Shw (K : PySem.W.Frag) (H : Hp) (v : V) (d : PyData) (n : Nat) : Prop := Dq K H v d ∧ d.showable = true ∧ d.depth ≤ 50 ∧ d.shown.length ≤ n ∧ (d.hasDict = false ∨ noL d = true)
theorem Shw.n {K : PySem.W.Frag} {H H' : Hp} {v : V} {d : PyData} {n : Nat} (h : Shw K H v d n) (e : LamX.ExtN H H') : Shw K H' v d n := ⟨h.1.n e, h.2⟩
theorem shw_sml {K : PySem.W.Frag} {H : Hp} {m : Bool} {v : V} (h : Sml K H m v) : ∃ d, Shw K H v d 40 := by
  obtain ⟨d, dq, sm⟩ := h
  unfold smD mdD at sm
  rw [Bool.and_eq_true, Bool.and_eq_true, Bool.and_eq_true] at sm
  obtain ⟨s1, s2, s3, s4⟩ := sm
  have s2 := of_decide_eq_true s2
  refine ⟨d, dq, s1, by omega, of_decide_eq_true s3, ?_⟩
  cases m with
  | true => exact .inr s4
  | false => exact .inl (by simpa using s4)
theorem shw_tup {K : PySem.W.Frag} {H : Hp} {m : Bool} {a : Addr} {xs : List V} (h : H a = some (.tup xs)) (s : SmL K H m xs) : ∃ d, Shw K H (.ref a) d (42 * xs.length + 3) := by
  obtain ⟨ds, d1, d2, d3, d4, d5, d6⟩ := s.all
  refine ⟨.tuple ds, .tup (.of h) d1, by rw [PyData.showable]; exact d2, by rw [PyData.depth]; omega, ?_, ?_⟩
  · rw [PyData.shown]
    have := tupText_le (PyData.shownAll ds)
    omega
  · cases m with
    | true => exact .inr (by rw [noL]; exact d6)
    | false => exact .inl (by rw [PyData.hasDict]; exact d6)
theorem listText_le (ts : List Str) : (listText ts).length ≤ piled ts + 2 := by
  have key : ∀ (ts : List Str) (k : Nat) (acc : Str), (textFrom k acc ts).length ≤ acc.length + piled ts := by
    intro ts
    induction ts with
    | nil => intro k acc; exact Nat.le_refl _
    | cons t r ih =>
      intro k acc
      have z := ih (k + 1) (acc ++ (if k > 0 then ", " else "" : String) ++ t)
      have e : (acc ++ (if k > 0 then ", " else "" : String) ++ t).length ≤ acc.length + 2 + t.length := by
        rw [slen_app, slen_app]
        have : (Str.ofString (if k > 0 then ", " else "")).length ≤ 2 := by
          split
          · exact (by decide : (Str.ofString ", ").length ≤ 2)
          · exact (by decide : (Str.ofString "").length ≤ 2)
        first
          | omega
          | (show acc.length + _ + t.length ≤ _; omega)
      rw [piled_cons]
      show (textFrom (k + 1) (acc ++ (if k > 0 then ", " else "" : String) ++ t) r).length ≤ _
      omega
  unfold listText
  rw [slen_app]
  have z := key ts 0 "["
  have t1 : ("[" : Str).length = 1 := rfl
  have t2 : ("]" : Str).length = 1 := rfl
  omega
theorem shw_lst {K : PySem.W.Frag} {H : Hp} {a : Addr} {xs : List V} (h : H a = some (.lst xs)) (s : SmL K H false xs) : ∃ d, Shw K H (.ref a) d (42 * xs.length + 2) := by
  obtain ⟨ds, d1, d2, d3, d4, d5, d6⟩ := s.all
  refine ⟨.list ds, .lst (.of h) d1, by rw [PyData.showable]; exact d2, by rw [PyData.depth]; omega, ?_, ?_⟩
  · rw [PyData.shown]
    have := listText_le (PyData.shownAll ds)
    omega
  · exact .inl (by rw [PyData.hasDict]; exact d6)
/-- a small thing of another kind -/
structure Od (K : PySem.W.Frag) (H : Hp) (v : V) : Prop where
  th : Pl H v
  tl : ∀ a xs, v = .ref a → H a = some (.tup xs) → ∀ x ∈ xs, Pl H x
  sm : ∃ m, Sml K H m v
theorem Od.flat {K : PySem.W.Frag} {H : Hp} {v : V} {d : PyData} (m : Bool) (th : Pl H v) (nr : ∀ a, v ≠ .ref a) (dq : Dq K H v d) (h : smD m d = true) : Od K H v :=
  ⟨th, fun a xs e => absurd e (nr a), m, d, dq, h⟩
theorem Od.ofR {K : PySem.W.Frag} {H : Hp} {a : Addr} {d : PyData} (m : Bool) (th : Pl H (.ref a)) (tl : ∀ xs, H a = some (.tup xs) → ∀ x ∈ xs, Pl H x) (dq : Dq K H (.ref a) d) (h : smD m d = true) : Od K H (.ref a) :=
  ⟨th, fun b xs e => by cases e; exact tl xs, m, d, dq, h⟩
theorem Od.n {K : PySem.W.Frag} {H H' : Hp} {v : V} (h : Od K H v) (e : LamX.ExtN H H') : Od K H' v := by
  obtain ⟨⟨T, th⟩, tl, m, r⟩ := h
  refine ⟨⟨T, th.n e⟩, fun a xs ea ht x hx => ?_, m, r.n e⟩
  subst ea
  obtain ⟨o, ho, hn⟩ := thg_ref th
  have := e _ _ ho hn
  rw [ht] at this
  cases this
  obtain ⟨U, z⟩ := tl a xs rfl ho x hx
  exact ⟨U, z.n e⟩
/-! ### slices and + of tuples at whatever place -/
theorem cut_toN {xs : List V} {i : Int} (h : 0 ≤ i) : cutV xs none (some i) = xs.take i.toNat := by
  have e : HT.sIx xs.length xs.length (some i) = min i.toNat xs.length := if_neg (by omega)
  unfold cutV
  rw [e, show HT.sIx xs.length 0 none = 0 from rfl, List.drop_zero, Nat.sub_zero]
  apply List.ext_getElem?
  intro j
  rw [List.getElem?_take, List.getElem?_take]
  by_cases c : j < i.toNat
  · by_cases c2 : j < xs.length
    · rw [if_pos (by omega), if_pos c]
    · rw [if_neg (by omega), if_pos c, List.getElem?_eq_none (by omega)]
  · rw [if_neg (by omega), if_neg c]
theorem cut_fromN {xs : List V} {i : Int} (h : 0 ≤ i) : cutV xs (some i) none = xs.drop i.toNat := by
  have e : HT.sIx xs.length 0 (some i) = min i.toNat xs.length := if_neg (by omega)
  unfold cutV
  rw [e, show HT.sIx xs.length xs.length none = xs.length from rfl]
  by_cases c : i.toNat ≤ xs.length
  · rw [Nat.min_eq_left c]
    exact List.take_of_length_le (by rw [List.length_drop]; omega)
  · rw [Nat.min_eq_right (by omega), Nat.sub_self, List.take_zero, List.drop_of_length_le (by omega)]
theorem nf_to {xs : List V} {i : Int} (h : 0 ≤ i) (hl : i < xs.length) : ¬ (HT.sIx xs.length 0 none = 0 ∧ HT.sIx xs.length xs.length (some i) = xs.length) := by
  have e : HT.sIx xs.length xs.length (some i) = min i.toNat xs.length := if_neg (by omega)
  rw [e]
  omega
theorem nf_from {xs : List V} {i : Int} (h : 0 < i) (hl : 0 < xs.length) : ¬ (HT.sIx xs.length 0 (some i) = 0 ∧ HT.sIx xs.length xs.length none = xs.length) := by
  have e : HT.sIx xs.length 0 (some i) = min i.toNat xs.length := if_neg (by omega)
  rw [e]
  omega
section
variable {P : Program} {w : World} {K : PySem.W.Frag} {mg : Str → Option Value} {base : Heap} {k j n : Nat} {N Vz Sz G ps ks : List Str} {sc : Scope} {x m : Str} {v : V} {X : Cx} {sp : Sp} {σ : L2.St} {H : Hp} {Q : VK} {T : String}
theorem o_catTA {a b : Addr} {xs ys : List V} (C : CxI P w K mg base k N Vz Sz G sc X) (h1 : H a = some (.tup xs)) (h2 : H b = some (.tup ys)) (hz : xs.length + ys.length ≤ sizeLine) (q : ∀ p H2, Ex H H2 → H2 p = some (.tup (xs ++ ys)) → Q (.ref p) H2) :
    wO X (binaryOp .Add) (.ref a) (.ref b) H Q :=
  wO.of op_catA ⟨a, b, xs, ys, rfl, rfl, by rw [C.eK]; exact .of h1, by rw [C.eK]; exact .of h2, hz, fun z => q b H (Ex.refl H) (by rw [z]; exact h2), fun _ z => q a H (Ex.refl H) (by rw [z, List.append_nil]; exact h1), fun _ _ p hp => q p _ (Ex.upd hp) upd_same⟩
theorem o_notInF {ad : Addr} {xs : List V} (C : CxI P w K mg base k N Vz Sz G sc X) (h : SqL K H ad xs) (h1 : flatV v = true) (h2 : xs.all flatV = true) (q : Q (.bl (!inV v xs)) H) : wO X (compareOp .NotIn) v (.ref ad) H Q :=
  wO.of op_notIn_seq ⟨ad, xs, rfl, .inl (by rw [C.eK]; exact h), h1, h2, q⟩
theorem slq_to {a : Addr} {xs : List V} {i : Int} {R : Addr → Hp → Prop} (h : H a = some (.tup xs)) (i0 : 0 ≤ i) (i1 : i < xs.length) (q : ∀ p H', H p = none → Ex H H' → H' p = some (.tup (xs.take i.toNat)) → R p H') : SlQ K (.ref a) none (some i) H R :=
  slq_i (.of h) (nf_to i0 i1) (cut_toN i0) q
theorem slq_from {a : Addr} {xs : List V} {i : Int} {R : Addr → Hp → Prop} (h : H a = some (.tup xs)) (i0 : 0 < i) (i1 : 0 < xs.length) (q : ∀ p H', H p = none → Ex H H' → H' p = some (.tup (xs.drop i.toNat)) → R p H') : SlQ K (.ref a) (some i) none H R :=
  slq_i (.of h) (nf_from i0 i1) (cut_fromN (by omega)) q
theorem c_reprW {d : PyData} {n : Nat} (C : CxI P w K mg base k N Vz Sz G sc X) (g : Gd X) (h : Shw K H v d n) (hn : n ≤ sizeLine) (q : Q (.str d.shown) H) : wC X (.builtin "repr") [v] H Q :=
  c_reprQ C g h.1 h.2.1 (by have := h.2.2.1; omega) (Nat.le_trans h.2.2.2.1 hn) h.2.2.2.2 q
end
end Rp
/-! ### x, y = a, b where an exception is handled -/
namespace HotU
open PySem PySem.Spec PyProof.Rows HotX
section
variable {prog : Program} {w : World} {A : Around} {E : Value → Shared → Prop} {s : Shared}
theorem hot_but {x1 it : Addr} {h h' : Heap} (hot : HotAt A x1 h) (hn : x1 ≠ it) (k : ∀ b o, b ≠ it → h.get? b = some o → h'.get? b = some o) : HotAt A x1 h' := by
  obtain ⟨hh, o, vs, h1, d1, c1⟩ := hot
  exact ⟨hh, o, vs, k _ _ hn h1, d1, c1⟩
theorem hot_ne {x1 it t : Addr} {i : Nat} {h : Heap} (hot : HotAt A x1 h) (hit : IsTupIter h it t i) : x1 ≠ it := by
  obtain ⟨hh, o1, vs, h1, d1, c1⟩ := hot
  obtain ⟨o, ho, hc, hd⟩ := hit
  intro e
  rw [e, ho] at h1
  cases h1
  rw [hd] at d1
  cases d1
  cases c1
theorem end_hot {it t x1 : Addr} {i : Nat} {items} {Q : Option Value → Shared → Prop} (hot : HotAt A x1 s.heap)
    (hit : IsTupIter s.heap it t i) (ht : IsTup s.heap t items) (hx : items[i]? = none)
    (hQ : ∀ h', Heap.ExtBut it s.heap h' → Q none { s with heap := h' }) : wpAny (model prog w) A (pyNext (.ref it)) Q E s := by
  have hn := hot_ne hot hit
  obtain ⟨o, ho, hc, hd⟩ := id hit
  obtain ⟨ol, hol, _, nl, hdl⟩ := ht
  obtain ⟨hh, o1, vs1, h1, d1, c1⟩ := hot
  unfold pyNext
  refine wpAny_bind (wpAny_attempt (wpAny_callSpecial?_slot (name := Str.ofString "__next__") hit.typeIs slot_tupleiter_next
    (wpAny_call_entry slot_tupleiter_next hit.typeIs entry_tupleiter_next ?_ (args_tupleiter_next _))))
  show wpAny _ _ (field (.ref it) 0 >>= _) _ _ s
  refine wpAny_bind (wpAny_field ho hd (x := .ref t) rfl ?_)
  show wpAny _ _ (if (Value.ref t == Value.none) = true then _ else _) _ _ s
  rw [if_neg (show ¬ ((Value.ref t == Value.none) = true) from Bool.false_ne_true)]
  show wpAny _ _ (field (.ref it) 1 >>= _) _ _ s
  refine wpAny_bind (wpAny_field ho hd (x := .int i 0) rfl ?_)
  show wpAny _ _ (seqItems? (.ref t) >>= _) _ _ s
  refine wpAny_bind (wpAny_seqItems hol hdl ?_)
  simp only [Int.toNat_natCast, hx]
  refine wpAny_bind (wpAny_rule (wpAny_bind (wpAny_setField ho hd (by simp) ?_)))
  show wpAny _ _ (newExc (.type "StopIteration") [] >>= _) _ _ _
  refine wpAny_bind ?_
  simp only [newExc, newTuple]
  refine wpAny_bind (wpAny_newObj_type ?_ (by size_fits))
  refine wpAny_bind (m := firstArgMember _ _) (wpAny_of_eq (a := Value.none) (by first | rfl | (simp only [firstArgMember]; rfl)) ?_)
  refine wpAny_newObj_type ?_ (by size_fits)
  have h1' := (Heap.get?_update_other s.heap (Obj.mapFields (·.setIfInBounds 0 .none)) (Ne.symm hn)).trans h1
  refine raiseNew_hot ⟨hh, o1, vs1, Heap.get?_push_of_some _ (Heap.get?_push_of_some _ h1'), d1, c1⟩ (Nat.ne_of_lt (Heap.lt_size (Heap.get?_push_of_some _ h1'))) (Heap.get?_push_size _ rfl) rfl (by first | (simp; done) | (simp; omega) | (simp only [Array.size_append]; simp; omega)) ?_
  refine wpAny_bind (wpAny_isInstance (T := "StopIteration") (b := true) ⟨_, Heap.get?_update_self _ (Heap.get?_push_size _ rfl) rfl, rfl⟩ isSubtype_stop ?_)
  refine wpAny_pure (hQ _ fun b o hb e => ?_)
  have e' := (Heap.get?_update_other s.heap (Obj.mapFields (·.setIfInBounds 0 .none)) (Ne.symm hb)).trans e
  rw [Heap.get?_update_other _ _ (Nat.ne_of_gt (Heap.lt_size (Heap.get?_push_of_some _ e')))]
  exact Heap.get?_push_of_some _ (Heap.get?_push_of_some _ e')
theorem unpack_hot {t x1 : Addr} {items : Array Value} {Q : List Value → Shared → Prop} (hot : HotAt A x1 s.heap) (ht : IsTup s.heap t items)
    (hQ : ∀ h', Heap.ExtBut s.heap.objs.size s.heap h' → Q items.toList { s with heap := h' }) : wpAny (model prog w) A (unpackItems (.ref t) items.size none) Q E s := by
  have hlt : t ≠ s.heap.objs.size := by obtain ⟨o, ho, _⟩ := ht; exact Nat.ne_of_lt (Heap.lt_size ho)
  have hot1 : HotAt A x1 (s.heap.push { cls := .type "tuple_iterator", data := .fields #[.ref t, .int 0 0] }) := by
    obtain ⟨hh, o, vs, h1, d1, c1⟩ := hot
    exact ⟨hh, o, vs, Heap.get?_push_of_some _ h1, d1, c1⟩
  have hne : x1 ≠ s.heap.objs.size := by
    obtain ⟨_, o, vs, h1, _⟩ := hot
    exact Nat.ne_of_lt (Heap.lt_size h1)
  unfold unpackItems
  refine wpAny_bind ?_
  unfold notIterableAtAll
  refine wpAny_bind (wpAny_specialOf ht.typeIs slot_tuple_iter.lookup ?_)
  refine wpAny_pure ?_
  simp only [Bool.false_eq_true, if_false]
  refine wpAny_bind (wpAny_holding (iter_tuple ht ?_))
  refine wpAny_bind (wpAny_holding (draw_tuple hlt items.size 0 _ _ ⟨_, Heap.get?_push_size _ rfl, rfl, rfl⟩ (ht.push _) (by omega) fun h₁ hit₁ hs₁ => ?_))
  have hall : List.take items.size (List.drop 0 items.toList) = items.toList := by
    rw [List.drop_zero]; exact List.take_of_length_le (by simp)
  rw [hall]
  rw [if_neg (by simp)]
  have ht₁ : IsTup h₁ t items := (ht.push _).extBut hs₁.extBut hlt
  refine wpAny_bind (wpAny_holding (end_hot (hot_but hot1 hne fun b o hb e => hs₁.extBut b o hb e) hit₁ ht₁ (by simp) fun h₂ he₂ => ?_))
  simp only [Option.isSome_none, Bool.false_eq_true, if_false]
  refine wpAny_pure (hQ h₂ fun b o hb e => he₂ b o hb (hs₁.extBut b o hb (Heap.get?_push_of_some _ e)))
end
end HotU
namespace Rp
open PySem PySem.Spec PyProof.Rows L2
section
variable {P : Program} {w : World} {K : PySem.W.Frag} {mg : Str → Option Value} {base : Heap} {k j : Nat} {N Vz Sz G : List Str} {sc : Scope} {x y : Str} {X : Cx} {a0 : Addr} {oe : Obj} {cls : Value} {dd : Option Addr}
variable {a b : Expr} {σ : L2.St} {H : Hp} {Q : VK} {pos : Pos} {D : Ends} {v : V}
theorem wS_parH {px py pt pt2 : Pos} {kt k2} (C : CxH P w K mg base k N Vz Sz G sc a0 oe X) (z : IsE cls dd oe) (hx : (sc.names.lookup x == some .local) = true) (hy : (sc.names.lookup y == some .local) = true) (hl : (py.line == px.line) = true) (hne : (x == y) = false)
    (h1 : ([a, b].any fun | .Starred .. => true | _ => false) = false) (h2 : [a, b].all (foldedForSure 8) = false) (h3 : [a, b].all (constantsAlone 8) = false)
    (hs : swapsWithSole [.Tuple [.Name x px, .Name y py] kt pt] (.Tuple [a, b] k2 pt2) pos.line X.env = pure false)
    (q : wA X [a, b] σ H fun vs H1 => ∃ v w, vs = [v, w] ∧ Put N σ x v fun σ1 => Put N σ1 y w fun σ2 => D.nx σ2 H1) : wS X (.Assign [.Tuple [.Name x px, .Name y py] kt pt] (.Tuple [a, b] k2 pt2) pos) D σ H := by
  have ex : X.env.kindOf x = some .local := by show X.env.scope.names.lookup x = _; rw [C.es]; exact eq_of_beq hx
  have ey : X.env.kindOf y = some .local := by show X.env.scope.names.lookup y = _; rw [C.es]; exact eq_of_beq hy
  have hb : X.env.blockKind = .function := by unfold Env.blockKind; rw [C.es, C.fk]; rfl
  have ne : x ≠ y := fun z => by rw [z] at hne; simp at hne
  have hw := swapped2 (kt := kt) (pt := pt) (k2 := k2) (pt2 := pt2) hb ex ey hl ne h1 h2 h3
  have hot : L2H.HotC X := by
    obtain ⟨⟨_, _, z3⟩, vs, z4⟩ := z
    exact ⟨(a0, oe), ⟨C.hnd, vs, z4, z3 vs z4⟩, C.pin⟩
  refine ⟨fun pins s I => ?_⟩
  rw [exec_Assign_arm]
  refine wpAny_bind (wpAny_standAt ?_)
  rw [hs]
  refine wpAny_bind (wpAny_pure ?_)
  rw [if_neg (by decide)]
  refine wpAny_bind (Tuple_ (thn (q.run _ pins s I) fun us s1 ⟨vs, H1, I1, r1, q1⟩ => ?_))
  obtain ⟨v, w, e1, σ1, p1, σ2, p2, q1⟩ := q1
  subst e1
  obtain ⟨u1, u2, rfl, rv, rw'⟩ : ∃ u1 u2, us = [u1, u2] ∧ RelV v u1 ∧ RelV w u2 := by
    cases r1 with
    | cons p q =>
      cases q with
      | cons p' q' =>
        cases q'
        exact ⟨_, _, rfl, p, p'⟩
  obtain ⟨i, hi, rfl⟩ := p1.ix
  obtain ⟨j, hj, rfl⟩ := p2.ix
  have hij : i ≠ j := fun z => by
    rw [z] at hi
    exact ne (Option.some.inj (hi.symm.trans hj))
  have hN : X.N.Nodup := by rw [C.eN]; exact C.nd
  have hi' : X.N[i]? = some x := by rw [C.eN]; exact hi
  have hj' : X.N[j]? = some y := by rw [C.eN]; exact hj
  have hx2 : X.env.scope.names.lookup x = some .local := ex
  have hy2 : X.env.scope.names.lookup y = some .local := ey
  refine wpAny_newObj_type ?_ (by show 2 ≤ sizeLine; decide)
  have I2 : Inv X pins σ H1 { s1 with heap := s1.heap.push { cls := .type "tuple", data := .seq [u1, u2].toArray } } := I1.kept (t' := s1.toks) fun b o e => Heap.get?_push_of_some _ e
  rw [hw]
  refine wpAny_bind (wpAny_pure ?_)
  show wpAny (model X.prog X.w) X.A (do rule "assign.swapped-stores"; let items ← unpackItems (.ref s1.heap.objs.size) 2 none; assignInOrder [fun v => bindName X.env y v, fun v => bindName X.env x v] items.reverse; pure Flow.next) _ _ _
  obtain ⟨x1, hot1⟩ := hot.at I2
  refine wpAny_bind (wpAny_rule (wpAny_bind (HotU.unpack_hot (items := #[u1, u2]) hot1 (IsTup.new s1.heap _) fun h' hx' => ?_)))
  have I3 := I2.kept (h' := h') (t' := s1.toks) fun b o e => hx' b o (Nat.ne_of_lt (Heap.lt_size e)) e
  show wpAny _ _ (assignInOrder [fun v => bindName X.env y v, fun v => bindName X.env x v] [u2, u1] >>= fun _ => pure Flow.next) _ _ _
  refine wpAny_bind (assignInOrder_cons (wpAny_bindName (store_ok I3 hN hj' (.inl hy2) rw' (fun s2 I4 => ?_) (.inr hy2))))
  refine assignInOrder_cons (wpAny_bindName (store_ok I4 hN hi' (.inl hx2) rv (fun s3 I5 => assignInOrder_nil (wpAny_pure ?_)) (.inr hx2)))
  rw [List.set_comm _ _ (Ne.symm hij)] at I5
  exact ⟨_, H1, I5, q1⟩
theorem o_inTH {ad : Addr} {xs : List V} (C : CxH P w K mg base k N Vz Sz G sc a0 oe X) (h : SqT K H ad xs) (h1 : flatV v = true) (h2 : xs.all flatV = true) (q : Q (.bl (inV v xs)) H) : wO X (compareOp .In) v (.ref ad) H Q :=
  wO.of op_in_seq ⟨ad, xs, rfl, .inr (by rw [C.eK]; exact h), h1, h2, q⟩
theorem o_catTH {l r : Addr} {xs ys : List V} (C : CxH P w K mg base k N Vz Sz G sc a0 oe X) (h1 : H l = some (.tup xs)) (h2 : H r = some (.tup ys)) (hz : xs.length + ys.length ≤ sizeLine) (q : ∀ p H2, (H p = none ∨ p = l ∨ p = r) → Ex H H2 → H2 p = some (.tup (xs ++ ys)) → Q (.ref p) H2) :
    wO X (binaryOp .Add) (.ref l) (.ref r) H Q :=
  wO.of op_catA ⟨l, r, xs, ys, rfl, rfl, by rw [C.eK]; exact .of h1, by rw [C.eK]; exact .of h2, hz, fun z => q r H (.inr (.inr rfl)) (Ex.refl H) (by rw [z]; exact h2), fun _ z => q l H (.inr (.inl rfl)) (Ex.refl H) (by rw [z, List.append_nil]; exact h1), fun _ _ p hp => q p _ (.inl hp) (Ex.upd hp) upd_same⟩
end
/-! ### defs that get the exception and more -/
abbrev SpE2 : Type := Value → Option Addr → List V → Hp → VK → Prop
structure FnE2 (P : Program) (w : World) (K : PySem.W.Frag) (mg : Str → Option Value) (base : Heap) (k : Nat) (f : Addr) (fd : FuncData) (p : Str) (ps : List Str) (sp : SpE2) : Prop where
  len : ∀ cls d ws H Q, sp cls d ws H Q → ws.length = ps.length
  run : ∀ (A : Around) (outer : List Env) (s : Shared) (H : Hp) (a : Addr) (oe : Obj) (cls : Value) (d : Option Addr) (ws : List V) (us : List Value) (Q : VK), L2H.RoomH k A → A.handled = some (.ref a) → L2H.PinOk outer H s (a, oe) → IsE cls d oe → Env0 P w K mg base A outer s H → BindsTo s fd ⟨.ref a :: us, []⟩ ((p :: ps).zip (.ref a :: us)) →
    Vals ws us → sp cls d ws H Q → codeAny (model P w) A (.call (.ref f) ⟨.ref a :: us, []⟩) (CR CX0 outer P w H s Q E0) s
section
variable {P : Program} {w : World} {K : PySem.W.Frag} {mg : Str → Option Value} {base : Heap} {k j n : Nat} {N Vz Sz G ps : List Str} {sc : Scope} {x qual ar : Str} {v : V} {p p' apos : Pos} {X : Cx} {a0 f : Addr} {oe : Obj} {cls : Value} {dd : Option Addr} {st : Stmt} {fd : FuncData} {sp : SpE2}
variable {e : Expr} {es : List Expr} {σ : L2.St} {H : Hp} {Q : VK} {pos : Pos}
theorem fn_E2 (F : Fn K x qual st f fd) (S : FnScope N (ar :: ps) (defScope st)) (ok : namesOk Vz Vz G (defScope st) = true) (len : ∀ cls d ws H Q, sp cls d ws H Q → ws.length = ps.length)
    (body : ∀ (X : Cx) (a : Addr) (oe : Obj) (cls : Value) (d : Option Addr) (ws : List V) (H : Hp) (Q : VK), CxH P w K mg base k N Vz Vz G (defScope st) a oe X → IsE cls d oe → sp cls d ws H Q → wB X (defBody st) { nx := fun _ H' => Q .non H', rt := Q } (L2.start N (.ref a :: ws)) H) : FnE2 P w K mg base (k + 1) f fd ar ps sp := by
  obtain ⟨dvs, kws, F⟩ := F.ex
  obtain ⟨oc, od, dV, kV, doc, pm, an, cdv, ct, osl, rfl, lk, hcd, _, _⟩ := F.ex
  refine ⟨len, fun A outer s H a oe cls d ws us Q hr hh hpin z e0 hb rv h => ?_⟩
  have hl := len _ _ _ _ _ h
  have KX : K.In s.heap := e0.mod.kin.keeps fun b o e => (e0.bs b o e).1
  have lim : s.heap.NoLimit := e0.mod.nolimit.keeps fun b o e => (e0.bs b o e).1
  have hkind : ∀ y ∈ (ar :: ps).zip (Value.ref a :: us), (defScope st).names.lookup y.1 = some .local ∨ ((defScope st).names.lookup y.1 = some .cell ∧ ((cellsFrom (s.heap.objs.size + 1) (defScope st).names []).lookup y.1).isSome = true) := fun ⟨n, v⟩ hy => by
    rcases S.par n (List.of_mem_zip hy).1 with q | q
    · exact .inl q
    · exact .inr ⟨q, PySem.W.cellsFrom_some _ _ _ (.inl q)⟩
  refine codeAny_call_function hr.depth (KX _ _ lk) rfl S.co S.gen rfl (PySem.W.codeRec_of KX hcd) (hb _ _ _ _ ?_)
  refine wpAny_newFunctionEnv_cells S.kind hkind fun env he s1 y => ?_
  subst he
  refine ⟨lim.keeps y.toInCall.keep, codeAny_func ?_⟩
  have I : Inv (L2H.cxH CX0 P w K mg base N qual (defScope st) f cdv A outer s H E0 (a, oe)) [] (L2.start N (.ref a :: ws)) H s1 := L2H.inv_startH S hpin e0 (by rw [List.length_cons, List.length_cons, hl]) (.cons rfl rv) y
  have hB := body (L2H.cxH CX0 P w K mg base N qual (defScope st) f cdv A outer s H E0 (a, oe)) a oe cls d ws H Q ⟨rfl, rfl, rfl, rfl, rfl, rfl, rfl, hr.deeper _, hh, List.mem_cons_self, fun _ => rfl, S.nd, ok, S.kind⟩ z h
  refine wpAny_mono (hB.run [] s1 I) (fun fl s' hs => ?_) fun e s' hs => hs
  have fin : ∀ {σ' : L2.St} {H' : Hp} {v : V} {u : Value}, Inv (L2H.cxH CX0 P w K mg base N qual (defScope st) f cdv A outer s H E0 (a, oe)) [] σ' H' s' → RelV v u → Q v H' → CE outer P w H s Q u s' := fun {σ' H' v u} J rv q => ⟨v, H', J.os, J.bare, J.base, J.hok, rv, q⟩
  cases fl with
  | ret u => obtain ⟨v, σ', H', J, rv, q⟩ := hs; exact fin J rv q
  | next => obtain ⟨σ', H', J, q⟩ := hs; exact fin (v := V.non) (u := Value.none) J rfl q
  | brk => obtain ⟨_, _, _, q⟩ := hs; exact False.elim q
  | cont => obtain ⟨_, _, _, q⟩ := hs; exact False.elim q
structure DE2 (P : Program) (w : World) (K : PySem.W.Frag) (mg : Str → Option Value) (base : Heap) (k : Nat) (x ar : Str) (ps : List Str) (sp : SpE2) : Prop where
  ex : ∃ f fd, FnE2 P w K mg base k f fd ar ps sp ∧ mg x = some (.ref f) ∧ PySem.W.keepIn K (.ref f) = true ∧ Binds K fd (ar :: ps) []
theorem wE_callE2 (C : CxH P w K mg base k N Vz Sz G sc a0 oe X) (D : DE2 P w K mg base j x ar ps sp) (hx : x ∈ G) (hj : j ≤ k) (z : IsE cls dd oe) (he : starEach (e :: es) X.env = (false, eval e X.env) :: starEach es X.env) (hpl : (backTo pos (starEach es X.env)).any (·.1) = false)
    (q : wA X (e :: es) σ H fun vs H1 => ∃ ws, vs = .ref a0 :: ws ∧ sp cls dd ws H1 Q) : wE X (.Call (.Name x p) (e :: es) [] pos) σ H Q := by
  obtain ⟨f, fd, Fk, hm, kp, hb⟩ := D.ex
  obtain ⟨l, d1, _⟩ := C.glo hx
  obtain ⟨rfl, rfl, rfl, rfl, rfl, _, _, hr, hh, hp, _, _, _, _⟩ := C
  refine ⟨fun pins s I => wpAny_Call_Name_kw (ld_glob I l hm ?_ d1)⟩
  refine PySem.W.callWith_K (h₀ := X.base) I.ok.mod.kin kp (thn (q.run pos pins s I) fun us s1 ⟨vs, H1, I1, r, ws, ev, q1⟩ => ⟨I1.kIn, ?_⟩) he hpl
  subst ev
  cases r with
  | @cons _ u _ us' ru rw' =>
  obtain rfl : u = Value.ref a0 := ru
  have p1 := I1.pin (a0, oe) (List.mem_append_left _ hp)
  have hpin : L2H.PinOk X.stack H1 s1 (a0, oe) := ⟨p1.1, p1.2.1, fun hm => (List.mem_cons.mp (I1.stkSub a0 hm)).elim p1.2.2.1 p1.2.2.2.1, p1.2.2.2.2⟩
  have hl := Fk.len _ _ _ _ _ q1
  have bnd := hb s1 (Value.ref a0 :: us') I1.kIn (by rw [List.append_nil, List.length_cons, List.length_cons, ← rw'.length, hl])
  rw [List.append_nil] at bnd
  refine wpAny_call (codeAny_mono (Fk.run X.A X.stack s1 H1 a0 oe cls dd ws us' Q (hr.mono hj) hh hpin z I1.env0 bnd rw' q1) fun r s' hq => ?_)
  cases r with
  | error e => exact False.elim hq
  | ok fl =>
    cases fl with
    | ret u => exact I1.after hq
    | next => exact False.elim hq
    | brk => exact False.elim hq
    | cont => exact False.elim hq
end
end Rp
/-! ### sorted(t, key=f) of a tuple -/
namespace SortT
open PySem PySem.W PySem.Calls PyProof.Rows
section
variable {prog : Program} {w : World} {A : Around} {E : Value → Shared → Prop} {s : Shared}
theorem collect_tup {l : Addr} {vs : List Value} {Q : List Value → Shared → Prop} (hl : IsTup s.heap l vs.toArray)
    (h : Q vs { s with heap := (s.heap.push (seqObj "list" #[] 0)).update s.heap.objs.size (Obj.mapSeq (· ++ vs.toArray)) }) (hsz : vs.length ≤ sizeLine) :
    wpAny (model prog w) A (collect (.ref l)) Q E s := by
  obtain ⟨o, ho, hc, n, hd⟩ := id hl
  unfold collect
  refine wpAny_bind (wpAny_runValue (codeAny_builtin entry_proto_collect' ?_))
  show wpAny _ _ (do again (.builtin "list.__iadd__" ⟨[← newList [], .ref l], []⟩)) _ _ s
  refine wpAny_bind (wpAny_newList (wpAny_pure ⟨Code.quiet_builtin _ (by decide +kernel), codeAny_builtin entry_list_iadd' ?_⟩))
  show wpAny _ _ (Builtin.List.listExtendWith (.ref s.heap.objs.size) (.ref l) (.ref s.heap.objs.size)) _ _ { s with heap := s.heap.push (seqObj "list" #[] 0) }
  unfold Builtin.List.listExtendWith
  have ho' : (s.heap.push (seqObj "list" #[] 0)).get? l = some o := Heap.get?_push_of_some _ ho
  refine wpAny_bind (wpAny_typeOf (T := "tuple") ⟨o, ho', hc⟩ ?_)
  have ht : (Value.type "tuple" == Value.type "tuple") = true := by rfl
  rw [if_pos (by rw [ht]; simp)]
  refine wpAny_bind (listItems_at ho' hd ?_)
  refine wpAny_bind (listItems_at (xs := #[]) (n := 0) (Heap.get?_push_size _ rfl) rfl ?_)
  rw [if_neg (by simp)]
  refine wpAny_bind (listUpdate_at (xs := #[]) (n := 0) (Heap.get?_push_size _ rfl) rfl ?_ (Nat.zero_le _) (by show (#[] ++ vs.toArray).size ≤ sizeLine + 1; simp only [Array.size_append, List.size_toArray, List.length_nil]; omega))
  refine wpAny_pure ?_
  show wpAny (model prog w) A (do
      let o ← load s.heap.objs.size
      match o.data with
      | .seq xs _ => pure xs.toList
      | _ => unsupported "internal:collect") Q E { s with heap := (s.heap.push (seqObj "list" #[] 0)).update s.heap.objs.size (Obj.mapSeq (· ++ vs.toArray)) }
  refine wpAny_bind (wpAny_load (get?_update_seq (Heap.get?_push_size _ rfl) _) ?_)
  show wpAny _ _ (pure ((#[] : Array Value) ++ vs.toArray).toList) Q E _
  rw [show ((#[] : Array Value) ++ vs.toArray).toList = vs by simp]
  exact wpAny_pure h
theorem sorted_ofT {l : Addr} {vs : List Value} {kw : List (Str × Value)} {Q : Value → Shared → Prop} (hl : IsTup s.heap l vs.toArray) (hL : vs.length ≤ sizeLine) (ha1 : argsOk "sorted" ⟨[.ref l], kw⟩) (ha2 : ∀ x, argsOk "list.sort" ⟨[.ref x], kw⟩)
    (body : ∀ E' : Value → Shared → Prop, wpAny (model prog w) A.in1.in1 (Builtin.«list.sort» ⟨[.ref (s.heap.objs.size + 1)], kw⟩) (fun f s' => f = .done (.ret .none) ∧ Q (.ref (s.heap.objs.size + 1)) s') E' { s with heap := copyHeap s.heap vs }) :
    wpAny (model prog w) A (call (.builtin "sorted") [.ref l] kw) Q E s := by
  refine call_function_entry_kw kind_sorted plain_sorted entry_sorted ha1 ?_
  unfold Builtin.«sorted»
  refine wpAny_bind (m := checkCount "sorted" 1 1 _) (wpAny_pure ?_)
  refine wpAny_bind (collect_tup hl ?_ hL)
  refine wpAny_bind (wpAny_newList ?_ hL)
  have hsz : ((s.heap.push (seqObj "list" #[] 0)).update s.heap.objs.size (Obj.mapSeq (· ++ vs.toArray))).objs.size = s.heap.objs.size + 1 := by
    rw [Heap.size_update, size_push']
  show wpAny _ _ _ _ _ { s with heap := copyHeap s.heap vs }
  rw [hsz]
  refine wpAny_bind (wpAny_holding (wpAny_call_entry_kw slot_list_sort ⟨_, copyHeap_at s.heap vs, rfl⟩ entry_list_sort ?_ (ha2 _)))
  refine wpAny_mono (body _) (fun f s' hf => ?_) fun _ _ e => e
  obtain ⟨rfl, hq⟩ := hf
  exact ⟨_, rfl, wpAny_pure ⟨_, rfl, hq⟩⟩
theorem sorted_intsT {l : Addr} {vs : List Value} {ns : List Int} {Q : Value → Shared → Prop} (hl : IsTup s.heap l vs.toArray) (e : EachIs (fun v (n : Int) => ∃ t, v = .int n t) vs ns) (hL : ns.length ≤ sizeLine) (hu : A.units + 64 < cLine)
    (h : ∀ out, out.length = ns.length → EachIs (fun v (n : Int) => ∃ t, v = .int n t) out (ns.mergeSort fun a b => decide (a ≤ b)) → Q (.ref (s.heap.objs.size + 1)) { s with heap := sortedAll s.heap vs (List.toArray out) }) :
    wpAny (model prog w) A (call (.builtin "sorted") [.ref l]) Q E s := by
  have rd : ∀ g : Heap, EachIs (fun v (n : Int) => ∃ as, Reads g v (.int n) as) vs ns := fun g => e.mono fun v n ⟨t, hv⟩ => ⟨[], by rw [hv]; exact Reads.int n t⟩
  have hal : AllAlike (ns.map PyData.int) := AllAlike.of fun _ _ => by simp [alike]
  have hk : Sortable (ns.map PyData.int) := Sortable.others fun _ => ⟨(by simp), (by simp)⟩
  have hd : ∀ n : Int, (PyData.int n).depth ≤ 1 := fun n => by simp [PyData.depth]
  have hv : vs.length ≤ sizeLine := by rw [e.length]; exact hL
  refine sorted_ofT hl hv (args_sorted1 _) (fun _ => args_list_sort _) fun E' => list_sort_vals (s := { s with heap := copyHeap s.heap vs }) (copyHeap_at s.heap vs) (SortsAt.data (s := { s with heap := sortingHeap (copyHeap s.heap vs) (s.heap.objs.size + 1) vs }) (each_map (R := fun v d => ∃ as, Reads (sortingHeap (copyHeap s.heap vs) (s.heap.objs.size + 1) vs) v d as) PyData.int (rd _)) hal hk (bound_map (A := A.in1.in1) fun n _ => ?_)) hv ⟨rfl, ?_⟩
  · have := hd n
    show A.units + 2 + (PyData.int n).depth < cLine
    omega
  · refine h _ (by rw [sortVals_length false rfl]; exact e.length) ?_
    have z := sortVals_data (R := fun v (n : Int) => ∃ t, v = .int n t) (h' := sortingHeap (copyHeap s.heap vs) (s.heap.objs.size + 1) vs) false e (rd _) hal
    rw [show (PyData.int : Int → PyData) = (fun b => .int (id b)) from rfl, dataLe_int] at z
    exact z
variable {β : Type} {vs : List Value} {bs : List β} {R : Value → β → Prop}
theorem sorted_key_tup {l : Addr} {f : Value} {kw : List (Str × Value)} {b : Bool} {Q : Value → Shared → Prop} (k : β → PyData) (hl : IsTup s.heap l vs.toArray) (e : EachIs R vs bs) (hal : AllAlike (bs.map k)) (hk : Sortable (bs.map k)) (hL : bs.length ≤ sizeLine)
    (hu : ∀ x, x ∈ bs → A.units + 2 + (k x).depth < cLine) (ha1 : argsOk "sorted" ⟨[.ref l], kw⟩) (ha2 : ∀ x, argsOk "list.sort" ⟨[.ref x], kw⟩) (ht : ∀ x, Builtin.«list.sort» ⟨[.ref x], kw⟩ = ksk_tree x f b)
    (turn : ∀ (v : Value) (x : β), R v x → x ∈ bs → ∀ (h : Heap) (tk : Nat), (∀ b o, s.heap.get? b = some o → h.get? b = some o) →
      wpAny (model prog w) A.in1.in1 (call f [v]) (KeyPure (k x) { s with heap := h, toks := tk }) (fun _ _ => False) { s with heap := h, toks := tk })
    (h : ∀ out c h' tk, (∀ b o, s.heap.get? b = some o → h'.get? b = some o) → s.heap.get? (s.heap.objs.size + 1) = none → h'.get? (s.heap.objs.size + 1) = some (seqObj "list" (List.toArray out) c) → out.length = bs.length → EachIs R out (bs.mergeSort (dataLe b k)) →
      Q (.ref (s.heap.objs.size + 1)) { s with heap := h', toks := tk }) :
    wpAny (model prog w) A (call (.builtin "sorted") [.ref l] kw) Q E s := by
  have fresh : s.heap.get? (s.heap.objs.size + 1) = none := Heap.get?_none_of_le (Nat.le_succ _)
  have up : ∀ {g : Heap}, KeepsBut (s.heap.objs.size + 1) (copyHeap s.heap vs) g → ∀ b o, s.heap.get? b = some o → g.get? b = some o := fun {g} kp b o q =>
    kp b o (Nat.ne_of_lt (Nat.lt_succ_of_lt (Heap.lt_size q))) (copyHeap_old q)
  have hL' : vs.length ≤ sizeLine := by rw [e.length]; exact hL
  refine call_function_entry_kw kind_sorted plain_sorted entry_sorted ha1 ?_
  unfold Builtin.«sorted»
  refine wpAny_bind (m := checkCount "sorted" 1 1 _) (wpAny_pure ?_)
  refine wpAny_bind (collect_tup hl ?_ hL')
  refine wpAny_bind (wpAny_newList ?_ hL')
  have hsz : ((s.heap.push (seqObj "list" #[] 0)).update s.heap.objs.size (Obj.mapSeq (· ++ vs.toArray))).objs.size = s.heap.objs.size + 1 := by
    rw [Heap.size_update, size_push']
  show wpAny _ _ _ _ _ { s with heap := copyHeap s.heap vs }
  rw [hsz]
  refine wpAny_bind (wpAny_holding (wpAny_call_entry_kw slot_list_sort ⟨_, copyHeap_at s.heap vs, rfl⟩ entry_list_sort ?body (ha2 _)))
  case body =>
    show wpAny (model prog w) A.in1.in1 (Builtin.«list.sort» ⟨[.ref (s.heap.objs.size + 1)], kw⟩) _ _ _
    rw [ht]
    refine keyH_tree (kz := bs.map k) (s := { s with heap := copyHeap s.heap vs }) (copyHeap_at s.heap vs) (by rw [List.length_map]; exact e.length.symm) hL' hal hk (bound_map (A := A.in1.in1) hu)
      (keyH_turns (s := { s with heap := copyHeap s.heap vs }) e fun v x hR hx h tk kp => turn v x hR hx h tk (up kp)) fun h' tk out c kp hD ko => ?_
    refine ⟨_, rfl, wpAny_pure ⟨_, rfl, ?_⟩⟩
    exact h out c h' tk (up kp) fresh hD ((ko.length (by rw [List.length_map]; exact e.length.symm)).trans e.length) (keyedOut_each k ko e)
end
end SortT
namespace Rp
open PySem PySem.Spec PyProof.Rows L2
def rSortK0 : List V → List V → Hp → VK → Prop := fun vs zs H Q => ∃ a f : Addr, vs = [V.ref a] ∧ zs = [V.ref f] ∧ H a = some (.tup []) ∧ ∀ p H2, H p = none → Ex H H2 → H2 p = some (.lst []) → Q (.ref p) H2
section
variable {P : Program} {w : World} {K : PySem.W.Frag} {mg : Str → Option Value} {base : Heap} {k : Nat} {N Vz Sz G : List Str} {sc : Scope} {X : Cx} {σ : L2.St} {H : Hp} {Q : VK} {e : Expr} {es : List Expr} {kws : List Keyword} {p pos : Pos}
theorem cr_sortK0 (hu : X.A.units + 64 < cLine) : CallRK X (.builtin "sorted") [Str.ofString "key"] rSortK0 := by
  rintro pins s σ H xs zs us ws Q I r1 r2 ⟨a, f, rfl, rfl, ha, q⟩
  obtain ⟨u, rfl, ru⟩ := vals1 r1
  obtain ⟨u2, rfl, ru2⟩ := vals1 r2
  obtain rfl : u = Value.ref a := ru
  obtain rfl : u2 = Value.ref f := ru2
  obtain ⟨its, rv, hl, hz⟩ := I.tuple (SqT.of ha)
  cases rv
  show wpAny (model X.prog X.w) X.A (call (.builtin "sorted") [.ref a] [(Str.ofString "key", .ref f)]) _ _ s
  refine SortT.sorted_key_tup (b := false) (bs := ([] : List Int)) (R := fun _ _ => True) (vs := []) (fun _ => PyData.tuple [.int 0]) hl .nil (PySem.W.AllAlike.of fun _ _ => by simp [PySem.W.alike, PySem.W.alikeAll]) (PySem.W.Sortable.tuples fun _ => ⟨_, _, rfl⟩) (Nat.zero_le _)
    (fun _ h => nomatch h) (ksk_s1 _ _) (fun _ => ksk_l1 _ _) (fun _ => ksk_t1 _ _) (fun _ _ _ h => nomatch h) fun out c h' tk kp fr hg hl2 _ => ?_
  have eo : out = [] := List.length_eq_zero_iff.mp hl2
  subst eo
  exact ⟨.ref _, upd H (s.heap.objs.size + 1) (.lst []), I.laid (t' := tk) kp (Nat.le_succ _) ⟨Nat.zero_le _, [], c, .nil, hg⟩, rfl, q _ _ (I.hok.fresh (Nat.le_succ _)) (Ex.upd (I.hok.fresh (Nat.le_succ _))) upd_same⟩
/-- sorted((), key=f) -/
theorem wE_sortK0 (C : CxI P w K mg base k N Vz Sz G sc X) (hm : mg "sorted" = none) (hx : ("sorted" : Str) ∈ G)
    (he : backTo pos (starEach (e :: es) X.env) = (false, eval e X.env) :: backTo pos (starEach es X.env)) (hpl : (backTo pos (starEach (e :: es) X.env)).any (·.1) = false)
    (hall : (backToKw pos (keywordEach kws X.env)).all (·.1.isSome) = true) (hnone : (backToKw pos (keywordEach kws X.env)).any (·.1.isNone) = false) (hks : (backToKw pos (keywordEach kws X.env)).filterMap (·.1) = [Str.ofString "key"])
    (q : wA X (e :: es) σ H fun vs H1 => wK X kws σ H1 fun zs H2 => rSortK0 vs zs H2 Q) : wE X (.Call (.Name "sorted" p) (e :: es) kws pos) σ H Q := by
  obtain ⟨l, d1, d2⟩ := C.glo hx
  have hu : X.A.units + 64 < cLine := by have := C.room.un; omega
  exact wE.of (pe_callBK (cr_sortK0 hu) l (by rw [C.em]; exact hm) (by decide +kernel) wA.pa wK.pk d2 d1 he hpl hall hnone hks) q
theorem each_ints {xs : List Int} : ∀ {us : List Value}, Vals (xs.map V.int) us → PySem.W.EachIs (fun v (n : Int) => ∃ t, v = .int n t) us xs := by
  induction xs with
  | nil => intro us h; cases h; exact .nil
  | cons x xs ih =>
    intro us h
    cases h with
    | cons r t => exact .cons r (ih t)
theorem ints_each : ∀ {us : List Value} {xs : List Int}, PySem.W.EachIs (fun v (n : Int) => ∃ t, v = .int n t) us xs → Vals (xs.map V.int) us
  | _, _, .nil => .nil
  | _, _, .cons r t => .cons r (ints_each t)
/-- sorted(t), whole numbers -/
theorem c_sortedTI {a : Addr} {ns : List Int} (C : CxI P w K mg base k N Vz Sz G sc X) (ha : H a = some (.tup (ns.map V.int))) (hl : ns.length ≤ 1000) (q : ∀ (es : List Int) p H', es.Perm ns → es.Pairwise (· ≤ ·) → H p = none → Ex H H' → H' p = some (.lst (es.map V.int)) → Q (.ref p) H') : wC X (.builtin "sorted") [.ref a] H Q := by
  have hu : X.A.units + 64 < cLine := by have := C.room.un; omega
  refine ⟨fun pins s σ us I rv => ?_⟩
  obtain ⟨u, rfl, ru⟩ := vals1 rv
  obtain rfl : u = Value.ref a := ru
  obtain ⟨its, r, hT, hz⟩ := I.tuple (SqT.of ha)
  refine SortT.sorted_intsT hT (each_ints r) (by rw [sizeLine_eq]; omega) hu fun out hol he => ?_
  obtain ⟨ep, he'⟩ := PyProof.Rows.sortedAll_at s.heap its (List.toArray out)
  have hp : (ns.mergeSort fun a b => decide (a ≤ b)).Perm ns := List.mergeSort_perm _ _
  have hs : (ns.mergeSort fun a b => decide (a ≤ b)).Pairwise (· ≤ ·) := (List.pairwise_mergeSort (fun a b c h1 h2 => by simp only [decide_eq_true_eq] at *; omega) (fun a b => by simp only [Bool.or_eq_true, decide_eq_true_eq]; omega) ns).imp fun h => of_decide_eq_true h
  have hf := I.hok.fresh (Nat.le_succ s.heap.objs.size)
  exact ⟨.ref _, upd H (s.heap.objs.size + 1) (.lst ((ns.mergeSort fun a b => decide (a ≤ b)).map V.int)), I.laid (t' := s.toks) (fun _ _ => PyProof.Rows.sortedAll_old) (Nat.le_succ _) ⟨by rw [List.length_map, hp.length_eq, sizeLine_eq]; omega, out, ep, ints_each he, he'⟩, rfl, q _ _ _ hp hs hf (Ex.upd hf) upd_same⟩
end
end Rp
namespace Rp
open PySem PySem.Spec PyProof.Rows L2
/-! ### [.. for .. in range(a, b)] -/
section
variable {P : Program} {w : World} {K : PySem.W.Frag} {mg : Str → Option Value} {base : Heap} {k : Nat} {N Vz Sz' G Vc Sc' Gc : List Str} {sc scope : Scope} {X : Cx} {elt tg a b : Expr} {ifs : List Expr} {σ : L2.St} {H : Hp} {pos p1 p2 : Pos} {Q : VK}
def LcR2 (P : Program) (w : World) (K : PySem.W.Frag) (mg : Str → Option Value) (base : Heap) (k : Nat) (N Vc Sc' Gc : List Str) (scope : Scope) (vs : List Nat) (elt tg : Expr) (ifs : List Expr) (σ : L2.St) (xs : List V) (H1 : Hp) (Q : Addr → Hp → Prop) : Prop :=
  ∃ (lo hi : Int) (n : Nat), xs = [.int lo, .int hi] ∧ n = (hi - lo).toNat ∧ -1000000 ≤ lo ∧ lo < 1000000 ∧ -1000000 ≤ hi ∧ hi < 1000000 ∧ ∀ D, H1 D = none → ∃ Pv : Nat → Hp → Prop, Pv 0 (L2.upd H1 D (.lst [])) ∧
    (∀ i H, i < n → Pv i H → LcStep P w K mg base k N Vc Sc' Gc scope vs elt tg ifs σ D (.int (lo + (i : Nat))) H (Pv (i + 1))) ∧ ∀ H, Pv n H → Q D H
theorem wE_lcR2 (own : List (Str × Nat)) (Vc Sc' Gc : List Str) (C : CxI P w K mg base k N Vz Sz' G sc X) (ob : blkC N sc scope own = true) (ok : namesOk Vc Sc' Gc (relS scope sc) = true) (hl : localsOk Sc' (relS scope sc) = true) (hk : scope.kind = .function)
    (hm : mg "range" = none) (hx : ("range" : Str) ∈ G) (hs : starEach [a, b] X.env = [(false, eval a X.env), (false, eval b X.env)]) (hs2 : starEach [b] X.env = [(false, eval b X.env)])
    (q : wA X [a, b] σ H fun vs H1 => LcR2 P w K mg base k N Vc Sc' Gc (relS scope sc) (own.map (·.2)) elt tg ifs σ vs H1 fun D H => Q (.ref D) H) :
    wE X (.ListComp elt [⟨tg, .Call (.Name "range" p1) [a, b] [] p2, ifs, 0⟩] scope pos) σ H Q := by
  obtain ⟨l, _, _⟩ := C.glo hx
  refine wE.of (pe_lc C.calm (by rw [C.eN]; exact C.nd) (pi_range2 l (by rw [C.em]; exact hm) wA.pa hs hs2) (blkOk_by (own := own) (by rw [C.eN, C.es]; exact ob)) (blk_pg C ok hl hk) (fun s H Ca cl fp => blk_pts C ok hl hk s H Ca cl fp ifs) (blk_pe C ok hl hk) (fun _ => rfl)) ?_
  refine ⟨fun pp pins s I => thn (q.run pp pins s I) ?_⟩
  rintro u s1 ⟨vs, H1, I1, r1, lo, hi, n, rfl, en, l1, l2, l3, l4, q1⟩
  refine ⟨_, H1, I1, r1, lo, hi, rfl, ⟨by omega, by omega, by omega, by omega⟩, ?_⟩
  rw [← en]
  intro D hD
  obtain ⟨Pv, h0, hst, hd⟩ := q1 D hD
  refine ⟨fun i m H => m = n - i ∧ i ≤ n ∧ Pv i H, ⟨n, rfl, Nat.zero_le _, h0⟩, ?_⟩
  rintro i m H ⟨rfl, hi', p⟩
  by_cases hlt : i < n
  · refine .inr ⟨hlt, Pv (i + 1), fun H' p' => ⟨n - (i + 1), by omega, rfl, hlt, p'⟩, fun x H' y => ?_⟩
    obtain ⟨rfl, rfl⟩ := y
    exact hst i H' hlt p
  · have e' : i = n := by omega
    subst e'
    exact .inl ⟨Nat.le_refl _, hd H p⟩
end
end Rp
namespace Rp
open PySem PySem.Spec PyProof.Rows L2
/-! ### a or b as a value, by truth; True == True -/
section
variable {P : Program} {w : World} {K : PySem.W.Frag} {X : Cx} {σ : L2.St} {H : Hp} {Q : VK} {a b : Expr} {rest : List Expr} {pos : Pos}
theorem wE_orT (q : wE X a σ H fun x H1 => ∃ k, TruV X.K x H1 k ∧ if k = true then Q x H1 else wE X (.BoolOp .Or (b :: rest) pos) σ H1 Q) : wE X (.BoolOp .Or (a :: b :: rest) pos) σ H Q := wE.of (pe_orT wE.pe wE.pe) q
theorem wE.mono {e : Expr} {Q' : VK} (q : wE X e σ H Q') (h : ∀ v H', Q' v H' → Q v H') : wE X e σ H Q := ⟨fun pins s I => thn (q.run pins s I) fun u s1 ⟨x, H1, I1, r1, z⟩ => ⟨x, H1, I1, r1, h x H1 z⟩⟩
theorem tru_tup {p : Addr} {xs : List V} (h : H p = some (.tup xs)) : TruV K (.ref p) H (!xs.isEmpty) := .inr (.inl ⟨xs, SqT.of h, rfl⟩)
theorem o_eqBV {x y : Bool} (q : Q (.bl (decide (x = y))) H) : wO X (compareOp .Eq) (.bl x) (.bl y) H Q :=
  wO.of op_eq ⟨rfl, by rw [show decide (V.bl x = V.bl y) = decide (x = y) by simp]; exact q⟩
end
end Rp
/-! ### sorted(t, key=f) of a tuple, f a def of one's own: whatever a turn keeps (J) -/
namespace SortT
open PySem PySem.W PySem.Calls PyProof.Rows
def Kb (a kS : Addr) (h h' : Heap) : Prop := ∀ b o, b ≠ a → b ≠ kS → h.get? b = some o → h'.get? b = some o
theorem Kb.same {a kS c : Addr} {h g g' : Heap} (k : Kb a kS h g) (hs : Heap.SameBut c g g') (hc : c = a ∨ c = kS) : Kb a kS h g' := fun b o h1 h2 e => by
  have n : b ≠ c := by
    rcases hc with z | z
    · rw [z]; exact h1
    · rw [z]; exact h2
  exact (hs.2 b n).trans (k b o h1 h2 e)
section
variable {prog : Program} {w : World} {A : Around} {E : Value → Shared → Prop} {s : Shared} {a kS : Addr} {b : Bool} {vs : List Value} {ka : Array Value} {e e1 : Nat} {P : PySem.Fin → Shared → Prop} {kz : List PyData}
theorem jtail {st : SortSt} {out : List Value} {g0 : Heap} (kp : Kb a kS g0 s.heap) (gk : s.heap.get? kS = some (seqObj "list" ka e)) (ga : s.heap.get? a = some (seqObj "list" #[] e1)) (nka : kS ≠ a)
    (z1 : ka.size ≤ sizeLine) (z2 : out.length ≤ sizeLine) (fl : failedOf st = none) (eo : (if b = true then ((arrOf st).map (·.2)).reverse else (arrOf st).map (·.2)) = out.toArray)
    (q : ∀ h' tk c, Kb a kS g0 h' → h'.get? a = some (seqObj "list" out.toArray c) → P (.done (.ret .none)) { s with heap := h', toks := tk }) :
    wpAny (model prog w) A (ksk_tail a b e1 (.ref kS) st) P E s := by
  have d1 := Heap.SameBut.update s.heap kS (Obj.mapSeq fun _ => (#[] : Array Value))
  have ga1 : (s.heap.update kS (Obj.mapSeq fun _ => (#[] : Array Value))).get? a = some (seqObj "list" #[] e1) :=
    (d1.2 a nka.symm).trans ga
  have d2 := Heap.SameBut.update (s.heap.update kS (Obj.mapSeq fun _ => (#[] : Array Value))) a
    (Obj.mapSeq fun _ => out.toArray)
  obtain ⟨c2, hc⟩ : ∃ c2, ((s.heap.update kS (Obj.mapSeq fun _ => (#[] : Array Value))).update a
      (Obj.mapSeq fun _ => out.toArray)).get? a = some (seqObj "list" out.toArray c2) := ⟨_, get?_update_seq ga1 fun _ => out.toArray⟩
  have z3 : out.toArray.size ≤ sizeLine + 1 := by
    rw [List.size_toArray]; exact Nat.le_succ_of_le z2
  unfold ksk_tail
  try dsimp only
  rw [eo]
  apply wpAny_bind
  refine listUpdate_at gk rfl ?_ z1 (Nat.zero_le _)
  apply wpAny_bind
  refine wpAny_letGo ?_
  apply wpAny_bind
  refine seqEpoch_at ga1 rfl ?_
  apply wpAny_bind
  refine listUpdate_at ga1 rfl ?_ (Nat.zero_le _) z3
  rw [fl]
  simp only [bne_self_eq_false, Bool.false_eq_true, if_false]
  exact wpAny_pure (q _ _ c2 ((kp.same d1 (.inr rfl)).same d2 (.inl rfl)) hc)
theorem jend {κ : PyProof.Rows.KeyKind} {g0 : Heap} (kp : Kb a kS g0 s.heap) (gk : s.heap.get? kS = some (seqObj "list" ka e)) (ga : s.heap.get? a = some (seqObj "list" #[] e1)) (nka : kS ≠ a)
    (S : SortsAt prog w A s κ ka.toList) (zk : ka.size = vs.length) (zv : vs.length ≤ sizeLine)
    (q : ∀ h' tk c, Kb a kS g0 h' → h'.get? a = some (seqObj "list" (sortVals κ b ka.toList vs).toArray c) → P (.done (.ret .none)) { s with heap := h', toks := tk }) :
    wpAny (model prog w) A (ksk_end a b vs.toArray e1 (.ref kS) ka) P E s := by
  obtain ⟨kd, k1, k2⟩ := S.kind
  have el : ka.toList.length = vs.length := by rw [Array.length_toList]; exact zk
  have hK : PyProof.Rows.KeysOf κ (ka.zip vs.toArray) := keysOf_zip S.keys
  have eol : (sortVals κ b ka.toList vs).length = vs.length := sortVals_length b el
  have st0 : (if b = true then (ka.zip vs.toArray).reverse else ka.zip vs.toArray).Perm (ka.zip vs.toArray) := by
    cases b with
    | true => exact Array.perm_iff_toList_perm.mpr (by rw [if_pos rfl, Array.toList_reverse]; exact List.reverse_perm _)
    | false => exact Array.Perm.refl _
  have zs : (if b = true then (ka.zip vs.toArray).reverse else ka.zip vs.toArray).size = vs.length := by
    rw [st0.size_eq, Array.size_zip, zk, List.size_toArray, Nat.min_self]
  have fin : ∀ st' : SortSt, (arrOf st').Perm (if b = true then (ka.zip vs.toArray).reverse else ka.zip vs.toArray) → SortedToK κ (arrOf st') (if b = true then (ka.zip vs.toArray).reverse else ka.zip vs.toArray).size →
      Stable κ (arrOf st') (if b = true then (ka.zip vs.toArray).reverse else ka.zip vs.toArray) → (if b = true then ((arrOf st').map (·.2)).reverse else (arrOf st').map (·.2)) = (sortVals κ b ka.toList vs).toArray := by
    intro st' p1 p2 p3
    have u := congrArg List.toArray (sort_out (rev := b) (keys := ka) (items := vs.toArray) (xs := arrOf st') (κ := κ) hK p1 p2 p3)
    rw [Array.toArray_toList] at u
    exact u
  have step : ∀ t : Sem PySem.Fin, wpAny (model prog w) A t P E s → wpAny (model prog w) A (if b = true then (do let _ ← rule "list.sort.reverse"; t) else t) P E s := fun t ht => by
    split
    · exact wpAny_bind (wpAny_rule ht)
    · exact ht
  unfold ksk_end
  try dsimp only
  apply step
  by_cases n2 : vs.toArray.size < 2
  · rw [if_pos n2, if_pos n2]
    apply wpAny_bind
    refine wpAny_pure ?_
    rw [StateT.run_pure]
    apply wpAny_bind
    refine wpAny_pure ?_
    try dsimp only
    refine jtail kp gk ga nka (by rw [zk]; exact zv) (by rw [eol]; exact zv) rfl (fin (SortSt.mk' general' (if b = true then (ka.zip vs.toArray).reverse else ka.zip vs.toArray) #[] 7 none) (Array.Perm.refl _) ?_ (Stable.refl _)) q
    intro i j hij hj
    have hj' : j < (if b = true then (ka.zip vs.toArray).reverse else ka.zip vs.toArray).size := hj
    rw [zs] at hj'
    rw [List.size_toArray] at n2
    obtain rfl : i = j := by omega
    exact KeyOrd.kle_refl _
  · rw [if_neg n2, if_neg n2]
    rw [List.size_toArray] at n2
    apply wpAny_bind
    refine k2 (by omega) _ ?_
    apply wpAny_bind
    refine wpAny_mono (H.wpS_sortRunsSt (κ := κ) (kd := kd) (a₀ := if b = true then (ka.zip vs.toArray).reverse else ka.zip vs.toArray)
      (st := SortSt.mk' kd (if b = true then (ka.zip vs.toArray).reverse else ka.zip vs.toArray) #[] 7 none)
      (Q := fun _ st' => failedOf st' = none ∧ (if b = true then ((arrOf st').map (·.2)).reverse else (arrOf st').map (·.2)) = (sortVals κ b ka.toList vs).toArray)
      k1 (hK.perm st0) ⟨Array.Perm.refl _, rfl, rfl⟩ rfl (Stable.refl _) (by rw [zs]; omega) fun st' a1 a2 a3 a4 => ⟨a2, fin st' a1 a3 a4⟩) ?_ fun _ _ e => e
    rintro ⟨⟨⟩, st'⟩ s' ⟨rfl, hf, ho⟩
    try dsimp only at ho ⊢
    exact jtail kp gk ga nka (by rw [zk]; exact zv) (by rw [eol]; exact zv) hf ho q
/-- the keys one by one -/
theorem jrest {f : Value} {J : List Value → Shared → Prop} (j0 : J [] s) (gk : s.heap.get? kS = some (seqObj "list" #[] 0)) (ga : s.heap.get? a = some (seqObj "list" #[] e1)) (nka : kS ≠ a)
    (zk : kz.length = vs.length) (zv : vs.length ≤ sizeLine) (hal : AllAlike kz) (hsk : Sortable kz) (hu : ∀ d, d ∈ kz → A.units + d.depth < cLine)
    (wr : ∀ ks s' g, J ks s' → Heap.SameBut kS s'.heap g → (∃ o, g.get? kS = some o) → J ks { s' with heap := g }) (rd : ∀ ks s', J ks s' → ks.length = vs.length → EachIs (fun v k => ∃ as, Reads s'.heap v k as) ks kz)
    (turn : ∀ (i : Nat) (v : Value), vs[i]? = some v → ∀ ks s', ks.length = i → J ks s' →
      wpAny (model prog w) A (call f [v]) (fun u s'' => J (ks ++ [u]) s'' ∧ ∀ c o, c = kS ∨ c = a → s'.heap.get? c = some o → s''.heap.get? c = some o) (fun _ _ => False) s')
    (q : ∀ ks s' h' tk out c, J ks s' → ks.length = vs.length → Kb a kS s'.heap h' → h'.get? a = some (seqObj "list" (List.toArray out) c) → KeyedOut b kz vs out → P (.done (.ret .none)) { s' with heap := h', toks := tk }) :
    wpAny (model prog w) A (ksk_rest a f b vs.toArray e1 (.ref kS)) P E s := by
  unfold ksk_rest
  apply wpAny_bind
  refine wpAny_rule ?_
  first
    | rw [List.forIn_toArray]
    | (rw [← Array.forIn_toList]; simp only [List.toList_toArray])
    | rw [← Array.forIn_toList]
  apply wpAny_bind
  refine ksk_fold (fun i s' => ∃ (ka : Array Value) (e : Nat), J ka.toList s' ∧ ka.toList.length = i ∧ s'.heap.get? kS = some (seqObj "list" ka e) ∧ s'.heap.get? a = some (seqObj "list" #[] e1)) vs 0 s ⟨#[], 0, j0, rfl, gk, ga⟩ ?step ?done
  case step =>
    rintro j x s' hx ⟨ka, e, hJ, hl, gk', ga'⟩
    simp only [Nat.zero_add] at hl ⊢
    have hj : j < vs.length := (List.getElem?_eq_some_iff.mp hx).1
    have hz : ka.size ≤ vs.length := by
      rw [Array.length_toList] at hl
      omega
    apply wpAny_bind
    refine wpAny_attempt (wpAny_mono (turn j x hx ka.toList s' hl hJ) (fun v s'' he => ?_) fun _ _ z => z.elim)
    obtain ⟨J2, kp⟩ := he
    try dsimp only
    have gk2 := kp _ _ (.inl rfl) gk'
    have ga2 := kp _ _ (.inr rfl) ga'
    have d1 := Heap.SameBut.update s''.heap kS (Obj.mapSeq (·.push v))
    obtain ⟨c2, hc2⟩ : ∃ c2, (s''.heap.update kS (Obj.mapSeq (·.push v))).get? kS = some (seqObj "list" (ka.push v) c2) :=
      ⟨_, get?_update_seq gk2 (·.push v)⟩
    apply wpAny_bind
    refine listUpdate_at gk2 rfl ?_ (Nat.le_trans hz zv) (by rw [Array.size_push]; exact Nat.succ_le_succ (Nat.le_trans hz zv))
    refine wpAny_pure ⟨rfl, ka.push v, c2, ?_, ?_, hc2, (d1.2 a nka.symm).trans ga2⟩
    · rw [Array.toList_push]
      exact wr _ _ _ J2 d1 ⟨_, hc2⟩
    · rw [Array.toList_push, List.length_append, hl]
      rfl
  case done =>
    rintro s' ⟨ka, e, hJ, hl, gk', ga'⟩
    rw [Nat.zero_add] at hl
    have hk := rd _ _ hJ hl
    have hs : ka.size = vs.length := by
      rw [Array.length_toList] at hl
      exact hl
    try dsimp only
    apply wpAny_bind
    refine listItems_at gk' rfl ?_
    exact jend (κ := dataKind s'.heap kz) (g0 := s'.heap) (fun _ _ _ _ z => z) gk' ga' nka (SortsAt.data (s := s') hk hal hsk hu) hs zv fun h3 tk3 c k3 n3 => q _ _ h3 tk3 _ c hJ hl k3 n3 ⟨s'.heap, ka.toList, hal, rfl, hk⟩
theorem jtree {f : Value} {n : Nat} {J : Addr → List Value → Shared → Prop} (ho : s.heap.get? a = some (seqObj "list" vs.toArray n)) (zk : kz.length = vs.length) (zv : vs.length ≤ sizeLine) (hal : AllAlike kz) (hsk : Sortable kz) (hu : ∀ d, d ∈ kz → A.units + d.depth < cLine)
    (j0 : ∀ kS h, s.heap.objs.size ≤ kS → kS ≠ a → h.get? kS = some (seqObj "list" #[] 0) → (∃ o, h.get? a = some o) → KeepsBut a s.heap h → J kS [] { s with heap := h })
    (wr : ∀ kS ks s' g, J kS ks s' → Heap.SameBut kS s'.heap g → (∃ o, g.get? kS = some o) → J kS ks { s' with heap := g }) (rd : ∀ kS ks s', J kS ks s' → ks.length = vs.length → EachIs (fun v k => ∃ as, Reads s'.heap v k as) ks kz)
    (turn : ∀ kS (i : Nat) (v : Value), vs[i]? = some v → ∀ ks s', ks.length = i → J kS ks s' →
      wpAny (model prog w) A (call f [v]) (fun u s'' => J kS (ks ++ [u]) s'' ∧ ∀ c o, c = kS ∨ c = a → s'.heap.get? c = some o → s''.heap.get? c = some o) (fun _ _ => False) s')
    (q : ∀ kS ks s' h' tk out c, J kS ks s' → ks.length = vs.length → Kb a kS s'.heap h' → h'.get? a = some (seqObj "list" (List.toArray out) c) → KeyedOut b kz vs out → P (.done (.ret .none)) { s' with heap := h', toks := tk }) :
    wpAny (model prog w) A (ksk_tree a f b) P E s := by
  have la : a < s.heap.objs.size := Heap.lt_size ho
  obtain ⟨e1, ho1⟩ : ∃ e1, (s.heap.update a (Obj.mapSeq fun _ => (#[] : Array Value))).get? a = some (seqObj "list" #[] e1) :=
    ⟨_, get?_update_seq ho fun _ => #[]⟩
  have ek : ((s.heap.update a (Obj.mapSeq fun _ => (#[] : Array Value))).push (seqObj "tuple" vs.toArray 0)).objs.size = s.heap.objs.size + 1 := by
    rw [size_push', Heap.size_update]
  unfold ksk_tree
  apply wpAny_bind
  refine listItems_at ho rfl ?_
  apply wpAny_bind
  refine listUpdate_at ho rfl ?_ zv (Nat.zero_le _)
  apply wpAny_bind
  refine seqEpoch_at ho1 rfl ?_
  apply wpAny_bind
  refine wpAny_newTuple ?_ (by show vs.length ≤ _; exact zv)
  apply wpAny_bind
  refine wpAny_newList ?_ (Nat.zero_le _)
  refine wpAny_holding ?_
  have nk : s.heap.objs.size ≤ ((s.heap.update a (Obj.mapSeq fun _ => (#[] : Array Value))).push (seqObj "tuple" vs.toArray 0)).objs.size := by
    rw [ek]; exact Nat.le_succ _
  have nka : ((s.heap.update a (Obj.mapSeq fun _ => (#[] : Array Value))).push (seqObj "tuple" vs.toArray 0)).objs.size ≠ a := by
    rw [ek]; exact Nat.ne_of_gt (Nat.lt_succ_of_lt la)
  have gk : (((s.heap.update a (Obj.mapSeq fun _ => (#[] : Array Value))).push (seqObj "tuple" vs.toArray 0)).push (seqObj "list" #[] 0)).get? ((s.heap.update a (Obj.mapSeq fun _ => (#[] : Array Value))).push (seqObj "tuple" vs.toArray 0)).objs.size = some (seqObj "list" #[] 0) :=
    Heap.get?_push_size _ rfl
  exact jrest (kz := kz) (J := J _) (s := { s with heap := ((s.heap.update a (Obj.mapSeq fun _ => (#[] : Array Value))).push (seqObj "tuple" vs.toArray 0)).push (seqObj "list" #[] 0) })
    (j0 _ _ nk nka gk ⟨_, Heap.get?_push_of_some _ (Heap.get?_push_of_some _ ho1)⟩ fun c o hc z => sortingHeap_old hc z) gk (Heap.get?_push_of_some _ (Heap.get?_push_of_some _ ho1)) nka zk zv hal hsk hu (wr _) (rd _) (turn _) (q _)
variable {β : Type} {bs : List β} {R : Value → β → Prop}
theorem jsorted {l : Addr} {f : Value} {kw : List (Str × Value)} {Q : Value → Shared → Prop} {J : Addr → Addr → List Value → Shared → Prop} (k : β → PyData) (hl : IsTup s.heap l vs.toArray) (zb : bs.length = vs.length) (hal : AllAlike (bs.map k)) (hk : Sortable (bs.map k)) (zv : vs.length ≤ sizeLine)
    (hu : ∀ x, x ∈ bs → A.units + 2 + (k x).depth < cLine) (ha1 : argsOk "sorted" ⟨[.ref l], kw⟩) (ha2 : ∀ x, argsOk "list.sort" ⟨[.ref x], kw⟩) (ht : ∀ x, Builtin.«list.sort» ⟨[.ref x], kw⟩ = ksk_tree x f b)
    (j0 : ∀ a kS h, s.heap.objs.size ≤ a → s.heap.objs.size ≤ kS → kS ≠ a → (∃ o, h.get? kS = some o) → (∃ o, h.get? a = some o) → (∀ c o, s.heap.get? c = some o → h.get? c = some o) → J a kS [] { s with heap := h })
    (wr : ∀ a kS ks s' g, J a kS ks s' → Heap.SameBut kS s'.heap g → (∃ o, g.get? kS = some o) → J a kS ks { s' with heap := g }) (rd : ∀ a kS ks s', J a kS ks s' → ks.length = vs.length → EachIs (fun v k => ∃ as, Reads s'.heap v k as) ks (bs.map k))
    (turn : ∀ a kS (i : Nat) (v : Value), vs[i]? = some v → ∀ ks s', ks.length = i → J a kS ks s' →
      wpAny (model prog w) A.in1.in1 (call f [v]) (fun u s'' => J a kS (ks ++ [u]) s'' ∧ ∀ c o, c = kS ∨ c = a → s'.heap.get? c = some o → s''.heap.get? c = some o) (fun _ _ => False) s')
    (q : ∀ a kS ks s' h' tk out c, s.heap.objs.size ≤ a → J a kS ks s' → ks.length = vs.length → Kb a kS s'.heap h' → h'.get? a = some (seqObj "list" (List.toArray out) c) → KeyedOut b (bs.map k) vs out → Q (.ref a) { s' with heap := h', toks := tk }) :
    wpAny (model prog w) A (call (.builtin "sorted") [.ref l] kw) Q E s := by
  have zc : s.heap.objs.size ≤ (copyHeap s.heap vs).objs.size := Nat.le_of_lt (Nat.lt_of_lt_of_le (Nat.lt_succ_self _) (Nat.le_of_lt (Heap.lt_size (copyHeap_at s.heap vs))))
  refine call_function_entry_kw kind_sorted plain_sorted entry_sorted ha1 ?_
  unfold Builtin.«sorted»
  apply wpAny_bind (m := checkCount "sorted" 1 1 _)
  refine wpAny_pure ?_
  apply wpAny_bind
  refine collect_tup hl ?_ zv
  apply wpAny_bind
  refine wpAny_newList ?_ zv
  have hsz : ((s.heap.push (seqObj "list" #[] 0)).update s.heap.objs.size (Obj.mapSeq (· ++ vs.toArray))).objs.size = s.heap.objs.size + 1 := by
    rw [Heap.size_update, size_push']
  show wpAny _ _ _ _ _ { s with heap := copyHeap s.heap vs }
  rw [hsz]
  apply wpAny_bind
  refine wpAny_holding (wpAny_call_entry_kw slot_list_sort ⟨_, copyHeap_at s.heap vs, rfl⟩ entry_list_sort ?body (ha2 _))
  case body =>
    show wpAny (model prog w) A.in1.in1 (Builtin.«list.sort» ⟨[.ref (s.heap.objs.size + 1)], kw⟩) _ _ _
    rw [ht]
    refine jtree (kz := bs.map k) (J := J (s.heap.objs.size + 1)) (s := { s with heap := copyHeap s.heap vs }) (copyHeap_at s.heap vs) (by rw [List.length_map]; exact zb) zv hal hk ?_
      (fun kS h z1 z2 z3 z5 z4 => j0 _ kS h (Nat.le_succ _) (Nat.le_trans zc z1) z2 ⟨_, z3⟩ z5 fun c o hc => z4 c o (Nat.ne_of_lt (Nat.lt_succ_of_lt (Heap.lt_size hc))) (copyHeap_old hc)) (wr _) (rd _) (turn _) fun kS ks s' h' tk out c z1 z2 z3 z4 z5 => ?_
    · intro d hd
      obtain ⟨x, hx, rfl⟩ := List.mem_map.mp hd
      exact hu x hx
    · refine ⟨_, rfl, wpAny_pure ⟨_, rfl, ?_⟩⟩
      exact q _ kS ks s' h' tk out c (Nat.le_succ _) z1 z2 z3 z4 z5
end
end SortT
namespace Rp
open PySem PySem.Spec PyProof.Rows L2
theorem each_pair {β : Type} {R : V → β → Prop} {S : Value → β → Prop} (h : ∀ u x, S u x → ∃ v, RelV v u ∧ R v x) : ∀ {us : List Value} {bs : List β}, PySem.W.EachIs S us bs → ∃ ys, Vals ys us ∧ Paired R ys bs
  | _, _, .nil => ⟨[], .nil, .nil⟩
  | _, _, .cons r t => by
    obtain ⟨v, rv, hv⟩ := h _ _ r
    obtain ⟨ys, r2, p2⟩ := each_pair h t
    exact ⟨v :: ys, .cons rv r2, .cons hv p2⟩
theorem pair_each {β : Type} {R : V → β → Prop} {S : Value → β → Prop} (h : ∀ v u x, RelV v u → R v x → S u x) : ∀ {ys : List V} {us : List Value} {bs : List β}, Vals ys us → Paired R ys bs → PySem.W.EachIs S us bs
  | _, _, _, .nil, .nil => .nil
  | _, _, _, .cons r t, .cons p q => .cons (h _ _ _ r p) (pair_each h t q)
theorem dq_each {K : PySem.W.Frag} {X : Cx} {pins : List (Addr × Obj)} {σ : L2.St} {H : Hp} {s : Shared} (I : Inv X pins σ H s) : ∀ {ys : List V} {ds : List PyData} {us : List Value}, DqAll X.K H ys ds → Vals ys us → PySem.W.EachIs (fun v k => ∃ as, Reads s.heap v k as) us ds
  | _, _, _, .nil, .nil => .nil
  | _, _, _, .cons d t, .cons r q => .cons (let ⟨as, z, _⟩ := Dq.reads I d _ r; ⟨as, z⟩) (dq_each (K := K) I t q)
theorem vals_snoc {ys : List V} {us : List Value} {v : V} {u : Value} (h : Vals ys us) (r : RelV v u) : Vals (ys ++ [v]) (us ++ [u]) := by
  induction h with
  | nil => exact .cons r .nil
  | cons a _ ih => exact .cons a ih
theorem vals_at {xs : List V} {us : List Value} (h : Vals xs us) : ∀ {i : Nat} {u : Value}, us[i]? = some u → ∃ x, xs[i]? = some x ∧ RelV x u := by
  induction h with
  | nil => intro i u e; cases e
  | cons r _ ih =>
    intro i u e
    cases i with
    | zero => cases e; exact ⟨_, rfl, r⟩
    | succ i => exact ih e
theorem dqa_snoc {K : PySem.W.Frag} {H : Hp} {v : V} {d : PyData} (r : Dq K H v d) : ∀ {ys : List V} {ds : List PyData}, DqAll K H ys ds → DqAll K H (ys ++ [v]) (ds ++ [d])
  | _, _, .nil => .cons r .nil
  | _, _, .cons a t => .cons a (dqa_snoc r t)
theorem dqa_ex {K : PySem.W.Frag} {H H' : Hp} (e : Ex H H') : ∀ {vs : List V} {ds : List PyData}, DqAll K H vs ds → DqAll K H' vs ds
  | _, _, .nil => .nil
  | _, _, .cons h t => .cons (h.ex e) (dqa_ex e t)
/-- the key of each item, by a def of one's own -/
def rSortK {β : Type} (P : Program) (w : World) (K : PySem.W.Frag) (mg : Str → Option Value) (base : Heap) (j : Nat) (k : β → PyData) : List V → List V → Hp → VK → Prop := fun vs zs H Q => ∃ (a f : Addr) (fd : FuncData) (p : Str) (sp : Sp) (xs : List V) (bs : List β) (rel : V → β → Prop), vs = [V.ref a] ∧ zs = [V.ref f] ∧ H a = some (.tup xs) ∧
  FnOk P w K mg base CX0 j f fd [p] sp ∧ Binds K fd [p] [] ∧ Paired rel xs bs ∧ (∀ x b H', x ∈ xs → rel x b → Ex H H' → ∀ Q' : VK, (∀ v H'', Ex H' H'' → Dq K H'' v (k b) → Q' v H'') → sp [x] H' Q' E0) ∧
  ∀ ys q H2, Paired rel ys (bs.mergeSort (PySem.W.dataLe false k)) → H q = none → Ex H H2 → H2 q = some (.lst ys) → Q (.ref q) H2
section
variable {P : Program} {w : World} {K : PySem.W.Frag} {mg : Str → Option Value} {base : Heap} {k j : Nat} {N Vz Sz G : List Str} {sc : Scope} {X : Cx} {σ : L2.St} {H : Hp} {Q : VK} {e : Expr} {es : List Expr} {kws : List Keyword} {p pos : Pos} {β : Type} {kk : β → PyData}
/-- the state as the turns go: a, kS the sort's own lists, ys the keys so far -/
def JK (X : Cx) (pins : List (Addr × Obj)) (σ : L2.St) (H : Hp) (s : Shared) (ds : List PyData) : Addr → Addr → List Value → Shared → Prop := fun a kS ks s' => s.heap.objs.size ≤ a ∧ s.heap.objs.size ≤ kS ∧ kS ≠ a ∧ (∃ o, s'.heap.get? kS = some o) ∧ (∃ o, s'.heap.get? a = some o) ∧
  ∃ H' ys, Inv X pins σ H' s' ∧ Ex H H' ∧ H' a = none ∧ H' kS = none ∧ Vals ys ks ∧ DqAll X.K H' ys (ds.take ks.length)
theorem cr_sortK (C : CxI P w K mg base k N Vz Sz G sc X) (hj : j + 2 ≤ k) (hal : ∀ bs : List β, PySem.W.AllAlike (bs.map kk)) (hsk : ∀ bs : List β, PySem.W.Sortable (bs.map kk)) (hd : ∀ x, (kk x).depth ≤ 8) : CallRK X (.builtin "sorted") [Str.ofString "key"] (rSortK P w K mg base j kk) := by
  obtain ⟨rfl, rfl, rfl, rfl, rfl, _, _, hr, _, _, _, _, _⟩ := C
  rintro pins s σ H vs zs us ws Q I r1 r2 ⟨a, f, fd, p, sp, xs, bs, rel, rfl, rfl, ha, Fk, hb, pr, hsp, q⟩
  obtain ⟨u, rfl, ru⟩ := vals1 r1
  obtain ⟨u2, rfl, ru2⟩ := vals1 r2
  obtain rfl : u = Value.ref a := ru
  obtain rfl : u2 = Value.ref f := ru2
  obtain ⟨its, rv, hl, hz⟩ := I.tuple (SqT.of ha)
  have hlen : its.length = xs.length := rv.length.symm
  have hlb : bs.length = its.length := by rw [hlen]; exact (Paired.length pr).symm
  have hu : X.A.units + 64 < cLine := by have := hr.un; omega
  have hr2 : Room j X.A.in1.in1 := (hr.mono (show j + 1 + 1 ≤ k from hj)).in1.in1
  show wpAny (model X.prog X.w) X.A (call (.builtin "sorted") [.ref a] [(Str.ofString "key", .ref f)]) _ _ s
  refine SortT.jsorted (b := false) (vs := its) (bs := bs) (J := JK X pins σ H s (bs.map kk)) kk hl hlb (hal bs) (hsk bs) (by rw [hlen]; exact hz) (fun x _ => by have := hd x; omega) (ksk_s1 _ _) (fun _ => ksk_l1 _ _) (fun _ => ksk_t1 _ _) ?_ ?_ ?_ ?_ ?_
  · intro a' kS h z1 z2 z3 z4 z5 z6
    exact ⟨z1, z2, z3, z4, z5, H, [], I.kept (t' := s.toks) z6, Ex.refl H, I.hok.fresh z1, I.hok.fresh z2, .nil, .nil⟩
  · rintro a' kS ks s' g ⟨z1, z2, z3, z4, z5, H', ys, I', e', n1, n2, rv', dq'⟩ sb gk
    have I2 : Inv X pins σ H' { s' with heap := g } := Inv.turnedL (t' := s'.toks) (ch := [kS]) I' (fun b o nb ho => (sb.2 b (fun z => nb (by rw [z]; exact List.mem_singleton.mpr rfl))).trans ho) fun b hb => by
      rw [List.mem_singleton.mp hb]
      exact I.fpOk z2 n2
    exact ⟨z1, z2, z3, gk, let ⟨o, ho⟩ := z5; ⟨o, (sb.2 a' z3.symm).trans ho⟩, H', ys, I2, e', n1, n2, rv', dq'⟩
  · rintro a' kS ks s' ⟨z1, z2, z3, z4, z5, H', ys, I', e', n1, n2, rv', dq'⟩ hks
    rw [hks, ← hlb, ← List.length_map (f := kk), List.take_length] at dq'
    exact dq_each (K := X.K) I' dq' rv'
  · rintro a' kS i v hv ks s' hi ⟨z1, z2, z3, ⟨o4, z4⟩, ⟨o5, z5⟩, H', ys, I', e', n1, n2, rv', dq'⟩
    subst hi
    obtain ⟨x, hx, rx⟩ := vals_at rv hv
    obtain ⟨b, hbx, rxb⟩ := Paired.atR pr hx
    have fs : ∀ c, s.heap.objs.size ≤ c → c ∉ frs X.stack := fun c hc hm => by
      have z := I.stkSub c hm
      rcases List.mem_cons.mp z with z | z
      · exact Nat.ne_of_gt (Nat.lt_of_lt_of_le I.lt hc) z
      · exact I.nofs hc z
    refine wpAny_call (codeAny_mono (Fk.run X.A.in1.in1 X.stack s' H' ⟨[v], []⟩ [v] [x] (fun u H'' => Ex H' H'' ∧ Dq X.K H'' u (kk b)) E0 hr2 I'.env0.in1.in1 (by
      have z := hb s' [v] I'.kIn rfl
      simpa using z) (.cons rx .nil) (hsp x b H' (List.mem_of_getElem? hx) rxb e' _ fun u H'' ex dq => ⟨ex, dq⟩)) fun r s'' hq => ?_)
    cases r with
    | error er => exact False.elim hq
    | ok fl =>
      cases fl with
      | next => exact False.elim hq
      | brk => exact False.elim hq
      | cont => exact False.elim hq
      | ret u =>
        have hq' : CE X.stack X.prog X.w H' s' (fun u H'' => Ex H' H'' ∧ Dq X.K H'' u (kk b)) u s'' := hq
        obtain ⟨v0, H0, os, bare, un, hok, r0, q0⟩ := id hq'
        have k1 : ∀ c o, c = kS ∨ c = a' → s'.heap.get? c = some o → s''.heap.get? c = some o := fun c o hc ho => by
          rcases hc with rfl | rfl
          · exact un.keep _ o ho n2 (fs _ z2) (fun z => nomatch z)
          · exact un.keep _ o ho n1 (fs _ z1) (fun z => nomatch z)
        have f1 : H0 a' = none := un.free a' o5 z5 n1 (fun z => nomatch z)
        have f2 : H0 kS = none := un.free kS o4 z4 n2 (fun z => nomatch z)
        have I0 : Inv X pins σ H0 s'' := by
          obtain ⟨hh, g, d, t, os'⟩ := s''
          obtain rfl : os' = s'.os := os
          exact I'.call (h' := hh) (g' := g) (d' := d) (t' := t) (ch := []) un hok bare (fun b z => absurd z (by simp))
        refine ⟨⟨z1, z2, z3, ⟨o4, k1 _ _ (.inl rfl) z4⟩, ⟨o5, k1 _ _ (.inr rfl) z5⟩, H0, ys ++ [v0], I0, e'.trans q0.1, f1, f2, vals_snoc rv' r0, ?_⟩, k1⟩
        rw [List.length_append, List.length_singleton, List.take_add_one, List.getElem?_map, hbx]
        exact dqa_snoc q0.2 (dqa_ex q0.1 dq')
  · rintro a' kS ks s' h' tk out c za ⟨z1, z2, z3, z4, z5, H', ys, I', e', n1, n2, rv', dq'⟩ hks kb hg ko
    have ez : PySem.W.EachIs (fun u x => ∃ v, RelV v u ∧ rel v x) its bs := pair_each (fun v u x r p => ⟨v, r, p⟩) rv pr
    obtain ⟨ws, rw', pw⟩ := each_pair (R := rel) (fun u x h => h) (PySem.W.keyedOut_each kk ko ez)
    have hol : out.length ≤ sizeLine := by rw [ko.length (by rw [List.length_map]; exact hlb), hlen]; exact hz
    have I2 : Inv X pins σ H' { s' with heap := h', toks := tk } := Inv.turnedL (t' := tk) (ch := [a', kS]) I' (fun b o nb ho => kb b o (fun z => nb (by rw [z]; exact List.mem_cons_self)) (fun z => nb (by rw [z]; exact List.mem_cons_of_mem _ List.mem_cons_self)) ho) fun b hb => by
      rcases List.mem_cons.mp hb with z | z
      · rw [z]; exact I.fpOk z1 n1
      · rw [List.mem_singleton.mp z]; exact I.fpOk z2 n2
    have I3 := Inv.take (t' := tk) (h' := h') (o := .lst ws) I2 (fun _ _ _ z => z) (I.fpOk z1 n1) ⟨by rw [rw'.length]; exact hol, out, c, rw', hg⟩
    exact ⟨.ref a', upd H' a' (.lst ws), I3, rfl, q ws a' _ pw (I.hok.fresh z1) (e'.trans (Ex.upd n1)) upd_same⟩
/-- sorted(t, key=f) -/
theorem wE_sortK (C : CxI P w K mg base k N Vz Sz G sc X) (hj : j + 2 ≤ k) (hal : ∀ bs : List β, PySem.W.AllAlike (bs.map kk)) (hsk : ∀ bs : List β, PySem.W.Sortable (bs.map kk)) (hd : ∀ x, (kk x).depth ≤ 8) (hm : mg "sorted" = none) (hx : ("sorted" : Str) ∈ G)
    (he : backTo pos (starEach (e :: es) X.env) = (false, eval e X.env) :: backTo pos (starEach es X.env)) (hpl : (backTo pos (starEach (e :: es) X.env)).any (·.1) = false)
    (hall : (backToKw pos (keywordEach kws X.env)).all (·.1.isSome) = true) (hnone : (backToKw pos (keywordEach kws X.env)).any (·.1.isNone) = false) (hks : (backToKw pos (keywordEach kws X.env)).filterMap (·.1) = [Str.ofString "key"])
    (q : wA X (e :: es) σ H fun vs H1 => wK X kws σ H1 fun zs H2 => rSortK P w K mg base j kk vs zs H2 Q) : wE X (.Call (.Name "sorted" p) (e :: es) kws pos) σ H Q := by
  obtain ⟨l, d1, d2⟩ := C.glo hx
  exact wE.of (pe_callBK (cr_sortK C hj hal hsk hd) l (by rw [C.em]; exact hm) (by decide +kernel) wA.pa wK.pk d2 d1 he hpl hall hnone hks) q
end
end Rp
namespace Rp
open PySem PySem.Spec PyProof.Rows L2
/-! ### zip of three: a list, a tuple, a list; or three lists -/
/-- b: the second one is a tuple -/
def SqB (K : PySem.W.Frag) (b : Bool) (H : Hp) (a : Addr) (xs : List V) : Prop := if b = true then SqT K H a xs else SqL K H a xs
def Itz3 (K : PySem.W.Frag) (a b c : Addr) (k : Bool) : It :=
  ⟨fun i H => ∃ (xs ys us : List V) (x y u : V), SqL K H a xs ∧ SqB K k H b ys ∧ SqL K H c us ∧ xs[i]? = some x ∧ ys[i]? = some y ∧ us[i]? = some u,
    fun i H v H' => ∃ T x y u, v = .ref T ∧ H T = none ∧ H' = upd H T (.tup [x, y, u]) ∧ (∀ xs, SqL K H a xs → xs[i]? = some x) ∧ (∀ ys, SqB K k H b ys → ys[i]? = some y) ∧ ∀ us, SqL K H c us → us[i]? = some u,
    fun i H => ∃ xs ys us : List V, SqL K H a xs ∧ SqB K k H b ys ∧ SqL K H c us ∧ xs.length = i ∧ ys.length = i ∧ us.length = i⟩
def ItrB (k : Bool) (h : Heap) (it l : Addr) (i : Nat) : Prop := if k = true then h.IsTupleIter it l i else h.IsListIter it l i
def St3 (z TI TO i1 i2 i3 a b c : Addr) (k : Bool) (i : Nat) (h : Heap) : Prop := IsZip h z TI TO .none ∧ IsTupOf3 h TI (.ref i1) (.ref i2) (.ref i3) ∧ (∃ a1 a2 a3, IsTupOf3 h TO a1 a2 a3) ∧ h.IsListIter i1 a i ∧ ItrB k h i2 b i ∧ h.IsListIter i3 c i
def IsB2 (k : Bool) (h : Heap) (l : Addr) (its : Array Value) : Prop := if k = true then h.IsTuple l its else h.IsList l its
def drawsB {prog : Program} {w : World} {A : Around} (hh : A.handled = none) (k : Bool) (it l : Addr) (hne : l ≠ it) (items : Array Value) : Draws prog w A it [it, l] items.size (fun i v => items[i]? = some v) (fun i h => ItrB k h it l i ∧ IsB2 k h l items) := by
  cases k
  · exact Draws.list hh it l hne items
  · exact Draws.tuple hh it l hne items
section
variable {X : Cx} {pins : List (Addr × Obj)} {σ : L2.St} {H : Hp} {s : Shared}
theorem seqB_raw {k : Bool} {b : Addr} {ys : List V} (I : Inv X pins σ H s) (h : SqB X.K k H b ys) : ∃ its : List Value, Vals ys its ∧ IsB2 k s.heap b its.toArray := by
  cases k with
  | true =>
    obtain ⟨its, r, p, _⟩ := I.tuple (show SqT X.K H b ys from h)
    exact ⟨its, r, p⟩
  | false =>
    obtain ⟨its, r, p, _⟩ := I.list (show SqL X.K H b ys from h)
    exact ⟨its, r, p.isList⟩
theorem isB2_lt {k : Bool} {h : Heap} {b : Addr} {its : Array Value} (p : IsB2 k h b its) : b < h.objs.size := by
  cases k with
  | true => obtain ⟨o, ho, _⟩ := (show h.IsTuple b its from p); exact Heap.lt_size ho
  | false => obtain ⟨o, ho, _⟩ := (show h.IsList b its from p); exact Heap.lt_size ho
theorem itrB_obj {k : Bool} {h : Heap} {it l : Addr} {i : Nat} (p : ItrB k h it l i) : ∃ o, h.get? it = some o ∧ ∀ v, o.data ≠ .cell v := by
  cases k with
  | true => obtain ⟨o, e, _, d⟩ := (show h.IsTupleIter it l i from p); exact ⟨o, e, fun v q => by rw [d] at q; cases q⟩
  | false => obtain ⟨o, e, _, d⟩ := (show h.IsListIter it l i from p); exact ⟨o, e, fun v q => by rw [d] at q; cases q⟩
theorem itrB_at {k : Bool} {h h' : Heap} {it l : Addr} {i : Nat} (p : ItrB k h it l i) (q : ∀ o, h.get? it = some o → h'.get? it = some o) : ItrB k h' it l i := by
  cases k with
  | true => exact (show h.IsTupleIter it l i from p).at q
  | false => exact (show h.IsListIter it l i from p).at q
theorem sqB_inj {k : Bool} {b : Addr} {xs ys : List V} (I : Inv X pins σ H s) (h : SqB X.K k H b xs) (h2 : SqB X.K k H b ys) : xs = ys := by
  cases k with
  | true => exact I.tuple_inj (show SqT X.K H b xs from h) (show SqT X.K H b ys from h2)
  | false => exact I.list_inj (show SqL X.K H b xs from h) (show SqL X.K H b ys from h2)
end
theorem turn_zip3 {P : Program} {w : World} {K : PySem.W.Frag} {elts : List Expr} {kk : Nat} {tpos : Pos} {z TI TO i1 i2 i3 a b c : Addr} {k : Bool} (D : ZipSep3 z TI TO i1 i2 i3 [i1, a] [i2, b] [i3, c]) (n1 : a ≠ i1) (n2 : b ≠ i2) (n3 : c ≠ i3) :
    Turn P w K (.Tuple elts kk tpos) (Itz3 K a b c k) [z, TI, TO, i1, i2, i3] z (St3 z TI TO i1 i2 i3 a b c k) where
  mem := by simp
  obj := fun i h st d hd => by
    obtain ⟨hz, hTI, ⟨x, y, u, hTO⟩, h1, h2, h3⟩ := st
    have e' : d = z ∨ d = TI ∨ d = TO ∨ d = i1 ∨ d = i2 ∨ d = i3 := by simpa using hd
    rcases e' with q | q | q | q | q | q
    · rw [q]; exact ⟨_, hz, fun v q => nomatch q⟩
    · rw [q]; exact ⟨_, hTI, fun v q => nomatch q⟩
    · rw [q]; exact ⟨_, hTO, fun v q => nomatch q⟩
    · rw [q]; obtain ⟨o, e, _, d⟩ := h1; exact ⟨o, e, fun v q => by rw [d] at q; cases q⟩
    · rw [q]; exact itrB_obj h2
    · rw [q]; obtain ⟨o, e, _, d⟩ := h3; exact ⟨o, e, fun v q => by rw [d] at q; cases q⟩
  keep := fun i h h' st kp => by
    obtain ⟨hz, hTI, ⟨x, y, u, hTO⟩, h1, h2, h3⟩ := st
    exact ⟨kp z (by simp) _ hz, kp TI (by simp) _ hTI, ⟨x, y, u, kp TO (by simp) _ hTO⟩, h1.at fun o q => kp i1 (by simp) o q, itrB_at h2 fun o q => kp i2 (by simp) o q, h3.at fun o q => kp i3 (by simp) o q⟩
  item := by
    intro X hP hw hK hc i pins s σ H E I hf st hg
    subst hP hw hK
    obtain ⟨xs, ys, us, x, y, u, hqx, hqy, hqu, hx, hy, hu⟩ := hg
    obtain ⟨its, rv, p, _⟩ := I.list hqx
    obtain ⟨its2, rv2, p2⟩ := seqB_raw I hqy
    obtain ⟨its3, rv3, p3, _⟩ := I.list hqu
    have l1 : i < its.toArray.size := by have := (List.getElem?_eq_some_iff.mp hx).1; have := rv.length; simp only [List.size_toArray]; omega
    have l2 : i < its2.toArray.size := by have := (List.getElem?_eq_some_iff.mp hy).1; have := rv2.length; simp only [List.size_toArray]; omega
    have l3 : i < its3.toArray.size := by have := (List.getElem?_eq_some_iff.mp hu).1; have := rv3.length; simp only [List.size_toArray]; omega
    have hh : X.A.in1.handled = none := I.ok.hd hc
    have G := GoesN.zip3 (elts := elts) (x1 := kk) (pos := tpos) (w := X.w) (prog := X.prog) D (Draws.list (w := X.w) (prog := X.prog) hh i1 a n1 its.toArray) (drawsB hh k i2 b n2 its2.toArray) (Draws.list hh i3 c n3 its3.toArray)
    obtain ⟨hz, hTI, hTO, h1, h2, h3⟩ := st
    have hlt : ∀ d, d ∈ [z, TI, TO, i1, i2, i3] → d < s.heap.objs.size := fun d hd => by
      have e' : d = z ∨ d = TI ∨ d = TO ∨ d = i1 ∨ d = i2 ∨ d = i3 := by simpa using hd
      rcases e' with q | q | q | q | q | q
      · rw [q]; exact Heap.lt_size hz
      · rw [q]; exact Heap.lt_size hTI
      · rw [q]; obtain ⟨_, _, _, e⟩ := hTO; exact Heap.lt_size e
      · rw [q]; obtain ⟨_, e, _⟩ := h1; exact Heap.lt_size e
      · rw [q]; obtain ⟨_, e, _⟩ := itrB_obj h2; exact Heap.lt_size e
      · rw [q]; obtain ⟨_, e, _⟩ := h3; exact Heap.lt_size e
    refine wpAny_mono (G.goes i s (fun v s2 => ∃ x H', Inv X pins σ H' s2 ∧ RelV x v ∧ (Itz3 X.K a b c k).yld i H x H' ∧ St3 z TI TO i1 i2 i3 a b c k (i + 1) s2.heap ∧ ∀ d ∈ [z, TI, TO, i1, i2, i3], H' d = none) E (by omega) ⟨hz, hTI, hTO, ⟨h1, p.isList⟩, ⟨h2, p2⟩, ⟨h3, p3.isList⟩⟩ fun v h' tk hY hS hk _ => ?_) (fun _ _ q => q) fun _ _ q => q
    obtain ⟨T, v1, v2, v3, rfl, hT, e1, e2, e3, hTup⟩ := hY
    obtain ⟨u1, hu1, ru1⟩ := rv.get hx
    obtain ⟨u2, hu2, ru2⟩ := rv2.get hy
    obtain ⟨u3, hu3, ru3⟩ := rv3.get hu
    have q1 : u1 = v1 := by rw [show its.toArray[i]? = its[i]? by simp, hu1] at e1; exact Option.some.inj e1
    have q2 : u2 = v2 := by rw [show its2.toArray[i]? = its2[i]? by simp, hu2] at e2; exact Option.some.inj e2
    have q3 : u3 = v3 := by rw [show its3.toArray[i]? = its3[i]? by simp, hu3] at e3; exact Option.some.inj e3
    subst q1 q2 q3
    have new : ObjOk X.prog X.w (upd H T (.tup [x, y, u])) h' T (.tup [x, y, u]) := ⟨by show 3 ≤ sizeLine; decide, [u1, u2, u3], .cons ru1 (.cons ru2 (.cons ru3 .nil)), hTup⟩
    have I1 : Inv X pins σ (upd H T (.tup [x, y, u])) { s with heap := h', toks := tk } :=
      I.turnedNew (t' := tk) (ch := [z, TI, TO, i1, i2, i3]) (fun d o hb q => hk d o (fun hm => hb (by simp only [List.mem_cons, List.not_mem_nil, or_false] at hm ⊢; rcases hm with m | m | m | m | m <;> simp [m])) q) hf hT new
    refine ⟨.ref T, _, I1, rfl, ⟨T, x, y, u, rfl, I.hok.fresh hT, rfl, fun l hl => by rw [I.list_inj hl hqx]; exact hx, fun l hl => by rw [sqB_inj I hl hqy]; exact hy, fun l hl => by rw [I.list_inj hl hqu]; exact hu⟩, ?_, fun d hd => ?_⟩
    · obtain ⟨s1, s2, s3, s4, s5, s6⟩ := hS
      exact ⟨s1, s2, s3, s4.1, s5.1, s6.1⟩
    · rw [upd_ne (Nat.ne_of_lt (Nat.lt_of_lt_of_le (hlt d hd) hT))]
      exact (hf d hd).1
  done := by
    intro X hP hw hK hc i pins s σ H E I hf st hg
    subst hP hw hK
    obtain ⟨xs, ys, us, hqx, hqy, hqu, m1, m2, m3⟩ := hg
    obtain ⟨its, rv, p, _⟩ := I.list hqx
    obtain ⟨its2, rv2, p2⟩ := seqB_raw I hqy
    obtain ⟨its3, rv3, p3, _⟩ := I.list hqu
    have l1 : its.toArray.size = i := by have := rv.length; simp only [List.size_toArray]; omega
    have l2 : its2.toArray.size = i := by have := rv2.length; simp only [List.size_toArray]; omega
    have l3 : its3.toArray.size = i := by have := rv3.length; simp only [List.size_toArray]; omega
    have hh : X.A.in1.handled = none := I.ok.hd hc
    have G := GoesN.zip3 (elts := elts) (x1 := kk) (pos := tpos) (w := X.w) (prog := X.prog) D (Draws.list (w := X.w) (prog := X.prog) hh i1 a n1 its.toArray) (drawsB hh k i2 b n2 its2.toArray) (Draws.list hh i3 c n3 its3.toArray)
    obtain ⟨hz, hTI, hTO, h1, h2, h3⟩ := st
    have em : min (min its.toArray.size its2.toArray.size) its3.toArray.size = i := by rw [l1, l2, l3]; simp
    rw [em] at G
    refine G.stops s (fun s1 => Inv X pins σ H s1) E ⟨hz, hTI, hTO, ⟨h1, p.isList⟩, ⟨h2, p2⟩, ⟨h3, p3.isList⟩⟩ fun h' tk hk _ => ?_
    exact I.turnedL (t' := tk) (ch := [z, TI, TO, i1, i2, i3]) (fun d o hb q => hk d o (fun hm => hb (by simp only [List.mem_cons, List.not_mem_nil, or_false] at hm ⊢; rcases hm with m | m | m | m | m <;> simp [m])) q) hf
  self := fun A i s Q E st h => wpAny_pyIter_zip st.1 h
def iZip3 (K : PySem.W.Frag) (k : Bool) (ta : TA) : TI := fun σ H R => ta σ H fun vs H1 => ∃ a b c xs ys us, vs = [.ref a, .ref b, .ref c] ∧ SqL K H1 a xs ∧ SqB K k H1 b ys ∧ SqL K H1 c us ∧ R (Itz3 K a b c k) H1
theorem beginsB (k : Bool) (l : Addr) (items : Array Value) : ∃ o, Begins (.ref l) o (fun h => IsB2 k h l items) ∧ ∀ (h : Heap) it, h.get? it = some o → ItrB k h it l 0 := by
  cases k with
  | true => exact ⟨_, begins_tuple l items, fun h it e => ⟨_, e, rfl, rfl⟩⟩
  | false => exact ⟨_, begins_list l items, fun h it e => ⟨_, e, rfl, rfl⟩⟩
theorem pi_zip3 {X : Cx} {e e2 e3 : Expr} {ta : TA} {p pos tpos : Pos} {elts : List Expr} {kk : Nat} (k : Bool) (hg : Gl X "zip") (hm : X.mg "zip" = none) (ha : PA X [e, e2, e3] ta)
    (hs : starEach [e, e2, e3] X.env = (false, eval e X.env) :: starEach [e2, e3] X.env) (hpl : (backTo pos (starEach [e2, e3] X.env)).any (·.1) = false) :
    PI X (.Tuple elts kk tpos) (.Call (.Name "zip" p) [e, e2, e3] [] pos) (iZip3 X.K k ta) := by
  refine ⟨fun pins s σ H R I h => ?_⟩
  refine Call_ (ld_blt I hg hm PyProof.Rows.boot_zip (PyProof.Rows.callWith_type1 (thn (ha.run pos pins s σ H _ I h) fun us s1 ⟨vs, H1, I1, r1, q1⟩ => ?_) hs hpl))
  obtain ⟨a, b, c, xs, ys, zs, ex, hqx, hqy, hqz, q⟩ := q1
  subst ex
  obtain ⟨u1, u2, u3, rfl, r, r', r''⟩ : ∃ u1 u2 u3, us = [u1, u2, u3] ∧ RelV (.ref a) u1 ∧ RelV (.ref b) u2 ∧ RelV (.ref c) u3 := by
    cases r1 with
    | cons r rr => cases rr with
      | cons r' rr => cases rr with
        | cons r'' rr => cases rr; exact ⟨_, _, _, rfl, r, r', r''⟩
  cases r
  cases r'
  cases r''
  obtain ⟨its, rv, p1, _⟩ := I1.list hqx
  obtain ⟨its2, rv2, p2⟩ := seqB_raw I1 hqy
  obtain ⟨its3, rv3, p3, _⟩ := I1.list hqz
  have la : a < s1.heap.objs.size := p1.lt
  have lb : b < s1.heap.objs.size := isB2_lt p2
  have lc : c < s1.heap.objs.size := p3.lt
  obtain ⟨ob, Bb, hb0⟩ := beginsB k b its2.toArray
  refine zip_begins3 (begins_list a its.toArray) Bb (begins_list c its3.toArray) p1.isList p2 p3.isList fun h' hz hTI hTO g1 g2 g3 hsz hk => wpAny_pyIter_zip hz ?_
  have I2 : Inv X pins σ H1 { s1 with heap := h' } := I1.kept (t' := s1.toks) hk
  have S := zip_sep3 (N := s1.heap.objs.size) (fp1 := [a]) (fp2 := [b]) (fp3 := [c]) (fun d hd => by rw [List.mem_singleton.mp hd]; exact la) (fun d hd => by rw [List.mem_singleton.mp hd]; exact lb) (fun d hd => by rw [List.mem_singleton.mp hd]; exact lc)
  refine ⟨s1.heap.objs.size + 5, [s1.heap.objs.size + 5, s1.heap.objs.size + 3, s1.heap.objs.size + 4, s1.heap.objs.size, s1.heap.objs.size + 1, s1.heap.objs.size + 2], _, _, H1, rfl, I2, turn_zip3 S (Nat.ne_of_lt la) (Nat.ne_of_lt (Nat.lt_succ_of_lt lb)) (Nat.ne_of_lt (Nat.lt_succ_of_lt (Nat.lt_succ_of_lt lc))),
    ⟨hz, hTI, ⟨_, _, _, hTO⟩, ⟨_, g1, rfl, rfl⟩, hb0 _ _ g2, ⟨_, g3, rfl, rfl⟩⟩, fun d hdm => ?_, q⟩
  have hle : s1.heap.objs.size ≤ d := by
    have e' : d = s1.heap.objs.size + 5 ∨ d = s1.heap.objs.size + 3 ∨ d = s1.heap.objs.size + 4 ∨ d = s1.heap.objs.size ∨ d = s1.heap.objs.size + 1 ∨ d = s1.heap.objs.size + 2 := by simpa using hdm
    rcases e' with z | z | z | z | z | z
    · rw [z]; exact Nat.le_add_right _ _
    · rw [z]; exact Nat.le_add_right _ _
    · rw [z]; exact Nat.le_add_right _ _
    · rw [z]; exact Nat.le_refl _
    · rw [z]; exact Nat.le_add_right _ _
    · rw [z]; exact Nat.le_add_right _ _
  exact I1.fpOk hle (I1.hok.fresh hle)
section
variable {P : Program} {w : World} {K : PySem.W.Frag} {mg : Str → Option Value} {base : Heap} {k : Nat} {N Vz Sz G : List Str} {sc : Scope} {X : Cx} {σ : L2.St} {H : Hp} {D : Ends} {elts : List Expr} {e e2 e3 : Expr} {sts : List Stmt} {p1 p2 pos tpos : Pos} {kk : Nat}
/-- for .. in zip(xs, ys, us): all of one length -/
theorem wS_zip3 (t : Bool) (C : CxI P w K mg base k N Vz Sz G sc X) (hm : mg "zip" = none) (hx : ("zip" : Str) ∈ G) (hs : starEach [e, e2, e3] X.env = (false, eval e X.env) :: starEach [e2, e3] X.env) (hpl : (backTo p2 (starEach [e2, e3] X.env)).any (·.1) = false)
    (q : wA X [e, e2, e3] σ H fun vs H1 => ∃ a b c xs ys us, vs = [.ref a, .ref b, .ref c] ∧ SqL K H1 a xs ∧ SqB K t H1 b ys ∧ SqL K H1 c us ∧ xs.length = ys.length ∧ us.length = xs.length ∧ ∃ Pv : Nat → L2.St → Hp → Prop, Pv 0 σ H1 ∧
      (∀ i σ H, i ≤ xs.length → Pv i σ H → SqL K H a xs ∧ SqB K t H b ys ∧ SqL K H c us) ∧
      (∀ i x y u T σ H H', xs[i]? = some x → ys[i]? = some y → us[i]? = some u → Pv i σ H → H T = none → Ex H H' → H' T = some (.tup [x, y, u]) → wG X (.Tuple elts kk tpos) (.ref T) σ H' fun σ2 H2 => wB X sts { D with nx := Pv (i + 1), ct := Pv (i + 1), bk := D.nx } σ2 H2) ∧ ∀ σ H, Pv xs.length σ H → D.nx σ H) :
    wS X (.For (.Tuple elts kk tpos) (.Call (.Name "zip" p1) [e, e2, e3] [] p2) sts [] pos) D σ H := by
  obtain ⟨l, _, _⟩ := C.glo hx
  refine wS.of (ps_for C.po C.calm (pi_zip3 t l (by rw [C.em]; exact hm) wA.pa hs hpl) wG.pg wB.pss (fun _ => rfl)) ?_
  show wA X [e, e2, e3] σ H _
  refine ⟨fun pp pins s I => thn (q.run pp pins s I) ?_⟩
  rintro uu s1 ⟨vs, H1, I1, r1, a, b, c, xs, ys, us, ev, q1, q2, q3, l1, l2, Pv, h0, hq, hst, hd⟩
  refine ⟨vs, H1, I1, r1, a, b, c, xs, ys, us, ev, by rw [C.eK]; exact q1, by rw [C.eK]; exact q2, by rw [C.eK]; exact q3, ?_⟩
  refine ⟨fun i m σ H => m = xs.length - i ∧ i ≤ xs.length ∧ Pv i σ H, ⟨xs.length, rfl, Nat.zero_le _, h0⟩, ?_⟩
  rintro i m σ H ⟨rfl, hi, pv⟩
  obtain ⟨k1, k2, k3⟩ := hq i σ H hi pv
  by_cases hlt : i < xs.length
  · have g1 : xs[i]? = some xs[i] := List.getElem?_eq_getElem hlt
    have g2 : ys[i]? = some (ys[i]'(by omega)) := List.getElem?_eq_getElem _
    have g3 : us[i]? = some (us[i]'(by omega)) := List.getElem?_eq_getElem _
    refine .inr ⟨⟨xs, ys, us, _, _, _, by rw [C.eK]; exact k1, by rw [C.eK]; exact k2, by rw [C.eK]; exact k3, g1, g2, g3⟩, Pv (i + 1), fun σ' H' p' => ⟨xs.length - (i + 1), by omega, rfl, hlt, p'⟩, fun v H' y => ?_⟩
    obtain ⟨T, x', y', u', rfl, hT, rfl, f1, f2, f3⟩ := y
    exact hst i x' y' u' T σ H _ (f1 xs (by rw [C.eK]; exact k1)) (f2 ys (by rw [C.eK]; exact k2)) (f3 us (by rw [C.eK]; exact k3)) pv hT (Ex.upd hT) upd_same
  · have e' : i = xs.length := by omega
    subst e'
    exact .inl ⟨⟨xs, ys, us, by rw [C.eK]; exact k1, by rw [C.eK]; exact k2, by rw [C.eK]; exact k3, rfl, by omega, by omega⟩, hd σ H pv⟩
end
end Rp
namespace Rp
open PySem PySem.Spec PyProof.Rows L2
/-! ### comprehensions by a promise of each turn -/
theorem pt_ix {x : Str} {v : V} : ∀ {N : List Str} {σ : L2.St} {i : Nat}, N[i]? = some x → i < σ.length → Pt N σ x v (σ.set i (some v))
  | [], _, _, h, _ => by simp at h
  | y :: N, [], _, _, l => absurd l (by simp)
  | y :: N, w :: σ, 0, h, _ => by
    obtain rfl : y = x := by simpa using h
    exact .here
  | y :: N, w :: σ, i + 1, h, l => .there (pt_ix (by simpa using h) (by simpa using l))
section
variable {P : Program} {w : World} {K : PySem.W.Frag} {mg : Str → Option Value} {base : Heap} {k : Nat} {N Vz Sz' G Vc Gc : List Str} {sc scope : Scope} {X : Cx} {elt it c e : Expr} {σ : L2.St} {H : Hp} {pos p0 : Pos} {Q : VK} {QB : Bool → Hp → Prop} {D : Ends}
theorem wT_cut (J : Bool → Hp → Prop) (h : wT X e σ H J) (q : ∀ b H', J b H' → QB b H') : wT X e σ H QB :=
  ⟨fun pins s I => thn (h.run pins s I) fun b s1 ⟨H1, I1, hj⟩ => ⟨H1, I1, q b H1 hj⟩⟩
theorem wW_cut (J : Bool → Hp → Prop) (h : wW X e σ H J) (q : ∀ b H', J b H' → QB b H') : wW X e σ H QB :=
  ⟨fun wh pins s I => thn (h.run wh pins s I) fun b s1 ⟨H1, I1, hj⟩ => ⟨H1, I1, q b H1 hj⟩⟩
/-- what a turn keeps of what is known, the new list at D aside -/
structure Stay (H : Hp) (R : Hp → Nat → V → Prop) (J : Nat → Hp → Prop) : Prop where
  j : ∀ (D : Addr) (i : Nat) (Ha Hb : Hp), H D = none → J i Ha → Exb D Ha Hb → J i Hb
  r : ∀ (D : Addr) (j : Nat) (y : V) (Ha Hb : Hp) (acc : List V), H D = none → Ha D = some (.lst acc) → R Ha j y → Exb D Ha Hb → R Hb j y
theorem lcJ {x : Str} {ix : Nat} {ad : Addr} {xs : List V} {tp : Pos} (R : Hp → Nat → V → Prop) (J : Nat → Hp → Prop) (hN : N[ix]? = some x) (hσ : ix < σ.length)
    (st : Stay H R J) (hl : xs.length ≤ 1000) (j0 : J 0 H) (hsq : ∀ i H', J i H' → SqL K H' ad xs)
    (step : ∀ X1, CxI P w K mg base k N Vc [x] Gc scope X1 → ∀ (i : Nat) (v : V) (D : Addr) (H2 : Hp) (acc : List V), xs[i]? = some v → J i H2 → H D = none → H2 D = some (.lst acc) → (∀ j y, acc[j]? = some y → R H2 j y) → wE X1 elt (σ.set ix (some v)) H2 fun y H3 => H3 D = some (.lst acc) ∧ (∀ j y, R H2 j y → R H3 j y) ∧ R H3 i y ∧ J (i + 1) H3)
    {QD : Addr → Hp → Prop} (q : ∀ (D : Addr) (H2 : Hp) (ys : List V), H D = none → H2 D = some (.lst ys) → ys.length = xs.length → (∀ j y, ys[j]? = some y → R H2 j y) → J xs.length H2 → QD D H2) (hx0 : x ∈ Vc) :
    LcL P w K mg base k N Vc [x] Gc scope [ix] elt (.Name x tp) [] σ (.ref ad) H QD := by
  refine ⟨ad, xs, rfl, hsq 0 H j0, fun D hD => ⟨fun i H2 => ∃ ys, ys.length = i ∧ H2 D = some (.lst ys) ∧ (∀ j y, ys[j]? = some y → R H2 j y) ∧ J i H2, ⟨[], rfl, upd_same, (fun j y h => by simp at h), st.j D 0 _ _ hD j0 Exb.upd⟩, ?_, ?_, ?_⟩⟩
  · rintro i H2 hi ⟨ys, _, _, _, j⟩
    exact hsq i H2 j
  · rintro i v H2 hi ⟨ys, hy, hd, hr, j⟩
    intro X1 C1
    have hw : ix < (wipe σ [ix]).length := by rw [wipe_length]; exact hσ
    refine wG_name C1 List.mem_cons_self ?_
    refine put_i (pt_ix hN hw) ⟨?_, ?_⟩
    · show ((((σ.set ix none).set ix (some v))).set ix none) = σ.set ix none
      rw [List.set_set, List.set_set]
    · refine blkT_nil (iteT ?_)
      intro X2 C2
      have e : (wipe σ [ix]).set ix (some v) = σ.set ix (some v) := by
        show (σ.set ix none).set ix (some v) = _
        rw [List.set_set]
      rw [e]
      refine wE_cut _ (step X2 C2 i v D H2 ys hi j hD hd hr) ?_
      rintro y H3 ⟨h1, h2, h3, h4⟩
      refine ⟨ys, h1, ?_, ys ++ [y], by rw [List.length_append, hy]; rfl, upd_same, fun j' y' hj' => ?_, st.j D _ _ _ hD h4 Exb.upd⟩
      · have : i < xs.length := by
          obtain ⟨z, _⟩ := List.getElem?_eq_some_iff.mp hi
          exact z
        rw [hy, sizeLine_eq]; omega
      · refine st.r D j' y' H3 _ ys hD h1 ?_ Exb.upd
        by_cases c : j' < ys.length
        · rw [List.getElem?_append_left c] at hj'
          exact h2 _ _ (hr _ _ hj')
        · rw [List.getElem?_append_right (by omega)] at hj'
          have z : j' - ys.length = 0 := by
            rcases Nat.eq_zero_or_pos (j' - ys.length) with z | z
            · exact z
            · rw [List.getElem?_eq_none (show [y].length ≤ _ from z)] at hj'; cases hj'
          rw [z] at hj'
          have : y = y' := by simpa using hj'
          rw [← this, show j' = i by omega]
          exact h3
  · rintro H2 ⟨ys, hy, hd, hr, j⟩
    exact q D H2 ys hD hd hy hr j
theorem c_listT {a : Addr} {xs : List V} (C : CxI P w K mg base k N Vz Sz' G sc X) (h : SqT K H a xs) (q : ∀ p H2, H p = none → Ex H H2 → H2 p = some (.lst xs) → Q (.ref p) H2) : wC X (.type "list") [.ref a] H Q :=
  wC.of call_list_of ⟨a, xs, rfl, .inr (by rw [C.eK]; exact h), fun p hp => q p _ hp (Ex.upd hp) upd_same⟩
theorem c_listL {a : Addr} {xs : List V} (C : CxI P w K mg base k N Vz Sz' G sc X) (h : SqL K H a xs) (q : ∀ p H2, H p = none → Ex H H2 → H2 p = some (.lst xs) → Q (.ref p) H2) : wC X (.type "list") [.ref a] H Q :=
  wC.of call_list_of ⟨a, xs, rfl, .inl (by rw [C.eK]; exact h), fun p hp => q p _ hp (Ex.upd hp) upd_same⟩
end
end Rp
namespace Rp
open PySem PySem.Spec PyProof.Rows L2
/-! ### repr of a list of things with an own __repr__ -/
section
variable {prog : Program} {w : World} {A : Around} {E : Value → Shared → Prop} {s : Shared} {K : PySem.W.Frag} {x C f : Addr} {ox : Obj} {od : Option Obj}
theorem under_K {b : Nat} {Q : Str → Shared → Prop} (hb : b ≤ sizeLine) (hu : A.units < cLine) (X : K.In s.heap) (I : PySem.W.InstAt s.heap x ox C od) (hs : PySem.W.findIn K (.ref C) "__repr__" = some (some (.ref f))) (hf : PySem.W.isFn K (.ref f) = true)
    (hc : wpAny (model prog w) A (call (.ref f) [.ref x]) (fun r s' => ∃ m tk, r = .str m tk ∧ Q m s') E s) : wpAny (model prog w) A (pyReprUnder b (.ref x)) Q E s := by
  refine wpAny_pyReprUnder_ref hb ?_
  unfold pyReprObjUnder pyReprObjBy
  refine wpAny_bind (wpAny_cRoomFor hu ?_)
  refine wpAny_bind (m := specialOf (.ref x) _) (wpAny_bind (I.type.here ((PySem.W.looks_findIn X hs).here ?_)))
  show wpAny _ _ (if (some (Value.ref f)).isNone = true then _ else _) _ _ _
  rw [if_neg (by simp)]
  refine wpAny_bind (m := callSpecialIfBoundBy? _ (.ref x) (Str.ofString "__repr__")) ?_
  simp only [callSpecialIfBoundBy?, bindSpecialIfBound?]
  refine wpAny_holding (wpAny_bind (wpAny_bind (wpAny_bind (I.type.here ((PySem.W.looks_findIn X hs).here ?_)))))
  refine wpAny_bind (wpAny_askSetting (wpAny_ite ?_))
  have fin : wpAny (model prog w) A (call (.ref f) [.ref x] >>= fun v => pure (some v)) (fun r s' => wpAny (model prog w) A (match r with
      | some r => do
        if ← isInstance r (.type "str") then pure r else raiseError "TypeError" s!"__repr__ returned non-string (type {← typeNameOf r})"
      | none => unsupported "repr:special-get-raises") (fun v s' => ∃ x u, v = .str x u ∧ Q x s') E s') E s := wpAny_bind (wpAny_mono hc (fun v s' hv => by
    obtain ⟨m, tk, rfl, hq⟩ := hv
    refine wpAny_pure ?_
    refine wpAny_bind (wpAny_isInstance (typeIs_str _ _ _) isSubtype_str_str ?_)
    first
      | exact wpAny_pure ⟨_, _, rfl, hq⟩
      | (rw [if_pos rfl]; exact wpAny_pure ⟨_, _, rfl, hq⟩)
      | (simp only [if_true]; exact wpAny_pure ⟨_, _, rfl, hq⟩)) fun _ _ h' => h')
  split
  · exact wpAny_bind ((PySem.W.bind_fn X _ (beq_iff_eq.mp hf)).here (wpAny_pure (by exact fin)))
  · exact wpAny_tryCatch (wpAny_bind ((PySem.W.bind_fn X _ (beq_iff_eq.mp hf)).here (wpAny_pure (by exact fin))))
end
theorem under_rl (A : Around) (args : Args) : (A.under (.builtin "list.__repr__.loop" args)).units = A.units + 1 := by
  first | rfl | simp [Around.under, Code.cUnits, Code.frames, Code.isFrame]
theorem under_rd (A : Around) (args : Args) : (A.under (.builtin "list.__repr__.loop" args)).depth = A.depth + 1 := by
  first | rfl | simp [Around.under, Code.weight, Code.isCreation, Code.isGuard, Code.isCaller, Code.frames, Code.isFrame, guardIds]
theorem sub_loop {X : Cx} {n : Nat} {A : Around} (s : Sub X (n + 1) A) (args : Args) : Sub X n (A.under (.builtin "list.__repr__.loop" args)) :=
  ⟨⟨s.room.hd, by have := s.room.dp; rw [under_rd]; omega, by have := s.room.un; rw [under_rl]; omega⟩, s.fr⟩
section
variable {X : Cx} {pins : List (Addr × Obj)} {σ : L2.St} {H : Hp} {s : Shared} {C f : Addr} {fd : FuncData} {ps : List Str} {sp : Sp} {j : Nat}
/-- repr of one thing within -/
theorem one_under {A : Around} (sb : Sub X j A) (Fk : FnOk X.prog X.w X.K X.mg X.base CX0 j f fd ps sp) (hs : PySem.W.findIn X.K (.ref C) "__repr__" = some (some (.ref f))) (hf : PySem.W.isFn X.K (.ref f) = true) (hb : Binds X.K fd ps [])
    {b : Nat} {a dx : Addr} {fs : List (Str × V)} {t : Str} (hbz : b ≤ sizeLine) (I : Inv X pins σ H s) (ha : H a = some (.ins C dx fs)) (q : sp [.ref a] H (fun v H' => v = .str t ∧ Ex H H') E0) {Q : Str → Shared → Prop} (hq : ∀ s' H', Inv X pins σ H' s' → Ex H H' → Q t s') :
    wpAny (model X.prog X.w) A (pyReprUnder b (.ref a)) Q X.xe s := by
  obtain ⟨mA, J, _⟩ := ins_get I.hok ha
  obtain ⟨od, J, _⟩ := J.look
  refine under_K hbz sb.room.units0 I.kIn J hs hf ?_
  have e0 : Env0 X.prog X.w X.K X.mg X.base A X.stack s H := by
    have e := I.env0
    exact ⟨by rw [sb.fr]; exact e.frames, e.mod, e.bs, e.bsz, e.funs, e.frf, e.hok, e.bare⟩
  have hl := Fk.len _ _ _ _ q
  have r2 : Vals [V.ref a] [Value.ref a] := .cons rfl .nil
  refine wpAny_call (codeAny_mono (Fk.run A X.stack s H ⟨[.ref a], []⟩ [.ref a] [.ref a] _ E0 sb.room e0 (by
    have := hb s [.ref a] I.kIn (by simpa using hl)
    simpa using this) r2 q) fun r' s' h => ?_)
  cases r' with
  | error e => exact pass0 pins σ H s e s' I h
  | ok fl =>
    cases fl with
    | ret w =>
      obtain ⟨z, H', I', rz, ez, e'⟩ := I.after h
      subst ez
      obtain ⟨tk, rfl⟩ := rz
      exact ⟨t, tk, rfl, hq s' H' I' e'⟩
    | next => exact False.elim h
    | brk => exact False.elim h
    | cont => exact False.elim h
/-- the things of a list, each with its text -/
def Tells (C : Addr) (sp : Sp) (H0 : Hp) (as : List Addr) (ts : List Str) : Prop :=
  as.length = ts.length ∧ ∀ (i : Nat) a t, as[i]? = some a → ts[i]? = some t → ∀ H, Ex H0 H → (∃ dx fs, H a = some (.ins C dx fs)) ∧ sp [.ref a] H (fun v H' => v = .str t ∧ Ex H H') E0
theorem exb_ins {P : Addr} {H H' : Hp} {xs : List V} (hP : H P = some (.lst xs)) (e : Exb P H H') : ∀ a C dx fs, H a = some (.ins C dx fs) → H' a = some (.ins C dx fs) := fun a C dx fs h => e _ _ (fun z => by rw [z, hP] at h; cases h) h
/-- what stays while the parts' list at P grows: H0 knows nothing of P -/
theorem rloop {A : Around} (sb : Sub X (j + 1) A) (Fk : FnOk X.prog X.w X.K X.mg X.base CX0 j f fd ps sp) (hs : PySem.W.findIn X.K (.ref C) "__repr__" = some (some (.ref f))) (hf : PySem.W.isFn X.K (.ref f) = true) (hb : Binds X.K fd ps [])
    {H0 : Hp} {a P : Addr} {as : List Addr} {ts : List Str} {b : Nat} (ha : H0 a = some (.lst (as.map V.ref))) (hP : H0 P = none) (tl : Tells C sp H0 as ts) (hsz : b + (listText ts).length ≤ sizeLine)
    {R : Result → Shared → Prop} (hR : ∀ s' H' u, Inv X pins σ H' s' → Ex H0 H' → R (.ok (.ret (.str (listText ts) u))) { s' with toks := s'.toks + 1 }) (hE : ∀ e s', X.xe e s' → R (.error e) s') :
    ∀ (k i : Nat) (s : Shared) (H : Hp), as.length - i = k → i ≤ as.length → Inv X pins σ H s → Ex H0 H → H P = some (.lst ((ts.take i).map V.str)) →
    codeAny (model X.prog X.w) A (.builtin "list.__repr__.loop" ⟨[.ref a, rawInt i, .ref P, rawInt ((b + piled (ts.take i) : Nat) : Int)], []⟩) R s := by
  have hX : (listText ts).length = (textFrom 0 "[" ts).length + 1 := by
    show (textFrom 0 "[" ts ++ "]").length = _
    rw [strLen_append]; rfl
  have hL := textFrom_len ts 0 "["
  have hsz1 : as.length ≤ sizeLine := by
    have h1 := hL.1
    rw [if_neg (Nat.lt_irrefl 0)] at h1
    have := tl.1
    omega
  have hsz2 : ∀ t ∈ ts, t.length ≤ sizeLine := fun t ht => by
    have h2 := hL.2.1 t ht
    omega
  have hsz3 : (listText ts).length ≤ sizeLine := by omega
  have hp3 := piled_le_listText ts
  have hlen := tl.1
  intro k
  induction k with
  | zero =>
    intro i s H hk hi I e hp
    have hin : i = as.length := by omega
    refine codeAny_builtin F.entry_list_repr_loop ?_
    show wpAny _ _ (Builtin.«list.__repr__.loop» ⟨[.ref a, .int i 0, .ref P, .int ((b + piled (ts.take i) : Nat) : Int) 0], []⟩) _ _ s
    rw [repr_loop_tree]
    obtain ⟨_, its, n, rv, hl, hg⟩ := I.lstM (e _ _ ha)
    refine wpAny_bind (wpAny_listItems hg rfl ?_)
    have hnone : its.toArray[(i : Int).toNat]? = none := by
      rw [Int.toNat_natCast, List.getElem?_toArray, List.getElem?_eq_none (by rw [← hl, List.length_map]; omega)]
    simp only [hnone]
    unfold reprEnd
    obtain ⟨_, its2, n2, rv2, hl2, hg2⟩ := I.lstM hp
    refine wpAny_bind (wpAny_listItems hg2 rfl ?_)
    obtain ⟨done, hd1, hd2⟩ : ∃ done : List (Str × Tok), its2 = strValues done ∧ done.map (·.1) = ts.take i := by
      clear hg2 hl2 hp
      revert its2
      generalize ts.take i = us
      induction us with
      | nil => intro its2 r; cases r; exact ⟨[], rfl, rfl⟩
      | cons u us ih =>
        intro its2 r
        cases r with
        | cons h r =>
          obtain ⟨tk, rfl⟩ := h
          obtain ⟨d, e1, e2⟩ := ih _ r
          exact ⟨(u, tk) :: d, by rw [e1]; rfl, by rw [← e2]; rfl⟩
    rw [show its2.toArray.toList = strValues done from hd1, repr_fold]
    refine wpAny_bind (wpAny_pure ?_)
    have hall : done.map (·.1) = ts := by rw [hd2, hin, hlen, List.take_length]
    rw [hall]
    refine wpAny_bind (wpAny_mkStr (wpAny_pure ?_) hsz3)
    exact hR s H _ I e
  | succ k ih =>
    intro i s H hk hi I e hp
    have hlt : i < as.length := by omega
    have ht : ts[i]? = some (ts[i]'(by omega)) := List.getElem?_eq_getElem (by omega)
    generalize ts[i]'(by omega) = t at ht
    have hai : as[i]? = some as[i] := List.getElem?_eq_getElem hlt
    generalize as[i] = ai at hai
    obtain ⟨⟨dx, fs, hins⟩, hsp⟩ := tl.2 i ai t hai ht H e
    have hp1 := piled_take_succ ht
    have hp2 := piled_take_le ts (i + 1)
    refine codeAny_builtin F.entry_list_repr_loop ?_
    show wpAny _ _ (Builtin.«list.__repr__.loop» ⟨[.ref a, .int i 0, .ref P, .int ((b + piled (ts.take i) : Nat) : Int) 0], []⟩) _ _ s
    rw [repr_loop_tree]
    obtain ⟨_, its, n, rv, hl, hg⟩ := I.lstM (e _ _ ha)
    refine wpAny_bind (wpAny_listItems hg rfl ?_)
    have hsome : its.toArray[(i : Int).toNat]? = some (.ref ai) := by
      rw [Int.toNat_natCast, List.getElem?_toArray]
      obtain ⟨u, hu, ru⟩ := rv.get (i := i) (x := .ref ai) (by rw [List.getElem?_map, hai]; rfl)
      obtain rfl : u = Value.ref ai := ru
      exact hu
    simp only [hsome]
    rw [Int.toNat_natCast]
    refine wpAny_bind (wpAny_holding (wpAny_mono (one_under (b := b + piled (ts.take i) + 1) (sub_loop sb _) Fk hs hf hb (by omega) I hins hsp (Q := fun t' s' => t = t' ∧ ∃ H', Inv X pins σ H' s' ∧ Ex H H') fun s1 H1 I1 e1 => ⟨rfl, H1, I1, e1⟩) (fun t' s1 hq => ?_) hE))
    obtain ⟨rfl, H1, I1, e1⟩ := hq
    refine wpAny_bind (wpAny_mkStr ?_ (hsz2 t (List.mem_of_getElem? ht)))
    refine wpAny_bind ?_
    have hp' := e1 _ _ hp
    obtain ⟨_, its2, n2, rv2, hl2, hg2⟩ := I1.lstM hp'
    show wpAny _ _ (updateSeq P _) _ _ _
    have htl : ((ts.take i).map V.str).length ≤ sizeLine := by rw [List.length_map, List.length_take]; omega
    refine wpAny_updateSeq hg2 rfl (wpAny_pure ⟨F.quiet_list_repr_loop _, ?_⟩) (by rw [List.size_toArray, ← hl2]; exact htl)
    have e1' : ((i : Int) + 1) = ((i + 1 : Nat) : Int) := by omega
    have e2' : b + piled (ts.take i) + (t.length + 2) = b + piled (ts.take (i + 1)) := by omega
    rw [e1', e2']
    have tk1 : ts.take (i + 1) = ts.take i ++ [t] := by rw [List.take_add_one, ht]; rfl
    refine ih (i + 1) _ (upd H1 P (.lst ((ts.take (i + 1)).map V.str))) (by omega) hlt ?_ ?_ upd_same
    · refine (I1.tok _).lset (its' := its2 ++ [.str t s1.toks]) (t' := _) hp' hg2 (by simp) ?_ (by rw [List.length_map, List.length_take]; omega)
      rw [tk1, List.map_append]
      exact rv2.append (.cons ⟨_, rfl⟩ .nil)
    · exact (e.trans e1).mut hP Exb.upd
/-- list.__repr__ of such a list -/
theorem call_lrepr {A : Around} {g : List Code} (sb : Sub X (j + 2) A) (hg : A.guards = some []) (Fk : FnOk X.prog X.w X.K X.mg X.base CX0 j f fd ps sp) (hs : PySem.W.findIn X.K (.ref C) "__repr__" = some (some (.ref f))) (hf : PySem.W.isFn X.K (.ref f) = true) (hb : Binds X.K fd ps [])
    {a : Addr} {as : List Addr} {ts : List Str} (I : Inv X pins σ H s) (ha : H a = some (.lst (as.map V.ref))) (tl : Tells C sp H as ts) (hsz : (listText ts).length ≤ sizeLine)
    {Q : Value → Shared → Prop} (hQ : ∀ s' H' u, Inv X pins σ H' s' → Ex H H' → Q (.str (listText ts) u) s') : wpAny (model X.prog X.w) A (call (.builtin "list.__repr__") [.ref a]) Q X.xe s := by
  obtain ⟨_, its, n, rv, hl, hgt⟩ := I.lstM ha
  have hTy : s.TypeIs (.ref a) "list" := ⟨_, hgt, rfl⟩
  cases its with
  | nil =>
    have e0 : as = [] := List.map_eq_nil_iff.mp (List.eq_nil_of_length_eq_zero (by rw [hl]; rfl))
    have e1 : ts = [] := List.eq_nil_of_length_eq_zero (by rw [← tl.1, e0]; rfl)
    subst e1
    exact call_list_repr_empty hTy hgt rfl (hQ _ H _ (I.tok _) (Ex.refl H))
  | cons y l =>
    refine wpAny_call (codeAny_call_builtin F.slot_list_repr.plain F.entry_list_repr (F.slot_list_repr.check _ _ _ _ _ _ _ _ hTy (F.args_list_repr_1 _) ?_))
    refine wpAny_list_repr_head (A := A.in1) (b := 0) hg (fun v rest kw h => nomatch h) hgt rfl ?_
    refine wpAny_bind (m := newList []) (wpAny_newObj_type ?_)
    refine wpAny_pure ⟨F.quiet_list_repr_loop _, ?_⟩
    have hP := I.fresh
    have I1 := I.lnew (its := []) (ys := []) (t' := s.toks) .nil (by show 0 ≤ sizeLine; exact Nat.zero_le _)
    have e1 : Ex H (upd H s.heap.objs.size (.lst [])) := Ex.upd hP
    have z := rloop (sb.mono (Nat.le_succ _)) Fk hs hf hb (b := 0) (R := callEnd Q X.xe) ha hP tl (by omega) (fun s' H' u I' e' => hQ _ H' u (I'.tok _) e') (fun e s' h => h) as.length 0 _ _ (by omega) (by omega) I1 e1 upd_same
    exact z
theorem Tells.ex {H' : Hp} {as : List Addr} {ts : List Str} (h : Tells C sp H as ts) (e : Ex H H') : Tells C sp H' as ts := ⟨h.1, fun i a t h1 h2 H2 e2 => h.2 i a t h1 h2 H2 (e.trans e2)⟩
end
section
variable {P : Program} {w : World} {K : PySem.W.Frag} {mg : Str → Option Value} {base : Heap} {k j : Nat} {N Vz Sz G : List Str} {sc : Scope} {X : Cx} {σ : L2.St} {H : Hp} {Q : VK} {sp : Sp} {c : Addr} {e : Expr} {pos : Pos}
/-- repr of a list of things with an own __repr__ -/
theorem c_reprLO (C : CxI P w K mg base k N Vz Sz G sc X) (g : Gd X) (M : Mo P w K mg base j c "__repr__" sp) (hj : j + 3 ≤ k) {a : Addr} {as : List Addr} {ts : List Str} (ha : H a = some (.lst (as.map V.ref))) (tl : Tells c sp H as ts) (hsz : (listText ts).length ≤ sizeLine)
    (q : ∀ H', Ex H H' → Q (.str (listText ts)) H') : wC X (.builtin "repr") [.ref a] H Q := by
  obtain ⟨f, fd, ps, Fk, hs, hf, hb⟩ := M.ex
  have sb := sub_cx C
  obtain ⟨rfl, rfl, rfl, rfl, rfl, _, _, hr, _, _, _, _, _⟩ := C
  refine ⟨fun pins s σ us I r => ?_⟩
  obtain ⟨u, rfl, rx⟩ := vals1 r
  obtain rfl : u = Value.ref a := rx
  obtain ⟨_, its, n, rv, hl, hgt⟩ := I.lstM ha
  refine call_repr_slot (by have := hr.un; omega) ⟨_, hgt, rfl⟩ F.slot_list_repr.toG ?_
  refine call_lrepr (g := []) ((sb.mono hj).in1) g Fk hs hf hb I ha tl hsz fun s' H' u I' e' => ⟨_, u, rfl, .str (listText ts), H', I', ⟨u, rfl⟩, q H' e'⟩
/-- {xs!r} of such a list -/
theorem wE_fmtLO (C : CxI P w K mg base k N Vz Sz G sc X) (g : Gd X) (M : Mo P w K mg base j c "__repr__" sp) (hj : j + 2 ≤ k)
    (q : wE X e σ H fun x H1 => ∃ (a : Addr) (as : List Addr) (ts : List Str), x = .ref a ∧ H1 a = some (.lst (as.map V.ref)) ∧ Tells c sp H1 as ts ∧ (listText ts).length ≤ sizeLine ∧ ∀ H', Ex H1 H' → Q (.str (listText ts)) H') : wE X (.FormattedValue e 114 none pos) σ H Q := by
  obtain ⟨f, fd, ps, Fk, hs, hf, hb⟩ := M.ex
  have sb := sub_cx C
  obtain ⟨rfl, rfl, rfl, rfl, rfl, _, _, hr, _, _, _, _, _⟩ := C
  refine ⟨fun pins s I => ?_⟩
  refine wpAny_FormattedValue_repr (thn (q.run pins s I) fun v s1 hv => ?_)
  obtain ⟨x, H1, I1, r1, a, as, ts, rfl, ha, tl, hsz, q⟩ := hv
  obtain rfl : v = Value.ref a := r1
  obtain ⟨_, its, n, rv, hl, hgt⟩ := I1.lstM ha
  refine wpAny_pyReprObj_slot (by have := hr.un; omega) ⟨_, hgt, rfl⟩ F.slot_list_repr.toG ?_
  refine call_lrepr (g := []) (sb.mono hj) g Fk hs hf hb I1 ha tl hsz fun s' H' u I' e' => ⟨_, u, rfl, ?_⟩
  exact wpAny_formatField_str ⟨.str (listText ts), H', I', ⟨_, rfl⟩, q H' e'⟩ ⟨.str (listText ts), H', I'.tok _, ⟨_, rfl⟩, q H' e'⟩ hsz
end
end Rp
namespace Rp
open PySem PySem.Spec PyProof.Rows L2
/-! ### an own __repr__ that wants no repr under way -/
structure MoG (P : Program) (w : World) (K : PySem.W.Frag) (mg : Str → Option Value) (base : Heap) (k : Nat) (C : Addr) (m : Str) (sp : Sp) : Prop where
  ex : ∃ f fd ps, FnG P w K mg base CX0 k f fd ps sp ∧ PySem.W.findIn K (.ref C) m = some (some (.ref f)) ∧ PySem.W.isFn K (.ref f) = true ∧ Binds K fd ps []
section
variable {P : Program} {w : World} {K : PySem.W.Frag} {mg : Str → Option Value} {base : Heap} {k j : Nat} {N Vz Sz G : List Str} {sc : Scope} {X : Cx} {H : Hp} {Q : VK} {sp : Sp} {a c dx : Addr} {fs : List (Str × V)}
theorem c_reprOwnG (g : Gd X) (C : CxI P w K mg base k N Vz Sz G sc X) (M : MoG P w K mg base j c "__repr__" sp) (hj : j + 1 ≤ k) (ha : H a = some (.ins c dx fs)) (q : sp [.ref a] H (fun v H' => ∃ z : Str, v = .str z ∧ Q (.str z) H') E0) : wC X (.builtin "repr") [.ref a] H Q := by
  obtain ⟨f, fd, ps, Fk, hs, hf, hb⟩ := M.ex
  obtain ⟨rfl, rfl, rfl, rfl, rfl, _, _, hr, _, _, _, _, _⟩ := C
  refine ⟨fun pins s σ us I r => ?_⟩
  obtain ⟨u, rfl, rx⟩ := vals1 r
  obtain rfl : u = Value.ref a := rx
  obtain ⟨mA, J, _⟩ := ins_get I.hok ha
  obtain ⟨od, J, _⟩ := J.look
  have sb : Sub X (j + 1) X.A := ⟨hr.mono hj, rfl⟩
  have sb1 := sb.in1
  refine repr_K sb1.room.units0 I.kIn J hs hf ?_
  have e0 : Env0 X.prog X.w X.K X.mg X.base X.A.in1 X.stack s H := by
    have e := I.env0
    exact ⟨by rw [sb1.fr]; exact e.frames, e.mod, e.bs, e.bsz, e.funs, e.frf, e.hok, e.bare⟩
  have hl := Fk.len _ _ _ _ q
  have r2 : Vals [V.ref a] [Value.ref a] := .cons rfl .nil
  refine wpAny_call (codeAny_mono (Fk.run X.A.in1 X.stack s H ⟨[.ref a], []⟩ [.ref a] [.ref a] _ E0 sb1.room g e0 (by
    have := hb s [.ref a] I.kIn (by simpa using hl)
    simpa using this) r2 q) fun r' s' hq => ?_)
  cases r' with
  | error e => exact pass0 pins σ H s e s' I hq
  | ok fl =>
    cases fl with
    | ret w =>
      obtain ⟨z, H', I', rz, t, ez, q'⟩ := I.after hq
      subst ez
      obtain ⟨tk, rfl⟩ := rz
      exact ⟨t, tk, rfl, .str t, H', I', ⟨tk, rfl⟩, q'⟩
    | next => exact False.elim hq
    | brk => exact False.elim hq
    | cont => exact False.elim hq
end
end Rp
namespace Rp
open PySem PySem.Spec PyProof.Rows L2
section
variable {P : Program} {w : World} {K : PySem.W.Frag} {mg : Str → Option Value} {base : Heap} {k j : Nat} {N Vz Sz G : List Str} {sc : Scope} {x m : Str} {p pos apos : Pos} {o : Expr} {kws : List Keyword} {ks : List Str} {X : Cx} {C : Addr} {σ : L2.St} {H : Hp} {Q : VK} {dvs : List V} {sp : Sp}
/-- C() where it doesn't raise -/
theorem wE_makeQ0 (I : CxI P w K mg base k N Vz Sz G sc X) (M : Mx P w K mg base j x C dvs sp) (hx : x ∈ G) (hj : j + 1 ≤ k)
    (q : ∀ y dx, H y = none → H dx = none → dx ≠ y → sp (.ref y :: dvs) (upd (upd H dx (.own y)) y (.ins C dx [])) (fun v H2 => v = .non ∧ Q (.ref y) H2) E0) : wE X (.Call (.Name x p) [] [] pos) σ H Q := by
  obtain ⟨f, fd, ps, ds, Mk1, Fk, hm, hb, hd⟩ := M.ex
  obtain ⟨l, d1, _⟩ := I.glo hx
  obtain ⟨rfl, rfl, rfl, rfl, rfl, _, _, hr, _, _, _, _, _⟩ := I
  exact wE.of (pe_make0 Mk1 Fk (hr.mono hj) l hm hb hd passLN d1) q
/-- the same where it does not raise -/
theorem wE_methKQ {pl : Sem Bool} {gV : List V → List V → List V} (I : CxI P w K mg base k N Vz Sz G sc X) (c : Cls K C) (M : Mmx P w K mg base j C m ks gV sp) (hj : j ≤ k)
    (hall : (backToKw pos (keywordEach kws X.env)).all (·.1.isSome) = true) (hks : (backToKw pos (keywordEach kws X.env)).filterMap (·.1) = ks) (hpl : ((backTo pos (starEach [] X.env)).any (·.1) || (backToKw pos (keywordEach kws X.env)).any (·.1.isNone)) = false)
    (ht : eval (.Call (.Attribute o m apos) [] kws pos) X.env = (do
      let ov ← eval o X.env
      standAt apos.atName
      let (f, first) ← holding [ov] (getMethod ov m pl)
      callWith pos f first (backTo pos (starEach [] X.env)) (backToKw pos (keywordEach kws X.env))))
    (q : wE X o σ H fun y H1 => MetQ C m y H1 (wK X kws σ H1 fun zs H2 => zs.length = ks.length ∧ sp (gV [y] zs) H2 Q E0)) : wE X (.Call (.Attribute o m apos) [] kws pos) σ H Q := by
  obtain ⟨f, fd, ps, g, hm, Fk, hb⟩ := M.ex
  obtain ⟨rfl, rfl, rfl, rfl, rfl, _, _, hr, _, _, _, _, _⟩ := I
  refine ⟨fun pins s I => ?_⟩
  refine PySem.W.methodCall_KW (pl := pl) (thn (q.run pins s I) fun u s1 ⟨y, H1, I1, rx, a, dx, fs, ex, ea, l, q1⟩ => ?_) ht
  subst ex
  obtain rfl : u = Value.ref a := rx
  refine getmeth_ok I1 ea c hm l ?_
  refine PySem.W.callWith_KW0 (first := [.ref a]) (h₀ := X.base) I.ok.mod.kin hm.kp hall (thn (q1.run pos pins s1 I1) fun ws s2 ⟨zs, H2, I2, rz, l2, q2⟩ => ⟨I2.kIn, ?_⟩) hpl
  rw [hks]
  exact run_fnN (us := [.ref a]) (vs := [.ref a]) Fk (hr.mono hj) hb passLN I2 (.cons rfl .nil) rz rfl l2 q2
/-- C(k = v, ..): keywords alone, where it doesn't raise -/
theorem wE_makeKQ {gV : List V → List V → List V} (I : CxI P w K mg base k N Vz Sz G sc X) (M : Mkx P w K mg base j x C 0 ks gV sp) (hx : x ∈ G) (hj : j + 1 ≤ k)
    (hall : (backToKw pos (keywordEach kws X.env)).all (·.1.isSome) = true) (hks : (backToKw pos (keywordEach kws X.env)).filterMap (·.1) = ks) (hpl : ((backTo pos (starEach [] X.env)).any (·.1) || (backToKw pos (keywordEach kws X.env)).any (·.1.isNone)) = false)
    (q : wK X kws σ H fun zs H2 => zs.length = ks.length ∧ ∀ y dx, H2 y = none → H2 dx = none → dx ≠ y → sp (gV [.ref y] zs) (upd (upd H2 dx (.own y)) y (.ins C dx [])) (fun v H3 => v = .non ∧ Q (.ref y) H3) E0) : wE X (.Call (.Name x p) [] kws pos) σ H Q := by
  obtain ⟨f, fd, ps, g, Mk1, Fk, hm, hb⟩ := M.ex
  obtain ⟨l, d1, _⟩ := I.glo hx
  obtain ⟨rfl, rfl, rfl, rfl, rfl, _, _, hr, _, _, _, _, _⟩ := I
  refine wE.of (pe_makeK0 Mk1 Fk (hr.mono hj) l hm hb passLN wK.pk hall hks d1 hpl) ?_
  exact ⟨fun pos pins s J => thn (q.run pos pins s J) fun us s1 ⟨zs, H2, J2, r2, l2, q2⟩ => ⟨zs, H2, J2, r2, rfl, l2, q2⟩⟩
theorem exb_mut {b y : Addr} {H H1 H2 : Hp} (e : Exb b H H1) (h : H y = none) (k : Exb y H1 H2) : Exb b H H2 := fun c o hc z => k c o (fun w => by rw [w, h] at z; cases z) (e c o hc z)
end
end Rp
namespace Rp
open PySem PySem.Spec PyProof.Rows L2
/-! ### zip of two, each a list or a tuple; a comprehension over it -/
def Itz2 (K : PySem.W.Frag) (a b : Addr) (j k : Bool) : It :=
  ⟨fun i H => ∃ (xs ys : List V) (x y : V), SqB K j H a xs ∧ SqB K k H b ys ∧ xs[i]? = some x ∧ ys[i]? = some y,
    fun i H v H' => ∃ T x y, v = .ref T ∧ H T = none ∧ H' = upd H T (.tup [x, y]) ∧ (∀ xs, SqB K j H a xs → xs[i]? = some x) ∧ (∀ ys, SqB K k H b ys → ys[i]? = some y),
    fun i H => ∃ xs ys : List V, SqB K j H a xs ∧ SqB K k H b ys ∧ xs.length = i ∧ ys.length = i⟩
def St2z (z TI TO i1 i2 a b : Addr) (j k : Bool) (i : Nat) (h : Heap) : Prop := IsZip h z TI TO .none ∧ IsTupOf2 h TI (.ref i1) (.ref i2) ∧ (∃ a1 a2, IsTupOf2 h TO a1 a2) ∧ ItrB j h i1 a i ∧ ItrB k h i2 b i
theorem turn_zip2 {P : Program} {w : World} {K : PySem.W.Frag} {elts : List Expr} {kk : Nat} {tpos : Pos} {z TI TO i1 i2 a b : Addr} {j k : Bool} (D : ZipSep2 z TI TO i1 i2 [i1, a] [i2, b]) (n1 : a ≠ i1) (n2 : b ≠ i2) :
    Turn P w K (.Tuple elts kk tpos) (Itz2 K a b j k) [z, TI, TO, i1, i2] z (St2z z TI TO i1 i2 a b j k) where
  mem := by simp
  obj := fun i h st d hd => by
    obtain ⟨hz, hTI, ⟨x, y, hTO⟩, h1, h2⟩ := st
    have e' : d = z ∨ d = TI ∨ d = TO ∨ d = i1 ∨ d = i2 := by simpa using hd
    rcases e' with q | q | q | q | q
    · rw [q]; exact ⟨_, hz, fun v q => nomatch q⟩
    · rw [q]; exact ⟨_, hTI, fun v q => nomatch q⟩
    · rw [q]; exact ⟨_, hTO, fun v q => nomatch q⟩
    · rw [q]; exact itrB_obj h1
    · rw [q]; exact itrB_obj h2
  keep := fun i h h' st kp => by
    obtain ⟨hz, hTI, ⟨x, y, hTO⟩, h1, h2⟩ := st
    exact ⟨kp z (by simp) _ hz, kp TI (by simp) _ hTI, ⟨x, y, kp TO (by simp) _ hTO⟩, itrB_at h1 fun o q => kp i1 (by simp) o q, itrB_at h2 fun o q => kp i2 (by simp) o q⟩
  item := by
    intro X hP hw hK hc i pins s σ H E I hf st hg
    subst hP hw hK
    obtain ⟨xs, ys, x, y, hqx, hqy, hx, hy⟩ := hg
    obtain ⟨its, rv, p⟩ := seqB_raw I hqx
    obtain ⟨its2, rv2, p2⟩ := seqB_raw I hqy
    have l1 : i < its.toArray.size := by have := (List.getElem?_eq_some_iff.mp hx).1; have := rv.length; simp only [List.size_toArray]; omega
    have l2 : i < its2.toArray.size := by have := (List.getElem?_eq_some_iff.mp hy).1; have := rv2.length; simp only [List.size_toArray]; omega
    have hh : X.A.in1.handled = none := I.ok.hd hc
    have G := GoesN.zip2 (elts := elts) (x1 := kk) (pos := tpos) (w := X.w) (prog := X.prog) D (drawsB hh j i1 a n1 its.toArray) (drawsB hh k i2 b n2 its2.toArray)
    obtain ⟨hz, hTI, hTO, h1, h2⟩ := st
    have hlt : ∀ d, d ∈ [z, TI, TO, i1, i2] → d < s.heap.objs.size := fun d hd => by
      have e' : d = z ∨ d = TI ∨ d = TO ∨ d = i1 ∨ d = i2 := by simpa using hd
      rcases e' with q | q | q | q | q
      · rw [q]; exact Heap.lt_size hz
      · rw [q]; exact Heap.lt_size hTI
      · rw [q]; obtain ⟨_, _, e⟩ := hTO; exact Heap.lt_size e
      · rw [q]; obtain ⟨_, e, _⟩ := itrB_obj h1; exact Heap.lt_size e
      · rw [q]; obtain ⟨_, e, _⟩ := itrB_obj h2; exact Heap.lt_size e
    refine wpAny_mono (G.goes i s (fun v s2 => ∃ x H', Inv X pins σ H' s2 ∧ RelV x v ∧ (Itz2 X.K a b j k).yld i H x H' ∧ St2z z TI TO i1 i2 a b j k (i + 1) s2.heap ∧ ∀ d ∈ [z, TI, TO, i1, i2], H' d = none) E (by omega) ⟨hz, hTI, hTO, ⟨h1, p⟩, ⟨h2, p2⟩⟩ fun v h' tk hY hS hk _ => ?_) (fun _ _ q => q) fun _ _ q => q
    obtain ⟨T, v1, v2, rfl, hT, e1, e2, hTup⟩ := hY
    obtain ⟨u1, hu1, ru1⟩ := rv.get hx
    obtain ⟨u2, hu2, ru2⟩ := rv2.get hy
    have q1 : u1 = v1 := by rw [show its.toArray[i]? = its[i]? by simp, hu1] at e1; exact Option.some.inj e1
    have q2 : u2 = v2 := by rw [show its2.toArray[i]? = its2[i]? by simp, hu2] at e2; exact Option.some.inj e2
    subst q1 q2
    have new : ObjOk X.prog X.w (upd H T (.tup [x, y])) h' T (.tup [x, y]) := ⟨by show 2 ≤ sizeLine; decide, [u1, u2], .cons ru1 (.cons ru2 .nil), hTup⟩
    have I1 : Inv X pins σ (upd H T (.tup [x, y])) { s with heap := h', toks := tk } :=
      I.turnedNew (t' := tk) (ch := [z, TI, TO, i1, i2]) (fun d o hb q => hk d o (fun hm => hb (by simp only [List.mem_cons, List.not_mem_nil, or_false] at hm ⊢; rcases hm with m | m | m | m <;> simp [m])) q) hf hT new
    refine ⟨.ref T, _, I1, rfl, ⟨T, x, y, rfl, I.hok.fresh hT, rfl, fun l hl => by rw [sqB_inj I hl hqx]; exact hx, fun l hl => by rw [sqB_inj I hl hqy]; exact hy⟩, ?_, fun d hd => ?_⟩
    · obtain ⟨s1, s2, s3, s4, s5⟩ := hS
      exact ⟨s1, s2, s3, s4.1, s5.1⟩
    · rw [upd_ne (Nat.ne_of_lt (Nat.lt_of_lt_of_le (hlt d hd) hT))]
      exact (hf d hd).1
  done := by
    intro X hP hw hK hc i pins s σ H E I hf st hg
    subst hP hw hK
    obtain ⟨xs, ys, hqx, hqy, m1, m2⟩ := hg
    obtain ⟨its, rv, p⟩ := seqB_raw I hqx
    obtain ⟨its2, rv2, p2⟩ := seqB_raw I hqy
    have l1 : its.toArray.size = i := by have := rv.length; simp only [List.size_toArray]; omega
    have l2 : its2.toArray.size = i := by have := rv2.length; simp only [List.size_toArray]; omega
    have hh : X.A.in1.handled = none := I.ok.hd hc
    have G := GoesN.zip2 (elts := elts) (x1 := kk) (pos := tpos) (w := X.w) (prog := X.prog) D (drawsB hh j i1 a n1 its.toArray) (drawsB hh k i2 b n2 its2.toArray)
    obtain ⟨hz, hTI, hTO, h1, h2⟩ := st
    have em : min its.toArray.size its2.toArray.size = i := by rw [l1, l2]; simp
    rw [em] at G
    refine G.stops s (fun s1 => Inv X pins σ H s1) E ⟨hz, hTI, hTO, ⟨h1, p⟩, ⟨h2, p2⟩⟩ fun h' tk hk _ => ?_
    exact I.turnedL (t' := tk) (ch := [z, TI, TO, i1, i2]) (fun d o hb q => hk d o (fun hm => hb (by simp only [List.mem_cons, List.not_mem_nil, or_false] at hm ⊢; rcases hm with m | m | m | m <;> simp [m])) q) hf
  self := fun A i s Q E st h => wpAny_pyIter_zip st.1 h
def iZip2 (K : PySem.W.Frag) (j k : Bool) (ta : TA) : TI := fun σ H R => ta σ H fun vs H1 => ∃ a b xs ys, vs = [.ref a, .ref b] ∧ SqB K j H1 a xs ∧ SqB K k H1 b ys ∧ R (Itz2 K a b j k) H1
theorem pi_zip2 {X : Cx} {e e2 : Expr} {ta : TA} {p pos tpos : Pos} {elts : List Expr} {kk : Nat} (j k : Bool) (hg : Gl X "zip") (hm : X.mg "zip" = none) (ha : PA X [e, e2] ta)
    (hs : starEach [e, e2] X.env = (false, eval e X.env) :: starEach [e2] X.env) (hpl : (backTo pos (starEach [e2] X.env)).any (·.1) = false) :
    PI X (.Tuple elts kk tpos) (.Call (.Name "zip" p) [e, e2] [] pos) (iZip2 X.K j k ta) := by
  refine ⟨fun pins s σ H R I h => ?_⟩
  refine Call_ (ld_blt I hg hm PyProof.Rows.boot_zip (PyProof.Rows.callWith_type1 (thn (ha.run pos pins s σ H _ I h) fun us s1 ⟨vs, H1, I1, r1, q1⟩ => ?_) hs hpl))
  obtain ⟨a, b, xs, ys, ex, hqx, hqy, q⟩ := q1
  subst ex
  obtain ⟨u1, u2, rfl, r, r'⟩ : ∃ u1 u2, us = [u1, u2] ∧ RelV (.ref a) u1 ∧ RelV (.ref b) u2 := by
    cases r1 with
    | cons r rr => cases rr with
      | cons r' rr => cases rr; exact ⟨_, _, rfl, r, r'⟩
  cases r
  cases r'
  obtain ⟨its, rv, p1⟩ := seqB_raw I1 hqx
  obtain ⟨its2, rv2, p2⟩ := seqB_raw I1 hqy
  have la : a < s1.heap.objs.size := isB2_lt p1
  have lb : b < s1.heap.objs.size := isB2_lt p2
  obtain ⟨oa, Ba, ha0⟩ := beginsB j a its.toArray
  obtain ⟨ob, Bb, hb0⟩ := beginsB k b its2.toArray
  refine zip_begins2 Ba Bb p1 p2 fun h' hz hTI hTO g1 g2 hsz hk => wpAny_pyIter_zip hz ?_
  have I2 : Inv X pins σ H1 { s1 with heap := h' } := I1.kept (t' := s1.toks) hk
  have S := zip_sep2 (N := s1.heap.objs.size) (fp1 := [a]) (fp2 := [b]) (fun d hd => by rw [List.mem_singleton.mp hd]; exact la) (fun d hd => by rw [List.mem_singleton.mp hd]; exact lb)
  refine ⟨s1.heap.objs.size + 4, [s1.heap.objs.size + 4, s1.heap.objs.size + 2, s1.heap.objs.size + 3, s1.heap.objs.size, s1.heap.objs.size + 1], _, _, H1, rfl, I2, turn_zip2 S (Nat.ne_of_lt la) (Nat.ne_of_lt (Nat.lt_succ_of_lt lb)),
    ⟨hz, hTI, ⟨_, _, hTO⟩, ha0 _ _ g1, hb0 _ _ g2⟩, fun d hdm => ?_, q⟩
  have hle : s1.heap.objs.size ≤ d := by
    have e' : d = s1.heap.objs.size + 4 ∨ d = s1.heap.objs.size + 2 ∨ d = s1.heap.objs.size + 3 ∨ d = s1.heap.objs.size ∨ d = s1.heap.objs.size + 1 := by simpa using hdm
    rcases e' with z | z | z | z | z
    · rw [z]; exact Nat.le_add_right _ _
    · rw [z]; exact Nat.le_add_right _ _
    · rw [z]; exact Nat.le_add_right _ _
    · rw [z]; exact Nat.le_refl _
    · rw [z]; exact Nat.le_add_right _ _
  exact I1.fpOk hle (I1.hok.fresh hle)
section
variable {P : Program} {w : World} {K : PySem.W.Frag} {mg : Str → Option Value} {base : Heap} {k : Nat} {N Vz Sz' G : List Str} {sc scope : Scope} {X : Cx} {σ : L2.St} {H : Hp} {Q : VK} {elt : Expr} {elts ifs : List Expr} {e e2 : Expr} {p1 p2 pos tpos : Pos} {kk : Nat}
/-- the turns of a comprehension over zip(xs, ys), both of one length -/
def LcZ (P : Program) (w : World) (K : PySem.W.Frag) (mg : Str → Option Value) (base : Heap) (k : Nat) (N Vc Sc' Gc : List Str) (scope : Scope) (j1 j2 : Bool) (ix : List Nat) (elt tg : Expr) (ifs : List Expr) (σ : L2.St) (vs : List V) (H1 : Hp) (Q : Addr → Hp → Prop) : Prop :=
  ∃ a b xs ys, vs = [.ref a, .ref b] ∧ SqB K j1 H1 a xs ∧ SqB K j2 H1 b ys ∧ xs.length = ys.length ∧ ∀ D, H1 D = none → ∃ Pv : Nat → Hp → Prop, Pv 0 (L2.upd H1 D (.lst [])) ∧ (∀ i H, i ≤ xs.length → Pv i H → SqB K j1 H a xs ∧ SqB K j2 H b ys) ∧
    (∀ i x y T H H', xs[i]? = some x → ys[i]? = some y → Pv i H → H T = none → Ex H H' → H' T = some (.tup [x, y]) → LcStep P w K mg base k N Vc Sc' Gc scope ix elt tg ifs σ D (.ref T) H' (Pv (i + 1))) ∧ ∀ H, Pv xs.length H → Q D H
theorem wE_lcZ (j1 j2 : Bool) (own : List (Str × Nat)) (Vc Sc' Gc : List Str) (C : CxI P w K mg base k N Vz Sz' G sc X) (ob : blkC N sc scope own = true) (ok : namesOk Vc Sc' Gc (relS scope sc) = true) (hl : localsOk Sc' (relS scope sc) = true) (hk : scope.kind = .function)
    (hm : mg "zip" = none) (hx : ("zip" : Str) ∈ G) (hs : starEach [e, e2] X.env = (false, eval e X.env) :: starEach [e2] X.env) (hpl : (backTo p2 (starEach [e2] X.env)).any (·.1) = false)
    (q : wA X [e, e2] σ H fun vs H1 => LcZ P w K mg base k N Vc Sc' Gc (relS scope sc) j1 j2 (own.map (·.2)) elt (.Tuple elts kk tpos) ifs σ vs H1 fun D H => Q (.ref D) H) :
    wE X (.ListComp elt [⟨.Tuple elts kk tpos, .Call (.Name "zip" p1) [e, e2] [] p2, ifs, 0⟩] scope pos) σ H Q := by
  obtain ⟨l, _, _⟩ := C.glo hx
  refine wE.of (pe_lc C.calm (by rw [C.eN]; exact C.nd) (pi_zip2 j1 j2 l (by rw [C.em]; exact hm) wA.pa hs hpl) (blkOk_by (own := own) (by rw [C.eN, C.es]; exact ob)) (blk_pg C ok hl hk) (fun s H Ca cl fp => blk_pts C ok hl hk s H Ca cl fp ifs) (blk_pe C ok hl hk) (fun _ => rfl)) ?_
  show wA X [e, e2] σ H _
  refine ⟨fun pp pins s I => thn (q.run pp pins s I) ?_⟩
  rintro uu s1 ⟨vs, H1, I1, r1, a, b, xs, ys, ev, q1, q2, ll, q3⟩
  refine ⟨vs, H1, I1, r1, a, b, xs, ys, ev, by rw [C.eK]; exact q1, by rw [C.eK]; exact q2, fun D hD => ?_⟩
  obtain ⟨Pv, h0, hq, hst, hd⟩ := q3 D hD
  refine ⟨fun i m H => m = xs.length - i ∧ i ≤ xs.length ∧ Pv i H, ⟨xs.length, rfl, Nat.zero_le _, h0⟩, ?_⟩
  rintro i m H ⟨rfl, hi, pv⟩
  obtain ⟨k1, k2⟩ := hq i H hi pv
  by_cases hlt : i < xs.length
  · have g1 : xs[i]? = some xs[i] := List.getElem?_eq_getElem hlt
    have g2 : ys[i]? = some (ys[i]'(by omega)) := List.getElem?_eq_getElem _
    refine .inr ⟨⟨xs, ys, _, _, by rw [C.eK]; exact k1, by rw [C.eK]; exact k2, g1, g2⟩, Pv (i + 1), fun H' p' => ⟨xs.length - (i + 1), by omega, rfl, hlt, p'⟩, fun v H' y => ?_⟩
    obtain ⟨T, x', y', rfl, hT, rfl, f1, f2⟩ := y
    exact hst i x' y' T H _ (f1 xs (by rw [C.eK]; exact k1)) (f2 ys (by rw [C.eK]; exact k2)) pv hT (Ex.upd hT) upd_same
  · have e' : i = xs.length := by omega
    subst e'
    exact .inl ⟨⟨xs, ys, by rw [C.eK]; exact k1, by rw [C.eK]; exact k2, rfl, by omega⟩, hd H pv⟩
end
section
variable {P : Program} {w : World} {K : PySem.W.Frag} {mg : Str → Option Value} {base : Heap} {k j : Nat} {N Vz Sz G : List Str} {sc : Scope} {x m : Str} {p pos apos : Pos} {ks : List Str} {kws : List Keyword} {X : Cx} {C : Addr} {σ : L2.St} {H : Hp} {Q : VK} {dvs : List V} {sp : Sp} {o : Expr} {E : XK}
/-- o.m() where it doesn't raise -/
theorem wE_methQ0 {pl : Sem Bool} (I : CxI P w K mg base k N Vz Sz G sc X) (c : Cls K C) (M : Me P w K mg base j C m dvs sp) (hj : j ≤ k)
    (ht : eval (.Call (.Attribute o m apos) [] [] pos) X.env = (do
      let ov ← eval o X.env
      standAt apos.atName
      let (f, first) ← holding [ov] (getMethod ov m pl)
      callWith pos f first (backTo pos (starEach [] X.env)) (backToKw pos (keywordEach [] X.env))))
    (q : wE X o σ H fun y H1 => MetQ C m y H1 (sp (y :: dvs) H1 Q E0)) : wE X (.Call (.Attribute o m apos) [] [] pos) σ H Q := by
  obtain ⟨f, fd, ps, ds, hm, Fk, hb, hd⟩ := M.ex
  obtain ⟨rfl, rfl, rfl, rfl, rfl, _, _, hr, _, _, _, _, _⟩ := I
  refine wE.of (pe_meth0 wE.pe c hm Fk (hr.mono hj) hb hd passLN ht) ⟨fun pins s I => thn (q.run pins s I) ?_⟩
  rintro u s1 ⟨y, H1, I1, r1, ad, dx, fs, e1, e2, e3, q1⟩
  exact ⟨y, H1, I1, r1, ad, dx, fs, e1, e2, e3, q1⟩
/-- x(k = v, ..) where it does not raise -/
theorem wE_callKQ {gV : List V → List V → List V} (I : CxI P w K mg base k N Vz Sz G sc X) (D : Dk P w K mg base j x 0 ks gV sp) (hx : x ∈ G) (hj : j ≤ k)
    (hall : (backToKw pos (keywordEach kws X.env)).all (·.1.isSome) = true) (hks : (backToKw pos (keywordEach kws X.env)).filterMap (·.1) = ks) (hpl : ((backTo pos (starEach [] X.env)).any (·.1) || (backToKw pos (keywordEach kws X.env)).any (·.1.isNone)) = false)
    (q : wK X kws σ H fun zs H2 => zs.length = ks.length ∧ sp (gV [] zs) H2 Q E0) : wE X (.Call (.Name x p) [] kws pos) σ H Q := by
  obtain ⟨f, fd, ps, g, Fk, hm, kp, hb⟩ := D.ex
  obtain ⟨l, d1, _⟩ := I.glo hx
  obtain ⟨rfl, rfl, rfl, rfl, rfl, _, _, hr, _, _, _, _, _⟩ := I
  refine ⟨fun pins s J => wpAny_Call_Name_kw (ld_glob J l hm ?_ d1)⟩
  refine PySem.W.callWith_KW0 (first := []) (h₀ := X.base) J.ok.mod.kin kp hall (thn (q.run pos pins s J) fun ws s2 ⟨zs, H2, J2, rz, l2, q2⟩ => ⟨J2.kIn, ?_⟩) hpl
  rw [hks]
  exact run_fnN (us := []) (vs := []) Fk (hr.mono hj) hb passLN J2 .nil rz rfl l2 q2
end
end Rp
namespace Rp
open PySem PySem.Spec PyProof.Rows L2
section
variable {P : Program} {w : World} {K : PySem.W.Frag} {mg : Str → Option Value} {base : Heap} {k : Nat} {N Vz Sz G Vc Sc' Gc : List Str} {sc scope : Scope} {X : Cx} {elt tg it c e e2 : Expr} {ifs elts : List Expr} {kk : Nat} {σ : L2.St} {H : Hp} {pos p1 p2 tpos : Pos} {Q : VK} {D : Ends}
/-- y = [.. for .. in range(e)] on one line -/
theorem wS_lcR {y : Str} {py spos : Pos} (own : List (Str × Nat)) (Vc Sc' Gc : List Str) (C : CxI P w K mg base k N Vz Sz G sc X) (ob : blkC N sc scope own = true) (ok : namesOk Vc Sc' Gc (relS scope sc) = true) (hl : localsOk Sc' (relS scope sc) = true) (hk : scope.kind = .function)
    (hyN : y ∈ N) (hy : (sc.names.lookup y == some .local) = true) (hp : (py.line == pos.line) = true) (ha : (scope.names.any fun (n, k) => n == y && (k == .local || k == .cell)) = false)
    (hm : mg "range" = none) (hx : ("range" : Str) ∈ G) (hst : starEach [e] X.env = [(false, eval e X.env)])
    (q : wE X e σ H fun v H1 => LcR P w K mg base k N Vc Sc' Gc (relS scope sc) (own.map (·.2)) elt tg ifs σ v H1 fun Da H => Put N σ y (.ref Da) fun σ' => D.nx σ' H) :
    wS X (.Assign [.Name y py] (.ListComp elt [⟨tg, .Call (.Name "range" p1) [e] [] p2, ifs, 0⟩] scope pos) spos) D σ H := by
  obtain ⟨l, _, _⟩ := C.glo hx
  have hyl : X.env.scope.names.lookup y = some .local := by rw [C.es]; exact eq_of_beq hy
  have hin : ∃ i, N[i]? = some y ∧ ∀ (v : V) R, Put N σ y v R → R (σ.set i (some v)) := by
    obtain ⟨i, hi⟩ := List.getElem?_of_mem hyN
    refine ⟨i, hi, fun v R q => ?_⟩
    obtain ⟨σ', p, r⟩ := q
    obtain ⟨j, hj, rfl⟩ := p.ix
    rw [nodup_ix C.nd hi hj]
    exact r
  obtain ⟨i, hi, hput⟩ := hin
  refine wS.of (ps_setLc (i := i) C.calm (by rw [C.eN]; exact C.nd) (by rw [C.eN]; exact hi) hyl (sw_true (by rw [C.es]; exact C.fk) hyl hp ha) (pi_range1 l (by rw [C.em]; exact hm) (pa_cons wE.pe pa_nil hst) hst) (blkOk_by (own := own) (by rw [C.eN, C.es]; exact ob)) (blk_pg C ok hl hk) (fun s H Ca cl fp => blk_pts C ok hl hk s H Ca cl fp ifs) (blk_pe C ok hl hk) (fun _ => rfl)) ?_
  refine ⟨fun pins s I => thn (q.run pins s I) ?_⟩
  rintro u s1 ⟨v, H1, I1, r1, n, rfl, hn, q1⟩
  refine ⟨_, H1, I1, r1, n, rfl, by omega, by omega, ?_⟩
  rw [show ((n : Int).toNat) = n from Int.toNat_natCast n]
  intro Da hD
  obtain ⟨Pv, h0, hs, hd⟩ := q1 Da hD
  refine ⟨fun i m H => m = n - i ∧ i ≤ n ∧ Pv i H, ⟨n, rfl, Nat.zero_le _, h0⟩, ?_⟩
  rintro j m H ⟨rfl, hj, p⟩
  by_cases hlt : j < n
  · refine .inr ⟨hlt, Pv (j + 1), fun H' p' => ⟨n - (j + 1), by omega, rfl, hlt, p'⟩, fun x H' y => ?_⟩
    obtain ⟨rfl, rfl⟩ := y
    rw [Int.zero_add]
    exact hs j H' hlt p
  · have e' : j = n := by omega
    subst e'
    exact .inl ⟨Nat.le_refl _, hput _ _ (hd H p)⟩
/-- y = [.. for a, b in zip(e, e2)] on one line -/
theorem wS_lcZ (j1 j2 : Bool) {y : Str} {py spos : Pos} (own : List (Str × Nat)) (Vc Sc' Gc : List Str) (C : CxI P w K mg base k N Vz Sz G sc X) (ob : blkC N sc scope own = true) (ok : namesOk Vc Sc' Gc (relS scope sc) = true) (hl : localsOk Sc' (relS scope sc) = true) (hk : scope.kind = .function)
    (hyN : y ∈ N) (hy : (sc.names.lookup y == some .local) = true) (hp : (py.line == pos.line) = true) (ha : (scope.names.any fun (n, k) => n == y && (k == .local || k == .cell)) = false)
    (hm : mg "zip" = none) (hx : ("zip" : Str) ∈ G) (hs : starEach [e, e2] X.env = (false, eval e X.env) :: starEach [e2] X.env) (hpl : (backTo p2 (starEach [e2] X.env)).any (·.1) = false)
    (q : wA X [e, e2] σ H fun vs H1 => LcZ P w K mg base k N Vc Sc' Gc (relS scope sc) j1 j2 (own.map (·.2)) elt (.Tuple elts kk tpos) ifs σ vs H1 fun Da H => Put N σ y (.ref Da) fun σ' => D.nx σ' H) :
    wS X (.Assign [.Name y py] (.ListComp elt [⟨.Tuple elts kk tpos, .Call (.Name "zip" p1) [e, e2] [] p2, ifs, 0⟩] scope pos) spos) D σ H := by
  obtain ⟨l, _, _⟩ := C.glo hx
  have hyl : X.env.scope.names.lookup y = some .local := by rw [C.es]; exact eq_of_beq hy
  have hin : ∃ i, N[i]? = some y ∧ ∀ (v : V) R, Put N σ y v R → R (σ.set i (some v)) := by
    obtain ⟨i, hi⟩ := List.getElem?_of_mem hyN
    refine ⟨i, hi, fun v R q => ?_⟩
    obtain ⟨σ', p, r⟩ := q
    obtain ⟨j, hj, rfl⟩ := p.ix
    rw [nodup_ix C.nd hi hj]
    exact r
  obtain ⟨i, hi, hput⟩ := hin
  refine wS.of (ps_setLc (i := i) C.calm (by rw [C.eN]; exact C.nd) (by rw [C.eN]; exact hi) hyl (sw_true (by rw [C.es]; exact C.fk) hyl hp ha) (pi_zip2 j1 j2 l (by rw [C.em]; exact hm) wA.pa hs hpl) (blkOk_by (own := own) (by rw [C.eN, C.es]; exact ob)) (blk_pg C ok hl hk) (fun s H Ca cl fp => blk_pts C ok hl hk s H Ca cl fp ifs) (blk_pe C ok hl hk) (fun _ => rfl)) ?_
  show wA X [e, e2] σ H _
  refine ⟨fun pp pins s I => thn (q.run pp pins s I) ?_⟩
  rintro uu s1 ⟨vs, H1, I1, r1, a, b, xs, ys, ev, q1, q2, ll, q3⟩
  refine ⟨vs, H1, I1, r1, a, b, xs, ys, ev, by rw [C.eK]; exact q1, by rw [C.eK]; exact q2, fun Da hD => ?_⟩
  obtain ⟨Pv, h0, hq, hst, hd⟩ := q3 Da hD
  refine ⟨fun i m H => m = xs.length - i ∧ i ≤ xs.length ∧ Pv i H, ⟨xs.length, rfl, Nat.zero_le _, h0⟩, ?_⟩
  rintro j m H ⟨rfl, hj, pv⟩
  obtain ⟨k1, k2⟩ := hq j H hj pv
  by_cases hlt : j < xs.length
  · have g1 : xs[j]? = some xs[j] := List.getElem?_eq_getElem hlt
    have g2 : ys[j]? = some (ys[j]'(by omega)) := List.getElem?_eq_getElem _
    refine .inr ⟨⟨xs, ys, _, _, by rw [C.eK]; exact k1, by rw [C.eK]; exact k2, g1, g2⟩, Pv (j + 1), fun H' p' => ⟨xs.length - (j + 1), by omega, rfl, hlt, p'⟩, fun v H' y => ?_⟩
    obtain ⟨T, x', y', rfl, hT, rfl, f1, f2⟩ := y
    exact hst j x' y' T H _ (f1 xs (by rw [C.eK]; exact k1)) (f2 ys (by rw [C.eK]; exact k2)) pv hT (Ex.upd hT) upd_same
  · have e' : j = xs.length := by omega
    subst e'
    exact .inl ⟨⟨xs, ys, by rw [C.eK]; exact k1, by rw [C.eK]; exact k2, rfl, by omega⟩, hput _ _ (hd H pv)⟩
end
end Rp
namespace Rp
open PySem PySem.Spec PyProof.Rows L2
/-! ### a table's keys, what is no key of it -/
theorem says_dic {fa : List He.Fa} {fn : List He.DefD} {ts : List He.Tab} {w : World} {K : PySem.W.Frag} (c : He.SaysT fa fn ts w K) (i : Nat) {t : He.Tab} (h : ts[i]? = some t := by rfl) : He.dicW K (t.1 K) = some (He.keysIn w.params t.2) := by
  have e : ts.map (fun t => He.dicW K (t.1 K)) = ts.map fun t => some (He.keysIn w.params t.2) := congrArg (fun z : He.AlT => z.2) c
  have e2 : (ts.map fun t => He.dicW K (t.1 K))[i]? = (ts.map fun t => some (He.keysIn w.params t.2))[i]? := by rw [e]
  rw [List.getElem?_map, List.getElem?_map, h] at e2
  exact Option.some.inj e2
theorem key_in {P : Params} {z : Str} {l : List DictEntry} {ks : List Str} (h : l.map He.keyOf = He.keysIn P ks) {e : DictEntry} (he : e ∈ l) : ∃ k t, k ∈ ks ∧ e.key = .str k t := by
  have m : He.keyOf e ∈ He.keysIn P ks := by rw [← h]; exact List.mem_map.mpr ⟨e, he, rfl⟩
  obtain ⟨k, hk, ek⟩ := List.mem_map.mp m
  unfold He.keyOf at ek
  split at ek
  · rename_i x t q
    have := (Prod.mk.inj (Option.some.inj ek)).1
    exact ⟨x, t, this ▸ hk, q⟩
  · cases ek
theorem nsIn_none {K : PySem.W.Frag} {w : World} {a : Addr} {ks : List Str} {z : Str} (h : He.dicW K a = some (He.keysIn w.params ks)) (hz : ¬ z ∈ ks) : PySem.W.nsIn K a z = some none := by
  unfold He.dicW at h
  unfold PySem.W.nsIn
  split at h
  · rename_i c es n sl q
    rw [q]
    split at h
    · have h := Option.some.inj h
      have f : es.toList.find? (·.key.isStr z) = none := by
        rw [List.find?_eq_none]
        intro e he hs
        obtain ⟨k, t, hk, ek⟩ := key_in (z := z) h he
        rw [ek] at hs
        have hs : (k == z) = true := hs
        exact hz ((eq_of_beq hs) ▸ hk)
      have g : es.toList.any (·.refKey) = false := by
        rw [List.any_eq_false]
        intro e he hs
        obtain ⟨k, t, hk, ek⟩ := key_in (z := z) h he
        unfold DictEntry.refKey at hs
        rw [ek] at hs
        cases hs
      show (match es.toList.find? (·.key.isStr z) with
        | some e => some (some e.val)
        | none => if es.toList.any (·.refKey) then none else some none) = some none
      rw [f]
      show (if es.toList.any (·.refKey) = true then (none : Option (Option Value)) else some none) = some none
      rw [g]
      rfl
    · cases h
  · cases h
/-! ### dicts made here, text keys -/
section
variable {P : Program} {w : World} {K : PySem.W.Frag} {mg : Str → Option Value} {base : Heap} {k : Nat} {N Vz Sz' G : List Str} {sc : Scope} {X : Cx} {σ : L2.St} {H : Hp} {Q : VK} {x : Str} {v : V} {c d : Expr} {pos : Pos}
theorem i_dk {p : Addr} {kvs : List (Key × V)} (C : CxI P w K mg base k N Vz Sz' G sc X) (hs : PlainIx d) (h : H p = some (.dK kvs)) (l : valV kvs (.inr x) = some v) (q : Q v H) : wIx X c d (.ref p) (.str x) H Q := by
  refine ⟨fun pins s σ v0 u I rx ry => ?_⟩
  have g : DGet H p (.str x) (some v) := .inl ⟨kvs, .inr x, .inl h, rfl, l.symm⟩
  obtain rfl : v0 = Value.ref p := rx
  exact tail_any (dict_typeIs I g) slot_dict_getitem.lookup (d_getItem (by have := C.room.units; omega) I g ry fun w' s3 I3 rw' => ⟨v, H, I3, rw', q⟩) (hs _ _)
/-- {a1: e1, .., a5: e5} -/
theorem wE_dispK5 {a1 a2 a3 a4 a5 e1 e2 e3 e4 e5 : Expr}
    (q : ∀ p H1, H p = none → Ex H H1 → H1 p = some (.dK []) → wE X a1 σ H1 fun y1 H2 => wE X e1 σ H2 fun x1 H3 => wE X a2 σ H3 fun y2 H4 => wE X e2 σ H4 fun x2 H5 => wE X a3 σ H5 fun y3 H6 => wE X e3 σ H6 fun x3 H7 => wE X a4 σ H7 fun y4 H8 => wE X e4 σ H8 fun x4 H9 => wE X a5 σ H9 fun y5 HA => wE X e5 σ HA fun x5 HB =>
      HB p = some (.dK []) ∧ ∃ kvs : List (Key × V), [(y1, x1), (y2, x2), (y3, x3), (y4, x4), (y5, x5)] = kvs.map (fun kv => (kV kv.1, kv.2)) ∧ kvs.length ≤ 15 ∧ ∀ HC, Exb p HB HC → HC p = some (.dK (mergeK [] kvs)) → Q (.ref p) HC) :
    wE X (.Dict [some a1, some a2, some a3, some a4, some a5] [e1, e2, e3, e4, e5] pos) σ H Q := by
  refine wE.of (pe_disp (pps_cons (wE.pe (e := a1)) (wE.pe (e := e1)) (pps_cons (wE.pe (e := a2)) (wE.pe (e := e2)) (pps_cons (wE.pe (e := a3)) (wE.pe (e := e3)) (pps_cons (wE.pe (e := a4)) (wE.pe (e := e4)) (pps_cons (wE.pe (e := a5)) (wE.pe (e := e5)) pps_nil))))) rfl rfl (by simp) (by show 5 ≤ 15; decide)) fun p hp => ?_
  refine ⟨fun pins s I => thn ((q p _ hp (Ex.upd hp) upd_same).run pins s I) ?_⟩
  rintro u s1 ⟨y1, H1, I1, r1, q1⟩
  refine ⟨y1, H1, I1, r1, ⟨fun pins s I => thn (q1.run pins s I) ?_⟩⟩
  rintro u s1 ⟨x1, H2, I2, r2, q2⟩
  refine ⟨x1, H2, I2, r2, ⟨fun pins s I => thn (q2.run pins s I) ?_⟩⟩
  rintro u s1 ⟨y2, H3, I3, r3, q3⟩
  refine ⟨y2, H3, I3, r3, ⟨fun pins s I => thn (q3.run pins s I) ?_⟩⟩
  rintro u s1 ⟨x2, H4, I4, r4, q4⟩
  refine ⟨x2, H4, I4, r4, ⟨fun pins s I => thn (q4.run pins s I) ?_⟩⟩
  rintro u s1 ⟨y3, H5, I5, r5, q5⟩
  refine ⟨y3, H5, I5, r5, ⟨fun pins s I => thn (q5.run pins s I) ?_⟩⟩
  rintro u s1 ⟨x3, H6, I6, r6, q6⟩
  refine ⟨x3, H6, I6, r6, ⟨fun pins s I => thn (q6.run pins s I) ?_⟩⟩
  rintro u s1 ⟨y4, H7, I7, r7, q7⟩
  refine ⟨y4, H7, I7, r7, ⟨fun pins s I => thn (q7.run pins s I) ?_⟩⟩
  rintro u s1 ⟨x4, H8, I8, r8, q8⟩
  refine ⟨x4, H8, I8, r8, ⟨fun pins s I => thn (q8.run pins s I) ?_⟩⟩
  rintro u s1 ⟨y5, H9, I9, r9, q9⟩
  refine ⟨y5, H9, I9, r9, ⟨fun pins s I => thn (q9.run pins s I) ?_⟩⟩
  rintro u s1 ⟨x5, H10, I10, r10, q10, kvs, ek, lk, qq⟩
  exact ⟨x5, H10, I10, r10, q10, kvs, ek, lk, qq _ Exb.upd upd_same⟩
end
end Rp
namespace Rp
open PySem PySem.Spec PyProof.Rows L2
/-! ### the signs of a text, one by one; a call of nothing -/
section
variable {P : Program} {w : World} {K : PySem.W.Frag} {mg : Str → Option Value} {base : Heap} {k j : Nat} {N Vz Sz G ps : List Str} {sc : Scope} {X : Cx} {σ : L2.St} {H : Hp} {Q : VK} {pos p : Pos} {x : Str} {dvs : List V} {sp : Sp}
theorem wS_text {tg it : Expr} {sts : List Stmt} {D : Ends} (C : CxI P w K mg base k N Vz Sz G sc X) (hf : ∀ x, foldedSetIterable it X.env x = pure x) (q : wE X it σ H fun v H1 => ∃ z : Str, v = .str z ∧ ∃ Pv : Nat → L2.St → Hp → Prop, Pv 0 σ H1 ∧
      (∀ i c σ H, z.cps[i]? = some c → Pv i σ H → wG X tg (.str ⟨#[c]⟩) σ H fun σ2 H2 => wB X sts { D with nx := Pv (i + 1), ct := Pv (i + 1), bk := D.nx } σ2 H2) ∧ ∀ σ H, Pv z.cps.size σ H → D.nx σ H)
    : wS X (.For tg it sts [] pos) D σ H := by
  refine wS.of (ps_for C.po C.calm (pi_str wE.pe) wG.pg wB.pss hf) ?_
  refine ⟨fun pins s I => ?_⟩
  refine thn (q.run pins s I) ?_
  rintro u s' ⟨v, H1, I1, r, z, rfl, Pv, h0, hs, hd⟩
  refine ⟨_, H1, I1, r, z, rfl, fun i m σ H => m = z.cps.size - i ∧ i ≤ z.cps.size ∧ Pv i σ H, ⟨z.cps.size, rfl, Nat.zero_le _, h0⟩, ?_⟩
  rintro i m σ H ⟨rfl, hi, p⟩
  by_cases hlt : i < z.cps.size
  · refine .inr ⟨hlt, Pv (i + 1), fun σ' H' p' => ⟨z.cps.size - (i + 1), by omega, rfl, hlt, p'⟩, fun x H' y => ?_⟩
    obtain ⟨rfl, c, hc, rfl⟩ := y
    exact hs i c σ _ hc p
  · have e' : i = z.cps.size := by omega
    subst e'
    exact .inl ⟨Nat.le_refl _, hd σ H p⟩
theorem wE_call0 (C : CxI P w K mg base k N Vz Sz G sc X) (D : Df P w K mg base j x ps dvs sp) (hx : x ∈ G) (hj : j ≤ k)
    (q : sp dvs H Q E0) : wE X (.Call (.Name x p) [] [] pos) σ H Q := by
  obtain ⟨f, fd, ds, Fk, hm, kp, hb, hd⟩ := D.ex
  obtain ⟨l, d1, _⟩ := C.glo hx
  obtain ⟨rfl, rfl, rfl, rfl, rfl, _, _, hr, _, _, _, _, _⟩ := C
  exact wE.of (pe_call0 Fk (hr.mono hj) l hm kp hb hd pass0 d1) (by show sp ([] ++ dvs) H Q E0; exact q)
end
end Rp
namespace Rp
open PySem PySem.Spec PyProof.Rows L2
/-! ### set(xs) of a list of ints, sorted(set) -/
abbrev freshSet (w : World) : Obj := { cls := .type "set", dict := none, data := .set #[] 0 (.fresh 0 0 (!w.params.followText "set-order")) }
/-- what set(xs) leaves: the set of the ints, all else as it was -/
def SetMade (w : World) (s s2 : Shared) (ns : List Int) : Prop := ∃ h' tk c, s2 = { s with heap := h', toks := tk } ∧ SetR w h' s.heap.objs.size (fun j => decide (j ∈ ns)) c ∧ c ≤ ns.length ∧ ∀ b o, s.heap.get? b = some o → h'.get? b = some o
section
variable {P : Program} {w : World} {A : Around} {E : Value → Shared → Prop} {s : Shared}
theorem call_set_ints {l : Addr} {items : Array Value} {ns : List Int} {Q : Value → Shared → Prop} (hh : A.handled = none) (hl : s.heap.IsList l items) (hit : IntsAre items.toList ns) (hb : ns.length + 1 < scanBound)
    (q : ∀ s2, SetMade w s s2 ns → Q (.ref s.heap.objs.size) s2) : wpAny (model P w) A (call (.type "set") [.ref l]) Q E s := by
  have hsz : items.size = ns.length := by have z := IntsAre.length hit; rwa [Array.length_toList] at z
  obtain ⟨c, tl, hmro⟩ := F.called_set.mro
  have hmade := F.called_set.made
  have hsub := F.called_set.sub
  refine wpAny_call (codeAny_of_tree ?_)
  show wpAny _ _ (callAny (.type "set") _) _ _ _
  refine wpAny_pure ⟨Code.quiet_builtin _ (by decide +kernel), codeAny_builtin F.entry_type_call ?_⟩
  rw [Around.under_plain (weight_type_call_type "set" [.ref l] []) rfl]
  have h1 := F.called_set.notType
  have h2 := F.called_set.canCreate
  have hct := F.typeCall_set_1 (.ref l)
  repeat (any_goals (first | assumption | wp_step))
  refine codeAny_mono (code_set_led1 (.ref l) (E := E) (Q₁ := fun obj s₁ => obj = .ref s.heap.objs.size ∧ s₁ = { s with heap := s.heap.push (freshSet w) }) ⟨rfl, rfl⟩) fun r s₁ hr => ?_
  rcases r with e | fl
  · exact hr
  cases fl with
  | ret obj =>
    obtain ⟨rfl, rfl⟩ := hr
    have hS : (s.heap.push (freshSet w)).get? s.heap.objs.size = some (freshSet w) := Heap.get?_push_size _ rfl
    have hT : Shared.TypeIs { s with heap := s.heap.push (freshSet w) } (.ref s.heap.objs.size) "set" := ⟨_, hS, rfl⟩
    have hli := F.called_set.init.lookup
    have hbi := F.called_set.init.bind (.ref s.heap.objs.size)
    repeat (any_goals (first | assumption | wp_step))
    refine codeAny_mono (codeAny_call_builtin (R := wants (fun r s2 => r = .none ∧ SetMade w s s2 ns) E) F.called_set.init.plain F.entry_set_init (check_set_init_1 hT ?_)) fun r₂ s₂ hr₂ => ?_
    · have hl1 : (s.heap.push (freshSet w)).IsList l items := hl.push _
      have hlS : l < s.heap.objs.size := by obtain ⟨o, ho, _⟩ := hl; exact Heap.lt_size ho
      obtain ⟨⟨oc, od, dt, osl⟩, hol, hcl, nl, hdl⟩ := hl1
      simp only at hcl hdl
      subst hcl; subst hdl
      have hl1 : (s.heap.push (freshSet w)).IsList l items := ⟨_, hol, rfl, nl, rfl⟩
      have hsls := F.sub_list_set
      have hslf := F.sub_list_frozenset
      have hne : (Value.type "list" == Value.type "dict") = false := by decide
      have k1 : (s.heap.push (freshSet w)).objs.size = s.heap.objs.size + 1 := Heap.size_push ..
      unfold Builtin.«set.__init__» noKeywords Builtin.Frozenset.updateFrom
      generalize hPI : pyIter = PI
      wp_walk
      subst hPI
      refine wpAny_pyIter_list hl1 (wpAny_bind (wpAny_runValue ?_))
      have hh3 : A.in1.in1.in1.handled = none := by simp [hh]
      have nI : l ≠ (s.heap.push (freshSet w)).objs.size := by rw [k1]; exact Nat.ne_of_lt (Nat.lt_succ_of_lt hlS)
      have nS : s.heap.objs.size ∉ [(s.heap.push (freshSet w)).objs.size, l] := by
        rw [k1]; intro z
        rcases List.mem_cons.mp z with z | z
        · exact Nat.ne_of_lt (Nat.lt_succ_self _) z
        · exact Nat.ne_of_gt hlS (List.mem_singleton.mp z)
      have hval : ∀ (i : Nat) (v : Value), items[i]? = some v → ∃ k t, ns[i]? = some k ∧ v = .int k t := fun i v hv => by
        have hi : i < ns.length := by have := (Array.getElem?_eq_some_iff.mp hv).1; omega
        obtain ⟨t, e⟩ := PyProof.Rows.IntsAre.int_at hit i v (by rw [Array.getElem?_toList]; exact hv)
        refine ⟨ns[i], t, List.getElem?_eq_getElem hi, ?_⟩
        rw [e, List.getD_eq_getElem?_getD, List.getElem?_eq_getElem hi] <;> rfl
      refine set_update_ints ((Walks.list hh3 _ l nI items).toS) s.heap.objs.size nS ns hsz hb hval (items.size - 0) 0 _ (by omega) (Nat.zero_le _) ⟨⟨_, Heap.get?_push_size _ rfl, rfl, rfl⟩, (hl1.push _)⟩ ⟨0, Nat.le_refl 0, setR_new_at (Heap.get?_push_of_some _ hS)⟩ ?_
      rintro ⟨h', g2, d', tk', os'⟩ c' hm hc' hS'
      obtain rfl : g2 = s.gens := hm.gens
      obtain rfl : d' = s.drawn := hm.drawn
      obtain rfl : os' = s.os := hm.os
      show wpAny _ _ _ _ _ _
      refine wpAny_pure ?_
      show wpAny _ _ (ret Value.none) _ _ _
      refine wpAny_pure ⟨rfl, h', tk', c', rfl, hS', by omega, fun b o e => ?_⟩
      have hb0 : b < s.heap.objs.size := Heap.lt_size e
      refine hm.heap b o (fun z => ?_) (Heap.get?_push_of_some _ (Heap.get?_push_of_some _ e))
      rcases List.mem_cons.mp z with z | z
      · exact Nat.ne_of_lt hb0 z
      · have := List.mem_singleton.mp z; rw [k1] at this; exact Nat.ne_of_lt (Nat.lt_succ_of_lt hb0) this
    · rcases r₂ with e | fl₂
      · exact hr₂
      cases fl₂ with
      | ret r =>
        obtain ⟨rfl, hm⟩ := hr₂
        repeat (any_goals (first | assumption | wp_step))
        exact q _ hm
      | _ => exact hr₂.elim
  | _ => exact hr.elim
end
section
variable {P : Program} {w : World} {K : PySem.W.Frag} {mg : Str → Option Value} {base : Heap} {k : Nat} {N Vz Sz G : List Str} {sc : Scope} {X : Cx} {σ : L2.St} {H : Hp} {Q : VK}
/-- the set of ints at p -/
def IsSet (w : World) (H : Hp) (p : Addr) (ns : List Int) : Prop := ∃ n, n ≤ ns.length ∧ H p = some (SetO w p (fun j => decide (j ∈ ns)) n)
theorem c_setI {a : Addr} {ns : List Int} (C : CxI P w K mg base k N Vz Sz G sc X) (h : SqL K H a (ns.map V.int)) (hb : ns.length + 1 < scanBound) (q : ∀ p H', H p = none → Ex H H' → IsSet w H' p ns → Q (.ref p) H') : wC X (.type "set") [.ref a] H Q := by
  have hc := C.calm
  obtain ⟨rfl, rfl, rfl, _⟩ := C
  refine ⟨fun pins s σ us I r => ?_⟩
  rw [Vals.ref1 r]
  obtain ⟨its, rv, pl, hz⟩ := I.list h
  have hn : H s.heap.objs.size = none := I.hok.fresh (Nat.le_refl _)
  refine call_set_ints (I.ok.hd hc) pl.isList (by simpa using rv.ints) hb fun s2 ⟨h', tk, c, e, R, hc', kp⟩ => ?_
  subst e
  exact ⟨.ref s.heap.objs.size, upd H s.heap.objs.size (SetO X.w s.heap.objs.size (fun j => decide (j ∈ ns)) c), I.laid (t' := tk) kp (Nat.le_refl _) (setO_new R), rfl, q _ _ hn (Ex.upd hn) ⟨c, hc', upd_same⟩⟩
theorem c_sortedI {a : Addr} {ns : List Int} (C : CxI P w K mg base k N Vz Sz G sc X) (h : IsSet w H a ns) (hl : ns.length < 64) (q : ∀ (es : List Int) p H', es.Pairwise (· < ·) → (∀ k : Int, k ∈ es ↔ k ∈ ns) → es.length ≤ ns.length → H p = none → Ex H H' → H' p = some (.lst (es.map V.int)) → Q (.ref p) H') : wC X (.builtin "sorted") [.ref a] H Q := by
  have hc := C.calm
  obtain ⟨rfl, rfl, rfl, _⟩ := C
  obtain ⟨n, hn, hs⟩ := h
  exact wC.of (cr_sortedSet hc) ⟨a, _, n, rfl, hs, by omega, fun es p pw mem len hp => q es p _ pw (fun k => by rw [mem k]; exact decide_eq_true_iff) (by omega) hp (Ex.upd hp) upd_same⟩
end
end Rp
namespace Rp
open PySem PySem.Spec PyProof.Rows L2
section
variable {P : Program} {w : World} {K : PySem.W.Frag} {mg : Str → Option Value} {base : Heap} {k : Nat} {N Vz Sz G : List Str} {sc : Scope} {X : Cx} {σ : L2.St} {H : Hp} {D : Ends} {elts : List Expr} {e e2 d d2 : Expr} {sts : List Stmt} {p1 p2 pos tpos : Pos} {kk : Nat} {Q : VK}
/-- for .. in zip(xs, ys), both of one length -/
theorem wS_zip2 (j1 j2 : Bool) (C : CxI P w K mg base k N Vz Sz G sc X) (hm : mg "zip" = none) (hx : ("zip" : Str) ∈ G) (hs : starEach [e, e2] X.env = (false, eval e X.env) :: starEach [e2] X.env) (hpl : (backTo p2 (starEach [e2] X.env)).any (·.1) = false)
    (q : wA X [e, e2] σ H fun vs H1 => ∃ a b xs ys, vs = [.ref a, .ref b] ∧ SqB K j1 H1 a xs ∧ SqB K j2 H1 b ys ∧ xs.length = ys.length ∧ ∃ Pv : Nat → L2.St → Hp → Prop, Pv 0 σ H1 ∧
      (∀ i σ H, i ≤ xs.length → Pv i σ H → SqB K j1 H a xs ∧ SqB K j2 H b ys) ∧
      (∀ i x y T σ H H', xs[i]? = some x → ys[i]? = some y → Pv i σ H → H T = none → Ex H H' → H' T = some (.tup [x, y]) → wG X (.Tuple elts kk tpos) (.ref T) σ H' fun σ2 H2 => wB X sts { D with nx := Pv (i + 1), ct := Pv (i + 1), bk := D.nx } σ2 H2) ∧ ∀ σ H, Pv xs.length σ H → D.nx σ H) :
    wS X (.For (.Tuple elts kk tpos) (.Call (.Name "zip" p1) [e, e2] [] p2) sts [] pos) D σ H := by
  obtain ⟨l, _, _⟩ := C.glo hx
  refine wS.of (ps_for C.po C.calm (pi_zip2 j1 j2 l (by rw [C.em]; exact hm) wA.pa hs hpl) wG.pg wB.pss (fun _ => rfl)) ?_
  show wA X [e, e2] σ H _
  refine ⟨fun pp pins s I => thn (q.run pp pins s I) ?_⟩
  rintro uu s1 ⟨vs, H1, I1, r1, a, b, xs, ys, ev, q1, q2, l1, Pv, h0, hq, hst, hd⟩
  refine ⟨vs, H1, I1, r1, a, b, xs, ys, ev, by rw [C.eK]; exact q1, by rw [C.eK]; exact q2, ?_⟩
  refine ⟨fun i m σ H => m = xs.length - i ∧ i ≤ xs.length ∧ Pv i σ H, ⟨xs.length, rfl, Nat.zero_le _, h0⟩, ?_⟩
  rintro i m σ H ⟨rfl, hi, pv⟩
  obtain ⟨k1, k2⟩ := hq i σ H hi pv
  by_cases hlt : i < xs.length
  · have g1 : xs[i]? = some xs[i] := List.getElem?_eq_getElem hlt
    have g2 : ys[i]? = some (ys[i]'(by omega)) := List.getElem?_eq_getElem _
    refine .inr ⟨⟨xs, ys, _, _, by rw [C.eK]; exact k1, by rw [C.eK]; exact k2, g1, g2⟩, Pv (i + 1), fun σ' H' p' => ⟨xs.length - (i + 1), by omega, rfl, hlt, p'⟩, fun v H' y => ?_⟩
    obtain ⟨T, x', y', rfl, hT, rfl, f1, f2⟩ := y
    exact hst i x' y' T σ H _ (f1 xs (by rw [C.eK]; exact k1)) (f2 ys (by rw [C.eK]; exact k2)) pv hT (Ex.upd hT) upd_same
  · have e' : i = xs.length := by omega
    subst e'
    exact .inl ⟨⟨xs, ys, by rw [C.eK]; exact k1, by rw [C.eK]; exact k2, rfl, by omega⟩, hd σ H pv⟩
/-- e[d:d2] -/
theorem wE_slBoth (C : CxI P w K mg base k N Vz Sz G sc X) (q : wE X e σ H fun x H1 => wE X d σ H1 fun y H2 => IsI y fun i => wE X d2 σ H2 fun z H3 => IsI z fun j => SlQ K x (some i) (some j) H3 fun p H' => Q (.ref p) H') : wE X (.Subscript e (.Slice (some d) (some d2) none p2) pos) σ H Q := by
  refine wE_sl (sl_tup.or sl_list) (po_some wE.pe) (po_some wE.pe) ⟨fun pins s I => ?_⟩
  refine thn (q.run pins s I) ?_
  rintro u s1 ⟨x, H1, I1, r1, q1⟩
  refine ⟨x, H1, I1, r1, ?_⟩
  show wE X d σ H1 _
  refine ⟨fun pins s I => ?_⟩
  refine thn (q1.run pins s I) ?_
  rintro u s1 ⟨y, H2, I2, r2, i, rfl, q2⟩
  refine ⟨_, H2, I2, r2, i, rfl, ?_⟩
  show wE X d2 σ H2 _
  refine ⟨fun pins s I => ?_⟩
  refine thn (q2.run pins s I) ?_
  rintro u s1 ⟨z, H3, I3, r3, j, rfl, q3⟩
  exact ⟨_, H3, I3, r3, j, rfl, slq_run C q3⟩
theorem o_inD {x y : V} {d : PyData} {ds : List PyData} (C : CxI P w K mg base k N Vz Sz G sc X) (h1 : Dp K H x d) (h2 : Dp K H y (.list ds)) (s1 : SeqAt.shaped d = true) (s2 : SeqAt.shaped (.list ds) = true) (q : Q (.bl (ds.any fun z => PyData.eqv z d)) H) : wO X (compareOp .In) x y H Q :=
  wO.of (op_inD (by have := C.room.un; omega)) ⟨d, ds, by rw [C.eK]; exact h1, by rw [C.eK]; exact h2, s1, s2, q⟩
end
end Rp
namespace Rp
open PySem PySem.Spec PyProof.Rows L2
/-! ### sets of tuples of ints, sorted; lists of tuples of ints, alike -/
theorem eqv_rows : ∀ ns ms : List (List Int), PyData.eqvAll (ns.map fun n => PyData.tuple (n.map PyData.int)) (ms.map fun n => PyData.tuple (n.map PyData.int)) = decide (ns = ms)
  | [], [] => rfl
  | [], m :: ms => rfl
  | n :: ns, [] => rfl
  | n :: ns, m :: ms => by
    show (PyData.eqvAll (n.map PyData.int) (m.map PyData.int) && PyData.eqvAll (ns.map fun n => PyData.tuple (n.map PyData.int)) (ms.map fun n => PyData.tuple (n.map PyData.int))) = decide (n :: ns = m :: ms)
    rw [eqv_ints, eqv_rows ns ms]
    by_cases h1 : n = m <;> by_cases h2 : ns = ms <;> simp [h1, h2]
section
variable {P : Program} {w : World} {K : PySem.W.Frag} {mg : Str → Option Value} {base : Heap} {k : Nat} {N Vz Sz G : List Str} {sc : Scope} {X : Cx} {σ : L2.St} {H : Hp} {Q : VK}
theorem o_eqRows {a b : Addr} {qs ps : List Addr} {ns ms : List (List Int)} (C : CxI P w K mg base k N Vz Sz G sc X) (h1 : SqL K H a (qs.map V.ref)) (pr : Paired (fun q ns => SqT K H q (ns.map V.int)) qs ns) (h2 : SqL K H b (ps.map V.ref)) (ps2 : Paired (fun q ns => SqT K H q (ns.map V.int)) ps ms) (q : Q (.bl (decide (ns = ms))) H) :
    wO X (compareOp .Eq) (.ref a) (.ref b) H Q :=
  wO.of (op_eqD C.room.units) ⟨_, _, by rw [C.eK]; exact .lst h1 (dpa_rows pr), by rw [C.eK]; exact .lst h2 (dpa_rows ps2), shp_list ns, shp_list ms, by
    show Q (.bl (PyData.eqvAll (ns.map fun n => PyData.tuple (n.map PyData.int)) (ms.map fun n => PyData.tuple (n.map PyData.int)))) H
    rw [eqv_rows]; exact q⟩
def IsSetT (P : Program) (w : World) (H : Hp) (p : Addr) (L : List (Addr × List Int)) : Prop := H p = some (SetTO P w p L)
theorem c_setT {l : Addr} {ks : List (Addr × List Int)} (C : CxI P w K mg base k N Vz Sz G sc X) (h : SqL K H l (ks.map fun p => V.ref p.1)) (hk : ∀ p ∈ ks, SqT K H p.1 (p.2.map V.int)) (hl : ks.length < 64)
    (q : ∀ a L H', H a = none → Ex H H' → IsSetT P w H' a L → (∀ p ∈ L, p ∈ ks) → (∀ p ∈ ks, p.2 ∈ L.map (·.2)) → Q (.ref a) H') : wC X (.type "set") [.ref l] H Q := by
  have hc := C.calm
  have hu := C.room.units
  obtain ⟨rfl, rfl, rfl, _⟩ := C
  exact wC.of (cr_setOfT hc hu) ⟨l, ks, rfl, h, hk, hl, fun a L ha h1 h2 => q a L _ ha (Ex.upd ha) upd_same h1 h2⟩
theorem c_sortedT {a : Addr} {L : List (Addr × List Int)} {d : Nat} {B : Int} (C : CxI P w K mg base k N Vz Sz G sc X) (h : IsSetT P w H a L) (hk : ∀ p ∈ L, SqT K H p.1 (p.2.map V.int)) (hd : 1 ≤ d) (hb : ∀ p ∈ L, p.2.length = d ∧ TS.Bd B p.2)
    (q : ∀ (L' : List (Addr × List Int)) p H', L'.Perm L → (L'.map (·.2)).Nodup → L'.Pairwise (fun q r => TS.code B q.2 ≤ TS.code B r.2) → H p = none → Ex H H' → H' p = some (.lst (L'.map fun q => V.ref q.1)) → Q (.ref p) H') : wC X (.builtin "sorted") [.ref a] H Q := by
  have hc := C.calm
  obtain ⟨rfl, rfl, rfl, _⟩ := C
  exact wC.of (cr_sortedT hc) ⟨a, L, d, B, rfl, h, hk, hd, hb, fun L' p pm nd _ pw hp => q L' p _ pm nd pw hp (Ex.upd hp) upd_same⟩
/-- slices of tuples, the whole of it too -/
def SlA (K : PySem.W.Frag) (x : V) (l h : Option Int) (H : Hp) (R : Addr → Hp → Prop) : Prop := ∃ a xs, x = .ref a ∧ SqT K H a xs ∧ ∀ p H', Ex H H' → SqT K H' p (cutV xs l h) → R p H'
theorem sla_run {x : V} {l h : Option Int} (C : CxI P w K mg base k N Vz Sz G sc X) (q : SlA K x l h H fun p H' => Q (.ref p) H') : rSlA X.K x l h H Q := by
  obtain ⟨a, xs, rfl, hq, q⟩ := q
  refine ⟨a, xs, rfl, by rw [C.eK]; exact hq, fun z => q a H (Ex.refl H) ?_, fun _ p hp => q p _ (Ex.upd hp) (SqT.of upd_same)⟩
  have e : cutV xs l h = xs := by
    unfold cutV
    rw [z.1, z.2, List.drop_zero, Nat.sub_zero, List.take_length]
  rw [e]; exact hq
variable {e d : Expr} {pos p2 : Pos}
theorem wE_slToA (C : CxI P w K mg base k N Vz Sz G sc X) (q : wE X e σ H fun x H1 => wE X d σ H1 fun y H2 => IsI y fun i => SlA K x none (some i) H2 fun p H' => Q (.ref p) H') : wE X (.Subscript e (.Slice none (some d) none p2) pos) σ H Q := by
  refine wE_sl sl_tupA po_none (po_some wE.pe) ⟨fun pins s I => ?_⟩
  refine thn (q.run pins s I) ?_
  rintro u s1 ⟨x, H1, I1, r1, q1⟩
  refine ⟨x, H1, I1, r1, ?_⟩
  show wE X d σ H1 _
  refine ⟨fun pins s I => ?_⟩
  refine thn (q1.run pins s I) ?_
  rintro u s1 ⟨y, H2, I2, r2, i, rfl, q2⟩
  exact ⟨_, H2, I2, r2, i, rfl, sla_run C q2⟩
theorem wE_slFromA (C : CxI P w K mg base k N Vz Sz G sc X) (q : wE X e σ H fun x H1 => wE X d σ H1 fun y H2 => IsI y fun i => SlA K x (some i) none H2 fun p H' => Q (.ref p) H') : wE X (.Subscript e (.Slice (some d) none none p2) pos) σ H Q := by
  refine wE_sl sl_tupA (po_some wE.pe) po_none ⟨fun pins s I => ?_⟩
  refine thn (q.run pins s I) ?_
  rintro u s1 ⟨x, H1, I1, r1, q1⟩
  refine ⟨x, H1, I1, r1, ?_⟩
  show wE X d σ H1 _
  refine ⟨fun pins s I => ?_⟩
  refine thn (q1.run pins s I) ?_
  rintro u s1 ⟨y, H2, I2, r2, i, rfl, q2⟩
  exact ⟨_, H2, I2, r2, i, rfl, sla_run C q2⟩
end
end Rp
/-! ### t[::-1] of a tuple -/
namespace HT
open PySem PySem.Spec PyProof.Rows L2
section
variable {prog : Program} {w : World} {A : Around} {E : Value → Shared → Prop} {s : Shared}
theorem sliceApplied_back {sl : Addr} {vl vu vs : Value} {n : Nat} {Q : Int × Int × Nat → Shared → Prop} (hs : s.heap.IsSliceOf sl vl vu vs) (pl : IsPart vl none) (pu : IsPart vu none) (ps : IsPart vs (some (-1)))
    (h : Q ((n : Int) - 1, -1, n) s) : wpAny (model prog w) A (Builtin.Slice.sliceApplied (.ref sl) (pure (n : Int))) Q E s := by
  obtain ⟨os, hos, hcs, hds⟩ := id hs
  unfold Builtin.Slice.sliceApplied Builtin.Slice.sliceFields
  refine wpAny_bind (wpAny_bind (wpAny_field hos hds (x := vl) rfl (wpAny_bind (wpAny_field hos hds (x := vu) rfl (wpAny_bind (wpAny_field hos hds (x := vs) rfl (wpAny_pure ?_)))))))
  refine wpAny_bind (slicePart_ ps ?_)
  show wpAny _ _ (if ((-1 : Int) == 0) = true then _ else _) _ _ s
  rw [if_neg (by decide)]
  refine wpAny_bind (slicePart_ pl (wpAny_bind (slicePart_ pu (wpAny_bind (wpAny_pure ?_)))))
  show wpAny _ _ (match Builtin.Slice.sliceAdjust none none (-1) (n : Int) with | (lo, hi) => pure (lo, (-1 : Int), Builtin.Slice.slicePlaces lo hi (-1))) _ _ s
  have e1 : Builtin.Slice.sliceAdjust none none (-1) (n : Int) = ((n : Int) - 1, -1) := rfl
  rw [e1]
  have e2 : Builtin.Slice.slicePlaces ((n : Int) - 1) (-1) (-1) = n := by
    unfold Builtin.Slice.slicePlaces
    have h1 : ¬ ((-1 : Int) > 0) := by omega
    simp only [h1, if_false, show (- -1 : Int) = 1 from rfl, Int.ediv_one]
    split <;> omega
  show wpAny _ _ (pure ((n : Int) - 1, (-1 : Int), Builtin.Slice.slicePlaces ((n : Int) - 1) (-1) (-1))) _ _ s
  rw [e2]
  exact wpAny_pure h
theorem fm_congr {α β : Type} {f g : α → Option β} : ∀ {l : List α}, (∀ x ∈ l, f x = g x) → l.filterMap f = l.filterMap g
  | [], _ => rfl
  | x :: l, h => by rw [List.filterMap_cons, List.filterMap_cons, h x List.mem_cons_self, fm_congr fun y hy => h y (List.mem_cons_of_mem _ hy)]
theorem pick_back (xs : Array Value) : ((List.range xs.size).filterMap fun (m : Nat) => xs[(((xs.size : Nat) : Int) - 1 + (m : Int) * (-1)).toNat]?).toArray = (xs.toList.reverse).toArray := by
  congr 1
  have key : ∀ (L : List Value), (List.range L.length).filterMap (fun m => L[m]?) = L := by
    intro L
    induction L with
    | nil => rfl
    | cons x L ih =>
      rw [List.length_cons, List.range_succ_eq_map, List.filterMap_cons]
      simp only [List.getElem?_cons_zero]
      rw [List.filterMap_map]
      show x :: List.filterMap (fun m => (x :: L)[m + 1]?) (List.range L.length) = x :: L
      simp only [List.getElem?_cons_succ]
      rw [ih]
  have z := key xs.toList.reverse
  rw [List.length_reverse, Array.length_toList] at z
  refine Eq.trans (fm_congr fun m hm => ?_) z
  have hm := List.mem_range.mp hm
  rw [List.getElem?_reverse (by rw [Array.length_toList]; exact hm), Array.length_toList, Array.getElem?_toList]
  congr 1
  omega
theorem getItem_tuple_back {t sl : Addr} {items : Array Value} {vl vu vs : Value} {Q : Value → Shared → Prop} (ht : IsTup s.heap t items) (hs : s.heap.IsSliceOf sl vl vu vs) (pl : IsPart vl none) (pu : IsPart vu none) (ps : IsPart vs (some (-1)))
    (h : Q (.ref s.heap.objs.size) { s with heap := s.heap.push { cls := .type "tuple", data := .seq items.toList.reverse.toArray } })
    (hsz : items.size ≤ sizeLine) : wpAny (model prog w) A (getItem (.ref t) (.ref sl)) Q E s := by
  have htake : sizeOk (.seq items.toList.reverse.toArray) := by
    show items.toList.reverse.toArray.size ≤ sizeLine
    rw [List.size_toArray, List.length_reverse, Array.length_toList]
    exact hsz
  obtain ⟨os, hos, hcs, hds⟩ := id hs
  have hTs : s.TypeIs (.ref sl) "slice" := ⟨os, hos, hcs⟩
  unfold getItem
  try with_reducible refine wpAny_holding ?_
  first | refine wpAny_bind (wpAny_pure ?_) | skip
  refine wpAny_bind (wpAny_sequenceKey ht.typeIs (by decide) ?_)
  refine wpAny_bind (wpAny_callSpecial?_slot (name := Str.ofString "__getitem__") ht.typeIs PyProof.Rows.slot_tuple_getitem
    (wpAny_call_entry PyProof.Rows.slot_tuple_getitem ht.typeIs entry_tuple_getitem ?_ (args_tuple_getitem _ _)))
  show wpAny _ _ (Builtin.Tuple.tupleItemsOf (.ref t) >>= _) _ _ s
  refine wpAny_bind (tupleItemsOf_ ht ?_)
  refine wpAny_bind (wpAny_typeOf hTs ?_)
  rw [if_pos (by decide)]
  refine wpAny_bind (sliceApplied_back hs pl pu ps ?_)
  have hno : ¬ ((((items.size : Nat) : Int) - 1 == 0 && (-1 : Int) == 1 && items.size == items.size) = true) := by
    intro q
    rw [Bool.and_eq_true, Bool.and_eq_true] at q
    exact absurd (eq_of_beq q.1.2) (by decide)
  show wpAny _ _ (if (((items.size : Nat) : Int) - 1 == 0 && (-1 : Int) == 1 && items.size == items.size) = true then _ else _) _ _ s
  rw [if_neg hno, pick_back]
  first
    | exact wpAny_bind (m := Builtin.Tuple.tupleExact _) (wpAny_newObj_type (wpAny_pure ⟨_, rfl, wpAny_pure h⟩) htake)
    | exact wpAny_bind (m := Builtin.Tuple.tupleExact _) (wpAny_newObj_type (wpAny_bind (wpAny_pure (wpAny_pure ⟨_, rfl, wpAny_pure h⟩))) htake)
    | exact wpAny_bind (wpAny_bind (m := Builtin.Tuple.tupleExact _) (wpAny_newObj_type (wpAny_pure (wpAny_pure ⟨_, rfl, wpAny_pure h⟩)) htake))
    | exact wpAny_bind (wpAny_bind (m := Builtin.Tuple.tupleExact _) (wpAny_newObj_type (wpAny_pure ⟨_, rfl, wpAny_pure h⟩) htake))
end
end HT
namespace L2
open PySem PySem.Spec PyProof.Rows
section
variable {X : Cx}
def tRevT (K : PySem.W.Frag) (te : TE) : TE := fun σ H Q => te σ H fun x H1 => ∃ a xs, x = .ref a ∧ SqT K H1 a xs ∧ ∀ p, H1 p = none → Q (.ref p) (upd H1 p (.tup xs.reverse))
theorem pe_revT {e : Expr} {te : TE} {k : Nat} {p1 p2 p3 pos : Pos} (he : PE X e te) : PE X (.Subscript e (.Slice none none (some (.UnaryOp .USub (.Constant (.int 1) k p1) p2)) p3) pos) (tRevT X.K te) := by
  refine ⟨fun pins s σ H Q I h => ?_⟩
  refine Subscript_ (thn (he.run pins s σ H _ I h) fun v s1 ⟨x, H1, I1, r1, q1⟩ => ?_)
  obtain ⟨a, xs, ex, hx, q⟩ := q1
  subst ex
  cases r1
  have hst : PO X (some (.UnaryOp .USub (.Constant (.int 1) k p1) p2)) (tPart (tUn (rU fun i => .int (-i)) (tC (.int 1)))) := po_some (pe_un un_neg pe_int)
  refine wpAny_Slice (thn (po_none.run pins s1 σ H1 (fun o H2 => o = none ∧ H2 = H1) I1 ⟨rfl, rfl⟩) fun vl s2 ⟨l, H2, I2, pl, el, e2⟩ => ?_)
  subst el e2
  refine thn (po_none.run pins s2 σ H2 (fun o H3 => o = none ∧ H3 = H2) I2 ⟨rfl, rfl⟩) fun vu s3 ⟨u, H3, I3, pu, eu, e3⟩ => ?_
  subst eu e3
  refine thn (hst.run pins s3 σ H3 (fun o H4 => o = some (-1) ∧ H4 = H3) I3 ⟨1, rfl, -1, rfl, rfl, rfl⟩) fun vs s4 ⟨o, H4, I4, ps, eo, e4⟩ => ?_
  subst eo e4
  have I5 : Inv X pins σ H4 { s4 with heap := s4.heap.push { cls := .type "slice", data := .fields #[vl, vu, vs] } } := I4.kept (t' := s4.toks) fun b ob q => Heap.get?_push_of_some _ q
  obtain ⟨its, r, ht, hz⟩ := I5.tuple hx
  have hlen := r.length
  show wpAny (model X.prog X.w) X.A (subscriptTail e (.Slice none none (some (.UnaryOp .USub (.Constant (.int 1) k p1) p2)) p3) (.ref a) (.ref s4.heap.objs.size)) (EP X pins σ Q) X.xe { s4 with heap := s4.heap.push { cls := .type "slice", data := .fields #[vl, vu, vs] } }
  refine tail_any (ops := [.ref a, .ref s4.heap.objs.size]) ht.typeIs (PyProof.Rows.slot_tuple_getitem.lookup) ?_ (by with_unfolding_all rfl)
  refine HT.getItem_tuple_back ht (Heap.IsSliceOf.new _ vl vu vs) pl pu ps ?_ (by rw [List.size_toArray]; omega)
  refine ⟨.ref _, _, I5.laid (t' := s4.toks) (o := .tup xs.reverse) (fun b ob q => Heap.get?_push_of_some _ q) (Nat.le_refl _) ?_, rfl, q _ (I5.hok.fresh (Nat.le_refl _))⟩
  exact ⟨by rw [List.length_reverse]; exact hz, _, r.reverse, IsTup.new _ _⟩
end
end L2
namespace Rp
open PySem PySem.Spec PyProof.Rows L2
section
variable {P : Program} {w : World} {K : PySem.W.Frag} {mg : Str → Option Value} {base : Heap} {k : Nat} {N Vz Sz G : List Str} {sc : Scope} {X : Cx} {σ : L2.St} {H : Hp} {Q : VK}
variable {e d : Expr} {pos p1 p2 p3 : Pos}
theorem wE_revT {kk : Nat} (C : CxI P w K mg base k N Vz Sz G sc X) (q : wE X e σ H fun x H1 => ∃ a xs, x = .ref a ∧ H1 a = some (.tup xs) ∧ ∀ p H2, Ex H1 H2 → H2 p = some (.tup xs.reverse) → Q (.ref p) H2) :
    wE X (.Subscript e (.Slice none none (some (.UnaryOp .USub (.Constant (.int 1) kk p1) p2)) p3) pos) σ H Q := by
  refine wE.of (pe_revT wE.pe) ?_
  show wE X e σ H _
  refine ⟨fun pins s I => ?_⟩
  refine thn (q.run pins s I) ?_
  rintro u s1 ⟨x, H1, I1, r1, a, xs, rfl, hq, q1⟩
  exact ⟨_, H1, I1, r1, a, xs, rfl, by rw [C.eK]; exact .of hq, fun p hp => q1 p _ (Ex.upd hp) upd_same⟩
/-- slices of tuples of the heap -/
def SlH (x : V) (l h : Option Int) (H : Hp) (R : Addr → Hp → Prop) : Prop := ∃ a xs, x = .ref a ∧ H a = some (.tup xs) ∧ ∀ p H', Ex H H' → H' p = some (.tup (cutV xs l h)) → R p H'
theorem slh_run {x : V} {l h : Option Int} (C : CxI P w K mg base k N Vz Sz G sc X) (q : SlH x l h H fun p H' => Q (.ref p) H') : rSlA X.K x l h H Q := by
  obtain ⟨a, xs, rfl, hq, q⟩ := q
  refine ⟨a, xs, rfl, by rw [C.eK]; exact .of hq, fun z => q a H (Ex.refl H) ?_, fun _ p hp => q p _ (Ex.upd hp) upd_same⟩
  have e : cutV xs l h = xs := by
    unfold cutV
    rw [z.1, z.2, List.drop_zero, Nat.sub_zero, List.take_length]
  rw [e]; exact hq
theorem mem_cutV {xs : List V} {l h : Option Int} {x : V} (m : x ∈ cutV xs l h) : x ∈ xs := List.mem_of_mem_drop (List.mem_of_mem_take m)
variable {pos2 : Pos}
theorem wE_slToH (C : CxI P w K mg base k N Vz Sz G sc X) (q : wE X e σ H fun x H1 => wE X d σ H1 fun y H2 => IsI y fun i => SlH x none (some i) H2 fun p H' => Q (.ref p) H') : wE X (.Subscript e (.Slice none (some d) none p2) pos) σ H Q := by
  refine wE_sl sl_tupA po_none (po_some wE.pe) ⟨fun pins s I => ?_⟩
  refine thn (q.run pins s I) ?_
  rintro u s1 ⟨x, H1, I1, r1, q1⟩
  refine ⟨x, H1, I1, r1, ?_⟩
  show wE X d σ H1 _
  refine ⟨fun pins s I => ?_⟩
  refine thn (q1.run pins s I) ?_
  rintro u s1 ⟨y, H2, I2, r2, i, rfl, q2⟩
  exact ⟨_, H2, I2, r2, i, rfl, slh_run C q2⟩
theorem wE_slFromH (C : CxI P w K mg base k N Vz Sz G sc X) (q : wE X e σ H fun x H1 => wE X d σ H1 fun y H2 => IsI y fun i => SlH x (some i) none H2 fun p H' => Q (.ref p) H') : wE X (.Subscript e (.Slice (some d) none none p2) pos) σ H Q := by
  refine wE_sl sl_tupA (po_some wE.pe) po_none ⟨fun pins s I => ?_⟩
  refine thn (q.run pins s I) ?_
  rintro u s1 ⟨x, H1, I1, r1, q1⟩
  refine ⟨x, H1, I1, r1, ?_⟩
  show wE X d σ H1 _
  refine ⟨fun pins s I => ?_⟩
  refine thn (q1.run pins s I) ?_
  rintro u s1 ⟨y, H2, I2, r2, i, rfl, q2⟩
  exact ⟨_, H2, I2, r2, i, rfl, slh_run C q2⟩
end
end Rp
/-! ### t * n of a tuple, empty or not -/
namespace L2
open PySem PySem.Spec PyProof.Rows
theorem tuple_mulW0 (l : Addr) (items : Array Value) (n : Nat) (dd : Option Addr) (sl : Array (Option Value)) (x : Int) (u : Tok) (c0 : (decide (x < -(2 ^ 63)) || decide (x ≥ 2 ^ 63)) = false) (c1 : (items.isEmpty || x == 1) = true) :
    Meets (Builtin.«tuple.__mul__» ⟨[.ref l, .int x u], []⟩) (fun _ R s => s.heap.get? l = some { cls := .type "tuple", dict := dd, data := .seq items n, slots := sl } ∧ R (.ok (.ret (Value.ref l))) s) :=
  .of_wp fun prog w A R s h => by
    obtain ⟨hp, g, d, tk, os⟩ := s
    obtain ⟨hl, h⟩ := h
    have f1 := AutoSeq1.idx_int
    have f2 := AutoSeq1.sub_tuple_tuple
    wp_walk using wpAny_loadPart' hl
    repeat (first
      | (refine wpAny_ite_false (decide_eq_false (by rw [c0]; exact Bool.false_ne_true)) ?_; wp_walk using wpAny_loadPart' hl)
      | (refine wpAny_ite_true (decide_eq_true c1) ?_; wp_walk using wpAny_loadPart' hl))
    exact ⟨_, rfl, h⟩
def rRepT0 (K : PySem.W.Frag) : R2 := fun x y H Q => ∃ l k, x = .ref l ∧ y = .int k ∧ SqT K H l [] ∧ 2 ≤ k ∧ k ≤ 1000 ∧ Q (.ref l) H
section
variable {X : Cx}
theorem op_repT0 : OpR X (binaryOp .Mult) (rRepT0 X.K) := by
  intro pins s σ H x y v u Q I rx ry h
  obtain ⟨l, k, rfl, rfl, hT, h1, h2, q⟩ := h
  cases rx
  obtain ⟨t, rfl⟩ := ry
  obtain ⟨its, r, ⟨⟨cls, dd, data, sl⟩, ho, hc, n, hd⟩, hs⟩ := I.tuple hT
  simp only at hc hd
  subst hc hd
  cases r
  have c0 : (decide (k < -(2 ^ 63)) || decide (k ≥ 2 ^ 63)) = false := by
    rw [decide_eq_false (by omega), decide_eq_false (by omega)] <;> rfl
  refine wpAny_binaryOp_repeat_ref (T := "tuple") (U := "int") (by decide) ⟨_, ho, rfl⟩ (fun s' => typeIs_int s' k t) noFill_tuple_mul F.fills_int_mul F.slot_int_rmul repeat_tuple F.slot_int_index.lookup
    (call_meets F.slot_int_rmul (typeIs_int s k t) F.entry_int_rmul (F.args_int_rmul_2 _ _) (int_rmul_tuple k t l _ n dd sl)
      ⟨ho, rfl, ⟨_, ho, rfl⟩, call_meets F.slot_tuple_mul ⟨_, ho, rfl⟩ F.entry_tuple_mul (F.args_tuple_mul_2 _ _) (tuple_mulW0 l _ n dd sl k t c0 rfl) ⟨ho, ?_⟩⟩)
  exact ⟨.ref l, H, I, rfl, q⟩
end
end L2
namespace Rp
open PySem PySem.Spec PyProof.Rows L2
section
variable {P : Program} {w : World} {K : PySem.W.Frag} {mg : Str → Option Value} {base : Heap} {k : Nat} {N Vz Sz G : List Str} {sc : Scope} {X : Cx} {σ : L2.St} {H : Hp} {Q : VK}
theorem o_repTA {l : Addr} {n : Int} {xs : List V} (C : CxI P w K mg base k N Vz Sz G sc X) (h : H l = some (.tup xs)) (h1 : 2 ≤ n) (h2 : n ≤ 1000) (hl : xs.length ≤ 1000) (q : ∀ p H2, Ex H H2 → H2 p = some (.tup (List.replicate n.toNat xs).flatten) → Q (.ref p) H2) : wO X (binaryOp .Mult) (.ref l) (.int n) H Q := by
  by_cases e : xs = []
  · subst e
    refine wO.of op_repT0 ⟨l, n, rfl, rfl, by rw [C.eK]; exact .of h, h1, h2, q l H (Ex.refl H) ?_⟩
    rw [h]
    congr 2
    induction n.toNat with
    | zero => rfl
    | succ m ih => rw [List.replicate_succ, List.flatten_cons, ← ih]; rfl
  · exact wO.of op_repT ⟨l, n, xs, rfl, rfl, by rw [C.eK]; exact .of h, e, h1, h2, hl, fun p hp => q p _ (Ex.upd hp) upd_same⟩
end
end Rp
/-! ### lists of unlike lengths, == and !=; len of an own class -/
namespace Rp
open PySem PySem.Spec PyProof.Rows L2
section
open SeqAt MeetsSeq MeetsSeq2 MeetsSeq3 SeqRoads2
open AutoSeq1 (wpAny_loadPart')
variable {prog : Program} {w : World} {A : Around} {R : Result → Shared → Prop}
theorem list_eqU (l b : Addr) {items items2 : Array Value} {n n2 : Nat} {s : Shared} (hl1 : s.heap.get? l = some { cls := .type "list", data := .seq items n }) (hb1 : s.heap.get? b = some { cls := .type "list", data := .seq items2 n2 }) (h : items.size ≠ items2.size)
    (q : R (.ok (.ret (.bool false))) s) : wpAny (model prog w) A.in1 (Builtin.«list.__eq__» ⟨[.ref l, .ref b], []⟩) (GQ.FinOf prog w A R) (fun e s' => R (.error e) s') s := by
  obtain ⟨hp, g, d, tk, os⟩ := s
  have f3 := AutoSeq1.sub_list_list
  have hne : (items.size != items2.size) = true := bne_iff_ne.mpr h
  wp_walk using wpAny_loadPart' hl1, wpAny_loadPart' hb1
  exact q
theorem list_neU (l b : Addr) {items items2 : Array Value} {n n2 : Nat} {s : Shared} (hl1 : s.heap.get? l = some { cls := .type "list", data := .seq items n }) (hb1 : s.heap.get? b = some { cls := .type "list", data := .seq items2 n2 }) (h : items.size ≠ items2.size)
    (q : R (.ok (.ret (.bool true))) s) : wpAny (model prog w) A.in1 (Builtin.«list.__ne__» ⟨[.ref l, .ref b], []⟩) (GQ.FinOf prog w A R) (fun e s' => R (.error e) s') s := by
  obtain ⟨hp, g, d, tk, os⟩ := s
  have f3 := AutoSeq1.sub_list_list
  have hne : (items.size != items2.size) = true := bne_iff_ne.mpr h
  wp_walk using wpAny_loadPart' hl1, wpAny_loadPart' hb1
  exact q
end
section
open SeqAt MeetsSeq MeetsSeq2 MeetsSeq3 SeqRoads2
variable {prog : Program} {w : World} {A : Around} {E : Value → Shared → Prop} {s : Shared}
theorem rc_eqU {l b : Addr} {items items2 : Array Value} {n n2 : Nat} {Q : Value → Shared → Prop} (hu : A.units < cLine) (hl1 : s.heap.get? l = some { cls := .type "list", data := .seq items n }) (hb1 : s.heap.get? b = some { cls := .type "list", data := .seq items2 n2 }) (h : items.size ≠ items2.size)
    (q : Q (.bool false) s) : wpAny (model prog w) A (richCompare .Eq (.ref l) (.ref b)) Q E s := by
  refine wpAny_richCompare_same_room (op := .Eq) ⟨_, hl1, rfl⟩ ⟨_, hb1, rfl⟩ F.slot_list_eq (GQ.call_here F.slot_list_eq ⟨_, hl1, rfl⟩ F.entry_list_eq (F.args_list_eq_2 _ _) ?_) hu
  exact list_eqU (R := wants (fun v s' => v ≠ .notImplemented ∧ Q v s') E) l b hl1 hb1 h ⟨(fun x => nomatch x), q⟩
theorem rc_neU {l b : Addr} {items items2 : Array Value} {n n2 : Nat} {Q : Value → Shared → Prop} (hu : A.units < cLine) (hl1 : s.heap.get? l = some { cls := .type "list", data := .seq items n }) (hb1 : s.heap.get? b = some { cls := .type "list", data := .seq items2 n2 }) (h : items.size ≠ items2.size)
    (q : Q (.bool true) s) : wpAny (model prog w) A (richCompare .NotEq (.ref l) (.ref b)) Q E s := by
  refine wpAny_richCompare_same_room (op := .NotEq) ⟨_, hl1, rfl⟩ ⟨_, hb1, rfl⟩ F.slot_list_ne (GQ.call_here F.slot_list_ne ⟨_, hl1, rfl⟩ F.entry_list_ne (F.args_list_ne_2 _ _) ?_) hu
  exact list_neU (R := wants (fun v s' => v ≠ .notImplemented ∧ Q v s') E) l b hl1 hb1 h ⟨(fun x => nomatch x), q⟩
end
section
variable {P : Program} {w : World} {K : PySem.W.Frag} {mg : Str → Option Value} {base : Heap} {k j n : Nat} {N Vz Sz G : List Str} {sc : Scope} {X : Cx} {H : Hp} {Q : VK} {sp : Sp} {a b c dx : Addr} {fs : List (Str × V)} {xs ys : List V}
/-- == of lists of unlike lengths -/
theorem o_eqLU (C : CxI P w K mg base k N Vz Sz G sc X) (ha : H a = some (.lst xs)) (hb : H b = some (.lst ys)) (h : xs.length ≠ ys.length) (q : Q (.bl false) H) : wO X (compareOp .Eq) (.ref a) (.ref b) H Q := by
  refine ⟨fun pins s σ v u I rx ry => ?_⟩
  obtain rfl : v = Value.ref a := rx
  obtain rfl : u = Value.ref b := ry
  show wpAny _ _ (richCompare .Eq (.ref a) (.ref b)) _ _ _
  obtain ⟨z, its, k, r, e⟩ := I.hok a _ ha
  obtain ⟨z2, its2, k2, r2, e2⟩ := I.hok b _ hb
  exact rc_eqU C.room.units0 e e2 (by rw [List.size_toArray, List.size_toArray, ← r.length, ← r2.length]; exact h) ⟨.bl false, H, I, rfl, q⟩
theorem o_neLU (C : CxI P w K mg base k N Vz Sz G sc X) (ha : H a = some (.lst xs)) (hb : H b = some (.lst ys)) (h : xs.length ≠ ys.length) (q : Q (.bl true) H) : wO X (compareOp .NotEq) (.ref a) (.ref b) H Q := by
  refine ⟨fun pins s σ v u I rx ry => ?_⟩
  obtain rfl : v = Value.ref a := rx
  obtain rfl : u = Value.ref b := ry
  show wpAny _ _ (richCompare .NotEq (.ref a) (.ref b)) _ _ _
  obtain ⟨z, its, k, r, e⟩ := I.hok a _ ha
  obtain ⟨z2, its2, k2, r2, e2⟩ := I.hok b _ hb
  exact rc_neU C.room.units0 e e2 (by rw [List.size_toArray, List.size_toArray, ← r.length, ← r2.length]; exact h) ⟨.bl true, H, I, rfl, q⟩
/-- len of an own class -/
theorem lenK {prog : Program} {w : World} {A : Around} {E : Value → Shared → Prop} {s : Shared} {K : PySem.W.Frag} {x C f : Addr} {ox : Obj} {od : Option Obj} {Q : Value → Shared → Prop} (X : K.In s.heap) (I : PySem.W.InstAt s.heap x ox C od) (hs : PySem.W.findIn K (.ref C) "__len__" = some (some (.ref f))) (hf : PySem.W.isFn K (.ref f) = true)
    (h : wpAny (model prog w) A.in1 (call (.ref f) [.ref x]) (PySem.W.LenBack Q) E s) : wpAny (model prog w) A (call (.builtin "len") [.ref x]) Q E s := by
  refine Calls.call_function_entry kind_len plain_len entry_len (args_len1 _) ?_
  unfold Builtin.«len»
  refine wpAny_bind (m := oneArg "len" _) (wpAny_pure ?_)
  refine wpAny_bind (m := callSpecial? (.ref x) (Str.ofString "__len__")) (PySem.W.special_fn X I hs (beq_iff_eq.mp hf) (wpAny_mono h (fun r s' hr => ?_) fun _ _ y => y))
  cases r <;> first | exact hr.elim | skip
  rename_i n u
  obtain ⟨⟨h0, h1⟩, hq⟩ := hr
  refine wpAny_bind (wpAny_holding (wpAny_pure ?_))
  refine wpAny_bind (wpAny_letGo ?_)
  show wpAny _ _ (if n < 0 then _ else _) _ _ _
  rw [if_neg (by omega)]
  show wpAny _ _ (if n ≥ 2 ^ 63 then _ else _) _ _ _
  rw [if_neg (by omega)]
  exact wpAny_bind (wpAny_mkInt (wpAny_pure ⟨_, rfl, hq⟩))
theorem c_lenOwn (C : CxI P w K mg base k N Vz Sz G sc X) (M : Mo P w K mg base j c "__len__" sp) (hj : j + 1 ≤ k) (ha : H a = some (.ins c dx fs)) (q : sp [.ref a] H (fun v H' => ∃ i : Int, v = .int i ∧ (0 ≤ i ∧ i < 2 ^ 63) ∧ Q (.int i) H') E0) : wC X (.builtin "len") [.ref a] H Q := by
  obtain ⟨f, fd, ps, Fk, hs, hf, hb⟩ := M.ex
  obtain ⟨rfl, rfl, rfl, rfl, rfl, _, _, hr, _, _, _, _, _⟩ := C
  refine ⟨fun pins s σ us I r => ?_⟩
  obtain ⟨u, rfl, rx⟩ := vals1 r
  obtain rfl : u = Value.ref a := rx
  obtain ⟨mA, J, _⟩ := ins_get I.hok ha
  obtain ⟨od, J, _⟩ := J.look
  have sb : Sub X (j + 1) X.A := ⟨hr.mono hj, rfl⟩
  have sb1 := sb.in1
  refine lenK I.kIn J hs hf ?_
  have e0 : Env0 X.prog X.w X.K X.mg X.base X.A.in1 X.stack s H := by
    have e := I.env0
    exact ⟨by rw [sb1.fr]; exact e.frames, e.mod, e.bs, e.bsz, e.funs, e.frf, e.hok, e.bare⟩
  have hl := Fk.len _ _ _ _ q
  have r2 : Vals [V.ref a] [Value.ref a] := .cons rfl .nil
  refine wpAny_call (codeAny_mono (Fk.run X.A.in1 X.stack s H ⟨[.ref a], []⟩ [.ref a] [.ref a] _ E0 sb1.room e0 (by
    have := hb s [.ref a] I.kIn (by simpa using hl)
    simpa using this) r2 q) fun r' s' hq => ?_)
  cases r' with
  | error e => exact pass0 pins σ H s e s' I hq
  | ok fl =>
    cases fl with
    | ret w =>
      obtain ⟨z, H', I', rz, t, ez, hz, q'⟩ := I.after hq
      subst ez
      obtain ⟨tk, rfl⟩ := rz
      exact ⟨hz, .int t, H', I'.kept fun b o e => e, ⟨_, rfl⟩, q'⟩
    | next => exact False.elim hq
    | brk => exact False.elim hq
    | cont => exact False.elim hq
end
end Rp
namespace Rp
open PySem PySem.Spec PyProof.Rows L2
/-! ### x, y, z = a, b, c -/
theorem swapped3 {x y z : Str} {px py pz pt pt2 : Pos} {kt k2} {a b c : Expr} {env : Env} (hb : env.blockKind = .function) (hx : env.kindOf x = some .local) (hy : env.kindOf y = some .local) (hz : env.kindOf z = some .local) (hl : (py.line == px.line) = true) (hl2 : (pz.line == px.line) = true) (n1 : x ≠ y) (n2 : x ≠ z) (n3 : y ≠ z)
    (h1 : ([a, b, c].any fun | .Starred .. => true | _ => false) = false) (h2 : [a, b, c].all (foldedForSure 8) = false) (h3 : [a, b, c].all (constantsAlone 8) = false) :
    swappedStores [.Tuple [.Name x px, .Name y py, .Name z pz] kt pt] (.Tuple [a, b, c] k2 pt2) env = pure (some [x, y, z]) := by
  have hl' : py.line = px.line := eq_of_beq hl
  have hl2' : pz.line = px.line := eq_of_beq hl2
  have e0 : ((y == x) = false) := by simp [Ne.symm n1]
  have e1 : ((z == x) = false) := by simp [Ne.symm n2]
  have e2 : ((z == y) = false) := by simp [Ne.symm n3]
  unfold swappedStores
  simp only [hb, h1, h2, h3, List.length_cons, List.length_nil, List.filterMap_cons, List.filterMap_nil, hx, hy, hz, Option.map_some, Option.getD_some, List.head?_cons, Expr.pos, hl', hl2', beq_self_eq_true, Bool.and_true, bne_self_eq_false, Bool.or_false, Bool.true_or, Bool.or_true, Bool.not_true, Bool.false_eq_true, if_false, if_true, ↓reduceIte]
  simp [List.eraseDups_cons, e0, e1, e2, n1, n2, n3, Ne.symm n1, Ne.symm n2, Ne.symm n3]
  intro h
  exfalso
  simp only [List.any_cons, List.any_nil, Bool.or_false, Bool.or_eq_false_iff] at h1
  rcases h with h | h | h
  · exact absurd (h1.1.symm.trans h) (by decide)
  · exact absurd (h1.2.1.symm.trans h) (by decide)
  · exact absurd (h1.2.2.symm.trans h) (by decide)
section
variable {P : Program} {w : World} {K : PySem.W.Frag} {mg : Str → Option Value} {base : Heap} {k : Nat} {N Vz Sz G : List Str} {sc : Scope} {x y z : Str} {X : Cx}
variable {a b c : Expr} {σ : L2.St} {H : Hp} {pos : Pos} {D : Ends}
theorem wS_par3 {px py pz pt pt2 : Pos} {kt k2} (C : CxI P w K mg base k N Vz Sz G sc X) (hx : (sc.names.lookup x == some .local) = true) (hy : (sc.names.lookup y == some .local) = true) (hz : (sc.names.lookup z == some .local) = true) (hl : (py.line == px.line) = true) (hl2 : (pz.line == px.line) = true) (hne : (x == y) = false) (hne2 : (x == z) = false) (hne3 : (y == z) = false)
    (h1 : ([a, b, c].any fun | .Starred .. => true | _ => false) = false) (h2 : [a, b, c].all (foldedForSure 8) = false) (h3 : [a, b, c].all (constantsAlone 8) = false)
    (hs : swapsWithSole [.Tuple [.Name x px, .Name y py, .Name z pz] kt pt] (.Tuple [a, b, c] k2 pt2) pos.line X.env = pure false)
    (q : wA X [a, b, c] σ H fun vs H1 => ∃ v w u, vs = [v, w, u] ∧ Put N σ x v fun σ1 => Put N σ1 y w fun σ2 => Put N σ2 z u fun σ3 => D.nx σ3 H1) : wS X (.Assign [.Tuple [.Name x px, .Name y py, .Name z pz] kt pt] (.Tuple [a, b, c] k2 pt2) pos) D σ H := by
  have ex : X.env.kindOf x = some .local := by show X.env.scope.names.lookup x = _; rw [C.es]; exact eq_of_beq hx
  have ey : X.env.kindOf y = some .local := by show X.env.scope.names.lookup y = _; rw [C.es]; exact eq_of_beq hy
  have ez : X.env.kindOf z = some .local := by show X.env.scope.names.lookup z = _; rw [C.es]; exact eq_of_beq hz
  have hb : X.env.blockKind = .function := by unfold Env.blockKind; rw [C.es, C.fk]; rfl
  have ne : x ≠ y := fun z => by rw [z] at hne; simp at hne
  have ne2 : x ≠ z := fun z => by rw [z] at hne2; simp at hne2
  have ne3 : y ≠ z := fun z => by rw [z] at hne3; simp at hne3
  have hw := swapped3 (kt := kt) (pt := pt) (k2 := k2) (pt2 := pt2) hb ex ey ez hl hl2 ne ne2 ne3 h1 h2 h3
  refine ⟨fun pins s I => ?_⟩
  rw [exec_Assign_arm]
  refine wpAny_bind (wpAny_standAt ?_)
  rw [hs]
  refine wpAny_bind (wpAny_pure ?_)
  rw [if_neg (by decide)]
  refine wpAny_bind (Tuple_ (thn (q.run _ pins s I) fun us s1 ⟨vs, H1, I1, r1, q1⟩ => ?_))
  obtain ⟨v, w, u, e1, σ1, p1, σ2, p2, σ3, p3, q1⟩ := q1
  subst e1
  obtain ⟨u1, u2, u3, rfl, rv, rw', ru⟩ : ∃ u1 u2 u3, us = [u1, u2, u3] ∧ RelV v u1 ∧ RelV w u2 ∧ RelV u u3 := by
    cases r1 with
    | cons p q =>
      cases q with
      | cons p' q' =>
        cases q' with
        | cons p'' q'' =>
          cases q''
          exact ⟨_, _, _, rfl, p, p', p''⟩
  obtain ⟨i, hi, rfl⟩ := p1.ix
  obtain ⟨j, hj, rfl⟩ := p2.ix
  obtain ⟨l, hk, rfl⟩ := p3.ix
  have hij : i ≠ j := fun z => by
    rw [z] at hi
    exact ne (Option.some.inj (hi.symm.trans hj))
  have hik : i ≠ l := fun z => by
    rw [z] at hi
    exact ne2 (Option.some.inj (hi.symm.trans hk))
  have hjk : j ≠ l := fun z => by
    rw [z] at hj
    exact ne3 (Option.some.inj (hj.symm.trans hk))
  have hN : X.N.Nodup := by rw [C.eN]; exact C.nd
  have hi' : X.N[i]? = some x := by rw [C.eN]; exact hi
  have hj' : X.N[j]? = some y := by rw [C.eN]; exact hj
  have hk' : X.N[l]? = some z := by rw [C.eN]; exact hk
  have hx2 : X.env.scope.names.lookup x = some .local := ex
  have hy2 : X.env.scope.names.lookup y = some .local := ey
  have hz2 : X.env.scope.names.lookup z = some .local := ez
  refine wpAny_newObj_type ?_ (by show 3 ≤ sizeLine; decide)
  have I2 : Inv X pins σ H1 { s1 with heap := s1.heap.push { cls := .type "tuple", data := .seq [u1, u2, u3].toArray } } := I1.kept (t' := s1.toks) fun b o e => Heap.get?_push_of_some _ e
  rw [hw]
  refine wpAny_bind (wpAny_pure ?_)
  show wpAny (model X.prog X.w) X.A (do rule "assign.swapped-stores"; let items ← unpackItems (.ref s1.heap.objs.size) 3 none; assignInOrder [fun v => bindName X.env z v, fun v => bindName X.env y v, fun v => bindName X.env x v] items.reverse; pure Flow.next) _ _ _
  refine wpAny_bind (wpAny_rule (wpAny_bind (unpackItems_tuple (items := #[u1, u2, u3]) (I.ok.hd C.calm) (IsTup.new s1.heap _) fun h' hx' => ?_)))
  have I3 := I2.kept (h' := h') (t' := s1.toks) fun b o e => hx' b o (Nat.ne_of_lt (Heap.lt_size e)) e
  show wpAny _ _ (assignInOrder [fun v => bindName X.env z v, fun v => bindName X.env y v, fun v => bindName X.env x v] [u3, u2, u1] >>= fun _ => pure Flow.next) _ _ _
  refine wpAny_bind (assignInOrder_cons (wpAny_bindName (store_ok I3 hN hk' (.inl hz2) ru (fun s2 I4 => ?_) (.inr hz2))))
  refine assignInOrder_cons (wpAny_bindName (store_ok I4 hN hj' (.inl hy2) rw' (fun s3 I5 => ?_) (.inr hy2)))
  refine assignInOrder_cons (wpAny_bindName (store_ok I5 hN hi' (.inl hx2) rv (fun s4 I6 => assignInOrder_nil (wpAny_pure ?_)) (.inr hx2)))
  rw [List.set_comm _ _ (Ne.symm hij), List.set_comm _ _ (Ne.symm hik), List.set_comm _ _ (Ne.symm hjk)] at I6
  exact ⟨_, H1, I6, q1⟩
end
end Rp
namespace Rp
open PySem PySem.Spec PyProof.Rows L2
/-! ### xs[::-1] of a list -/
section
variable {P : Program} {w : World} {K : PySem.W.Frag} {mg : Str → Option Value} {base : Heap} {k j : Nat} {N Vz Sz G : List Str} {sc : Scope} {X : Cx} {H : Hp} {Q : VK}
theorem wE_revL {e : Expr} {pos p1 p2 p3 : Pos} {kk : Nat} {σ : L2.St} (C : CxI P w K mg base k N Vz Sz G sc X) (q : wE X e σ H fun x H1 => ∃ a xs, x = .ref a ∧ H1 a = some (.lst xs) ∧ ∀ p H2, H1 p = none → Ex H1 H2 → H2 p = some (.lst xs.reverse) → Q (.ref p) H2) :
    wE X (.Subscript e (.Slice none none (some (.UnaryOp .USub (.Constant (.int 1) kk p1) p2)) p3) pos) σ H Q := by
  refine wE.of (pe_revL wE.pe) ?_
  show wE X e σ H _
  refine ⟨fun pins s I => ?_⟩
  refine thn (q.run pins s I) ?_
  rintro u s1 ⟨x, H1, I1, r1, a, xs, rfl, hq, q1⟩
  exact ⟨_, H1, I1, r1, a, xs, rfl, by rw [C.eK]; exact .of hq, fun p hp => q1 p _ hp (Ex.upd hp) upd_same⟩
end
end Rp
namespace Rp
open PySem PySem.Spec PyProof.Rows L2
/-! ### repr of lists and tuples of whatever has a repr -/
/-- v is shown as t wherever what is under way is of Gp -/
def RX (X : Cx) (j : Nat) (Gp : List Code → Prop) (H0 : Hp) (v : V) (t : Str) : Prop :=
  ∀ (b : Nat), b + t.length ≤ sizeLine → ∀ (A : Around) (g : List Code) (pins : List (Addr × Obj)) (σ : L2.St) (H : Hp) (s : Shared) (u : Value) (Q : Str → Shared → Prop), Sub X j A → A.guards = some g → Gp g → Inv X pins σ H s → Ex H0 H → RelV v u →
    (∀ s' H', Inv X pins σ H' s' → Ex H H' → Q t s') → wpAny (model X.prog X.w) A (pyReprUnder b u) Q X.xe s
theorem under_ru (A : Around) (args : Args) : (A.under (.builtin "tuple.__repr__" args)).depth = A.depth + 1 := by
  first | rfl | simp [Around.under, Code.weight, Code.isCreation, Code.isGuard, Code.isCaller, Code.frames, Code.isFrame, guardIds]
theorem under_rv (A : Around) (args : Args) : (A.under (.builtin "tuple.__repr__.under" args)).depth = A.depth + 1 := by
  first | rfl | simp [Around.under, Code.weight, Code.isCreation, Code.isGuard, Code.isCaller, Code.frames, Code.isFrame, guardIds]
theorem sub_tup {X : Cx} {n : Nat} {A : Around} (s : Sub X (n + 1) A) (args : Args) : Sub X n (A.under (.builtin "tuple.__repr__" args)) :=
  ⟨⟨s.room.hd, by have := s.room.dp; rw [under_ru]; omega, by have := s.room.un; rw [units_under_tuple_repr]; omega⟩, s.fr⟩
theorem sub_tupU {X : Cx} {n : Nat} {A : Around} (s : Sub X (n + 1) A) (args : Args) : Sub X n (A.under (.builtin "tuple.__repr__.under" args)) :=
  ⟨⟨s.room.hd, by have := s.room.dp; rw [under_rv]; omega, by have := s.room.un; rw [units_under_tuple_repr_under]; omega⟩, s.fr⟩
section
variable {X : Cx} {H0 : Hp} {j : Nat} {Gp : List Code → Prop} {v : V} {t : Str}
theorem RX.ex {H1 : Hp} (h : RX X j Gp H0 v t) (e : Ex H0 H1) : RX X j Gp H1 v t := fun b hb A g pins σ H s u Q sb hg hc I e1 r q => h b hb A g pins σ H s u Q sb hg hc I (e.trans e1) r q
theorem RX.more {Gq : List Code → Prop} (h : RX X j Gp H0 v t) (hs : ∀ g, Gq g → Gp g) : RX X j Gq H0 v t := fun b hb A g pins σ H s u Q sb hg hc I e1 r q => h b hb A g pins σ H s u Q sb hg (hs g hc) I e1 r q
theorem RX.lev {k : Nat} (h : RX X j Gp H0 v t) (hk : j ≤ k) : RX X k Gp H0 v t := fun b hb A g pins σ H s u Q sb hg hc I e1 r q => h b hb A g pins σ H s u Q (sb.mono hk) hg hc I e1 r q
theorem RX.is (h : ∀ u, RelV v u → ReprIs X.prog X.w u t) : RX X j Gp H0 v t := fun b hb A g pins σ H s u Q sb hg hc I e1 r q => h u r b hb A _ s Q fun tk => q _ H (I.tok tk) (Ex.refl H)
theorem RX.non : RX X j Gp H0 .non "None" := .is fun u r => by
  obtain rfl : u = Value.none := r
  exact ReprIs.none
theorem RX.bl {b : Bool} : RX X j Gp H0 (.bl b) (if b then ("True" : Str) else ("False" : Str)) := .is fun u r => by
  obtain rfl : u = Value.bool b := r
  exact ReprIs.bool b
theorem RX.int {i : Int} (h : i.natAbs.log2 < 1920) : RX X j Gp H0 (.int i) (toString i : String) := .is fun u r => by
  obtain ⟨tk, rfl⟩ := r
  exact ReprIs.int tk h
theorem RX.str {z : Str} (h : (reprText z).length ≤ sizeLine) : RX X j Gp H0 (.str z) (reprText z) := .is fun u r => by
  obtain ⟨tk, rfl⟩ := r
  exact ReprIs.str z tk h
theorem RX.own {sp : Sp} {C f : Addr} {fd : FuncData} {ps : List Str} (Fk : FnOk X.prog X.w X.K X.mg X.base CX0 j f fd ps sp) (hs : PySem.W.findIn X.K (.ref C) "__repr__" = some (some (.ref f))) (hf : PySem.W.isFn X.K (.ref f) = true) (hb : Binds X.K fd ps [])
    {a dx : Addr} {fs : List (Str × V)} (ha : H0 a = some (.ins C dx fs)) (q : ∀ H, Ex H0 H → sp [.ref a] H (fun v H' => v = .str t ∧ Ex H H') E0) : RX X j Gp H0 (.ref a) t := fun b hb' A g pins σ H s u Q sb hg hc I e r hq => by
  obtain rfl : u = Value.ref a := r
  exact one_under sb Fk hs hf hb (by omega) I (e _ _ ha) (q H e) hq
/-- plain data, the one thing of a list -/
theorem RX.one {a : Addr} {d : PyData} (hd : Dq X.K H0 v d) (hs : d.showable = true) (hdp : d.depth ≤ 50) (hz : d.shown.length ≤ sizeLine) (hl : d.hasDict = false ∨ noL d = true) (ha : H0 a = some (.lst [v])) : RX X j (fun g => ∃ id rest, g = [.builtin id ⟨.ref a :: rest, []⟩]) H0 v d.shown := fun b hb A g pins σ H s u Q sb hg ⟨id, rest, hgg⟩ I e r q => by
  subst hgg
  obtain ⟨as, rd, hn⟩ := Dq.reads I (hd.n e.n) u r
  obtain ⟨bs, hbs, hk⟩ := ReprK.of_reads (prog := X.prog) (w := X.w) rd hs (fun z => hl.elim (fun y => by rw [y] at z; cases z) hn) hz
  obtain ⟨asA, rA, _⟩ := Dq.reads I (.lst (.of (e _ _ ha)) (.cons (hd.n e.n) .nil)) (.ref a) rfl
  have hna : a ∉ bs := not_mem_of_deeper rA (by simp only [PyData.depth, PyData.depthAll]; omega) hbs
  refine hk b hb A _ _ s _ hg (fun c hc => (Clear.nil c).cons (a := a) fun z => hna (z ▸ hc)) (by have := sb.room.un; omega) (fun _ _ e => e) fun h' tk k => q _ H (I.kept (t' := tk) k) (Ex.refl H)
variable {pins : List (Addr × Obj)} {σ : L2.St} {H : Hp} {s : Shared}
theorem rloopX {A : Around} {g : List Code} {a P : Addr} (sb : Sub X (j + 1) A) (hg : A.guards = some g) (hG : ∀ id rest, Gp (.builtin id ⟨.ref a :: rest, []⟩ :: g))
    {xs : List V} {ts : List Str} {b : Nat} (ha : H0 a = some (.lst xs)) (hP : H0 P = none) (hlen : xs.length = ts.length) (tl : ∀ (i : Nat) v t, xs[i]? = some v → ts[i]? = some t → RX X j Gp H0 v t) (hsz : b + (listText ts).length ≤ sizeLine)
    {R : Result → Shared → Prop} (hR : ∀ s' H' u, Inv X pins σ H' s' → Ex H0 H' → R (.ok (.ret (.str (listText ts) u))) { s' with toks := s'.toks + 1 }) (hE : ∀ e s', X.xe e s' → R (.error e) s') :
    ∀ (k i : Nat) (s : Shared) (H : Hp), xs.length - i = k → i ≤ xs.length → Inv X pins σ H s → Ex H0 H → H P = some (.lst ((ts.take i).map V.str)) →
    codeAny (model X.prog X.w) A (.builtin "list.__repr__.loop" ⟨[.ref a, rawInt i, .ref P, rawInt ((b + piled (ts.take i) : Nat) : Int)], []⟩) R s := by
  have hX : (listText ts).length = (textFrom 0 "[" ts).length + 1 := by
    show (textFrom 0 "[" ts ++ "]").length = _
    rw [strLen_append]; rfl
  have hL := textFrom_len ts 0 "["
  have hsz1 : xs.length ≤ sizeLine := by
    have h1 := hL.1
    rw [if_neg (Nat.lt_irrefl 0)] at h1
    omega
  have hsz2 : ∀ t ∈ ts, t.length ≤ sizeLine := fun t ht => by
    have h2 := hL.2.1 t ht
    omega
  have hsz3 : (listText ts).length ≤ sizeLine := by omega
  have hp3 := piled_le_listText ts
  intro k
  induction k with
  | zero =>
    intro i s H hk hi I e hp
    have hin : i = xs.length := by omega
    refine codeAny_builtin F.entry_list_repr_loop ?_
    show wpAny _ _ (Builtin.«list.__repr__.loop» ⟨[.ref a, .int i 0, .ref P, .int ((b + piled (ts.take i) : Nat) : Int) 0], []⟩) _ _ s
    rw [repr_loop_tree]
    obtain ⟨_, its, n, rv, hl, hg⟩ := I.lstM (e _ _ ha)
    refine wpAny_bind (wpAny_listItems hg rfl ?_)
    have hnone : its.toArray[(i : Int).toNat]? = none := by
      rw [Int.toNat_natCast, List.getElem?_toArray, List.getElem?_eq_none (by rw [← hl]; omega)]
    simp only [hnone]
    unfold reprEnd
    obtain ⟨_, its2, n2, rv2, hl2, hg2⟩ := I.lstM hp
    refine wpAny_bind (wpAny_listItems hg2 rfl ?_)
    obtain ⟨done, hd1, hd2⟩ : ∃ done : List (Str × Tok), its2 = strValues done ∧ done.map (·.1) = ts.take i := by
      clear hg2 hl2 hp
      revert its2
      generalize ts.take i = us
      induction us with
      | nil => intro its2 r; cases r; exact ⟨[], rfl, rfl⟩
      | cons u us ih =>
        intro its2 r
        cases r with
        | cons h r =>
          obtain ⟨tk, rfl⟩ := h
          obtain ⟨d, e1, e2⟩ := ih _ r
          exact ⟨(u, tk) :: d, by rw [e1]; rfl, by rw [← e2]; rfl⟩
    rw [show its2.toArray.toList = strValues done from hd1, repr_fold]
    refine wpAny_bind (wpAny_pure ?_)
    have hall : done.map (·.1) = ts := by rw [hd2, hin, hlen, List.take_length]
    rw [hall]
    refine wpAny_bind (wpAny_mkStr (wpAny_pure ?_) hsz3)
    exact hR s H _ I e
  | succ k ih =>
    intro i s H hk hi I e hp
    have hlt : i < xs.length := by omega
    have ht : ts[i]? = some (ts[i]'(by omega)) := List.getElem?_eq_getElem (by omega)
    generalize ts[i]'(by omega) = t at ht
    have hai : xs[i]? = some xs[i] := List.getElem?_eq_getElem hlt
    generalize xs[i] = xi at hai
    have hrx := tl i xi t hai ht
    have hp1 := piled_take_succ ht
    have hp2 := piled_take_le ts (i + 1)
    refine codeAny_builtin F.entry_list_repr_loop ?_
    show wpAny _ _ (Builtin.«list.__repr__.loop» ⟨[.ref a, .int i 0, .ref P, .int ((b + piled (ts.take i) : Nat) : Int) 0], []⟩) _ _ s
    rw [repr_loop_tree]
    obtain ⟨_, its, n, rv, hl, hgi⟩ := I.lstM (e _ _ ha)
    refine wpAny_bind (wpAny_listItems hgi rfl ?_)
    obtain ⟨ui, hui, rui⟩ := rv.get (i := i) (x := xi) hai
    have hsome : its.toArray[(i : Int).toNat]? = some ui := by
      rw [Int.toNat_natCast, List.getElem?_toArray]
      exact hui
    simp only [hsome]
    rw [Int.toNat_natCast]
    refine wpAny_bind (wpAny_holding (wpAny_mono (hrx (b + piled (ts.take i) + 1) (by omega) _ _ pins σ H s ui (fun t' s' => t = t' ∧ ∃ H', Inv X pins σ H' s' ∧ Ex H H') (sub_loop sb _) (guards_under_guard (isGuard_list_loop _) hg) (hG _ _) I e rui fun s1 H1 I1 e1 => ⟨rfl, H1, I1, e1⟩) (fun t' s1 hq => ?_) hE))
    obtain ⟨rfl, H1, I1, e1⟩ := hq
    refine wpAny_bind (wpAny_mkStr ?_ (hsz2 t (List.mem_of_getElem? ht)))
    refine wpAny_bind ?_
    have hp' := e1 _ _ hp
    obtain ⟨_, its2, n2, rv2, hl2, hg2⟩ := I1.lstM hp'
    show wpAny _ _ (updateSeq P _) _ _ _
    have htl : ((ts.take i).map V.str).length ≤ sizeLine := by rw [List.length_map, List.length_take]; omega
    refine wpAny_updateSeq hg2 rfl (wpAny_pure ⟨F.quiet_list_repr_loop _, ?_⟩) (by rw [List.size_toArray, ← hl2]; exact htl)
    have e1' : ((i : Int) + 1) = ((i + 1 : Nat) : Int) := by omega
    have e2' : b + piled (ts.take i) + (t.length + 2) = b + piled (ts.take (i + 1)) := by omega
    rw [e1', e2']
    have tk1 : ts.take (i + 1) = ts.take i ++ [t] := by rw [List.take_add_one, ht]; rfl
    refine ih (i + 1) _ (upd H1 P (.lst ((ts.take (i + 1)).map V.str))) (by omega) hlt ?_ ?_ upd_same
    · refine (I1.tok _).lset (its' := its2 ++ [.str t s1.toks]) (t' := _) hp' hg2 (by simp) ?_ (by rw [List.length_map, List.length_take]; omega)
      rw [tk1, List.map_append]
      exact rv2.append (.cons ⟨_, rfl⟩ .nil)
    · exact (e.trans e1).mut hP Exb.upd
/-- list.__repr__, at the top or beneath -/
theorem lreprAtX {A : Around} {g : List Code} {a : Addr} (sb : Sub X (j + 1) A) (hg : A.guards = some g) {xs : List V} {ts : List Str} {b : Nat} (hca : Clear g a) (hG : ∀ id rest, Gp (.builtin id ⟨.ref a :: rest, []⟩ :: g)) (I : Inv X pins σ H s) (ha : H a = some (.lst xs)) (hlen : xs.length = ts.length) (hne : xs ≠ [])
    (tl : ∀ (i : Nat) v t, xs[i]? = some v → ts[i]? = some t → RX X j Gp H v t) (hsz : b + (listText ts).length ≤ sizeLine)
    {R : Result → Shared → Prop} (hR : ∀ s' H' u, Inv X pins σ H' s' → Ex H H' → R (.ok (.ret (.str (listText ts) u))) { s' with toks := s'.toks + 1 }) (hE : ∀ e s', X.xe e s' → R (.error e) s') :
    wpAny (model X.prog X.w) A.in1 (Builtin.listReprAt b ⟨[.ref a], []⟩) (fun fin s' => match fin with | .done f => R (.ok f) s' | .again c' => c'.quiet = true ∧ codeAny (model X.prog X.w) A c' R s') (fun e s' => R (.error e) s') s := by
  obtain ⟨_, its, n, rv, hl, hgt⟩ := I.lstM ha
  cases its with
  | nil => exact absurd (List.eq_nil_of_length_eq_zero (by rw [hl]; rfl)) hne
  | cons y l =>
    refine wpAny_list_repr_head (A := A.in1) hg (fun v rest kw hm => listSameRef_of_ne (hca _ _ _ _ hm)) hgt rfl ?_
    refine wpAny_bind (m := newList []) (wpAny_newObj_type ?_)
    refine wpAny_pure ⟨F.quiet_list_repr_loop _, ?_⟩
    have hP := I.fresh
    have I1 := I.lnew (its := []) (ys := []) (t' := s.toks) .nil (by show 0 ≤ sizeLine; exact Nat.zero_le _)
    have e1 : Ex H (upd H s.heap.objs.size (.lst [])) := Ex.upd hP
    exact rloopX sb hg hG (b := b) ha hP hlen tl hsz hR hE xs.length 0 _ _ (by omega) (by omega) I1 e1 upd_same
/-- what lets a thing at a be shown -/
def At (Gp : List Code → Prop) (a : Addr) (g : List Code) : Prop := Clear g a ∧ ∀ id rest, Gp (.builtin id ⟨.ref a :: rest, []⟩ :: g)
theorem RX.list {a : Addr} {xs : List V} {ts : List Str} (ha : H0 a = some (.lst xs)) (hlen : xs.length = ts.length) (tl : ∀ (i : Nat) v t, xs[i]? = some v → ts[i]? = some t → RX X j Gp H0 v t) : RX X (j + 2) (At Gp a) H0 (.ref a) (listText ts) := fun b hb A g pins σ H s u Q sb hg hc I e r hq => by
  obtain rfl : u = Value.ref a := r
  obtain ⟨_, its, n, rv, hl, hgt⟩ := I.lstM (e _ _ ha)
  have hTy : s.TypeIs (.ref a) "list" := ⟨_, hgt, rfl⟩
  by_cases hx : xs = []
  · have e1 : ts = [] := List.eq_nil_of_length_eq_zero (by rw [← hlen, hx]; rfl)
    have e2 : its = [] := List.eq_nil_of_length_eq_zero (by rw [← hl, hx]; rfl)
    subst e1 e2
    rw [listText_nil] at hq
    exact wpAny_pyReprUnder_ref (by omega) (wpAny_pyReprObjUnder_list_empty hTy sb.room.units0 hgt rfl ⟨_, _, rfl, hq _ H (I.tok _) (Ex.refl H)⟩)
  · refine wpAny_pyReprUnder_ref (by omega) (wpAny_pyReprObjUnder_twin (twin := "list.__repr__.under") hTy F.slot_list_repr.toG rfl sb.room.units0 ?_)
    exact call_twin_plain F.plain_list_repr_under F.entry_list_repr_under F.check_list_repr_under hTy F.slot_list_repr.toG (F.args_list_repr_1 _)
      (lreprAtX (sb.mono (Nat.le_succ _)) hg hc.1 hc.2 I (e _ _ ha) hlen hx (fun i v t h1 h2 => (tl i v t h1 h2).ex e) (R := callEnd _ X.xe) hb (fun s' H' u I' e' => ⟨⟨_, _, rfl⟩, ⟨_, _, rfl, hq _ H' (I'.tok _) e'⟩⟩) fun e s' h => h)
theorem call_lreprX {A : Around} {a : Addr} (sb : Sub X (j + 1) A) (hg : A.guards = some []) (hG : ∀ id rest, Gp [.builtin id ⟨.ref a :: rest, []⟩]) {xs : List V} {ts : List Str} (I : Inv X pins σ H s) (ha : H a = some (.lst xs)) (hlen : xs.length = ts.length)
    (tl : ∀ (i : Nat) v t, xs[i]? = some v → ts[i]? = some t → RX X j Gp H v t) (hsz : (listText ts).length ≤ sizeLine)
    {Q : Value → Shared → Prop} (hQ : ∀ s' H' u, Inv X pins σ H' s' → Ex H H' → Q (.str (listText ts) u) s') : wpAny (model X.prog X.w) A (call (.builtin "list.__repr__") [.ref a]) Q X.xe s := by
  obtain ⟨_, its, n, rv, hl, hgt⟩ := I.lstM ha
  have hTy : s.TypeIs (.ref a) "list" := ⟨_, hgt, rfl⟩
  by_cases hx : xs = []
  · have e1 : ts = [] := List.eq_nil_of_length_eq_zero (by rw [← hlen, hx]; rfl)
    have e2 : its = [] := List.eq_nil_of_length_eq_zero (by rw [← hl, hx]; rfl)
    subst e1 e2
    exact call_list_repr_empty hTy hgt rfl (hQ _ H _ (I.tok _) (Ex.refl H))
  · exact wpAny_call (codeAny_call_builtin F.slot_list_repr.plain F.entry_list_repr (F.slot_list_repr.check _ _ _ _ _ _ _ _ hTy (F.args_list_repr_1 _)
      (lreprAtX (b := 0) sb hg (Clear.nil a) hG I ha hlen hx tl (R := callEnd Q X.xe) (by omega) (fun s' H' u I' e' => hQ _ H' u (I'.tok _) e') fun e s' h => h)))
theorem tupFoldX {A : Around} {g : List Code} (sb : Sub X j A) (hg : A.guards = some g) (hcl : Gp g) {E : Value → Shared → Prop} (hE : ∀ e s', X.xe e s' → E e s') : ∀ (xs : List V) (us : List Value) (ts : List Str) (acc : Array Str) (n : Nat) (s : Shared) (H : Hp) (Q : (Array Str × Nat) → Shared → Prop), Vals xs us → xs.length = ts.length →
    (∀ (i : Nat) v t, xs[i]? = some v → ts[i]? = some t → RX X j Gp H0 v t) → n + piled ts ≤ sizeLine → Inv X pins σ H s → Ex H0 H →
    (∀ s' H', Inv X pins σ H' s' → Ex H H' → Q ⟨acc ++ ts.toArray, n + piled ts⟩ s') → wpAny (model X.prog X.w) A (forIn us (⟨acc, n⟩ : (Array Str × Nat)) tupBody) Q E s := by
  intro xs
  induction xs with
  | nil =>
    intro us ts acc n s H Q r hl tl hn I e h
    cases r
    have e1 : ts = [] := List.eq_nil_of_length_eq_zero hl.symm
    subst e1
    simp only [List.forIn_nil]
    exact wpAny_pure (by simpa [piled] using h s H I (Ex.refl H))
  | cons x xs ih =>
    intro us ts acc n s H Q r hl tl hn I e h
    cases r with
    | cons rx r =>
      cases ts with
      | nil => cases hl
      | cons t ts =>
        rw [piled_cons] at hn
        rw [List.forIn_cons]
        refine wpAny_bind (wpAny_bind (wpAny_mono (tl 0 x t rfl rfl (n + 1) (by omega) _ _ pins σ H s _ (fun t' s' => t = t' ∧ ∃ H', Inv X pins σ H' s' ∧ Ex H H') sb hg hcl I e rx fun s' H' I' e' => ⟨rfl, H', I', e'⟩) (fun t' s1 hq => ?_) hE))
        obtain ⟨rfl, H1, I1, e1⟩ := hq
        refine wpAny_pure ?_
        refine ih _ ts (acc.push t) (n + (t.length + 2)) s1 H1 Q r (by simpa using hl) (fun i v t h1 h2 => tl (i + 1) v t h1 h2) (by omega) I1 (e.trans e1) fun s' H' I' e' => ?_
        have h1 := h s' H' I' (e1.trans e')
        have e2 : n + piled (t :: ts) = n + (t.length + 2) + piled ts := by rw [piled_cons]; omega
        rw [e2] at h1
        simpa using h1
theorem treprAtX {A : Around} {g : List Code} {a : Addr} {id : String} {rest : List Value} (hcg : (Code.builtin id ⟨.ref a :: rest, []⟩).isGuard = true) (sb : Sub X j (A.under (.builtin id ⟨.ref a :: rest, []⟩))) (hg : A.guards = some g) {xs : List V} {ts : List Str} {b : Nat} (hca : Clear g a) (hG : ∀ id rest, Gp (.builtin id ⟨.ref a :: rest, []⟩ :: g)) (I : Inv X pins σ H s) (ha : H a = some (.tup xs)) (hlen : xs.length = ts.length)
    (tl : ∀ (i : Nat) v t, xs[i]? = some v → ts[i]? = some t → RX X j Gp H v t) (hsz : b + (tupleText ts).length ≤ sizeLine)
    {R : Result → Shared → Prop} (hR : ∀ s' H' u, Inv X pins σ H' s' → Ex H H' → R (.ok (.ret (.str (tupleText ts) u))) { s' with toks := s'.toks + 1 }) (hE : ∀ e s', X.xe e s' → R (.error e) s') :
    wpOwn (model X.prog X.w) A (.builtin id ⟨.ref a :: rest, []⟩) (Builtin.tupleReprAt b ⟨[.ref a], []⟩) (fun fin s' => match fin with | .done f => R (.ok f) s' | .again c' => c'.quiet = true ∧ codeAny (model X.prog X.w) A c' R s') (fun e s' => R (.error e) s') s := by
  obtain ⟨_, its, rv, o, ho, hc, hd⟩ := (show ObjOk X.prog X.w H s.heap a (.tup xs) from I.hok a _ ha)
  have hp := piled_le_tupleText ts
  have hl2 := rv.length
  have hsz0 : (tupleText ts).length ≤ sizeLine := by omega
  rw [tuple_repr_tree, tupleReprUnderWay_eq]
  refine wpOwn_bind (wpOwn_stackTailAny hg (tupGuardF_off _) (tupGuardF_pos _) ?_)
  have hn : (g.any fun c => tupGuardF (.ref a) (c, default)) = false := by
    rw [List.any_eq_false]
    intro c hcm
    rw [tupGuardF_of_clear hca c hcm]
    exact Bool.false_ne_true
  rw [hn]
  refine wpOwn_of_wpAny ?_
  show wpAny _ _ (tupleReprRest b (.ref a)) _ _ s
  unfold tupleReprRest Builtin.Tuple.tupleItemsOf
  obtain ⟨n, hd⟩ := hd
  refine wpAny_bind (wpAny_bind (wpAny_seqItems ho hd (wpAny_pure ?_)))
  rw [← Array.forIn_toList]
  refine wpAny_bind (tupFoldX sb (guards_under_guard hcg hg) (hG _ _) hE xs its ts _ _ s H _ rv hlen tl (by omega) I (Ex.refl H) fun s' H' I' e' => ?_)
  have hll : ts.length = its.length := by omega
  refine wpAny_bind (wpAny_mkStr (wpAny_pure ?_) (by simpa [tupleText, hll] using hsz0))
  have h1 := hR s' H' s'.toks I' e'
  simpa [tupleText, hll] using h1
theorem RX.tuple {a : Addr} {xs : List V} {ts : List Str} (ha : H0 a = some (.tup xs)) (hlen : xs.length = ts.length) (tl : ∀ (i : Nat) v t, xs[i]? = some v → ts[i]? = some t → RX X j Gp H0 v t) : RX X (j + 2) (At Gp a) H0 (.ref a) (tupleText ts) := fun b hb A g pins σ H s u Q sb hg hc I e r hq => by
  obtain rfl : u = Value.ref a := r
  have hTy : s.TypeIs (.ref a) "tuple" := by
    obtain ⟨_, its, _, o, ho, hc, _⟩ := (show ObjOk X.prog X.w H s.heap a (.tup xs) from I.hok a _ (e _ _ ha))
    exact ⟨o, ho, hc⟩
  refine wpAny_pyReprUnder_ref (by omega) (wpAny_pyReprObjUnder_twin (twin := "tuple.__repr__.under") hTy F.slot_tuple_repr rfl sb.room.units0 ?_)
  exact call_twin_own (F.quiet_tuple_repr_under _) F.entry_tuple_repr_under F.check_tuple_repr_under hTy F.slot_tuple_repr (F.args_tuple_repr_1 _)
    (treprAtX (isGuard_tuple_repr_under _) (sub_tupU (sb.mono (Nat.le_succ _)) _) hg hc.1 hc.2 I (e _ _ ha) hlen (fun i v t h1 h2 => (tl i v t h1 h2).ex e) (R := callEnd _ X.xe) hb (fun s' H' u I' e' => ⟨⟨_, _, rfl⟩, ⟨_, _, rfl, hq _ H' (I'.tok _) e'⟩⟩) fun e s' h => h)
theorem call_treprX {A : Around} {a : Addr} (sb : Sub X (j + 1) A) (hg : A.guards = some []) (hG : ∀ id rest, Gp [.builtin id ⟨.ref a :: rest, []⟩]) {xs : List V} {ts : List Str} (I : Inv X pins σ H s) (ha : H a = some (.tup xs)) (hlen : xs.length = ts.length)
    (tl : ∀ (i : Nat) v t, xs[i]? = some v → ts[i]? = some t → RX X j Gp H v t) (hsz : (tupleText ts).length ≤ sizeLine)
    {Q : Value → Shared → Prop} (hQ : ∀ s' H' u, Inv X pins σ H' s' → Ex H H' → Q (.str (tupleText ts) u) s') : wpAny (model X.prog X.w) A (call (.builtin "tuple.__repr__") [.ref a]) Q X.xe s := by
  have hTy : s.TypeIs (.ref a) "tuple" := by
    obtain ⟨_, its, _, o, ho, hc, _⟩ := (show ObjOk X.prog X.w H s.heap a (.tup xs) from I.hok a _ ha)
    exact ⟨o, ho, hc⟩
  exact wpAny_call (codeAny_call_builtin_own (Code.quiet_builtin _ (by decide +kernel)) F.entry_tuple_repr (F.slot_tuple_repr.check _ _ _ _ _ _ _ _ hTy (F.args_tuple_repr_1 _)
    (treprAtX (b := 0) (isGuard_tuple_repr _) (sub_tup sb _) hg (Clear.nil a) hG I ha hlen tl (R := callEnd Q X.xe) (by omega) (fun s' H' u I' e' => hQ _ H' u (I'.tok _) e') fun e s' h => h)))
end
section
variable {P : Program} {w : World} {K : PySem.W.Frag} {mg : Str → Option Value} {base : Heap} {k j : Nat} {N Vz Sz G : List Str} {sc : Scope} {X : Cx} {σ : L2.St} {H : Hp} {Q : VK} {sp : Sp} {c : Addr} {Gp : List Code → Prop} {xs : List V} {ts : List Str} {a : Addr}
theorem rx_own (C : CxI P w K mg base k N Vz Sz G sc X) (M : Mo P w K mg base j c "__repr__" sp) {dx : Addr} {fs : List (Str × V)} {t : Str} (ha : H a = some (.ins c dx fs)) (q : ∀ H', Ex H H' → sp [.ref a] H' (fun v H'' => v = .str t ∧ Ex H' H'') E0) : RX X j Gp H (.ref a) t := by
  obtain ⟨f, fd, ps, Fk, hs, hf, hb⟩ := M.ex
  obtain ⟨rfl, rfl, rfl, rfl, rfl, _, _, hr, _, _, _, _, _⟩ := C
  exact RX.own Fk hs hf hb ha q
theorem c_reprLX (C : CxI P w K mg base k N Vz Sz G sc X) (g : Gd X) (hj : j + 2 ≤ k) (hG : ∀ id rest, Gp [.builtin id ⟨.ref a :: rest, []⟩]) (ha : H a = some (.lst xs)) (hlen : xs.length = ts.length) (tl : ∀ (i : Nat) v t, xs[i]? = some v → ts[i]? = some t → RX X j Gp H v t) (hsz : (listText ts).length ≤ sizeLine)
    (q : ∀ H', Ex H H' → Q (.str (listText ts)) H') : wC X (.builtin "repr") [.ref a] H Q := by
  have sb := sub_cx C
  obtain ⟨rfl, rfl, rfl, rfl, rfl, _, _, hr, _, _, _, _, _⟩ := C
  refine ⟨fun pins s σ us I r => ?_⟩
  obtain ⟨u, rfl, rx⟩ := vals1 r
  obtain rfl : u = Value.ref a := rx
  obtain ⟨_, its, n, rv, hl, hgt⟩ := I.lstM ha
  refine call_repr_slot (by have := hr.un; omega) ⟨_, hgt, rfl⟩ F.slot_list_repr.toG ?_
  exact call_lreprX ((sb.mono hj).in1) g hG I ha hlen tl hsz fun s' H' u I' e' => ⟨_, u, rfl, .str (listText ts), H', I', ⟨u, rfl⟩, q H' e'⟩
theorem c_reprTX (C : CxI P w K mg base k N Vz Sz G sc X) (g : Gd X) (hj : j + 2 ≤ k) (hG : ∀ id rest, Gp [.builtin id ⟨.ref a :: rest, []⟩]) (ha : H a = some (.tup xs)) (hlen : xs.length = ts.length) (tl : ∀ (i : Nat) v t, xs[i]? = some v → ts[i]? = some t → RX X j Gp H v t) (hsz : (tupleText ts).length ≤ sizeLine)
    (q : ∀ H', Ex H H' → Q (.str (tupleText ts)) H') : wC X (.builtin "repr") [.ref a] H Q := by
  have sb := sub_cx C
  obtain ⟨rfl, rfl, rfl, rfl, rfl, _, _, hr, _, _, _, _, _⟩ := C
  refine ⟨fun pins s σ us I r => ?_⟩
  obtain ⟨u, rfl, rx⟩ := vals1 r
  obtain rfl : u = Value.ref a := rx
  have hTy : s.TypeIs (.ref a) "tuple" := by
    obtain ⟨_, its, _, o, ho, hc, _⟩ := (show ObjOk X.prog X.w H s.heap a (.tup xs) from I.hok a _ ha)
    exact ⟨o, ho, hc⟩
  refine call_repr_slot (by have := hr.un; omega) hTy F.slot_tuple_repr ?_
  exact call_treprX ((sb.mono hj).in1) g hG I ha hlen tl hsz fun s' H' u I' e' => ⟨_, u, rfl, .str (tupleText ts), H', I', ⟨u, rfl⟩, q H' e'⟩
end
end Rp
namespace Rp
open PySem PySem.Spec PyProof.Rows L2
/-! ### bool of an own class that has a len -/
section
variable {prog : Program} {w : World} {A : Around} {E : Value → Shared → Prop} {s : Shared} {K : PySem.W.Frag} {x C f : Addr} {ox : Obj} {od : Option Obj}
theorem lenBodyK {Q : Value → Shared → Prop} (X : K.In s.heap) (I : PySem.W.InstAt s.heap x ox C od) (hs : PySem.W.findIn K (.ref C) "__len__" = some (some (.ref f))) (hf : PySem.W.isFn K (.ref f) = true)
    (h : wpAny (model prog w) A (call (.ref f) [.ref x]) (PySem.W.LenBack Q) E s) : wpAny (model prog w) A (Builtin.«len» ⟨[.ref x], []⟩) (fun fin s' => ∃ r, fin = .done (.ret r) ∧ Q r s') E s := by
  unfold Builtin.«len»
  refine wpAny_bind (m := oneArg "len" _) (wpAny_pure ?_)
  refine wpAny_bind (m := callSpecial? (.ref x) (Str.ofString "__len__")) (PySem.W.special_fn X I hs (beq_iff_eq.mp hf) (wpAny_mono h (fun r s' hr => ?_) fun _ _ y => y))
  cases r <;> first | exact hr.elim | skip
  rename_i n u
  obtain ⟨⟨h0, h1⟩, hq⟩ := hr
  refine wpAny_bind (wpAny_holding (wpAny_pure ?_))
  refine wpAny_bind (wpAny_letGo ?_)
  show wpAny _ _ (if n < 0 then _ else _) _ _ _
  rw [if_neg (by omega)]
  show wpAny _ _ (if n ≥ 2 ^ 63 then _ else _) _ _ _
  rw [if_neg (by omega)]
  exact wpAny_bind (wpAny_mkInt (wpAny_pure ⟨_, rfl, hq⟩))
theorem truthyL {Q : Bool → Shared → Prop} (X : K.In s.heap) (I : PySem.W.InstAt s.heap x ox C od) (hb : PySem.W.findIn K (.ref C) "__bool__" = some none) (hs : PySem.W.findIn K (.ref C) "__len__" = some (some (.ref f))) (hf : PySem.W.isFn K (.ref f) = true)
    (h : wpAny (model prog w) A.in1 (call (.ref f) [.ref x]) (PySem.W.LenBack fun r s' => ∃ n u, r = .int n u ∧ Q (n != 0) s') E s) : wpAny (model prog w) A (truthy (.ref x)) Q E s := by
  have key : wpAny (model prog w) A (runValue (.builtin "len" ⟨[.ref x], []⟩)) (fun r s' => ∃ n u, r = .int n u ∧ Q (n != 0) s') E s := by
    refine wpAny_runValue (codeAny_builtin entry_len ?_)
    rw [Around.under_plainId plain_len _]
    exact wpAny_mono (lenBodyK X I hs hf h) (fun fin s' h' => by obtain ⟨r, rfl, hq⟩ := h'; exact hq) fun _ _ e => e
  unfold truthy
  refine wpAny_bind (m := callSpecial? (.ref x) (Str.ofString "__bool__")) (wpAny_bind (wpAny_bind (I.type.here ((PySem.W.looks_findIn X hb).here (wpAny_pure ?_)))))
  refine wpAny_bind (wpAny_bind (I.type.here ((PySem.W.looks_findIn X hs).here ?_)))
  exact wpAny_bind (wpAny_mono key (fun r s' h' => by obtain ⟨n, u, rfl, hq⟩ := h'; exact wpAny_pure hq) fun _ _ e => e)
theorem boolIn {Q : Value → Shared → Prop} (X : K.In s.heap) (I : PySem.W.InstAt s.heap x ox C od) (hb : PySem.W.findIn K (.ref C) "__bool__" = some none) (hs : PySem.W.findIn K (.ref C) "__len__" = some (some (.ref f))) (hf : PySem.W.isFn K (.ref f) = true)
    (h : wpAny (model prog w) A.in1.in1.in1 (call (.ref f) [.ref x]) (PySem.W.LenBack fun r s' => ∃ n u, r = .int n u ∧ Q (.bool (n != 0)) s') E s) : wpAny (model prog w) A (call (.type "bool") [.ref x]) Q E s := by
  refine callType_newIn (S := fun B R s' => s' = s ∧ (∀ e s2, E e s2 → R (.error e) s2) ∧ (∀ b s2, Q (.bool b) s2 → R (.ok (.ret (.bool b))) s2) ∧ B = A.in1) F.called_bool F.newNe_bool (F.typeCall_bool_1 _) (F.newCall_bool_1 _) (fun obj => F.args_object_init_2 obj _) F.entry_bool_new ?_ ⟨rfl, fun _ _ e => e, fun b s2 q => ⟨rfl, q⟩, rfl⟩
  refine MeetsIn.of_wp fun B R s' hh => ?_
  obtain ⟨rfl, hE, hQ, rfl⟩ := hh
  have T : wpAny (model prog w) A.in1.in1 (truthy (.ref x)) (fun b s2 => Q (.bool b) s2) (fun e s2 => R (.error e) s2) s' := truthyL (A := A.in1.in1) X I hb hs hf (wpAny_mono h (fun r s2 hr => by
    cases r <;> first | exact hr.elim | exact hr) hE)
  have f1 := F.conv_sub_bool
  obtain ⟨hp, g, d, tk, os⟩ := s'
  repeat (any_goals (first | assumption | (with_reducible refine wpAny_mono T (fun b s2 hq => ?_) (fun _ _ e => e)) | wp_step))
  all_goals first | exact ⟨_, rfl, hQ _ _ hq⟩ | skip
end
section
variable {P : Program} {w : World} {K : PySem.W.Frag} {mg : Str → Option Value} {base : Heap} {k j : Nat} {N Vz Sz G : List Str} {sc : Scope} {X : Cx} {H : Hp} {Q : VK} {sp : Sp} {a c dx : Addr} {fs : List (Str × V)}
theorem c_boolOwn (C : CxI P w K mg base k N Vz Sz G sc X) (M : Mo P w K mg base j c "__len__" sp) (nb : PySem.W.findIn K (.ref c) "__bool__" = some none) (hj : j + 3 ≤ k) (ha : H a = some (.ins c dx fs)) (q : sp [.ref a] H (fun v H' => ∃ i : Int, v = .int i ∧ (0 ≤ i ∧ i < 2 ^ 63) ∧ Q (.bl (i != 0)) H') E0) : wC X (.type "bool") [.ref a] H Q := by
  obtain ⟨f, fd, ps, Fk, hs, hf, hb⟩ := M.ex
  obtain ⟨rfl, rfl, rfl, rfl, rfl, _, _, hr, _, _, _, _, _⟩ := C
  refine ⟨fun pins s σ us I r => ?_⟩
  obtain ⟨u, rfl, rx⟩ := vals1 r
  obtain rfl : u = Value.ref a := rx
  obtain ⟨mA, J, _⟩ := ins_get I.hok ha
  obtain ⟨od, J, _⟩ := J.look
  have sb : Sub X (j + 3) X.A := ⟨hr.mono hj, rfl⟩
  have sb1 := sb.in1.in1.in1
  refine boolIn I.kIn J nb hs hf ?_
  have e0 : Env0 X.prog X.w X.K X.mg X.base X.A.in1.in1.in1 X.stack s H := by
    have e := I.env0
    exact ⟨by rw [sb1.fr]; exact e.frames, e.mod, e.bs, e.bsz, e.funs, e.frf, e.hok, e.bare⟩
  have hl := Fk.len _ _ _ _ q
  have r2 : Vals [V.ref a] [Value.ref a] := .cons rfl .nil
  refine wpAny_call (codeAny_mono (Fk.run X.A.in1.in1.in1 X.stack s H ⟨[.ref a], []⟩ [.ref a] [.ref a] _ E0 sb1.room e0 (by
    have := hb s [.ref a] I.kIn (by simpa using hl)
    simpa using this) r2 q) fun r' s' hq => ?_)
  cases r' with
  | error e => exact pass0 pins σ H s e s' I hq
  | ok fl =>
    cases fl with
    | ret w =>
      obtain ⟨z, H', I', rz, t, ez, hz, q'⟩ := I.after hq
      subst ez
      obtain ⟨tk, rfl⟩ := rz
      exact ⟨hz, _, _, rfl, .bl (t != 0), H', I'.kept fun b o e => e, rfl, q'⟩
    | next => exact False.elim hq
    | brk => exact False.elim hq
    | cont => exact False.elim hq
end
end Rp
namespace Rp
open PySem PySem.Spec PyProof.Rows L2
/-! ### != of tuples whose things have an own ==; for .. in enumerate; list(range(n)) -/
section
variable {prog : Program} {w : World} {A : Around} {E : Value → Shared → Prop} {R : Result → Shared → Prop}
theorem tuple_neB (l b : Addr) (items items2 : Array Value) (n n2 : Nat) (dd dd2 : Option Addr) (sl sl2 : Array (Option Value)) (hsz : items.size = items2.size) (e : Nat → Bool) (I : Nat → Shared → Prop)
    (turn : ∀ i (h1 : i < items.size) (h2 : i < items2.size) s, I i s → wpAny (model prog w) A.in1 (eqBool items[i] items2[i]) (fun r s' => r = e i ∧ I (i + 1) s') (fun e s' => R (.error e) s') s)
    (yes : (∀ i, i < items.size → e i = true) → ∀ s, I items.size s → R (.ok (.ret (.bool false))) s) (no : ∀ i s, i < items.size → e i = false → I (i + 1) s → R (.ok (.ret (.bool true))) s)
    {s : Shared} (hl1 : s.heap.get? l = some { cls := .type "tuple", dict := dd, data := .seq items n, slots := sl }) (hb1 : s.heap.get? b = some { cls := .type "tuple", dict := dd2, data := .seq items2 n2, slots := sl2 }) (h : I 0 s) :
    wpAny (model prog w) A.in1 (Builtin.«tuple.__ne__» ⟨[.ref l, .ref b], []⟩) (GQ.FinOf prog w A R) (fun e s' => R (.error e) s') s := by
  have f2 := AutoSeq1.sub_tuple_tuple
  have hZ : (items.toList.zip items2.toList).length = items.size := by simp [hsz]
  have h0 := h
  obtain ⟨hp, g, d, tk, os⟩ := s
  wp_walk using wpAny_loadPart' hl1, wpAny_loadPart' hb1, wpAny_forIn_list _ (fun rest b s' => b.1 = none ∧ ∃ i, rest = (items.toList.zip items2.toList).drop i ∧ i ≤ items.size ∧ (∀ j, j < i → e j = true) ∧ I i s') _
  case turn =>
    rintro ⟨y, x⟩ rest b s' ⟨hb', i, hz, hi, al, hI⟩
    have hlt : i < (items.toList.zip items2.toList).length := by
      rcases Nat.lt_or_ge i (items.toList.zip items2.toList).length with h' | h'
      · exact h'
      · rw [List.drop_of_length_le h'] at hz; cases hz
    have h1 : i < items.size := hZ ▸ hlt
    have h2 : i < items2.size := hsz ▸ h1
    rw [List.drop_eq_getElem_cons hlt] at hz
    injection hz with hyx hrest
    have hy : y = items[i] := by have := congrArg Prod.fst hyx; simpa using this
    have hx : x = items2[i] := by have := congrArg Prod.snd hyx; simpa using this
    subst hy hx
    refine wpAny_bind (wpAny_mono (turn i h1 h2 s' hI) (fun r s2 q2 => ?_) fun _ _ x => x)
    obtain ⟨hr, q2⟩ := q2
    subst hr
    cases he : e i with
    | true =>
      wp_walk
      exact ⟨rfl, i + 1, hrest, h1, (fun j hj => by rcases Nat.lt_or_ge j i with z | z; exact al j z; exact (show j = i by omega) ▸ he), q2⟩
    | false =>
      have hR := no i s2 h1 he q2
      wp_walk
      exact hR
  case fin =>
    rintro ⟨b1, b2⟩ s' ⟨hb', i, hz, hi, al, hI⟩
    simp only at hb'
    subst hb'
    have hge : items.size ≤ i := by
      rcases Nat.lt_or_ge i (items.toList.zip items2.toList).length with h' | h'
      · rw [List.drop_eq_getElem_cons h'] at hz; cases hz
      · exact hZ ▸ h'
    have hi' : i = items.size := by omega
    have hR : R (.ok (.ret (.bool false))) s' := yes (fun j hj => al j (by omega)) s' (hi' ▸ hI)
    wp_walk
    simpa [Builtin.Tuple.tupleCompareSizes, hsz] using hR
  case h =>
    exact ⟨rfl, 0, rfl, Nat.zero_le _, (fun j hj => absurd hj (Nat.not_lt_zero _)), h0⟩
theorem rc_neTB {l b : Addr} {items items2 : Array Value} {s : Shared} {Q : Value → Shared → Prop} (hsz : items.size = items2.size) (hu : A.units < cLine) (e : Nat → Bool) (I : Nat → Shared → Prop)
    (hl : s.heap.IsTuple l items) (hb : s.heap.IsTuple b items2)
    (turn : ∀ i (h1 : i < items.size) (h2 : i < items2.size) s, I i s → wpAny (model prog w) A.in1 (eqBool items[i] items2[i]) (fun r s' => r = e i ∧ I (i + 1) s') E s)
    (yes : (∀ i, i < items.size → e i = true) → ∀ s, I items.size s → Q (.bool false) s) (no : ∀ i s, i < items.size → e i = false → I (i + 1) s → Q (.bool true) s) (h : I 0 s) : wpAny (model prog w) A (richCompare .NotEq (.ref l) (.ref b)) Q E s := by
  obtain ⟨⟨cls, dd, data, sl⟩, ho, hc, n, hd⟩ := id hl
  obtain ⟨⟨cls2, dd2, data2, sl2⟩, ho2, hc2, n2, hd2⟩ := id hb
  simp only at hc hd hc2 hd2
  subst hc hd hc2 hd2
  refine wpAny_richCompare_same_room (op := .NotEq) ⟨_, ho, rfl⟩ ⟨_, ho2, rfl⟩ F.slot_tuple_ne (GQ.call_here F.slot_tuple_ne ⟨_, ho, rfl⟩ F.entry_tuple_ne (F.args_tuple_ne_2 _ _) ?_) hu
  exact tuple_neB (R := wants (fun v s' => v ≠ .notImplemented ∧ Q v s') E) l b items items2 n n2 dd dd2 sl sl2 hsz e I turn (fun a s' q => ⟨(fun x => nomatch x), yes a s' q⟩) (fun i s' a c q => ⟨(fun x => nomatch x), no i s' a c q⟩) ho ho2 h
end
section
variable {P : Program} {w : World} {K : PySem.W.Frag} {mg : Str → Option Value} {base : Heap} {k n : Nat} {N Vz Sz G : List Str} {sc : Scope} {X : Cx} {σ : L2.St} {H : Hp} {Q : VK} {D : Ends} {elts : List Expr} {ex : Expr} {sts : List Stmt} {p1 p2 pos tpos : Pos} {kk : Nat} {a b : Addr} {xs ys : List V}
theorem o_neTB {e : Nat → Bool} (C : CxI P w K mg base k N Vz Sz G sc X) (hk : n + 1 ≤ k) (ha : H a = some (.tup xs)) (hb : H b = some (.tup ys)) (p : PrsB X n xs ys H e) (t : Bool)
    (ht : (t = true → ∀ i, i < xs.length → e i = true) ∧ (t = false → ∃ i, i < xs.length ∧ e i = false)) (q : Q (.bl (!t)) H) : wO X (compareOp .NotEq) (.ref a) (.ref b) H Q := by
  refine ⟨fun pins s σ v u I rx ry => ?_⟩
  obtain rfl : v = Value.ref a := rx
  obtain rfl : u = Value.ref b := ry
  have sb := (sub_cx C).mono hk
  show wpAny _ _ (richCompare .NotEq (.ref a) (.ref b)) _ _ _
  obtain ⟨_, its, r, ia⟩ := (show ObjOk X.prog X.w H s.heap a (.tup xs) from I.hok a _ ha)
  obtain ⟨_, its2, r2, ib⟩ := (show ObjOk X.prog X.w H s.heap b (.tup ys) from I.hok b _ hb)
  have hsz : its.toArray.size = xs.length := by rw [List.size_toArray, ← r.length]
  have hsz2 : its.toArray.size = its2.toArray.size := by rw [List.size_toArray, List.size_toArray, ← r.length, ← r2.length, p.1]
  refine rc_neTB hsz2 sb.room.units0 e (fun _ s' => Inv X pins σ H s') ia ib (fun i h1 h2 s' I1 => turnB sb p r r2 i h1 h2 s' I1) (fun al s' I' => ?_) (fun i s' hi he I' => ?_) I
  · cases t with
    | true => exact ⟨.bl false, H, I', rfl, q⟩
    | false =>
      obtain ⟨i, hi, z⟩ := ht.2 rfl
      rw [al i (by rw [hsz]; exact hi)] at z
      cases z
  · cases t with
    | false => exact ⟨.bl true, H, I', rfl, q⟩
    | true => rw [ht.1 rfl i (by rw [← hsz]; exact hi)] at he; cases he
/-- for .. in enumerate(xs) -/
theorem wS_enum (C : CxI P w K mg base k N Vz Sz G sc X) (hm : mg "enumerate" = none) (hx : ("enumerate" : Str) ∈ G) (hs : starEach [ex] X.env = [(false, eval ex X.env)])
    (q : wA X [ex] σ H fun vs H1 => ∃ a xs, vs = [.ref a] ∧ SqL K H1 a xs ∧ ∃ Pv : Nat → L2.St → Hp → Prop, Pv 0 σ H1 ∧ (∀ i σ H, i ≤ xs.length → Pv i σ H → SqL K H a xs) ∧
      (∀ i x T σ H H', xs[i]? = some x → Pv i σ H → H T = none → Ex H H' → H' T = some (.tup [.int (i : Nat), x]) → wG X (.Tuple elts kk tpos) (.ref T) σ H' fun σ2 H2 => wB X sts { D with nx := Pv (i + 1), ct := Pv (i + 1), bk := D.nx } σ2 H2) ∧ ∀ σ H, Pv xs.length σ H → D.nx σ H) :
    wS X (.For (.Tuple elts kk tpos) (.Call (.Name "enumerate" p1) [ex] [] p2) sts [] pos) D σ H := by
  obtain ⟨l, _, _⟩ := C.glo hx
  refine wS.of (ps_for C.po C.calm (pi_enum l (by rw [C.em]; exact hm) wA.pa hs) wG.pg wB.pss (fun _ => rfl)) ?_
  show wA X [ex] σ H _
  refine ⟨fun pp pins s I => thn (q.run pp pins s I) ?_⟩
  rintro uu s1 ⟨vs, H1, I1, r1, a, xs, ev, q1, Pv, h0, hq, hst, hd⟩
  refine ⟨vs, H1, I1, r1, a, xs, ev, by rw [C.eK]; exact q1, ?_⟩
  refine ⟨fun i m σ H => m = xs.length - i ∧ i ≤ xs.length ∧ Pv i σ H, ⟨xs.length, rfl, Nat.zero_le _, h0⟩, ?_⟩
  rintro i m σ H ⟨rfl, hi, pv⟩
  have k1 := hq i σ H hi pv
  by_cases hlt : i < xs.length
  · have g1 : xs[i]? = some xs[i] := List.getElem?_eq_getElem hlt
    refine .inr ⟨⟨xs, _, by rw [C.eK]; exact k1, g1⟩, Pv (i + 1), fun σ' H' p' => ⟨xs.length - (i + 1), by omega, rfl, hlt, p'⟩, fun v H' y => ?_⟩
    obtain ⟨T, x', rfl, hT, rfl, f1⟩ := y
    exact hst i x' T σ H _ (f1 xs (by rw [C.eK]; exact k1)) pv hT (Ex.upd hT) upd_same
  · have e' : i = xs.length := by omega
    subst e'
    exact .inl ⟨⟨xs, by rw [C.eK]; exact k1, Nat.le_refl _⟩, hd σ H pv⟩
theorem c_range1 {m : Int} (q : ∀ p H', H p = none → Ex H H' → H' p = some (.rng 0 m) → Q (.ref p) H') : wC X (.type "range") [.int m] H Q := by
  refine ⟨fun pins s σ us I r => ?_⟩
  obtain ⟨u, rfl, t, rfl⟩ := Vals.one r
  refine call_range_1 ⟨.ref s.heap.objs.size, upd H s.heap.objs.size (.rng 0 m), I.laid (t' := s.toks + 1 + 1) (fun b o e => Heap.get?_push_of_some _ e) (Nat.le_refl _) ⟨_, _, _, Heap.get?_push_size _ rfl⟩, rfl, q _ _ (I.hok.fresh (Nat.le_refl _)) (Ex.upd (I.hok.fresh (Nat.le_refl _))) upd_same⟩
theorem small_to {m : Nat} (h : m ≤ 1000) : Builtin.Range.small 0 (m : Int) 1 = true := by
  exact small_one (by decide) (by decide) (by omega) (by omega)
theorem vals_of : ∀ (xs : List V) (us : List Value), xs.length = us.length → (∀ (i : Nat) x u, xs[i]? = some x → us[i]? = some u → RelV x u) → Vals xs us
  | [], [], _, _ => .nil
  | x :: xs, u :: us, l, h => .cons (h 0 x u rfl rfl) (vals_of xs us (by simpa using l) fun i x' u' h1 h2 => h (i + 1) x' u' h1 h2)
theorem c_listRng {r : Addr} {m : Nat} (C : CxI P w K mg base k N Vz Sz G sc X) (h : H r = some (.rng 0 (m : Int))) (hm : m ≤ 1000) (q : ∀ p H', H p = none → Ex H H' → H' p = some (.lst ((List.range m).map fun i : Nat => V.int i)) → Q (.ref p) H') : wC X (.type "list") [.ref r] H Q := by
  refine ⟨fun pins s σ us I rr => ?_⟩
  obtain ⟨u, rfl, rx⟩ := vals1 rr
  obtain rfl : u = Value.ref r := rx
  obtain ⟨t, u, v, ho⟩ := (show ObjOk X.prog X.w H s.heap r (.rng 0 (m : Int)) from I.hok r _ h)
  refine call_list_range (n := m) (I.ok.hd C.calm) ho (small_to hm) (by rw [rangeSize_one]; split <;> omega) (by omega) fun h' tk acc' c' hk hS hacc => ?_
  refine ⟨.ref s.heap.objs.size, upd H s.heap.objs.size (.lst ((List.range m).map fun i : Nat => V.int i)), I.laid (t' := tk) hk (Nat.le_refl _) ⟨by rw [List.length_map, List.length_range, sizeLine_eq]; omega, acc'.toList, c', ?_, by simpa using hS⟩, rfl, q _ _ (I.hok.fresh (Nat.le_refl _)) (Ex.upd (I.hok.fresh (Nat.le_refl _))) upd_same⟩
  obtain ⟨hs, hg⟩ := hacc
  refine vals_of _ _ (by rw [List.length_map, List.length_range, Array.length_toList, hs]) fun i x u h1 h2 => ?_
  rw [List.getElem?_map] at h1
  obtain ⟨t, rfl⟩ := hg i u (by rw [← Array.getElem?_toList]; exact h2)
  cases h3 : (List.range m)[i]? with
  | none => rw [h3] at h1; cases h1
  | some y =>
    rw [h3] at h1
    obtain rfl : x = V.int y := (Option.some.inj h1).symm
    have : y = i := by
      obtain ⟨hl, e⟩ := List.getElem?_eq_some_iff.mp h3
      rw [List.getElem_range] at e
      exact e.symm
    subst this
    exact ⟨t, by rw [Int.mul_one, Int.zero_add]⟩
end
end Rp
namespace Rp
open PySem PySem.Spec PyProof.Rows L2
section
variable {P : Program} {w : World} {K : PySem.W.Frag} {mg : Str → Option Value} {base : Heap} {k j : Nat} {N Vz Sz G : List Str} {sc : Scope} {X : Cx} {σ : L2.St} {H : Hp} {Q : VK} {e o : Expr} {es : List Expr} {p pos apos : Pos} {x : Str} {D : Ends}
/-! ### xs.pop(), xs.pop(i), xs.clear() -/
theorem wE_pop (hbase : attributeBase o "pop" X.env (eval o X.env) = eval o X.env) (hline : (apos.endLine == pos.line) = true)
    (q : wE X o σ H fun x H1 => ∃ l xs y, x = .ref l ∧ H1 l = some (.lst xs) ∧ xs[xs.length - 1]? = some y ∧ ∀ H2, Exb l H1 H2 → H2 l = some (.lst xs.dropLast) → Q y H2) : wE X (.Call (.Attribute o "pop" apos) [] [] pos) σ H Q := by
  refine wE.of (pe_bm0 (T := "list") F.plainAttrs_list F.slot_list_pop F.type_list_pop mt_pop wE.pe hbase hline) ?_
  exact q.mono fun x H1 ⟨l, xs, y, ex, hl, hy, z⟩ => by
    subst ex
    exact ⟨.inl ⟨rfl, _, SqL.of hl⟩, l, xs, y, rfl, rfl, hl, hy, z _ Exb.upd upd_same⟩
theorem wE_clear (hbase : attributeBase o "clear" X.env (eval o X.env) = eval o X.env) (hline : (apos.endLine == pos.line) = true)
    (q : wE X o σ H fun x H1 => ∃ l xs, x = .ref l ∧ H1 l = some (.lst xs) ∧ ∀ H2, Exb l H1 H2 → H2 l = some (.lst []) → Q .non H2) : wE X (.Call (.Attribute o "clear" apos) [] [] pos) σ H Q := by
  refine wE.of (pe_bm0 (T := "list") F.plainAttrs_list F.slot_list_clear F.type_list_clear mt_clear wE.pe hbase hline) ?_
  exact q.mono fun x H1 ⟨l, xs, ex, hl, z⟩ => by
    subst ex
    exact ⟨.inl ⟨rfl, _, SqL.of hl⟩, l, xs, rfl, rfl, hl, z _ Exb.upd upd_same⟩
theorem ix_nat {i n : Nat} (h : i < n) : seqIndex? (i : Int) n = some i := by
  unfold seqIndex?
  have h1 : ¬ (i : Int) < 0 := by omega
  have h2 : (decide (0 ≤ (i : Int)) && decide ((i : Int) < (n : Int))) = true := by
    rw [Bool.and_eq_true, decide_eq_true_eq, decide_eq_true_eq]
    omega
  simp only [if_neg h1, h2, if_true, Int.toNat_natCast]
theorem wE_popAt (hbase : attributeBase o "pop" X.env (eval o X.env) = eval o X.env)
    (hfew : ((backTo pos (starEach [e] X.env)).all (fun x => !x.1) && (backToKw pos (keywordEach [] X.env)).all (fun x => x.1.isSome) && decide ([e].length + ([] : List Keyword).length + (if ([] : List Keyword).isEmpty then 0 else 1) < 30)) = true)
    (hline : (apos.endLine == pos.line) = true) (hs : starEach [e] X.env = (false, eval e X.env) :: starEach [] X.env) (hplain : (backTo pos (starEach [] X.env)).any (·.1) = false)
    (q : wE X o σ H fun x H1 => ∃ l, x = .ref l ∧ (∃ xs, H1 l = some (.lst xs)) ∧ wE X e σ H1 fun y H2 => ∃ (xs : List V) (i : Nat) (z : V), y = .int i ∧ H2 l = some (.lst xs) ∧ xs[i]? = some z ∧ xs.length < 1000000 ∧ ∀ H3, Exb l H2 H3 → H3 l = some (.lst (xs.eraseIdx i)) → Q z H3) :
    wE X (.Call (.Attribute o "pop" apos) [e] [] pos) σ H Q := by
  refine wE.of (pe_bm (T := "list") F.plainAttrs_list F.slot_list_pop F.type_list_pop mt_popAt wE.pe wA.pa hbase hfew hline hs hplain) ?_
  refine q.mono fun x H1 ⟨l, ex, ⟨xs, hl⟩, z⟩ => ?_
  subst ex
  refine ⟨.inl ⟨rfl, _, SqL.of hl⟩, wA_cons hs (z.mono fun y H2 ⟨xs, i, z, ey, hl2, hz, hlt, q2⟩ => ?_)⟩
  subst ey
  have hi : i < xs.length := (List.getElem?_eq_some_iff.mp hz).1
  exact wA_nil ⟨l, xs, i, i, z, rfl, rfl, hl2, by omega, by omega, ix_nat hi, hz, q2 _ Exb.upd upd_same⟩
/-! ### o.x as one of several targets -/
theorem wG_fld {QS : L2.St → Hp → Prop} {v : V} (I : CxI P w K mg base k N Vz Sz G sc X) (q : wE X o σ H fun y H2 => PutQ K v y x H2 fun H3 => QS σ H3) : wG X (.Attribute o x pos) v σ H QS := by
  obtain ⟨rfl, rfl, rfl, rfl, rfl, _, _, _, _, _, _, _, _⟩ := I
  refine ⟨fun pins s u I0 ru => ?_⟩
  refine PySem.W.kas_attr (thn (q.run pins s I0) fun ov s2 ⟨y, H2, I2, ry, a, C, dx, fs, ey, ea, c, n, l, q2⟩ => ?_)
  subst ey
  obtain rfl : ov = Value.ref a := ry
  exact setattr_ok I2 ea c n l ru fun s3 I3 => ⟨σ, _, I3, q2⟩
end
end Rp
/-! ### enumerate(a tuple) -/
namespace EnT
open PySem PySem.Calls PyProof.Rows
open AutoSeq1 (wpAny_loadPart')
abbrev tupIt (l : Addr) : Obj := { cls := .type "tuple_iterator", data := .fields #[.ref l, .int 0 0] }
theorem meets_new (l : Addr) (items : Array Value) (n : Nat) (dct : Option Addr) (sl : Array (Option Value)) :
    Meets (Builtin.«enumerate.__new__» ⟨[.type "enumerate", .ref l], []⟩) (fun _ R s => s.heap.get? l = some { cls := .type "tuple", dict := dct, data := .seq items n, slots := sl } ∧
      R (.ok (.ret (.ref (s.heap.push (tupIt l)).objs.size)))
        { s with heap := (s.heap.push (tupIt l)).push { cls := .type "enumerate", data := .fields #[.none, .bool false, .ref s.heap.objs.size, rawInt 0, .none, .none] } }) :=
  .of_wp fun prog w A R s h => by
    obtain ⟨hp, g, d, tk, os⟩ := s
    obtain ⟨hl, h⟩ := h
    have sube := sub_enumerate
    have hT : Heap.IsTuple (Shared.heap ⟨hp, g, d, tk, os⟩) l items := ⟨_, hl, rfl, n, rfl⟩
    wp_walk using wpAny_loadPart' hl
    refine wpAny_stack_any fun st => wpAny_pure ?_
    split
    · rename_i c _ _ _ _ _
      cases (c == Value.type "enumerate")
      · wp_walk using wpAny_loadPart' hl, wpAny_pyIter_tuple hT
        exact ⟨_, rfl, h⟩
      · wp_walk using wpAny_loadPart' hl, wpAny_pyIter_tuple hT
        exact ⟨_, rfl, h⟩
    · wp_walk using wpAny_loadPart' hl, wpAny_pyIter_tuple hT
      exact ⟨_, rfl, h⟩
section
variable {prog : Program} {w : World} {A : Around} {E : Value → Shared → Prop} {s : Shared}
theorem call_enT {l : Addr} {items : Array Value} {Q : Value → Shared → Prop} (hL : s.heap.IsTuple l items)
    (h : ∀ h', IsEnum h' (s.heap.objs.size + 1) s.heap.objs.size 0 .none → h'.IsTupleIter s.heap.objs.size l 0 → h'.objs.size = s.heap.objs.size + 2 → (∀ b o, s.heap.get? b = some o → h'.get? b = some o) → Q (.ref (s.heap.objs.size + 1)) { s with heap := h' }) :
    wpAny (model prog w) A (call (.type "enumerate") [.ref l]) Q E s := by
  obtain ⟨⟨c, dct, dt, sl⟩, hl, hc, n, hd⟩ := hL
  obtain rfl : c = .type "tuple" := hc
  obtain rfl : dt = .seq items n := hd
  refine callType_new F.called_enumerate (by decide) (F.typeCall_enumerate_1 _) (F.newCall_enumerate_1 _) (fun obj => F.args_object_init_2 obj _) F.entry_enumerate_new (meets_new l items n dct sl) ⟨hl, ?_⟩
  have hz : (s.heap.push (tupIt l)).objs.size = s.heap.objs.size + 1 := Heap.size_push ..
  show _ ∧ _
  rw [hz]
  have he : IsEnum ((s.heap.push (tupIt l)).push { cls := .type "enumerate", data := .fields #[.none, .bool false, .ref s.heap.objs.size, rawInt 0, .none, .none] }) (s.heap.objs.size + 1) s.heap.objs.size 0 .none := by
    have u := Heap.get?_push_size (s.heap.push (tupIt l)) (o := { cls := .type "enumerate", data := .fields #[.none, .bool false, .ref s.heap.objs.size, rawInt 0, .none, .none] }) rfl
    rw [hz] at u
    exact u
  exact ⟨⟨_, he, rfl⟩, h _ he ⟨_, Heap.get?_push_of_some _ (Heap.get?_push_size _ rfl), rfl, rfl⟩ (by rw [Heap.size_push, hz]) fun b o x => Heap.get?_push_of_some _ (Heap.get?_push_of_some _ x)⟩
end
end EnT
namespace Rp
open PySem PySem.Spec PyProof.Rows L2
/-- the tuple at a, each item in a new pair -/
def IteT (K : PySem.W.Frag) (a : Addr) : It :=
  ⟨fun i H => ∃ (xs : List V) (x : V), SqT K H a xs ∧ xs[i]? = some x, fun i H v H' => ∃ T x, v = .ref T ∧ H T = none ∧ H' = upd H T (.tup [.int (i : Nat), x]) ∧ ∀ xs, SqT K H a xs → xs[i]? = some x, fun i H => ∃ xs : List V, SqT K H a xs ∧ xs.length = i⟩
theorem turn_enT {P : Program} {w : World} {K : PySem.W.Frag} {elts : List Expr} {kk : Nat} {tpos : Pos} (a e it : Addr) :
    Turn P w K (.Tuple elts kk tpos) (IteT K a) [e, it] e (fun i h => (∃ old, IsEnum h e it ((i : Nat) : Int) old) ∧ h.IsTupleIter it a i ∧ e ≠ it ∧ a ≠ it ∧ a ≠ e) where
  mem := by simp
  obj := fun i h st b hb => by
    obtain ⟨⟨old, he⟩, ⟨o, ho, hc, hd⟩, _⟩ := st
    rcases List.mem_cons.mp hb with z | z
    · rw [z]; exact ⟨_, he, fun v q => nomatch q⟩
    · rw [List.mem_singleton.mp z]; exact ⟨o, ho, fun v q => by rw [hd] at q; cases q⟩
  keep := fun i h h' st k => let ⟨⟨old, he⟩, hi, hne⟩ := st; ⟨⟨old, k e (by simp) _ he⟩, hi.at fun o q => k it (by simp) o q, hne⟩
  item := by
    intro X hP hw hK hc i pins s σ H E I hf st hg
    subst hP hw hK
    obtain ⟨⟨old, he⟩, hit, hne, nai, nae⟩ := st
    obtain ⟨xs, x, hq, hx⟩ := hg
    obtain ⟨its, rv, p, hz⟩ := I.tuple hq
    obtain ⟨u, hu, ru⟩ := rv.get hx
    have hT : s.heap.IsTuple a its.toArray := p
    have zl : i < its.toArray.size := by
      have := (List.getElem?_eq_some_iff.mp hu).1
      simpa using this
    have hel : e < s.heap.objs.size := Heap.lt_size he
    have hil : it < s.heap.objs.size := by obtain ⟨_, q, _⟩ := hit; exact Heap.lt_size q
    refine wpAny_pyNext_enum_itemD (Draws.tuple (A := X.A.in1) (I.ok.hd hc) it a nai its.toArray) he ⟨hit, hT⟩ zl hne (fun z => (List.mem_cons.mp z).elim (fun z => hne z) (fun z => nae (List.mem_singleton.mp z).symm)) fun x2 h' tk hx2 ho st' hTu hsz hk => ?_
    obtain rfl : u = x2 := by
      have z : its.toArray[i]? = some u := by simpa using hu
      rw [z] at hx2
      exact Option.some.inj hx2
    refine ⟨_, rfl, wpAny_letOwnedTupleGo_enum (s := { s with heap := h', toks := tk + 1 }) ho fun h'' he' sb => ?_⟩
    have hT2 : h''.get? s.heap.objs.size = some { cls := .type "tuple", data := .seq #[.int i tk, u] } := (sb.2 _ (Nat.ne_of_gt hel)).trans hTu
    have new : ObjOk X.prog X.w (upd H s.heap.objs.size (.tup [.int (i : Nat), x])) h'' s.heap.objs.size (.tup [.int (i : Nat), x]) :=
      ⟨by show 2 ≤ sizeLine; decide, [.int i tk, u], .cons ⟨_, rfl⟩ (.cons ru .nil), ⟨_, hT2, rfl, _, rfl⟩⟩
    have I1 : Inv X pins σ (upd H s.heap.objs.size (.tup [.int (i : Nat), x])) { s with heap := h'', toks := tk + 1 } :=
      I.turnedNew (ch := [e, it]) (fun b ob hb q => (sb.2 b (fun z => hb (by simp [z]))).trans (hk b ob (fun z => hb (by simp [z])) (fun z => hb (by simp [z])) q)) hf (Nat.le_refl _) new
    refine ⟨.ref s.heap.objs.size, _, I1, rfl, ⟨_, x, rfl, I.hok.fresh (Nat.le_refl _), rfl, fun ys hy => by rw [I.tuple_inj hy hq]; exact hx⟩, ⟨⟨u, ?_⟩, st'.1.at fun o q => (sb.2 it (Ne.symm hne)).trans q, hne, nai, nae⟩, fun b hb => ?_⟩
    · have e1 : ((i + 1 : Nat) : Int) = (i : Int) + 1 := by omega
      rw [e1]; exact he'
    · have hb' : b < s.heap.objs.size := by
        rcases List.mem_cons.mp hb with z | z
        · rw [z]; exact hel
        · rw [List.mem_singleton.mp z]; exact hil
      rw [upd_ne (Nat.ne_of_lt hb')]
      exact (hf b hb).1
  done := by
    intro X hP hw hK hc i pins s σ H E I hf st hg
    subst hP hw hK
    obtain ⟨⟨old, he⟩, hit, hne, nai, nae⟩ := st
    obtain ⟨xs, hq, rfl⟩ := hg
    obtain ⟨its, rv, p, hz⟩ := I.tuple hq
    have hT : s.heap.IsTuple a its.toArray := p
    obtain ⟨f0, f1, f2, f3, f4, f5⟩ := hf it (by simp)
    refine wpAny_pyNext_enum_endD (Draws.tuple (A := X.A.in1) (I.ok.hd hc) it a nai its.toArray) he ⟨?_, hT⟩ fun h' eb => ⟨rfl, I.turned (t' := s.toks) (fun b o hb q => eb b o hb q) f0 f1 f3 f4 f5⟩
    rw [List.size_toArray, ← rv.length]
    exact hit
  self := fun A i s Q E st h => let ⟨⟨_, he⟩, _⟩ := st; wpAny_pyIter_enum he h
def iEnT (K : PySem.W.Frag) (ta : TA) : TI := fun σ H R => ta σ H fun vs H1 => ∃ a xs, vs = [.ref a] ∧ H1 a = some (.tup xs) ∧ R (IteT K a) H1
theorem pi_enT {X : Cx} {e : Expr} {ta : TA} {p pos tpos : Pos} {elts : List Expr} {kk : Nat} (hg : Gl X "enumerate") (hm : X.mg "enumerate" = none) (ha : PA X [e] ta) (hs : starEach [e] X.env = [(false, eval e X.env)]) :
    PI X (.Tuple elts kk tpos) (.Call (.Name "enumerate" p) [e] [] pos) (iEnT X.K ta) := by
  refine ⟨fun pins s σ H R I h => ?_⟩
  refine Call_ (ld_blt I hg hm boot_enumerate (PyProof.Rows.callWith_type1 (thn (ha.run pos pins s σ H _ I h) fun us s1 ⟨vs, H1, I1, r1, q1⟩ => ?_) hs rfl))
  obtain ⟨a, xs, ex, hq, q⟩ := q1
  subst ex
  cases r1 with
  | cons r rr =>
    cases rr
    cases r
    obtain ⟨its, rv, pT, hz⟩ := I1.tuple (SqT.of hq)
    have hT : s1.heap.IsTuple a its.toArray := pT
    have la : a < s1.heap.objs.size := by obtain ⟨o, ho, _⟩ := hT; exact Heap.lt_size ho
    refine EnT.call_enT hT fun h' he hit hsz hk => wpAny_pyIter_enum he ?_
    have I2 : Inv X pins σ H1 { s1 with heap := h' } := I1.kept (t' := s1.toks) hk
    refine ⟨s1.heap.objs.size + 1, [s1.heap.objs.size + 1, s1.heap.objs.size], _, _, H1, rfl, I2, turn_enT a (s1.heap.objs.size + 1) s1.heap.objs.size, ⟨⟨.none, he⟩, hit, Nat.succ_ne_self _, Nat.ne_of_lt la, Nat.ne_of_lt (Nat.lt_succ_of_lt la)⟩, fun b hb => ?_, q⟩
    have hle : s1.heap.objs.size ≤ b := by
      rcases List.mem_cons.mp hb with z | z
      · rw [z]; exact Nat.le_succ _
      · rw [List.mem_singleton.mp z]; exact Nat.le_refl _
    exact I1.fpOk hle (I1.hok.fresh hle)
section
variable {P : Program} {w : World} {K : PySem.W.Frag} {mg : Str → Option Value} {base : Heap} {k j : Nat} {N Vz Sz G : List Str} {sc : Scope} {X : Cx} {σ : L2.St} {H : Hp} {ex : Expr} {elts : List Expr} {sts : List Stmt} {kk : Nat} {p1 p2 pos tpos : Pos} {D : Ends}
/-- for .. in enumerate(a tuple) -/
theorem wS_enumT (C : CxI P w K mg base k N Vz Sz G sc X) (hm : mg "enumerate" = none) (hx : ("enumerate" : Str) ∈ G) (hs : starEach [ex] X.env = [(false, eval ex X.env)])
    (q : wA X [ex] σ H fun vs H1 => ∃ a xs, vs = [.ref a] ∧ H1 a = some (.tup xs) ∧ ∃ Pv : Nat → L2.St → Hp → Prop, Pv 0 σ H1 ∧ (∀ i σ H, i ≤ xs.length → Pv i σ H → H a = some (.tup xs)) ∧
      (∀ i x T σ H H', xs[i]? = some x → Pv i σ H → H T = none → Ex H H' → H' T = some (.tup [.int (i : Nat), x]) → wG X (.Tuple elts kk tpos) (.ref T) σ H' fun σ2 H2 => wB X sts { D with nx := Pv (i + 1), ct := Pv (i + 1), bk := D.nx } σ2 H2) ∧ ∀ σ H, Pv xs.length σ H → D.nx σ H) :
    wS X (.For (.Tuple elts kk tpos) (.Call (.Name "enumerate" p1) [ex] [] p2) sts [] pos) D σ H := by
  obtain ⟨l, _, _⟩ := C.glo hx
  refine wS.of (ps_for C.po C.calm (pi_enT l (by rw [C.em]; exact hm) wA.pa hs) wG.pg wB.pss (fun _ => rfl)) ?_
  show wA X [ex] σ H _
  refine ⟨fun pp pins s I => thn (q.run pp pins s I) ?_⟩
  rintro uu s1 ⟨vs, H1, I1, r1, a, xs, ev, q1, Pv, h0, hq, hst, hd⟩
  refine ⟨vs, H1, I1, r1, a, xs, ev, q1, ?_⟩
  refine ⟨fun i m σ H => m = xs.length - i ∧ i ≤ xs.length ∧ Pv i σ H, ⟨xs.length, rfl, Nat.zero_le _, h0⟩, ?_⟩
  rintro i m σ H ⟨rfl, hi, pv⟩
  have k1 := SqT.of (K := X.K) (hq i σ H hi pv)
  by_cases hlt : i < xs.length
  · have g1 : xs[i]? = some xs[i] := List.getElem?_eq_getElem hlt
    refine .inr ⟨⟨xs, _, k1, g1⟩, Pv (i + 1), fun σ' H' p' => ⟨xs.length - (i + 1), by omega, rfl, hlt, p'⟩, fun v H' y => ?_⟩
    obtain ⟨T, x', rfl, hT, rfl, f1⟩ := y
    exact hst i x' T σ H _ (f1 xs k1) pv hT (Ex.upd hT) upd_same
  · have e' : i = xs.length := by omega
    subst e'
    exact .inl ⟨⟨xs, k1, rfl⟩, hd σ H pv⟩
theorem wT.mono {e : Expr} {QA QB : Bool → Hp → Prop} (q : wT X e σ H QA) (h : ∀ b H', QA b H' → QB b H') : wT X e σ H QB := ⟨fun pins s I => thn (q.run pins s I) fun u s1 ⟨H1, I1, z⟩ => ⟨H1, I1, h u H1 z⟩⟩
/-- while t: .. (μ falls) -/
theorem wS_while {tst : Expr} (C : CxI P w K mg base k N Vz Sz G sc X) (Pv : L2.St → Hp → Prop) (μ : L2.St → Hp → Nat) (h0 : Pv σ H)
    (hs : ∀ σ H, Pv σ H → wT X tst σ H fun b H1 => if b = true then wB X sts { D with nx := fun σ' H' => Pv σ' H' ∧ μ σ' H' < μ σ H, ct := fun σ' H' => Pv σ' H' ∧ μ σ' H' < μ σ H, bk := D.nx } σ H1 else D.nx σ H1) : wS X (.While tst sts [] pos) D σ H :=
  wS.of (ps_while C.po wT.pt wB.pss) (while_by Pv μ h0 hs fun σ H Q Q' h q => wT.mono q h)
end
end Rp
namespace Rp
open PySem PySem.Spec PyProof.Rows L2
section
variable {P : Program} {w : World} {K : PySem.W.Frag} {mg : Str → Option Value} {base : Heap} {k : Nat} {N Vz Sz G : List Str} {sc : Scope} {X : Cx} {σ : L2.St} {H : Hp} {D : Ends} {body : List Stmt} {h₀ : ExceptHandler} {hs : List ExceptHandler} {pos : Pos}
/-! ### try with clauses, where the body raises nothing -/
theorem CxI.never (C : CxI P w K mg base k N Vz Sz G sc X) : CxI P w K mg base k N Vz Sz G sc X.nox := ⟨C.eP, C.ew, C.eK, C.em, C.eb, C.eN, C.es, C.room, C.calm, C.fn, PassesOwn.never, C.nd, C.ok, C.fk⟩
theorem wS_try0 (C : CxI P w K mg base k N Vz Sz G sc X) (q : ∀ X', CxI P w K mg base k N Vz Sz G sc X' → wB X' body D σ H) : wS X (.Try body (h₀ :: hs) [] [] pos) D σ H :=
  wS.of (ps_try_thru0 (wB.pss (X := X.nox))) (q _ C.never)
end
end Rp
namespace Rp
open PySem PySem.Spec PyProof.Rows L2
/-! ### the class KeyError -/
abbrev keB : List Value := [.type "KeyError", .type "LookupError", .type "Exception", .type "BaseException", .type "object"]
open PySem.F in
theorem store_KeyError : StoreFacts "KeyError" keB "object.__setattr__" "object" where
  mro := by kernel_rfl
  slot := .of (owner := "object") (n := "__setattr__") (by rw [typeLookup_type, builtinLookup_eq_fast]; kernel_rfl) (by decide +kernel) (by decide +kernel) (by decide +kernel)
    (by first | exact .inl (by decide +kernel) | exact .inr (by decide +kernel)) (by rw [isSubtype_type]; kernel_rfl)
  entry := entry_object_sa
  kind := by decide +kernel
  split := by decide +kernel
  hasOwner := by decide +kernel
  args := fun a b c => by unfold argsOk; kernel_rfl
  passes := fun self => by kernel_rfl
open PySem.F in
theorem in_KeyError : InF "KeyError" "KeyError.__init__" where
  slot := .of (owner := "KeyError") (n := "__init__") (by rw [typeLookup_type, builtinLookup_eq_fast]; kernel_rfl) (by decide +kernel) (by decide +kernel) (by decide +kernel)
    (by first | exact .inl (by decide +kernel) | exact .inr (by decide +kernel)) (by rw [isSubtype_type]; kernel_rfl)
  entry := entryFor_alias (id' := "BaseException.__init__") (by rw [fastTable_eq_tree]; kernel_rfl) (by first | rfl | decide +kernel) (by decide +kernel) (by rw [fastTable_eq_tree]; kernel_rfl)
  split := by kernel_rfl
  kind := by kernel_rfl
  row := by kernel_rfl
/-- made by the class that it stands under -/
theorem bs_K : Bs "KeyError" "LookupError.__new__" "KeyError.__init__" keB := ⟨⟨"LookupError", _, _, F.excBase_LookupError, by decide +kernel⟩, by decide +kernel, by decide +kernel, by decide +kernel, by decide +kernel, in_KeyError, store_KeyError⟩
/-! ### a text == whatever -/
theorem rcAt_str_dct {A : Around} {s : Shared} {l : Addr} {o : Obj} {es : Array DictEntry} {n : Nat} (b : Str) (u : Tok) (hl : s.heap.get? l = some o) (ho : o.cls = .type "dict") (hd : o.data = .dict es n) (hu : A.units < cLine) : SeqAt.RcAt A s (.str b u) (.ref l) false := fun prog w E Q h =>
  SeqAt.rc_eq_decline_or (k := false) (typeIs_str s b u) ⟨_, hl, ho⟩ (by decide) F.sub_dict_str F.slot_str_eq F.slot_dict_eq_refl
    (fun _ hq => call_meets F.slot_str_eq (typeIs_str s b u) F.entry_str_eq (F.args_str_eq_2 _ _) (str_dct_dec b u l o es n hd) ⟨hl, hq⟩)
    (fun _ hq => call_meets F.slot_dict_eq_refl ⟨_, hl, ho⟩ F.entry_dict_eq (F.args_dict_eq_2 _ _) (dct_str_dec b u l o es n hd ho) ⟨hl, hq⟩)
    (fun _ hq => wpAny_of_eq (rfl : isSame (.str b u) (.ref l) = pure false) hq) (.inr hu) h
section
variable {P : Program} {w : World} {K : PySem.W.Frag} {mg : Str → Option Value} {base : Heap} {k : Nat} {N Vz Sz G : List Str} {sc : Scope} {X : Cx} {H : Hp} {Q : VK} {y : V} {T : String} {b : Str}
/-- where y is no text, or another one -/
theorem o_eqST (C : CxI P w K mg base k N Vz Sz G sc X) (th : Thg H y T) (q : Q (.bl (eqV (.str b) y)) H) : wO X (compareOp .Eq) (.str b) y H Q := by
  have hu : X.A.units < cLine := C.room.units0
  refine ⟨fun pins s σ v u I rx ry => ?_⟩
  obtain ⟨t, rfl⟩ := rx
  show wpAny _ _ (richCompare .Eq (.str b t) u) _ _ _
  cases th with
  | non =>
    obtain rfl : u = Value.none := ry
    exact SeqAt.RcAt.str_none b t _ _ _ _ ⟨.bl false, H, I, rfl, q⟩
  | bl c =>
    obtain rfl : u = Value.bool c := ry
    exact SeqAt.RcAt.str_bool b t c _ _ _ _ ⟨.bl false, H, I, rfl, q⟩
  | int i =>
    obtain ⟨t2, rfl⟩ := ry
    exact SeqAt.RcAt.str_int b t i t2 _ _ _ _ ⟨.bl false, H, I, rfl, q⟩
  | str z =>
    obtain ⟨t2, rfl⟩ := ry
    refine SeqAt.RcAt.str_str b t z t2 _ _ _ _ ⟨.bl (b == z), H, I, rfl, ?_⟩
    have e : eqV (.str b) (.str z) = (b == z) := by
      show decide (b = z) = _
      by_cases h : b = z
      · subst h; simp
      · rw [decide_eq_false h]; exact (beq_eq_false_iff_ne.mpr h).symm
    rw [← e]; exact q
  | @lst p xs e =>
    obtain rfl : u = Value.ref p := ry
    obtain ⟨_, its, n, _, e⟩ := (show ObjOk X.prog X.w H s.heap p (.lst xs) from I.hok p _ e)
    exact SeqAt.RcAt.str_list b t ⟨_, e, rfl, _, rfl⟩ hu _ _ _ _ ⟨.bl false, H, I, rfl, q⟩
  | @tup p xs e =>
    obtain rfl : u = Value.ref p := ry
    obtain ⟨_, its, _, o, ho, hc, n, hd⟩ := (show ObjOk X.prog X.w H s.heap p (.tup xs) from I.hok p _ e)
    exact SeqAt.RcAt.str_tuple b t ⟨_, ho, hc, _, hd⟩ hu _ _ _ _ ⟨.bl false, H, I, rfl, q⟩
  | @dct p kvs e =>
    obtain rfl : u = Value.ref p := ry
    obtain ⟨_, _, _, _, o, _, _, e, ex, hd, _⟩ := (show ObjOk X.prog X.w H s.heap p (.dK kvs) from I.hok p _ e)
    exact rcAt_str_dct b t e ex.1 hd hu _ _ _ _ ⟨.bl false, H, I, rfl, q⟩
end
end Rp
namespace Rp
open PySem PySem.Spec PyProof.Rows L2
/-! ### o.m(e, .., k = v, ..) -/
structure Mnx (P : Program) (w : World) (K : PySem.W.Frag) (mg : Str → Option Value) (base : Heap) (k : Nat) (C : Addr) (m : Str) (n : Nat) (ks : List Str) (gV : List V → List V → List V) (sp : Sp) : Prop where
  ex : ∃ f fd ps g, Meth K C m f ∧ FnOk P w K mg base (L2N.CX P w) k f fd ps sp ∧ KBn K fd ps (n + 1) ks g gV
section
variable {P : Program} {w : World} {K : PySem.W.Frag} {mg : Str → Option Value} {base : Heap} {k j n : Nat} {N Vz Sz G ks : List Str} {sc : Scope} {m : Str} {p apos pos : Pos} {X : Cx} {C : Addr} {sp : Sp} {e o : Expr} {es : List Expr} {kws : List Keyword} {σ : L2.St} {H : Hp} {Q : VK} {E : XK}
theorem wE_methNX {pl : Sem Bool} {gV : List V → List V → List V} (I : CxI P w K mg base k N Vz Sz G sc X) (T : L2N.Takes X (wOf E)) (c : Cls K C) (M : Mnx P w K mg base j C m n ks gV sp) (hj : j ≤ k)
    (hall : (backToKw pos (keywordEach kws X.env)).all (·.1.isSome) = true) (hks : (backToKw pos (keywordEach kws X.env)).filterMap (·.1) = ks) (he : starEach (e :: es) X.env = (false, eval e X.env) :: starEach es X.env)
    (hpl : ((backTo pos (starEach (e :: es) X.env)).any (·.1) || (backToKw pos (keywordEach kws X.env)).any (·.1.isNone)) = false)
    (ht : eval (.Call (.Attribute o m apos) (e :: es) kws pos) X.env = (do
      let ov ← eval o X.env
      standAt apos.atName
      let (f, first) ← holding [ov] (getMethod ov m pl)
      callWith pos f first (backTo pos (starEach (e :: es) X.env)) (backToKw pos (keywordEach kws X.env))))
    (q : wE X o σ H fun y H1 => MetQ C m y H1 (wA X (e :: es) σ H1 fun vs H2 => wK X kws σ H2 fun zs H3 => vs.length = n ∧ zs.length = ks.length ∧ sp (gV (y :: vs) zs) H3 Q E)) : wE X (.Call (.Attribute o m apos) (e :: es) kws pos) σ H Q := by
  obtain ⟨f, fd, ps, g, hm, Fk, hb⟩ := M.ex
  obtain ⟨rfl, rfl, rfl, rfl, rfl, _, _, hr, _, _, _, _, _⟩ := I
  refine ⟨fun pins s I => ?_⟩
  refine PySem.W.methodCall_KW (pl := pl) (thn (q.run pins s I) fun u s1 ⟨y, H1, I1, rx, a, dx, fs, ex, ea, l, q1⟩ => ?_) ht
  subst ex
  obtain rfl : u = Value.ref a := rx
  refine getmeth_ok I1 ea c hm l ?_
  refine PySem.W.callWith_KW (first := [.ref a]) (h₀ := X.base) I.ok.mod.kin hm.kp hall (thn (q1.run pos pins s1 I1) fun us s2 ⟨vs, H2, I2, r2, q2⟩ => thn (q2.run pos pins s2 I2) fun ws s3 ⟨zs, H3, I3, rz, l2, l3, q3⟩ => ⟨I3.kIn, ?_⟩) hpl he
  rw [hks]
  exact run_fnN (us := .ref a :: us) (vs := .ref a :: vs) Fk (hr.mono hj) hb (L2N.passes_call T fun _ _ _ _ h => h) I3 (.cons rfl r2) rz (by rw [List.length_cons, l2]) l3 q3
end
/-! ### x, y = a, b where a lambda knows one of them -/
theorem swapped2N {x y : Str} {px py pt pt2 : Pos} {kt k2} {a b : Expr} {env : Env} (hb : env.blockKind = .function) (hx : (env.kindOf x == some .local) = false ∨ (env.kindOf y == some .local) = false) (h1 : ([a, b].any fun | .Starred .. => true | _ => false) = false) :
    swappedStores [.Tuple [.Name x px, .Name y py] kt pt] (.Tuple [a, b] k2 pt2) env = pure none := by
  unfold swappedStores
  simp only [hb, h1, List.length_cons, List.length_nil, List.filterMap_cons, List.filterMap_nil]
  rcases hx with hx | hx <;> simp only [hx, Bool.false_and, Bool.false_eq_true, if_false]
  all_goals
    simp
    intro _ _ h3
    exfalso
    revert h3
    split <;> simp
section
variable {P : Program} {w : World} {K : PySem.W.Frag} {mg : Str → Option Value} {base : Heap} {k : Nat} {N Vz Sz G : List Str} {sc : Scope} {x y : Str} {X : Cx} {a b : Expr} {σ : L2.St} {H : Hp} {pos : Pos} {D : Ends}
theorem wS_parC {px py pt pt2 : Pos} {kt k2} (C : CxI P w K mg base k N Vz Sz G sc X) (hx : (sc.names.lookup x == some .local) = false ∨ (sc.names.lookup y == some .local) = false) (h1 : ([a, b].any fun | .Starred .. => true | _ => false) = false)
    (hs : swapsWithSole [.Tuple [.Name x px, .Name y py] kt pt] (.Tuple [a, b] k2 pt2) pos.line X.env = pure false) (h2 : (assignEach [.Tuple [.Name x px, .Name y py] kt pt] X.env).map (·.2) = [assign (.Tuple [.Name x px, .Name y py] kt pt) X.env])
    (q : wE X (.Tuple [a, b] k2 pt2) σ H fun v H1 => wG X (.Tuple [.Name x px, .Name y py] kt pt) v σ H1 D.nx) : wS X (.Assign [.Tuple [.Name x px, .Name y py] kt pt] (.Tuple [a, b] k2 pt2) pos) D σ H := by
  have hb : X.env.blockKind = .function := by unfold Env.blockKind; rw [C.es, C.fk]; rfl
  have ex : X.env.kindOf x = sc.names.lookup x := by show X.env.scope.names.lookup x = _; rw [C.es]
  have ey : X.env.kindOf y = sc.names.lookup y := by show X.env.scope.names.lookup y = _; rw [C.es]
  exact wS_asg hs (swapped2N hb (by rw [ex, ey]; exact hx) h1) h2 q
end
end Rp
namespace Rp
open PySem PySem.Spec PyProof.Rows L2
def topS (i : Nat) : Stmt := PySem.Challenge.pw_roadpence_k33_whole_journeys_in_any_orde.main.body.getD i (.Pass ⟨0, 0, 0, 0⟩)
abbrev s__wall : Stmt := topS 0
abbrev N__wall : List Str := ["k"]
abbrev V__wall : List Str := ["k"]
abbrev G__wall : List Str := []
theorem sc__wall : FnScope N__wall ["k"] (defScope s__wall) := ⟨rfl, rfl, rfl, by decide +kernel, rfl, by decide +kernel, by decide +kernel⟩
theorem ok__wall : namesOk V__wall V__wall G__wall (defScope s__wall) = true := by decide +kernel
abbrev s_NoSpending_init : Stmt := inClass (topS 6) 0
abbrev N_NoSpending_init : List Str := ["self", "part"]
abbrev V_NoSpending_init : List Str := ["self", "part"]
abbrev G_NoSpending_init : List Str := ["PenceError"]
theorem sc_NoSpending_init : FnScope N_NoSpending_init ["self", "part"] (defScope s_NoSpending_init) := ⟨rfl, rfl, rfl, by decide +kernel, rfl, by decide +kernel, by decide +kernel⟩
theorem ok_NoSpending_init : namesOk V_NoSpending_init V_NoSpending_init G_NoSpending_init (defScope s_NoSpending_init) = true := by decide +kernel
abbrev s_NoJourney_init : Stmt := inClass (topS 7) 0
abbrev N_NoJourney_init : List Str := ["self", "part"]
abbrev V_NoJourney_init : List Str := ["self", "part"]
abbrev G_NoJourney_init : List Str := ["PenceError"]
theorem sc_NoJourney_init : FnScope N_NoJourney_init ["self", "part"] (defScope s_NoJourney_init) := ⟨rfl, rfl, rfl, by decide +kernel, rfl, by decide +kernel, by decide +kernel⟩
theorem ok_NoJourney_init : namesOk V_NoJourney_init V_NoJourney_init G_NoJourney_init (defScope s_NoJourney_init) = true := by decide +kernel
abbrev s_TooMany_init : Stmt := inClass (topS 8) 0
abbrev N_TooMany_init : List Str := ["self", "many", "most"]
abbrev V_TooMany_init : List Str := ["self", "many", "most"]
abbrev G_TooMany_init : List Str := ["PenceError"]
theorem sc_TooMany_init : FnScope N_TooMany_init ["self", "many", "most"] (defScope s_TooMany_init) := ⟨rfl, rfl, rfl, by decide +kernel, rfl, by decide +kernel, by decide +kernel⟩
theorem ok_TooMany_init : namesOk V_TooMany_init V_TooMany_init G_TooMany_init (defScope s_TooMany_init) = true := by decide +kernel
abbrev s_NoDay_init : Stmt := inClass (topS 9) 0
abbrev N_NoDay_init : List Str := ["self", "day"]
abbrev V_NoDay_init : List Str := ["self", "day"]
abbrev G_NoDay_init : List Str := ["IndexError"]
theorem sc_NoDay_init : FnScope N_NoDay_init ["self", "day"] (defScope s_NoDay_init) := ⟨rfl, rfl, rfl, by decide +kernel, rfl, by decide +kernel, by decide +kernel⟩
theorem ok_NoDay_init : namesOk V_NoDay_init V_NoDay_init G_NoDay_init (defScope s_NoDay_init) = true := by decide +kernel
abbrev s_NoHeads_init : Stmt := inClass (topS 10) 0
abbrev N_NoHeads_init : List Str := ["self", "heads"]
abbrev V_NoHeads_init : List Str := ["self", "heads"]
abbrev G_NoHeads_init : List Str := ["ZeroDivisionError"]
theorem sc_NoHeads_init : FnScope N_NoHeads_init ["self", "heads"] (defScope s_NoHeads_init) := ⟨rfl, rfl, rfl, by decide +kernel, rfl, by decide +kernel, by decide +kernel⟩
theorem ok_NoHeads_init : namesOk V_NoHeads_init V_NoHeads_init G_NoHeads_init (defScope s_NoHeads_init) = true := by decide +kernel
abbrev s_is_whole : Stmt := topS 16
abbrev N_is_whole : List Str := ["thing", "least", "most"]
abbrev V_is_whole : List Str := ["thing", "least", "most"]
abbrev G_is_whole : List Str := ["bool", "int", "isinstance"]
theorem sc_is_whole : FnScope N_is_whole ["thing", "least", "most"] (defScope s_is_whole) := ⟨rfl, rfl, rfl, by decide +kernel, rfl, by decide +kernel, by decide +kernel⟩
theorem ok_is_whole : namesOk V_is_whole V_is_whole G_is_whole (defScope s_is_whole) = true := by decide +kernel
abbrev s_is_truth : Stmt := topS 17
abbrev N_is_truth : List Str := ["thing"]
abbrev V_is_truth : List Str := ["thing"]
abbrev G_is_truth : List Str := ["bool", "isinstance"]
theorem sc_is_truth : FnScope N_is_truth ["thing"] (defScope s_is_truth) := ⟨rfl, rfl, rfl, by decide +kernel, rfl, by decide +kernel, by decide +kernel⟩
theorem ok_is_truth : namesOk V_is_truth V_is_truth G_is_truth (defScope s_is_truth) = true := by decide +kernel
abbrev s_is_kind : Stmt := topS 18
abbrev N_is_kind : List Str := ["thing"]
abbrev V_is_kind : List Str := ["thing"]
abbrev G_is_kind : List Str := ["KINDS"]
theorem sc_is_kind : FnScope N_is_kind ["thing"] (defScope s_is_kind) := ⟨rfl, rfl, rfl, by decide +kernel, rfl, by decide +kernel, by decide +kernel⟩
theorem ok_is_kind : namesOk V_is_kind V_is_kind G_is_kind (defScope s_is_kind) = true := by decide +kernel
abbrev s_is_town : Stmt := topS 19
abbrev N_is_town : List Str := ["thing"]
abbrev V_is_town : List Str := ["thing"]
abbrev G_is_town : List Str := ["LAST_TOWN", "is_whole"]
theorem sc_is_town : FnScope N_is_town ["thing"] (defScope s_is_town) := ⟨rfl, rfl, rfl, by decide +kernel, rfl, by decide +kernel, by decide +kernel⟩
theorem ok_is_town : namesOk V_is_town V_is_town G_is_town (defScope s_is_town) = true := by decide +kernel
abbrev s_is_day : Stmt := topS 20
abbrev N_is_day : List Str := ["thing"]
abbrev V_is_day : List Str := ["thing"]
abbrev G_is_day : List Str := ["LAST_DAY", "is_whole"]
theorem sc_is_day : FnScope N_is_day ["thing"] (defScope s_is_day) := ⟨rfl, rfl, rfl, by decide +kernel, rfl, by decide +kernel, by decide +kernel⟩
theorem ok_is_day : namesOk V_is_day V_is_day G_is_day (defScope s_is_day) = true := by decide +kernel
abbrev s_check_heads : Stmt := topS 24
abbrev N_check_heads : List Str := ["heads"]
abbrev V_check_heads : List Str := ["heads"]
abbrev G_check_heads : List Str := ["MOST_HEADS", "NoHeads", "NoSpending", "is_whole"]
theorem sc_check_heads : FnScope N_check_heads ["heads"] (defScope s_check_heads) := ⟨rfl, rfl, rfl, by decide +kernel, rfl, by decide +kernel, by decide +kernel⟩
theorem ok_check_heads : namesOk V_check_heads V_check_heads G_check_heads (defScope s_check_heads) = true := by decide +kernel
abbrev s_check_parts_spendings : Stmt := topS 25
abbrev N_check_parts_spendings : List Str := ["kind", "amount", "day", "paper", "heads", "money"]
abbrev V_check_parts_spendings : List Str := ["kind", "amount", "day", "paper", "heads", "money"]
abbrev G_check_parts_spendings : List Str := ["LAST_MONEY", "MOST_AMOUNT", "NoSpending", "check_heads", "is_day", "is_kind", "is_truth", "is_whole"]
theorem sc_check_parts_spendings : FnScope N_check_parts_spendings ["kind", "amount", "day", "paper", "heads", "money"] (defScope s_check_parts_spendings) := ⟨rfl, rfl, rfl, by decide +kernel, rfl, by decide +kernel, by decide +kernel⟩
theorem ok_check_parts_spendings : namesOk V_check_parts_spendings V_check_parts_spendings G_check_parts_spendings (defScope s_check_parts_spendings) = true := by decide +kernel
abbrev s_Spending_init : Stmt := inClass (topS 27) 0
abbrev N_Spending_init : List Str := ["self", "kind", "amount", "day", "paper", "heads", "money"]
abbrev V_Spending_init : List Str := ["self", "kind", "amount", "day", "paper", "heads", "money"]
abbrev G_Spending_init : List Str := ["check_parts_spendings"]
theorem sc_Spending_init : FnScope N_Spending_init ["self", "kind", "amount", "day", "paper", "heads", "money"] (defScope s_Spending_init) := ⟨rfl, rfl, rfl, by decide +kernel, rfl, by decide +kernel, by decide +kernel⟩
theorem ok_Spending_init : namesOk V_Spending_init V_Spending_init G_Spending_init (defScope s_Spending_init) = true := by decide +kernel
abbrev s_Spending_eq : Stmt := inClass (topS 27) 1
abbrev N_Spending_eq : List Str := ["self", "other"]
abbrev V_Spending_eq : List Str := ["self", "other"]
abbrev G_Spending_eq : List Str := ["Spending", "isinstance"]
theorem sc_Spending_eq : FnScope N_Spending_eq ["self", "other"] (defScope s_Spending_eq) := ⟨rfl, rfl, rfl, by decide +kernel, rfl, by decide +kernel, by decide +kernel⟩
theorem ok_Spending_eq : namesOk V_Spending_eq V_Spending_eq G_Spending_eq (defScope s_Spending_eq) = true := by decide +kernel
abbrev s_Spending_repr : Stmt := inClass (topS 27) 2
abbrev N_Spending_repr : List Str := ["self", "parts"]
abbrev V_Spending_repr : List Str := ["self", "parts"]
abbrev G_Spending_repr : List Str := ["repr"]
theorem sc_Spending_repr : FnScope N_Spending_repr ["self"] (defScope s_Spending_repr) := ⟨rfl, rfl, rfl, by decide +kernel, rfl, by decide +kernel, by decide +kernel⟩
theorem ok_Spending_repr : namesOk V_Spending_repr V_Spending_repr G_Spending_repr (defScope s_Spending_repr) = true := by decide +kernel
abbrev s_Spending_but : Stmt := inClass (topS 27) 3
abbrev N_Spending_but : List Str := ["self", "kind", "amount", "day", "paper", "heads", "money"]
abbrev V_Spending_but : List Str := ["self", "kind", "amount", "day", "paper", "heads", "money"]
abbrev G_Spending_but : List Str := ["_wall"]
theorem sc_Spending_but : FnScope N_Spending_but ["self", "kind", "amount", "day", "paper", "heads", "money"] (defScope s_Spending_but) := ⟨rfl, rfl, rfl, by decide +kernel, rfl, by decide +kernel, by decide +kernel⟩
theorem ok_Spending_but : namesOk V_Spending_but V_Spending_but G_Spending_but (defScope s_Spending_but) = true := by decide +kernel
abbrev s_are_twins : Stmt := topS 28
abbrev N_are_twins : List Str := ["one", "other"]
abbrev V_are_twins : List Str := ["one", "other"]
abbrev G_are_twins : List Str := []
theorem sc_are_twins : FnScope N_are_twins ["one", "other"] (defScope s_are_twins) := ⟨rfl, rfl, rfl, by decide +kernel, rfl, by decide +kernel, by decide +kernel⟩
theorem ok_are_twins : namesOk V_are_twins V_are_twins G_are_twins (defScope s_are_twins) = true := by decide +kernel
abbrev s_are_towns : Stmt := topS 35
abbrev N_are_towns : List Str := ["thing", "town"]
abbrev V_are_towns : List Str := ["thing"]
abbrev G_are_towns : List Str := ["MOST_DAYS", "all", "isinstance", "len", "tuple"]
theorem sc_are_towns : FnScope N_are_towns ["thing"] (defScope s_are_towns) := ⟨rfl, rfl, rfl, by decide +kernel, rfl, by decide +kernel, by decide +kernel⟩
theorem ok_are_towns : namesOk V_are_towns V_are_towns G_are_towns (defScope s_are_towns) = true := by decide +kernel
abbrev s_check_parts_journeys : Stmt := topS 36
abbrev N_check_parts_journeys : List Str := ["towns", "begun", "ended"]
abbrev V_check_parts_journeys : List Str := ["towns", "begun", "ended"]
abbrev G_check_parts_journeys : List Str := ["NoJourney", "WHOLE_DAY", "are_towns", "is_whole"]
theorem sc_check_parts_journeys : FnScope N_check_parts_journeys ["towns", "begun", "ended"] (defScope s_check_parts_journeys) := ⟨rfl, rfl, rfl, by decide +kernel, rfl, by decide +kernel, by decide +kernel⟩
theorem ok_check_parts_journeys : namesOk V_check_parts_journeys V_check_parts_journeys G_check_parts_journeys (defScope s_check_parts_journeys) = true := by decide +kernel
abbrev s_check_room : Stmt := topS 38
abbrev N_check_room : List Str := ["many", "most"]
abbrev V_check_room : List Str := ["many", "most"]
abbrev G_check_room : List Str := ["TooMany"]
theorem sc_check_room : FnScope N_check_room ["many", "most"] (defScope s_check_room) := ⟨rfl, rfl, rfl, by decide +kernel, rfl, by decide +kernel, by decide +kernel⟩
theorem ok_check_room : namesOk V_check_room V_check_room G_check_room (defScope s_check_room) = true := by decide +kernel
abbrev s_rank_of : Stmt := topS 39
abbrev N_rank_of : List Str := ["line"]
abbrev V_rank_of : List Str := ["line"]
abbrev G_rank_of : List Str := []
theorem sc_rank_of : FnScope N_rank_of ["line"] (defScope s_rank_of) := ⟨rfl, rfl, rfl, by decide +kernel, rfl, by decide +kernel, by decide +kernel⟩
theorem ok_rank_of : namesOk V_rank_of V_rank_of G_rank_of (defScope s_rank_of) = true := by decide +kernel
abbrev s_place_of : Stmt := topS 40
abbrev N_place_of : List Str := ["spending", "spendings", "at", "other"]
abbrev V_place_of : List Str := ["spending", "spendings", "at", "other"]
abbrev G_place_of : List Str := ["enumerate"]
theorem sc_place_of : FnScope N_place_of ["spending", "spendings"] (defScope s_place_of) := ⟨rfl, rfl, rfl, by decide +kernel, rfl, by decide +kernel, by decide +kernel⟩
theorem ok_place_of : namesOk V_place_of V_place_of G_place_of (defScope s_place_of) = true := by decide +kernel
abbrev s_Journey_init : Stmt := inClass (topS 41) 0
abbrev N_Journey_init : List Str := ["self", "towns", "begun", "ended"]
abbrev V_Journey_init : List Str := ["self", "towns", "begun", "ended"]
abbrev G_Journey_init : List Str := ["check_parts_journeys"]
theorem sc_Journey_init : FnScope N_Journey_init ["self", "towns", "begun", "ended"] (defScope s_Journey_init) := ⟨rfl, rfl, rfl, by decide +kernel, rfl, by decide +kernel, by decide +kernel⟩
theorem ok_Journey_init : namesOk V_Journey_init V_Journey_init G_Journey_init (defScope s_Journey_init) = true := by decide +kernel
abbrev s_Journey_eq : Stmt := inClass (topS 41) 1
abbrev N_Journey_eq : List Str := ["self", "other"]
abbrev V_Journey_eq : List Str := ["self", "other"]
abbrev G_Journey_eq : List Str := ["Journey", "isinstance", "sorted"]
theorem sc_Journey_eq : FnScope N_Journey_eq ["self", "other"] (defScope s_Journey_eq) := ⟨rfl, rfl, rfl, by decide +kernel, rfl, by decide +kernel, by decide +kernel⟩
theorem ok_Journey_eq : namesOk V_Journey_eq V_Journey_eq G_Journey_eq (defScope s_Journey_eq) = true := by decide +kernel
abbrev s_Journey_len : Stmt := inClass (topS 41) 2
abbrev N_Journey_len : List Str := ["self"]
abbrev V_Journey_len : List Str := ["self"]
abbrev G_Journey_len : List Str := ["len"]
theorem sc_Journey_len : FnScope N_Journey_len ["self"] (defScope s_Journey_len) := ⟨rfl, rfl, rfl, by decide +kernel, rfl, by decide +kernel, by decide +kernel⟩
theorem ok_Journey_len : namesOk V_Journey_len V_Journey_len G_Journey_len (defScope s_Journey_len) = true := by decide +kernel
abbrev s_Journey_repr : Stmt := inClass (topS 41) 3
abbrev N_Journey_repr : List Str := ["self"]
abbrev V_Journey_repr : List Str := ["self"]
abbrev G_Journey_repr : List Str := ["sorted"]
theorem sc_Journey_repr : FnScope N_Journey_repr ["self"] (defScope s_Journey_repr) := ⟨rfl, rfl, rfl, by decide +kernel, rfl, by decide +kernel, by decide +kernel⟩
theorem ok_Journey_repr : namesOk V_Journey_repr V_Journey_repr G_Journey_repr (defScope s_Journey_repr) = true := by decide +kernel
abbrev s_Journey_become : Stmt := inClass (topS 41) 4
abbrev N_Journey_become : List Str := ["self", "spent", "sums"]
abbrev V_Journey_become : List Str := ["self", "spent", "sums"]
abbrev G_Journey_become : List Str := []
theorem sc_Journey_become : FnScope N_Journey_become ["self", "spent", "sums"] (defScope s_Journey_become) := ⟨rfl, rfl, rfl, by decide +kernel, rfl, by decide +kernel, by decide +kernel⟩
theorem ok_Journey_become : namesOk V_Journey_become V_Journey_become G_Journey_become (defScope s_Journey_become) = true := by decide +kernel
abbrev s_Journey_spend : Stmt := inClass (topS 41) 5
abbrev N_Journey_spend : List Str := ["self", "spending"]
abbrev V_Journey_spend : List Str := ["self", "spending"]
abbrev G_Journey_spend : List Str := ["MOST_LINES", "NoDay", "check_room", "len"]
theorem sc_Journey_spend : FnScope N_Journey_spend ["self", "spending"] (defScope s_Journey_spend) := ⟨rfl, rfl, rfl, by decide +kernel, rfl, by decide +kernel, by decide +kernel⟩
theorem ok_Journey_spend : namesOk V_Journey_spend V_Journey_spend G_Journey_spend (defScope s_Journey_spend) = true := by decide +kernel
abbrev s_Journey_strike : Stmt := inClass (topS 41) 6
abbrev N_Journey_strike : List Str := ["self", "spending", "at"]
abbrev V_Journey_strike : List Str := ["self", "spending", "at"]
abbrev G_Journey_strike : List Str := ["Absent", "place_of"]
theorem sc_Journey_strike : FnScope N_Journey_strike ["self", "spending"] (defScope s_Journey_strike) := ⟨rfl, rfl, rfl, by decide +kernel, rfl, by decide +kernel, by decide +kernel⟩
theorem ok_Journey_strike : namesOk V_Journey_strike V_Journey_strike G_Journey_strike (defScope s_Journey_strike) = true := by decide +kernel
abbrev s_Journey_had : Stmt := inClass (topS 41) 7
abbrev N_Journey_had : List Str := ["self", "amount"]
abbrev V_Journey_had : List Str := ["self", "amount"]
abbrev G_Journey_had : List Str := ["MOST_SUM", "MOST_SUMS", "NoShare", "check_room", "is_whole", "len"]
theorem sc_Journey_had : FnScope N_Journey_had ["self", "amount"] (defScope s_Journey_had) := ⟨rfl, rfl, rfl, by decide +kernel, rfl, by decide +kernel, by decide +kernel⟩
theorem ok_Journey_had : namesOk V_Journey_had V_Journey_had G_Journey_had (defScope s_Journey_had) = true := by decide +kernel
abbrev s_Journey_undo : Stmt := inClass (topS 41) 8
abbrev N_Journey_undo : List Str := ["self"]
abbrev V_Journey_undo : List Str := ["self"]
abbrev G_Journey_undo : List Str := ["Nothing", "len"]
theorem sc_Journey_undo : FnScope N_Journey_undo ["self"] (defScope s_Journey_undo) := ⟨rfl, rfl, rfl, by decide +kernel, rfl, by decide +kernel, by decide +kernel⟩
theorem ok_Journey_undo : namesOk V_Journey_undo V_Journey_undo G_Journey_undo (defScope s_Journey_undo) = true := by decide +kernel
abbrev s_Journey_twin : Stmt := inClass (topS 41) 9
abbrev N_Journey_twin : List Str := ["self", "other"]
abbrev V_Journey_twin : List Str := ["self", "other"]
abbrev G_Journey_twin : List Str := ["Journey", "list"]
theorem sc_Journey_twin : FnScope N_Journey_twin ["self"] (defScope s_Journey_twin) := ⟨rfl, rfl, rfl, by decide +kernel, rfl, by decide +kernel, by decide +kernel⟩
theorem ok_Journey_twin : namesOk V_Journey_twin V_Journey_twin G_Journey_twin (defScope s_Journey_twin) = true := by decide +kernel
abbrev s_Journey_lines : Stmt := inClass (topS 41) 10
abbrev N_Journey_lines : List Str := ["self"]
abbrev V_Journey_lines : List Str := ["self"]
abbrev G_Journey_lines : List Str := ["rank_of", "sorted"]
theorem sc_Journey_lines : FnScope N_Journey_lines ["self"] (defScope s_Journey_lines) := ⟨rfl, rfl, rfl, by decide +kernel, rfl, by decide +kernel, by decide +kernel⟩
theorem ok_Journey_lines : namesOk V_Journey_lines V_Journey_lines G_Journey_lines (defScope s_Journey_lines) = true := by decide +kernel
abbrev s_Journey_has_day : Stmt := inClass (topS 41) 11
abbrev N_Journey_has_day : List Str := ["self", "day"]
abbrev V_Journey_has_day : List Str := ["self", "day"]
abbrev G_Journey_has_day : List Str := ["is_whole", "len"]
theorem sc_Journey_has_day : FnScope N_Journey_has_day ["self", "day"] (defScope s_Journey_has_day) := ⟨rfl, rfl, rfl, by decide +kernel, rfl, by decide +kernel, by decide +kernel⟩
theorem ok_Journey_has_day : namesOk V_Journey_has_day V_Journey_has_day G_Journey_has_day (defScope s_Journey_has_day) = true := by decide +kernel
abbrev s_Journey_town_on : Stmt := inClass (topS 41) 12
abbrev N_Journey_town_on : List Str := ["self", "day"]
abbrev V_Journey_town_on : List Str := ["self", "day"]
abbrev G_Journey_town_on : List Str := ["_wall"]
theorem sc_Journey_town_on : FnScope N_Journey_town_on ["self", "day"] (defScope s_Journey_town_on) := ⟨rfl, rfl, rfl, by decide +kernel, rfl, by decide +kernel, by decide +kernel⟩
theorem ok_Journey_town_on : namesOk V_Journey_town_on V_Journey_town_on G_Journey_town_on (defScope s_Journey_town_on) = true := by decide +kernel
abbrev s_Journey_twins : Stmt := inClass (topS 41) 13
abbrev N_Journey_twins : List Str := ["self", "lines", "at"]
abbrev V_Journey_twins : List Str := ["self", "lines"]
abbrev G_Journey_twins : List Str := ["len", "range"]
theorem sc_Journey_twins : FnScope N_Journey_twins ["self"] (defScope s_Journey_twins) := ⟨rfl, rfl, rfl, by decide +kernel, rfl, by decide +kernel, by decide +kernel⟩
theorem ok_Journey_twins : namesOk V_Journey_twins V_Journey_twins G_Journey_twins (defScope s_Journey_twins) = true := by decide +kernel
abbrev s__law_cell : Stmt := topS 43
abbrev N__law_cell : List Str := ["_law_script", "_law_k"]
abbrev V__law_cell : List Str := ["_law_script", "_law_k"]
abbrev G__law_cell : List Str := ["len"]
theorem sc__law_cell : FnScope N__law_cell ["_law_script", "_law_k"] (defScope s__law_cell) := ⟨rfl, rfl, rfl, by decide +kernel, rfl, by decide +kernel, by decide +kernel⟩
theorem ok__law_cell : namesOk V__law_cell V__law_cell G__law_cell (defScope s__law_cell) = true := by decide +kernel
abbrev s__law_mix : Stmt := topS 44
abbrev N__law_mix : List Str := ["_law_cell_here", "_law_k", "_law_some", "_law_stir"]
abbrev V__law_mix : List Str := ["_law_cell_here", "_law_k", "_law_some", "_law_stir"]
abbrev G__law_mix : List Str := []
theorem sc__law_mix : FnScope N__law_mix ["_law_cell_here", "_law_k"] (defScope s__law_mix) := ⟨rfl, rfl, rfl, by decide +kernel, rfl, by decide +kernel, by decide +kernel⟩
theorem ok__law_mix : namesOk V__law_mix V__law_mix G__law_mix (defScope s__law_mix) = true := by decide +kernel
abbrev s__law_box : Stmt := topS 45
abbrev N__law_box : List Str := ["_law_script", "_law_k", "_law_lap", "_law_cell_here", "_law_number", "_law_j"]
abbrev V__law_box : List Str := ["_law_script", "_law_k", "_law_lap", "_law_cell_here", "_law_number", "_law_j"]
abbrev G__law_box : List Str := ["_law_cell", "_law_mix", "abs", "range"]
theorem sc__law_box : FnScope N__law_box ["_law_script", "_law_k", "_law_lap"] (defScope s__law_box) := ⟨rfl, rfl, rfl, by decide +kernel, rfl, by decide +kernel, by decide +kernel⟩
theorem ok__law_box : namesOk V__law_box V__law_box G__law_box (defScope s__law_box) = true := by decide +kernel
abbrev s__law_take : Stmt := topS 46
abbrev N__law_take : List Str := ["_law_box_here", "_law_count", "_law_left", "_law_digit"]
abbrev V__law_take : List Str := ["_law_box_here", "_law_count", "_law_left", "_law_digit"]
abbrev G__law_take : List Str := ["divmod"]
theorem sc__law_take : FnScope N__law_take ["_law_box_here", "_law_count"] (defScope s__law_take) := ⟨rfl, rfl, rfl, by decide +kernel, rfl, by decide +kernel, by decide +kernel⟩
theorem ok__law_take : namesOk V__law_take V__law_take G__law_take (defScope s__law_take) = true := by decide +kernel
abbrev s__law_sorts : Stmt := topS 47
abbrev N__law_sorts : List Str := []
abbrev V__law_sorts : List Str := []
abbrev G__law_sorts : List Str := []
theorem sc__law_sorts : FnScope N__law_sorts [] (defScope s__law_sorts) := ⟨rfl, rfl, rfl, by decide +kernel, rfl, by decide +kernel, by decide +kernel⟩
theorem ok__law_sorts : namesOk V__law_sorts V__law_sorts G__law_sorts (defScope s__law_sorts) = true := by decide +kernel
abbrev s__law_row : Stmt := topS 48
abbrev N__law_row : List Str := ["_law_box_here", "_law_many", "_law_sort", "_law_bill", "_law_when", "_law_sharers", "_law_coin"]
abbrev V__law_row : List Str := ["_law_box_here", "_law_many", "_law_sort", "_law_bill", "_law_when", "_law_sharers", "_law_coin"]
abbrev G__law_row : List Str := ["_law_sorts", "_law_take"]
theorem sc__law_row : FnScope N__law_row ["_law_box_here", "_law_many"] (defScope s__law_row) := ⟨rfl, rfl, rfl, by decide +kernel, rfl, by decide +kernel, by decide +kernel⟩
theorem ok__law_row : namesOk V__law_row V__law_row G__law_row (defScope s__law_row) = true := by decide +kernel
abbrev s__law_spent : Stmt := topS 49
abbrev N__law_spent : List Str := ["_law_row_here"]
abbrev V__law_spent : List Str := ["_law_row_here"]
abbrev G__law_spent : List Str := ["Spending"]
theorem sc__law_spent : FnScope N__law_spent ["_law_row_here"] (defScope s__law_spent) := ⟨rfl, rfl, rfl, by decide +kernel, rfl, by decide +kernel, by decide +kernel⟩
theorem ok__law_spent : namesOk V__law_spent V__law_spent G__law_spent (defScope s__law_spent) = true := by decide +kernel
abbrev s__law_towns : Stmt := topS 50
abbrev N__law_towns : List Str := ["_law_box_here", "_law_many", "_law_turn"]
abbrev V__law_towns : List Str := ["_law_box_here", "_law_many"]
abbrev G__law_towns : List Str := ["_law_take", "range", "tuple"]
theorem sc__law_towns : FnScope N__law_towns ["_law_box_here"] (defScope s__law_towns) := ⟨rfl, rfl, rfl, by decide +kernel, rfl, by decide +kernel, by decide +kernel⟩
theorem ok__law_towns : namesOk V__law_towns V__law_towns G__law_towns (defScope s__law_towns) = true := by decide +kernel
abbrev s__law_travel : Stmt := topS 51
abbrev N__law_travel : List Str := ["_law_towns_here", "_law_parts", "_law_rows", "_law_sums", "_law_found", "_law_row_here", "_law_bill"]
abbrev V__law_travel : List Str := ["_law_towns_here", "_law_parts", "_law_rows", "_law_sums", "_law_found", "_law_row_here", "_law_bill"]
abbrev G__law_travel : List Str := ["Journey", "_law_spent"]
theorem sc__law_travel : FnScope N__law_travel ["_law_towns_here", "_law_parts", "_law_rows", "_law_sums"] (defScope s__law_travel) := ⟨rfl, rfl, rfl, by decide +kernel, rfl, by decide +kernel, by decide +kernel⟩
theorem ok__law_travel : namesOk V__law_travel V__law_travel G__law_travel (defScope s__law_travel) = true := by decide +kernel
abbrev s__law_mixed : Stmt := topS 52
abbrev N__law_mixed : List Str := ["_law_box_here", "_law_things", "_law_left", "_law_found"]
abbrev V__law_mixed : List Str := ["_law_box_here", "_law_things", "_law_left", "_law_found"]
abbrev G__law_mixed : List Str := ["_law_take", "len", "list"]
theorem sc__law_mixed : FnScope N__law_mixed ["_law_box_here", "_law_things"] (defScope s__law_mixed) := ⟨rfl, rfl, rfl, by decide +kernel, rfl, by decide +kernel, by decide +kernel⟩
theorem ok__law_mixed : namesOk V__law_mixed V__law_mixed G__law_mixed (defScope s__law_mixed) = true := by decide +kernel
abbrev s__law_among : Stmt := topS 53
abbrev N__law_among : List Str := ["_law_box_here", "_law_towns_here", "_law_parts", "_law_rows", "_law_sums", "_law_found", "_law_thing"]
abbrev V__law_among : List Str := ["_law_box_here", "_law_towns_here", "_law_parts", "_law_rows", "_law_sums", "_law_found", "_law_thing"]
abbrev G__law_among : List Str := ["Journey", "Spending", "_law_mixed", "_law_spent", "_law_take", "isinstance", "len", "tuple"]
theorem sc__law_among : FnScope N__law_among ["_law_box_here", "_law_towns_here", "_law_parts", "_law_rows", "_law_sums"] (defScope s__law_among) := ⟨rfl, rfl, rfl, by decide +kernel, rfl, by decide +kernel, by decide +kernel⟩
theorem ok__law_among : namesOk V__law_among V__law_among G__law_among (defScope s__law_among) = true := by decide +kernel
abbrev s__law_unlike_right : Stmt := topS 54
abbrev N__law_unlike_right : List Str := ["_law_box_here", "_law_one", "_law_towns_here", "_law_parts", "_law_rows", "_law_sums", "_law_others", "_law_at", "_law_row_here", "_law_some", "_law_even", "_law_more"]
abbrev V__law_unlike_right : List Str := ["_law_box_here", "_law_one", "_law_towns_here", "_law_parts", "_law_rows", "_law_sums", "_law_others", "_law_at", "_law_row_here", "_law_some", "_law_even"]
abbrev G__law_unlike_right : List Str := ["_law_take", "_law_travel", "len"]
theorem sc__law_unlike_right : FnScope N__law_unlike_right ["_law_box_here", "_law_one", "_law_towns_here", "_law_parts", "_law_rows", "_law_sums"] (defScope s__law_unlike_right) := ⟨rfl, rfl, rfl, by decide +kernel, rfl, by decide +kernel, by decide +kernel⟩
theorem ok__law_unlike_right : namesOk V__law_unlike_right V__law_unlike_right G__law_unlike_right (defScope s__law_unlike_right) = true := by decide +kernel
abbrev s__law_twin_right : Stmt := topS 55
abbrev N__law_twin_right : List Str := ["_law_box_here", "_law_one", "_law_other", "_law_rows", "_law_kin", "_law_turn"]
abbrev V__law_twin_right : List Str := ["_law_box_here", "_law_one", "_law_other", "_law_rows", "_law_kin", "_law_turn"]
abbrev G__law_twin_right : List Str := ["Journey", "Spending", "isinstance", "len", "range"]
theorem sc__law_twin_right : FnScope N__law_twin_right ["_law_box_here", "_law_one", "_law_other", "_law_rows"] (defScope s__law_twin_right) := ⟨rfl, rfl, rfl, by decide +kernel, rfl, by decide +kernel, by decide +kernel⟩
theorem ok__law_twin_right : namesOk V__law_twin_right V__law_twin_right G__law_twin_right (defScope s__law_twin_right) = true := by decide +kernel
abbrev s__law_undone_right : Stmt := topS 56
abbrev N__law_undone_right : List Str := ["_law_towns_here", "_law_parts", "_law_rows", "_law_sums", "_law_one", "_law_first", "_law_kin", "_law_turn"]
abbrev V__law_undone_right : List Str := ["_law_towns_here", "_law_parts", "_law_rows", "_law_sums", "_law_one", "_law_first", "_law_kin", "_law_turn"]
abbrev G__law_undone_right : List Str := ["Journey", "Nothing", "_law_travel", "len", "range"]
theorem sc__law_undone_right : FnScope N__law_undone_right ["_law_towns_here", "_law_parts", "_law_rows", "_law_sums"] (defScope s__law_undone_right) := ⟨rfl, rfl, rfl, by decide +kernel, rfl, by decide +kernel, by decide +kernel⟩
theorem ok__law_undone_right : namesOk V__law_undone_right V__law_undone_right G__law_undone_right (defScope s__law_undone_right) = true := by decide +kernel
abbrev s_law : Stmt := topS 57
abbrev N_law : List Str := ["_law_script", "_law_k", "_law_lap", "_law_box_here", "_law_towns_here", "_law_parts", "_law_rows", "_law_sums", "_law_one", "_law_other", "_law_turn", "_law_row_here"]
abbrev V_law : List Str := ["_law_script", "_law_k", "_law_lap", "_law_box_here", "_law_towns_here", "_law_parts", "_law_rows", "_law_sums", "_law_one", "_law_other"]
abbrev G_law : List Str := ["_law_among", "_law_box", "_law_take", "_law_towns", "_law_travel", "_law_twin_right", "_law_undone_right", "_law_unlike_right", "len", "max", "min", "range"]
theorem sc_law : FnScope N_law ["_law_script"] (defScope s_law) := ⟨rfl, rfl, rfl, by decide +kernel, rfl, by decide +kernel, by decide +kernel⟩
theorem ok_law : namesOk V_law V_law G_law (defScope s_law) = true := by decide +kernel
end Rp
namespace Rp
open PySem PySem.Spec PyProof.Rows L2
def d_is_whole : He.DefD := ⟨("is_whole", none), "is_whole", "is_whole", defArgs s_is_whole, defBody s_is_whole, defScope s_is_whole, [], []⟩
def d_is_truth : He.DefD := ⟨("is_truth", none), "is_truth", "is_truth", defArgs s_is_truth, defBody s_is_truth, defScope s_is_truth, [], []⟩
def d_is_kind : He.DefD := ⟨("is_kind", none), "is_kind", "is_kind", defArgs s_is_kind, defBody s_is_kind, defScope s_is_kind, [], []⟩
def d_is_town : He.DefD := ⟨("is_town", none), "is_town", "is_town", defArgs s_is_town, defBody s_is_town, defScope s_is_town, [], []⟩
def d_is_day : He.DefD := ⟨("is_day", none), "is_day", "is_day", defArgs s_is_day, defBody s_is_day, defScope s_is_day, [], []⟩
def d_check_heads : He.DefD := ⟨("check_heads", none), "check_heads", "check_heads", defArgs s_check_heads, defBody s_check_heads, defScope s_check_heads, [], []⟩
def d_check_parts_spendings : He.DefD := ⟨("check_parts_spendings", none), "check_parts", "check_parts", defArgs s_check_parts_spendings, defBody s_check_parts_spendings, defScope s_check_parts_spendings, [], []⟩
def d_are_twins : He.DefD := ⟨("are_twins", none), "are_twins", "are_twins", defArgs s_are_twins, defBody s_are_twins, defScope s_are_twins, [], []⟩
def d_are_towns : He.DefD := ⟨("are_towns", none), "are_towns", "are_towns", defArgs s_are_towns, defBody s_are_towns, defScope s_are_towns, [], []⟩
def d_check_parts_journeys : He.DefD := ⟨("check_parts_journeys", none), "check_parts", "check_parts", defArgs s_check_parts_journeys, defBody s_check_parts_journeys, defScope s_check_parts_journeys, [], []⟩
def d_check_room : He.DefD := ⟨("check_room", none), "check_room", "check_room", defArgs s_check_room, defBody s_check_room, defScope s_check_room, [], []⟩
def d_rank_of : He.DefD := ⟨("rank_of", none), "rank_of", "rank_of", defArgs s_rank_of, defBody s_rank_of, defScope s_rank_of, [], []⟩
def d_place_of : He.DefD := ⟨("place_of", none), "place_of", "place_of", defArgs s_place_of, defBody s_place_of, defScope s_place_of, [], []⟩
def d__law_cell : He.DefD := ⟨("_law_cell", none), "_law_cell", "_law_cell", defArgs s__law_cell, defBody s__law_cell, defScope s__law_cell, [], []⟩
def d__law_mix : He.DefD := ⟨("_law_mix", none), "_law_mix", "_law_mix", defArgs s__law_mix, defBody s__law_mix, defScope s__law_mix, [], []⟩
def d__law_box : He.DefD := ⟨("_law_box", none), "_law_box", "_law_box", defArgs s__law_box, defBody s__law_box, defScope s__law_box, [], []⟩
def d__law_take : He.DefD := ⟨("_law_take", none), "_law_take", "_law_take", defArgs s__law_take, defBody s__law_take, defScope s__law_take, [], []⟩
def d__law_sorts : He.DefD := ⟨("_law_sorts", none), "_law_sorts", "_law_sorts", defArgs s__law_sorts, defBody s__law_sorts, defScope s__law_sorts, [], []⟩
def d__law_row : He.DefD := ⟨("_law_row", none), "_law_row", "_law_row", defArgs s__law_row, defBody s__law_row, defScope s__law_row, [], []⟩
def d__law_spent : He.DefD := ⟨("_law_spent", none), "_law_spent", "_law_spent", defArgs s__law_spent, defBody s__law_spent, defScope s__law_spent, [], []⟩
def d__law_towns : He.DefD := ⟨("_law_towns", none), "_law_towns", "_law_towns", defArgs s__law_towns, defBody s__law_towns, defScope s__law_towns, [], []⟩
def d__law_travel : He.DefD := ⟨("_law_travel", none), "_law_travel", "_law_travel", defArgs s__law_travel, defBody s__law_travel, defScope s__law_travel, [], []⟩
def d__law_mixed : He.DefD := ⟨("_law_mixed", none), "_law_mixed", "_law_mixed", defArgs s__law_mixed, defBody s__law_mixed, defScope s__law_mixed, [], []⟩
def d__law_among : He.DefD := ⟨("_law_among", none), "_law_among", "_law_among", defArgs s__law_among, defBody s__law_among, defScope s__law_among, [], []⟩
def d__law_unlike_right : He.DefD := ⟨("_law_unlike_right", none), "_law_unlike_right", "_law_unlike_right", defArgs s__law_unlike_right, defBody s__law_unlike_right, defScope s__law_unlike_right, [], []⟩
def d__law_twin_right : He.DefD := ⟨("_law_twin_right", none), "_law_twin_right", "_law_twin_right", defArgs s__law_twin_right, defBody s__law_twin_right, defScope s__law_twin_right, [], []⟩
def d__law_undone_right : He.DefD := ⟨("_law_undone_right", none), "_law_undone_right", "_law_undone_right", defArgs s__law_undone_right, defBody s__law_undone_right, defScope s__law_undone_right, [], []⟩
def d_law : He.DefD := ⟨("law", none), "law", "law", defArgs s_law, defBody s_law, defScope s_law, [], []⟩
def d_Spending_init : He.DefD := ⟨("Spending", some "__init__"), "__init__", "Spending.__init__", defArgs s_Spending_init, defBody s_Spending_init, defScope s_Spending_init, [.int 0, .bl true, .int 1, .int 0], []⟩
def d_Spending_eq : He.DefD := ⟨("Spending", some "__eq__"), "__eq__", "Spending.__eq__", defArgs s_Spending_eq, defBody s_Spending_eq, defScope s_Spending_eq, [], []⟩
def d_Journey_init : He.DefD := ⟨("Journey", some "__init__"), "__init__", "Journey.__init__", defArgs s_Journey_init, defBody s_Journey_init, defScope s_Journey_init, [.int 10, .int 10], []⟩
def d_Journey_eq : He.DefD := ⟨("Journey", some "__eq__"), "__eq__", "Journey.__eq__", defArgs s_Journey_eq, defBody s_Journey_eq, defScope s_Journey_eq, [], []⟩
def d_Journey_len : He.DefD := ⟨("Journey", some "__len__"), "__len__", "Journey.__len__", defArgs s_Journey_len, defBody s_Journey_len, defScope s_Journey_len, [], []⟩
def d_Journey_become : He.DefD := ⟨("Journey", some "become"), "become", "Journey.become", defArgs s_Journey_become, defBody s_Journey_become, defScope s_Journey_become, [], []⟩
def d_Journey_spend : He.DefD := ⟨("Journey", some "spend"), "spend", "Journey.spend", defArgs s_Journey_spend, defBody s_Journey_spend, defScope s_Journey_spend, [], []⟩
def d_Journey_strike : He.DefD := ⟨("Journey", some "strike"), "strike", "Journey.strike", defArgs s_Journey_strike, defBody s_Journey_strike, defScope s_Journey_strike, [], []⟩
def d_Journey_had : He.DefD := ⟨("Journey", some "had"), "had", "Journey.had", defArgs s_Journey_had, defBody s_Journey_had, defScope s_Journey_had, [], []⟩
def d_Journey_undo : He.DefD := ⟨("Journey", some "undo"), "undo", "Journey.undo", defArgs s_Journey_undo, defBody s_Journey_undo, defScope s_Journey_undo, [], []⟩
def d_Journey_twin : He.DefD := ⟨("Journey", some "twin"), "twin", "Journey.twin", defArgs s_Journey_twin, defBody s_Journey_twin, defScope s_Journey_twin, [], []⟩
def d_Journey_lines : He.DefD := ⟨("Journey", some "lines"), "lines", "Journey.lines", defArgs s_Journey_lines, defBody s_Journey_lines, defScope s_Journey_lines, [], []⟩
def d_Journey_has_day : He.DefD := ⟨("Journey", some "has_day"), "has_day", "Journey.has_day", defArgs s_Journey_has_day, defBody s_Journey_has_day, defScope s_Journey_has_day, [], []⟩
def d_Journey_twins : He.DefD := ⟨("Journey", some "twins"), "twins", "Journey.twins", defArgs s_Journey_twins, defBody s_Journey_twins, defScope s_Journey_twins, [], []⟩
def fn : List He.DefD := [d_is_whole, d_is_truth, d_is_kind, d_is_town, d_is_day, d_check_heads, d_check_parts_spendings, d_are_twins, d_are_towns, d_check_parts_journeys, d_check_room, d_rank_of, d_place_of, d__law_cell, d__law_mix, d__law_box, d__law_take, d__law_sorts, d__law_row, d__law_spent, d__law_towns, d__law_travel, d__law_mixed, d__law_among, d__law_unlike_right, d__law_twin_right, d__law_undone_right, d_law, d_Spending_init, d_Spending_eq, d_Journey_init, d_Journey_eq, d_Journey_len, d_Journey_become, d_Journey_spend, d_Journey_strike, d_Journey_had, d_Journey_undo, d_Journey_twin, d_Journey_lines, d_Journey_has_day, d_Journey_twins]
def fa0 : List He.Fa := [.glo "is_whole", .glo "is_truth", .glo "is_kind", .glo "is_town", .glo "is_day", .glo "check_heads", .glo "check_parts_spendings", .glo "are_twins", .glo "are_towns", .glo "check_parts_journeys", .glo "check_room", .glo "rank_of", .glo "place_of", .glo "_law_cell", .glo "_law_mix", .glo "_law_box", .glo "_law_take", .glo "_law_sorts", .glo "_law_row", .glo "_law_spent", .glo "_law_towns", .glo "_law_travel", .glo "_law_mixed", .glo "_law_among", .glo "_law_unlike_right", .glo "_law_twin_right", .glo "_law_undone_right", .glo "law", .glo "KINDS", .glo "Spending"]
def fa1 : List He.Fa := [.glo "Journey", .free "range", .free "abs", .free "len", .free "divmod", .free "isinstance", .free "int", .free "bool", .free "max", .free "min", .free "all", .free "tuple", .free "list", .free "sorted", .free "enumerate", .int "LAST_TOWN" 3, .int "LAST_DAY" 59, .int "LAST_MONEY" 3, .int "MOST_AMOUNT" 1000000, .int "MOST_HEADS" 6, .int "MOST_DAYS" 30, .int "WHOLE_DAY" 10, .int "MOST_LINES" 40, .int "MOST_SUM" 1000000000, .int "MOST_SUMS" 10, .cls "Spending", .noat "Spending" "kind", .noat "Spending" "amount", .noat "Spending" "day", .noat "Spending" "paper"]
def fa2 : List He.Fa := [.noat "Spending" "heads", .noat "Spending" "money", .mkr "Spending", .meth "Spending" "__eq__", .cls "Journey", .noat "Journey" "towns", .noat "Journey" "begun", .noat "Journey" "ended", .noat "Journey" "spent", .noat "Journey" "sums", .noat "Journey" "past", .mkr "Journey", .meth "Journey" "__eq__", .meth "Journey" "__len__", .meth "Journey" "become", .meth "Journey" "spend", .meth "Journey" "strike", .meth "Journey" "had", .meth "Journey" "undo", .meth "Journey" "twin", .meth "Journey" "lines", .meth "Journey" "has_day", .meth "Journey" "twins"]
def fa : List He.Fa := fa0 ++ fa1 ++ fa2
def ex (K : PySem.W.Frag) : Bool := He.tupB K "KINDS" [.str "bed", .str "fee", .str "meal", .str "ride", .str "sundry"] && (clsFB K (He.ga K "Spending") && (clsFB K (He.ga K "Journey") && decide ((He.ga K "Spending") ≠ (He.ga K "Journey"))))
def loose0 : List Str := ["_wall", "__name__", "PenceError", "NoShare", "Absent", "Nothing", "NoSpending", "NoJourney", "TooMany", "NoDay"]
def loose1 : List Str := ["NoHeads", "KINDS", "LAST_TOWN", "LAST_DAY", "LAST_MONEY", "is_whole", "is_truth", "is_kind", "is_town", "is_day"]
def loose2 : List Str := ["MOST_AMOUNT", "MOST_HEADS", "check_heads", "check_parts", "check_parts_spendings", "Spending", "are_twins", "MOST_DAYS", "WHOLE_DAY", "MOST_LINES"]
def loose3 : List Str := ["MOST_SUM", "MOST_SUMS", "are_towns", "check_parts_journeys", "check_room", "rank_of", "place_of", "Journey", "_law_cell", "_law_mix"]
def loose4 : List Str := ["_law_box", "_law_take", "_law_sorts", "_law_row", "_law_spent", "_law_towns", "_law_travel", "_law_mixed", "_law_among", "_law_unlike_right"]
def loose5 : List Str := ["_law_twin_right", "_law_undone_right"]
def loose : List Str := (loose0 ++ (loose1 ++ (loose2 ++ (loose3 ++ (loose4 ++ loose5)))))
abbrev RR : PySem.W.OpenRow := PySem.W.OpenLaw.row PySem.Challenge.rw_roadpence_k33_whole_journeys_in_any_orde
abbrev RV : Program := PySem.W.view RR.prog [57]
abbrev HV : Nat := 5
def hookB (n : Nat) (fa : List He.Fa) (fn : List He.DefD) (ex : PySem.W.Frag → Bool) : PySem.W.Hook where
  α := He.AlD × Bool
  obs := fun s => (He.obsDG n fa fn s.heap.get?, ex (He.frG s.heap.get? (He.asD s.heap.get? n)))
  val := fun _ => (He.valD fn, true)
  says := fun _ h => ∃ K : PySem.W.Frag, K.In h ∧ He.SaysD fa fn K ∧ ex K = true
  of := fun _ _ e => ⟨_, He.frG_in, congrArg (fun z : He.AlD × Bool => z.1) e, congrArg (fun z : He.AlD × Bool => z.2) e⟩
  keeps := fun _ _ _ ⟨K, hK, c⟩ k => ⟨K, PySem.W.Frag.In.keeps hK k, c⟩
def hk : PySem.W.Hook := hookB HV fa fn ex
def ob (s : PySem.W.SharedT) : hk.α := (He.obsDG HV fa fn (HandSHeadRun.getT s), ex (He.frG (HandSHeadRun.getT s) (He.asD (HandSHeadRun.getT s) HV)))
theorem ob_eq (s : PySem.W.SharedT) : ob s = hk.obs s.abs := by
  have e : HandSHeadRun.getT s = s.abs.heap.get? := funext (HandSHeadRun.getT_eq s)
  unfold ob
  rw [e]
  rfl
set_option maxHeartbeats 0 in
theorem run (w : World) : HandSHeadRun.RunEq RR RV hk ob 9000 loose w := by
  intro os
  kernel_rfl
theorem iteNT {A B : Prop} (h : B) : if (!true) = true then A else B := iteF h
theorem iteNF {A B : Prop} (h : A) : if (!false) = true then A else B := iteT h
theorem nx_mk {f : L2.St → Hp → Prop} {r : VK} {b c : L2.St → Hp → Prop} {σ : L2.St} {H : Hp} (h : f σ H) : Ends.nx ⟨f, r, b, c⟩ σ H := h
theorem rt_mk {f : L2.St → Hp → Prop} {r : VK} {b c : L2.St → Hp → Prop} {v : V} {H : Hp} (h : r v H) : Ends.rt ⟨f, r, b, c⟩ v H := h
theorem bk_mk {f : L2.St → Hp → Prop} {r : VK} {b c : L2.St → Hp → Prop} {σ : L2.St} {H : Hp} (h : b σ H) : Ends.bk ⟨f, r, b, c⟩ σ H := h
theorem ct_mk {f : L2.St → Hp → Prop} {r : VK} {b c : L2.St → Hp → Prop} {σ : L2.St} {H : Hp} (h : c σ H) : Ends.ct ⟨f, r, b, c⟩ σ H := h
local macro_rules | `(tactic| walk_at "lk") => `(tactic| first | with_reducible exact Lk.here | ((with_reducible apply Lk.there); walk_at "lk"))
local macro_rules | `(tactic| walk_at "pt") => `(tactic| first | with_reducible exact Pt.here | ((with_reducible apply Pt.there); walk_at "pt"))
local macro_rules | `(tactic| walk_at "mem") => `(tactic| first | with_reducible exact List.mem_cons_self | ((with_reducible refine List.mem_cons_of_mem _ ?_); walk_at "mem"))
local macro_rules | `(tactic| walk_at "hk") => `(tactic| first
  | assumption
  | ((with_reducible apply Ex.get (by assumption)); walk_at "hk")
  | ((with_reducible apply Exb.get (by assumption)); (focus (walk_at "hne")); walk_at "hk"))
local macro_rules | `(tactic| walk_at "hne") => `(tactic| first
  | assumption
  | exact Ne.symm (by assumption)
  | ((with_reducible apply ne_fresh (by assumption)); walk_at "hk"))
local macro_rules | `(tactic| walk_at "hx") => `(tactic| first
  | assumption
  | exact (Ex.refl _).toB
  | exact Ex.toB (by assumption)
  | ((refine Exb.trans ?x1 (by assumption)); (case x1 => walk_at "hx"))
  | ((refine Exb.trans ?x1 (Ex.toB (by assumption))); (case x1 => walk_at "hx")))
local macro_rules | `(tactic| walk_at "put") => `(tactic| ((with_reducible apply put_i); (focus (walk_at "pt"))))
local macro_rules | `(tactic| walk_at "w1") => `(tactic| first
  | with_reducible refine nx_mk ?_
  | with_reducible refine rt_mk ?_
  | with_reducible refine wB_one ?_
  | with_reducible refine wB_cons' fun _ _ => ?_
  | with_reducible refine wB_nil ?_
  | ((with_reducible apply wE_name (by assumption)); (focus (walk_at "mem")); (focus (walk_at "lk")))
  | with_reducible refine isB ?_
  | with_reducible refine wE_lst ?_
  | with_reducible refine wE_tup ?_
  | with_reducible refine wE_int ?_
  | with_reducible refine wE_bl ?_
  | with_reducible refine wE_non ?_
  | with_reducible refine wE_str ?_
  | with_reducible refine wE_bin ?_
  | with_reducible refine wE_ifexp ?_
  | with_reducible refine o_isN ?_
  | with_reducible refine o_notN ?_
  | with_reducible refine o_add ?_
  | with_reducible refine o_sub ?_
  | with_reducible refine o_pow6 ?_
  | with_reducible refine o_pow5 ?_
  | ((with_reducible refine o_mulL ?h1 ?h2 ?_); (case h1 => omega); (case h2 => omega))
  | ((with_reducible refine o_mulR ?h1 ?h2 ?_); (case h1 => omega); (case h2 => omega))
  | ((with_reducible refine o_div ?h1 ?h2 ?_); (case h1 => omega); (case h2 => omega))
  | ((with_reducible refine o_mod ?h1 ?_); (case h1 => omega))
  | ((with_reducible refine wA_cons ?s1 ?_); (case s1 => rfl))
  | with_reducible refine wA_nil ?_
  | with_reducible refine wK_cons ?_
  | with_reducible refine wK_nil ?_
  | with_reducible refine isI ?_
  | with_reducible refine wE_slTo (by assumption) ?_
  | with_reducible refine wE_slFrom (by assumption) ?_
  | ((with_reducible refine wE_ix ?s1 ?_); (case s1 => exact fun _ _ => rfl))
  | ((with_reducible refine wS_set (by assumption) ?s0 ?s1 ?_); (case s0 => walk_at "mem"); (case s1 => rfl))
  | (with_reducible refine wS_ret ?_)
  | with_reducible refine iteT ?_
  | with_reducible refine iteNF ?_
  | with_reducible refine iteNT ?_
  | with_reducible refine iteF ?_
  | ((with_reducible refine wT_cmp ?s1 ?_); (case s1 => rfl))
  | ((with_reducible refine wT_chain ?s1 ?_); (case s1 => rfl))
  | with_reducible refine wT_not ?_
  | with_reducible refine wT_and ?_
  | with_reducible refine wT_or ?_
  | with_reducible refine wW_and ?_
  | with_reducible refine wW_and1 ?_
  | with_reducible refine wW_or ?_
  | with_reducible refine wW_or1 ?_
  | ((with_reducible refine wT_val ?s1 ?_); (case s1 => intro _; rfl))
  | with_reducible refine wE_and ?_
  | with_reducible refine wE_or ?_
  | with_reducible refine wE_one ?_
  | with_reducible refine wE_not ?_
  | ((with_reducible refine wE_cmp ?s1 ?_); (case s1 => rfl))
  | ((with_reducible refine wE_chain ?s1 ?_); (case s1 => rfl))
  | ((with_reducible refine wS_expr ?s1 ?_); (case s1 => rfl))
  | with_reducible refine o_lt ?_
  | with_reducible refine o_le ?_
  | with_reducible refine o_gt ?_
  | with_reducible refine o_ge ?_
  | with_reducible refine o_eqI ?_
  | with_reducible refine o_neI ?_
  | ((with_reducible refine wS_fld (by assumption) ?s1 ?_); (case s1 => rfl))
  | ((with_reducible refine wS_asgT ?s1 ?s2 ?s3 ?_); (case s1 => rfl); (case s2 => rfl); (case s3 => rfl))
  | ((with_reducible apply i_listL (by assumption)); (focus (exact fun _ _ => rfl)); (focus (apply SqL.of; walk_at "hk")); (focus rfl))
  | ((with_reducible apply i_tupL (by assumption)); (focus (exact fun _ _ => rfl)); (focus (apply SqT.of; walk_at "hk")); (focus rfl))
  | ((with_reducible refine wG_setL ?s1 ?_); (case s1 => exact fun _ => rfl))
  | ((with_reducible apply setL_i); (focus (walk_at "hk")); (focus rfl); (intro H3 e3 h3; simp only [Int.reduceToNat, Int.toNat_zero, Int.toNat_one, List.set_cons_succ, List.set_cons_zero] at h3))
  | ((with_reducible refine wE_fldQ (by assumption) ?s1 ?_); (case s1 => rfl))
  | walk_at "put"
  | with_reducible refine Nx.go (by assumption) ?_
  | ((with_reducible refine wG_name (by assumption) ?s0 ?_); (case s0 => walk_at "mem"))
  | ((with_reducible apply wG_tup (by assumption)); (focus (apply SqT.of; walk_at "hk")); (focus rfl); (focus rfl))
  | ((with_reducible refine wGs_cons ?s1 ?_); (case s1 => rfl))
  | ((with_reducible apply wE_nameH (by assumption)); (focus (walk_at "mem")); (focus (walk_at "lk")))
  | ((with_reducible refine wS_setH (by assumption) ?s0 ?s1 ?_); (case s0 => walk_at "mem"); (case s1 => rfl))
  | with_reducible refine wGs_nil ?_)
local macro_rules | `(tactic| walk_at "ws") => `(tactic| (repeat walk_at "w1"))
local macro_rules | `(tactic| walk_at "if") => `(tactic| ((with_reducible refine wS_if ?_); walk_at "ws"))
local macro_rules | `(tactic| walk_at "w2") => `(tactic| first
  | with_reducible refine nx_mk ?_
  | with_reducible refine wB_one ?_
  | with_reducible refine wB_cons' fun _ _ => ?_
  | with_reducible refine wB_nil ?_
  | walk_at "put"
  | with_reducible refine Nx.go (by assumption) ?_
  | ((with_reducible refine wG_name (by assumption) ?s0 ?_); (case s0 => walk_at "mem"))
  | ((with_reducible apply wG_tup (by assumption)); (focus (apply SqT.of; walk_at "hk")); (focus rfl); (focus rfl))
  | ((with_reducible refine wGs_cons ?s1 ?_); (case s1 => rfl))
  | with_reducible refine wGs_nil ?_)
local macro_rules | `(tactic| walk_at "st") => `(tactic| (repeat walk_at "w2"))
/-! ### the law's own box of digits, mixed -/
structure TxJ (mg : Str → Option Value) : Prop where
  range : mg "range" = none
  abs : mg "abs" = none
  len : mg "len" = none
  divmod : mg "divmod" = none
  isinstance : mg "isinstance" = none
  int : mg "int" = none
  bool : mg "bool" = none
def spCell (K : PySem.W.Frag) : Sp := fun vs H Q _ => ∃ (a : Addr) (ns : List Int) (k : Int), vs = [.ref a, .int k] ∧ SqL K H a (ns.map V.int) ∧ 0 ≤ k ∧ ∀ z, Q (.int z) H
def spMix : Sp := fun vs H Q _ => ∃ c k : Int, vs = [.int c, .int k] ∧ ∀ z H', Ex H H' → Q (.int z) H'
def spBoxM (K : PySem.W.Frag) : Sp := fun vs H Q _ => ∃ (a : Addr) (ns : List Int) (k lap : Int), vs = [.ref a, .int k, .int lap] ∧ SqL K H a (ns.map V.int) ∧ 0 ≤ k ∧ ∀ p n H', H p = none → Ex H H' → H' p = some (.lst [.int n]) → Q (.ref p) H'
def spTakeM : Sp := fun vs H Q _ => ∃ (b : Addr) (n k : Int), vs = [.ref b, .int k] ∧ H b = some (.lst [.int n]) ∧ 0 < k ∧ k < 4611686018427387904 ∧ ∀ d n' H', 0 ≤ d → d < k → H' b = some (.lst [.int n']) → Exb b H H' → Q (.int d) H'
theorem atI_map {ns : List Int} {k : Int} (h0 : 0 ≤ k) (h1 : k < ns.length) : ∃ z, atI (ns.map V.int) k = some (.int z) := by
  obtain ⟨v, e, hv⟩ := atI_mem (xs := ns.map V.int) h0 (by rw [List.length_map]; exact h1)
  obtain ⟨z, _, rfl⟩ := List.mem_map.mp hv
  exact ⟨z, e⟩
def mixL : List Int := [48271, 69621, 16807, 39373, 30269, 40014, 40692, 50021, 61687, 71993, 83869, 95561, 30307]
section
variable {P : Program} {w : World} {K : PySem.W.Frag} {mg : Str → Option Value} {base : Heap} {f C0 : Addr} {fd : FuncData}
theorem p_cell (F : Fn K "_law_cell" "_law_cell" s__law_cell f fd) (T : TxJ mg) : FnOk P w K mg base CX0 1 f fd ["_law_script", "_law_k"] (spCell K) := by
  refine fn_w F sc__law_cell ok__law_cell (fun vs H Q E h => by obtain ⟨a, ns, k, rfl, ha, hk, q⟩ := h; rfl) (fun X vs H Q E C h => ?_)
  obtain ⟨a, ns, k, rfl, ha, hk, q⟩ := h
  show wB X _ _ [some (.ref a), some (.int k)] H
  first | refine wB_one ?_ | refine wB_cons' fun _ _ => ?_
  walk_at "ws"
  refine wS_if ?_
  walk_at "ws"
  refine wE_callB C T.len (by walk_at "mem") boot_len (by rfl) (by rfl) ?_
  walk_at "ws"
  refine c_lenL C ha ?_
  walk_at "ws"
  refine iteD (fun h => ?_) (fun h => ?_)
  · walk_at "ws"
    obtain ⟨z, hz⟩ := atI_map hk (show k < ns.length by rw [List.length_map] at h; exact h)
    refine i_list C (fun _ _ => rfl) ha hz ?_
    exact q z
  · walk_at "ws"
    exact q 0
theorem p_mix (F : Fn K "_law_mix" "_law_mix" s__law_mix f fd) : FnOk P w K mg base CX0 1 f fd ["_law_cell_here", "_law_k"] spMix := by
  refine fn_w F sc__law_mix ok__law_mix (fun vs H Q E h => by obtain ⟨c, k, rfl, q⟩ := h; rfl) (fun X vs H Q E C h => ?_)
  obtain ⟨c, k, rfl, q⟩ := h
  show wB X _ _ [some (.int c), some (.int k), none, none] H
  first | refine wB_one ?_ | refine wB_cons' fun _ _ => ?_
  walk_at "ws"
  refine ⟨(by show 13 ≤ sizeLine; decide), fun p1 H1 hp1 e1 h1 => ?_⟩
  walk_at "ws"
  obtain ⟨z, hz⟩ := atI_map (ns := mixL) (Int.emod_nonneg k (show (13 : Int) ≠ 0 by decide)) (Int.emod_lt_of_pos k (show (0 : Int) < 13 by decide))
  have c0 : 0 ≤ c % 2147483647 := Int.emod_nonneg _ (by decide)
  have c1 : c % 2147483647 < 2147483647 := Int.emod_lt_of_pos _ (by decide)
  refine i_list C (fun _ _ => rfl) (SqL.of h1) hz ?_
  refine o_mulL (by omega) (by omega) ?_
  walk_at "ws"
  exact q _ _ e1
theorem p_boxM (F : Fn K "_law_box" "_law_box" s__law_box f fd) (T : TxJ mg) (DC : Df P w K mg base 1 "_law_cell" ["_law_script", "_law_k"] [] (spCell K)) (DM : Df P w K mg base 1 "_law_mix" ["_law_cell_here", "_law_k"] [] spMix) : FnOk P w K mg base CX0 2 f fd ["_law_script", "_law_k", "_law_lap"] (spBoxM K) := by
  refine fn_w F sc__law_box ok__law_box (fun vs H Q E h => by obtain ⟨a, ns, k, lap, rfl, ha, hk, q⟩ := h; rfl) (fun X vs H Q E C h => ?_)
  obtain ⟨a, ns, k, lap, rfl, ha, hk, q⟩ := h
  show wB X _ _ [some (.ref a), some (.int k), some (.int lap), none, none, none] H
  first | refine wB_one ?_ | refine wB_cons' fun _ _ => ?_
  walk_at "ws"
  refine wE_call C DC (by walk_at "mem") (by decide) (by rfl) (by rfl) ?_
  walk_at "ws"
  refine ⟨a, ns, k, rfl, ha, hk, fun z => ?_⟩
  walk_at "ws"
  refine wS_cut (fun σ' H' => ∃ z, σ' = [some (.ref a), some (.int k), some (.int lap), some (.int z), none, none] ∧ H' = H) ?_ ?_
  · refine wS_if ?_
    walk_at "ws"
    refine iteD (fun h => ?_) (fun h => ?_)
    · walk_at "ws"
      refine iteD (fun h => ?_) (fun h => ?_)
      · walk_at "ws"
        refine wE_callB C T.abs (by walk_at "mem") boot_abs (by rfl) (by rfl) ?_
        walk_at "ws"
        refine c_abs ?_
        walk_at "ws"
        refine ⟨(by show 1 ≤ sizeLine; decide), fun p H2 hp e h2 => ?_⟩
        exact q p _ H2 hp e h2
      · walk_at "ws"
        exact ⟨_, rfl, rfl⟩
    · walk_at "ws"
      exact ⟨_, rfl, rfl⟩
  rintro σ1 H1 ⟨z1, rfl, rfl⟩
  walk_at "ws"
  refine wS_range1 C T.range (by walk_at "mem") (by rfl) ?_
  walk_at "ws"
  refine ⟨90, rfl, by decide, fun i σ H' => ∃ r y1, σ = [some (.ref a), some (.int k), some (.int lap), some (.int z1), some (.int r), y1] ∧ Ex H1 H', ⟨0, none, rfl, Ex.refl H1⟩, ?_, ?_⟩
  · rintro i σ H' hi ⟨r, y1, rfl, e'⟩
    refine wG_name C (by walk_at "mem") ?_
    walk_at "ws"
    refine wE_call C DM (by walk_at "mem") (by decide) (by rfl) (by rfl) ?_
    walk_at "ws"
    refine ⟨_, _, rfl, fun z2 H2 e2 => ?_⟩
    walk_at "ws"
    exact ⟨_, _, rfl, e'.trans e2⟩
  · rintro σ H' ⟨r, y1, rfl, e'⟩
    walk_at "ws"
    refine ⟨(by show 1 ≤ sizeLine; decide), fun p H2 hp e h2 => ?_⟩
    exact q p _ H2 (e'.free hp) (e'.trans e) h2
theorem p_takeM (F : Fn K "_law_take" "_law_take" s__law_take f fd) (T : TxJ mg) : FnOk P w K mg base CX0 1 f fd ["_law_box_here", "_law_count"] spTakeM := by
  refine fn_w F sc__law_take ok__law_take (fun vs H Q E h => by obtain ⟨b, n, k, rfl, hb, k0, k1, q⟩ := h; rfl) (fun X vs H Q E C h => ?_)
  obtain ⟨b, n, k, rfl, hb, k0, k1, q⟩ := h
  show wB X _ _ [some (.ref b), some (.int k), none, none] H
  first | refine wB_one ?_ | refine wB_cons' fun _ _ => ?_
  walk_at "ws"
  refine wE_callB C T.divmod (by walk_at "mem") boot_divmod (by rfl) (by rfl) ?_
  walk_at "ws"
  refine c_divmodW k0 k1 fun p H2 hp e2 h2 => ?_
  walk_at "ws"
  refine wS_asg (by rfl) (by rfl) (by rfl) ?_
  walk_at "ws"
  exact q _ _ _ (Int.emod_nonneg _ (by omega)) (Int.emod_lt_of_pos _ k0) (by assumption) (by walk_at "hx")
end
/-! ### what the top leaves -/
structure Txt (K : PySem.W.Frag) (mg : Str → Option Value) : Prop where
  range : mg "range" = none
  abs : mg "abs" = none
  len : mg "len" = none
  divmod : mg "divmod" = none
  isinstance : mg "isinstance" = none
  int : mg "int" = none
  bool : mg "bool" = none
  kinds : ∃ a, mg "KINDS" = some (.ref a) ∧ ∀ H, SqT K H a [.str "bed", .str "fee", .str "meal", .str "ride", .str "sundry"]
  lday : ∃ t, mg "LAST_DAY" = some (.int 59 t)
  lmon : ∃ t, mg "LAST_MONEY" = some (.int 3 t)
  mamt : ∃ t, mg "MOST_AMOUNT" = some (.int 1000000 t)
  mhea : ∃ t, mg "MOST_HEADS" = some (.int 6 t)
theorem kb_ii : kitB "int" "int" = some true := by decide +kernel
theorem kb_ib : kitB "int" "bool" = some false := by decide +kernel
theorem kb_bb : kitB "bool" "bool" = some true := by decide +kernel
def wholeB (i lo hi : Int) : Bool := decide (lo ≤ i) && decide (i ≤ hi)
def spWhole : Sp := fun vs H Q _ => ∃ i lo hi : Int, vs = [.int i, .int lo, .int hi] ∧ Q (.bl (wholeB i lo hi)) H
def spTruth : Sp := fun vs H Q _ => ∃ b : Bool, vs = [.bl b] ∧ Q (.bl true) H
def spKind : Sp := fun vs H Q _ => ∃ z : Str, vs = [.str z] ∧ Q (.bl (inV (.str z) [.str "bed", .str "fee", .str "meal", .str "ride", .str "sundry"])) H
def spDay : Sp := fun vs H Q _ => ∃ i : Int, vs = [.int i] ∧ Q (.bl (wholeB i 0 59)) H
section
variable {P : Program} {w : World} {K : PySem.W.Frag} {mg : Str → Option Value} {base : Heap} {f : Addr} {fd : FuncData}
theorem p_whole (F : Fn K "is_whole" "is_whole" s_is_whole f fd) (T : Txt K mg) : FnOk P w K mg base CX0 1 f fd ["thing", "least", "most"] spWhole := by
  refine fn_w F sc_is_whole ok_is_whole (fun vs H Q E h => by obtain ⟨i, lo, hi, rfl, _⟩ := h; rfl) (fun X vs H Q E C h => ?_)
  obtain ⟨i, lo, hi, rfl, q⟩ := h
  show wB X _ _ [some (.int i), some (.int lo), some (.int hi)] H
  first | refine wB_one ?_ | refine wB_cons' fun _ _ => ?_
  walk_at "ws"
  refine wE_callB C T.isinstance (by walk_at "mem") boot_isinstance (by rfl) (by rfl) ?_
  walk_at "ws"
  refine wE_bltn (v := .ty "int") C T.int (by walk_at "mem") boot_int rfl ?_
  walk_at "ws"
  refine c_isi C (.ty "int") (.base (.int i)) kb_ii ?_
  walk_at "ws"
  refine wE_callB C T.isinstance (by walk_at "mem") boot_isinstance (by rfl) (by rfl) ?_
  walk_at "ws"
  refine wE_bltn (v := .ty "bool") C T.bool (by walk_at "mem") boot_bool rfl ?_
  walk_at "ws"
  refine c_isi C (.ty "bool") (.base (.int i)) kb_ib ?_
  walk_at "ws"
  unfold wholeB at q
  refine iteD (fun h => ?_) (fun h => ?_)
  · walk_at "ws"
    rw [decide_eq_true h] at q
    exact q
  · rw [decide_eq_false h] at q
    exact q
theorem p_truth (F : Fn K "is_truth" "is_truth" s_is_truth f fd) (T : Txt K mg) : FnOk P w K mg base CX0 1 f fd ["thing"] spTruth := by
  refine fn_w F sc_is_truth ok_is_truth (fun vs H Q E h => by obtain ⟨i, rfl, _⟩ := h; rfl) (fun X vs H Q E C h => ?_)
  obtain ⟨i, rfl, q⟩ := h
  show wB X _ _ [some (.bl i)] H
  first | refine wB_one ?_ | refine wB_cons' fun _ _ => ?_
  walk_at "ws"
  refine wE_callB C T.isinstance (by walk_at "mem") boot_isinstance (by rfl) (by rfl) ?_
  walk_at "ws"
  refine wE_bltn (v := .ty "bool") C T.bool (by walk_at "mem") boot_bool rfl ?_
  walk_at "ws"
  refine c_isi C (.ty "bool") (.base (.bl i)) kb_bb ?_
  exact q
theorem p_kind (F : Fn K "is_kind" "is_kind" s_is_kind f fd) (T : Txt K mg) : FnOk P w K mg base CX0 1 f fd ["thing"] spKind := by
  refine fn_w F sc_is_kind ok_is_kind (fun vs H Q E h => by obtain ⟨i, rfl, _⟩ := h; rfl) (fun X vs H Q E C h => ?_)
  obtain ⟨z, rfl, q⟩ := h
  show wB X _ _ [some (.str z)] H
  first | refine wB_one ?_ | refine wB_cons' fun _ _ => ?_
  walk_at "ws"
  obtain ⟨a, ma, ha⟩ := T.kinds
  refine wE_glob (v := .ref a) C (by walk_at "mem") ma rfl ?_
  refine o_inT C (ha H) rfl rfl ?_
  exact q
theorem p_day (F : Fn K "is_day" "is_day" s_is_day f fd) (T : Txt K mg) (DW : Df P w K mg base 1 "is_whole" ["thing", "least", "most"] [] spWhole) : FnOk P w K mg base CX0 2 f fd ["thing"] spDay := by
  refine fn_w F sc_is_day ok_is_day (fun vs H Q E h => by obtain ⟨i, rfl, _⟩ := h; rfl) (fun X vs H Q E C h => ?_)
  obtain ⟨i, rfl, q⟩ := h
  show wB X _ _ [some (.int i)] H
  first | refine wB_one ?_ | refine wB_cons' fun _ _ => ?_
  walk_at "ws"
  obtain ⟨t, mt⟩ := T.lday
  refine wE_call C DW (by walk_at "mem") (by decide) (by rfl) (by rfl) ?_
  walk_at "ws"
  refine wE_glob (v := .int 59) C (by walk_at "mem") mt ⟨t, rfl⟩ ?_
  walk_at "ws"
  exact ⟨i, 0, 59, rfl, q⟩
end
structure Row where
  kind : Str
  bill : Int
  day : Int
  slip : Bool
  heads : Int
  coin : Int
def kindsL : List V := [.str "bed", .str "fee", .str "meal", .str "ride", .str "sundry"]
structure Row.Ok (r : Row) : Prop where
  kind : inV (.str r.kind) kindsL = true
  b1 : 1 ≤ r.bill
  b2 : r.bill ≤ 1000000
  d1 : 0 ≤ r.day
  d2 : r.day ≤ 59
  h1 : 1 ≤ r.heads
  h2 : r.heads ≤ 6
  c1 : 0 ≤ r.coin
  c2 : r.coin ≤ 3
def Row.vs (r : Row) : List V := [.str r.kind, .int r.bill, .int r.day, .bl r.slip, .int r.heads, .int r.coin]
def Row.fs (r : Row) : List (Str × V) := putF "money" (.int r.coin) (putF "heads" (.int r.heads) (putF "paper" (.bl r.slip) (putF "day" (.int r.day) (putF "amount" (.int r.bill) (putF "kind" (.str r.kind) [])))))
theorem Row.l_money (r : Row) : r.fs.lookup ("money" : Str) = some (.int r.coin) := by unfold Row.fs; rw [lookup_putF, if_pos rfl]
theorem Row.l_heads (r : Row) : r.fs.lookup ("heads" : Str) = some (.int r.heads) := by unfold Row.fs; rw [lookup_putF, if_neg (by decide +kernel), lookup_putF, if_pos rfl]
theorem Row.l_paper (r : Row) : r.fs.lookup ("paper" : Str) = some (.bl r.slip) := by unfold Row.fs; rw [lookup_putF, if_neg (by decide +kernel), lookup_putF, if_neg (by decide +kernel), lookup_putF, if_pos rfl]
theorem Row.l_day (r : Row) : r.fs.lookup ("day" : Str) = some (.int r.day) := by unfold Row.fs; rw [lookup_putF, if_neg (by decide +kernel), lookup_putF, if_neg (by decide +kernel), lookup_putF, if_neg (by decide +kernel), lookup_putF, if_pos rfl]
theorem Row.l_amount (r : Row) : r.fs.lookup ("amount" : Str) = some (.int r.bill) := by unfold Row.fs; rw [lookup_putF, if_neg (by decide +kernel), lookup_putF, if_neg (by decide +kernel), lookup_putF, if_neg (by decide +kernel), lookup_putF, if_neg (by decide +kernel), lookup_putF, if_pos rfl]
theorem Row.l_kind (r : Row) : r.fs.lookup ("kind" : Str) = some (.str r.kind) := by unfold Row.fs; rw [lookup_putF, if_neg (by decide +kernel), lookup_putF, if_neg (by decide +kernel), lookup_putF, if_neg (by decide +kernel), lookup_putF, if_neg (by decide +kernel), lookup_putF, if_neg (by decide +kernel), lookup_putF, if_pos rfl]
theorem Row.l_but (r : Row) : r.fs.lookup ("but" : Str) = none := by unfold Row.fs; rw [lookup_putF, if_neg (by decide +kernel), lookup_putF, if_neg (by decide +kernel), lookup_putF, if_neg (by decide +kernel), lookup_putF, if_neg (by decide +kernel), lookup_putF, if_neg (by decide +kernel), lookup_putF, if_neg (by decide +kernel)]; rfl
/-- the class of the spendings -/
structure Sc (K : PySem.W.Frag) (C : Addr) : Prop where
  cl : Cls K C
  nk : NoAttr K C "kind"
  na : NoAttr K C "amount"
  nd : NoAttr K C "day"
  np : NoAttr K C "paper"
  nh : NoAttr K C "heads"
  nm : NoAttr K C "money"
def spHeads : Sp := fun vs H Q _ => ∃ i : Int, vs = [.int i] ∧ 1 ≤ i ∧ i ≤ 6 ∧ Q .non H
def spParts : Sp := fun vs H Q _ => ∃ r : Row, vs = r.vs ∧ r.Ok ∧ Q .non H
def spInit (C : Addr) : Sp := fun vs H Q _ => ∃ (p dx : Addr) (r : Row), vs = .ref p :: r.vs ∧ r.Ok ∧ H p = some (.ins C dx []) ∧ ∀ H', Exb p H H' → H' p = some (.ins C dx r.fs) → Q .non H'
section
variable {P : Program} {w : World} {K : PySem.W.Frag} {mg : Str → Option Value} {base : Heap} {f C0 : Addr} {fd : FuncData}
theorem p_heads (F : Fn K "check_heads" "check_heads" s_check_heads f fd) (T : Txt K mg) (DW : Df P w K mg base 1 "is_whole" ["thing", "least", "most"] [] spWhole) : FnOk P w K mg base CX0 2 f fd ["heads"] spHeads := by
  refine fn_w F sc_check_heads ok_check_heads (fun vs H Q E h => by obtain ⟨i, rfl, h1, h2, q⟩ := h; rfl) (fun X vs H Q E C h => ?_)
  obtain ⟨i, rfl, h1, h2, q⟩ := h
  show wB X _ _ [some (.int i)] H
  first | refine wB_one ?_ | refine wB_cons' fun _ _ => ?_
  walk_at "ws"
  refine wS_if ?_
  walk_at "ws"
  refine wE_call C DW (by walk_at "mem") (by decide) (by rfl) (by rfl) ?_
  walk_at "ws"
  refine ⟨i, 0, 0, rfl, ?_⟩
  rw [show wholeB i 0 0 = false by unfold wholeB; simp; omega]
  walk_at "ws"
  refine wS_if ?_
  walk_at "ws"
  refine wE_call C DW (by walk_at "mem") (by decide) (by rfl) (by rfl) ?_
  walk_at "ws"
  refine wE_glob (v := .int 6) C (by walk_at "mem") T.mhea.choose_spec ⟨_, rfl⟩ ?_
  walk_at "ws"
  refine ⟨i, 1, 6, rfl, ?_⟩
  rw [show wholeB i 1 6 = true by unfold wholeB; simp; omega]
  walk_at "ws"
  exact q
theorem p_parts (F : Fn K "check_parts" "check_parts" s_check_parts_spendings f fd) (T : Txt K mg) (DW : Df P w K mg base 1 "is_whole" ["thing", "least", "most"] [] spWhole) (DK : Df P w K mg base 1 "is_kind" ["thing"] [] spKind)
    (DD : Df P w K mg base 2 "is_day" ["thing"] [] spDay) (DT : Df P w K mg base 1 "is_truth" ["thing"] [] spTruth) (DH : Df P w K mg base 2 "check_heads" ["heads"] [] spHeads) : FnOk P w K mg base CX0 3 f fd ["kind", "amount", "day", "paper", "heads", "money"] spParts := by
  refine fn_w F sc_check_parts_spendings ok_check_parts_spendings (fun vs H Q E h => by obtain ⟨r, rfl, o, q⟩ := h; rfl) (fun X vs H Q E C h => ?_)
  obtain ⟨r, rfl, o, q⟩ := h
  show wB X _ _ [some (.str r.kind), some (.int r.bill), some (.int r.day), some (.bl r.slip), some (.int r.heads), some (.int r.coin)] H
  first | refine wB_one ?_ | refine wB_cons' fun _ _ => ?_
  walk_at "ws"
  refine wS_if ?_
  walk_at "ws"
  refine wE_call C DK (by walk_at "mem") (by decide) (by rfl) (by rfl) ?_
  walk_at "ws"
  refine ⟨_, rfl, ?_⟩
  rw [show inV (.str r.kind) [.str "bed", .str "fee", .str "meal", .str "ride", .str "sundry"] = true from o.kind]
  walk_at "ws"
  refine wS_if ?_
  walk_at "ws"
  refine wE_call C DW (by walk_at "mem") (by decide) (by rfl) (by rfl) ?_
  walk_at "ws"
  refine wE_glob (v := .int 1000000) C (by walk_at "mem") T.mamt.choose_spec ⟨_, rfl⟩ ?_
  walk_at "ws"
  refine ⟨_, _, _, rfl, ?_⟩
  rw [show wholeB r.bill 1 1000000 = true by have := o.b1; have := o.b2; unfold wholeB; simp; omega]
  walk_at "ws"
  refine wS_if ?_
  walk_at "ws"
  refine wE_call C DD (by walk_at "mem") (by decide) (by rfl) (by rfl) ?_
  walk_at "ws"
  refine ⟨_, rfl, ?_⟩
  rw [show wholeB r.day 0 59 = true by have := o.d1; have := o.d2; unfold wholeB; simp; omega]
  walk_at "ws"
  refine wS_if ?_
  walk_at "ws"
  refine wE_call C DT (by walk_at "mem") (by decide) (by rfl) (by rfl) ?_
  walk_at "ws"
  refine ⟨_, rfl, ?_⟩
  walk_at "ws"
  refine wE_call C DH (by walk_at "mem") (by decide) (by rfl) (by rfl) ?_
  walk_at "ws"
  refine ⟨_, rfl, o.h1, o.h2, ?_⟩
  walk_at "ws"
  refine wS_if ?_
  walk_at "ws"
  refine wE_call C DW (by walk_at "mem") (by decide) (by rfl) (by rfl) ?_
  walk_at "ws"
  refine wE_glob (v := .int 3) C (by walk_at "mem") T.lmon.choose_spec ⟨_, rfl⟩ ?_
  walk_at "ws"
  refine ⟨_, _, _, rfl, ?_⟩
  rw [show wholeB r.coin 0 3 = true by have := o.c1; have := o.c2; unfold wholeB; simp; omega]
  walk_at "ws"
  exact q
end
section
variable {P : Program} {w : World} {K : PySem.W.Frag} {mg : Str → Option Value} {base : Heap} {f C0 : Addr} {fd : FuncData}
theorem p_init (F : Fn K "__init__" "Spending.__init__" s_Spending_init f fd) (S : Sc K C0) (DP : Df P w K mg base 3 "check_parts_spendings" ["kind", "amount", "day", "paper", "heads", "money"] [] spParts) :
    FnOk P w K mg base CX0 4 f fd ["self", "kind", "amount", "day", "paper", "heads", "money"] (spInit C0) := by
  refine fn_w F sc_Spending_init ok_Spending_init (fun vs H Q E h => by obtain ⟨p, dx, r, rfl, o, hp, q⟩ := h; rfl) (fun X vs H Q E C h => ?_)
  obtain ⟨p, dx, r, rfl, o, hp, q⟩ := h
  show wB X _ _ [some (.ref p), some (.str r.kind), some (.int r.bill), some (.int r.day), some (.bl r.slip), some (.int r.heads), some (.int r.coin)] H
  first | refine wB_one ?_ | refine wB_cons' fun _ _ => ?_
  walk_at "ws"
  refine wE_call C DP (by walk_at "mem") (by decide) (by rfl) (by rfl) ?_
  walk_at "ws"
  refine ⟨r, rfl, o, ?_⟩
  walk_at "ws"
  refine putq_i hp S.cl S.nk (by decide) fun H1 e1 h1 => ?_
  walk_at "ws"
  refine putq_i h1 S.cl S.na (Nat.lt_of_le_of_lt (len_put (Nat.zero_le 0)) (by decide)) fun H2 e2 h2 => ?_
  walk_at "ws"
  refine putq_i h2 S.cl S.nd (Nat.lt_of_le_of_lt (len_put (len_put (Nat.zero_le 0))) (by decide)) fun H3 e3 h3 => ?_
  walk_at "ws"
  refine putq_i h3 S.cl S.np (Nat.lt_of_le_of_lt (len_put (len_put (len_put (Nat.zero_le 0)))) (by decide)) fun H4 e4 h4 => ?_
  walk_at "ws"
  refine putq_i h4 S.cl S.nh (Nat.lt_of_le_of_lt (len_put (len_put (len_put (len_put (Nat.zero_le 0))))) (by decide)) fun H5 e5 h5 => ?_
  walk_at "ws"
  refine putq_i h5 S.cl S.nm (Nat.lt_of_le_of_lt (len_put (len_put (len_put (len_put (len_put (Nat.zero_le 0)))))) (by decide)) fun H6 e6 h6 => ?_
  walk_at "ws"
  exact q _ (((((e1.trans e2).trans e3).trans e4).trans e5).trans e6) h6
end
theorem o_eqS {X : Cx} {x y : Str} {H : Hp} {Q : VK} (q : Q (.bl (decide (x = y))) H) : wO X (compareOp .Eq) (.str x) (.str y) H Q :=
  wO.of op_eq ⟨rfl, by rw [show decide (V.str x = V.str y) = decide (x = y) from decide_eq_decide.mpr ⟨fun h => by injection h, fun h => by rw [h]⟩]; exact q⟩
theorem o_eqB {X : Cx} {x y : Bool} {H : Hp} {Q : VK} (q : Q (.bl (decide (x = y))) H) : wO X (compareOp .Eq) (.bl x) (.bl y) H Q :=
  wO.of op_eq ⟨rfl, by rw [show decide (V.bl x = V.bl y) = decide (x = y) from decide_eq_decide.mpr ⟨fun h => by injection h, fun h => by rw [h]⟩]; exact q⟩
def Row.same (r s : Row) : Bool := decide (r.kind = s.kind ∧ r.bill = s.bill ∧ r.day = s.day ∧ r.slip = s.slip ∧ r.heads = s.heads ∧ r.coin = s.coin)
def spSame (K : PySem.W.Frag) (C : Addr) : Sp := fun vs H Q _ => ∃ (a dx : Addr) (r : Row) (y : V), vs = [.ref a, y] ∧ H a = some (.ins C dx r.fs) ∧
  ((∃ (b dy : Addr) (s : Row), y = .ref b ∧ H b = some (.ins C dy s.fs) ∧ Q (.bl (r.same s)) H) ∨ ∃ t, TyX K H y t ∧ PySem.W.kitOne K t (.ref C) = some false ∧ Q (.bl false) H)
section
variable {P : Program} {w : World} {K : PySem.W.Frag} {mg : Str → Option Value} {base : Heap} {f C0 : Addr} {fd : FuncData}
theorem p_same (F : Fn K "__eq__" "Spending.__eq__" s_Spending_eq f fd) (T : Txt K mg) (S : Sc K C0) (gS : mg "Spending" = some (.ref C0)) (TI : ∀ {H : Hp} {a dx : Addr} {fs : List (Str × V)}, H a = some (.ins C0 dx fs) → TyX K H (.ref a) (.ref C0)) : FnOk P w K mg base CX0 1 f fd ["self", "other"] (spSame K C0) := by
  refine fn_w F sc_Spending_eq ok_Spending_eq (fun vs H Q E h => by obtain ⟨a, dx, r, y, rfl, ha, q⟩ := h; rfl) (fun X vs H Q E C h => ?_)
  obtain ⟨a, dx, r, y, rfl, ha, q⟩ := h
  show wB X _ _ [some (.ref a), some y] H
  first | refine wB_one ?_ | refine wB_cons' fun _ _ => ?_
  walk_at "ws"
  refine wE_callB C T.isinstance (by walk_at "mem") boot_isinstance (by rfl) (by rfl) ?_
  walk_at "ws"
  refine wE_glob (v := .ref C0) C (by walk_at "mem") gS rfl ?_
  walk_at "ws"
  rcases q with ⟨b, dy, s, rfl, hb, q⟩ | ⟨t, ht, hk, q⟩
  · refine c_isi C (.own C0) (TI hb) (r := true) (by unfold PySem.W.kitOne; rw [if_pos (beq_self_eq_true _)]) ?_
    walk_at "ws"
    refine fldq_i ha S.cl S.nk r.l_kind ?_
    walk_at "ws"
    refine fldq_i hb S.cl S.nk s.l_kind ?_
    refine o_eqS ?_
    walk_at "ws"
    refine iteD (fun e0 => ?_) (fun e0 => ?_)
    rotate_left
    · rw [show r.same s = false from decide_eq_false fun z => e0 z.1] at q
      exact q
    walk_at "ws"
    refine fldq_i ha S.cl S.na r.l_amount ?_
    walk_at "ws"
    refine fldq_i hb S.cl S.na s.l_amount ?_
    refine o_eqI ?_
    walk_at "ws"
    refine iteD (fun e1 => ?_) (fun e1 => ?_)
    rotate_left
    · rw [show r.same s = false from decide_eq_false fun z => e1 z.2.1] at q
      exact q
    walk_at "ws"
    refine fldq_i ha S.cl S.nd r.l_day ?_
    walk_at "ws"
    refine fldq_i hb S.cl S.nd s.l_day ?_
    refine o_eqI ?_
    walk_at "ws"
    refine iteD (fun e2 => ?_) (fun e2 => ?_)
    rotate_left
    · rw [show r.same s = false from decide_eq_false fun z => e2 z.2.2.1] at q
      exact q
    walk_at "ws"
    refine fldq_i ha S.cl S.np r.l_paper ?_
    walk_at "ws"
    refine fldq_i hb S.cl S.np s.l_paper ?_
    refine o_eqB ?_
    walk_at "ws"
    refine iteD (fun e3 => ?_) (fun e3 => ?_)
    rotate_left
    · rw [show r.same s = false from decide_eq_false fun z => e3 z.2.2.2.1] at q
      exact q
    walk_at "ws"
    refine fldq_i ha S.cl S.nh r.l_heads ?_
    walk_at "ws"
    refine fldq_i hb S.cl S.nh s.l_heads ?_
    refine o_eqI ?_
    walk_at "ws"
    refine iteD (fun e4 => ?_) (fun e4 => ?_)
    rotate_left
    · rw [show r.same s = false from decide_eq_false fun z => e4 z.2.2.2.2.1] at q
      exact q
    walk_at "ws"
    refine fldq_i ha S.cl S.nm r.l_money ?_
    walk_at "ws"
    refine fldq_i hb S.cl S.nm s.l_money ?_
    refine o_eqI ?_
    walk_at "ws"
    rw [show r.same s = decide (r.coin = s.coin) from decide_eq_decide.mpr ⟨fun z => z.2.2.2.2.2, fun z => ⟨e0, e1, e2, e3, e4, z⟩⟩] at q
    exact q
  · refine c_isi C (.own C0) ht hk ?_
    walk_at "ws"
    exact q
end
def twinB (r s : Row) : Bool := decide (r.kind = s.kind) && (decide (r.bill = s.bill) && (decide (r.day = s.day) && decide (r.coin = s.coin)))
def spTwins (C : Addr) : Sp := fun vs H Q _ => ∃ (a b dx dy : Addr) (r s : Row), vs = [.ref a, .ref b] ∧ H a = some (.ins C dx r.fs) ∧ H b = some (.ins C dy s.fs) ∧ Q (.bl (twinB r s)) H
section
variable {P : Program} {w : World} {K : PySem.W.Frag} {mg : Str → Option Value} {base : Heap} {f C0 : Addr} {fd : FuncData}
theorem p_twins (F : Fn K "are_twins" "are_twins" s_are_twins f fd) (S : Sc K C0) : FnOk P w K mg base CX0 1 f fd ["one", "other"] (spTwins C0) := by
  refine fn_w F sc_are_twins ok_are_twins (fun vs H Q E h => by obtain ⟨a, b, dx, dy, r, s, rfl, ha, hb, q⟩ := h; rfl) (fun X vs H Q E C h => ?_)
  obtain ⟨a, b, dx, dy, r, s, rfl, ha, hb, q⟩ := h
  show wB X _ _ [some (.ref a), some (.ref b)] H
  first | refine wB_one ?_ | refine wB_cons' fun _ _ => ?_
  walk_at "ws"
  unfold twinB at q
  refine fldq_i ha S.cl S.nk r.l_kind ?_
  walk_at "ws"
  refine fldq_i hb S.cl S.nk s.l_kind ?_
  refine o_eqSS ?_
  walk_at "ws"
  refine iteD (fun h => ?_) (fun h => by rw [decide_eq_false h] at q; exact q)
  rw [decide_eq_true h] at q
  walk_at "ws"
  refine fldq_i ha S.cl S.na r.l_amount ?_
  walk_at "ws"
  refine fldq_i hb S.cl S.na s.l_amount ?_
  refine o_eqI ?_
  walk_at "ws"
  refine iteD (fun h => ?_) (fun h => by rw [decide_eq_false h] at q; exact q)
  rw [decide_eq_true h] at q
  walk_at "ws"
  refine fldq_i ha S.cl S.nd r.l_day ?_
  walk_at "ws"
  refine fldq_i hb S.cl S.nd s.l_day ?_
  refine o_eqI ?_
  walk_at "ws"
  refine iteD (fun h => ?_) (fun h => by rw [decide_eq_false h] at q; exact q)
  rw [decide_eq_true h] at q
  walk_at "ws"
  refine fldq_i ha S.cl S.nm r.l_money ?_
  walk_at "ws"
  refine fldq_i hb S.cl S.nm s.l_money ?_
  refine o_eqI ?_
  exact q
end
/-! ### journeys with lines: what lies where -/
def jfs (t b e sp sm pa : V) : List (Str × V) := putF "past" pa (putF "sums" sm (putF "spent" sp (putF "ended" e (putF "begun" b (putF "towns" t [])))))
/-- the class Journey -/
structure Sj (K : PySem.W.Frag) (C : Addr) : Prop where
  cl : Cls K C
  n_towns : PySem.W.findIn K (.ref C) "towns" = some none
  n_begun : PySem.W.findIn K (.ref C) "begun" = some none
  n_ended : PySem.W.findIn K (.ref C) "ended" = some none
  n_spent : PySem.W.findIn K (.ref C) "spent" = some none
  n_sums : PySem.W.findIn K (.ref C) "sums" = some none
  n_past : PySem.W.findIn K (.ref C) "past" = some none
section
variable {t b e sp sm pa v : V}
theorem jfs_eq : jfs t b e sp sm pa = [(("towns" : Str), t), (("begun" : Str), b), (("ended" : Str), e), (("spent" : Str), sp), (("sums" : Str), sm), (("past" : Str), pa)] := by
  unfold jfs
  simp only [putF]
  repeat (first | rw [if_neg (by decide +kernel)] | rfl)
theorem jp_spent : putF "spent" v (jfs t b e sp sm pa) = jfs t b e v sm pa := by
  rw [jfs_eq, jfs_eq]
  simp only [putF]
  repeat (first | rw [if_neg (by decide +kernel)] | rw [if_pos rfl] | rfl)
theorem jp_sums : putF "sums" v (jfs t b e sp sm pa) = jfs t b e sp v pa := by
  rw [jfs_eq, jfs_eq]
  simp only [putF]
  repeat (first | rw [if_neg (by decide +kernel)] | rw [if_pos rfl] | rfl)
theorem jp_past : putF "past" v (jfs t b e sp sm pa) = jfs t b e sp sm v := by
  rw [jfs_eq, jfs_eq]
  simp only [putF]
  repeat (first | rw [if_neg (by decide +kernel)] | rw [if_pos rfl] | rfl)
theorem jfs_len : (jfs t b e sp sm pa).length < 1000 := by rw [jfs_eq]; show 6 < 1000; decide
theorem jl_past : (jfs t b e sp sm pa).lookup ("past" : Str) = some pa := by unfold jfs; repeat (first | (rw [lookup_putF, if_pos rfl]; done) | rw [lookup_putF, if_neg (by decide +kernel)])
theorem jl_sums : (jfs t b e sp sm pa).lookup ("sums" : Str) = some sm := by unfold jfs; repeat (first | (rw [lookup_putF, if_pos rfl]; done) | rw [lookup_putF, if_neg (by decide +kernel)])
theorem jl_spent : (jfs t b e sp sm pa).lookup ("spent" : Str) = some sp := by unfold jfs; repeat (first | (rw [lookup_putF, if_pos rfl]; done) | rw [lookup_putF, if_neg (by decide +kernel)])
theorem jl_ended : (jfs t b e sp sm pa).lookup ("ended" : Str) = some e := by unfold jfs; repeat (first | (rw [lookup_putF, if_pos rfl]; done) | rw [lookup_putF, if_neg (by decide +kernel)])
theorem jl_begun : (jfs t b e sp sm pa).lookup ("begun" : Str) = some b := by unfold jfs; repeat (first | (rw [lookup_putF, if_pos rfl]; done) | rw [lookup_putF, if_neg (by decide +kernel)])
theorem jl_towns : (jfs t b e sp sm pa).lookup ("towns" : Str) = some t := by unfold jfs; repeat (first | (rw [lookup_putF, if_pos rfl]; done) | rw [lookup_putF, if_neg (by decide +kernel)])
theorem jl_no {m : Str} (h1 : m ≠ "towns") (h2 : m ≠ "begun") (h3 : m ≠ "ended") (h4 : m ≠ "spent") (h5 : m ≠ "sums") (h6 : m ≠ "past") : (jfs t b e sp sm pa).lookup m = none := by
  unfold jfs
  rw [lookup_putF, if_neg h6, lookup_putF, if_neg h5, lookup_putF, if_neg h4, lookup_putF, if_neg h3, lookup_putF, if_neg h2, lookup_putF, if_neg h1]
  rfl
end
/-- all stays but what is at these -/
def Kx (S : Addr → Prop) (H H' : Hp) : Prop := ∀ c o, ¬ S c → H c = some o → H' c = some o
theorem Kx.trans {S : Addr → Prop} {H H1 H2 : Hp} (a : Kx S H H1) (b : Kx S H1 H2) : Kx S H H2 := fun c o n h => b c o n (a c o n h)
theorem Kx.of {S : Addr → Prop} {H H' : Hp} (e : Ex H H') : Kx S H H' := fun c o _ h => e c o h
theorem Kx.ofB {S : Addr → Prop} {b : Addr} {H H' : Hp} (e : Exb b H H') (h : S b) : Kx S H H' := fun c o n g => e c o (fun z => n (by rw [z]; exact h)) g
theorem Kx.mono {S T : Addr → Prop} {H H' : Hp} (a : Kx S H H') (h : ∀ c, S c → T c) : Kx T H H' := fun c o n g => a c o (fun z => n (h c z)) g
/-- .. where what is at these is new -/
theorem Kx.fresh {S T : Addr → Prop} {H H1 H2 : Hp} (a : Kx T H H1) (b : Kx S H1 H2) (h : ∀ c, S c → T c ∨ H c = none) : Kx T H H2 := fun c o n g => by
  refine b c o (fun z => ?_) (a c o n g)
  rcases h c z with w | w
  · exact n w
  · rw [g] at w; cases w
abbrev two (a p : Addr) : Addr → Prop := fun c => c = a ∨ c = p
def TwOk (ts : List Int) : Prop := 1 ≤ ts.length ∧ ts.length ≤ 30 ∧ ∀ t ∈ ts, 0 ≤ t ∧ t ≤ 3
/-- what stands: spendings in the order in which they were told, sums -/
abbrev JSt := List Row × List Int
def Made (CS : Addr) (H : Hp) (q : Addr) (r : Row) : Prop := ∃ dx, H q = some (.ins CS dx r.fs)
def StAt (CS : Addr) (H : Hp) (sp sm : Addr) (st : JSt) : Prop := (∃ qs : List Addr, H sp = some (.tup (qs.map V.ref)) ∧ Paired (Made CS H) qs st.1) ∧ H sm = some (.tup (st.2.map V.int))
def PastAt (CS : Addr) (H : Hp) (pp : Addr) (st : JSt) : Prop := ∃ sp sm, H pp = some (.tup [.ref sp, .ref sm]) ∧ StAt CS H sp sm st
structure JOk (ts : List Int) (st : JSt) : Prop where
  rows : ∀ r ∈ st.1, r.Ok ∧ r.day < ts.length
  many : st.1.length ≤ 40
  sums : ∀ n ∈ st.2, 1 ≤ n ∧ n ≤ 1000000000
  few : st.2.length ≤ 10
/-- a journey at a, its list of what stood ahead at pa -/
def JAt (C CS : Addr) (H : Hp) (a pa : Addr) (ts : List Int) (b e : Int) (st : JSt) (past : List JSt) : Prop := ∃ dx tw sp sm pps, H a = some (.ins C dx (jfs (.ref tw) (.int b) (.int e) (.ref sp) (.ref sm) (.ref pa))) ∧ H tw = some (.tup (ts.map V.int)) ∧ StAt CS H sp sm st ∧ H pa = some (.lst (pps.map V.ref)) ∧ Paired (PastAt CS H) pps past
theorem Made.kx {CS q : Addr} {S : Addr → Prop} {H H' : Hp} {r : Row} (h : Made CS H q r) (x : Kx S H H') (n : ∀ c, S c → ∀ dx fs, H c ≠ some (.ins CS dx fs)) : Made CS H' q r := by
  obtain ⟨dx, h⟩ := h
  exact ⟨dx, x _ _ (fun z => n _ z _ _ h) h⟩
theorem pair_kx {α β : Type} {R R' : α → β → Prop} (h : ∀ a b, R a b → R' a b) : ∀ {as : List α} {bs : List β}, Paired R as bs → Paired R' as bs
  | _, _, .nil => .nil
  | _, _, .cons r t => .cons (h _ _ r) (pair_kx h t)
/-- S: journeys (but a), lists (but pa) and what isn't yet there -/
def Sep (C a pa : Addr) (H : Hp) (S : Addr → Prop) : Prop := ∀ c, S c → c ≠ a ∧ c ≠ pa ∧ ((∃ dx fs, H c = some (.ins C dx fs)) ∨ (∃ xs, H c = some (.lst xs)) ∨ H c = none)
section
variable {C CS a pa : Addr} {S : Addr → Prop} {H H' : Hp} {ts : List Int} {b e : Int} {st : JSt} {past : List JSt}
theorem Sep.ins (h : Sep C a pa H S) (nc : CS ≠ C) : ∀ c, S c → ∀ dx fs, H c ≠ some (.ins CS dx fs) := fun c hc dx fs z => by
  rcases (h c hc).2.2 with ⟨dx', fs', w⟩ | ⟨xs, w⟩ | w
  · rw [w] at z; injection z with z; injection z with z1; exact nc z1.symm
  · rw [w] at z; cases z
  · rw [w] at z; cases z
theorem Sep.tup (h : Sep C a pa H S) {c : Addr} {xs : List V} (g : H c = some (.tup xs)) : ¬ S c := fun hc => by
  rcases (h c hc).2.2 with ⟨dx', fs', w⟩ | ⟨xs, w⟩ | w
  · rw [w] at g; cases g
  · rw [w] at g; cases g
  · rw [w] at g; cases g
theorem StAt.kx {sp sm : Addr} (h : StAt CS H sp sm st) (x : Kx S H H') (s : Sep C a pa H S) (nc : CS ≠ C) : StAt CS H' sp sm st := by
  obtain ⟨⟨qs, h1, h2⟩, h3⟩ := h
  exact ⟨⟨qs, x _ _ (s.tup h1) h1, pair_kx (fun q r m => m.kx x (s.ins nc)) h2⟩, x _ _ (s.tup h3) h3⟩
theorem PastAt.kx {pp : Addr} (h : PastAt CS H pp st) (x : Kx S H H') (s : Sep C a pa H S) (nc : CS ≠ C) : PastAt CS H' pp st := by
  obtain ⟨sp, sm, h1, h2⟩ := h
  exact ⟨sp, sm, x _ _ (s.tup h1) h1, h2.kx x s nc⟩
theorem JAt.kx (h : JAt C CS H a pa ts b e st past) (x : Kx S H H') (s : Sep C a pa H S) (nc : CS ≠ C) : JAt C CS H' a pa ts b e st past := by
  obtain ⟨dx, tw, sp, sm, pps, ha, h1, h2, h3, h4⟩ := h
  exact ⟨dx, tw, sp, sm, pps, x _ _ (fun z => (s a z).1 rfl) ha, x _ _ (s.tup h1) h1, h2.kx x s nc, x _ _ (fun z => (s pa z).2.1 rfl) h3, pair_kx (fun p r m => m.kx x s nc) h4⟩
theorem sep0 : Sep C a pa H fun _ => False := fun _ h => h.elim
theorem Made.ex {q : Addr} {r : Row} (h : Made CS H q r) (x : Ex H H') : Made CS H' q r := let ⟨dx, h⟩ := h; ⟨dx, x _ _ h⟩
theorem StAt.ex {sp sm : Addr} (h : StAt CS H sp sm st) (x : Ex H H') : StAt CS H' sp sm st := by
  obtain ⟨⟨qs, h1, h2⟩, h3⟩ := h
  exact ⟨⟨qs, x _ _ h1, pair_kx (fun q r m => m.ex x) h2⟩, x _ _ h3⟩
theorem PastAt.ex {pp : Addr} (h : PastAt CS H pp st) (x : Ex H H') : PastAt CS H' pp st := let ⟨sp, sm, h1, h2⟩ := h; ⟨sp, sm, x _ _ h1, h2.ex x⟩
theorem JAt.ex (h : JAt C CS H a pa ts b e st past) (x : Ex H H') : JAt C CS H' a pa ts b e st past := by
  obtain ⟨dx, tw, sp, sm, pps, ha, h1, h2, h3, h4⟩ := h
  exact ⟨dx, tw, sp, sm, pps, x _ _ ha, x _ _ h1, h2.ex x, x _ _ h3, pair_kx (fun p r m => m.ex x) h4⟩
/-- another journey is told something -/
theorem JAt.other {a' pa' : Addr} {ts' : List Int} {b' e' : Int} {st' : JSt} {past' : List JSt} (h : JAt C CS H a pa ts b e st past) (g : JAt C CS H a' pa' ts' b' e' st' past') (n1 : a ≠ a') (n2 : pa ≠ pa') (nc : CS ≠ C) (x : Kx (two a' pa') H H') : JAt C CS H' a pa ts b e st past := by
  obtain ⟨dx, tw, sp, sm, pps, ha, h1, h2, h3, h4⟩ := id h
  obtain ⟨dx', tw', sp', sm', pps', ha', h1', h2', h3', h4'⟩ := g
  refine h.kx x (fun c hc => ?_) nc
  rcases hc with rfl | rfl
  · exact ⟨n1.symm, fun z => (by rw [z, h3] at ha'; cases ha'), .inl ⟨_, _, ha'⟩⟩
  · exact ⟨fun z => (by rw [z, ha] at h3'; cases h3'), n2.symm, .inr (.inl ⟨_, h3'⟩)⟩
/-- a list that is no journey's is changed -/
theorem JAt.box {l : Addr} {xs : List V} (h : JAt C CS H a pa ts b e st past) (g : H l = some (.lst xs)) (n : l ≠ pa) (nc : CS ≠ C) (x : Exb l H H') : JAt C CS H' a pa ts b e st past := by
  obtain ⟨dx, tw, sp, sm, pps, ha, _⟩ := id h
  refine h.kx (S := fun c => c = l) (Kx.ofB x rfl) (fun c hc => ?_) nc
  subst hc
  exact ⟨fun z => (by rw [z, ha] at g; cases g), n, .inr (.inl ⟨_, g⟩)⟩
end
/-! ### journeys made, of what is right -/
structure Tx3 (mg : Str → Option Value) : Prop where
  tup : mg "tuple" = none
  all : mg "all" = none
  town : ∃ t, mg "LAST_TOWN" = some (.int 3 t)
  days : ∃ t, mg "MOST_DAYS" = some (.int 30 t)
  whole : ∃ t, mg "WHOLE_DAY" = some (.int 10 t)
  lines : ∃ t, mg "MOST_LINES" = some (.int 40 t)
  sum : ∃ t, mg "MOST_SUM" = some (.int 1000000000 t)
  sums : ∃ t, mg "MOST_SUMS" = some (.int 10 t)
def spTownR : Sp := fun vs H Q _ => ∃ i : Int, vs = [.int i] ∧ Q (.bl (wholeB i 0 3)) H
def spAreR : Sp := fun vs H Q _ => ∃ (tc : Addr) (ts : List Int), vs = [.ref tc] ∧ H tc = some (.tup (ts.map V.int)) ∧ TwOk ts ∧ ∀ H', Ex H H' → Q (.bl true) H'
def spChkR : Sp := fun vs H Q _ => ∃ (tc : Addr) (ts : List Int) (b e : Int), vs = [.ref tc, .int b, .int e] ∧ H tc = some (.tup (ts.map V.int)) ∧ TwOk ts ∧ 0 ≤ b ∧ b ≤ 10 ∧ 0 ≤ e ∧ e ≤ 10 ∧ ∀ H', Ex H H' → Q .non H'
def spInitR (C CS : Addr) : Sp := fun vs H Q _ => ∃ (p dx tc : Addr) (ts : List Int) (b e : Int), vs = [.ref p, .ref tc, .int b, .int e] ∧ H p = some (.ins C dx []) ∧ H tc = some (.tup (ts.map V.int)) ∧ TwOk ts ∧ 0 ≤ b ∧ b ≤ 10 ∧ 0 ≤ e ∧ e ≤ 10 ∧
  ∀ pa H', Exb p H H' → H pa = none → JAt C CS H' p pa ts b e ([], []) [] → Q .non H'
theorem kit_tt : kitB "tuple" "tuple" = some true := by decide +kernel
theorem wb_t {i lo hi : Int} (h1 : lo ≤ i) (h2 : i ≤ hi) : wholeB i lo hi = true := by unfold wholeB; rw [decide_eq_true h1, decide_eq_true h2]; rfl
section
variable {P : Program} {w : World} {K : PySem.W.Frag} {mg : Str → Option Value} {base : Heap} {f C0 CS : Addr} {fd : FuncData}
theorem p_townR (F : Fn K "is_town" "is_town" s_is_town f fd) (T3 : Tx3 mg) (DW : Df P w K mg base 1 "is_whole" ["thing", "least", "most"] [] spWhole) : FnOk P w K mg base CX0 2 f fd ["thing"] spTownR := by
  refine fn_w F sc_is_town ok_is_town (fun vs H Q E h => by obtain ⟨i, rfl, q⟩ := h; rfl) (fun X vs H Q E C h => ?_)
  obtain ⟨i, rfl, q⟩ := h
  show wB X _ _ [some (.int i)] H
  first | refine wB_one ?_ | refine wB_cons' fun _ _ => ?_
  walk_at "ws"
  refine wE_call C DW (by walk_at "mem") (by decide) (by rfl) (by rfl) ?_
  walk_at "ws"
  refine wE_glob (v := .int 3) C (by walk_at "mem") T3.town.choose_spec ⟨_, rfl⟩ ?_
  walk_at "ws"
  exact ⟨i, 0, 3, rfl, q⟩
theorem p_areR (F : Fn K "are_towns" "are_towns" s_are_towns f fd) (T : Txt K mg) (T3 : Tx3 mg) (DT : Df P w K mg base 2 "is_town" ["thing"] [] spTownR) : FnOk P w K mg base CX0 3 f fd ["thing"] spAreR := by
  refine fn_w F sc_are_towns ok_are_towns (fun vs H Q E h => by obtain ⟨tc, ts, rfl, ht, tok, q⟩ := h; rfl) (fun X vs H Q E C h => ?_)
  obtain ⟨tc, ts, rfl, ht, tok, q⟩ := h
  show wB X _ _ [some (.ref tc), none] H
  first | refine wB_one ?_ | refine wB_cons' fun _ _ => ?_
  walk_at "ws"
  refine wS_if ?_
  walk_at "ws"
  refine wE_callB C T.isinstance (by walk_at "mem") boot_isinstance (by rfl) (by rfl) ?_
  walk_at "ws"
  refine wE_bltn (v := .ty "tuple") C T3.tup (by walk_at "mem") boot_tuple rfl ?_
  walk_at "ws"
  refine c_isi C (.ty "tuple") (Thg.tup ht).tyX kit_tt ?_
  walk_at "ws"
  refine wE_callB C T.len (by walk_at "mem") boot_len (by rfl) (by rfl) ?_
  walk_at "ws"
  refine c_lenT C (SqT.of ht) ?_
  walk_at "ws"
  rw [decide_eq_true (show (1 : Int) ≤ ((ts.map V.int).length : Nat) by rw [List.length_map]; have := tok.1; omega)]
  walk_at "ws"
  refine wE_glob (v := .int 30) C (by walk_at "mem") T3.days.choose_spec ⟨_, rfl⟩ ?_
  walk_at "ws"
  rw [decide_eq_true (show (((ts.map V.int).length : Nat) : Int) ≤ 30 by rw [List.length_map]; have := tok.2.1; omega)]
  walk_at "ws"
  refine wE_callB C T3.all (by walk_at "mem") boot_all (by rfl) (by rfl) ?_
  walk_at "ws"
  refine wE_lcT [("town", 1)] ["town"] ["town"] ["is_town"] C (by decide +kernel) (by decide +kernel) (by decide +kernel) (by rfl) (fun _ => rfl) ?_
  walk_at "ws"
  refine ⟨tc, _, rfl, SqT.of ht, fun D hD => ⟨fun n H4 => H4 D = some (.lst ((List.replicate n true).map V.bl)) ∧ Ex H H4, ⟨upd_same, Ex.upd hD⟩, ?_, ?_, ?_⟩⟩
  · rintro n H4 _ ⟨_, e4⟩
    exact SqT.of (e4 _ _ ht)
  · rintro n y H4 hy ⟨hb, e4⟩
    obtain ⟨i, hi, rfl⟩ := List.mem_map.mp (List.mem_of_getElem? hy)
    have hn : n < ts.length := by have := (List.getElem?_eq_some_iff.mp hy).1; rwa [List.length_map] at this
    intro X1 C1
    show wG X1 _ _ [_, none] H4 _
    refine wG_name C1 (by walk_at "mem") ?_
    walk_at "ws"
    refine ⟨rfl, ?_⟩
    refine blkT_nil (iteT ?_)
    intro X2 C2
    clear C1 C
    walk_at "ws"
    refine wE_call C2 DT (by walk_at "mem") (by decide) (by rfl) (by rfl) ?_
    walk_at "ws"
    refine ⟨i, rfl, ?_⟩
    rw [wb_t (tok.2.2 i hi).1 (tok.2.2 i hi).2]
    refine ⟨_, hb, by rw [List.length_map, List.length_replicate, sizeLine_eq]; have := tok.2.1; omega, by rw [upd_same, List.replicate_succ', List.map_append]; rfl, e4.mut hD Exb.upd⟩
  rintro H4 ⟨hb, e4⟩
  walk_at "ws"
  refine c_all C (SqL.of hb) ?_
  rw [show (List.replicate (List.map V.int ts).length true).all id = true from List.all_eq_true.mpr fun x hx => (List.mem_replicate.mp hx).2]
  exact q H4 e4
theorem p_chkR (F : Fn K "check_parts" "check_parts" s_check_parts_journeys f fd) (T3 : Tx3 mg) (DA : Df P w K mg base 3 "are_towns" ["thing"] [] spAreR) (DW : Df P w K mg base 1 "is_whole" ["thing", "least", "most"] [] spWhole) : FnOk P w K mg base CX0 4 f fd ["towns", "begun", "ended"] spChkR := by
  refine fn_w F sc_check_parts_journeys ok_check_parts_journeys (fun vs H Q E h => by obtain ⟨tc, ts, b, e, rfl, ht, tok, b0, b1, e0, e1, q⟩ := h; rfl) (fun X vs H Q E C h => ?_)
  obtain ⟨tc, ts, b, e, rfl, ht, tok, b0, b1, e0, e1, q⟩ := h
  show wB X _ _ [some (.ref tc), some (.int b), some (.int e)] H
  first | refine wB_one ?_ | refine wB_cons' fun _ _ => ?_
  walk_at "ws"
  refine wS_if ?_
  walk_at "ws"
  refine wE_call C DA (by walk_at "mem") (by decide) (by rfl) (by rfl) ?_
  walk_at "ws"
  refine ⟨tc, ts, rfl, ht, tok, fun H1 x1 => ?_⟩
  walk_at "ws"
  refine wS_if ?_
  walk_at "ws"
  refine wE_call C DW (by walk_at "mem") (by decide) (by rfl) (by rfl) ?_
  walk_at "ws"
  refine wE_glob (v := .int 10) C (by walk_at "mem") T3.whole.choose_spec ⟨_, rfl⟩ ?_
  walk_at "ws"
  refine ⟨b, 0, 10, rfl, ?_⟩
  rw [wb_t b0 b1]
  walk_at "ws"
  refine wS_if ?_
  walk_at "ws"
  refine wE_call C DW (by walk_at "mem") (by decide) (by rfl) (by rfl) ?_
  walk_at "ws"
  refine wE_glob (v := .int 10) C (by walk_at "mem") T3.whole.choose_spec ⟨_, rfl⟩ ?_
  walk_at "ws"
  refine ⟨e, 0, 10, rfl, ?_⟩
  rw [wb_t e0 e1]
  walk_at "ws"
  exact q H1 x1
theorem p_initR (F : Fn K "__init__" "Journey.__init__" s_Journey_init f fd) (S : Sj K C0) (DP : Df P w K mg base 4 "check_parts_journeys" ["towns", "begun", "ended"] [] spChkR) : FnOk P w K mg base (L2N.CX P w) 5 f fd ["self", "towns", "begun", "ended"] (spInitR C0 CS) := by
  refine fn_wX F sc_Journey_init ok_Journey_init (fun vs H Q E h => by obtain ⟨p, dx, tc, ts, b, e, rfl, _⟩ := h; rfl) (fun X vs H Q E C TK h => ?_)
  obtain ⟨p, dx, tc, ts, b, e, rfl, hp, ht, tok, b0, b1, e0, e1, q⟩ := h
  show wB X _ _ [some (.ref p), some (.ref tc), some (.int b), some (.int e)] H
  refine wB_cons' fun _ _ => ?_
  walk_at "ws"
  refine wE_call C DP (by walk_at "mem") (by decide) (by rfl) (by rfl) ?_
  walk_at "ws"
  refine ⟨tc, ts, b, e, rfl, ht, tok, b0, b1, e0, e1, fun H0 z0 => ?_⟩
  walk_at "ws"
  have h0 := z0 _ _ hp
  have t0 := z0 _ _ ht
  have nt : tc ≠ p := fun z => by rw [z, hp] at ht; cases ht
  refine putq_i h0 S.cl S.n_towns (by show 0 < 1000; decide) fun H1 x1 h1 => ?_
  walk_at "ws"
  refine putq_i h1 S.cl S.n_begun (Nat.lt_of_le_of_lt (len_put (Nat.zero_le 0)) (by decide)) fun H2 x2 h2 => ?_
  walk_at "ws"
  refine putq_i h2 S.cl S.n_ended (Nat.lt_of_le_of_lt (len_put (len_put (Nat.zero_le 0))) (by decide)) fun H3 x3 h3 => ?_
  walk_at "ws"
  refine ⟨(by show 0 ≤ sizeLine; decide), fun sp H4 hsp x4 g4 => ?_⟩
  walk_at "ws"
  refine putq_i (x4 _ _ h3) S.cl S.n_spent (Nat.lt_of_le_of_lt (len_put (len_put (len_put (Nat.zero_le 0)))) (by decide)) fun H5 x5 h5 => ?_
  walk_at "ws"
  refine ⟨(by show 0 ≤ sizeLine; decide), fun sm H6 hsm x6 g6 => ?_⟩
  walk_at "ws"
  refine putq_i (x6 _ _ h5) S.cl S.n_sums (Nat.lt_of_le_of_lt (len_put (len_put (len_put (len_put (Nat.zero_le 0))))) (by decide)) fun H7 x7 h7 => ?_
  walk_at "ws"
  refine ⟨(by show 0 ≤ sizeLine; decide), fun pa H8 hpa x8 g8 => ?_⟩
  walk_at "ws"
  refine putq_i (x8 _ _ h7) S.cl S.n_past (Nat.lt_of_le_of_lt (len_put (len_put (len_put (len_put (len_put (Nat.zero_le 0)))))) (by decide)) fun H9 x9 h9 => ?_
  walk_at "ws"
  have n1 : sp ≠ p := ne_fresh hsp h3
  have n2 : sm ≠ p := ne_fresh hsm h5
  have n3 : pa ≠ p := ne_fresh hpa h7
  have x03 : Exb p H H3 := fun c o hc z => x3 c o hc (x2 c o hc (x1 c o hc (z0 c o z)))
  have x07 : Exb p H H7 := fun c o hc z => x7 c o hc (x6 c o (x5 c o hc (x4 c o (x03 c o hc z))))
  have x09 : Exb p H H9 := fun c o hc z => x9 c o hc (x8 c o (x07 c o hc z))
  have hpa0 : H pa = none := by
    cases z : H pa with
    | none => rfl
    | some o => rw [x07 pa o n3 z] at hpa; cases hpa
  refine q pa H9 x09 hpa0 ⟨dx, tc, sp, sm, [], h9, x09 _ _ nt ht, ⟨⟨[], ?_, .nil⟩, ?_⟩, ?_, .nil⟩
  · exact x9 _ _ n1 (x8 _ _ (x7 _ _ n1 (x6 _ _ (x5 _ _ n1 g4))))
  · exact x9 _ _ n2 (x8 _ _ (x7 _ _ n2 g6))
  · exact x9 _ _ n3 g8
end
/-! ### deeds -/
def spHasR (C CS : Addr) : Sp := fun vs H Q _ => ∃ a pa ts b e st past, ∃ d : Int, vs = [.ref a, .int d] ∧ JAt C CS H a pa ts b e st past ∧ Q (.bl (wholeB d 0 ((ts.length : Int) - 1))) H
def spRoom : Sp := fun vs H Q _ => ∃ m k : Int, vs = [.int m, .int k] ∧ m ≤ k ∧ Q .non H
def spBecome (C CS : Addr) : Sp := fun vs H Q _ => ∃ a pa ts b e st past sp sm st', vs = [.ref a, .ref sp, .ref sm] ∧ JAt C CS H a pa ts b e st past ∧ StAt CS H sp sm st' ∧ past.length < 1000 ∧ CS ≠ C ∧
  ∀ H', Kx (two a pa) H H' → JAt C CS H' a pa ts b e st' (past ++ [st]) → Q .non H'
def spSpendR (C CS : Addr) : Sp := fun vs H Q _ => ∃ a pa ts b e st past q r, vs = [.ref a, .ref q] ∧ JAt C CS H a pa ts b e st past ∧ Made CS H q r ∧ r.Ok ∧ r.day < ts.length ∧ st.1.length < 40 ∧ past.length < 1000 ∧ CS ≠ C ∧
  ∀ H', Kx (two a pa) H H' → JAt C CS H' a pa ts b e (st.1 ++ [r], st.2) (past ++ [st]) → Q .non H'
def spHadR (C CS : Addr) : Sp := fun vs H Q _ => ∃ a pa ts b e st past, ∃ n : Int, vs = [.ref a, .int n] ∧ JAt C CS H a pa ts b e st past ∧ 1 ≤ n ∧ n ≤ 1000000000 ∧ st.2.length < 10 ∧ past.length < 1000 ∧ CS ≠ C ∧
  ∀ H', Kx (two a pa) H H' → JAt C CS H' a pa ts b e (st.1, st.2 ++ [n]) (past ++ [st]) → Q .non H'
def spUndoR (C CS : Addr) : Sp := fun vs H Q _ => ∃ a pa ts b e st past st0, vs = [.ref a] ∧ JAt C CS H a pa ts b e st (past ++ [st0]) ∧ past.length < 1000 ∧ CS ≠ C ∧
  ∀ H', Kx (two a pa) H H' → JAt C CS H' a pa ts b e st0 past → Q .non H'
theorem paired_snoc {α β : Type} {R : α → β → Prop} {x : α} {y : β} (r : R x y) : ∀ {l : List α} {m : List β}, Paired R l m → Paired R (l ++ [x]) (m ++ [y])
  | _, _, .nil => .cons r .nil
  | _, _, .cons a t => .cons a (paired_snoc r t)
theorem paired_last {α β : Type} {R : α → β → Prop} {y : β} : ∀ {m : List β} {l : List α}, Paired R l (m ++ [y]) → ∃ l0 x, l = l0 ++ [x] ∧ Paired R l0 m ∧ R x y
  | [], _, .cons r .nil => ⟨[], _, rfl, .nil, r⟩
  | _ :: m, _, .cons r t => let ⟨l0, x, e, p, r2⟩ := paired_last t; ⟨_ :: l0, x, by rw [e]; rfl, .cons r p, r2⟩
theorem two_sep {C CS a pa : Addr} {H : Hp} {ts : List Int} {b e : Int} {st : JSt} {past : List JSt} (g : JAt C CS H a pa ts b e st past) : ∀ c, two a pa c → (∃ dx fs, H c = some (.ins C dx fs)) ∨ ∃ xs, H c = some (.lst xs) := by
  obtain ⟨dx, tw, sp, sm, pps, ha, h1, h2, h3, h4⟩ := g
  intro c hc
  rcases hc with rfl | rfl
  · exact .inl ⟨_, _, ha⟩
  · exact .inr ⟨_, h3⟩
section
variable {C CS : Addr} {H H' : Hp} {S : Addr → Prop}
/-- what is no journey and no list stays -/
theorem tupK {p : Addr} {xs : List V} (hS : ∀ c, S c → (∃ dx fs, H c = some (.ins C dx fs)) ∨ ∃ xs, H c = some (.lst xs)) (x : Kx S H H') (h : H p = some (.tup xs)) : H' p = some (.tup xs) := x _ _ (fun z => by
  rcases hS p z with ⟨dx, fs, w⟩ | ⟨ys, w⟩
  · rw [w] at h; cases h
  · rw [w] at h; cases h) h
theorem madeK {q : Addr} {r : Row} (hS : ∀ c, S c → (∃ dx fs, H c = some (.ins C dx fs)) ∨ ∃ xs, H c = some (.lst xs)) (nc : CS ≠ C) (x : Kx S H H') (h : Made CS H q r) : Made CS H' q r := h.kx x fun c hc dx fs z => by
  rcases hS c hc with ⟨dx', fs', w⟩ | ⟨ys, w⟩
  · rw [w] at z; injection z with z; injection z with z1; exact nc z1.symm
  · rw [w] at z; cases z
theorem stK {sp sm : Addr} {st : JSt} (hS : ∀ c, S c → (∃ dx fs, H c = some (.ins C dx fs)) ∨ ∃ xs, H c = some (.lst xs)) (nc : CS ≠ C) (x : Kx S H H') (h : StAt CS H sp sm st) : StAt CS H' sp sm st := by
  obtain ⟨⟨qs, h1, h2⟩, h3⟩ := h
  exact ⟨⟨qs, tupK hS x h1, pair_kx (fun q r m => madeK hS nc x m) h2⟩, tupK hS x h3⟩
theorem pastK {pp : Addr} {st : JSt} (hS : ∀ c, S c → (∃ dx fs, H c = some (.ins C dx fs)) ∨ ∃ xs, H c = some (.lst xs)) (nc : CS ≠ C) (x : Kx S H H') (h : PastAt CS H pp st) : PastAt CS H' pp st := by
  obtain ⟨sp, sm, h1, h2⟩ := h
  exact ⟨sp, sm, tupK hS x h1, stK hS nc x h2⟩
end
section
variable {P : Program} {w : World} {K : PySem.W.Frag} {mg : Str → Option Value} {base : Heap} {f C0 CS : Addr} {fd : FuncData}
theorem p_hasR (F : Fn K "has_day" "Journey.has_day" s_Journey_has_day f fd) (T : Txt K mg) (S : Sj K C0) (DW : Df P w K mg base 1 "is_whole" ["thing", "least", "most"] [] spWhole) : FnOk P w K mg base (L2N.CX P w) 2 f fd ["self", "day"] (spHasR C0 CS) := by
  refine fn_wX F sc_Journey_has_day ok_Journey_has_day (fun vs H Q E h => by obtain ⟨a, pa, ts, b, e, st, past, d, rfl, _⟩ := h; rfl) (fun X vs H Q E C TK h => ?_)
  obtain ⟨a, pa, ts, b, e, st, past, d, rfl, ⟨dx, tw, sp, sm, pps, ha, htw, _⟩, q⟩ := h
  show wB X _ _ [some (.ref a), some (.int d)] H
  refine wB_one ?_
  walk_at "ws"
  refine wE_call C DW (by walk_at "mem") (by decide) (by rfl) (by rfl) ?_
  walk_at "ws"
  refine wE_callB C T.len (by walk_at "mem") boot_len (by rfl) (by rfl) ?_
  walk_at "ws"
  refine fldq_i ha S.cl S.n_towns jl_towns ?_
  walk_at "ws"
  refine c_lenT C (SqT.of htw) ?_
  walk_at "ws"
  refine ⟨d, 0, _, rfl, ?_⟩
  rw [List.length_map]
  exact q
theorem p_room (F : Fn K "check_room" "check_room" s_check_room f fd) : FnOk P w K mg base CX0 1 f fd ["many", "most"] spRoom := by
  refine fn_w F sc_check_room ok_check_room (fun vs H Q E h => by obtain ⟨m, k, rfl, h, q⟩ := h; rfl) (fun X vs H Q E C h => ?_)
  obtain ⟨m, k, rfl, h, q⟩ := h
  show wB X _ _ [some (.int m), some (.int k)] H
  first | refine wB_one ?_ | refine wB_cons' fun _ _ => ?_
  walk_at "ws"
  refine wS_if ?_
  walk_at "ws"
  refine iteDF (by omega) ?_
  walk_at "ws"
  exact q
theorem p_become (F : Fn K "become" "Journey.become" s_Journey_become f fd) (S : Sj K C0) : FnOk P w K mg base (L2N.CX P w) 1 f fd ["self", "spent", "sums"] (spBecome C0 CS) := by
  refine fn_wX F sc_Journey_become ok_Journey_become (fun vs H Q E h => by obtain ⟨a, pa, ts, b, e, st, past, sp, sm, st', rfl, _⟩ := h; rfl) (fun X vs H Q E C TK h => ?_)
  obtain ⟨a, pa, ts, b, e, st, past, sp', sm', st', rfl, j, s', hl, nc, q⟩ := h
  have hS := two_sep j
  obtain ⟨dx, tw, sp, sm, pps, ha, htw, hst, hpa, hpp⟩ := j
  show wB X _ _ [some (.ref a), some (.ref sp'), some (.ref sm')] H
  refine wB_cons' fun _ _ => ?_
  walk_at "ws"
  refine wE_append (by rfl) (by rfl) (by rfl) (by rfl) (by rfl) ?_
  walk_at "ws"
  refine fldq_i ha S.cl S.n_past jl_past ?_
  refine ⟨pa, _, rfl, hpa, ?_⟩
  walk_at "ws"
  refine fldq_i ha S.cl S.n_spent jl_spent ?_
  walk_at "ws"
  refine fldq_i ha S.cl S.n_sums jl_sums ?_
  walk_at "ws"
  refine ⟨(by show 2 ≤ sizeLine; decide), fun pp H1 hpp1 x1 g1 => ?_⟩
  refine ⟨x1 _ _ hpa, by rw [List.length_map, Paired.length hpp, sizeLine_eq]; omega, fun H2 m2 g2 => ?_⟩
  walk_at "ws"
  have nap : a ≠ pa := fun z => by rw [z, hpa] at ha; cases ha
  have np1 : pp ≠ a := ne_fresh hpp1 ha
  have np2 : pp ≠ pa := ne_fresh hpp1 hpa
  refine putq_i (m2 _ _ nap (x1 _ _ ha)) S.cl S.n_spent jfs_len fun H3 x3 g3 => ?_
  rw [jp_spent] at g3
  walk_at "ws"
  refine putq_i g3 S.cl S.n_sums jfs_len fun H4 x4 g4 => ?_
  rw [jp_sums] at g4
  walk_at "ws"
  have kx : Kx (two a pa) H H4 := (Kx.of x1).trans ((Kx.ofB m2 (.inr rfl)).trans ((Kx.ofB x3 (.inl rfl)).trans (Kx.ofB x4 (.inl rfl))))
  refine q H4 kx ⟨dx, tw, sp', sm', pps ++ [pp], g4, tupK hS kx htw, stK hS nc kx s', ?_, paired_snoc ⟨sp, sm, x4 _ _ np1 (x3 _ _ np1 (m2 _ _ np2 g1)), stK hS nc kx hst⟩ (pair_kx (fun p r m => pastK hS nc kx m) hpp)⟩
  rw [List.map_append]
  exact x4 _ _ nap.symm (x3 _ _ nap.symm g2)
theorem p_spendR (F : Fn K "spend" "Journey.spend" s_Journey_spend f fd) (T : Txt K mg) (T3 : Tx3 mg) (S : Sj K C0) (SS : Sc K CS) (MH : Me P w K mg base 2 C0 "has_day" [] (spHasR C0 CS)) (DR : Df P w K mg base 1 "check_room" ["many", "most"] [] spRoom) (MB : Me P w K mg base 1 C0 "become" [] (spBecome C0 CS)) : FnOk P w K mg base (L2N.CX P w) 3 f fd ["self", "spending"] (spSpendR C0 CS) := by
  refine fn_wX F sc_Journey_spend ok_Journey_spend (fun vs H Q E h => by obtain ⟨a, pa, ts, b, e, st, past, q, r, rfl, _⟩ := h; rfl) (fun X vs H Q E C TK h => ?_)
  obtain ⟨a, pa, ts, b, e, st, past, sq, r, rfl, j, mq, rok, rday, l40, lp, nc, q⟩ := h
  obtain ⟨dx, tw, sp, sm, pps, ha, htw, hst, hpa, hpp⟩ := id j
  obtain ⟨dxq, hq⟩ := id mq
  obtain ⟨⟨qs, hsp, hqs⟩, hsm⟩ := id hst
  show wB X _ _ [some (.ref a), some (.ref sq)] H
  refine wB_cons' fun _ _ => ?_
  refine wS_if ?_
  walk_at "ws"
  refine wE_methQ C S.cl MH (by decide) (by rfl) (by rfl) (by rfl) ?_
  walk_at "ws"
  refine ⟨a, dx, _, rfl, ha, jl_no (by decide +kernel) (by decide +kernel) (by decide +kernel) (by decide +kernel) (by decide +kernel) (by decide +kernel), ?_⟩
  walk_at "ws"
  refine fldq_i hq SS.cl SS.nd r.l_day ?_
  walk_at "ws"
  refine ⟨a, pa, ts, b, e, st, past, r.day, rfl, j, ?_⟩
  rw [wb_t rok.d1 (by omega)]
  walk_at "ws"
  refine wE_call C DR (by walk_at "mem") (by decide) (by rfl) (by rfl) ?_
  walk_at "ws"
  refine wE_callB C T.len (by walk_at "mem") boot_len (by rfl) (by rfl) ?_
  walk_at "ws"
  refine fldq_i ha S.cl S.n_spent jl_spent ?_
  walk_at "ws"
  refine c_lenT C (SqT.of hsp) ?_
  walk_at "ws"
  refine wE_glob (v := .int 40) C (by walk_at "mem") T3.lines.choose_spec ⟨_, rfl⟩ ?_
  walk_at "ws"
  refine ⟨_, _, rfl, by rw [List.length_map, Paired.length hqs]; omega, ?_⟩
  walk_at "ws"
  refine wE_methQ C S.cl MB (by decide) (by rfl) (by rfl) (by rfl) ?_
  walk_at "ws"
  refine ⟨a, dx, _, rfl, ha, jl_no (by decide +kernel) (by decide +kernel) (by decide +kernel) (by decide +kernel) (by decide +kernel) (by decide +kernel), ?_⟩
  walk_at "ws"
  refine fldq_i ha S.cl S.n_spent jl_spent ?_
  walk_at "ws"
  refine ⟨(by show 1 ≤ sizeLine; decide), fun t1 H1 ht1 x1 g1 => ?_⟩
  walk_at "ws"
  refine o_catTA C (x1 _ _ hsp) g1 (by rw [List.length_map, Paired.length hqs, sizeLine_eq]; show st.1.length + 1 ≤ _; omega) fun p2 H2 x2 g2 => ?_
  walk_at "ws"
  have x02 := x1.trans x2
  refine fldq_i (x02 _ _ ha) S.cl S.n_sums jl_sums ?_
  walk_at "ws"
  refine ⟨a, pa, ts, b, e, st, past, p2, sm, (st.1 ++ [r], st.2), rfl, j.ex x02, ⟨⟨qs ++ [sq], ?_, ?_⟩, x02 _ _ hsm⟩, lp, nc, fun H3 x3 j3 => ?_⟩
  · rw [g2, List.map_append]
    rfl
  · exact paired_snoc (mq.ex x02) (pair_kx (fun q r m => m.ex x02) hqs)
  walk_at "ws"
  exact q H3 ((Kx.of x02).trans x3) j3
theorem p_hadR (F : Fn K "had" "Journey.had" s_Journey_had f fd) (T : Txt K mg) (T3 : Tx3 mg) (S : Sj K C0) (DW : Df P w K mg base 1 "is_whole" ["thing", "least", "most"] [] spWhole) (DR : Df P w K mg base 1 "check_room" ["many", "most"] [] spRoom) (MB : Me P w K mg base 1 C0 "become" [] (spBecome C0 CS)) : FnOk P w K mg base (L2N.CX P w) 3 f fd ["self", "amount"] (spHadR C0 CS) := by
  refine fn_wX F sc_Journey_had ok_Journey_had (fun vs H Q E h => by obtain ⟨a, pa, ts, b, e, st, past, n, rfl, _⟩ := h; rfl) (fun X vs H Q E C TK h => ?_)
  obtain ⟨a, pa, ts, b, e, st, past, n, rfl, j, n1, n2, l10, lp, nc, q⟩ := h
  obtain ⟨dx, tw, sp, sm, pps, ha, htw, hst, hpa, hpp⟩ := id j
  obtain ⟨⟨qs, hsp, hqs⟩, hsm⟩ := id hst
  show wB X _ _ [some (.ref a), some (.int n)] H
  refine wB_cons' fun _ _ => ?_
  refine wS_if ?_
  walk_at "ws"
  refine wE_call C DW (by walk_at "mem") (by decide) (by rfl) (by rfl) ?_
  walk_at "ws"
  refine wE_glob (v := .int 1000000000) C (by walk_at "mem") T3.sum.choose_spec ⟨_, rfl⟩ ?_
  walk_at "ws"
  refine ⟨n, 1, 1000000000, rfl, ?_⟩
  rw [wb_t n1 n2]
  walk_at "ws"
  refine wE_call C DR (by walk_at "mem") (by decide) (by rfl) (by rfl) ?_
  walk_at "ws"
  refine wE_callB C T.len (by walk_at "mem") boot_len (by rfl) (by rfl) ?_
  walk_at "ws"
  refine fldq_i ha S.cl S.n_sums jl_sums ?_
  walk_at "ws"
  refine c_lenT C (SqT.of hsm) ?_
  walk_at "ws"
  refine wE_glob (v := .int 10) C (by walk_at "mem") T3.sums.choose_spec ⟨_, rfl⟩ ?_
  walk_at "ws"
  refine ⟨_, _, rfl, by rw [List.length_map]; omega, ?_⟩
  walk_at "ws"
  refine wE_methQ C S.cl MB (by decide) (by rfl) (by rfl) (by rfl) ?_
  walk_at "ws"
  refine ⟨a, dx, _, rfl, ha, jl_no (by decide +kernel) (by decide +kernel) (by decide +kernel) (by decide +kernel) (by decide +kernel) (by decide +kernel), ?_⟩
  walk_at "ws"
  refine fldq_i ha S.cl S.n_spent jl_spent ?_
  walk_at "ws"
  refine fldq_i ha S.cl S.n_sums jl_sums ?_
  walk_at "ws"
  refine ⟨(by show 1 ≤ sizeLine; decide), fun t1 H1 ht1 x1 g1 => ?_⟩
  walk_at "ws"
  refine o_catTA C (x1 _ _ hsm) g1 (by rw [List.length_map, sizeLine_eq]; show st.2.length + 1 ≤ _; omega) fun p2 H2 x2 g2 => ?_
  walk_at "ws"
  have x02 := x1.trans x2
  refine ⟨a, pa, ts, b, e, st, past, sp, p2, (st.1, st.2 ++ [n]), rfl, j.ex x02, ⟨⟨qs, x02 _ _ hsp, pair_kx (fun q r m => m.ex x02) hqs⟩, ?_⟩, lp, nc, fun H3 x3 j3 => ?_⟩
  · rw [g2, List.map_append]
    rfl
  walk_at "ws"
  exact q H3 ((Kx.of x02).trans x3) j3
theorem p_undoR (F : Fn K "undo" "Journey.undo" s_Journey_undo f fd) (T : Txt K mg) (S : Sj K C0) : FnOk P w K mg base (L2N.CX P w) 1 f fd ["self"] (spUndoR C0 CS) := by
  refine fn_wX F sc_Journey_undo ok_Journey_undo (fun vs H Q E h => by obtain ⟨a, pa, ts, b, e, st, past, st0, rfl, _⟩ := h; rfl) (fun X vs H Q E C TK h => ?_)
  obtain ⟨a, pa, ts, b, e, st, past, st0, rfl, j, lp, nc, q⟩ := h
  have hS := two_sep j
  obtain ⟨dx, tw, sp, sm, pps, ha, htw, hst, hpa, hpp⟩ := j
  show wB X _ _ [some (.ref a)] H
  refine wB_cons' fun _ _ => ?_
  refine wS_if ?_
  walk_at "ws"
  refine wE_callB C T.len (by walk_at "mem") boot_len (by rfl) (by rfl) ?_
  walk_at "ws"
  refine fldq_i ha S.cl S.n_past jl_past ?_
  walk_at "ws"
  refine c_lenL C (SqL.of hpa) ?_
  walk_at "ws"
  obtain ⟨pps0, pp, rfl, pr0, pr1⟩ := paired_last hpp
  refine iteDF (by rw [List.length_map, List.length_append, List.length_singleton]; omega) ?_
  walk_at "ws"
  have nap : a ≠ pa := fun z => by rw [z, hpa] at ha; cases ha
  obtain ⟨sp0, sm0, hp0, hst0⟩ := pr1
  refine wE_pop (by rfl) (by rfl) ?_
  walk_at "ws"
  refine fldq_i ha S.cl S.n_past jl_past ?_
  refine ⟨pa, _, .ref pp, rfl, hpa, by simp, fun H1 m1 g1 => ?_⟩
  have h1 := m1 _ _ nap ha
  have np : pp ≠ pa := fun z => by rw [z, hpa] at hp0; cases hp0
  refine wG_tup C (SqT.of (m1 _ _ np hp0)) (by rfl) (by rfl) ?_
  walk_at "ws"
  refine wG_fld C ?_
  walk_at "ws"
  refine putq_i h1 S.cl S.n_spent jfs_len fun H2 m2 g2 => ?_
  rw [jp_spent] at g2
  walk_at "ws"
  refine wG_fld C ?_
  walk_at "ws"
  refine putq_i g2 S.cl S.n_sums jfs_len fun H3 m3 g3 => ?_
  rw [jp_sums] at g3
  walk_at "ws"
  have kx : Kx (two a pa) H H3 := (Kx.ofB m1 (.inr rfl)).trans ((Kx.ofB m2 (.inl rfl)).trans (Kx.ofB m3 (.inl rfl)))
  refine q H3 kx ⟨dx, tw, sp0, sm0, pps0, g3, tupK hS kx htw, stK hS nc kx hst0, ?_, pair_kx (fun p r m => pastK hS nc kx m) pr0⟩
  rw [List.map_append, List.map_cons, List.map_nil, List.dropLast_concat] at g1
  exact m3 _ _ nap.symm (m2 _ _ nap.symm g1)
/-- another journey with what stands -/
def spTwinR (C CS : Addr) : Sp := fun vs H Q _ => ∃ a pa ts b e st past, vs = [.ref a] ∧ JAt C CS H a pa ts b e st past ∧ TwOk ts ∧ 0 ≤ b ∧ b ≤ 10 ∧ 0 ≤ e ∧ e ≤ 10 ∧ past.length < 1000 ∧ CS ≠ C ∧
  ∀ a' pa' H', H a' = none → H pa' = none → Ex H H' → JAt C CS H' a' pa' ts b e st past → Q (.ref a') H'
theorem p_twinR (F : Fn K "twin" "Journey.twin" s_Journey_twin f fd) (S : Sj K C0) (tl : mg "list" = none) (MJ : Mx P w K mg base 5 "Journey" C0 [] (spInitR C0 CS)) : FnOk P w K mg base (L2N.CX P w) 7 f fd ["self"] (spTwinR C0 CS) := by
  refine fn_wX F sc_Journey_twin ok_Journey_twin (fun vs H Q E h => by obtain ⟨a, pa, ts, b, e, st, past, rfl, _⟩ := h; rfl) (fun X vs H Q E C TK h => ?_)
  obtain ⟨a, pa, ts, b, e, st, past, rfl, j, tok, b0, b1, e0, e1, lp, nc, q⟩ := h
  obtain ⟨dx, tw, sp, sm, pps, ha, htw, hst, hpa, hpp⟩ := id j
  show wB X _ _ [some (.ref a), none] H
  refine wB_cons' fun _ _ => ?_
  walk_at "ws"
  refine wE_makeQ C MJ (by walk_at "mem") (by decide) (by rfl) (by rfl) ?_
  walk_at "ws"
  refine fldq_i ha S.cl S.n_towns jl_towns ?_
  walk_at "ws"
  refine fldq_i ha S.cl S.n_begun jl_begun ?_
  walk_at "ws"
  refine fldq_i ha S.cl S.n_ended jl_ended ?_
  walk_at "ws"
  intro y dy hy hdy hne
  have ex0 : Ex H (upd (upd H dy (.own y)) y (.ins C0 dy [])) := Ex.new2 hdy hy hne
  refine ⟨y, dy, tw, ts, b, e, rfl, upd_same, ex0 _ _ htw, tok, b0, b1, e0, e1, fun py H1 x1 hpy j1 => ⟨rfl, ?_⟩⟩
  have e01 : Ex H H1 := ex0.mut hy x1
  have hpy0 : H py = none := ex0.free hpy
  obtain ⟨dx1, tw1, sp1, sm1, pps1, h1, ht1, _, hp1, _⟩ := j1
  walk_at "ws"
  refine fldq_i (e01 _ _ ha) S.cl S.n_spent jl_spent ?_
  walk_at "ws"
  refine putq_i h1 S.cl S.n_spent jfs_len fun H2 m2 g2 => ?_
  rw [jp_spent] at g2
  have e02 : Ex H H2 := e01.mut hy m2
  walk_at "ws"
  refine fldq_i (e02 _ _ ha) S.cl S.n_sums jl_sums ?_
  walk_at "ws"
  refine putq_i g2 S.cl S.n_sums jfs_len fun H3 m3 g3 => ?_
  rw [jp_sums] at g3
  have e03 : Ex H H3 := e02.mut hy m3
  walk_at "ws"
  refine wE_callT C tl (by walk_at "mem") boot_list (by rfl) (by rfl) ?_
  walk_at "ws"
  refine fldq_i (e03 _ _ ha) S.cl S.n_past jl_past ?_
  walk_at "ws"
  refine c_listL C (SqL.of (e03 _ _ hpa)) fun p4 H4 hp4 x4 g4 => ?_
  walk_at "ws"
  refine putq_i (x4 _ _ g3) S.cl S.n_past jfs_len fun H5 m5 g5 => ?_
  rw [jp_past] at g5
  have e05 : Ex H H5 := (e03.trans x4).mut hy m5
  walk_at "ws"
  have n4 : p4 ≠ y := ne_fresh hp4 g3
  have nt : tw1 ≠ y := fun z => by rw [z, h1] at ht1; cases ht1
  exact q y p4 H5 hy (e03.free hp4) e05 ⟨dx1, tw1, sp, sm, pps, g5, m5 _ _ nt (x4 _ _ (m3 _ _ nt (m2 _ _ nt ht1))), hst.ex e05, m5 _ _ n4 g4, pair_kx (fun p r m => m.ex e05) hpp⟩
end
/-! ### the order of the lines -/
def rankD (r : Row) : PyData := .tuple [.int r.day, .str r.kind, .int r.bill, .int r.coin, .int r.heads, .bool (!r.slip)]
def rankV (r : Row) : List V := [.int r.day, .str r.kind, .int r.bill, .int r.coin, .int r.heads, .bl (!r.slip)]
abbrev rowLe : Row → Row → Bool := PySem.W.dataLe false rankD
def sortR (rs : List Row) : List Row := rs.mergeSort rowLe
theorem rank_alike (bs : List Row) : PySem.W.AllAlike (bs.map rankD) := PySem.W.AllAlike.of fun _ _ => by simp [rankD, PySem.W.alike, PySem.W.alikeAll]
theorem rank_sortable (bs : List Row) : PySem.W.Sortable (bs.map rankD) := PySem.W.Sortable.tuples fun _ => ⟨_, _, rfl⟩
theorem rank_depth (r : Row) : (rankD r).depth ≤ 8 := by simp [rankD, PyData.depth, PyData.depthAll]
theorem strL_inj {a b : Str} (h : a.cps.toList = b.cps.toList) : a = b := by
  cases a
  cases b
  simpa using h
theorem rank_inj {r s : Row} (h : PySem.W.keyToks (rankD r) = PySem.W.keyToks (rankD s)) : r = s := by
  unfold rankD at h
  simp only [PySem.W.keyToks, PySem.W.keyToksAll, List.cons_append, List.nil_append, List.cons.injEq, Sum.inl.injEq, Sum.inr.injEq, true_and, and_true] at h
  obtain ⟨h1, h2, h3, h4, h5, h6⟩ := h
  cases r
  cases s
  rename_i a1 a2 a3 a4 a5 a6 b1 b2 b3 b4 b5 b6
  simp only at h1 h2 h3 h4 h5 h6
  have e4 : a4 = b4 := by cases a4 <;> cases b4 <;> simp_all
  rw [h1, strL_inj h2, h3, h4, h5, e4]
theorem row_total : PySem.W.TotalLe rowLe := PySem.W.sortLe_total _ _ _
theorem row_anti {r s : Row} (h1 : rowLe r s = true) (h2 : rowLe s r = true) : r = s := by
  have e1 : PyProof.Rows.lexLt itemOrd (PySem.W.keyToks (rankD s)) (PySem.W.keyToks (rankD r)) = false := by
    have z : (!PyProof.Rows.lexLt itemOrd (PySem.W.keyToks (rankD s)) (PySem.W.keyToks (rankD r))) = true := h1
    cases q : PyProof.Rows.lexLt itemOrd (PySem.W.keyToks (rankD s)) (PySem.W.keyToks (rankD r)) with
    | false => rfl
    | true => rw [q] at z; cases z
  have e2 : PyProof.Rows.lexLt itemOrd (PySem.W.keyToks (rankD r)) (PySem.W.keyToks (rankD s)) = false := by
    have z : (!PyProof.Rows.lexLt itemOrd (PySem.W.keyToks (rankD r)) (PySem.W.keyToks (rankD s))) = true := h2
    cases q : PyProof.Rows.lexLt itemOrd (PySem.W.keyToks (rankD r)) (PySem.W.keyToks (rankD s)) with
    | false => rfl
    | true => rw [q] at z; cases z
  exact rank_inj (PyProof.Rows.lex_total _ _ e2 e1)
theorem sortR_perm (rs : List Row) : (sortR rs).Perm rs := List.mergeSort_perm _ _
theorem sortR_pair (rs : List Row) : (sortR rs).Pairwise (fun a b => rowLe a b = true) := List.pairwise_mergeSort row_total.trans (fun a b => by
  rcases row_total.total a b with h | h
  · rw [h]; rfl
  · rw [h, Bool.or_true]) rs
theorem sortR_eq {rs ss : List Row} (h : rs.Perm ss) : sortR rs = sortR ss :=
  List.Perm.eq_of_pairwise (fun a b _ _ h1 h2 => row_anti h1 h2) (sortR_pair rs) (sortR_pair ss) ((sortR_perm rs).trans (h.trans (sortR_perm ss).symm))
theorem sortR_iff {rs ss : List Row} : sortR rs = sortR ss ↔ rs.Perm ss := ⟨fun h => (sortR_perm rs).symm.trans (h ▸ sortR_perm ss), sortR_eq⟩
theorem sortR_of {rs ss : List Row} (h : ss.Perm rs) (p : ss.Pairwise (fun a b => rowLe a b = true)) : ss = sortR rs :=
  List.Perm.eq_of_pairwise (fun a b _ _ h1 h2 => row_anti h1 h2) p (sortR_pair rs) (h.trans (sortR_perm rs).symm)
theorem sortR_len (rs : List Row) : (sortR rs).length = rs.length := (sortR_perm rs).length_eq
def sortI (ns : List Int) : List Int := ns.mergeSort fun a b => decide (a ≤ b)
theorem sortI_perm (ns : List Int) : (sortI ns).Perm ns := List.mergeSort_perm _ _
theorem sortI_pair (ns : List Int) : (sortI ns).Pairwise (· ≤ ·) := (List.pairwise_mergeSort (fun a b c h1 h2 => by simp only [decide_eq_true_eq] at *; omega) (fun a b => by simp only [Bool.or_eq_true, decide_eq_true_eq]; omega) ns).imp fun h => of_decide_eq_true h
theorem sortI_of {ns ms : List Int} (h : ms.Perm ns) (p : ms.Pairwise (· ≤ ·)) : ms = sortI ns :=
  List.Perm.eq_of_pairwise (fun a b _ _ h1 h2 => Int.le_antisymm h1 h2) p (sortI_pair ns) (h.trans (sortI_perm ns).symm)
theorem sortI_iff {ns ms : List Int} : sortI ns = sortI ms ↔ ns.Perm ms := ⟨fun h => (sortI_perm ns).symm.trans (h ▸ sortI_perm ms), fun h => sortI_of ((sortI_perm ns).trans h) (sortI_pair ns)⟩
/-! ### what a journey tells: its lines, its twins, whether it is another one -/
theorem paired_ref {R : Addr → Row → Prop} : ∀ {qs : List Addr} {rs : List Row}, Paired R qs rs → Paired (fun v r => ∃ q, v = V.ref q ∧ R q r) (qs.map V.ref) rs
  | _, _, .nil => .nil
  | _, _, .cons r t => .cons ⟨_, rfl, r⟩ (paired_ref t)
theorem ref_paired {R : Addr → Row → Prop} : ∀ {ys : List V} {rs : List Row}, Paired (fun v r => ∃ q, v = V.ref q ∧ R q r) ys rs → ∃ qs : List Addr, ys = qs.map V.ref ∧ Paired R qs rs
  | _, _, .nil => ⟨[], rfl, .nil⟩
  | _, _, .cons ⟨q, e, r⟩ t => let ⟨qs, e2, p⟩ := ref_paired t; ⟨q :: qs, by rw [e, e2]; rfl, .cons r p⟩
def spRank (CS : Addr) : Sp := fun vs H Q _ => ∃ q r, vs = [.ref q] ∧ Made CS H q r ∧ ∀ p H', Ex H H' → H' p = some (.tup (rankV r)) → Q (.ref p) H'
def spLinesR (C CS : Addr) : Sp := fun vs H Q _ => ∃ a pa ts b e st past, vs = [.ref a] ∧ JAt C CS H a pa ts b e st past ∧ ∀ p qs H', H p = none → Ex H H' → H' p = some (.lst (qs.map V.ref)) → Paired (Made CS H') qs (sortR st.1) → Q (.ref p) H'
section
variable {P : Program} {w : World} {K : PySem.W.Frag} {mg : Str → Option Value} {base : Heap} {f fr C0 CS : Addr} {fd : FuncData}
theorem p_rank (F : Fn K "rank_of" "rank_of" s_rank_of f fd) (SS : Sc K CS) : FnOk P w K mg base CX0 1 f fd ["line"] (spRank CS) := by
  refine fn_w F sc_rank_of ok_rank_of (fun vs H Q E h => by obtain ⟨q, r, rfl, ⟨dx, hq⟩, k⟩ := h; rfl) (fun X vs H Q E C h => ?_)
  obtain ⟨q, r, rfl, ⟨dx, hq⟩, k⟩ := h
  show wB X _ _ [some (.ref q)] H
  first | refine wB_one ?_ | refine wB_cons' fun _ _ => ?_
  walk_at "ws"
  refine fldq_i hq SS.cl SS.nd r.l_day ?_
  walk_at "ws"
  refine fldq_i hq SS.cl SS.nk r.l_kind ?_
  walk_at "ws"
  refine fldq_i hq SS.cl SS.na r.l_amount ?_
  walk_at "ws"
  refine fldq_i hq SS.cl SS.nm r.l_money ?_
  walk_at "ws"
  refine fldq_i hq SS.cl SS.nh r.l_heads ?_
  walk_at "ws"
  refine fldq_i hq SS.cl SS.np r.l_paper ?_
  walk_at "ws"
  exact ⟨(by show 6 ≤ sizeLine; decide), fun p H1 hp x1 g1 => k p H1 x1 g1⟩
theorem p_linesR (F : Fn K "lines" "Journey.lines" s_Journey_lines f fd) (S : Sj K C0) (ts : mg "sorted" = none) {frd : FuncData} (Fr : FnOk P w K mg base CX0 1 fr frd ["line"] (spRank CS)) (br : Binds K frd ["line"] []) (hr : mg "rank_of" = some (.ref fr)) : FnOk P w K mg base (L2N.CX P w) 4 f fd ["self"] (spLinesR C0 CS) := by
  refine fn_wX F sc_Journey_lines ok_Journey_lines (fun vs H Q E h => by obtain ⟨a, pa, ts, b, e, st, past, rfl, _⟩ := h; rfl) (fun X vs H Q E C TK h => ?_)
  obtain ⟨a, pa, ts', b, e, st, past, rfl, ⟨dx, tw, sp, sm, pps, ha, htw, ⟨⟨qs, hsp, hqs⟩, hsm⟩, hpa, hpp⟩, q⟩ := h
  show wB X _ _ [some (.ref a)] H
  refine wB_one ?_
  walk_at "ws"
  refine wE_sortK (kk := rankD) C (j := 1) (by decide) rank_alike rank_sortable rank_depth ts (by walk_at "mem") (by rfl) (by rfl) (by rfl) (by rfl) (by rfl) ?_
  walk_at "ws"
  refine fldq_i ha S.cl S.n_spent jl_spent ?_
  walk_at "ws"
  refine wE_glob (v := .ref fr) C (by walk_at "mem") hr rfl ?_
  walk_at "ws"
  refine ⟨sp, fr, frd, "line", spRank CS, qs.map V.ref, st.1, fun v r => ∃ q, v = .ref q ∧ Made CS H q r, rfl, rfl, hsp, Fr, br, paired_ref hqs, fun x r H1 hx hr x1 Q' hQ => ?_, fun ys p H2 py hp x2 g2 => ?_⟩
  · obtain ⟨q1, rfl, m1⟩ := hr
    exact ⟨q1, r, rfl, m1.ex x1, fun p H3 x3 g3 => hQ _ _ x3 (.tup (.of g3) (.cons (.int _) (.cons (.str _) (.cons (.int _) (.cons (.int _) (.cons (.int _) (.cons (.bl _) .nil)))))))⟩
  · obtain ⟨qs2, rfl, p2⟩ := ref_paired py
    exact q p qs2 H2 hp x2 g2 (pair_kx (fun q r m => m.ex x2) p2)
end
/-! ### lists of spendings compared -/
theorem same_iff {r s : Row} : r.same s = true ↔ r = s := by
  unfold Row.same
  rw [decide_eq_true_eq]
  constructor
  · rintro ⟨h1, h2, h3, h4, h5, h6⟩
    cases r
    cases s
    simp only at h1 h2 h3 h4 h5 h6
    rw [h1, h2, h3, h4, h5, h6]
  · rintro rfl
    exact ⟨rfl, rfl, rfl, rfl, rfl, rfl⟩
theorem fs_inj {r s : Row} (h : r.fs = s.fs) : r = s := by
  have e1 := r.l_kind
  have e2 := r.l_amount
  have e3 := r.l_day
  have e4 := r.l_paper
  have e5 := r.l_heads
  have e6 := r.l_money
  rw [h] at e1 e2 e3 e4 e5 e6
  rw [s.l_kind] at e1
  rw [s.l_amount] at e2
  rw [s.l_day] at e3
  rw [s.l_paper] at e4
  rw [s.l_heads] at e5
  rw [s.l_money] at e6
  injection e1 with e1; injection e1 with e1
  injection e2 with e2; injection e2 with e2
  injection e3 with e3; injection e3 with e3
  injection e4 with e4; injection e4 with e4
  injection e5 with e5; injection e5 with e5
  injection e6 with e6; injection e6 with e6
  cases r
  cases s
  simp only at e1 e2 e3 e4 e5 e6
  rw [e1, e2, e3, e4, e5, e6]
theorem Made.one {CS q : Addr} {H : Hp} {r s : Row} (h : Made CS H q r) (g : Made CS H q s) : r = s := by
  obtain ⟨dx, h⟩ := h
  obtain ⟨dy, g⟩ := g
  rw [h] at g
  have e := Option.some.inj g
  injection e with _ _ e
  exact fs_inj e
def pairE (rs ss : List Row) (i : Nat) : Bool := match rs[i]?, ss[i]? with
  | some r, some s => r.same s
  | _, _ => false
theorem pairE_all {rs ss : List Row} (hl : rs.length = ss.length) : (∀ i, i < rs.length → pairE rs ss i = true) ↔ rs = ss := by
  constructor
  · intro h
    refine List.ext_getElem hl fun i h1 h2 => ?_
    have z := h i h1
    unfold pairE at z
    rw [List.getElem?_eq_getElem h1, List.getElem?_eq_getElem h2] at z
    exact same_iff.mp z
  · rintro rfl i hi
    unfold pairE
    rw [List.getElem?_eq_getElem hi]
    exact same_iff.mpr rfl
theorem at_refs {qs : List Addr} {i : Nat} {x : V} (h : (qs.map V.ref)[i]? = some x) : ∃ q, x = .ref q ∧ qs[i]? = some q := by
  rw [List.getElem?_map] at h
  cases e : qs[i]? with
  | none => rw [e] at h; cases h
  | some q => rw [e] at h; cases h; exact ⟨q, rfl, rfl⟩
section
variable {P : Program} {w : World} {K : PySem.W.Frag} {mg : Str → Option Value} {base : Heap} {k j : Nat} {N Vz Sz G : List Str} {sc : Scope} {X : Cx} {H : Hp} {Q : VK} {c : Addr}
theorem same_eq {a b : Addr} {r s : Row} (ha : Made c H a r) (hb : Made c H b s) (q : Q (.bl (r.same s)) H) : spSame K c [.ref a, .ref b] H Q E0 := by
  obtain ⟨dx, ha⟩ := ha
  obtain ⟨dy, hb⟩ := hb
  exact ⟨a, dx, r, .ref b, rfl, ha, .inl ⟨b, dy, s, rfl, hb, q⟩⟩
theorem made_eqB (C : CxI P w K mg base k N Vz Sz G sc X) (M : Mo P w K mg base j c "__eq__" (spSame K c)) {a b : Addr} {r s : Row} (ra : Made c H a r) (rb : Made c H b s) : EqB X j (.ref a) (.ref b) H (r.same s) := by
  by_cases h : a = b
  · subst h
    rw [same_iff.mpr (ra.one rb)]
    exact eqB_same
  · obtain ⟨dx, h1⟩ := id ra
    obtain ⟨dy, h2⟩ := id rb
    exact eqB_ins C M h h1 h2 (same_eq ra rb ⟨rfl, rfl⟩)
theorem rows_prs (C : CxI P w K mg base k N Vz Sz G sc X) (M : Mo P w K mg base j c "__eq__" (spSame K c)) {as bs : List Addr} {rs ss : List Row} (pa : Paired (Made c H) as rs) (pb : Paired (Made c H) bs ss) (hl : rs.length = ss.length) : PrsB X j (as.map V.ref) (bs.map V.ref) H (pairE rs ss) := by
  refine ⟨by rw [List.length_map, List.length_map, Paired.length pa, Paired.length pb, hl], fun i x y hx hy => ?_⟩
  obtain ⟨a, rfl, ha⟩ := at_refs hx
  obtain ⟨b, rfl, hb⟩ := at_refs hy
  obtain ⟨r, hr, ra⟩ := Paired.atR pa ha
  obtain ⟨s, hs, rb⟩ := Paired.atR pb hb
  have e : pairE rs ss i = r.same s := by unfold pairE; rw [hr, hs]
  rw [e]
  exact made_eqB C M ra rb
theorem some_unlike {rs ss : List Row} (hl : rs.length = ss.length) (t : ¬ rs = ss) : ∃ i, i < rs.length ∧ pairE rs ss i = false := by
  have z : ¬ ∀ i, i < rs.length → pairE rs ss i = true := fun z => t ((pairE_all hl).mp z)
  obtain ⟨i, hi⟩ := Classical.not_forall.mp z
  obtain ⟨hi, hf⟩ := Classical.not_imp.mp hi
  exact ⟨i, hi, by simpa using hf⟩
/-- == of two lists of spendings -/
theorem o_eqMade (C : CxI P w K mg base k N Vz Sz G sc X) (M : Mo P w K mg base j c "__eq__" (spSame K c)) (hk : j + 1 ≤ k) {p q : Addr} {as bs : List Addr} {rs ss : List Row} (hp : H p = some (.lst (as.map V.ref))) (hq : H q = some (.lst (bs.map V.ref))) (pa : Paired (Made c H) as rs) (pb : Paired (Made c H) bs ss)
    (r : ∀ t : Bool, (t = true ↔ rs = ss) → Q (.bl t) H) : wO X (compareOp .Eq) (.ref p) (.ref q) H Q := by
  have la : as.length = rs.length := Paired.length pa
  have lb : bs.length = ss.length := Paired.length pb
  by_cases hl : rs.length = ss.length
  · by_cases t : rs = ss
    · exact o_eqL C hk hp hq (rows_prs C M pa pb hl) true ⟨fun _ i hi => (pairE_all hl).mpr t i (by rw [List.length_map, la] at hi; exact hi), fun h => by cases h⟩ (r true ⟨fun _ => t, fun _ => rfl⟩)
    · refine o_eqL C hk hp hq (rows_prs C M pa pb hl) false ⟨(fun h => by cases h), fun _ => ?_⟩ (r false ⟨(fun h => by cases h), fun h => absurd h t⟩)
      rw [List.length_map, la]
      exact some_unlike hl t
  · exact o_eqLU C hp hq (by rw [List.length_map, List.length_map, la, lb]; exact hl) (r false ⟨(fun h => by cases h), fun h => absurd (by rw [h]) hl⟩)
/-- != of two lists of spendings -/
theorem o_neMade (C : CxI P w K mg base k N Vz Sz G sc X) (M : Mo P w K mg base j c "__eq__" (spSame K c)) (hk : j + 1 ≤ k) {p q : Addr} {as bs : List Addr} {rs ss : List Row} (hp : H p = some (.lst (as.map V.ref))) (hq : H q = some (.lst (bs.map V.ref))) (pa : Paired (Made c H) as rs) (pb : Paired (Made c H) bs ss)
    (r : ∀ t : Bool, (t = true ↔ rs = ss) → Q (.bl (!t)) H) : wO X (compareOp .NotEq) (.ref p) (.ref q) H Q := by
  have la : as.length = rs.length := Paired.length pa
  have lb : bs.length = ss.length := Paired.length pb
  by_cases hl : rs.length = ss.length
  · by_cases t : rs = ss
    · exact o_neL C hk hp hq (rows_prs C M pa pb hl) true ⟨fun _ i hi => (pairE_all hl).mpr t i (by rw [List.length_map, la] at hi; exact hi), fun h => by cases h⟩ (r true ⟨fun _ => t, fun _ => rfl⟩)
    · refine o_neL C hk hp hq (rows_prs C M pa pb hl) false ⟨(fun h => by cases h), fun _ => ?_⟩ (r false ⟨(fun h => by cases h), fun h => absurd h t⟩)
      rw [List.length_map, la]
      exact some_unlike hl t
  · exact o_neLU C hp hq (by rw [List.length_map, List.length_map, la, lb]; exact hl) (r false ⟨(fun h => by cases h), fun h => absurd (by rw [h]) hl⟩)
end
/-! ### twins, whether two journeys are equal, what is struck -/
def twAt (ls : List Row) (i : Nat) : Bool := match ls[i]?, ls[i + 1]? with
  | some r, some s => twinB r s
  | _, _ => false
def twTo (ls : List Row) (n : Nat) : List Int := ((List.range n).filter fun i => twAt ls i).map fun i => ((i + 1 : Nat) : Int)
def twL (ls : List Row) : List Int := twTo ls (ls.length - 1)
theorem twTo_t {ls : List Row} {n : Nat} (h : twAt ls n = true) : twTo ls (n + 1) = twTo ls n ++ [((n + 1 : Nat) : Int)] := by
  unfold twTo
  rw [List.range_succ, List.filter_append, List.filter_cons, if_pos h, List.filter_nil, List.map_append]
  rfl
theorem twTo_f {ls : List Row} {n : Nat} (h : twAt ls n = false) : twTo ls (n + 1) = twTo ls n := by
  unfold twTo
  rw [List.range_succ, List.filter_append, List.filter_cons, if_neg (by rw [h]; exact Bool.false_ne_true), List.filter_nil, List.append_nil]
theorem twTo_len (ls : List Row) (n : Nat) : (twTo ls n).length ≤ n := by
  unfold twTo
  rw [List.length_map]
  exact Nat.le_trans (List.length_filter_le _ _) (by rw [List.length_range]; exact Nat.le_refl _)
theorem shl_ints (ns : List Int) : SeqAt.shaped (.list (ns.map PyData.int)) = true := by
  have h := shp_ints ns
  simpa [SeqAt.shaped, PyData.depth, PyData.canLay0] using h
theorem iteB {b : Bool} {A B : Prop} (h1 : b = true → A) (h2 : b = false → B) : if b = true then A else B := by
  cases b with
  | true => rw [if_pos rfl]; exact h1 rfl
  | false => rw [if_neg Bool.false_ne_true]; exact h2 rfl
section
variable {P : Program} {w : World} {K : PySem.W.Frag} {mg : Str → Option Value} {base : Heap} {k : Nat} {N Vz Sz G : List Str} {sc : Scope} {X : Cx} {σ : L2.St} {H : Hp} {Q : VK}
theorem dl_ints {a : Addr} {ns : List Int} (h : H a = some (.lst (ns.map V.int))) : Dp K H (.ref a) (.list (ns.map PyData.int)) := .lst (.of h) (dpa_ints ns)
theorem o_eqLI {a b : Addr} {ns ms : List Int} (C : CxI P w K mg base k N Vz Sz G sc X) (h1 : H a = some (.lst (ns.map V.int))) (h2 : H b = some (.lst (ms.map V.int))) (q : Q (.bl (decide (ns = ms))) H) : wO X (compareOp .Eq) (.ref a) (.ref b) H Q :=
  wO.of (op_eqD C.room.units) ⟨_, _, by rw [C.eK]; exact dl_ints h1, by rw [C.eK]; exact dl_ints h2, shl_ints ns, shl_ints ms, by
    show Q (.bl (PyData.eqvAll (ns.map PyData.int) (ms.map PyData.int))) H
    rw [eqv_ints]; exact q⟩
theorem o_neLI {a b : Addr} {ns ms : List Int} (C : CxI P w K mg base k N Vz Sz G sc X) (h1 : H a = some (.lst (ns.map V.int))) (h2 : H b = some (.lst (ms.map V.int))) (q : Q (.bl (!decide (ns = ms))) H) : wO X (compareOp .NotEq) (.ref a) (.ref b) H Q :=
  wO.of (op_neD C.room.units) ⟨_, _, by rw [C.eK]; exact dl_ints h1, by rw [C.eK]; exact dl_ints h2, shl_ints ns, shl_ints ms, by
    show Q (.bl (!PyData.eqvAll (ns.map PyData.int) (ms.map PyData.int))) H
    rw [eqv_ints]; exact q⟩
end
def spTwinsR (C CS : Addr) : Sp := fun vs H Q _ => ∃ a pa ts b e st past, vs = [.ref a] ∧ JAt C CS H a pa ts b e st past ∧ st.1.length ≤ 1000 ∧ ∀ p H', H p = none → Ex H H' → H' p = some (.lst ((twL (sortR st.1)).map V.int)) → Q (.ref p) H'
def JSame (ts ts' : List Int) (b b' e e' : Int) (st st' : JSt) : Prop := ts = ts' ∧ b = b' ∧ e = e' ∧ st.1.Perm st'.1 ∧ st.2.Perm st'.2
def spEqR (K : PySem.W.Frag) (C CS : Addr) : Sp := fun vs H Q _ => ∃ a pa ts b e st past y, vs = [.ref a, y] ∧ JAt C CS H a pa ts b e st past ∧ st.2.length ≤ 1000 ∧
  ((∃ a' pa' ts' b' e' st' past', y = .ref a' ∧ JAt C CS H a' pa' ts' b' e' st' past' ∧ st'.2.length ≤ 1000 ∧ ∀ t H', (t = true ↔ JSame ts ts' b b' e e' st st') → Ex H H' → Q (.bl t) H') ∨ ∃ t, TyX K H y t ∧ PySem.W.kitOne K t (.ref C) = some false ∧ Q (.bl false) H)
def spLenR (C CS : Addr) : Sp := fun vs H Q _ => ∃ a pa ts b e st past, vs = [.ref a] ∧ JAt C CS H a pa ts b e st past ∧ Q (.int (st.1.length : Nat)) H
section
variable {P : Program} {w : World} {K : PySem.W.Frag} {mg : Str → Option Value} {base : Heap} {f fr C0 CS : Addr} {fd : FuncData}
theorem p_lenR (F : Fn K "__len__" "Journey.__len__" s_Journey_len f fd) (T : Txt K mg) (S : Sj K C0) : FnOk P w K mg base CX0 1 f fd ["self"] (spLenR C0 CS) := by
  refine fn_w F sc_Journey_len ok_Journey_len (fun vs H Q E h => by obtain ⟨a, pa, ts, b, e, st, past, rfl, ⟨dx, tw, sp, sm, pps, ha, htw, ⟨⟨qs, hsp, hqs⟩, hsm⟩, hpa, hpp⟩, q⟩ := h; rfl) (fun X vs H Q E C h => ?_)
  obtain ⟨a, pa, ts, b, e, st, past, rfl, ⟨dx, tw, sp, sm, pps, ha, htw, ⟨⟨qs, hsp, hqs⟩, hsm⟩, hpa, hpp⟩, q⟩ := h
  show wB X _ _ [some (.ref a)] H
  first | refine wB_one ?_ | refine wB_cons' fun _ _ => ?_
  walk_at "ws"
  refine wE_callB C T.len (by walk_at "mem") boot_len (by rfl) (by rfl) ?_
  walk_at "ws"
  refine fldq_i ha S.cl S.n_spent jl_spent ?_
  walk_at "ws"
  refine c_lenT C (SqT.of hsp) ?_
  rw [List.length_map, Paired.length hqs]
  exact q
theorem p_twinsR (F : Fn K "twins" "Journey.twins" s_Journey_twins f fd) (T : Txt K mg) (S : Sj K C0) (ML : Me P w K mg base 4 C0 "lines" [] (spLinesR C0 CS)) (DTw : Df P w K mg base 1 "are_twins" ["one", "other"] [] (spTwins CS)) : FnOk P w K mg base (L2N.CX P w) 5 f fd ["self"] (spTwinsR C0 CS) := by
  refine fn_wX F sc_Journey_twins ok_Journey_twins (fun vs H Q E h => by obtain ⟨a, pa, ts, b, e, st, past, rfl, _⟩ := h; rfl) (fun X vs H Q E C TK h => ?_)
  obtain ⟨a, pa, ts, b, e, st, past, rfl, j, lim, q⟩ := h
  obtain ⟨dx, tw, sp, sm, pps, ha, _⟩ := id j
  show wB X _ _ [some (.ref a), none, none] H
  refine wB_cons' fun _ _ => ?_
  walk_at "ws"
  refine wE_methQ0 C S.cl ML (by decide) (by rfl) ?_
  walk_at "ws"
  refine ⟨a, dx, _, rfl, ha, jl_no (by decide +kernel) (by decide +kernel) (by decide +kernel) (by decide +kernel) (by decide +kernel) (by decide +kernel), ?_⟩
  refine ⟨a, pa, ts, b, e, st, past, rfl, j, fun p1 qs H1 hp1 e1 g1 m1 => ?_⟩
  have hl : qs.length = (sortR st.1).length := Paired.length m1
  have hl2 : (sortR st.1).length ≤ 1000 := by rw [sortR_len]; exact lim
  unfold twL at q
  generalize sortR st.1 = ls at m1 hl hl2 q
  walk_at "ws"
  refine wE_lcR2 [("at", 2)] ["at", "lines"] ["at"] ["are_twins"] C (by decide +kernel) (by decide +kernel) (by decide +kernel) (by rfl) T.range (by walk_at "mem") (by rfl) (by rfl) ?_
  walk_at "ws"
  refine wE_callB C T.len (by walk_at "mem") boot_len (by rfl) (by rfl) ?_
  walk_at "ws"
  refine c_lenL C (SqL.of g1) ?_
  walk_at "ws"
  rw [List.length_map]
  refine ⟨1, (qs.length : Nat), qs.length - 1, rfl, by omega, by decide, by decide, by omega, by omega, fun D hD => ⟨fun i H' => H' D = some (.lst ((twTo ls i).map V.int)) ∧ Ex H1 H', ⟨upd_same, Ex.upd hD⟩, ?_, ?_⟩⟩
  · rintro i H4 hi ⟨gD, e4⟩
    obtain ⟨r, hr⟩ : ∃ r, ls[i]? = some r := ⟨_, List.getElem?_eq_getElem (by omega)⟩
    obtain ⟨s, hs⟩ : ∃ s, ls[i + 1]? = some s := ⟨_, List.getElem?_eq_getElem (by omega)⟩
    obtain ⟨q1, hq1⟩ : ∃ q, qs[i]? = some q := ⟨_, List.getElem?_eq_getElem (by omega)⟩
    obtain ⟨q2, hq2⟩ : ∃ q, qs[i + 1]? = some q := ⟨_, List.getElem?_eq_getElem (by omega)⟩
    obtain ⟨r', hr', dx1, k1⟩ := Paired.atR m1 hq1
    obtain ⟨s', hs', dx2, k2⟩ := Paired.atR m1 hq2
    rw [hr] at hr'; cases hr'
    rw [hs] at hs'; cases hs'
    have at1 : atI (qs.map V.ref) (1 + (i : Int) - 1) = some (.ref q1) := by
      rw [show 1 + (i : Int) - 1 = ((i : Nat) : Int) by omega]
      exact atI_nat (by rw [List.getElem?_map, hq1]; rfl)
    have at2 : atI (qs.map V.ref) (1 + (i : Int)) = some (.ref q2) := by
      rw [show 1 + (i : Int) = ((i + 1 : Nat) : Int) by omega]
      exact atI_nat (by rw [List.getElem?_map, hq2]; rfl)
    have et : twAt ls i = twinB r s := by unfold twAt; rw [hr, hs]
    intro X1 C1
    show wG X1 _ _ [_, _, none] H4 _
    refine wG_name C1 (by walk_at "mem") ?_
    walk_at "ws"
    refine ⟨rfl, ?_⟩
    refine blkT_one fun X2 C2 => ?_
    clear C1 C
    walk_at "ws"
    refine wE_call C2 DTw (by walk_at "mem") (by decide) (by rfl) (by rfl) ?_
    walk_at "ws"
    refine i_list C2 (fun _ _ => rfl) (SqL.of (e4 _ _ g1)) at1 ?_
    walk_at "ws"
    refine i_list C2 (fun _ _ => rfl) (SqL.of (e4 _ _ g1)) at2 ?_
    walk_at "ws"
    refine ⟨q1, q2, dx1, dx2, r, s, rfl, e4 _ _ k1, e4 _ _ k2, ?_⟩
    walk_at "ws"
    refine iteB (fun h => ?_) (fun h => ?_)
    · intro X3 C3
      clear C2
      walk_at "ws"
      refine ⟨_, gD, ?_, ?_, e4.mut hD Exb.upd⟩
      · rw [List.length_map, sizeLine_eq]
        have := twTo_len ls i
        omega
      · rw [upd_same, twTo_t (et.trans h), List.map_append, show (1 : Int) + (i : Nat) = ((i + 1 : Nat) : Int) by omega]
        rfl
    · exact ⟨by rw [twTo_f (et.trans h)]; exact gD, e4⟩
  rintro H4 ⟨gD, e4⟩
  rw [hl] at gD
  exact q D H4 (e1.free hD) (e1.trans e4) gD
theorem p_eqR (F : Fn K "__eq__" "Journey.__eq__" s_Journey_eq f fd) (T : Txt K mg) (S : Sj K C0) (tso : mg "sorted" = none) (gJ : mg "Journey" = some (.ref C0)) (TB : ∀ {H : Hp} {a dx : Addr} {fs : List (Str × V)}, H a = some (.ins C0 dx fs) → TyX K H (.ref a) (.ref C0))
    (ML : Me P w K mg base 4 C0 "lines" [] (spLinesR C0 CS)) (MS : Mo P w K mg base 1 CS "__eq__" (spSame K CS)) : FnOk P w K mg base CX0 5 f fd ["self", "other"] (spEqR K C0 CS) := by
  refine fn_w F sc_Journey_eq ok_Journey_eq (fun vs H Q E h => by obtain ⟨a, pa, ts, b, e, st, past, y, rfl, j, lim, q⟩ := h; rfl) (fun X vs H Q E C h => ?_)
  obtain ⟨a, pa, ts, b, e, st, past, y, rfl, j, lim, q⟩ := h
  show wB X _ _ [some (.ref a), some y] H
  first | refine wB_one ?_ | refine wB_cons' fun _ _ => ?_
  walk_at "ws"
  obtain ⟨dx, tw, sp, sm, pps, ha, htw, ⟨_, hsm⟩, _⟩ := id j
  refine wE_callB C T.isinstance (by walk_at "mem") boot_isinstance (by rfl) (by rfl) ?_
  walk_at "ws"
  refine wE_glob (v := .ref C0) C (by walk_at "mem") gJ rfl ?_
  walk_at "ws"
  rcases q with ⟨a', pa', ts', b', e', st', past', rfl, j', lim', q⟩ | ⟨t, ht, hk, q⟩
  rotate_left
  · refine c_isi C (.own C0) ht hk ?_
    walk_at "ws"
    exact q
  obtain ⟨dx', tw', sp', sm', pps', ha', htw', ⟨_, hsm'⟩, _⟩ := id j'
  refine c_isi C (.own C0) (TB ha') (r := true) (by unfold PySem.W.kitOne; rw [if_pos (beq_self_eq_true _)]) ?_
  walk_at "ws"
  refine fldq_i ha S.cl S.n_towns jl_towns ?_
  walk_at "ws"
  refine fldq_i ha' S.cl S.n_towns jl_towns ?_
  walk_at "ws"
  refine o_eqTI C (SqT.of htw) (SqT.of htw') ?_
  walk_at "ws"
  have no : ∀ {H' : Hp}, ¬ JSame ts ts' b b' e e' st st' → Ex H H' → Q (.bl false) H' := fun h x => q false _ ⟨(fun z => by cases z), fun z => absurd z h⟩ x
  refine iteD (fun h1 => ?_) (fun h1 => ?_)
  rotate_left
  · exact no (fun h => h1 h.1) (Ex.refl H)
  walk_at "ws"
  refine fldq_i ha S.cl S.n_begun jl_begun ?_
  walk_at "ws"
  refine fldq_i ha' S.cl S.n_begun jl_begun ?_
  walk_at "ws"
  refine iteD (fun h2 => ?_) (fun h2 => ?_)
  rotate_left
  · exact no (fun h => h2 h.2.1) (Ex.refl H)
  walk_at "ws"
  refine fldq_i ha S.cl S.n_ended jl_ended ?_
  walk_at "ws"
  refine fldq_i ha' S.cl S.n_ended jl_ended ?_
  walk_at "ws"
  refine iteD (fun h3 => ?_) (fun h3 => ?_)
  rotate_left
  · exact no (fun h => h3 h.2.2.1) (Ex.refl H)
  walk_at "ws"
  refine wE_methQ0 C S.cl ML (by decide) (by rfl) ?_
  walk_at "ws"
  refine ⟨a, dx, _, rfl, ha, jl_no (by decide +kernel) (by decide +kernel) (by decide +kernel) (by decide +kernel) (by decide +kernel) (by decide +kernel), ?_⟩
  refine ⟨a, pa, ts, b, e, st, past, rfl, j, fun p1 qs1 H1 hp1 e1 g1 m1 => ?_⟩
  walk_at "ws"
  refine wE_methQ0 C S.cl ML (by decide) (by rfl) ?_
  walk_at "ws"
  refine ⟨a', dx', _, rfl, e1 _ _ ha', jl_no (by decide +kernel) (by decide +kernel) (by decide +kernel) (by decide +kernel) (by decide +kernel) (by decide +kernel), ?_⟩
  refine ⟨a', pa', ts', b', e', st', past', rfl, j'.ex e1, fun p2 qs2 H2 hp2 e2 g2 m2 => ?_⟩
  have e02 := e1.trans e2
  walk_at "ws"
  refine o_eqMade C MS (by decide) (e2 _ _ g1) g2 (pair_kx (fun q r m => m.ex e2) m1) m2 fun t ht => ?_
  walk_at "ws"
  refine iteB (fun h4 => ?_) (fun h4 => ?_)
  rotate_left
  · subst h4
    exact no (fun h => by have := ht.mpr (sortR_eq h.2.2.2.1); cases this) e02
  have h4' : st.1.Perm st'.1 := sortR_iff.mp (ht.mp h4)
  walk_at "ws"
  refine wE_callB C tso (by walk_at "mem") boot_sorted (by rfl) (by rfl) ?_
  walk_at "ws"
  refine fldq_i (e02 _ _ ha) S.cl S.n_sums jl_sums ?_
  walk_at "ws"
  refine c_sortedTI C (e02 _ _ hsm) lim fun es p3 H3 pm pw hp3 e3 g3 => ?_
  walk_at "ws"
  refine wE_callB C tso (by walk_at "mem") boot_sorted (by rfl) (by rfl) ?_
  walk_at "ws"
  have e03 := e02.trans e3
  refine fldq_i (e03 _ _ ha') S.cl S.n_sums jl_sums ?_
  walk_at "ws"
  refine c_sortedTI C (e03 _ _ hsm') lim' fun es' p4 H4 pm' pw' hp4 e4 g4 => ?_
  walk_at "ws"
  refine o_eqLI C (e4 _ _ g3) g4 ?_
  refine q _ H4 ?_ (e03.trans e4)
  rw [decide_eq_true_eq, sortI_of pm pw, sortI_of pm' pw', sortI_iff]
  exact ⟨fun h => ⟨h1, h2, h3, h4', h⟩, fun h => h.2.2.2.2⟩
end
/-! ### strike -/
section
local macro_rules | `(tactic| walk_at "w1") => `(tactic| first
  | with_reducible refine wE_slToH (by assumption) ?_
  | with_reducible refine wE_slFromH (by assumption) ?_)
def spPlace (CS : Addr) : Sp := fun vs H Q _ => ∃ q r tp qs rs, vs = [.ref q, .ref tp] ∧ Made CS H q r ∧ H tp = some (.tup (qs.map V.ref)) ∧ Paired (Made CS H) qs rs ∧ (∀ l1 l2, rs = l1 ++ r :: l2 → ¬ r ∈ l1 → ∀ H', Ex H H' → Q (.int (l1.length : Nat)) H') ∧ (¬ r ∈ rs → ∀ H', Ex H H' → Q .non H')
def spStrikeR (C CS : Addr) : Sp := fun vs H Q _ => ∃ a pa ts b e st past q r l1 l2, vs = [.ref a, .ref q] ∧ JAt C CS H a pa ts b e st past ∧ Made CS H q r ∧ st.1 = l1 ++ r :: l2 ∧ ¬ r ∈ l1 ∧ st.1.length ≤ 1000 ∧ past.length < 1000 ∧ CS ≠ C ∧
  ∀ H', Kx (two a pa) H H' → JAt C CS H' a pa ts b e (l1 ++ l2, st.2) (past ++ [st]) → Q .non H'
theorem paired_cut {α β : Type} {R : α → β → Prop} : ∀ {ms : List β} {ns : List β} {ls : List α}, Paired R ls (ms ++ ns) → ∃ l1 l2, ls = l1 ++ l2 ∧ Paired R l1 ms ∧ Paired R l2 ns
  | [], _, ls, h => ⟨[], ls, rfl, .nil, h⟩
  | _ :: _, _, _, .cons r t => let ⟨l1, l2, e, p1, p2⟩ := paired_cut t; ⟨_ :: l1, l2, by rw [e]; rfl, .cons r p1, p2⟩
theorem paired_app {α β : Type} {R : α → β → Prop} : ∀ {l1 l2 : List α} {m1 m2 : List β}, Paired R l1 m1 → Paired R l2 m2 → Paired R (l1 ++ l2) (m1 ++ m2)
  | _, _, _, _, .nil, h => h
  | _, _, _, _, .cons r t, h => .cons r (paired_app t h)
theorem first_len {r : Row} : ∀ {m1 l1 m2 l2 : List Row}, m1 ++ r :: m2 = l1 ++ r :: l2 → ¬ r ∈ m1 → ¬ r ∈ l1 → m1.length = l1.length
  | [], [], _, _, _, _, _ => rfl
  | [], x :: l1, _, _, e, _, h => by
    rw [List.nil_append, List.cons_append] at e
    injection e with e1 _
    exact absurd (by rw [e1]; exact List.mem_cons_self) h
  | x :: m1, [], _, _, e, h, _ => by
    rw [List.nil_append, List.cons_append] at e
    injection e with e1 _
    exact absurd (by rw [e1]; exact List.mem_cons_self) h
  | x :: m1, y :: l1, _, _, e, h, g => by
    rw [List.cons_append, List.cons_append] at e
    injection e with _ e2
    rw [List.length_cons, List.length_cons, first_len e2 (fun z => h (List.mem_cons_of_mem _ z)) (fun z => g (List.mem_cons_of_mem _ z))]
section
variable {P : Program} {w : World} {K : PySem.W.Frag} {mg : Str → Option Value} {base : Heap} {f fr C0 CS : Addr} {fd : FuncData}
theorem p_place (F : Fn K "place_of" "place_of" s_place_of f fd) (te : mg "enumerate" = none) (MS : Mo P w K mg base 1 CS "__eq__" (spSame K CS)) : FnOk P w K mg base CX0 2 f fd ["spending", "spendings"] (spPlace CS) := by
  refine fn_w F sc_place_of ok_place_of (fun vs H Q E h => by obtain ⟨q, r, tp, qs, rs, rfl, mq, htp, pr, k1, k2⟩ := h; rfl) (fun X vs H Q E C h => ?_)
  obtain ⟨q, r, tp, qs, rs, rfl, mq, htp, pr, k1, k2⟩ := h
  show wB X _ _ [some (.ref q), some (.ref tp), none, none] H
  first | refine wB_one ?_ | refine wB_cons' fun _ _ => ?_
  walk_at "ws"
  refine wS_enumT C te (by walk_at "mem") (by rfl) ?_
  walk_at "ws"
  refine ⟨tp, _, rfl, htp, fun i σ H' => ∃ y1 y2, σ = [some (.ref q), some (.ref tp), y1, y2] ∧ Ex H H' ∧ ∀ j, j < i → rs[j]? ≠ some r, ⟨_, _, rfl, Ex.refl H, fun j h => absurd h (Nat.not_lt_zero _)⟩, ?_, ?_, ?_⟩
  · rintro i σ H' _ ⟨y1, y2, rfl, x, _⟩
    exact x _ _ htp
  · rintro i x T σ H1 H2 hx ⟨y1, y2, rfl, x1, ni⟩ hT x2 gT
    obtain ⟨qi, rfl, hqi⟩ := at_refs hx
    obtain ⟨ri, hri, mi⟩ := Paired.atR pr hqi
    have x02 := x1.trans x2
    refine wG_tup C (SqT.of gT) (by rfl) (by rfl) ?_
    walk_at "ws"
    refine wS_if ?_
    walk_at "ws"
    obtain ⟨dx, hi2⟩ := mi.ex x02
    obtain ⟨dy, hq2⟩ := mq.ex x02
    refine o_eqOwn C MS (by decide) hi2 (ty_ins hq2) nf_self (same_eq ⟨dx, hi2⟩ ⟨dy, hq2⟩ ⟨_, rfl, ?_⟩)
    refine isB ?_
    refine iteB (fun h => ?_) (fun h => ?_)
    · have e := same_iff.mp h
      subst e
      walk_at "ws"
      have hlt := (List.getElem?_eq_some_iff.mp hri).1
      have hspl : rs = rs.take i ++ ri :: rs.drop (i + 1) := by
        rw [← (List.getElem?_eq_some_iff.mp hri).2, List.getElem_cons_drop, List.take_append_drop]
      have hni : ¬ ri ∈ rs.take i := fun hm => by
        obtain ⟨j, hj, ej⟩ := List.getElem_of_mem hm
        rw [List.length_take] at hj
        refine ni j (by omega) ?_
        rw [List.getElem_take] at ej
        rw [List.getElem?_eq_getElem (by omega), ej]
      have z := k1 _ _ hspl hni H2 x02
      rw [List.length_take, Nat.min_eq_left (by omega)] at z
      exact z
    · walk_at "ws"
      refine ⟨_, _, rfl, x02, fun j hj => ?_⟩
      by_cases e : j = i
      · rw [e, hri]
        intro z
        cases z
        rw [same_iff.mpr rfl] at h
        cases h
      · exact ni j (by omega)
  rintro σ H1 ⟨y1, y2, rfl, x1, ni⟩
  walk_at "ws"
  refine k2 (fun hm => ?_) H1 x1
  obtain ⟨j, hj, ej⟩ := List.getElem_of_mem hm
  refine ni j (by rw [List.length_map, Paired.length pr]; exact hj) ?_
  rw [List.getElem?_eq_getElem hj, ej]
theorem p_strikeR (F : Fn K "strike" "Journey.strike" s_Journey_strike f fd) (S : Sj K C0) (DP : Df P w K mg base 2 "place_of" ["spending", "spendings"] [] (spPlace CS)) (MB : Me P w K mg base 1 C0 "become" [] (spBecome C0 CS)) : FnOk P w K mg base (L2N.CX P w) 3 f fd ["self", "spending"] (spStrikeR C0 CS) := by
  refine fn_wX F sc_Journey_strike ok_Journey_strike (fun vs H Q E h => by obtain ⟨a, pa, ts, b, e, st, past, q, r, l1, l2, rfl, _⟩ := h; rfl) (fun X vs H Q E C TK h => ?_)
  obtain ⟨a, pa, ts, b, e, st, past, sq, r, l1, l2, rfl, j, mq, hst1, hni, lim, lp, nc, q⟩ := h
  obtain ⟨dx, tw, sp, sm, pps, ha, htw, ⟨⟨qs, hsp, hqs⟩, hsm⟩, hpa, hpp⟩ := id j
  show wB X _ _ [some (.ref a), some (.ref sq), none] H
  refine wB_cons' fun _ _ => ?_
  walk_at "ws"
  refine wE_call C DP (by walk_at "mem") (by decide) (by rfl) (by rfl) ?_
  walk_at "ws"
  refine fldq_i ha S.cl S.n_spent jl_spent ?_
  walk_at "ws"
  have hlen : st.1.length = l1.length + (l2.length + 1) := by rw [hst1, List.length_append, List.length_cons]
  have hqs' := hqs
  rw [hst1] at hqs'
  obtain ⟨ls1, ls2, rfl, p1, p2⟩ := paired_cut hqs'
  obtain ⟨q0, ls3, rfl, p0, p3⟩ : ∃ q0 ls3, ls2 = q0 :: ls3 ∧ Made CS H q0 r ∧ Paired (Made CS H) ls3 l2 := by
    cases p2 with
    | cons r t => exact ⟨_, _, rfl, r, t⟩
  have len1 : ls1.length = l1.length := Paired.length p1
  refine ⟨sq, r, sp, _, _, rfl, mq, hsp, hqs, fun m1 m2 em nm H1 x1 => ?_, fun hn => absurd (by rw [hst1]; exact List.mem_append_right _ List.mem_cons_self) hn⟩
  have el : m1.length = l1.length := by
    have z : m1 ++ r :: m2 = l1 ++ r :: l2 := em.symm.trans hst1
    exact first_len z nm hni
  rw [el]
  walk_at "ws"
  refine wS_if ?_
  walk_at "ws"
  refine iteDF (fun z => by cases z) ?_
  walk_at "ws"
  refine wE_methQ C S.cl MB (by decide) (by rfl) (by rfl) (by rfl) ?_
  walk_at "ws"
  refine ⟨a, dx, _, rfl, x1 _ _ ha, jl_no (by decide +kernel) (by decide +kernel) (by decide +kernel) (by decide +kernel) (by decide +kernel) (by decide +kernel), ?_⟩
  walk_at "ws"
  refine fldq_i (x1 _ _ ha) S.cl S.n_spent jl_spent ?_
  walk_at "ws"
  refine ⟨sp, _, rfl, x1 _ _ hsp, fun c2 H2 x2 g2 => ?_⟩
  walk_at "ws"
  refine fldq_i ((x1.trans x2) _ _ ha) S.cl S.n_spent jl_spent ?_
  walk_at "ws"
  refine ⟨sp, _, rfl, (x1.trans x2) _ _ hsp, fun c3 H3 x3 g3 => ?_⟩
  walk_at "ws"
  rw [cut_toN (by omega), List.map_append, show ((l1.length : Nat) : Int).toNat = (ls1.map V.ref).length by rw [List.length_map, len1]; rfl, List.take_left] at g2
  rw [cut_fromN (by omega), List.map_append, List.map_cons, show (((l1.length : Nat) : Int) + 1).toNat = (ls1.map V.ref).length + 1 by rw [List.length_map, len1]; omega, ← List.drop_drop, List.drop_left] at g3
  refine o_catTA C (x3 _ _ g2) g3 ?_ fun c4 H4 x4 g4 => ?_
  · rw [List.drop_succ_cons, List.drop_zero, List.length_map, List.length_map, sizeLine_eq, len1, Paired.length p3]
    omega
  walk_at "ws"
  have x04 := ((x1.trans x2).trans x3).trans x4
  refine fldq_i (x04 _ _ ha) S.cl S.n_sums jl_sums ?_
  walk_at "ws"
  refine ⟨a, pa, ts, b, e, st, past, c4, sm, (l1 ++ l2, st.2), rfl, j.ex x04, ⟨⟨ls1 ++ ls3, ?_, ?_⟩, x04 _ _ hsm⟩, lp, nc, fun H5 x5 j5 => ?_⟩
  · rw [g4, List.map_append, List.drop_succ_cons, List.drop_zero]
  · exact paired_app (pair_kx (fun q r m => m.ex x04) p1) (pair_kx (fun q r m => m.ex x04) p3)
  walk_at "ws"
  exact q H5 ((Kx.of x04).trans x5) j5
end
end
/-! ### the law's own rows, spendings, towns -/
def spSorts : Sp := fun vs H Q _ => vs = [] ∧ ∀ p H', H p = none → Ex H H' → H' p = some (.lst kindsL) → Q (.ref p) H'
def spRowM : Sp := fun vs H Q _ => ∃ (b : Addr) (n : Int) (m : Nat), vs = [.ref b, .int m] ∧ 1 ≤ m ∧ m ≤ 60 ∧ H b = some (.lst [.int n]) ∧ ∀ (r : Row) p n' H', r.Ok → H p = none → H' p = some (.tup r.vs) → H' b = some (.lst [.int n']) → Exb b H H' → Q (.ref p) H'
def spSpentR (CS : Addr) : Sp := fun vs H Q _ => ∃ (t : Addr) (r : Row), vs = [.ref t] ∧ H t = some (.tup r.vs) ∧ r.Ok ∧ ∀ p H', H p = none → Ex H H' → Made CS H' p r → Q (.ref p) H'
section
variable {P : Program} {w : World} {K : PySem.W.Frag} {mg : Str → Option Value} {base : Heap} {f C0 CS : Addr} {fd : FuncData}
theorem p_sorts (F : Fn K "_law_sorts" "_law_sorts" s__law_sorts f fd) : FnOk P w K mg base CX0 1 f fd [] spSorts := by
  refine fn_w F sc__law_sorts ok__law_sorts (fun vs H Q E h => by obtain ⟨rfl, _⟩ := h; rfl) (fun X vs H Q E C h => ?_)
  obtain ⟨rfl, q⟩ := h
  show wB X _ _ [] H
  refine wB_one ?_
  walk_at "ws"
  exact ⟨(by show 5 ≤ sizeLine; decide), fun p H1 hp x1 g1 => q p H1 hp x1 g1⟩
theorem made_new {y dy : Addr} {H H' : Hp} {r : Row} (hy : H y = none) (hdy : H dy = none) (hne : dy ≠ y) (e : Exb y (upd (upd H dy (.own y)) y (.ins CS dy [])) H') (h : H' y = some (.ins CS dy r.fs)) : Ex H H' ∧ Made CS H' y r := ⟨(Ex.new2 hdy hy hne).mut hy e, dy, h⟩
theorem p_spentR (F : Fn K "_law_spent" "_law_spent" s__law_spent f fd) (M : Mp P w K mg base 4 "Spending" CS [] (spInit CS)) : FnOk P w K mg base CX0 6 f fd ["_law_row_here"] (spSpentR CS) := by
  refine fn_w F sc__law_spent ok__law_spent (fun vs H Q E h => by obtain ⟨t, r, rfl, ht, o, q⟩ := h; rfl) (fun X vs H Q E C h => ?_)
  obtain ⟨t, r, rfl, ht, o, q⟩ := h
  show wB X _ _ [some (.ref t)] H
  first | refine wB_one ?_ | refine wB_cons' fun _ _ => ?_
  walk_at "ws"
  refine wE_make C M (by walk_at "mem") (by decide) (by rfl) (by rfl) ?_
  have ht' : H t = some (.tup [.str r.kind, .int r.bill, .int r.day, .bl r.slip, .int r.heads, .int r.coin]) := ht
  walk_at "ws"
  intro y dy hy hdy hne
  refine ⟨y, dy, r, rfl, o, upd_same, fun H' e h => ?_⟩
  obtain ⟨x, m⟩ := made_new hy hdy hne e h
  exact ⟨rfl, q y H' hy x m⟩
theorem p_rowM (F : Fn K "_law_row" "_law_row" s__law_row f fd) (DS : Df P w K mg base 1 "_law_sorts" [] [] spSorts) (DT : Df P w K mg base 1 "_law_take" ["_law_box_here", "_law_count"] [] spTakeM) : FnOk P w K mg base CX0 2 f fd ["_law_box_here", "_law_many"] spRowM := by
  refine fn_w F sc__law_row ok__law_row (fun vs H Q E h => by obtain ⟨b, n, m, rfl, m1, m2, hb, q⟩ := h; rfl) (fun X vs H Q E C h => ?_)
  obtain ⟨b, n, m, rfl, m1, m2, hb, q⟩ := h
  show wB X _ _ [some (.ref b), some (.int m), none, none, none, none, none] H
  first | refine wB_one ?_ | refine wB_cons' fun _ _ => ?_
  walk_at "ws"
  refine wE_call0 C DS (by walk_at "mem") (by decide) ?_
  refine ⟨rfl, fun p1 H1 hp1 e1 h1 => ?_⟩
  walk_at "ws"
  refine wE_call C DT (by walk_at "mem") (by decide) (by rfl) (by rfl) ?_
  walk_at "ws"
  refine ⟨b, _, 5, rfl, (by walk_at "hk"), by decide, by decide, fun dA nA HA dA0 dA1 hbA exA => ?_⟩
  walk_at "ws"
  refine wE_call C DT (by walk_at "mem") (by decide) (by rfl) (by rfl) ?_
  walk_at "ws"
  refine ⟨b, _, 2, rfl, (by walk_at "hk"), by decide, by decide, fun dB nB HB dB0 dB1 hbB exB => ?_⟩
  walk_at "ws"
  have ab : 0 ≤ dA * dB ∧ dA * dB < 5 := by
    rcases (show dB = 0 ∨ dB = 1 by omega) with h | h
    · rw [h]; omega
    · rw [h]; omega
  obtain ⟨v1, ha1, z1, rfl, hz1⟩ := pick ab.1 (show dA * dB < (kindsL.length : Nat) from ab.2) (fun v => ∃ z, v = .str z ∧ inV (.str z) kindsL = true) (all2 ⟨_, rfl, by decide +kernel⟩ (all2 ⟨_, rfl, by decide +kernel⟩ (all2 ⟨_, rfl, by decide +kernel⟩ (all2 ⟨_, rfl, by decide +kernel⟩ (all1 ⟨_, rfl, by decide +kernel⟩)))))
  refine i_list C (fun _ _ => rfl) (SqL.of (by walk_at "hk")) ha1 ?_
  walk_at "ws"
  refine wE_call C DT (by walk_at "mem") (by decide) (by rfl) (by rfl) ?_
  walk_at "ws"
  refine ⟨b, _, 1000000, rfl, (by walk_at "hk"), by decide, by decide, fun dD nD HD dD0 dD1 hbD exD => ?_⟩
  walk_at "ws"
  refine ⟨(by show 4 ≤ sizeLine; decide), fun p2 H2 hp2 e2 h2 => ?_⟩
  walk_at "ws"
  refine wE_call C DT (by walk_at "mem") (by decide) (by rfl) (by rfl) ?_
  walk_at "ws"
  refine ⟨b, _, 4, rfl, (by walk_at "hk"), by decide, by decide, fun dE nE HE dE0 dE1 hbE exE => ?_⟩
  walk_at "ws"
  obtain ⟨v2, ha2, z2, rfl, hz2, hz3⟩ := pick dE0 (show dE < ([.int 5, .int 8, .int 100, .int (1 + dD)] : List V).length from dE1) (fun v => ∃ z, v = .int z ∧ 1 ≤ z ∧ z ≤ 1000000) (all2 ⟨_, rfl, by omega, by omega⟩ (all2 ⟨_, rfl, by omega, by omega⟩ (all2 ⟨_, rfl, by omega, by omega⟩ (all1 ⟨_, rfl, by omega, by omega⟩))))
  refine i_list C (fun _ _ => rfl) (SqL.of (by walk_at "hk")) ha2 ?_
  walk_at "ws"
  refine wE_call C DT (by walk_at "mem") (by decide) (by rfl) (by rfl) ?_
  walk_at "ws"
  refine ⟨b, _, m, rfl, (by walk_at "hk"), by omega, by omega, fun dF nF HF dF0 dF1 hbF exF => ?_⟩
  walk_at "ws"
  refine wE_call C DT (by walk_at "mem") (by decide) (by rfl) (by rfl) ?_
  walk_at "ws"
  refine ⟨b, _, m, rfl, (by walk_at "hk"), by omega, by omega, fun dG nG HG dG0 dG1 hbG exG => ?_⟩
  walk_at "ws"
  refine wE_call C DT (by walk_at "mem") (by decide) (by rfl) (by rfl) ?_
  walk_at "ws"
  refine ⟨b, _, 60, rfl, (by walk_at "hk"), by decide, by decide, fun dI nI HI dI0 dI1 hbI exI => ?_⟩
  walk_at "ws"
  refine ⟨(by show 4 ≤ sizeLine; decide), fun p3 H3 hp3 e3 h3 => ?_⟩
  walk_at "ws"
  refine wE_call C DT (by walk_at "mem") (by decide) (by rfl) (by rfl) ?_
  walk_at "ws"
  refine ⟨b, _, 4, rfl, (by walk_at "hk"), by decide, by decide, fun dJ nJ HJ dJ0 dJ1 hbJ exJ => ?_⟩
  walk_at "ws"
  obtain ⟨v3, ha3, z3, rfl, hz4, hz5⟩ := pick dJ0 (show dJ < ([.int 0, .int dF, .int dG, .int dI] : List V).length from dJ1) (fun v => ∃ z, v = .int z ∧ 0 ≤ z ∧ z ≤ 59) (all2 ⟨_, rfl, by omega, by omega⟩ (all2 ⟨_, rfl, by omega, by omega⟩ (all2 ⟨_, rfl, by omega, by omega⟩ (all1 ⟨_, rfl, by omega, by omega⟩))))
  refine i_list C (fun _ _ => rfl) (SqL.of (by walk_at "hk")) ha3 ?_
  walk_at "ws"
  refine wS_par C (by decide +kernel) (by decide +kernel) (by rfl) (by decide +kernel) (by rfl) (by rfl) (by rfl) (by rfl) ?_
  walk_at "ws"
  refine wE_call C DT (by walk_at "mem") (by decide) (by rfl) (by rfl) ?_
  walk_at "ws"
  refine ⟨b, _, 6, rfl, (by walk_at "hk"), by decide, by decide, fun dK nK HK dK0 dK1 hbK exK => ?_⟩
  walk_at "ws"
  refine ⟨(by show 4 ≤ sizeLine; decide), fun p4 H4 hp4 e4 h4 => ?_⟩
  walk_at "ws"
  refine wE_call C DT (by walk_at "mem") (by decide) (by rfl) (by rfl) ?_
  walk_at "ws"
  refine ⟨b, _, 4, rfl, (by walk_at "hk"), by decide, by decide, fun dL nL HL dL0 dL1 hbL exL => ?_⟩
  walk_at "ws"
  obtain ⟨v4, ha4, z4, rfl, hz6, hz7⟩ := pick dL0 (show dL < ([.int 1, .int 1, .int 2, .int (1 + dK)] : List V).length from dL1) (fun v => ∃ z, v = .int z ∧ 1 ≤ z ∧ z ≤ 6) (all2 ⟨_, rfl, by omega, by omega⟩ (all2 ⟨_, rfl, by omega, by omega⟩ (all2 ⟨_, rfl, by omega, by omega⟩ (all1 ⟨_, rfl, by omega, by omega⟩))))
  refine i_list C (fun _ _ => rfl) (SqL.of (by walk_at "hk")) ha4 ?_
  walk_at "ws"
  refine wE_call C DT (by walk_at "mem") (by decide) (by rfl) (by rfl) ?_
  walk_at "ws"
  refine ⟨b, _, 4, rfl, (by walk_at "hk"), by decide, by decide, fun dM nM HM dM0 dM1 hbM exM => ?_⟩
  walk_at "ws"
  refine ⟨(by show 3 ≤ sizeLine; decide), fun p5 H5 hp5 e5 h5 => ?_⟩
  walk_at "ws"
  refine wE_call C DT (by walk_at "mem") (by decide) (by rfl) (by rfl) ?_
  walk_at "ws"
  refine ⟨b, _, 3, rfl, (by walk_at "hk"), by decide, by decide, fun dO nO HO dO0 dO1 hbO exO => ?_⟩
  walk_at "ws"
  obtain ⟨v5, ha5, z5, rfl, hz8, hz9⟩ := pick dO0 (show dO < ([.int 0, .int 0, .int dM] : List V).length from dO1) (fun v => ∃ z, v = .int z ∧ 0 ≤ z ∧ z ≤ 3) (all2 ⟨_, rfl, by omega, by omega⟩ (all2 ⟨_, rfl, by omega, by omega⟩ (all1 ⟨_, rfl, by omega, by omega⟩)))
  refine i_list C (fun _ _ => rfl) (SqL.of (by walk_at "hk")) ha5 ?_
  walk_at "ws"
  refine ⟨_, _, rfl, ?_⟩
  walk_at "ws"
  refine wE_call C DT (by walk_at "mem") (by decide) (by rfl) (by rfl) ?_
  walk_at "ws"
  refine ⟨b, _, 3, rfl, (by walk_at "hk"), by decide, by decide, fun dR nR HR dR0 dR1 hbR exR => ?_⟩
  walk_at "ws"
  refine ⟨(by show 6 ≤ sizeLine; decide), fun p6 H6 hp6 e6 h6 => ?_⟩
  walk_at "ws"
  have xR : Exb b H HR := by walk_at "hx"
  have fr : H p6 = none := Exb.free (b := b) (H' := HR) xR hbR hp6
  have xx : Exb b H H6 := fun c o hc z => e6 c o (xR c o hc z)
  exact q ⟨z1, z2, z3, decide (0 < dR), z4, z5⟩ p6 _ H6 ⟨hz1, hz2, hz3, hz4, hz5, hz6, hz7, hz8, hz9⟩ fr h6 (e6 _ _ hbR) xx
end
/-! ### the law's own towns -/
def spTowns : Sp := fun vs H Q _ => ∃ (b : Addr) (n : Int), vs = [.ref b] ∧ H b = some (.lst [.int n]) ∧ ∀ (ts : List Int) p n' H', TwOk ts → H p = none → H' p = some (.tup (ts.map V.int)) → H' b = some (.lst [.int n']) → Exb b H H' → Q (.ref p) H'
section
variable {P : Program} {w : World} {K : PySem.W.Frag} {mg : Str → Option Value} {base : Heap} {f C0 CR PC fr : Addr} {fd : FuncData}
theorem p_towns (F : Fn K "_law_towns" "_law_towns" s__law_towns f fd) (T : TxJ mg) (tt : mg "tuple" = none) (DT : Df P w K mg base 1 "_law_take" ["_law_box_here", "_law_count"] [] spTakeM) : FnOk P w K mg base CX0 2 f fd ["_law_box_here"] spTowns := by
  refine fn_w F sc__law_towns ok__law_towns (fun vs H Q E h => by obtain ⟨b, n, rfl, hb, q⟩ := h; rfl) (fun X vs H Q E C h => ?_)
  obtain ⟨b, n, rfl, hb, q⟩ := h
  show wB X _ _ [some (.ref b), none, none] H
  first | refine wB_one ?_ | refine wB_cons' fun _ _ => ?_
  walk_at "ws"
  refine wE_call C DT (by walk_at "mem") (by decide) (by rfl) (by rfl) ?_
  walk_at "ws"
  refine ⟨b, _, 4, rfl, (by walk_at "hk"), by decide, by decide, fun dA nA HA dA0 dA1 hbA exA => ?_⟩
  walk_at "ws"
  refine wE_call C DT (by walk_at "mem") (by decide) (by rfl) (by rfl) ?_
  walk_at "ws"
  refine ⟨b, _, 30, rfl, (by walk_at "hk"), by decide, by decide, fun dB nB HB dB0 dB1 hbB exB => ?_⟩
  walk_at "ws"
  refine ⟨(by show 3 ≤ sizeLine; decide), fun p1 H1 hp1 e1 g1 => ?_⟩
  walk_at "ws"
  refine wE_call C DT (by walk_at "mem") (by decide) (by rfl) (by rfl) ?_
  walk_at "ws"
  refine ⟨b, _, 3, rfl, (by walk_at "hk"), by decide, by decide, fun dD nD HD dD0 dD1 hbD exD => ?_⟩
  walk_at "ws"
  obtain ⟨v, hv, m, rfl, hm0, hm1⟩ := pick dD0 (show dD < ([.int 1, .int (1 + dA), .int (1 + dB)] : List V).length from dD1) (fun v => ∃ m : Nat, v = .int m ∧ 1 ≤ m ∧ m ≤ 30)
    (all2 ⟨1, rfl, by decide, by decide⟩ (all2 ⟨(1 + dA).toNat, congrArg V.int (Int.toNat_of_nonneg (by omega)).symm, by omega, by omega⟩ (all1 ⟨(1 + dB).toNat, congrArg V.int (Int.toNat_of_nonneg (by omega)).symm, by omega, by omega⟩)))
  refine i_list C (fun _ _ => rfl) (SqL.of (by walk_at "hk")) hv ?_
  have xD : Exb b H HD := by walk_at "hx"
  clear e1 g1 exA exB exD hp1 hbA hbB hv
  walk_at "ws"
  refine wE_callT C tt (by walk_at "mem") boot_tuple (by rfl) (by rfl) ?_
  walk_at "ws"
  refine wE_lcR [("_law_turn", 2)] ["_law_turn", "_law_box_here"] ["_law_turn"] ["_law_take"] C (by decide +kernel) (by decide +kernel) (by decide +kernel) (by rfl) T.range (by walk_at "mem") (by rfl) ?_
  walk_at "ws"
  refine ⟨m, rfl, by omega, fun D hD => ⟨fun i H4 => ∃ (ts : List Int) (n' : Int), H4 D = some (.lst (ts.map V.int)) ∧ ts.length = i ∧ (∀ t ∈ ts, 0 ≤ t ∧ t ≤ 3) ∧ H4 b = some (.lst [.int n']) ∧ Exb b HD H4, ⟨[], _, upd_same, rfl, (fun _ h => nomatch h), by rw [upd_ne (ne_fresh hD hbD).symm]; exact hbD, fun q o _ h => Ex.upd hD _ _ h⟩, ?_, ?_⟩⟩
  · rintro i H4 hi ⟨ts, n', gD, hl, tk, hb4, x4⟩
    have nDb : b ≠ D := (ne_fresh hD hbD).symm
    intro X1 C1
    show wG X1 _ _ [_, _, none] H4 _
    refine wG_name C1 (by walk_at "mem") ?_
    walk_at "ws"
    refine ⟨rfl, ?_⟩
    refine blkT_nil (iteT ?_)
    intro X2 C2
    clear C1 C
    walk_at "ws"
    refine wE_call C2 DT (by walk_at "mem") (by decide) (by rfl) (by rfl) ?_
    walk_at "ws"
    refine ⟨b, _, 4, rfl, hb4, by decide, by decide, fun d n5 H5 d0 d1 hb5 x5 => ?_⟩
    refine ⟨_, x5 _ _ nDb.symm gD, by rw [List.length_map, sizeLine_eq]; omega, ts ++ [d], n5, by rw [upd_same, List.map_append]; rfl, by rw [List.length_append, hl]; rfl, ?_, by rw [upd_ne nDb]; exact hb5, ?_⟩
    · intro t ht
      rcases List.mem_append.mp ht with h | h
      · exact tk t h
      · rw [List.mem_singleton.mp h]; omega
    · intro q o nq h
      rw [upd_ne (fun h' => by rw [h', hD] at h; exact nomatch h)]
      exact x5 _ _ nq (x4 _ _ nq h)
  rintro H4 ⟨ts, n', gD, hl, tk, hb4, x4⟩
  walk_at "ws"
  refine c_tupL C (SqL.of gD) fun p H5 hp e5 g5 => ?_
  have nb5 : p ≠ b := ne_fresh hp hb4
  refine q ts p n' H5 ⟨by omega, by omega, tk⟩ ?_ g5 (e5 _ _ hb4) (fun c o nc h => e5 _ _ (x4 _ _ nc (xD _ _ nc h)))
  cases z : H p with
  | none => rfl
  | some o => rw [x4 _ _ nb5 (xD _ _ nb5 z)] at hp; cases hp
end
/-! ### a journey told rows and sums -/
def RowsAt (H : Hp) (rl : Addr) (rs : List Row) : Prop := ∃ qs : List Addr, H rl = some (.lst (qs.map V.ref)) ∧ Paired (fun q (r : Row) => H q = some (.tup r.vs)) qs rs
theorem RowsAt.ex {H H' : Hp} {rl : Addr} {rs : List Row} (h : RowsAt H rl rs) (x : Ex H H') : RowsAt H' rl rs := let ⟨qs, h1, h2⟩ := h; ⟨qs, x _ _ h1, pair_kx (fun q r m => x _ _ m) h2⟩
def pastOf (rs : List Row) (ns : List Int) : List JSt := (List.range rs.length).map (fun i => (rs.take i, [])) ++ (List.range ns.length).map fun i => (rs, ns.take i)
theorem Ex.kx2 {H H1 H2 : Hp} {a pa : Addr} (x : Ex H H1) (y : Kx (two a pa) H1 H2) (ha : H a = none) (hp : H pa = none) : Ex H H2 := fun c o h => y c o (fun z => by
  rcases z with z | z
  · rw [z, ha] at h; cases h
  · rw [z, hp] at h; cases h) (x c o h)
def spTravel (C CS : Addr) : Sp := fun vs H Q _ => ∃ tc pr rl sl ts b e rs ns, vs = [.ref tc, .ref pr, .ref rl, .ref sl] ∧ H tc = some (.tup (ts.map V.int)) ∧ TwOk ts ∧ H pr = some (.tup [.int b, .int e]) ∧ 0 ≤ b ∧ b ≤ 10 ∧ 0 ≤ e ∧ e ≤ 10 ∧
  RowsAt H rl rs ∧ H sl = some (.lst (ns.map V.int)) ∧ JOk ts (rs, ns) ∧ CS ≠ C ∧ ∀ a pa H', H a = none → H pa = none → Ex H H' → JAt C CS H' a pa ts b e (rs, ns) (pastOf rs ns) → Q (.ref a) H'
section
variable {P : Program} {w : World} {K : PySem.W.Frag} {mg : Str → Option Value} {base : Heap} {f C0 CS : Addr} {fd : FuncData}
/-- a new journey -/
theorem jou_new {y dy tc : Addr} {H : Hp} {ts : List Int} {b e : Int} {J : Hp → Prop} {E : XK} (hy : H y = none) (hdy : H dy = none) (hne : dy ≠ y) (ht : H tc = some (.tup (ts.map V.int))) (tok : TwOk ts) (b0 : 0 ≤ b) (b1 : b ≤ 10) (e0 : 0 ≤ e) (e1 : e ≤ 10)
    (q : ∀ pa H', H pa = none → Ex H H' → JAt C0 CS H' y pa ts b e ([], []) [] → J H') : spInitR C0 CS [.ref y, .ref tc, .int b, .int e] (upd (upd H dy (.own y)) y (.ins C0 dy [])) (fun v H2 => v = .non ∧ J H2) E := by
  have x : Ex H (upd (upd H dy (.own y)) y (.ins C0 dy [])) := Ex.new2 hdy hy hne
  exact ⟨y, dy, tc, ts, b, e, rfl, upd_same, x _ _ ht, tok, b0, b1, e0, e1, fun pa H' m hpa j => ⟨rfl, q pa H' (x.free hpa) (x.mut hy m) j⟩⟩
theorem p_travel (F : Fn K "_law_travel" "_law_travel" s__law_travel f fd) (S : Sj K C0) (MJ : Mx P w K mg base 5 "Journey" C0 [] (spInitR C0 CS)) (DS : Df P w K mg base 6 "_law_spent" ["_law_row_here"] [] (spSpentR CS)) (MSp : Me P w K mg base 3 C0 "spend" [] (spSpendR C0 CS)) (MH : Me P w K mg base 3 C0 "had" [] (spHadR C0 CS)) :
    FnOk P w K mg base CX0 7 f fd ["_law_towns_here", "_law_parts", "_law_rows", "_law_sums"] (spTravel C0 CS) := by
  refine fn_w F sc__law_travel ok__law_travel (fun vs H Q E h => by obtain ⟨tc, pr, rl, sl, ts, b, e, rs, ns, rfl, ht, tok, hpr, b0, b1, e0, e1, hrl, hsl, jok, nc, q⟩ := h; rfl) (fun X vs H Q E C h => ?_)
  obtain ⟨tc, pr, rl, sl, ts, b, e, rs, ns, rfl, ht, tok, hpr, b0, b1, e0, e1, hrl, hsl, jok, nc, q⟩ := h
  show wB X _ _ [some (.ref tc), some (.ref pr), some (.ref rl), some (.ref sl), none, none, none] H
  first | refine wB_one ?_ | refine wB_cons' fun _ _ => ?_
  walk_at "ws"
  refine wE_makeQ C MJ (by walk_at "mem") (by decide) (by rfl) (by rfl) ?_
  walk_at "ws"
  intro a da hy hdy hne
  refine jou_new hy hdy hne ht tok b0 b1 e0 e1 fun pa H1 hpa x1 j1 => ?_
  walk_at "ws"
  obtain ⟨qs, hql, hqs⟩ := id hrl
  refine wS_list C (fun _ => rfl) ?_
  walk_at "ws"
  refine ⟨rl, _, rfl, SqL.of (x1 _ _ hql), fun i σ H' => ∃ y1 y2, σ = [some (.ref tc), some (.ref pr), some (.ref rl), some (.ref sl), some (.ref a), y1, y2] ∧ Ex H H' ∧ JAt C0 CS H' a pa ts b e (rs.take i, []) ((List.range i).map fun i => (rs.take i, [])), ⟨_, _, rfl, x1, j1⟩, ?_, ?_, ?_⟩
  · rintro i σ H' _ ⟨y1, y2, rfl, x, _⟩
    exact SqL.of (x _ _ hql)
  · rintro i y σ H2 hyi ⟨y1, y2, rfl, x2, j2⟩
    obtain ⟨qi, rfl, hqi⟩ := at_refs hyi
    obtain ⟨ri, hri, mi⟩ := Paired.atR hqs hqi
    have rok := jok.rows ri (List.mem_of_getElem? hri)
    have hi : i < rs.length := (List.getElem?_eq_some_iff.mp hri).1
    have hmany : rs.length ≤ 40 := jok.many
    obtain ⟨dx, tw, sp, sm, pps, ha2, _⟩ := id j2
    refine wG_name C (by walk_at "mem") ?_
    walk_at "ws"
    refine wE_methQ C S.cl MSp (by decide) (by rfl) (by rfl) (by rfl) ?_
    walk_at "ws"
    refine ⟨a, dx, _, rfl, ha2, jl_no (by decide +kernel) (by decide +kernel) (by decide +kernel) (by decide +kernel) (by decide +kernel) (by decide +kernel), ?_⟩
    walk_at "ws"
    refine wE_call C DS (by walk_at "mem") (by decide) (by rfl) (by rfl) ?_
    walk_at "ws"
    refine ⟨qi, ri, rfl, x2 _ _ mi, rok.1, fun p H3 hp x3 m3 => ?_⟩
    walk_at "ws"
    refine ⟨a, pa, ts, b, e, _, _, p, ri, rfl, j2.ex x3, m3, rok.1, rok.2, by rw [List.length_take]; omega, by rw [List.length_map, List.length_range]; omega, nc, fun H4 x4 j4 => ?_⟩
    walk_at "ws"
    refine ⟨_, _, rfl, (x2.trans x3).kx2 x4 hy hpa, ?_⟩
    rw [List.take_add_one, hri, List.range_succ, List.map_append]
    exact j4
  rintro σ H2 ⟨y1, y2, rfl, x2, j2⟩
  rw [show (qs.map V.ref).length = rs.length by rw [List.length_map]; exact Paired.length hqs, List.take_length] at j2
  walk_at "st"
  refine wS_list C (fun _ => rfl) ?_
  walk_at "ws"
  refine ⟨sl, _, rfl, SqL.of (x2 _ _ hsl), fun i σ H' => ∃ y1 y2, σ = [some (.ref tc), some (.ref pr), some (.ref rl), some (.ref sl), some (.ref a), y1, y2] ∧ Ex H H' ∧ JAt C0 CS H' a pa ts b e (rs, ns.take i) ((List.range rs.length).map (fun i => (rs.take i, [])) ++ (List.range i).map fun i => (rs, ns.take i)), ⟨_, _, rfl, x2, by rw [List.range_zero, List.map_nil, List.append_nil]; exact j2⟩, ?_, ?_, ?_⟩
  · rintro i σ H' _ ⟨y1, y2, rfl, x, _⟩
    exact SqL.of (x _ _ hsl)
  · rintro i y σ H3 hyi ⟨y1, y2, rfl, x3, j3⟩
    have hmany : rs.length ≤ 40 := jok.many
    have hfew : ns.length ≤ 10 := jok.few
    obtain ⟨n, hn, rfl⟩ : ∃ n, ns[i]? = some n ∧ y = .int n := by
      rw [List.getElem?_map] at hyi
      cases z : ns[i]? with
      | none => rw [z] at hyi; cases hyi
      | some n => rw [z] at hyi; cases hyi; exact ⟨n, rfl, rfl⟩
    have nok := jok.sums n (List.mem_of_getElem? hn)
    have hi : i < ns.length := (List.getElem?_eq_some_iff.mp hn).1
    obtain ⟨dx, tw, sp, sm, pps, ha3, _⟩ := id j3
    refine wG_name C (by walk_at "mem") ?_
    walk_at "ws"
    refine wE_methQ C S.cl MH (by decide) (by rfl) (by rfl) (by rfl) ?_
    walk_at "ws"
    refine ⟨a, dx, _, rfl, ha3, jl_no (by decide +kernel) (by decide +kernel) (by decide +kernel) (by decide +kernel) (by decide +kernel) (by decide +kernel), ?_⟩
    walk_at "ws"
    refine ⟨a, pa, ts, b, e, _, _, n, rfl, j3, nok.1, nok.2, by rw [List.length_take]; omega, by rw [List.length_append, List.length_map, List.length_map, List.length_range, List.length_range]; omega, nc, fun H4 x4 j4 => ?_⟩
    walk_at "ws"
    refine ⟨_, _, rfl, x3.kx2 x4 hy hpa, ?_⟩
    rw [List.take_add_one, hn, List.range_succ, List.map_append, ← List.append_assoc]
    exact j4
  rintro σ H3 ⟨y1, y2, rfl, x3, j3⟩
  rw [List.length_map, List.take_length] at j3
  walk_at "ws"
  exact q a pa H3 hy hpa x3 j3
end
/-! ### things in a drawn order -/
theorem erase_perm {α : Type} : ∀ {l : List α} {i : Nat} (h : i < l.length), (l[i] :: l.eraseIdx i).Perm l
  | [], _, h => absurd h (Nat.not_lt_zero _)
  | x :: l, 0, _ => .refl _
  | x :: l, i + 1, h => by
    rw [List.eraseIdx_cons_succ, List.getElem_cons_succ]
    exact (List.Perm.swap _ _ _).trans (.cons x (erase_perm (Nat.lt_of_succ_lt_succ h)))
def spMixed : Sp := fun vs H Q _ => ∃ (b l : Addr) (n : Int) (xs : List V), vs = [.ref b, .ref l] ∧ H b = some (.lst [.int n]) ∧ H l = some (.lst xs) ∧ l ≠ b ∧ xs.length ≤ 1000 ∧ ∀ ys p n' H', ys.Perm xs → H p = none → H' p = some (.lst ys) → H' b = some (.lst [.int n']) → Exb b H H' → Q (.ref p) H'
def lenAt (H : Hp) (l : Addr) : Nat := match H l with
  | some (.lst xs) => xs.length
  | _ => 0
theorem lenAt_eq {H : Hp} {l : Addr} {xs : List V} (h : H l = some (.lst xs)) : lenAt H l = xs.length := by unfold lenAt; rw [h]
section
variable {P : Program} {w : World} {K : PySem.W.Frag} {mg : Str → Option Value} {base : Heap} {f C0 CS : Addr} {fd : FuncData}
theorem p_mixed (F : Fn K "_law_mixed" "_law_mixed" s__law_mixed f fd) (T : Txt K mg) (tl : mg "list" = none) (DT : Df P w K mg base 1 "_law_take" ["_law_box_here", "_law_count"] [] spTakeM) : FnOk P w K mg base CX0 2 f fd ["_law_box_here", "_law_things"] spMixed := by
  refine fn_w F sc__law_mixed ok__law_mixed (fun vs H Q E h => by obtain ⟨b, l, n, xs, rfl, hb, hl, nlb, lim, q⟩ := h; rfl) (fun X vs H Q E C h => ?_)
  obtain ⟨b, l, n, xs, rfl, hb, hl, nlb, lim, q⟩ := h
  show wB X _ _ [some (.ref b), some (.ref l), none, none] H
  first | refine wB_one ?_ | refine wB_cons' fun _ _ => ?_
  walk_at "ws"
  refine wS_par C (by decide +kernel) (by decide +kernel) (by rfl) (by decide +kernel) (by rfl) (by rfl) (by rfl) (by rfl) ?_
  walk_at "ws"
  refine wE_callT C tl (by walk_at "mem") boot_list (by rfl) (by rfl) ?_
  walk_at "ws"
  refine c_listL C (SqL.of hl) fun lf H1 hlf x1 g1 => ?_
  walk_at "ws"
  refine ⟨(by show 0 ≤ sizeLine; decide), fun fo H2 hfo x2 g2 => ?_⟩
  walk_at "ws"
  refine ⟨_, _, rfl, ?_⟩
  walk_at "ws"
  have nfb : lf ≠ b := ne_fresh hlf hb
  have nob : fo ≠ b := ne_fresh hfo (x1 _ _ hb)
  have nof : fo ≠ lf := ne_fresh hfo g1
  have hfo0 : H fo = none := x1.free hfo
  refine wS_while C (fun σ H' => ∃ xs1 ys1 n1, σ = [some (.ref b), some (.ref l), some (.ref lf), some (.ref fo)] ∧ H' lf = some (.lst xs1) ∧ H' fo = some (.lst ys1) ∧ (ys1 ++ xs1).Perm xs ∧ H' b = some (.lst [.int n1]) ∧ Exb b H H') (fun σ H' => lenAt H' lf) ⟨xs, [], n, rfl, x2 _ _ g1, g2, .refl _, x2 _ _ (x1 _ _ hb), (x1.trans x2).toB⟩ ?_
  rintro σ H3 ⟨xs1, ys1, n1, rfl, hf3, ho3, pm, hb3, x3⟩
  have l1 : xs1.length ≤ 1000 := by have := pm.length_eq; rw [List.length_append] at this; omega
  have l2 : ys1.length ≤ 1000 := by have := pm.length_eq; rw [List.length_append] at this; omega
  walk_at "ws"
  refine ⟨(by show 0 ≤ sizeLine; decide), fun e4 H4 he4 x4 g4 => ?_⟩
  by_cases h0 : xs1 = []
  · subst h0
    refine o_neL (n := 0) (e := fun _ => true) C (by decide) (x4 _ _ hf3) g4 ⟨rfl, fun i x y h => by simp at h⟩ true ⟨fun _ i h => rfl, fun h => by cases h⟩ ?_
    walk_at "ws"
    rw [List.append_nil] at pm
    exact q ys1 fo n1 H4 pm hfo0 (x4 _ _ ho3) (x4 _ _ hb3) (fun c o hc z => x4 c o (x3 c o hc z))
  · refine o_neLU C (x4 _ _ hf3) g4 (by simpa using h0) ?_
    walk_at "ws"
    have hpos : 0 < xs1.length := List.length_pos_iff.mpr h0
    refine wE_append (by rfl) (by rfl) (by rfl) (by rfl) (by rfl) ?_
    walk_at "ws"
    refine ⟨fo, ys1, rfl, x4 _ _ ho3, ?_⟩
    refine wE_popAt (by rfl) (by rfl) (by rfl) (by rfl) (by rfl) ?_
    walk_at "ws"
    refine ⟨lf, rfl, ⟨_, x4 _ _ hf3⟩, ?_⟩
    refine wE_call C DT (by walk_at "mem") (by decide) (by rfl) (by rfl) ?_
    walk_at "ws"
    refine wE_callB C T.len (by walk_at "mem") boot_len (by rfl) (by rfl) ?_
    walk_at "ws"
    refine c_lenL C (SqL.of (x4 _ _ hf3)) ?_
    walk_at "ws"
    refine ⟨b, _, _, rfl, x4 _ _ hb3, by omega, by omega, fun d n5 H5 d0 d1 hb5 x5 => ?_⟩
    obtain ⟨i, rfl⟩ : ∃ i : Nat, d = i := ⟨d.toNat, (Int.toNat_of_nonneg d0).symm⟩
    have hi : i < xs1.length := by omega
    have hf5 := x5 _ _ nfb (x4 _ _ hf3)
    have ho5 := x5 _ _ nob (x4 _ _ ho3)
    refine ⟨xs1, i, xs1[i], rfl, hf5, List.getElem?_eq_getElem hi, by omega, fun H6 x6 g6 => ?_⟩
    refine ⟨x6 _ _ nof ho5, by rw [sizeLine_eq]; omega, fun H7 x7 g7 => ?_⟩
    walk_at "ws"
    have g7f : H7 lf = some (.lst (xs1.eraseIdx i)) := x7 _ _ nof.symm g6
    refine ⟨⟨xs1.eraseIdx i, ys1 ++ [xs1[i]], n5, rfl, g7f, g7, ?_, x7 _ _ nob.symm (x6 _ _ nfb.symm hb5), fun c o hc z => ?_⟩, ?_⟩
    · rw [List.append_assoc, List.singleton_append]
      exact ((erase_perm hi).append_left ys1).trans pm
    · have z5 := x5 c o hc (x4 c o (x3 c o hc z))
      have n6 : c ≠ lf := fun w => by rw [w] at z; rw [z] at hlf; cases hlf
      have n7 : c ≠ fo := fun w => by rw [w, hfo0] at z; cases z
      exact x7 c o n7 (x6 c o n6 z5)
    · rw [lenAt_eq g7f, lenAt_eq hf3, List.length_eraseIdx_of_lt hi]
      omega
end
/-! ### a journey told in a drawn order, others among it -/
theorem pair_perm {α β : Type} {R : α → β → Prop} {xs ys : List α} (p : ys.Perm xs) : ∀ {zs : List β}, Paired R xs zs → ∃ ws : List β, ws.Perm zs ∧ Paired R ys ws := by
  induction p with
  | nil => intro zs h; exact ⟨zs, .refl _, h⟩
  | cons x _ ih =>
    intro zs h
    cases h with
    | cons r t =>
      obtain ⟨ws, p1, p2⟩ := ih t
      exact ⟨_ :: ws, .cons _ p1, .cons r p2⟩
  | swap x y l =>
    intro zs h
    cases h with
    | cons r t =>
      cases t with
      | cons r2 t => exact ⟨_ :: _ :: _, .swap _ _ _, .cons r2 (.cons r t)⟩
  | trans _ _ ih1 ih2 =>
    intro zs h
    obtain ⟨w1, p1, q1⟩ := ih2 h
    obtain ⟨w2, p2, q2⟩ := ih1 q1
    exact ⟨w2, p2.trans p1, q2⟩
inductive Tg where
  | row (r : Row)
  | sum (n : Int)
def TgAt (H : Hp) (v : V) : Tg → Prop
  | .row r => ∃ q, v = .ref q ∧ H q = some (.tup r.vs)
  | .sum n => v = .int n
theorem TgAt.exb {H H' : Hp} {b : Addr} {v : V} {t : Tg} {xs : List V} (h : TgAt H v t) (g : H b = some (.lst xs)) (x : Exb b H H') : TgAt H' v t := by
  cases t with
  | row r => obtain ⟨q, e, h⟩ := h; exact ⟨q, e, x _ _ (tup_neb h g) h⟩
  | sum n => exact h
def rowsOf (ts : List Tg) : List Row := ts.filterMap fun t => match t with
  | .row r => some r
  | .sum _ => none
def sumsOf (ts : List Tg) : List Int := ts.filterMap fun t => match t with
  | .row _ => none
  | .sum n => some n
theorem rowsOf_all (rs : List Row) (ns : List Int) : rowsOf (rs.map Tg.row ++ ns.map Tg.sum) = rs := by
  unfold rowsOf
  rw [List.filterMap_append, List.filterMap_map, List.filterMap_map]
  have e1 : rs.filterMap (fun r => some r) = rs := List.filterMap_some ..
  have e2 : ns.filterMap (fun _ => (none : Option Row)) = [] := by simp
  exact (congr (congrArg _ e1) e2).trans (List.append_nil _)
theorem sumsOf_all (rs : List Row) (ns : List Int) : sumsOf (rs.map Tg.row ++ ns.map Tg.sum) = ns := by
  unfold sumsOf
  rw [List.filterMap_append, List.filterMap_map, List.filterMap_map]
  have e1 : ns.filterMap (fun r => some r) = ns := List.filterMap_some ..
  have e2 : rs.filterMap (fun _ => (none : Option Int)) = [] := by simp
  exact (congr (congrArg _ e2) e1).trans (List.nil_append _)
theorem rowsOf_snoc (ts : List Tg) (r : Row) : rowsOf (ts ++ [.row r]) = rowsOf ts ++ [r] := by unfold rowsOf; rw [List.filterMap_append]; rfl
theorem rowsOf_sum (ts : List Tg) (n : Int) : rowsOf (ts ++ [.sum n]) = rowsOf ts := by unfold rowsOf; rw [List.filterMap_append]; exact List.append_nil _
theorem sumsOf_snoc (ts : List Tg) (n : Int) : sumsOf (ts ++ [.sum n]) = sumsOf ts ++ [n] := by unfold sumsOf; rw [List.filterMap_append]; rfl
theorem sumsOf_row (ts : List Tg) (r : Row) : sumsOf (ts ++ [.row r]) = sumsOf ts := by unfold sumsOf; rw [List.filterMap_append]; exact List.append_nil _
theorem tgs_at {H : Hp} {qs : List Addr} {rs : List Row} (h : Paired (fun q (r : Row) => H q = some (.tup r.vs)) qs rs) (ns : List Int) : Paired (TgAt H) (qs.map V.ref ++ ns.map V.int) (rs.map Tg.row ++ ns.map Tg.sum) := by
  induction h with
  | nil =>
    induction ns with
    | nil => exact .nil
    | cons n ns ih => exact .cons rfl ih
  | cons r _ ih => exact .cons ⟨_, rfl, r⟩ ih
theorem rowsOf_perm {zs ws : List Tg} (h : zs.Perm ws) : (rowsOf zs).Perm (rowsOf ws) := by unfold rowsOf; exact h.filterMap _
theorem sumsOf_perm {zs ws : List Tg} (h : zs.Perm ws) : (sumsOf zs).Perm (sumsOf ws) := by unfold sumsOf; exact h.filterMap _
def spAmong (C CS : Addr) : Sp := fun vs H Q _ => ∃ bx tc pr rl sl n ts b e rs ns, vs = [.ref bx, .ref tc, .ref pr, .ref rl, .ref sl] ∧ H bx = some (.lst [.int n]) ∧ H tc = some (.tup (ts.map V.int)) ∧ TwOk ts ∧ H pr = some (.tup [.int b, .int e]) ∧ 0 ≤ b ∧ b ≤ 10 ∧ 0 ≤ e ∧ e ≤ 10 ∧
  RowsAt H rl rs ∧ H sl = some (.lst (ns.map V.int)) ∧ JOk ts (rs, ns) ∧ rs.length ≤ 30 ∧ CS ≠ C ∧ ∀ a pa n' st past H', H a = none → H pa = none → H' bx = some (.lst [.int n']) → Exb bx H H' → JAt C CS H' a pa ts b e st past → st.1.Perm rs → st.2.Perm ns → past.length ≤ 200 → Q (.ref a) H'
def rowX (d : Int) : Row := ⟨"sundry", 999, d, false, 6, 0⟩
theorem rowX_ok {d : Int} (h1 : 0 ≤ d) (h2 : d ≤ 59) : (rowX d).Ok := ⟨(by decide +kernel : inV (.str "sundry") kindsL = true), by show (1 : Int) ≤ 999; decide, by show (999 : Int) ≤ 1000000; decide, h1, h2, by show (1 : Int) ≤ 6; decide, by show (6 : Int) ≤ 6; decide, by show (0 : Int) ≤ 0; decide, by show (0 : Int) ≤ 3; decide⟩
theorem kit_it : kitB "int" "tuple" = some false := by decide +kernel
/-- a box and a new journey change -/
theorem Exb.kx2 {H H1 H2 : Hp} {b a pa : Addr} (x : Exb b H H1) (y : Kx (two a pa) H1 H2) (ha : H a = none) (hp : H pa = none) : Exb b H H2 := fun c o n h => y c o (fun z => by
  rcases z with z | z
  · rw [z, ha] at h; cases h
  · rw [z, hp] at h; cases h) (x c o n h)
theorem kx_ne {H H' : Hp} {a pa c : Addr} {o : HO} (y : Kx (two a pa) H H') (h : H c = some o) (n1 : c ≠ a) (n2 : c ≠ pa) : H' c = some o := y c o (fun z => z.elim n1 n2) h
section
variable {P : Program} {w : World} {K : PySem.W.Frag} {mg : Str → Option Value} {base : Heap} {f C0 CS : Addr} {fd : FuncData}
theorem p_among (F : Fn K "_law_among" "_law_among" s__law_among f fd) (T : Txt K mg) (T3 : Tx3 mg) (S : Sj K C0) (DT : Df P w K mg base 1 "_law_take" ["_law_box_here", "_law_count"] [] spTakeM) (DM : Df P w K mg base 2 "_law_mixed" ["_law_box_here", "_law_things"] [] spMixed) (MJ : Mx P w K mg base 5 "Journey" C0 [] (spInitR C0 CS)) (DS : Df P w K mg base 6 "_law_spent" ["_law_row_here"] [] (spSpentR CS))
    (MS5 : Mp P w K mg base 4 "Spending" CS [.int 0] (spInit CS)) (MSp : Me P w K mg base 3 C0 "spend" [] (spSpendR C0 CS)) (MH : Me P w K mg base 3 C0 "had" [] (spHadR C0 CS)) (MU : Me P w K mg base 1 C0 "undo" [] (spUndoR C0 CS)) (MSt : Me P w K mg base 3 C0 "strike" [] (spStrikeR C0 CS)) :
    FnOk P w K mg base CX0 7 f fd ["_law_box_here", "_law_towns_here", "_law_parts", "_law_rows", "_law_sums"] (spAmong C0 CS) := by
  refine fn_w F sc__law_among ok__law_among (fun vs H Q E h => by obtain ⟨bx, tc, pr, rl, sl, n, ts, b, e, rs, ns, rfl, hb, ht, tok, hpr, b0, b1, e0, e1, hrl, hsl, jok, l30, nc, q⟩ := h; rfl) (fun X vs H Q E C h => ?_)
  obtain ⟨bx, tc, pr, rl, sl, n, ts, b, e, rs, ns, rfl, hb, ht, tok, hpr, b0, b1, e0, e1, hrl, hsl, jok, l30, nc, q⟩ := h
  show wB X _ _ [some (.ref bx), some (.ref tc), some (.ref pr), some (.ref rl), some (.ref sl), none, none] H
  first | refine wB_one ?_ | refine wB_cons' fun _ _ => ?_
  walk_at "ws"
  have hmany : rs.length ≤ 40 := jok.many
  have hfew : ns.length ≤ 10 := jok.few
  refine wE_makeQ C MJ (by walk_at "mem") (by decide) (by rfl) (by rfl) ?_
  walk_at "ws"
  intro a da hy hdy hne
  refine jou_new hy hdy hne ht tok b0 b1 e0 e1 fun pa H1 hpa x1 j1 => ?_
  walk_at "ws"
  obtain ⟨qs, hql, hqs⟩ := id hrl
  have hlq : qs.length = rs.length := Paired.length hqs
  refine wS_list C (fun _ => rfl) ?_
  walk_at "ws"
  refine wE_call C DM (by walk_at "mem") (by decide) (by rfl) (by rfl) ?_
  walk_at "ws"
  refine o_catL (x1 _ _ hql) (x1 _ _ hsl) (by rw [List.length_map, List.length_map, sizeLine_eq]; omega) fun pl H2 hpl x2 g2 => ?_
  walk_at "ws"
  have x02 := x1.trans x2
  refine ⟨bx, pl, n, _, rfl, x02 _ _ hb, g2, ne_fresh hpl (x1 _ _ hb), by rw [List.length_append, List.length_map, List.length_map]; omega, fun ys yl n3 H3 pm hyl g3 hb3 x3 => ?_⟩
  have tg : Paired (TgAt H) (qs.map V.ref ++ ns.map V.int) (rs.map Tg.row ++ ns.map Tg.sum) := tgs_at hqs ns
  obtain ⟨zs, zp, pz⟩ := pair_perm pm tg
  have nyb : yl ≠ bx := ne_fresh hyl (x02 _ _ hb)
  have hyl0 : H yl = none := x02.free hyl
  have npb : bx ≠ pa := ne_of_none hb hpa
  have npy : yl ≠ pa := fun z => by
    obtain ⟨_, _, _, _, _, _, _, _, h, _⟩ := j1.ex x2
    rw [z, h] at hyl
    cases hyl
  have nya : yl ≠ a := fun z => by
    obtain ⟨_, _, _, _, _, h, _⟩ := j1.ex x2
    rw [z, h] at hyl
    cases hyl
  have j3 : JAt C0 CS H3 a pa ts b e ([], []) [] := (j1.ex x2).box (x02 _ _ hb) npb nc x3
  have x03 : Exb bx H H3 := fun c o hc z => x3 c o hc (x02 c o z)
  refine ⟨yl, ys, rfl, SqL.of g3, fun i σ H' => ∃ y1 n4 st past, σ = [some (.ref bx), some (.ref tc), some (.ref pr), some (.ref rl), some (.ref sl), some (.ref a), y1] ∧ Exb bx H H' ∧ H' bx = some (.lst [.int n4]) ∧ H' yl = some (.lst ys) ∧ JAt C0 CS H' a pa ts b e st past ∧ st.1.Perm (rowsOf (zs.take i)) ∧ st.2.Perm (sumsOf (zs.take i)) ∧ past.length ≤ 3 * i,
    ⟨_, n3, _, _, rfl, x03, hb3, g3, j3, .refl _, .refl _, Nat.le_refl _⟩, ?_, ?_, ?_⟩
  · rintro i σ H' _ ⟨y1, n4, st, past, rfl, _, _, h, _⟩
    exact SqL.of h
  · rintro i y σ H4 hyi ⟨y1, n4, st, past, rfl, x4, hb4, hy4, j4, pr4, ps4, lp4⟩
    obtain ⟨t, hti, tt⟩ := Paired.atR pz hyi
    have hi : i < ys.length := (List.getElem?_eq_some_iff.mp hyi).1
    have hys : ys.length = rs.length + ns.length := by rw [pm.length_eq, List.length_append, List.length_map, List.length_map, hlq]
    have zall : (rowsOf zs).Perm rs := (rowsOf_perm zp).trans (by rw [rowsOf_all])
    have zsum : (sumsOf zs).Perm ns := (sumsOf_perm zp).trans (by rw [sumsOf_all])
    have hst1 : st.1.length ≤ 30 := by
      have z1 : (rowsOf (zs.take i)).length ≤ (rowsOf zs).length := ((List.take_sublist i zs).filterMap _).length_le
      have := pr4.length_eq
      have := zall.length_eq
      omega
    have xok : (rowX (((ts.map V.int).length : Nat) - 1)).Ok := rowX_ok (by rw [List.length_map]; have := tok.1; omega) (by rw [List.length_map]; have := tok.2.1; omega)
    have xday : (rowX (((ts.map V.int).length : Nat) - 1)).day < ts.length := by show (((ts.map V.int).length : Nat) : Int) - 1 < _; rw [List.length_map]; omega
    have ntb : tc ≠ bx := tup_neb ht hb
    have nba : bx ≠ a := ne_of_none hb hy
    refine wG_name C (by walk_at "mem") ?_
    walk_at "ws"
    refine wS_cut (fun σ' H' => ∃ n5 st5 past5, σ' = [some (.ref bx), some (.ref tc), some (.ref pr), some (.ref rl), some (.ref sl), some (.ref a), some y] ∧ Exb bx H H' ∧ H' bx = some (.lst [.int n5]) ∧ H' yl = some (.lst ys) ∧ JAt C0 CS H' a pa ts b e st5 past5 ∧ st5.1.Perm st.1 ∧ st5.2 = st.2 ∧ past5.length ≤ past.length + 2) ?_ ?_
    · refine wS_if ?_
      walk_at "ws"
      refine wE_call C DT (by walk_at "mem") (by decide) (by rfl) (by rfl) ?_
      walk_at "ws"
      refine ⟨bx, _, 3, rfl, hb4, by decide, by decide, fun d5 n5 H5 d50 d51 hb5 x5 => ?_⟩
      walk_at "ws"
      have j5 := j4.box hb4 npb nc x5
      have hy5 := x5 _ _ nyb hy4
      have x05 : Exb bx H H5 := fun c o hc z => x5 c o hc (x4 c o hc z)
      refine iteD (fun h0 => ?_) (fun h0 => ?_)
      rotate_left
      · walk_at "ws"
        exact ⟨n5, st, past, rfl, x05, hb5, hy5, j5, .refl _, rfl, Nat.le_add_right _ _⟩
      obtain ⟨dx5, _, _, _, _, ha5, _⟩ := id j5
      walk_at "ws"
      refine wE_methQ C S.cl MSp (by decide) (by rfl) (by rfl) (by rfl) ?_
      walk_at "ws"
      refine ⟨a, dx5, _, rfl, ha5, jl_no (by decide +kernel) (by decide +kernel) (by decide +kernel) (by decide +kernel) (by decide +kernel) (by decide +kernel), ?_⟩
      walk_at "ws"
      refine wE_make C MS5 (by walk_at "mem") (by decide) (by rfl) (by rfl) ?_
      walk_at "ws"
      refine wE_callB C T.len (by walk_at "mem") boot_len (by rfl) (by rfl) ?_
      walk_at "ws"
      refine c_lenT C (SqT.of (x05 _ _ ntb ht)) ?_
      walk_at "ws"
      intro y6 dy6 hy6 hdy6 hne6
      refine ⟨y6, dy6, rowX (((ts.map V.int).length : Nat) - 1), rfl, xok, upd_same, fun H6 m6 h6 => ⟨rfl, ?_⟩⟩
      obtain ⟨x6, k6⟩ := made_new hy6 hdy6 hne6 m6 h6
      walk_at "ws"
      refine ⟨a, pa, ts, b, e, st, past, y6, _, rfl, j5.ex x6, k6, xok, xday, by omega, by omega, nc, fun H7 x7 j7 => ?_⟩
      have hb7 := kx_ne x7 (x6 _ _ hb5) nba npb
      have hy7 := kx_ne x7 (x6 _ _ hy5) nya npy
      have x07 : Exb bx H H7 := Exb.kx2 (fun c o hc z => x6 c o (x05 c o hc z)) x7 hy hpa
      walk_at "ws"
      refine wS_if ?_
      walk_at "ws"
      refine wE_call C DT (by walk_at "mem") (by decide) (by rfl) (by rfl) ?_
      walk_at "ws"
      refine ⟨bx, _, 2, rfl, hb7, by decide, by decide, fun d8 n8 H8 d80 d81 hb8 x8 => ?_⟩
      walk_at "ws"
      have j8 := j7.box hb7 npb nc x8
      have hy8 := x8 _ _ nyb hy7
      have x08 : Exb bx H H8 := fun c o hc z => x8 c o hc (x07 c o hc z)
      obtain ⟨dx8, _, _, _, _, ha8, _⟩ := id j8
      refine iteD (fun h1 => ?_) (fun h1 => ?_)
      · walk_at "ws"
        refine wE_methQ0 C S.cl MU (by decide) (by rfl) ?_
        walk_at "ws"
        refine ⟨a, dx8, _, rfl, ha8, jl_no (by decide +kernel) (by decide +kernel) (by decide +kernel) (by decide +kernel) (by decide +kernel) (by decide +kernel), ?_⟩
        refine ⟨a, pa, ts, b, e, _, past, st, rfl, j8, by omega, nc, fun H9 x9 j9 => ?_⟩
        walk_at "ws"
        exact ⟨n8, st, past, rfl, x08.kx2 x9 hy hpa, kx_ne x9 hb8 nba npb, kx_ne x9 hy8 nya npy, j9, .refl _, rfl, Nat.le_add_right _ _⟩
      · walk_at "ws"
        refine wE_methQ C S.cl MSt (by decide) (by rfl) (by rfl) (by rfl) ?_
        walk_at "ws"
        refine ⟨a, dx8, _, rfl, ha8, jl_no (by decide +kernel) (by decide +kernel) (by decide +kernel) (by decide +kernel) (by decide +kernel) (by decide +kernel), ?_⟩
        walk_at "ws"
        refine wE_make C MS5 (by walk_at "mem") (by decide) (by rfl) (by rfl) ?_
        walk_at "ws"
        refine wE_callB C T.len (by walk_at "mem") boot_len (by rfl) (by rfl) ?_
        walk_at "ws"
        refine c_lenT C (SqT.of (x08 _ _ ntb ht)) ?_
        walk_at "ws"
        intro y9 dy9 hy9 hdy9 hne9
        refine ⟨y9, dy9, rowX (((ts.map V.int).length : Nat) - 1), rfl, xok, upd_same, fun H9 m9 h9 => ⟨rfl, ?_⟩⟩
        obtain ⟨x9, k9⟩ := made_new hy9 hdy9 hne9 m9 h9
        walk_at "ws"
        obtain ⟨l1, l2, el, nl⟩ := List.eq_append_cons_of_mem (show rowX (((ts.map V.int).length : Nat) - 1) ∈ st.1 ++ [rowX (((ts.map V.int).length : Nat) - 1)] from List.mem_append_right _ List.mem_cons_self)
        refine ⟨a, pa, ts, b, e, _, _, y9, _, l1, l2, rfl, j8.ex x9, k9, el, nl, by rw [List.length_append]; show st.1.length + 1 ≤ _; omega, by rw [List.length_append]; show past.length + 1 < _; omega, nc, fun H10 x10 j10 => ?_⟩
        walk_at "ws"
        refine ⟨n8, (l1 ++ l2, st.2), _, rfl, Exb.kx2 (fun c o hc z => x9 c o (x08 c o hc z)) x10 hy hpa, kx_ne x10 (x9 _ _ hb8) nba npb, kx_ne x10 (x9 _ _ hy8) nya npy, j10, ?_, rfl, by rw [List.length_append, List.length_append]; exact Nat.le_refl _⟩
        have z1 : (rowX (((ts.map V.int).length : Nat) - 1) :: (l1 ++ l2)).Perm (rowX (((ts.map V.int).length : Nat) - 1) :: st.1) := by
          refine (List.perm_middle.symm).trans ?_
          rw [← el]
          exact List.perm_append_comm
        exact z1.cons_inv
    rintro σ' H9 ⟨n5, st5, past5, rfl, x9, hb9, hy9, j9, pr9, ps9, lp9⟩
    have l9 : st5.1.length ≤ 30 := by rw [pr9.length_eq]; exact hst1
    obtain ⟨dx9, _, _, _, _, ha9, _⟩ := id j9
    walk_at "st"
    refine wS_if ?_
    walk_at "ws"
    refine wE_callB C T.isinstance (by walk_at "mem") boot_isinstance (by rfl) (by rfl) ?_
    walk_at "ws"
    refine wE_bltn (v := .ty "tuple") C T3.tup (by walk_at "mem") boot_tuple rfl ?_
    walk_at "ws"
    have etake : zs.take (i + 1) = zs.take i ++ [t] := by rw [List.take_add_one, hti]; rfl
    cases t with
    | row r =>
      obtain ⟨q1, rfl, hq1⟩ := tt
      have hq9 := x9 _ _ (tup_neb hq1 hb) hq1
      have rin : r ∈ rs := by
        have z : Tg.row r ∈ rs.map Tg.row ++ ns.map Tg.sum := zp.mem_iff.mp (List.mem_of_getElem? hti)
        rcases List.mem_append.mp z with z | z
        · obtain ⟨r', hr', e'⟩ := List.mem_map.mp z
          cases e'
          exact hr'
        · obtain ⟨r', hr', e'⟩ := List.mem_map.mp z
          cases e'
      have rok := jok.rows r rin
      refine c_isi C (.ty "tuple") (Thg.tup hq9).tyX kit_tt ?_
      walk_at "ws"
      refine wE_methQ C S.cl MSp (by decide) (by rfl) (by rfl) (by rfl) ?_
      walk_at "ws"
      refine ⟨a, dx9, _, rfl, ha9, jl_no (by decide +kernel) (by decide +kernel) (by decide +kernel) (by decide +kernel) (by decide +kernel) (by decide +kernel), ?_⟩
      walk_at "ws"
      refine wE_call C DS (by walk_at "mem") (by decide) (by rfl) (by rfl) ?_
      walk_at "ws"
      refine ⟨q1, r, rfl, hq9, rok.1, fun p10 H10 hp10 x10 m10 => ?_⟩
      walk_at "ws"
      refine ⟨a, pa, ts, b, e, _, _, p10, r, rfl, j9.ex x10, m10, rok.1, rok.2, by omega, by omega, nc, fun H11 x11 j11 => ?_⟩
      walk_at "ws"
      refine ⟨_, n5, _, _, rfl, Exb.kx2 (fun c o hc z => x10 c o (x9 c o hc z)) x11 hy hpa, kx_ne x11 (x10 _ _ hb9) nba npb, kx_ne x11 (x10 _ _ hy9) nya npy, j11, ?_, ?_, by rw [List.length_append, List.length_singleton]; omega⟩
      · rw [etake, rowsOf_snoc]
        exact (pr9.trans pr4).append_right [r]
      · rw [etake, sumsOf_row]
        show st5.2.Perm _
        rw [ps9]
        exact ps4
    | sum m =>
      obtain rfl : y = .int m := tt
      have min : m ∈ ns := by
        have z : Tg.sum m ∈ rs.map Tg.row ++ ns.map Tg.sum := zp.mem_iff.mp (List.mem_of_getElem? hti)
        rcases List.mem_append.mp z with z | z
        · obtain ⟨r', hr', e'⟩ := List.mem_map.mp z
          cases e'
        · obtain ⟨r', hr', e'⟩ := List.mem_map.mp z
          cases e'
          exact hr'
      have mok := jok.sums m min
      have few : st5.2.length < 10 := by
        have z1 : (sumsOf (zs.take (i + 1))).length ≤ (sumsOf zs).length := ((List.take_sublist (i + 1) zs).filterMap _).length_le
        rw [etake, sumsOf_snoc, List.length_append, List.length_singleton] at z1
        have := ps4.length_eq
        have := zsum.length_eq
        rw [ps9]
        omega
      refine c_isi C (.ty "tuple") (Thg.int m).tyX kit_it ?_
      walk_at "ws"
      refine wE_methQ C S.cl MH (by decide) (by rfl) (by rfl) (by rfl) ?_
      walk_at "ws"
      refine ⟨a, dx9, _, rfl, ha9, jl_no (by decide +kernel) (by decide +kernel) (by decide +kernel) (by decide +kernel) (by decide +kernel) (by decide +kernel), ?_⟩
      walk_at "ws"
      refine ⟨a, pa, ts, b, e, _, _, m, rfl, j9, mok.1, mok.2, few, by omega, nc, fun H11 x11 j11 => ?_⟩
      walk_at "ws"
      refine ⟨_, n5, _, _, rfl, x9.kx2 x11 hy hpa, kx_ne x11 hb9 nba npb, kx_ne x11 hy9 nya npy, j11, ?_, ?_, by rw [List.length_append, List.length_singleton]; omega⟩
      · rw [etake, rowsOf_sum]
        exact pr9.trans pr4
      · rw [etake, sumsOf_snoc]
        show (st5.2 ++ [m]).Perm _
        rw [ps9]
        exact ps4.append_right [m]
  rintro σ H4 ⟨y1, n4, st, past, rfl, x4, hb4, hy4, j4, pr4, ps4, lp4⟩
  have lz : zs.length = ys.length := (Paired.length pz).symm
  have hys : ys.length = rs.length + ns.length := by rw [pm.length_eq, List.length_append, List.length_map, List.length_map, hlq]
  rw [← lz, List.take_length] at pr4 ps4
  walk_at "ws"
  refine q a pa n4 st past H4 hy hpa hb4 x4 j4 ?_ ?_ (by omega)
  · exact pr4.trans ((rowsOf_perm zp).trans (by rw [rowsOf_all]))
  · exact ps4.trans ((sumsOf_perm zp).trans (by rw [sumsOf_all]))
end
/-! ### whether journeys are equal, by their words -/
section
variable {P : Program} {w : World} {K : PySem.W.Frag} {mg : Str → Option Value} {base : Heap} {k j : Nat} {N Vz Sz G : List Str} {sc : Scope} {X : Cx} {H : Hp} {Q : VK} {c CS a a' pa pa' : Addr} {ts ts' : List Int} {b b' e e' : Int} {st st' : JSt} {past past' : List JSt}
theorem eqJ (C : CxI P w K mg base k N Vz Sz G sc X) (M : Mo P w K mg base j c "__eq__" (spEqR K c CS)) (hj : j ≤ k) (ja : JAt c CS H a pa ts b e st past) (jb : JAt c CS H a' pa' ts' b' e' st' past') (l1 : st.2.length ≤ 1000) (l2 : st'.2.length ≤ 1000)
    (q : ∀ t H', (t = true ↔ JSame ts ts' b b' e e' st st') → Ex H H' → Q (.bl t) H') : wO X (compareOp .Eq) (.ref a) (.ref a') H Q := by
  obtain ⟨dx, _, _, _, _, ha, _⟩ := id ja
  obtain ⟨dy, _, _, _, _, hb, _⟩ := id jb
  exact o_eqOwn C M hj ha (ty_ins hb) nf_self ⟨a, pa, ts, b, e, st, past, .ref a', rfl, ja, l1, .inl ⟨a', pa', ts', b', e', st', past', rfl, jb, l2, fun t H' h x => ⟨t, rfl, q t H' h x⟩⟩⟩
theorem neJ (C : CxI P w K mg base k N Vz Sz G sc X) (M : Mo P w K mg base j c "__eq__" (spEqR K c CS)) (hj : j + 1 ≤ k) (F : ClsF K c) (ja : JAt c CS H a pa ts b e st past) (jb : JAt c CS H a' pa' ts' b' e' st' past') (l1 : st.2.length ≤ 1000) (l2 : st'.2.length ≤ 1000)
    (q : ∀ t H', (t = true ↔ JSame ts ts' b b' e e' st st') → Ex H H' → Q (.bl (!t)) H') : wO X (compareOp .NotEq) (.ref a) (.ref a') H Q := by
  obtain ⟨dx, _, _, _, _, ha, _⟩ := id ja
  obtain ⟨dy, _, _, _, _, hb, _⟩ := id jb
  exact o_neOwn C M hj F.mro F.hne ha (ty_ins hb) nf_self ⟨a, pa, ts, b, e, st, past, .ref a', rfl, ja, l1, .inl ⟨a', pa', ts', b', e', st', past', rfl, jb, l2, fun t H' h x => ⟨t, rfl, q t H' h x⟩⟩⟩
theorem eqJ_t (C : CxI P w K mg base k N Vz Sz G sc X) (M : Mo P w K mg base j c "__eq__" (spEqR K c CS)) (hj : j ≤ k) (ja : JAt c CS H a pa ts b e st past) (jb : JAt c CS H a' pa' ts' b' e' st' past') (l1 : st.2.length ≤ 1000) (l2 : st'.2.length ≤ 1000) (s : JSame ts ts' b b' e e' st st')
    (q : ∀ H', Ex H H' → Q (.bl true) H') : wO X (compareOp .Eq) (.ref a) (.ref a') H Q := eqJ C M hj ja jb l1 l2 fun t H' h x => by rw [h.mpr s]; exact q H' x
theorem eqJ_f (C : CxI P w K mg base k N Vz Sz G sc X) (M : Mo P w K mg base j c "__eq__" (spEqR K c CS)) (hj : j ≤ k) (ja : JAt c CS H a pa ts b e st past) (jb : JAt c CS H a' pa' ts' b' e' st' past') (l1 : st.2.length ≤ 1000) (l2 : st'.2.length ≤ 1000) (s : ¬ JSame ts ts' b b' e e' st st')
    (q : ∀ H', Ex H H' → Q (.bl false) H') : wO X (compareOp .Eq) (.ref a) (.ref a') H Q := eqJ C M hj ja jb l1 l2 fun t H' h x => by
  cases t with
  | false => exact q H' x
  | true => exact absurd (h.mp rfl) s
theorem neJ_t (C : CxI P w K mg base k N Vz Sz G sc X) (M : Mo P w K mg base j c "__eq__" (spEqR K c CS)) (hj : j + 1 ≤ k) (F : ClsF K c) (ja : JAt c CS H a pa ts b e st past) (jb : JAt c CS H a' pa' ts' b' e' st' past') (l1 : st.2.length ≤ 1000) (l2 : st'.2.length ≤ 1000) (s : ¬ JSame ts ts' b b' e e' st st')
    (q : ∀ H', Ex H H' → Q (.bl true) H') : wO X (compareOp .NotEq) (.ref a) (.ref a') H Q := neJ C M hj F ja jb l1 l2 fun t H' h x => by
  cases t with
  | false => exact q H' x
  | true => exact absurd (h.mp rfl) s
theorem neJ_f (C : CxI P w K mg base k N Vz Sz G sc X) (M : Mo P w K mg base j c "__eq__" (spEqR K c CS)) (hj : j + 1 ≤ k) (F : ClsF K c) (ja : JAt c CS H a pa ts b e st past) (jb : JAt c CS H a' pa' ts' b' e' st' past') (l1 : st.2.length ≤ 1000) (l2 : st'.2.length ≤ 1000) (s : JSame ts ts' b b' e e' st st')
    (q : ∀ H', Ex H H' → Q (.bl false) H') : wO X (compareOp .NotEq) (.ref a) (.ref a') H Q := neJ C M hj F ja jb l1 l2 fun t H' h x => by rw [h.mpr s]; exact q H' x
/-- xs != [] -/
theorem o_neE {p q : Addr} {xs : List V} (C : CxI P w K mg base (k + 1) N Vz Sz G sc X) (ha : H p = some (.lst xs)) (hb : H q = some (.lst [])) (r : Q (.bl (decide (xs ≠ []))) H) : wO X (compareOp .NotEq) (.ref p) (.ref q) H Q := by
  by_cases h : xs = []
  · subst h
    exact o_neL (n := 0) (e := fun _ => true) C (by omega) ha hb ⟨rfl, fun i x y h => by simp at h⟩ true ⟨fun _ i h => rfl, fun h => by cases h⟩ (by simpa using r)
  · exact o_neLU C ha hb (by simpa using h) (by rw [decide_eq_true h] at r; exact r)
end
/-- what is told of another journey: towns, tenths, rows, sums; M: what may change -/
def Oth (M : Addr → Prop) (ts : List Int) (b e : Int) (st : JSt) (H : Hp) (v : V) : Prop := ∃ q tc pr rl sl ts' b' e' rs ns, v = .ref q ∧ H q = some (.tup [.ref tc, .ref pr, .ref rl, .ref sl]) ∧ H tc = some (.tup (ts'.map V.int)) ∧ TwOk ts' ∧ H pr = some (.tup [.int b', .int e']) ∧ (0 ≤ b' ∧ b' ≤ 10 ∧ 0 ≤ e' ∧ e' ≤ 10) ∧
  RowsAt H rl rs ∧ ¬ M rl ∧ H sl = some (.lst (ns.map V.int)) ∧ ¬ M sl ∧ JOk ts' (rs, ns) ∧ ¬ JSame ts ts' b b' e e' st (rs, ns)
theorem Oth.ex {M : Addr → Prop} {ts : List Int} {b e : Int} {st : JSt} {H H' : Hp} {v : V} (h : Oth M ts b e st H v) (x : Ex H H') : Oth M ts b e st H' v := by
  obtain ⟨q, tc, pr, rl, sl, ts', b', e', rs, ns, rfl, h1, h2, h3, h4, h5, h6, h7, h8, h9, h10, h11⟩ := h
  exact ⟨q, tc, pr, rl, sl, ts', b', e', rs, ns, rfl, x _ _ h1, x _ _ h2, h3, x _ _ h4, h5, h6.ex x, h7, x _ _ h8, h9, h10, h11⟩
theorem Oth.exb {M : Addr → Prop} {ts : List Int} {b e : Int} {st : JSt} {H H' : Hp} {v : V} {c : Addr} {xs : List V} (h : Oth M ts b e st H v) (hc : M c) (g : H c = some (.lst xs)) (x : Exb c H H') : Oth M ts b e st H' v := by
  obtain ⟨q, tc, pr, rl, sl, ts', b', e', rs, ns, rfl, h1, h2, h3, h4, h5, ⟨qs, h6, h6'⟩, h7, h8, h9, h10, h11⟩ := h
  refine ⟨q, tc, pr, rl, sl, ts', b', e', rs, ns, rfl, x _ _ (tup_neb h1 g) h1, x _ _ (tup_neb h2 g) h2, h3, x _ _ (tup_neb h4 g) h4, h5, ⟨qs, x _ _ (fun z => h7 (by rw [z]; exact hc)) h6, pair_kx (fun q r m => x _ _ (tup_neb m g) m) h6'⟩, h7, x _ _ (fun z => h9 (by rw [z]; exact hc)) h8, h9, h10, h11⟩
/-! ### journeys of which one thing is otherwise -/
def spUnlike (C CS : Addr) : Sp := fun vs H Q _ => ∃ bx a pa tc pr rl sl n ts b e rs ns st past, vs = [.ref bx, .ref a, .ref tc, .ref pr, .ref rl, .ref sl] ∧ H bx = some (.lst [.int n]) ∧ JAt C CS H a pa ts b e st past ∧ bx ≠ pa ∧ st.1.Perm rs ∧ st.2.Perm ns ∧ H tc = some (.tup (ts.map V.int)) ∧ TwOk ts ∧ H pr = some (.tup [.int b, .int e]) ∧ (0 ≤ b ∧ b ≤ 10 ∧ 0 ≤ e ∧ e ≤ 10) ∧
  RowsAt H rl rs ∧ rl ≠ bx ∧ H sl = some (.lst (ns.map V.int)) ∧ sl ≠ bx ∧ JOk ts (rs, ns) ∧ rs.length ≤ 30 ∧ ns.length ≤ 8 ∧ CS ≠ C ∧ ∀ n' H', H' bx = some (.lst [.int n']) → Exb bx H H' → Q (.bl true) H'
theorem oth_app {M : Addr → Prop} {ts : List Int} {b e : Int} {st : JSt} {H H1 H2 : Hp} {po : Addr} {os : List V} {v : V} (h : ∀ u ∈ os, Oth M ts b e st H u) (x : Ex H H1) (o : Oth M ts b e st H1 v) (mp : M po) (g : H1 po = some (.lst os)) (m : Exb po H1 H2) : ∀ u ∈ os ++ [v], Oth M ts b e st H2 u := fun u hu => by
  rcases List.mem_append.mp hu with z | z
  · exact ((h u z).ex x).exb mp g m
  · rw [List.mem_singleton.mp z]; exact o.exb mp g m
theorem RowsAt.exb {H H' : Hp} {rl c : Addr} {rs : List Row} {xs : List V} (h : RowsAt H rl rs) (n : rl ≠ c) (g : H c = some (.lst xs)) (x : Exb c H H') : RowsAt H' rl rs := let ⟨qs, h1, h2⟩ := h; ⟨qs, x _ _ n h1, pair_kx (fun q r m => x _ _ (tup_neb m g) m) h2⟩
def evL : List (List Int) := [[1, 3], [2, 2], [4]]
theorem evL_ok : ∀ ms ∈ evL, (∀ n ∈ ms, 1 ≤ n ∧ n ≤ 1000000000) ∧ ms.length ≤ 2 := by decide
theorem three {α : Type} {R : α → List Int → Prop} {as : List α} (h : Paired R as (evL.take 3)) : ∃ a1 a2 a3, as = [a1, a2, a3] ∧ R a1 [1, 3] ∧ R a2 [2, 2] ∧ R a3 [4] := by
  have h' : Paired R as [[1, 3], [2, 2], [4]] := h
  cases h' with
  | cons r1 t =>
    cases t with
    | cons r2 t =>
      cases t with
      | cons r3 t =>
        cases t
        exact ⟨_, _, _, rfl, r1, r2, r3⟩
def rowF (r : Row) : Row := ⟨r.kind, r.bill, r.day, !r.slip, r.heads, r.coin⟩
theorem rowF_ok {r : Row} (h : r.Ok) : (rowF r).Ok := ⟨h.kind, h.b1, h.b2, h.d1, h.d2, h.h1, h.h2, h.c1, h.c2⟩
theorem rowF_ne {r : Row} {l : List Row} : ¬ (r :: l).Perm (rowF r :: l) := fun h => by
  have z := (h.filter (fun x : Row => x.slip)).length_eq
  rw [List.filter_cons, List.filter_cons] at z
  cases e : r.slip with
  | true => rw [if_pos e, if_neg (by show ¬ (!r.slip) = true; rw [e]; decide), List.length_cons] at z; omega
  | false => rw [if_neg (by rw [e]; decide), if_pos (by show (!r.slip) = true; rw [e]; rfl), List.length_cons] at z; omega
def rowB : Row := ⟨"bed", 3, 0, true, 1, 0⟩
theorem rowB_ok : rowB.Ok := ⟨(by decide +kernel : inV (.str "bed") kindsL = true), by decide, by decide, by decide, by decide, by decide, by decide, by decide, by decide⟩
theorem JOk.more {ts : List Int} {rs : List Row} {ns : List Int} {r : Row} (h : JOk ts (rs, ns)) (ok : r.Ok) (d : r.day < ts.length) (l : rs.length < 40) : JOk ts (rs ++ [r], ns) := ⟨fun r' hr' => by
  rcases List.mem_append.mp hr' with z | z
  · exact h.rows r' z
  · rw [List.mem_singleton.mp z]; exact ⟨ok, d⟩, by show (rs ++ [r]).length ≤ 40; rw [List.length_append, List.length_singleton]; omega, h.sums, h.few⟩
theorem JOk.sumsM {ts : List Int} {rs : List Row} {ns ms : List Int} (h : JOk ts (rs, ns)) (ok : ∀ n ∈ ms, 1 ≤ n ∧ n ≤ 1000000000) (l : ns.length + ms.length ≤ 10) : JOk ts (rs, ns ++ ms) := ⟨h.rows, h.many, fun n hn => (List.mem_append.mp hn).elim (h.sums n) (ok n), by show (ns ++ ms).length ≤ 10; rw [List.length_append]; exact l⟩
section
variable {P : Program} {w : World} {K : PySem.W.Frag} {mg : Str → Option Value} {base : Heap} {f C0 CS : Addr} {fd : FuncData}
theorem p_unlike (F : Fn K "_law_unlike_right" "_law_unlike_right" s__law_unlike_right f fd) (T : Txt K mg) (S : Sj K C0) (CF : ClsF K C0) (DT : Df P w K mg base 1 "_law_take" ["_law_box_here", "_law_count"] [] spTakeM) (DTr : Df P w K mg base 7 "_law_travel" ["_law_towns_here", "_law_parts", "_law_rows", "_law_sums"] [] (spTravel C0 CS)) (MEq : Mo P w K mg base 5 C0 "__eq__" (spEqR K C0 CS)) :
    FnOk P w K mg base CX0 8 f fd ["_law_box_here", "_law_one", "_law_towns_here", "_law_parts", "_law_rows", "_law_sums"] (spUnlike C0 CS) := by
  refine fn_w F sc__law_unlike_right ok__law_unlike_right (fun vs H Q E h => by obtain ⟨bx, a, pa, tc, pr, rl, sl, n, ts, b, e, rs, ns, st, past, rfl, hb, j, nbp, pm1, pm2, ht, tok, hpr, ⟨b0, b1, e0, e1⟩, hrl, nrb, hsl, nsb, jok, l30, l8, nc, q⟩ := h; rfl) (fun X vs H Q E C h => ?_)
  obtain ⟨bx, a, pa, tc, pr, rl, sl, n, ts, b, e, rs, ns, st, past, rfl, hb, j, nbp, pm1, pm2, ht, tok, hpr, ⟨b0, b1, e0, e1⟩, hrl, nrb, hsl, nsb, jok, l30, l8, nc, q⟩ := h
  show wB X _ _ [some (.ref bx), some (.ref a), some (.ref tc), some (.ref pr), some (.ref rl), some (.ref sl), none, none, none, none, none, none] H
  first | refine wB_one ?_ | refine wB_cons' fun _ _ => ?_
  walk_at "ws"
  obtain ⟨t0, ts0, rfl⟩ : ∃ t0 ts0, ts = t0 :: ts0 := by
    cases ts with
    | nil => exact absurd tok.1 (by decide)
    | cons t0 ts0 => exact ⟨t0, ts0, rfl⟩
  have le1 := pm1.length_eq
  have le2 := pm2.length_eq
  obtain ⟨qs, hql, hqs⟩ := id hrl
  have hlq : qs.length = rs.length := Paired.length hqs
  refine ⟨(by show 6 ≤ sizeLine; decide), fun q1 H1 hq1 x1 g1 => ?_⟩
  walk_at "ws"
  refine ⟨(by show 1 ≤ sizeLine; decide), fun k1 H2 hk1 x2 g2 => ?_⟩
  walk_at "ws"
  refine o_catL ((x1.trans x2) _ _ hql) g2 (by rw [List.length_map, sizeLine_eq]; show qs.length + 1 ≤ _; omega) fun rl1 H3 hrl1 x3 g3 => ?_
  walk_at "ws"
  refine ⟨(by show 4 ≤ sizeLine; decide), fun t1 H4 ht1 x4 g4 => ?_⟩
  walk_at "ws"
  refine ⟨(by show 1 ≤ sizeLine; decide), fun k2 H5 hk2 x5 g5 => ?_⟩
  walk_at "ws"
  have x05 := (((x1.trans x2).trans x3).trans x4).trans x5
  refine o_catL (x05 _ _ hsl) g5 (by rw [List.length_map, sizeLine_eq]; show ns.length + 1 ≤ _; omega) fun sl2 H6 hsl2 x6 g6 => ?_
  walk_at "ws"
  refine ⟨(by show 4 ≤ sizeLine; decide), fun t2 H7 ht2 x7 g7 => ?_⟩
  walk_at "ws"
  refine ⟨(by show 2 ≤ sizeLine; decide), fun po H8 hpo x8 g8 => ?_⟩
  walk_at "ws"
  have x07 := (x05.trans x6).trans x7
  have x08 := x07.trans x8
  have hpo0 : H po = none := x07.free hpo
  have npb : po ≠ bx := fun z => by rw [z, hb] at hpo0; cases hpo0
  have nrp : rl ≠ po := fun z => by rw [z, hpo0] at hql; cases hql
  have nsp : sl ≠ po := fun z => by rw [z, hpo0] at hsl; cases hsl
  have nsM : ¬ (sl = bx ∨ sl = po) := fun z => z.elim nsb nsp
  have nrM : ¬ (rl = bx ∨ rl = po) := fun z => z.elim nrb nrp
  have g38 : H8 rl1 = some (.lst ((qs ++ [q1]).map V.ref)) := by
    rw [List.map_append]
    exact ((((x4.trans x5).trans x6).trans x7).trans x8) _ _ g3
  have r18 : RowsAt H8 rl1 (rs ++ [rowB]) := ⟨qs ++ [q1], g38, paired_snoc (R := fun q (r : Row) => H8 q = some (.tup r.vs)) ((((((((x2.trans x3).trans x4).trans x5).trans x6).trans x7).trans x8)) _ _ g1) (pair_kx (fun q r m => x08 _ _ m) hqs)⟩
  have o1 : Oth (fun c => c = bx ∨ c = po) (t0 :: ts0) b e st H8 (.ref t1) := by
    refine ⟨t1, tc, pr, rl1, sl, _, b, e, rs ++ [rowB], ns, rfl, (((x5.trans x6).trans x7).trans x8) _ _ g4, x08 _ _ ht, tok, x08 _ _ hpr, ⟨b0, b1, e0, e1⟩, r18, fun z => ?_, x08 _ _ hsl, nsM, jok.more rowB_ok (by show (0 : Int) < _; have := tok.1; omega) (by omega), fun z => ?_⟩
    · rcases z with z | z
      · exact ne_fresh hrl1 ((x1.trans x2) _ _ hb) z
      · rw [z] at g3; rw [((((x4.trans x5).trans x6).trans x7) _ _ g3)] at hpo; cases hpo
    · have w := z.2.2.2.1.length_eq
      rw [show ((rs ++ [rowB], ns) : JSt).1 = rs ++ [rowB] from rfl, List.length_append, List.length_singleton] at w
      omega
  have o2 : Oth (fun c => c = bx ∨ c = po) (t0 :: ts0) b e st H8 (.ref t2) := by
    refine ⟨t2, tc, pr, rl, sl2, _, b, e, rs, ns ++ [1], rfl, x8 _ _ g7, x08 _ _ ht, tok, x08 _ _ hpr, ⟨b0, b1, e0, e1⟩, hrl.ex x08, nrM, ?_, fun z => ?_, jok.sumsM (fun n hn => by rw [List.mem_singleton.mp hn]; decide) (by show ns.length + 1 ≤ 10; omega), fun z => ?_⟩
    · rw [List.map_append]
      exact (x7.trans x8) _ _ g6
    · rcases z with z | z
      · exact ne_fresh hsl2 (x05 _ _ hb) z
      · rw [z] at g6; rw [x7 _ _ g6] at hpo; cases hpo
    · have w := z.2.2.2.2.length_eq
      rw [show ((rs, ns ++ [1]) : JSt).2 = ns ++ [1] from rfl, List.length_append, List.length_singleton] at w
      omega
  have os8 : ∀ u ∈ [V.ref t1, .ref t2], Oth (fun c => c = bx ∨ c = po) (t0 :: ts0) b e st H8 u := all2 o1 (all1 o2)
  have y8 : Exb bx H H8 := x08.toB
  have hb8 := x08 _ _ hb
  have hpr8 := x08 _ _ hpr
  clear o1 o2 r18 g38 x1 g1 hq1 x2 g2 hk1 x3 g3 hrl1 x4 g4 ht1 x5 g5 hk2 x05 x6 g6 hsl2 x7 g7 ht2 x8 x07 hpo
  refine wE_append (by rfl) (by rfl) (by rfl) (by rfl) (by rfl) ?_
  walk_at "ws"
  refine ⟨po, _, rfl, g8, ?_⟩
  walk_at "ws"
  refine ⟨(by show 2 ≤ sizeLine; decide), fun pr3 H9 hpr3 x9 g9 => ?_⟩
  walk_at "ws"
  refine ⟨(by show 4 ≤ sizeLine; decide), fun t3 H10 ht3 x10 g10 => ?_⟩
  refine ⟨(x9.trans x10) _ _ g8, by show 2 < sizeLine; decide, fun H11 m11 g11 => ?_⟩
  have x010 := x08.trans (x9.trans x10)
  have o3 : Oth (fun c => c = bx ∨ c = po) (t0 :: ts0) b e st H10 (.ref t3) := ⟨t3, tc, pr3, rl, sl, _, b, (e + 1) % 11, rs, ns, rfl, g10, x010 _ _ ht, tok, x10 _ _ g9, ⟨b0, b1, by omega, by omega⟩, hrl.ex x010, nrM, x010 _ _ hsl, nsM, jok, fun z => by
    have := z.2.2.1
    omega⟩
  have os11 := oth_app os8 (x9.trans x10) o3 (.inr rfl) ((x9.trans x10) _ _ g8) m11
  have y11 : Exb bx H H11 := (x010.toB).mut hpo0 m11
  have hb11 := m11 _ _ npb.symm (x010 _ _ hb)
  clear o3 os8 x9 g9 hpr3 x10 g10 ht3 m11 g8 x08 x010 y8 hb8 hpr8
  have ht11 : H11 tc = some (.tup (V.int t0 :: ts0.map V.int)) := y11 _ _ (tup_neb ht hb) ht
  have hpr11 := y11 _ _ (tup_neb hpr hb) hpr
  have hrl11 := hrl.exb nrb hb y11
  have hsl11 := y11 _ _ nsb hsl
  walk_at "ws"
  refine wE_append (by rfl) (by rfl) (by rfl) (by rfl) (by rfl) ?_
  walk_at "ws"
  refine ⟨po, _, rfl, g11, ?_⟩
  walk_at "ws"
  refine ⟨(by show 1 ≤ sizeLine; decide), fun c1 H12 hc1 x12 g12 => ?_⟩
  walk_at "ws"
  refine slq_from (x12 _ _ ht11) (by decide) (by show 0 < (ts0.map V.int).length + 1; omega) fun c2 H13 hc2 x13 g13 => ?_
  walk_at "ws"
  rw [show (V.int t0 :: ts0.map V.int).drop (Int.toNat 1) = ts0.map V.int from rfl] at g13
  refine o_catTA C (x13 _ _ g12) g13 (by rw [List.length_map, sizeLine_eq]; have := tok.2.1; show 1 + ts0.length ≤ _; rw [List.length_cons] at this; omega) fun tc4 H14 x14 g14 => ?_
  walk_at "ws"
  refine ⟨(by show 4 ≤ sizeLine; decide), fun t4 H15 ht4 x15 g15 => ?_⟩
  have x1115 := ((x12.trans x13).trans x14).trans x15
  refine ⟨x1115 _ _ g11, by show 3 < sizeLine; decide, fun H16 m16 g16 => ?_⟩
  have o4 : Oth (fun c => c = bx ∨ c = po) (t0 :: ts0) b e st H15 (.ref t4) := ⟨t4, tc4, pr, rl, sl, (t0 + 1) % 4 :: ts0, b, e, rs, ns, rfl, g15, x15 _ _ g14, ⟨tok.1, tok.2.1, fun t h => by
    rcases List.mem_cons.mp h with h | h
    · rw [h]; omega
    · exact tok.2.2 t (List.mem_cons_of_mem _ h)⟩, x1115 _ _ hpr11, ⟨b0, b1, e0, e1⟩, hrl11.ex x1115, nrM, x1115 _ _ hsl11, nsM, ⟨jok.rows, jok.many, jok.sums, jok.few⟩, fun z => by
    have w := z.1
    injection w with w _
    have := tok.2.2 t0 List.mem_cons_self
    omega⟩
  have os16 := oth_app os11 x1115 o4 (.inr rfl) (x1115 _ _ g11) m16
  have y16 : Exb bx H H16 := Exb.mut (fun c o hc z => x1115 c o (y11 c o hc z)) hpo0 m16
  have hb16 := m16 _ _ npb.symm (x1115 _ _ hb11)
  clear o4 os11 x12 g12 hc1 x13 g13 hc2 x14 g14 x15 g15 ht4 m16 g11 x1115 y11 hb11 ht11 hpr11 hrl11 hsl11
  walk_at "ws"
  have ltw : (t0 :: ts0).length ≤ 30 := tok.2.1
  refine wS_cut (fun σ' H' => ∃ y7 y8 n' os, σ' = [some (.ref bx), some (.ref a), some (.ref tc), some (.ref pr), some (.ref rl), some (.ref sl), some (.ref po), y7, y8, none, none, none] ∧ Exb bx H H' ∧ H' bx = some (.lst [.int n']) ∧ H' po = some (.lst os) ∧ os.length ≤ 10 ∧ ∀ v ∈ os, Oth (fun c => c = bx ∨ c = po) (t0 :: ts0) b e st H' v) ?_ ?_
  · have hql16 := y16 _ _ nrb hql
    refine wS_if ?_
    walk_at "ws"
    refine ⟨(by show 0 ≤ sizeLine; decide), fun e17 H17 he17 x17 g17 => ?_⟩
    walk_at "ws"
    refine o_neE C (x17 _ _ hql16) g17 ?_
    walk_at "ws"
    have os17 : ∀ v ∈ _, Oth (fun c => c = bx ∨ c = po) (t0 :: ts0) b e st H17 v := fun v hv => (os16 v hv).ex x17
    have y17 : Exb bx H H17 := fun c o hc z => x17 c o (y16 c o hc z)
    have hb17 := x17 _ _ hb16
    have g17p := x17 _ _ g16
    have hql17 := x17 _ _ hql16
    refine iteD (fun h0 => ?_) (fun h0 => ?_)
    rotate_left
    · walk_at "ws"
      exact ⟨_, _, _, _, rfl, y17, hb17, g17p, by show 4 ≤ 10; decide, os17⟩
    clear x17 hql16 g16 os16 y16 hb16 g17
    walk_at "ws"
    have hpos : 0 < qs.length := List.length_pos_iff.mpr fun z => h0 (by rw [z]; rfl)
    refine wE_call C DT (by walk_at "mem") (by decide) (by rfl) (by rfl) ?_
    walk_at "ws"
    refine wE_callB C T.len (by walk_at "mem") boot_len (by rfl) (by rfl) ?_
    walk_at "ws"
    refine c_lenL C (SqL.of hql17) ?_
    walk_at "ws"
    rw [List.length_map]
    refine ⟨bx, _, _, rfl, hb17, by omega, by omega, fun d n18 H18 d0 d1 hb18 x18 => ?_⟩
    obtain ⟨i, rfl⟩ : ∃ i : Nat, d = i := ⟨d.toNat, (Int.toNat_of_nonneg d0).symm⟩
    have hi : i < rs.length := by omega
    have os18 : ∀ v ∈ _, Oth (fun c => c = bx ∨ c = po) (t0 :: ts0) b e st H18 v := fun v hv => (os17 v hv).exb (.inl rfl) hb17 x18
    have y18 : Exb bx H H18 := fun c o hc z => x18 c o hc (y17 c o hc z)
    have g18 := x18 _ _ npb g17p
    obtain ⟨l1, r, l2, er, el1⟩ : ∃ l1 r l2, rs = l1 ++ r :: l2 ∧ l1.length = i := ⟨rs.take i, rs[i], rs.drop (i + 1), by rw [List.getElem_cons_drop, List.take_append_drop], by rw [List.length_take]; omega⟩
    have hqs' := hqs
    rw [er] at hqs'
    obtain ⟨ls1, ls2, rfl, p1, p2⟩ := paired_cut hqs'
    obtain ⟨q0, ls3, rfl, p0, p3⟩ : ∃ q0 ls3, ls2 = q0 :: ls3 ∧ H q0 = some (.tup r.vs) ∧ Paired (fun q (r : Row) => H q = some (.tup r.vs)) ls3 l2 := by
      cases p2 with
      | cons r t => exact ⟨_, _, rfl, r, t⟩
    have len1 : ls1.length = i := (Paired.length p1).trans el1
    have ql18 : H18 rl = some (.lst ((ls1 ++ q0 :: ls3).map V.ref)) := y18 _ _ nrb hql
    have rok := jok.rows r (by rw [er]; exact List.mem_append_right _ List.mem_cons_self)
    have lrs : rs.length = l1.length + (l2.length + 1) := by rw [er, List.length_append, List.length_cons]
    have lls : l2.length = ls3.length := (Paired.length p3).symm
    clear x18 hql17 hb17 g17p os17 y17
    walk_at "ws"
    refine wE_append (by rfl) (by rfl) (by rfl) (by rfl) (by rfl) ?_
    walk_at "ws"
    refine ⟨po, _, rfl, g18, ?_⟩
    walk_at "ws"
    refine slq_l (SqL.of ql18) (cut_toN (by omega)) fun a1 H19 ha1 x19 g19 => ?_
    walk_at "ws"
    refine slq_l (SqL.of (x19 _ _ ql18)) (cut_fromN (by omega)) fun a2 H20 ha2 x20 g20 => ?_
    walk_at "ws"
    rw [List.map_append, show ((i : Nat) : Int).toNat = (ls1.map V.ref).length by rw [List.length_map, len1]; rfl, List.take_left] at g19
    rw [List.map_append, List.map_cons, show (((i : Nat) : Int) + 1).toNat = (ls1.map V.ref).length + 1 by rw [List.length_map, len1]; omega, ← List.drop_drop, List.drop_left, List.drop_succ_cons, List.drop_zero] at g20
    refine o_catL (x20 _ _ g19) g20 (by rw [List.length_map, List.length_map, sizeLine_eq]; omega) fun rl5 H21 hrl5 x21 g21 => ?_
    walk_at "ws"
    refine ⟨(by show 4 ≤ sizeLine; decide), fun t5 H22 ht5 x22 g22 => ?_⟩
    have x1822 := ((x19.trans x20).trans x21).trans x22
    refine ⟨x1822 _ _ g18, by show 4 < sizeLine; decide, fun H23 m23 g23 => ?_⟩
    have z18 : ∀ {c xs}, H c = some (.tup xs) → H18 c = some (.tup xs) := fun h => y18 _ _ (tup_neb h hb) h
    have n5b : rl5 ≠ bx := ne_fresh hrl5 ((x19.trans x20) _ _ hb18)
    have n5p : rl5 ≠ po := ne_fresh hrl5 ((x19.trans x20) _ _ g18)
    have o5 : Oth (fun c => c = bx ∨ c = po) (t0 :: ts0) b e st H22 (.ref t5) := by
      refine ⟨t5, tc, pr, rl5, sl, _, b, e, l1 ++ l2, ns, rfl, g22, x1822 _ _ (z18 ht), tok, x1822 _ _ (z18 hpr), ⟨b0, b1, e0, e1⟩, ⟨ls1 ++ ls3, ?_, paired_app (pair_kx (fun q r m => x1822 _ _ (z18 m)) p1) (pair_kx (fun q r m => x1822 _ _ (z18 m)) p3)⟩, fun z => z.elim n5b n5p, x1822 _ _ (y18 _ _ nsb hsl), nsM, ⟨fun r' h => jok.rows r' ?_, ?_, jok.sums, jok.few⟩, fun z => ?_⟩
      · rw [List.map_append]
        exact x22 _ _ g21
      · rw [er]
        rcases List.mem_append.mp h with h | h
        · exact List.mem_append_left _ h
        · exact List.mem_append_right _ (List.mem_cons_of_mem _ h)
      · show (l1 ++ l2).length ≤ 40
        rw [List.length_append]
        omega
      · have w := z.2.2.2.1.length_eq
        rw [show ((l1 ++ l2, ns) : JSt).1 = l1 ++ l2 from rfl, List.length_append] at w
        omega
    have os23 := oth_app os18 x1822 o5 (.inr rfl) (x1822 _ _ g18) m23
    have y23 : Exb bx H H23 := Exb.mut (fun c o hc z => x1822 c o (y18 c o hc z)) hpo0 m23
    have hb23 := m23 _ _ npb.symm (x1822 _ _ hb18)
    have ql23 : H23 rl = some (.lst ((ls1 ++ q0 :: ls3).map V.ref)) := y23 _ _ nrb hql
    have hq23 : H23 q0 = some (.tup [.str r.kind, .int r.bill, .int r.day, .bl r.slip, .int r.heads, .int r.coin]) := y23 _ _ (tup_neb p0 hb) p0
    clear o5 os18 x19 g19 ha1 x20 g20 ha2 x21 g21 hrl5 x22 g22 ht5 m23 g18 x1822 y18 hb18 ql18 z18 n5b n5p
    have hat : atI ((ls1 ++ q0 :: ls3).map V.ref) (i : Int) = some (.ref q0) := atI_nat (by rw [List.map_append, List.getElem?_append_right (by rw [List.length_map]; omega), List.length_map, len1, Nat.sub_self]; rfl)
    walk_at "ws"
    refine i_list C (fun _ _ => rfl) (SqL.of ql23) hat ?_
    walk_at "ws"
    refine slq_to hq23 (by decide) (by show (3 : Int) < ((6 : Nat) : Int); decide) fun c3 H24 hc3 x24 g24 => ?_
    have hq24 := x24 _ _ hq23
    walk_at "ws"
    refine i_list C (fun _ _ => rfl) (SqL.of (x24 _ _ ql23)) hat ?_
    walk_at "ws"
    refine ⟨(by show 1 ≤ sizeLine; decide), fun c4 H25 hc4 x25 g25 => ?_⟩
    walk_at "ws"
    refine o_catTA C (x25 _ _ g24) g25 (by show 3 + 1 ≤ sizeLine; decide) fun c5 H26 x26 g26 => ?_
    walk_at "ws"
    refine i_list C (fun _ _ => rfl) (SqL.of (((x24.trans x25).trans x26) _ _ ql23)) hat ?_
    walk_at "ws"
    refine slq_from (((x24.trans x25).trans x26) _ _ hq23) (by decide) (by show 0 < 6; decide) fun c6 H27 hc6 x27 g27 => ?_
    walk_at "ws"
    refine o_catTA C (x27 _ _ g26) g27 (by show 4 + 2 ≤ sizeLine; decide) fun c7 H28 x28 g28 => ?_
    have g28' : H28 c7 = some (.tup (rowF r).vs) := g28
    have x2328 := (((x24.trans x25).trans x26).trans x27).trans x28
    have g28p := x2328 _ _ g23
    have hb28 := x2328 _ _ hb23
    have y28 : Exb bx H H28 := fun c o hc z => x2328 c o (y23 c o hc z)
    have os28 : ∀ v ∈ _, Oth (fun c => c = bx ∨ c = po) (t0 :: ts0) b e st H28 v := fun v hv => (os23 v hv).ex x2328
    have ql28 := x2328 _ _ ql23
    clear hc3 x24 g24 hq24 hc4 x25 g25 x26 g26 hc6 x27 g27 x28 g28 x2328 g23 hb23 y23 os23 ql23 hq23
    walk_at "ws"
    refine wE_append (by rfl) (by rfl) (by rfl) (by rfl) (by rfl) ?_
    walk_at "ws"
    refine ⟨po, _, rfl, g28p, ?_⟩
    walk_at "ws"
    refine slq_l (SqL.of ql28) (cut_toN (by omega)) fun a1 H29 ha1 x29 g29 => ?_
    walk_at "ws"
    refine ⟨(by show 1 ≤ sizeLine; decide), fun a2 H30 ha2 x30 g30 => ?_⟩
    walk_at "ws"
    rw [List.map_append, show ((i : Nat) : Int).toNat = (ls1.map V.ref).length by rw [List.length_map, len1]; rfl, List.take_left] at g29
    refine o_catL (x30 _ _ g29) g30 (by rw [List.length_map, sizeLine_eq]; show ls1.length + 1 ≤ _; omega) fun a3 H31 ha3 x31 g31 => ?_
    walk_at "ws"
    refine slq_l (SqL.of (((x29.trans x30).trans x31) _ _ ql28)) (cut_fromN (by omega)) fun a4 H32 ha4 x32 g32 => ?_
    walk_at "ws"
    rw [List.map_append, List.map_cons, show (((i : Nat) : Int) + 1).toNat = (ls1.map V.ref).length + 1 by rw [List.length_map, len1]; omega, ← List.drop_drop, List.drop_left, List.drop_succ_cons, List.drop_zero] at g32
    refine o_catL (x32 _ _ g31) g32 (by rw [List.length_append, List.length_map, List.length_map, sizeLine_eq]; show ls1.length + 1 + _ ≤ _; omega) fun rl6 H33 hrl6 x33 g33 => ?_
    walk_at "ws"
    refine ⟨(by show 4 ≤ sizeLine; decide), fun t6 H34 ht6 x34 g34 => ?_⟩
    have x2834 := ((((x29.trans x30).trans x31).trans x32).trans x33).trans x34
    refine ⟨x2834 _ _ g28p, by rw [List.length_append]; show 4 + 1 < sizeLine; decide, fun H35 m35 g35 => ?_⟩
    have z28 : ∀ {c xs}, H c = some (.tup xs) → H28 c = some (.tup xs) := fun h => y28 _ _ (tup_neb h hb) h
    have n6b : rl6 ≠ bx := ne_fresh hrl6 ((((x29.trans x30).trans x31).trans x32) _ _ hb28)
    have n6p : rl6 ≠ po := ne_fresh hrl6 ((((x29.trans x30).trans x31).trans x32) _ _ g28p)
    have o6 : Oth (fun c => c = bx ∨ c = po) (t0 :: ts0) b e st H34 (.ref t6) := by
      refine ⟨t6, tc, pr, rl6, sl, _, b, e, l1 ++ [rowF r] ++ l2, ns, rfl, g34, x2834 _ _ (z28 ht), tok, x2834 _ _ (z28 hpr), ⟨b0, b1, e0, e1⟩, ⟨ls1 ++ [c7] ++ ls3, ?_, paired_app (paired_snoc (R := fun q (r : Row) => H34 q = some (.tup r.vs)) (x2834 _ _ g28') (pair_kx (fun q r m => x2834 _ _ (z28 m)) p1)) (pair_kx (fun q r m => x2834 _ _ (z28 m)) p3)⟩, fun z => z.elim n6b n6p, x2834 _ _ (y28 _ _ nsb hsl), nsM, ⟨fun r' h => ?_, ?_, jok.sums, jok.few⟩, fun z => ?_⟩
      · rw [List.map_append, List.map_append]
        exact x34 _ _ g33
      · rcases List.mem_append.mp h with h | h
        · rcases List.mem_append.mp h with h | h
          · exact jok.rows r' (by rw [er]; exact List.mem_append_left _ h)
          · rw [List.mem_singleton.mp h]
            exact ⟨rowF_ok rok.1, rok.2⟩
        · exact jok.rows r' (by rw [er]; exact List.mem_append_right _ (List.mem_cons_of_mem _ h))
      · show (l1 ++ [rowF r] ++ l2).length ≤ 40
        rw [List.length_append, List.length_append, List.length_singleton]
        omega
      · have w : st.1.Perm (l1 ++ [rowF r] ++ l2) := z.2.2.2.1
        rw [List.append_assoc, List.singleton_append] at w
        have w1 := pm1
        rw [er] at w1
        exact rowF_ne ((List.perm_middle.symm.trans w1.symm).trans (w.trans List.perm_middle))
    have os35 := oth_app os28 x2834 o6 (.inr rfl) (x2834 _ _ g28p) m35
    have y35 : Exb bx H H35 := Exb.mut (fun c o hc z => x2834 c o (y28 c o hc z)) hpo0 m35
    have hb35 := m35 _ _ npb.symm (x2834 _ _ hb28)
    walk_at "ws"
    exact ⟨_, _, _, _, rfl, y35, hb35, g35, by rw [List.length_append, List.length_append]; show 4 + 1 + 1 ≤ 10; decide, os35⟩
  rintro σ1 H36 ⟨y7, y8, n36, os, rfl, y36, hb36, g36, l36, os36⟩
  clear os16 y16 hb16 g16
  walk_at "st"
  refine wS_cut (fun σ' H' => ∃ n' os, σ' = [some (.ref bx), some (.ref a), some (.ref tc), some (.ref pr), some (.ref rl), some (.ref sl), some (.ref po), y7, y8, none, none, none] ∧ Exb bx H H' ∧ H' bx = some (.lst [.int n']) ∧ H' po = some (.lst os) ∧ ∀ v ∈ os, Oth (fun c => c = bx ∨ c = po) (t0 :: ts0) b e st H' v) ?_ ?_
  · have hsl36 := y36 _ _ nsb hsl
    refine wS_if ?_
    walk_at "ws"
    refine ⟨(by show 0 ≤ sizeLine; decide), fun e37 H37 he37 x37 g37 => ?_⟩
    walk_at "ws"
    refine o_neE C (x37 _ _ hsl36) g37 ?_
    walk_at "ws"
    refine iteD (fun h0 => ?_) (fun h0 => ?_)
    rotate_left
    · walk_at "ws"
      exact ⟨_, _, rfl, fun c o hc z => x37 c o (y36 c o hc z), x37 _ _ hb36, x37 _ _ g36, fun v hv => (os36 v hv).ex x37⟩
    walk_at "ws"
    refine wE_append (by rfl) (by rfl) (by rfl) (by rfl) (by rfl) ?_
    walk_at "ws"
    refine ⟨po, _, rfl, x37 _ _ g36, ?_⟩
    walk_at "ws"
    refine slq_l (SqL.of (x37 _ _ hsl36)) (cut_fromN (by decide)) fun sl7 H38 hs7 x38 g38 => ?_
    walk_at "ws"
    refine ⟨(by show 4 ≤ sizeLine; decide), fun t7 H39 ht7 x39 g39 => ?_⟩
    have x3639 := (x37.trans x38).trans x39
    refine ⟨x3639 _ _ g36, by rw [sizeLine_eq]; omega, fun H40 m40 g40 => ?_⟩
    have hpos : 0 < ns.length := List.length_pos_iff.mpr fun z => h0 (by rw [z]; rfl)
    have z36 : ∀ {c xs}, H c = some (.tup xs) → H36 c = some (.tup xs) := fun h => y36 _ _ (tup_neb h hb) h
    have n7b : sl7 ≠ bx := ne_fresh hs7 (x37 _ _ hb36)
    have n7p : sl7 ≠ po := ne_fresh hs7 (x37 _ _ g36)
    have o7 : Oth (fun c => c = bx ∨ c = po) (t0 :: ts0) b e st H39 (.ref t7) := by
      refine ⟨t7, tc, pr, rl, sl7, _, b, e, rs, ns.drop (Int.toNat 1), rfl, g39, x3639 _ _ (z36 ht), tok, x3639 _ _ (z36 hpr), ⟨b0, b1, e0, e1⟩, (hrl.exb nrb hb y36).ex x3639, nrM, ?_, fun z => z.elim n7b n7p, ⟨jok.rows, jok.many, fun n hn => jok.sums n (List.mem_of_mem_drop hn), ?_⟩, fun z => ?_⟩
      · rw [List.map_drop]
        exact x39 _ _ g38
      · show (ns.drop (Int.toNat 1)).length ≤ 10
        rw [List.length_drop]
        omega
      · have w := z.2.2.2.2.length_eq
        rw [show ((rs, ns.drop (Int.toNat 1)) : JSt).2 = ns.drop (Int.toNat 1) from rfl, List.length_drop, show Int.toNat 1 = 1 from rfl] at w
        omega
    have os40 := oth_app os36 x3639 o7 (.inr rfl) (x3639 _ _ g36) m40
    walk_at "ws"
    exact ⟨_, _, rfl, Exb.mut (fun c o hc z => x3639 c o (y36 c o hc z)) hpo0 m40, m40 _ _ npb.symm (x3639 _ _ hb36), g40, os40⟩
  clear y36 hb36 g36 l36 os36 n36 os
  rintro σ1 H41 ⟨n41, os, rfl, y41, hb41, g41, os41⟩
  walk_at "st"
  have j41 : JAt C0 CS H41 a pa (t0 :: ts0) b e st past := j.box hb nbp nc y41
  have lst : st.2.length ≤ 1000 := by omega
  refine wS_list C (fun _ => rfl) ?_
  walk_at "ws"
  refine ⟨po, os, rfl, SqL.of g41, fun i σ H' => ∃ y9, σ = [some (.ref bx), some (.ref a), some (.ref tc), some (.ref pr), some (.ref rl), some (.ref sl), some (.ref po), y7, y8, y9, none, none] ∧ Ex H41 H', ⟨_, rfl, Ex.refl _⟩, ?_, ?_, ?_⟩
  · rintro i σ H' _ ⟨y9, rfl, x⟩
    exact SqL.of (x _ _ g41)
  · rintro i v σ H' hv ⟨y9, rfl, x⟩
    obtain ⟨qo, tc', pr', rl', sl', ts', b', e', rs', ns', rfl, k1, k2, k3, k4, ⟨k5, k6, k7, k8⟩, k9, _, k10, _, k11, k12⟩ := (os41 v (List.mem_of_getElem? hv)).ex x
    have l10 : ns'.length ≤ 10 := k11.few
    refine wG_name C (by walk_at "mem") ?_
    walk_at "ws"
    refine wS_if ?_
    walk_at "ws"
    refine wE_call C DTr (by walk_at "mem") (by decide) (by rfl) (by rfl) ?_
    walk_at "ws"
    refine ⟨tc', pr', rl', sl', ts', b', e', rs', ns', rfl, k2, k3, k4, k5, k6, k7, k8, k9, k10, k11, nc, fun a2 pa2 H2 ha2 hpa2 x2 j2 => ?_⟩
    refine eqJ_f C MEq (by decide) (j41.ex (x.trans x2)) j2 lst (by show ns'.length ≤ 1000; omega) k12 fun H3 x3 => ?_
    walk_at "ws"
    exact ⟨_, rfl, x.trans (x2.trans x3)⟩
  rintro σ1 H42 ⟨y9, rfl, x42⟩
  have y42 : Exb bx H H42 := fun c o hc z => x42 c o (y41 c o hc z)
  have hb42 := x42 _ _ hb41
  clear os41 g41 j41 y41 hb41 x42
  have ht42 := y42 _ _ (tup_neb ht hb) ht
  have hpr42 := y42 _ _ (tup_neb hpr hb) hpr
  have hrl42 := hrl.exb nrb hb y42
  have hsl42 := y42 _ _ nsb hsl
  walk_at "ws"
  refine wS_lcL [("_law_more", 11)] ["_law_more", "_law_towns_here", "_law_parts", "_law_rows", "_law_sums"] ["_law_more"] ["_law_travel"] C (by decide +kernel) (by decide +kernel) (by decide +kernel) (by rfl) (by walk_at "mem") (by decide +kernel) (by rfl) (by decide +kernel) (fun _ => rfl) ?_
  walk_at "ws"
  refine ⟨(by show 2 ≤ sizeLine; decide), fun m1 H43 hm1 x43 g43 => ?_⟩
  walk_at "ws"
  refine ⟨(by show 2 ≤ sizeLine; decide), fun m2 H44 hm2 x44 g44 => ?_⟩
  walk_at "ws"
  refine ⟨(by show 1 ≤ sizeLine; decide), fun m3 H45 hm3 x45 g45 => ?_⟩
  walk_at "ws"
  refine ⟨(by show 3 ≤ sizeLine; decide), fun ml H46 hml x46 g46 => ?_⟩
  have x4246 := ((x43.trans x44).trans x45).trans x46
  have prs : Paired (fun v ms => ∃ m, v = V.ref m ∧ H46 m = some (.lst (ms.map V.int))) [V.ref m1, .ref m2, .ref m3] evL := .cons ⟨_, rfl, ((x44.trans x45).trans x46) _ _ g43⟩ (.cons ⟨_, rfl, (x45.trans x46) _ _ g44⟩ (.cons ⟨_, rfl, x46 _ _ g45⟩ .nil))
  have y46 : Exb bx H H46 := fun c o hc z => x4246 c o (y42 c o hc z)
  have hb46 := x4246 _ _ hb42
  have ht46 := x4246 _ _ ht42
  have hpr46 := x4246 _ _ hpr42
  have hrl46 := hrl42.ex x4246
  have hsl46 := x4246 _ _ hsl42
  clear x43 g43 x44 g44 x45 g45 x46 x4246 hm1 hm2 hm3 hml y42 hb42 ht42 hpr42 hrl42 hsl42
  refine ⟨ml, _, rfl, SqL.of g46, fun D hD => ⟨fun i H' => ∃ as : List Addr, H' D = some (.lst (as.map V.ref)) ∧ Ex H46 H' ∧ Paired (fun a2 ms => ∃ pa2 past2, D ≠ pa2 ∧ JAt C0 CS H' a2 pa2 (t0 :: ts0) b e (rs, ns ++ ms) past2) as (evL.take i), ⟨[], upd_same, Ex.upd hD, .nil⟩, ?_, ?_, ?_⟩⟩
  · rintro i H' _ ⟨as, _, x, _⟩
    exact SqL.of (x _ _ g46)
  · rintro i v H' hv ⟨as, gD, x, pra⟩
    obtain ⟨ms, hms, m, rfl, hm⟩ := Paired.atR prs hv
    have okm : (∀ n ∈ ms, 1 ≤ n ∧ n ≤ 1000000000) ∧ ms.length ≤ 2 := evL_ok ms (List.mem_of_getElem? hms)
    intro X1 C1
    show wG X1 _ _ [_, _, _, _, _, _, _, _, _, _, _, none] H' _
    refine wG_name C1 (by walk_at "mem") ?_
    walk_at "ws"
    refine ⟨rfl, ?_⟩
    refine blkT_nil (iteT ?_)
    intro X2 C2
    clear C1 C
    walk_at "ws"
    refine wE_call C2 DTr (by walk_at "mem") (by decide) (by rfl) (by rfl) ?_
    walk_at "ws"
    refine o_catL (x _ _ hsl46) (x _ _ hm) (by rw [List.length_map, List.length_map, sizeLine_eq]; omega) fun s2 H2 hs2 x2 g2 => ?_
    walk_at "ws"
    rw [← List.map_append] at g2
    have xx := x.trans x2
    refine ⟨tc, pr, rl, s2, _, b, e, rs, ns ++ ms, rfl, xx _ _ ht46, tok, xx _ _ hpr46, b0, b1, e0, e1, hrl46.ex xx, g2, jok.sumsM okm.1 (by omega), nc, fun a2 pa2 H3 ha2 hpa2 x3 j3 => ?_⟩
    have gD3 := (x2.trans x3) _ _ gD
    have nDp : D ≠ pa2 := ne_of_none (x2 _ _ gD) hpa2
    refine ⟨_, gD3, ?_, as ++ [a2], by rw [upd_same, List.map_append]; rfl, (xx.trans x3).mut hD Exb.upd, ?_⟩
    · have w := Paired.length pra
      rw [List.length_take, show evL.length = 3 from rfl] at w
      rw [List.length_map, sizeLine_eq]
      omega
    · rw [List.take_add_one, hms, Option.toList_some]
      exact paired_snoc (R := fun u ms => ∃ pa2 past2, D ≠ pa2 ∧ JAt C0 CS (upd H3 D (.lst (as.map V.ref ++ [V.ref a2]))) u pa2 (t0 :: ts0) b e (rs, ns ++ ms) past2) ⟨pa2, _, nDp, j3.box gD3 nDp nc Exb.upd⟩ (pair_kx (fun a4 ms4 ⟨pa4, past4, n4, j4⟩ => ⟨pa4, past4, n4, (j4.ex (x2.trans x3)).box gD3 n4 nc Exb.upd⟩) pra)
  rintro H47 ⟨as, gD, x47, pra⟩
  obtain ⟨a1, a2, a3, rfl, ⟨pa1, past1, _, j1⟩, ⟨pa2, past2, _, j2⟩, ⟨pa3, past3, _, j3⟩⟩ := three pra
  have gD' : H47 D = some (.lst [.ref a1, .ref a2, .ref a3]) := gD
  have ll : ∀ ms : List Int, ms.length ≤ 2 → (((rs, ns ++ ms) : JSt).2).length ≤ 1000 := fun ms h => by
    show (ns ++ ms).length ≤ 1000
    rw [List.length_append]
    omega
  walk_at "ws"
  refine neJ_t C MEq (by decide) CF j1 j2 (ll _ (by decide)) (ll _ (by decide)) (fun z => by have w := (List.perm_append_left_iff ns).mp z.2.2.2.2; exact absurd w (by decide)) fun H48 x48 => ?_
  walk_at "ws"
  refine neJ_t C MEq (by decide) CF (j1.ex x48) (j3.ex x48) (ll _ (by decide)) (ll _ (by decide)) (fun z => by have w := (List.perm_append_left_iff ns).mp z.2.2.2.2; exact absurd w (by decide)) fun H49 x49 => ?_
  walk_at "ws"
  refine neJ_t C MEq (by decide) CF ((j2.ex x48).ex x49) ((j3.ex x48).ex x49) (ll _ (by decide)) (ll _ (by decide)) (fun z => by have w := (List.perm_append_left_iff ns).mp z.2.2.2.2; exact absurd w (by decide)) fun H50 x50 => ?_
  have xl := ((x47.trans x48).trans x49).trans x50
  exact q _ H50 (xl _ _ hb46) (fun c o hc z => xl c o (y46 c o hc z))
end
/-! ### a twin goes on by itself -/
def spTwinRight (C CS : Addr) : Sp := fun vs H Q _ => ∃ bx a pa a' pa' rl ts b e rs st past st' past', vs = [.ref bx, .ref a, .ref a', .ref rl] ∧ JAt C CS H a pa ts b e st past ∧ JAt C CS H a' pa' ts b e st' past' ∧ a ≠ a' ∧ pa ≠ pa' ∧ TwOk ts ∧ (0 ≤ b ∧ b ≤ 10 ∧ 0 ≤ e ∧ e ≤ 10) ∧ st.1.Perm rs ∧ st'.1.Perm rs ∧ st.2.Perm st'.2 ∧ rs.length ≤ 30 ∧ st.2.length ≤ 8 ∧ past.length ≤ 500 ∧ past'.length ≤ 500 ∧
  (∃ xs, H rl = some (.lst xs) ∧ xs.length = rs.length ∧ rl ≠ pa) ∧ CS ≠ C ∧ ∀ H', Kx (two a pa) H H' → JAt C CS H' a pa ts b e st past → Q (.bl true) H'
def rowE : Row := ⟨"fee", 12345, 0, true, 1, 0⟩
theorem rowE_ok : rowE.Ok := ⟨(by decide +kernel : inV (.str "fee") kindsL = true), by decide, by decide, by decide, by decide, by decide, by decide, by decide, by decide⟩
section
variable {P : Program} {w : World} {K : PySem.W.Frag} {mg : Str → Option Value} {base : Heap} {f C0 CS : Addr} {fd : FuncData}
theorem p_twinRight (F : Fn K "_law_twin_right" "_law_twin_right" s__law_twin_right f fd) (T : Txt K mg) (S : Sj K C0) (CF : ClsF K C0) (gJ : mg "Journey" = some (.ref C0)) (MEq : Mo P w K mg base 5 C0 "__eq__" (spEqR K C0 CS)) (MLen : Mo P w K mg base 1 C0 "__len__" (spLenR C0 CS)) (MT : Me P w K mg base 7 C0 "twin" [] (spTwinR C0 CS)) (MSp : Me P w K mg base 3 C0 "spend" [] (spSpendR C0 CS)) (MH : Me P w K mg base 3 C0 "had" [] (spHadR C0 CS)) (MU : Me P w K mg base 1 C0 "undo" [] (spUndoR C0 CS)) (MSt : Me P w K mg base 3 C0 "strike" [] (spStrikeR C0 CS)) (ML : Me P w K mg base 4 C0 "lines" [] (spLinesR C0 CS))
    (MS3 : Mp P w K mg base 4 "Spending" CS [.bl true, .int 1, .int 0] (spInit CS)) : FnOk P w K mg base CX0 8 f fd ["_law_box_here", "_law_one", "_law_other", "_law_rows"] (spTwinRight C0 CS) := by
  refine fn_w F sc__law_twin_right ok__law_twin_right (fun vs H Q E h => by obtain ⟨bx, a, pa, a', pa', rl, ts, b, e, rs, st, past, st', past', rfl, j, j', na, np, tok, ⟨b0, b1, e0, e1⟩, pm1, pm2, pm3, l30, l8, lp, lp', ⟨xs, hrl, hxs, nrp⟩, nc, q⟩ := h; rfl) (fun X vs H Q E C h => ?_)
  obtain ⟨bx, a, pa, a', pa', rl, ts, b, e, rs, st, past, st', past', rfl, j, j', na, np, tok, ⟨b0, b1, e0, e1⟩, pm1, pm2, pm3, l30, l8, lp, lp', ⟨xs, hrl, hxs, nrp⟩, nc, q⟩ := h
  show wB X _ _ [some (.ref bx), some (.ref a), some (.ref a'), some (.ref rl), none, none] H
  first | refine wB_one ?_ | refine wB_cons' fun _ _ => ?_
  walk_at "ws"
  obtain ⟨dx, _, _, _, _, ha, _, _, hpa, _⟩ := id j
  refine wE_methQ0 C S.cl MT (by decide) (by rfl) ?_
  walk_at "ws"
  refine ⟨a, dx, _, rfl, ha, jl_no (by decide +kernel) (by decide +kernel) (by decide +kernel) (by decide +kernel) (by decide +kernel) (by decide +kernel), ?_⟩
  refine ⟨a, pa, ts, b, e, st, past, rfl, j, tok, b0, b1, e0, e1, by omega, nc, fun k pk H1 hk hpk x1 k1 => ?_⟩
  have la := pm1.length_eq
  have lb := pm2.length_eq
  have lc := pm3.length_eq
  walk_at "ws"
  refine wS_if ?_
  walk_at "ws"
  refine neJ_f C MEq (by decide) CF k1 (j.ex x1) (by omega) (by omega) ⟨rfl, rfl, rfl, .refl _, .refl _⟩ fun H2 x2 => ?_
  walk_at "ws"
  obtain ⟨dk, _, _, _, _, hk1, _⟩ := id k1
  refine wE_callB C T.isinstance (by walk_at "mem") boot_isinstance (by rfl) (by rfl) ?_
  walk_at "ws"
  refine wE_glob (v := .ref C0) C (by walk_at "mem") gJ rfl ?_
  walk_at "ws"
  refine c_isi C (.own C0) (CF.ty S.cl (x2 _ _ hk1)) (r := true) (by unfold PySem.W.kitOne; rw [if_pos (beq_self_eq_true _)]) ?_
  walk_at "ws"
  have nka : k ≠ a := (ne_of_none ha hk).symm
  have npk : pk ≠ pa := (ne_of_none hpa hpk).symm
  obtain ⟨dx', _, _, _, _, ha', _, _, hpa', _⟩ := id j'
  have nka' : k ≠ a' := (ne_of_none ha' hk).symm
  have npk' : pk ≠ pa' := (ne_of_none hpa' hpk).symm
  have nrk : rl ≠ pk := ne_of_none hrl hpk
  have rla : rl ≠ a := fun z => by rw [z, ha] at hrl; cases hrl
  have rlk : rl ≠ k := ne_of_none hrl hk
  have x02 := x1.trans x2
  have k2 := k1.ex x2
  refine wE_methQ C S.cl MSp (by decide) (by rfl) (by rfl) (by rfl) ?_
  walk_at "ws"
  refine ⟨k, dk, _, rfl, x2 _ _ hk1, jl_no (by decide +kernel) (by decide +kernel) (by decide +kernel) (by decide +kernel) (by decide +kernel) (by decide +kernel), ?_⟩
  walk_at "ws"
  refine wE_make C MS3 (by walk_at "mem") (by decide) (by rfl) (by rfl) ?_
  walk_at "ws"
  intro y3 dy3 hy3 hdy3 hne3
  refine ⟨y3, dy3, rowE, rfl, rowE_ok, upd_same, fun H3 m3 h3 => ⟨rfl, ?_⟩⟩
  obtain ⟨x3, e3⟩ := made_new hy3 hdy3 hne3 m3 h3
  walk_at "ws"
  refine ⟨k, pk, ts, b, e, st, past, y3, rowE, rfl, k2.ex x3, e3, rowE_ok, by show (0 : Int) < _; have := tok.1; omega, by omega, by omega, nc, fun H4 x4 k4 => ?_⟩
  walk_at "ws"
  have x03 := x02.trans x3
  have j4 := (j.ex x03).other (k2.ex x3) nka.symm npk.symm nc x4
  have j4' := (j'.ex x03).other (k2.ex x3) nka'.symm npk'.symm nc x4
  have x04 : Ex H H4 := x03.kx2 x4 hk hpk
  clear x1 k1 x2 hk1 k2 hy3 hdy3 hne3 m3 h3 x3 e3 x02 x03 x4
  obtain ⟨dk4, _, _, _, _, hk4, _⟩ := id k4
  refine wS_if ?_
  walk_at "ws"
  refine eqJ_f C MEq (by decide) k4 j4 (by show st.2.length ≤ 1000; omega) (by omega) (fun z => ?_) fun H5 x5 => ?_
  · have w := z.2.2.2.1.length_eq
    rw [show ((st.1 ++ [rowE], st.2) : JSt).1 = st.1 ++ [rowE] from rfl, List.length_append, List.length_singleton] at w
    omega
  walk_at "ws"
  refine neJ_f C MEq (by decide) CF (j4.ex x5) (j4'.ex x5) (by omega) (by omega) ⟨rfl, rfl, rfl, pm1.trans pm2.symm, pm3⟩ fun H6 x6 => ?_
  walk_at "ws"
  have x46 := x5.trans x6
  refine wE_callB C T.len (by walk_at "mem") boot_len (by rfl) (by rfl) ?_
  walk_at "ws"
  refine c_lenOwn C MLen (by decide) (x46 _ _ (x04 _ _ ha)) ?_
  refine ⟨a, pa, ts, b, e, st, past, rfl, j4.ex x46, _, rfl, ⟨by omega, by omega⟩, ?_⟩
  walk_at "ws"
  refine wE_callB C T.len (by walk_at "mem") boot_len (by rfl) (by rfl) ?_
  walk_at "ws"
  refine c_lenL C (SqL.of (x46 _ _ (x04 _ _ hrl))) ?_
  walk_at "ws"
  rw [decide_eq_false (show ¬ ((st.1.length : Nat) : Int) ≠ (xs.length : Nat) by omega)]
  walk_at "ws"
  refine wE_callB C T.len (by walk_at "mem") boot_len (by rfl) (by rfl) ?_
  walk_at "ws"
  refine c_lenOwn C MLen (by decide) (x46 _ _ hk4) ?_
  refine ⟨k, pk, ts, b, e, _, _, rfl, k4.ex x46, _, rfl, ⟨by omega, by rw [List.length_append, List.length_singleton]; omega⟩, ?_⟩
  walk_at "ws"
  refine wE_callB C T.len (by walk_at "mem") boot_len (by rfl) (by rfl) ?_
  walk_at "ws"
  refine c_lenL C (SqL.of (x46 _ _ (x04 _ _ hrl))) ?_
  walk_at "ws"
  rw [decide_eq_false (show ¬ ((((st.1 ++ [rowE], st.2) : JSt).1.length : Nat) : Int) ≠ ((xs.length : Nat) : Int) + 1 by
    rw [show ((st.1 ++ [rowE], st.2) : JSt).1 = st.1 ++ [rowE] from rfl, List.length_append, List.length_singleton]; omega)]
  walk_at "ws"
  have k6 := k4.ex x46
  have j6 := j4.ex x46
  have j6' := j4'.ex x46
  have x06 := x04.trans x46
  clear x5 x6 x46 k4 j4 j4' x04
  refine wE_methQ0 C S.cl MU (by decide) (by rfl) ?_
  walk_at "ws"
  obtain ⟨dk6, _, _, _, _, hk6, _⟩ := id k6
  refine ⟨k, dk6, _, rfl, hk6, jl_no (by decide +kernel) (by decide +kernel) (by decide +kernel) (by decide +kernel) (by decide +kernel) (by decide +kernel), ?_⟩
  refine ⟨k, pk, ts, b, e, _, past, st, rfl, k6, by omega, nc, fun H7 x7 k7 => ?_⟩
  have j7 := j6.other k6 nka.symm npk.symm nc x7
  have j7' := j6'.other k6 nka'.symm npk'.symm nc x7
  have x07 : Ex H H7 := x06.kx2 x7 hk hpk
  clear x7 j6 j6' k6 hk6 x06
  obtain ⟨da7, _, _, _, _, ha7, _⟩ := id j7
  walk_at "ws"
  refine wE_methQ C S.cl MH (by decide) (by rfl) (by rfl) (by rfl) ?_
  walk_at "ws"
  refine ⟨a, da7, _, rfl, ha7, jl_no (by decide +kernel) (by decide +kernel) (by decide +kernel) (by decide +kernel) (by decide +kernel) (by decide +kernel), ?_⟩
  walk_at "ws"
  refine ⟨a, pa, ts, b, e, st, past, 77, rfl, j7, by decide, by decide, by omega, by omega, nc, fun H8 x8 j8 => ?_⟩
  have k8 := k7.other j7 nka npk nc x8
  have j8' := j7'.other j7 na.symm np.symm nc x8
  have x08 : Kx (two a pa) H H8 := (Kx.of x07).trans x8
  clear x8 j7 j7' k7 ha7 x07
  walk_at "ws"
  refine wS_if ?_
  walk_at "ws"
  refine neJ_f C MEq (by decide) CF k8 j8' (by omega) (by omega) ⟨rfl, rfl, rfl, pm1.trans pm2.symm, pm3⟩ fun H9 x9 => ?_
  walk_at "ws"
  refine eqJ_f C MEq (by decide) (j8.ex x9) (j8'.ex x9) (by show (st.2 ++ [77]).length ≤ 1000; rw [List.length_append, List.length_singleton]; omega) (by omega) (fun z => ?_) fun H10 x10 => ?_
  · have w := z.2.2.2.2.length_eq
    rw [show ((st.1, st.2 ++ [77]) : JSt).2 = st.2 ++ [77] from rfl, List.length_append, List.length_singleton] at w
    omega
  walk_at "ws"
  have x910 := x9.trans x10
  have j10 := j8.ex x910
  have k10 := k8.ex x910
  have j10' := j8'.ex x910
  have x010 : Kx (two a pa) H H10 := x08.trans (Kx.of x910)
  clear x9 x10 x910 j8 k8 j8' x08
  refine wE_methQ0 C S.cl MU (by decide) (by rfl) ?_
  walk_at "ws"
  obtain ⟨da10, _, _, _, _, ha10, _⟩ := id j10
  refine ⟨a, da10, _, rfl, ha10, jl_no (by decide +kernel) (by decide +kernel) (by decide +kernel) (by decide +kernel) (by decide +kernel) (by decide +kernel), ?_⟩
  refine ⟨a, pa, ts, b, e, _, past, st, rfl, j10, by omega, nc, fun H11 x11 j11 => ?_⟩
  have k11 := k10.other j10 nka npk nc x11
  have j11' := j10'.other j10 na.symm np.symm nc x11
  have x011 : Kx (two a pa) H H11 := x010.trans x11
  clear x11 j10 k10 j10' ha10 x010
  have hrl11 := kx_ne x011 hrl rla nrp
  walk_at "ws"
  refine wS_range1 C T.range (by walk_at "mem") (by rfl) ?_
  walk_at "ws"
  refine wE_callB C T.len (by walk_at "mem") boot_len (by rfl) (by rfl) ?_
  walk_at "ws"
  refine c_lenL C (SqL.of hrl11) ?_
  walk_at "ws"
  refine ⟨xs.length, rfl, by omega, fun i σ H' => ∃ y5 R pst, σ = [some (.ref bx), some (.ref a), some (.ref a'), some (.ref rl), some (.ref k), y5] ∧ Kx (two k pk) H11 H' ∧ JAt C0 CS H' k pk ts b e (R, st.2) pst ∧ R.length = rs.length - i ∧ pst.length ≤ past.length + i, ⟨_, st.1, past, rfl, fun _ _ _ h => h, k11, by omega, Nat.le_refl _⟩, ?_, ?_⟩
  · rintro i σ H' hi ⟨y5, R, pst, rfl, x, kk, lR, lP⟩
    obtain ⟨dkk, _, _, _, _, hkk, _⟩ := id kk
    refine wG_name C (by walk_at "mem") ?_
    walk_at "ws"
    refine wE_methQ C S.cl MSt (by decide) (by rfl) (by rfl) (by rfl) ?_
    walk_at "ws"
    refine ⟨k, dkk, _, rfl, hkk, jl_no (by decide +kernel) (by decide +kernel) (by decide +kernel) (by decide +kernel) (by decide +kernel) (by decide +kernel), ?_⟩
    walk_at "ws"
    refine wE_methQ0 C S.cl ML (by decide) (by rfl) ?_
    walk_at "ws"
    refine ⟨k, dkk, _, rfl, hkk, jl_no (by decide +kernel) (by decide +kernel) (by decide +kernel) (by decide +kernel) (by decide +kernel) (by decide +kernel), ?_⟩
    refine ⟨k, pk, ts, b, e, _, _, rfl, kk, fun p1 qs H1 hp1 x1 g1 m1 => ?_⟩
    obtain ⟨q0, qs0, r0, rs0, rfl, es, m0⟩ : ∃ q0 qs0 r0 rs0, qs = q0 :: qs0 ∧ sortR R = r0 :: rs0 ∧ Made CS H1 q0 r0 := by
      have hl : (sortR R).length = R.length := sortR_len R
      have m1' : Paired (Made CS H1) qs (sortR R) := m1
      cases eq : sortR R with
      | nil => rw [eq] at hl; have : R.length = 0 := hl.symm; omega
      | cons r0 rs0 =>
        rw [eq] at m1'
        cases m1' with
        | cons m t => exact ⟨_, _, r0, rs0, rfl, rfl, m⟩
    have rin : r0 ∈ R := (sortR_perm R).mem_iff.mp (by rw [es]; exact List.mem_cons_self)
    obtain ⟨l1, l2, el, nl⟩ := List.eq_append_cons_of_mem rin
    have g1' : H1 p1 = some (.lst (.ref q0 :: qs0.map V.ref)) := g1
    walk_at "ws"
    refine ⟨k, pk, ts, b, e, _, _, q0, r0, l1, l2, rfl, kk.ex x1, m0, el, nl, by show R.length ≤ 1000; omega, by omega, nc, fun H2 x2 k2 => ?_⟩
    walk_at "ws"
    refine ⟨_, l1 ++ l2, _, rfl, x.trans ((Kx.of x1).trans x2), k2, ?_, by rw [List.length_append, List.length_singleton]; omega⟩
    have w := congrArg List.length el
    rw [List.length_append, List.length_cons] at w
    rw [List.length_append]
    omega
  rintro σ H12 ⟨y5, R, pst, rfl, x12, k12, lR, lP⟩
  have j12 := j11.other k11 nka.symm npk.symm nc x12
  have j12' := j11'.other k11 nka'.symm npk'.symm nc x12
  have hrl12 := kx_ne x12 hrl11 rlk nrk
  have x012 : Kx (two a pa) H H12 := x011.fresh x12 fun c hc => by
    rcases hc with z | z
    · rw [z]; exact .inr hk
    · rw [z]; exact .inr hpk
  obtain ⟨dk12, _, _, _, _, hk12, _⟩ := id k12
  obtain ⟨da12, _, _, _, _, ha12, _⟩ := id j12
  have hR : R.length = 0 := by omega
  walk_at "ws"
  refine wE_callB C T.len (by walk_at "mem") boot_len (by rfl) (by rfl) ?_
  walk_at "ws"
  refine c_lenOwn C MLen (by decide) hk12 ?_
  refine ⟨k, pk, ts, b, e, _, _, rfl, k12, _, rfl, ⟨by show (0 : Int) ≤ (R.length : Nat); omega, by show ((R.length : Nat) : Int) < _; omega⟩, ?_⟩
  walk_at "ws"
  rw [decide_eq_true (show (((R, st.2) : JSt).1.length : Nat) = (0 : Int) by show ((R.length : Nat) : Int) = 0; omega)]
  walk_at "ws"
  refine eqJ_t C MEq (by decide) j12 j12' (by omega) (by omega) ⟨rfl, rfl, rfl, pm1.trans pm2.symm, pm3⟩ fun H13 x13 => ?_
  walk_at "ws"
  refine wE_callB C T.len (by walk_at "mem") boot_len (by rfl) (by rfl) ?_
  walk_at "ws"
  refine c_lenOwn C MLen (by decide) (x13 _ _ ha12) ?_
  refine ⟨a, pa, ts, b, e, st, past, rfl, j12.ex x13, _, rfl, ⟨by omega, by omega⟩, ?_⟩
  walk_at "ws"
  refine wE_callB C T.len (by walk_at "mem") boot_len (by rfl) (by rfl) ?_
  walk_at "ws"
  refine c_lenL C (SqL.of (x13 _ _ hrl12)) ?_
  walk_at "ws"
  rw [decide_eq_true (show ((st.1.length : Nat) : Int) = (xs.length : Nat) by omega)]
  exact q H13 (x012.trans (Kx.of x13)) (j12.ex x13)
end
/-! ### a twin undoes what the first one could undo -/
def fullOf (rs : List Row) (ns : List Int) : List JSt := pastOf rs ns ++ [(rs, ns)]
theorem past_len {rs : List Row} {ns : List Int} : (pastOf rs ns).length = rs.length + ns.length := by
  unfold pastOf
  rw [List.length_append, List.length_map, List.length_map, List.length_range, List.length_range]
theorem full_end {rs : List Row} {ns : List Int} : (fullOf rs ns)[rs.length + ns.length]? = some (rs, ns) := by
  rw [← past_len (rs := rs) (ns := ns)]
  exact List.getElem?_concat_length
theorem full_take {rs : List Row} {ns : List Int} : (fullOf rs ns).take (rs.length + ns.length) = pastOf rs ns := by
  rw [← past_len (rs := rs) (ns := ns)]
  exact List.take_left'  rfl
theorem full_0 {rs : List Row} {ns : List Int} : (fullOf rs ns)[0]? = some ([], []) := by
  cases rs with
  | cons r rs =>
    unfold fullOf pastOf
    rw [List.length_cons, List.range_succ_eq_map]
    rfl
  | nil =>
    cases ns with
    | nil => rfl
    | cons n ns =>
      unfold fullOf pastOf
      rw [List.length_cons, List.range_succ_eq_map]
      rfl
def spUndone (C CS : Addr) : Sp := fun vs H Q _ => ∃ tc pr rl sl ts b e rs ns, vs = [.ref tc, .ref pr, .ref rl, .ref sl] ∧ H tc = some (.tup (ts.map V.int)) ∧ TwOk ts ∧ H pr = some (.tup [.int b, .int e]) ∧ (0 ≤ b ∧ b ≤ 10 ∧ 0 ≤ e ∧ e ≤ 10) ∧
  RowsAt H rl rs ∧ H sl = some (.lst (ns.map V.int)) ∧ JOk ts (rs, ns) ∧ CS ≠ C ∧ ∀ H', Ex H H' → Q (.bl true) H'
section
variable {P : Program} {w : World} {K : PySem.W.Frag} {mg : Str → Option Value} {base : Heap} {f C0 CS : Addr} {fd : FuncData}
theorem p_undone (F : Fn K "_law_undone_right" "_law_undone_right" s__law_undone_right f fd) (T : Txt K mg) (S : Sj K C0) (CF : ClsF K C0) (DTr : Df P w K mg base 7 "_law_travel" ["_law_towns_here", "_law_parts", "_law_rows", "_law_sums"] [] (spTravel C0 CS)) (MJ : Mx P w K mg base 5 "Journey" C0 [] (spInitR C0 CS)) (MEq : Mo P w K mg base 5 C0 "__eq__" (spEqR K C0 CS)) (MT : Me P w K mg base 7 C0 "twin" [] (spTwinR C0 CS)) (MU : Me P w K mg base 1 C0 "undo" [] (spUndoR C0 CS)) :
    FnOk P w K mg base CX0 8 f fd ["_law_towns_here", "_law_parts", "_law_rows", "_law_sums"] (spUndone C0 CS) := by
  refine fn_w F sc__law_undone_right ok__law_undone_right (fun vs H Q E h => by obtain ⟨tc, pr, rl, sl, ts, b, e, rs, ns, rfl, ht, tok, hpr, ⟨b0, b1, e0, e1⟩, hrl, hsl, jok, nc, q⟩ := h; rfl) (fun X vs H Q E C h => ?_)
  obtain ⟨tc, pr, rl, sl, ts, b, e, rs, ns, rfl, ht, tok, hpr, ⟨b0, b1, e0, e1⟩, hrl, hsl, jok, nc, q⟩ := h
  show wB X _ _ [some (.ref tc), some (.ref pr), some (.ref rl), some (.ref sl), none, none, none, none] H
  first | refine wB_one ?_ | refine wB_cons' fun _ _ => ?_
  walk_at "ws"
  have hmany : rs.length ≤ 40 := jok.many
  have hfew : ns.length ≤ 10 := jok.few
  refine wS_par C (by decide +kernel) (by decide +kernel) (by rfl) (by decide +kernel) (by rfl) (by rfl) (by rfl) (by rfl) ?_
  walk_at "ws"
  refine wE_call C DTr (by walk_at "mem") (by decide) (by rfl) (by rfl) ?_
  walk_at "ws"
  refine ⟨tc, pr, rl, sl, ts, b, e, rs, ns, rfl, ht, tok, hpr, b0, b1, e0, e1, hrl, hsl, jok, nc, fun a pa H1 ha hpa x1 j1 => ?_⟩
  walk_at "ws"
  refine wE_makeQ C MJ (by walk_at "mem") (by decide) (by rfl) (by rfl) ?_
  walk_at "ws"
  have ht1 := x1 _ _ ht
  have hpr1 := x1 _ _ hpr
  intro z dz hz hdz hnz
  refine jou_new hz hdz hnz ht1 tok b0 b1 e0 e1 fun pz H2 hpz x2 jz => ?_
  walk_at "ws"
  have a2 := j1.ex x2
  have x02 := x1.trans x2
  refine ⟨_, _, rfl, ?_⟩
  walk_at "ws"
  refine wE_methQ0 C S.cl MT (by decide) (by rfl) ?_
  walk_at "ws"
  obtain ⟨da, _, _, _, _, ha2, _⟩ := id a2
  refine ⟨a, da, _, rfl, ha2, jl_no (by decide +kernel) (by decide +kernel) (by decide +kernel) (by decide +kernel) (by decide +kernel) (by decide +kernel), ?_⟩
  have lp : (pastOf rs ns).length < 1000 := by rw [past_len]; omega
  refine ⟨a, pa, ts, b, e, _, _, rfl, a2, tok, b0, b1, e0, e1, lp, nc, fun k pk H3 hk hpk x3 j3 => ?_⟩
  walk_at "ws"
  have a3 := a2.ex x3
  have z3 := jz.ex x3
  have x03 := x02.trans x3
  obtain ⟨qs, hql, hqs⟩ := id hrl
  have hlq : qs.length = rs.length := Paired.length hqs
  refine wS_range1 C T.range (by walk_at "mem") (by rfl) ?_
  walk_at "ws"
  refine wE_callB C T.len (by walk_at "mem") boot_len (by rfl) (by rfl) ?_
  walk_at "ws"
  refine c_lenL C (SqL.of (x03 _ _ hql)) ?_
  walk_at "ws"
  refine wE_callB C T.len (by walk_at "mem") boot_len (by rfl) (by rfl) ?_
  walk_at "ws"
  refine c_lenL C (SqL.of (x03 _ _ hsl)) ?_
  walk_at "ws"
  refine ⟨rs.length + ns.length, by rw [List.length_map, List.length_map, hlq]; rfl, by omega, fun i σ H' => ∃ y8 st, σ = [some (.ref tc), some (.ref pr), some (.ref rl), some (.ref sl), some (.ref a), some (.ref z), some (.ref k), y8] ∧ Kx (two k pk) H3 H' ∧ (fullOf rs ns)[rs.length + ns.length - i]? = some st ∧ JAt C0 CS H' k pk ts b e st ((fullOf rs ns).take (rs.length + ns.length - i)), ⟨_, _, rfl, fun _ _ _ h => h, full_end, by rw [Nat.sub_zero, full_take]; exact j3⟩, ?_, ?_⟩
  · rintro i σ H' hi ⟨y8, st, rfl, x, hst, kk⟩
    obtain ⟨dk, _, _, _, _, hk', _⟩ := id kk
    obtain ⟨m, hm⟩ : ∃ m, rs.length + ns.length - i = m + 1 := ⟨rs.length + ns.length - i - 1, by omega⟩
    have hlt : m < (fullOf rs ns).length := by unfold fullOf; rw [List.length_append, past_len]; omega
    have hg : (fullOf rs ns)[m]? = some (fullOf rs ns)[m] := List.getElem?_eq_getElem hlt
    rw [hm, List.take_add_one, hg] at kk
    refine wG_name C (by walk_at "mem") ?_
    walk_at "ws"
    refine wE_methQ0 C S.cl MU (by decide) (by rfl) ?_
    walk_at "ws"
    refine ⟨k, dk, _, rfl, hk', jl_no (by decide +kernel) (by decide +kernel) (by decide +kernel) (by decide +kernel) (by decide +kernel) (by decide +kernel), ?_⟩
    refine ⟨k, pk, ts, b, e, _, _, _, rfl, kk, by rw [List.length_take]; omega, nc, fun H4 x4 k4 => ?_⟩
    walk_at "ws"
    have hm' : rs.length + ns.length - (i + 1) = m := by omega
    exact ⟨_, _, rfl, x.trans x4, by rw [hm']; exact hg, by rw [hm']; exact k4⟩
  rintro σ H4 ⟨y8, st, rfl, x4, hst, k4⟩
  rw [Nat.sub_self, full_0] at hst
  obtain rfl : ([], []) = st := Option.some.inj hst
  rw [Nat.sub_self, List.take_zero] at k4
  obtain ⟨da1, _, _, _, _, ha1, _, _, hpa1, _⟩ := id j1
  obtain ⟨dz2, _, _, _, _, hz2, _, _, hpz2, _⟩ := id jz
  obtain ⟨da2, _, _, _, _, _, _, _, hpa2, _⟩ := id a2
  have nka : k ≠ a := (ne_of_none ha2 hk).symm
  have npk : pk ≠ pa := (ne_of_none hpa2 hpk).symm
  have nkz : k ≠ z := (ne_of_none hz2 hk).symm
  have npkz : pk ≠ pz := (ne_of_none hpz2 hpk).symm
  have naz : a ≠ z := ne_of_none ha1 hz
  have npz : pa ≠ pz := ne_of_none hpa1 hpz
  have a4 := a3.other j3 nka.symm npk.symm nc x4
  have z4 := z3.other j3 nkz.symm npkz.symm nc x4
  have x04 : Ex H H4 := x03.kx2 x4 (x02.free hk) (x02.free hpk)
  clear a2 a3 z3 x03 x3 j3 jz x2 hk hpk ha2 hz2 hpz2 hpa2 ha1 hpa1 x4 j1
  walk_at "st"
  refine wS_if ?_
  walk_at "ws"
  refine neJ_f C MEq (by decide) CF k4 z4 (by decide) (by decide) ⟨rfl, rfl, rfl, .refl _, .refl _⟩ fun H5 x5 => ?_
  walk_at "ws"
  have x05 := x04.trans x5
  refine wE_call C DTr (by walk_at "mem") (by decide) (by rfl) (by rfl) ?_
  walk_at "ws"
  refine ⟨tc, pr, rl, sl, ts, b, e, rs, ns, rfl, x05 _ _ ht, tok, x05 _ _ hpr, b0, b1, e0, e1, hrl.ex x05, x05 _ _ hsl, jok, nc, fun o po H6 ho hpo x6 j6 => ?_⟩
  walk_at "ws"
  have x46 := x5.trans x6
  refine neJ_f C MEq (by decide) CF (a4.ex x46) j6 (by show ns.length ≤ 1000; omega) (by show ns.length ≤ 1000; omega) ⟨rfl, rfl, rfl, .refl _, .refl _⟩ fun H7 x7 => ?_
  walk_at "ws"
  have x47 := x46.trans x7
  have a7 := a4.ex x47
  have z7 := z4.ex x47
  have k7 := k4.ex x47
  have x07 := x04.trans x47
  clear k4 a4 z4 x04 x05 x5 x6 j6 x46 x7 x47 ho hpo
  refine wS_try0 C fun X' C' => ?_
  walk_at "ws"
  refine wS_range1 C' T.range (by walk_at "mem") (by rfl) ?_
  walk_at "ws"
  refine wE_callB C' T.len (by walk_at "mem") boot_len (by rfl) (by rfl) ?_
  walk_at "ws"
  refine c_lenL C' (SqL.of (x07 _ _ hql)) ?_
  walk_at "ws"
  refine wE_callB C' T.len (by walk_at "mem") boot_len (by rfl) (by rfl) ?_
  walk_at "ws"
  refine c_lenL C' (SqL.of (x07 _ _ hsl)) ?_
  walk_at "ws"
  refine ⟨rs.length + ns.length, by rw [List.length_map, List.length_map, hlq]; rfl, by omega, fun i σ H' => ∃ y8 st, σ = [some (.ref tc), some (.ref pr), some (.ref rl), some (.ref sl), some (.ref a), some (.ref z), some (.ref k), y8] ∧ Kx (two a pa) H7 H' ∧ (fullOf rs ns)[rs.length + ns.length - i]? = some st ∧ JAt C0 CS H' a pa ts b e st ((fullOf rs ns).take (rs.length + ns.length - i)), ⟨_, _, rfl, fun _ _ _ h => h, full_end, by rw [Nat.sub_zero, full_take]; exact a7⟩, ?_, ?_⟩
  · rintro i σ H' hi ⟨y8, st, rfl, x, hst, kk⟩
    obtain ⟨dk, _, _, _, _, hk', _⟩ := id kk
    obtain ⟨m, hm⟩ : ∃ m, rs.length + ns.length - i = m + 1 := ⟨rs.length + ns.length - i - 1, by omega⟩
    have hlt : m < (fullOf rs ns).length := by unfold fullOf; rw [List.length_append, past_len]; omega
    have hg : (fullOf rs ns)[m]? = some (fullOf rs ns)[m] := List.getElem?_eq_getElem hlt
    rw [hm, List.take_add_one, hg] at kk
    refine wG_name C' (by walk_at "mem") ?_
    walk_at "ws"
    refine wE_methQ0 C' S.cl MU (by decide) (by rfl) ?_
    walk_at "ws"
    refine ⟨a, dk, _, rfl, hk', jl_no (by decide +kernel) (by decide +kernel) (by decide +kernel) (by decide +kernel) (by decide +kernel) (by decide +kernel), ?_⟩
    refine ⟨a, pa, ts, b, e, _, _, _, rfl, kk, by rw [List.length_take]; omega, nc, fun H4 x4 k4 => ?_⟩
    walk_at "ws"
    have hm' : rs.length + ns.length - (i + 1) = m := by omega
    exact ⟨_, _, rfl, x.trans x4, by rw [hm']; exact hg, by rw [hm']; exact k4⟩
  rintro σ H8 ⟨y9, st, rfl, x8, hst, a8⟩
  rw [Nat.sub_self, full_0] at hst
  obtain rfl : ([], []) = st := Option.some.inj hst
  rw [Nat.sub_self, List.take_zero] at a8
  have k8 := k7.other a7 nka npk nc x8
  have z8 := z7.other a7 naz.symm npz.symm nc x8
  have x08 : Ex H H8 := x07.kx2 x8 ha hpa
  clear a7 z7 k7 x07 x8
  clear C'
  walk_at "ws"
  refine eqJ_t C MEq (by decide) a8 z8 (by decide) (by decide) ⟨rfl, rfl, rfl, .refl _, .refl _⟩ fun H9 x9 => ?_
  walk_at "ws"
  refine eqJ_t C MEq (by decide) (k8.ex x9) (z8.ex x9) (by decide) (by decide) ⟨rfl, rfl, rfl, .refl _, .refl _⟩ fun H10 x10 => ?_
  walk_at "ws"
  exact q H10 (x08.trans (x9.trans x10))
end
/-! ### the law -/
def spLaw (K : PySem.W.Frag) : Sp := fun vs H Q _ => ∃ (a : Addr) (ns : List Int), vs = [.ref a] ∧ SqL K H a (ns.map V.int) ∧ ns.length ≤ 63 ∧ ∀ H', Q (.bl true) H'
theorem RowsAt.len {H : Hp} {rl : Addr} {rs : List Row} (h : RowsAt H rl rs) : ∃ xs, H rl = some (.lst xs) ∧ xs.length = rs.length := let ⟨qs, h1, h2⟩ := h; ⟨_, h1, by rw [List.length_map]; exact Paired.length h2⟩
section
variable {P : Program} {w : World} {K : PySem.W.Frag} {mg : Str → Option Value} {base : Heap} {f C0 CS : Addr} {fd : FuncData}
theorem p_law (F : Fn K "law" "law" s_law f fd) (T : Txt K mg) (S : Sj K C0) (CF : ClsF K C0) (tmax : mg "max" = none) (tmin : mg "min" = none) (nc : CS ≠ C0)
    (DB : Df P w K mg base 2 "_law_box" ["_law_script", "_law_k", "_law_lap"] [] (spBoxM K)) (DT : Df P w K mg base 1 "_law_take" ["_law_box_here", "_law_count"] [] spTakeM) (DTw : Df P w K mg base 2 "_law_towns" ["_law_box_here"] [] spTowns) (DR : Df P w K mg base 2 "_law_row" ["_law_box_here", "_law_many"] [] spRowM)
    (DA : Df P w K mg base 7 "_law_among" ["_law_box_here", "_law_towns_here", "_law_parts", "_law_rows", "_law_sums"] [] (spAmong C0 CS)) (DTr : Df P w K mg base 7 "_law_travel" ["_law_towns_here", "_law_parts", "_law_rows", "_law_sums"] [] (spTravel C0 CS))
    (DU : Df P w K mg base 8 "_law_unlike_right" ["_law_box_here", "_law_one", "_law_towns_here", "_law_parts", "_law_rows", "_law_sums"] [] (spUnlike C0 CS)) (DTR : Df P w K mg base 8 "_law_twin_right" ["_law_box_here", "_law_one", "_law_other", "_law_rows"] [] (spTwinRight C0 CS)) (DUR : Df P w K mg base 8 "_law_undone_right" ["_law_towns_here", "_law_parts", "_law_rows", "_law_sums"] [] (spUndone C0 CS))
    (MS : Mo P w K mg base 1 CS "__eq__" (spSame K CS)) (MEq : Mo P w K mg base 5 C0 "__eq__" (spEqR K C0 CS)) (ML : Me P w K mg base 4 C0 "lines" [] (spLinesR C0 CS)) (MTw : Me P w K mg base 5 C0 "twins" [] (spTwinsR C0 CS)) :
    FnOk P w K mg base CX0 9 f fd ["_law_script"] (spLaw K) := by
  refine fn_w F sc_law ok_law (fun vs H Q E h => by obtain ⟨a, ns, rfl, hS, hlen, q⟩ := h; rfl) (fun X vs H Q E C h => ?_)
  obtain ⟨a, ns, rfl, hS, hlen, q⟩ := h
  show wB X _ _ [some (.ref a), none, none, none, none, none, none, none, none, none, none, none] H
  first | refine wB_one ?_ | refine wB_cons' fun _ _ => ?_
  walk_at "ws"
  refine wS_range1 C T.range (by walk_at "mem") (by rfl) ?_
  walk_at "ws"
  refine wE_callB C tmax (by walk_at "mem") boot_max (by rfl) (by rfl) ?_
  walk_at "ws"
  refine wE_callB C tmin (by walk_at "mem") boot_min (by rfl) (by rfl) ?_
  walk_at "ws"
  refine wE_callB C T.len (by walk_at "mem") boot_len (by rfl) (by rfl) ?_
  walk_at "ws"
  refine c_lenL C hS ?_
  walk_at "ws"
  refine c_min C ?_
  walk_at "ws"
  refine c_max C ?_
  walk_at "ws"
  refine ⟨Int.toNat _, congrArg V.int (Int.toNat_of_nonneg ?_).symm, ?_, ?_⟩
  · split <;> omega
  · split <;> (try split) <;> omega
  refine ⟨fun i σ H' => ∃ y1 y2 y3 y4 y5 y6 y7 y8 y9 y10 y11, σ = [some (.ref a), y1, y2, y3, y4, y5, y6, y7, y8, y9, y10, y11] ∧ Ex H H', ⟨_, _, _, _, _, _, _, _, _, _, _, rfl, .refl _⟩, ?_, ?_⟩
  rotate_left
  · rintro σ H' ⟨y1, y2, y3, y4, y5, y6, y7, y8, y9, y10, y11, rfl, _⟩
    walk_at "ws"
    exact q _
  rintro i σ H0 hi ⟨y1, y2, y3, y4, y5, y6, y7, y8, y9, y10, y11, rfl, x0⟩
  refine wG_name C (by walk_at "mem") ?_
  walk_at "ws"
  refine wS_range1 C T.range (by walk_at "mem") (by rfl) ?_
  walk_at "ws"
  refine ⟨2, rfl, by decide, fun j σ H' => ∃ y2 y3 y4 y5 y6 y7 y8 y9 y10 y11, σ = [some (.ref a), some (.int i), y2, y3, y4, y5, y6, y7, y8, y9, y10, y11] ∧ Ex H H', ⟨_, _, _, _, _, _, _, _, _, _, rfl, x0⟩, ?_, ?_⟩
  rotate_left
  · rintro σ H' ⟨y2, y3, y4, y5, y6, y7, y8, y9, y10, y11, rfl, x⟩
    exact ⟨_, _, _, _, _, _, _, _, _, _, _, rfl, x⟩
  clear y2 y3 y4 y5 y6 y7 y8 y9 y10 y11 x0 H0
  rintro j σ H0 hj ⟨y2, y3, y4, y5, y6, y7, y8, y9, y10, y11, rfl, x0⟩
  refine wG_name C (by walk_at "mem") ?_
  walk_at "ws"
  refine wE_call C DB (by walk_at "mem") (by decide) (by rfl) (by rfl) ?_
  walk_at "ws"
  refine ⟨a, ns, i, j, rfl, sq_extN hS x0.n, by omega, fun b n H1 hb0 e1 hb1 => ?_⟩
  have z1 : Ex H H1 := x0.trans e1
  have hb00 : H b = none := x0.free hb0
  clear e1 hb0 x0
  walk_at "ws"
  refine wS_par0 C (by decide +kernel) (by rfl) (by rfl) (by rfl) ?_
  walk_at "ws"
  refine wE_call C DTw (by walk_at "mem") (by decide) (by rfl) (by rfl) ?_
  walk_at "ws"
  refine ⟨b, _, rfl, hb1, fun ts tc n2 H2 tok htc0 htc2 hb2 e2 => ?_⟩
  walk_at "ws"
  refine wE_call C DT (by walk_at "mem") (by decide) (by rfl) (by rfl) ?_
  walk_at "ws"
  refine ⟨b, _, 11, rfl, (by walk_at "hk"), by decide, by decide, fun dB nB HB dB0 dB1 hbB exB => ?_⟩
  walk_at "ws"
  refine wE_call C DT (by walk_at "mem") (by decide) (by rfl) (by rfl) ?_
  walk_at "ws"
  refine ⟨b, _, 11, rfl, (by walk_at "hk"), by decide, by decide, fun dE nE HE dE0 dE1 hbE exE => ?_⟩
  walk_at "ws"
  refine ⟨(by show 2 ≤ sizeLine; decide), fun pr H3 hp3 e3 g3 => ?_⟩
  walk_at "ws"
  refine ⟨(by show 2 ≤ sizeLine; decide), fun pq H4 hpq e4 g4 => ?_⟩
  refine wG_tup C (SqT.of g4) rfl rfl ?_
  walk_at "ws"
  have x4 : Exb b H1 H4 := (((e2.trans exB).trans exE).trans e3.toB).trans e4.toB
  have ntb := tup_neb htc2 hb2
  have htc4 : H4 tc = some (.tup (ts.map V.int)) := e4 _ _ (e3 _ _ (exE _ _ ntb (exB _ _ ntb htc2)))
  have hpr4 : H4 pr = some (.tup [.int dB, .int dE]) := e4 _ _ g3
  have hb4 := e4 _ _ (e3 _ _ hbE)
  have b0 := dB0
  have b1 : dB ≤ 10 := by omega
  have f0 := dE0
  have f1 : dE ≤ 10 := by omega
  have z4 : Ex H H4 := z1.mut hb00 x4
  clear e2 exB exE e3 e4 g4 htc0 htc2 hb2 hbB hbE hp3 g3 x4 ntb hpq hb1 z1
  refine wS_lcR [("_law_turn", 10)] ["_law_turn", "_law_box_here", "_law_towns_here"] ["_law_turn"] ["_law_row", "len"] C (by decide +kernel) (by decide +kernel) (by decide +kernel) (by rfl) (by walk_at "mem") (by decide +kernel) (by rfl) (by decide +kernel) T.range (by walk_at "mem") (by rfl) ?_
  walk_at "ws"
  refine wE_call C DT (by walk_at "mem") (by decide) (by rfl) (by rfl) ?_
  walk_at "ws"
  refine ⟨b, _, 13, rfl, (by walk_at "hk"), by decide, by decide, fun dC nC HC dC0 dC1 hbC exC => ?_⟩
  walk_at "ws"
  have zC : Ex H HC := z4.mut hb00 exC
  have htcC := exC _ _ (tup_neb htc4 hb4) htc4
  have hprC := exC _ _ (tup_neb hpr4 hb4) hpr4
  clear exC hb4 htc4 hpr4 z4
  obtain ⟨m, rfl⟩ : ∃ m : Nat, dC = m := ⟨dC.toNat, (Int.toNat_of_nonneg dC0).symm⟩
  refine ⟨m, rfl, by omega, fun D hD => ⟨fun i H4 => ∃ (rs : List Row) (qs : List Addr) (n' : Int), H4 D = some (.lst (qs.map V.ref)) ∧ Paired (fun q (r : Row) => H4 q = some (.tup r.vs)) qs rs ∧ rs.length = i ∧ (∀ r ∈ rs, r.Ok) ∧ H4 b = some (.lst [.int n']) ∧ Exb b HC H4, ⟨[], [], _, upd_same, .nil, rfl, (fun _ h => nomatch h), by rw [upd_ne (ne_fresh hD hbC).symm]; exact hbC, fun q o _ h => Ex.upd hD _ _ h⟩, ?_, ?_⟩⟩
  · rintro i H4 hi ⟨rs, qs, n', gD, hqs, hl, rok, hb4, x4⟩
    have nDb : b ≠ D := (ne_fresh hD hbC).symm
    intro X1 C1
    show wG X1 _ _ [_, _, _, _, _, _, _, _, _, _, none, _] H4 _
    refine wG_name C1 (by walk_at "mem") ?_
    walk_at "ws"
    refine ⟨rfl, ?_⟩
    refine blkT_nil (iteT ?_)
    intro X2 C2
    clear C1 C
    walk_at "ws"
    refine wE_call C2 DR (by walk_at "mem") (by decide) (by rfl) (by rfl) ?_
    walk_at "ws"
    refine wE_callB C2 T.len (by walk_at "mem") boot_len (by rfl) (by rfl) ?_
    walk_at "ws"
    refine c_lenT C2 (SqT.of (x4 _ _ (tup_neb htcC hbC) htcC)) ?_
    walk_at "ws"
    refine ⟨b, n', ts.length, by rw [List.length_map]; rfl, by have := tok.1; omega, by have := tok.2.1; omega, hb4, fun r p n5 H5 ok hp gp hb5 x5 => ?_⟩
    have hD5 := x5 _ _ nDb.symm gD
    have hlq : qs.length = rs.length := Paired.length hqs
    have nt : ∀ q xs, H5 q = some (.tup xs) → upd H5 D (.lst (qs.map V.ref ++ [V.ref p])) q = some (.tup xs) := fun q xs h => by rw [upd_ne (tup_neb h hD5)]; exact h
    refine ⟨_, hD5, by rw [List.length_map, sizeLine_eq]; omega, rs ++ [r], qs ++ [p], n5, by rw [upd_same, List.map_append]; rfl, paired_snoc (R := fun q (r : Row) => upd H5 D (.lst (qs.map V.ref ++ [V.ref p])) q = some (.tup r.vs)) (nt _ _ gp) (pair_kx (fun q r m => nt _ _ (x5 _ _ (tup_neb m hb4) m)) hqs), by rw [List.length_append, hl]; rfl, ?_, by rw [upd_ne nDb]; exact hb5, ?_⟩
    · intro r' hr'
      rcases List.mem_append.mp hr' with h | h
      · exact rok r' h
      · rw [List.mem_singleton.mp h]; exact ok
    · intro q o nq h
      rw [upd_ne (fun h' => by rw [h', hD] at h; exact nomatch h)]
      exact x5 _ _ nq (x4 _ _ nq h)
  rintro H4 ⟨rs0, qs0, n4, gD, hqs0, hl0, rok0, hb4, x4⟩
  have z4 : Ex H H4 := zC.mut hb00 x4
  have htc4 := x4 _ _ (tup_neb htcC hbC) htcC
  have hpr4 := x4 _ _ (tup_neb hprC hbC) hprC
  have nDb : D ≠ b := ne_fresh hD hbC
  clear x4 htcC hprC hbC hD zC
  walk_at "ws"
  refine wS_lcL [("_law_row_here", 11)] ["_law_row_here", "_law_towns_here"] ["_law_row_here"] ["len"] C (by decide +kernel) (by decide +kernel) (by decide +kernel) (by rfl) (by walk_at "mem") (by decide +kernel) (by rfl) (by decide +kernel) (fun _ => rfl) ?_
  walk_at "ws"
  refine ⟨D, _, rfl, SqL.of gD, fun E hE => ⟨fun i H5 => ∃ (rs : List Row) (qs : List Addr), H5 E = some (.lst (qs.map V.ref)) ∧ Paired (fun q (r : Row) => H5 q = some (.tup r.vs)) qs rs ∧ rs.length ≤ i ∧ (∀ r ∈ rs, r.Ok ∧ r.day < ts.length) ∧ Ex H4 H5, ⟨[], [], upd_same, .nil, Nat.le_refl _, (fun _ h => nomatch h), fun q o h => by rw [upd_ne (fun z => by rw [z, hE] at h; cases h)]; exact h⟩, ?_, ?_, ?_⟩⟩
  · rintro i H5 _ ⟨rs, qs, _, _, _, _, x5⟩
    exact SqL.of (x5 _ _ gD)
  · rintro i v H5 hv ⟨rs, qs, gE, hqs, hl, rok, x5⟩
    obtain ⟨qi, rfl, hqi⟩ := at_refs hv
    obtain ⟨ri, hri, mi⟩ := Paired.atR hqs0 hqi
    have rmem := List.mem_of_getElem? hri
    have hlq : qs.length = rs.length := Paired.length hqs
    intro X1 C1
    show wG X1 _ _ [_, _, _, _, _, _, _, _, _, _, _, none] H5 _
    refine wG_name C1 (by walk_at "mem") ?_
    walk_at "ws"
    refine ⟨rfl, ?_⟩
    refine blkT_one fun X2 C2 => ?_
    clear C1 C
    walk_at "ws"
    refine wE_callB C2 T.len (by walk_at "mem") boot_len (by rfl) (by rfl) ?_
    walk_at "ws"
    refine c_lenT C2 (SqT.of (x5 _ _ htc4)) ?_
    walk_at "ws"
    refine iteD (fun hz => ?_) (fun hz => ?_)
    · intro X3 C3
      clear C2
      walk_at "ws"
      have dok : ri.day < ts.length := by rw [List.length_map] at hz; exact hz
      have nt : ∀ q xs, H5 q = some (.tup xs) → upd H5 E (.lst (qs.map V.ref ++ [V.ref qi])) q = some (.tup xs) := fun q xs h => by rw [upd_ne (tup_neb h gE)]; exact h
      refine ⟨_, gE, by have h5 := (List.getElem?_eq_some_iff.mp hqi).1; have h6 := Paired.length hqs0; rw [List.length_map, sizeLine_eq]; omega, rs ++ [ri], qs ++ [qi], by rw [upd_same, List.map_append]; rfl, paired_snoc (R := fun q (r : Row) => upd H5 E (.lst (qs.map V.ref ++ [V.ref qi])) q = some (.tup r.vs)) (nt _ _ (x5 _ _ mi)) (pair_kx (fun q r m => nt _ _ m) hqs), by rw [List.length_append]; show rs.length + 1 ≤ i + 1; omega, ?_, ?_⟩
      · intro r' hr'
        rcases List.mem_append.mp hr' with h | h
        · exact rok r' h
        · rw [List.mem_singleton.mp h]; exact ⟨rok0 _ rmem, dok⟩
      · intro q o h
        rw [upd_ne (fun z => by rw [z, hE] at h; cases h)]
        exact x5 _ _ h
    · exact ⟨rs, qs, gE, hqs, by omega, rok, x5⟩
  rintro H5 ⟨rs, qs, gE, hqs, hl, rok, x5⟩
  have l13 : rs.length ≤ 12 := by
    have h6 := Paired.length hqs0
    rw [List.length_map] at hl
    omega
  have hb5 := x5 _ _ hb4
  have z5 := z4.trans x5
  have htc5 := x5 _ _ htc4
  have hpr5 := x5 _ _ hpr4
  have hrl5 : RowsAt H5 E rs := ⟨qs, gE, hqs⟩
  have nEb : E ≠ b := ne_fresh hE hb4
  clear x5 hb4 z4 htc4 hpr4 gD hqs0 nDb rok0 hl0 hE
  walk_at "ws"
  refine wS_lcR [("_law_turn", 10)] ["_law_turn", "_law_box_here"] ["_law_turn"] ["_law_take"] C (by decide +kernel) (by decide +kernel) (by decide +kernel) (by rfl) (by walk_at "mem") (by decide +kernel) (by rfl) (by decide +kernel) T.range (by walk_at "mem") (by rfl) ?_
  walk_at "ws"
  refine wE_call C DT (by walk_at "mem") (by decide) (by rfl) (by rfl) ?_
  walk_at "ws"
  refine ⟨b, _, 5, rfl, (by walk_at "hk"), by decide, by decide, fun dG nG HG dG0 dG1 hbG exG => ?_⟩
  walk_at "ws"
  have zG : Ex H HG := z5.mut hb00 exG
  have htcG := exG _ _ (tup_neb htc5 hb5) htc5
  have hprG := exG _ _ (tup_neb hpr5 hb5) hpr5
  have hrlG := hrl5.exb nEb hb5 exG
  clear exG hb5 htc5 hpr5 hrl5 z5 gE hqs hl qs
  obtain ⟨m2, rfl⟩ : ∃ m : Nat, dG = m := ⟨dG.toNat, (Int.toNat_of_nonneg dG0).symm⟩
  refine ⟨m2, rfl, by omega, fun L hL => ⟨fun i H4 => ∃ (ms : List Int) (n' : Int), H4 L = some (.lst (ms.map V.int)) ∧ ms.length = i ∧ (∀ t ∈ ms, 1 ≤ t ∧ t ≤ 1000000000) ∧ H4 b = some (.lst [.int n']) ∧ Exb b HG H4, ⟨[], _, upd_same, rfl, (fun _ h => nomatch h), by rw [upd_ne (ne_fresh hL hbG).symm]; exact hbG, fun q o _ h => Ex.upd hL _ _ h⟩, ?_, ?_⟩⟩
  · rintro i H4 hi ⟨ms, n', gL, hlm, mk, hb4, x4⟩
    have nLb : b ≠ L := (ne_fresh hL hbG).symm
    intro X1 C1
    show wG X1 _ _ [_, _, _, _, _, _, _, _, _, _, none, _] H4 _
    refine wG_name C1 (by walk_at "mem") ?_
    walk_at "ws"
    refine ⟨rfl, ?_⟩
    refine blkT_nil (iteT ?_)
    intro X2 C2
    clear C1 C
    walk_at "ws"
    refine wE_call C2 DT (by walk_at "mem") (by decide) (by rfl) (by rfl) ?_
    walk_at "ws"
    refine ⟨b, _, 9, rfl, hb4, by decide, by decide, fun d n5 H5 d0 d1 hb5 x5 => ?_⟩
    walk_at "ws"
    refine ⟨_, x5 _ _ nLb.symm gL, by rw [List.length_map, sizeLine_eq]; omega, ms ++ [1 + d], n5, by rw [upd_same, List.map_append]; rfl, by rw [List.length_append, hlm]; rfl, ?_, by rw [upd_ne nLb]; exact hb5, ?_⟩
    · intro t ht
      rcases List.mem_append.mp ht with h | h
      · exact mk t h
      · rw [List.mem_singleton.mp h]; omega
    · intro q o nq h
      rw [upd_ne (fun h' => by rw [h', hL] at h; exact nomatch h)]
      exact x5 _ _ nq (x4 _ _ nq h)
  rintro H6 ⟨ms, n6, gL, hlm, mk, hb6, x6⟩
  have z6 : Ex H H6 := zG.mut hb00 x6
  have htc6 := x6 _ _ (tup_neb htcG hbG) htcG
  have hpr6 := x6 _ _ (tup_neb hprG hbG) hprG
  have hrl6 := hrlG.exb nEb hbG x6
  have nLb : L ≠ b := ne_fresh hL hbG
  have jok : JOk ts (rs, ms) := ⟨rok, by show rs.length ≤ 40; omega, mk, by show ms.length ≤ 10; omega⟩
  clear x6 htcG hprG hrlG hbG zG hL rok mk
  walk_at "ws"
  refine wS_par C (by decide +kernel) (by decide +kernel) (by rfl) (by decide +kernel) (by rfl) (by rfl) (by rfl) (by rfl) ?_
  walk_at "ws"
  refine wE_call C DA (by walk_at "mem") (by decide) (by rfl) (by rfl) ?_
  walk_at "ws"
  refine ⟨b, tc, pr, E, L, n6, ts, dB, dE, rs, ms, rfl, hb6, htc6, tok, hpr6, b0, b1, f0, f1, hrl6, gL, jok, by omega, nc, fun a1 pa1 n7 st1 past1 H7 ha1 hpa1 hb7 x7 j1 pm1 pn1 lp1 => ?_⟩
  have z7 : Ex H H7 := z6.mut hb00 x7
  have htc7 := x7 _ _ (tup_neb htc6 hb6) htc6
  have hpr7 := x7 _ _ (tup_neb hpr6 hb6) hpr6
  have hrl7 := hrl6.exb nEb hb6 x7
  have hsl7 := x7 _ _ nLb gL
  obtain ⟨xs6, hE6, _⟩ := hrl6.len
  have nb1 : b ≠ pa1 := ne_of_none hb6 hpa1
  have nE1 : E ≠ pa1 := ne_of_none hE6 hpa1
  have nL1 : L ≠ pa1 := ne_of_none gL hpa1
  have ha10 := z6.free ha1
  have hpa10 := z6.free hpa1
  clear z6 x7 htc6 hpr6 hrl6 gL hb6 hE6 ha1 hpa1
  walk_at "ws"
  refine wE_call C DA (by walk_at "mem") (by decide) (by rfl) (by rfl) ?_
  walk_at "ws"
  refine ⟨b, tc, pr, E, L, n7, ts, dB, dE, rs, ms, rfl, hb7, htc7, tok, hpr7, b0, b1, f0, f1, hrl7, hsl7, jok, by omega, nc, fun a2 pa2 n8 st2 past2 H8 ha2 hpa2 hb8 x8 j2 pm2 pn2 lp2 => ?_⟩
  have z8 : Ex H H8 := z7.mut hb00 x8
  have htc8 := x8 _ _ (tup_neb htc7 hb7) htc7
  have hpr8 := x8 _ _ (tup_neb hpr7 hb7) hpr7
  have hrl8 := hrl7.exb nEb hb7 x8
  have hsl8 := x8 _ _ nLb hsl7
  obtain ⟨xs7, hE7, _⟩ := hrl7.len
  have nb2 : b ≠ pa2 := ne_of_none hb7 hpa2
  have nE2 : E ≠ pa2 := ne_of_none hE7 hpa2
  have nL2 : L ≠ pa2 := ne_of_none hsl7 hpa2
  obtain ⟨d1, _, _, _, _, h1, _, _, hp1, _⟩ := id j1
  have na : a1 ≠ a2 := ne_of_none h1 ha2
  have np : pa1 ≠ pa2 := ne_of_none hp1 hpa2
  have k1 := j1.box hb7 nb1 nc x8
  clear j1 h1 hp1 z7 x8 htc7 hpr7 hrl7 hsl7 hb7 hE7 ha2 hpa2
  have ln : ms.length ≤ 4 := by omega
  have lr1 := pm1.length_eq
  have lr2 := pm2.length_eq
  have ln1 := pn1.length_eq
  have ln2 := pn2.length_eq
  walk_at "ws"
  refine ⟨_, _, rfl, ?_⟩
  walk_at "ws"
  refine wS_if ?_
  walk_at "ws"
  refine neJ_f C MEq (by decide) CF k1 j2 (by omega) (by omega) ⟨rfl, rfl, rfl, pm1.trans pm2.symm, pn1.trans pn2.symm⟩ fun H9 x9 => ?_
  walk_at "ws"
  have k9 := k1.ex x9
  have j9 := j2.ex x9
  obtain ⟨d1, _, _, _, _, h1, _⟩ := id k9
  refine wE_methQ0 C S.cl ML (by decide) (by rfl) ?_
  walk_at "ws"
  refine ⟨a1, d1, _, rfl, h1, jl_no (by decide +kernel) (by decide +kernel) (by decide +kernel) (by decide +kernel) (by decide +kernel) (by decide +kernel), ?_⟩
  refine ⟨a1, pa1, ts, dB, dE, st1, past1, rfl, k9, fun p10 qs10 H10 hp10 x10 g10 m10 => ?_⟩
  walk_at "ws"
  obtain ⟨d2, _, _, _, _, h2, _⟩ := id (j9.ex x10)
  refine wE_methQ0 C S.cl ML (by decide) (by rfl) ?_
  walk_at "ws"
  refine ⟨a2, d2, _, rfl, h2, jl_no (by decide +kernel) (by decide +kernel) (by decide +kernel) (by decide +kernel) (by decide +kernel) (by decide +kernel), ?_⟩
  refine ⟨a2, pa2, ts, dB, dE, st2, past2, rfl, j9.ex x10, fun p11 qs11 H11 hp11 x11 g11 m11 => ?_⟩
  walk_at "ws"
  refine o_neMade C MS (by decide) (x11 _ _ g10) g11 (pair_kx (fun q r m => m.ex x11) m10) m11 fun t ht => ?_
  obtain rfl : t = true := ht.mpr (sortR_eq (pm1.trans pm2.symm))
  walk_at "ws"
  have x911 := x10.trans x11
  have k11 := k9.ex x911
  have j11 := j9.ex x911
  obtain ⟨d1, _, _, _, _, h1, _⟩ := id k11
  refine wE_methQ0 C S.cl MTw (by decide) (by rfl) ?_
  walk_at "ws"
  refine ⟨a1, d1, _, rfl, h1, jl_no (by decide +kernel) (by decide +kernel) (by decide +kernel) (by decide +kernel) (by decide +kernel) (by decide +kernel), ?_⟩
  refine ⟨a1, pa1, ts, dB, dE, st1, past1, rfl, k11, by omega, fun p12 H12 hp12 x12 g12 => ?_⟩
  walk_at "ws"
  obtain ⟨d2, _, _, _, _, h2, _⟩ := id (j11.ex x12)
  refine wE_methQ0 C S.cl MTw (by decide) (by rfl) ?_
  walk_at "ws"
  refine ⟨a2, d2, _, rfl, h2, jl_no (by decide +kernel) (by decide +kernel) (by decide +kernel) (by decide +kernel) (by decide +kernel) (by decide +kernel), ?_⟩
  refine ⟨a2, pa2, ts, dB, dE, st2, past2, rfl, j11.ex x12, by omega, fun p13 H13 hp13 x13 g13 => ?_⟩
  walk_at "ws"
  refine o_neLI C (x13 _ _ g12) g13 ?_
  rw [decide_eq_true (show twL (sortR st1.1) = twL (sortR st2.1) from congrArg twL (sortR_eq (pm1.trans pm2.symm)))]
  walk_at "ws"
  have x813 : Ex H8 H13 := (x9.trans x911).trans (x12.trans x13)
  have k13 := k1.ex x813
  have j13 := j2.ex x813
  clear k1 j2 x9 k9 j9 d1 h1 hp10 x10 g10 m10 d2 h2 hp11 x11 g11 m11 ht x911 k11 j11 hp12 x12 g12 hp13 x13 g13
  have htc13 := x813 _ _ htc8
  have hpr13 := x813 _ _ hpr8
  have hrl13 := hrl8.ex x813
  have hsl13 := x813 _ _ hsl8
  have hb13 := x813 _ _ hb8
  have z13 := z8.trans x813
  clear x813 htc8 hpr8 hrl8 hsl8 hb8 z8
  refine wE_append (by rfl) (by rfl) (by rfl) (by rfl) (by rfl) ?_
  obtain ⟨d1, _, _, _, _, h1, _⟩ := id k13
  refine wE_methQ0 C S.cl ML (by decide) (by rfl) ?_
  walk_at "ws"
  refine ⟨a1, d1, _, rfl, h1, jl_no (by decide +kernel) (by decide +kernel) (by decide +kernel) (by decide +kernel) (by decide +kernel) (by decide +kernel), ?_⟩
  refine ⟨a1, pa1, ts, dB, dE, st1, past1, rfl, k13, fun p14 qs14 H14 hp14 x14 g14 m14 => ?_⟩
  have lq14 : qs14.length = st1.1.length := (Paired.length m14).trans (sortR_len st1.1)
  refine ⟨p14, _, rfl, g14, ?_⟩
  walk_at "ws"
  refine ⟨g14, by rw [List.length_map, sizeLine_eq]; omega, fun H15 m15 g15 => ?_⟩
  have x15 : Ex H13 H15 := x14.mut hp14 m15
  clear hp14 x14 g14 m14 m15 g15
  walk_at "ws"
  refine wE_append (by rfl) (by rfl) (by rfl) (by rfl) (by rfl) ?_
  have k15 := k13.ex x15
  obtain ⟨d1, _, _, _, _, h1, _⟩ := id k15
  refine wE_methQ0 C S.cl MTw (by decide) (by rfl) ?_
  walk_at "ws"
  refine ⟨a1, d1, _, rfl, h1, jl_no (by decide +kernel) (by decide +kernel) (by decide +kernel) (by decide +kernel) (by decide +kernel) (by decide +kernel), ?_⟩
  refine ⟨a1, pa1, ts, dB, dE, st1, past1, rfl, k15, by omega, fun p16 H16 hp16 x16 g16 => ?_⟩
  refine ⟨p16, _, rfl, g16, ?_⟩
  walk_at "ws"
  refine ⟨g16, by rw [List.length_map, sizeLine_eq]; have := twTo_len (sortR st1.1) ((sortR st1.1).length - 1); show (twTo (sortR st1.1) ((sortR st1.1).length - 1)).length < 16777216; have := sortR_len st1.1; omega, fun H17 m17 g17 => ?_⟩
  have x17 : Ex H13 H17 := x15.trans (x16.mut hp16 m17)
  clear hp16 x16 g16 m17 g17 x15 k15
  walk_at "ws"
  refine wE_clear (by rfl) (by rfl) ?_
  have j17 := j13.ex x17
  obtain ⟨d2, _, _, _, _, h2, _⟩ := id j17
  refine wE_methQ0 C S.cl ML (by decide) (by rfl) ?_
  walk_at "ws"
  refine ⟨a2, d2, _, rfl, h2, jl_no (by decide +kernel) (by decide +kernel) (by decide +kernel) (by decide +kernel) (by decide +kernel) (by decide +kernel), ?_⟩
  refine ⟨a2, pa2, ts, dB, dE, st2, past2, rfl, j17, fun p18 qs18 H18 hp18 x18 g18 m18 => ?_⟩
  refine ⟨p18, _, rfl, g18, fun H19 m19 g19 => ?_⟩
  have x19 : Ex H13 H19 := x17.trans (x18.mut hp18 m19)
  clear hp18 x18 g18 m18 m19 g19 x17 j17
  have k19 := k13.ex x19
  have j19 := j13.ex x19
  have htc19 := x19 _ _ htc13
  have hpr19 := x19 _ _ hpr13
  have hrl19 := hrl13.ex x19
  have hsl19 := x19 _ _ hsl13
  have hb19 := x19 _ _ hb13
  have z19 := z13.trans x19
  clear k13 j13 htc13 hpr13 hrl13 hsl13 hb13 z13 x19 h1 h2
  walk_at "ws"
  refine wS_if ?_
  walk_at "ws"
  refine neJ_f C MEq (by decide) CF k19 j19 (by omega) (by omega) ⟨rfl, rfl, rfl, pm1.trans pm2.symm, pn1.trans pn2.symm⟩ fun H20 x20 => ?_
  walk_at "ws"
  refine wE_call C DTr (by walk_at "mem") (by decide) (by rfl) (by rfl) ?_
  walk_at "ws"
  refine ⟨tc, pr, E, L, ts, dB, dE, rs, ms, rfl, x20 _ _ htc19, tok, x20 _ _ hpr19, b0, b1, f0, f1, hrl19.ex x20, x20 _ _ hsl19, jok, nc, fun o po H21 ho hpo x21 j21 => ?_⟩
  walk_at "ws"
  have x921 := x20.trans x21
  refine neJ_f C MEq (by decide) CF (k19.ex x921) j21 (by omega) (by show ms.length ≤ 1000; omega) ⟨rfl, rfl, rfl, pm1, pn1⟩ fun H22 x22 => ?_
  walk_at "ws"
  have x922 := x921.trans x22
  have k22 := k19.ex x922
  obtain ⟨d1, _, _, _, _, h1, _⟩ := id k22
  refine wE_callB C T.len (by walk_at "mem") boot_len (by rfl) (by rfl) ?_
  walk_at "ws"
  refine wE_methQ0 C S.cl ML (by decide) (by rfl) ?_
  walk_at "ws"
  refine ⟨a1, d1, _, rfl, h1, jl_no (by decide +kernel) (by decide +kernel) (by decide +kernel) (by decide +kernel) (by decide +kernel) (by decide +kernel), ?_⟩
  refine ⟨a1, pa1, ts, dB, dE, st1, past1, rfl, k22, fun p23 qs23 H23 hp23 x23 g23 m23 => ?_⟩
  have lq23 : qs23.length = st1.1.length := (Paired.length m23).trans (sortR_len st1.1)
  walk_at "ws"
  refine c_lenL C (SqL.of g23) ?_
  walk_at "ws"
  have x923 := x922.trans x23
  obtain ⟨xs, hE23, hxs⟩ := (hrl19.ex x923).len
  refine wE_callB C T.len (by walk_at "mem") boot_len (by rfl) (by rfl) ?_
  walk_at "ws"
  refine c_lenL C (SqL.of hE23) ?_
  walk_at "ws"
  rw [decide_eq_false (show ¬ (((qs23.map V.ref).length : Nat) : Int) ≠ ((xs.length : Nat) : Int) by rw [List.length_map]; omega)]
  walk_at "ws"
  have k23 := k19.ex x923
  have j23 := j19.ex x923
  have htc23 := x923 _ _ htc19
  have hpr23 := x923 _ _ hpr19
  have hrl23 := hrl19.ex x923
  have hsl23 := x923 _ _ hsl19
  have hb23 := x923 _ _ hb19
  have z23 := z19.trans x923
  clear k19 j19 htc19 hpr19 hrl19 hsl19 hb19 z19 x20 ho hpo x21 j21 x921 x22 x922 k22 h1 hp23 x23 g23 m23 x923
  refine wS_if ?_
  walk_at "ws"
  refine wE_call C DU (by walk_at "mem") (by decide) (by rfl) (by rfl) ?_
  walk_at "ws"
  refine ⟨b, a1, pa1, tc, pr, E, L, n8, ts, dB, dE, rs, ms, st1, past1, rfl, hb23, k23, nb1, pm1, pn1, htc23, tok, hpr23, ⟨b0, b1, f0, f1⟩, hrl23, nEb, hsl23, nLb, jok, by omega, by omega, nc, fun n9 H24 hb24 x24 => ?_⟩
  have k24 := k23.box hb23 nb1 nc x24
  have j24 := j23.box hb23 nb2 nc x24
  have htc24 := x24 _ _ (tup_neb htc23 hb23) htc23
  have hpr24 := x24 _ _ (tup_neb hpr23 hb23) hpr23
  have hrl24 := hrl23.exb nEb hb23 x24
  have hsl24 := x24 _ _ nLb hsl23
  have z24 := z23.mut hb00 x24
  clear k23 j23 htc23 hpr23 hrl23 hsl23 hb23 z23 x24
  walk_at "ws"
  refine wS_if ?_
  walk_at "ws"
  refine wE_call C DTR (by walk_at "mem") (by decide) (by rfl) (by rfl) ?_
  walk_at "ws"
  obtain ⟨xs24, hE24, lE24⟩ := hrl24.len
  refine ⟨b, a1, pa1, a2, pa2, E, ts, dB, dE, rs, st1, past1, st2, past2, rfl, k24, j24, na, np, tok, ⟨b0, b1, f0, f1⟩, pm1, pm2, pn1.trans pn2.symm, by omega, by omega, by omega, by omega, ⟨xs24, hE24, lE24, nE1⟩, nc, fun H25 x25 _ => ?_⟩
  obtain ⟨d1, _, _, _, _, h1, _, _, hp1, _⟩ := id k24
  have tn : ∀ c xs, H24 c = some (.tup xs) → H25 c = some (.tup xs) := fun c xs h => kx_ne x25 h (fun z => by rw [z, h1] at h; cases h) fun z => by rw [z, hp1] at h; cases h
  have ln' : ∀ c xs, c ≠ pa1 → H24 c = some (.lst xs) → H25 c = some (.lst xs) := fun c xs n h => kx_ne x25 h (fun z => by rw [z, h1] at h; cases h) n
  have htc25 := tn _ _ htc24
  have hpr25 := tn _ _ hpr24
  have hsl25 := ln' _ _ nL1 hsl24
  have hrl25 : RowsAt H25 E rs := by
    obtain ⟨qs, g1, g2⟩ := hrl24
    exact ⟨qs, ln' _ _ nE1 g1, pair_kx (fun q r m => tn _ _ m) g2⟩
  have z25 := z24.kx2 x25 ha10 hpa10
  clear k24 j24 htc24 hpr24 hrl24 hsl24 hb24 z24 x25 tn ln' h1 hp1 hE24
  walk_at "ws"
  refine wE_call C DUR (by walk_at "mem") (by decide) (by rfl) (by rfl) ?_
  walk_at "ws"
  refine ⟨tc, pr, E, L, ts, dB, dE, rs, ms, rfl, htc25, tok, hpr25, ⟨b0, b1, f0, f1⟩, hrl25, hsl25, jok, nc, fun H26 x26 => ?_⟩
  walk_at "ws"
  exact ⟨_, _, _, _, _, _, _, _, _, _, rfl, z25.trans x26⟩
end
theorem df_mk {P : Program} {w : World} {K : PySem.W.Frag} {mg : Str → Option Value} {base : Heap} {k : Nat} {x : Str} {st : Stmt} {f : Addr} {fd : FuncData} {ps : List Str} {sp : Sp} (F : FunD K x x (defArgs st) (defBody st) (defScope st) [] [] f fd) (hm : mg x = some (.ref f))
    (h : ∀ (kV doc pm : Value) (an : Option Addr) (cdv ct : Value) (us : List Value), us.length = ps.length → bindArgs (PySem.W.fnOf x x (defArgs st) (defBody st) (defScope st) .none kV doc pm an cdv ct) ⟨us, []⟩ = pure (ps.zip us)) (ok : FnOk P w K mg base CX0 k f fd ps sp) : Df P w K mg base k x ps [] sp :=
  ⟨f, fd, [], ok, hm, F.kp, FunD.bindsN F h, .nil⟩
set_option maxHeartbeats 0 in
theorem facts {P : Program} {w : World} {K : PySem.W.Frag} {h : Heap} {mg : Str → Option Value} {fl : Addr} (X : K.In h) (G : h.Ns mainGlobals mg) (hfa : mg ("law" : Str) = some (.ref fl)) (c : He.SaysD fa fn K) (cx : ex K = true) :
    ∃ fd : FuncData, (∀ (s : Shared) (v : Value), BindsTo s fd ⟨[v], []⟩ [("_law_script", v)]) ∧ ∀ base : Heap, K.In base → base.Ns mainGlobals mg → FnOk P w K mg base CX0 9 fl fd ["_law_script"] (spLaw K) := by
  obtain ⟨fd_is_whole, F_is_whole⟩ : ∃ fd, FunD K "is_whole" "is_whole" (defArgs s_is_whole) (defBody s_is_whole) (defScope s_is_whole) [] [] (He.ga K "is_whole") fd := c.def_ 0 (d := d_is_whole) rfl
  obtain ⟨fd_is_truth, F_is_truth⟩ : ∃ fd, FunD K "is_truth" "is_truth" (defArgs s_is_truth) (defBody s_is_truth) (defScope s_is_truth) [] [] (He.ga K "is_truth") fd := c.def_ 1 (d := d_is_truth) rfl
  obtain ⟨fd_is_kind, F_is_kind⟩ : ∃ fd, FunD K "is_kind" "is_kind" (defArgs s_is_kind) (defBody s_is_kind) (defScope s_is_kind) [] [] (He.ga K "is_kind") fd := c.def_ 2 (d := d_is_kind) rfl
  obtain ⟨fd_is_town, F_is_town⟩ : ∃ fd, FunD K "is_town" "is_town" (defArgs s_is_town) (defBody s_is_town) (defScope s_is_town) [] [] (He.ga K "is_town") fd := c.def_ 3 (d := d_is_town) rfl
  obtain ⟨fd_is_day, F_is_day⟩ : ∃ fd, FunD K "is_day" "is_day" (defArgs s_is_day) (defBody s_is_day) (defScope s_is_day) [] [] (He.ga K "is_day") fd := c.def_ 4 (d := d_is_day) rfl
  obtain ⟨fd_check_heads, F_check_heads⟩ : ∃ fd, FunD K "check_heads" "check_heads" (defArgs s_check_heads) (defBody s_check_heads) (defScope s_check_heads) [] [] (He.ga K "check_heads") fd := c.def_ 5 (d := d_check_heads) rfl
  obtain ⟨fd_check_parts_spendings, F_check_parts_spendings⟩ : ∃ fd, FunD K "check_parts" "check_parts" (defArgs s_check_parts_spendings) (defBody s_check_parts_spendings) (defScope s_check_parts_spendings) [] [] (He.ga K "check_parts_spendings") fd := c.def_ 6 (d := d_check_parts_spendings) rfl
  obtain ⟨fd_are_twins, F_are_twins⟩ : ∃ fd, FunD K "are_twins" "are_twins" (defArgs s_are_twins) (defBody s_are_twins) (defScope s_are_twins) [] [] (He.ga K "are_twins") fd := c.def_ 7 (d := d_are_twins) rfl
  obtain ⟨fd_are_towns, F_are_towns⟩ : ∃ fd, FunD K "are_towns" "are_towns" (defArgs s_are_towns) (defBody s_are_towns) (defScope s_are_towns) [] [] (He.ga K "are_towns") fd := c.def_ 8 (d := d_are_towns) rfl
  obtain ⟨fd_check_parts_journeys, F_check_parts_journeys⟩ : ∃ fd, FunD K "check_parts" "check_parts" (defArgs s_check_parts_journeys) (defBody s_check_parts_journeys) (defScope s_check_parts_journeys) [] [] (He.ga K "check_parts_journeys") fd := c.def_ 9 (d := d_check_parts_journeys) rfl
  obtain ⟨fd_check_room, F_check_room⟩ : ∃ fd, FunD K "check_room" "check_room" (defArgs s_check_room) (defBody s_check_room) (defScope s_check_room) [] [] (He.ga K "check_room") fd := c.def_ 10 (d := d_check_room) rfl
  obtain ⟨fd_rank_of, F_rank_of⟩ : ∃ fd, FunD K "rank_of" "rank_of" (defArgs s_rank_of) (defBody s_rank_of) (defScope s_rank_of) [] [] (He.ga K "rank_of") fd := c.def_ 11 (d := d_rank_of) rfl
  obtain ⟨fd_place_of, F_place_of⟩ : ∃ fd, FunD K "place_of" "place_of" (defArgs s_place_of) (defBody s_place_of) (defScope s_place_of) [] [] (He.ga K "place_of") fd := c.def_ 12 (d := d_place_of) rfl
  obtain ⟨fd__law_cell, F__law_cell⟩ : ∃ fd, FunD K "_law_cell" "_law_cell" (defArgs s__law_cell) (defBody s__law_cell) (defScope s__law_cell) [] [] (He.ga K "_law_cell") fd := c.def_ 13 (d := d__law_cell) rfl
  obtain ⟨fd__law_mix, F__law_mix⟩ : ∃ fd, FunD K "_law_mix" "_law_mix" (defArgs s__law_mix) (defBody s__law_mix) (defScope s__law_mix) [] [] (He.ga K "_law_mix") fd := c.def_ 14 (d := d__law_mix) rfl
  obtain ⟨fd__law_box, F__law_box⟩ : ∃ fd, FunD K "_law_box" "_law_box" (defArgs s__law_box) (defBody s__law_box) (defScope s__law_box) [] [] (He.ga K "_law_box") fd := c.def_ 15 (d := d__law_box) rfl
  obtain ⟨fd__law_take, F__law_take⟩ : ∃ fd, FunD K "_law_take" "_law_take" (defArgs s__law_take) (defBody s__law_take) (defScope s__law_take) [] [] (He.ga K "_law_take") fd := c.def_ 16 (d := d__law_take) rfl
  obtain ⟨fd__law_sorts, F__law_sorts⟩ : ∃ fd, FunD K "_law_sorts" "_law_sorts" (defArgs s__law_sorts) (defBody s__law_sorts) (defScope s__law_sorts) [] [] (He.ga K "_law_sorts") fd := c.def_ 17 (d := d__law_sorts) rfl
  obtain ⟨fd__law_row, F__law_row⟩ : ∃ fd, FunD K "_law_row" "_law_row" (defArgs s__law_row) (defBody s__law_row) (defScope s__law_row) [] [] (He.ga K "_law_row") fd := c.def_ 18 (d := d__law_row) rfl
  obtain ⟨fd__law_spent, F__law_spent⟩ : ∃ fd, FunD K "_law_spent" "_law_spent" (defArgs s__law_spent) (defBody s__law_spent) (defScope s__law_spent) [] [] (He.ga K "_law_spent") fd := c.def_ 19 (d := d__law_spent) rfl
  obtain ⟨fd__law_towns, F__law_towns⟩ : ∃ fd, FunD K "_law_towns" "_law_towns" (defArgs s__law_towns) (defBody s__law_towns) (defScope s__law_towns) [] [] (He.ga K "_law_towns") fd := c.def_ 20 (d := d__law_towns) rfl
  obtain ⟨fd__law_travel, F__law_travel⟩ : ∃ fd, FunD K "_law_travel" "_law_travel" (defArgs s__law_travel) (defBody s__law_travel) (defScope s__law_travel) [] [] (He.ga K "_law_travel") fd := c.def_ 21 (d := d__law_travel) rfl
  obtain ⟨fd__law_mixed, F__law_mixed⟩ : ∃ fd, FunD K "_law_mixed" "_law_mixed" (defArgs s__law_mixed) (defBody s__law_mixed) (defScope s__law_mixed) [] [] (He.ga K "_law_mixed") fd := c.def_ 22 (d := d__law_mixed) rfl
  obtain ⟨fd__law_among, F__law_among⟩ : ∃ fd, FunD K "_law_among" "_law_among" (defArgs s__law_among) (defBody s__law_among) (defScope s__law_among) [] [] (He.ga K "_law_among") fd := c.def_ 23 (d := d__law_among) rfl
  obtain ⟨fd__law_unlike_right, F__law_unlike_right⟩ : ∃ fd, FunD K "_law_unlike_right" "_law_unlike_right" (defArgs s__law_unlike_right) (defBody s__law_unlike_right) (defScope s__law_unlike_right) [] [] (He.ga K "_law_unlike_right") fd := c.def_ 24 (d := d__law_unlike_right) rfl
  obtain ⟨fd__law_twin_right, F__law_twin_right⟩ : ∃ fd, FunD K "_law_twin_right" "_law_twin_right" (defArgs s__law_twin_right) (defBody s__law_twin_right) (defScope s__law_twin_right) [] [] (He.ga K "_law_twin_right") fd := c.def_ 25 (d := d__law_twin_right) rfl
  obtain ⟨fd__law_undone_right, F__law_undone_right⟩ : ∃ fd, FunD K "_law_undone_right" "_law_undone_right" (defArgs s__law_undone_right) (defBody s__law_undone_right) (defScope s__law_undone_right) [] [] (He.ga K "_law_undone_right") fd := c.def_ 26 (d := d__law_undone_right) rfl
  obtain ⟨fd_law, F_law⟩ : ∃ fd, FunD K "law" "law" (defArgs s_law) (defBody s_law) (defScope s_law) [] [] (He.ga K "law") fd := c.def_ 27 (d := d_law) rfl
  obtain ⟨fd_Spending_init, F_Spending_init⟩ : ∃ fd, FunD K "__init__" "Spending.__init__" (defArgs s_Spending_init) (defBody s_Spending_init) (defScope s_Spending_init) [.int 0, .bl true, .int 1, .int 0] [] (He.ma K (He.ga K "Spending") "__init__") fd := c.def_ 28 (d := d_Spending_init) rfl
  obtain ⟨fd_Spending_eq, F_Spending_eq⟩ : ∃ fd, FunD K "__eq__" "Spending.__eq__" (defArgs s_Spending_eq) (defBody s_Spending_eq) (defScope s_Spending_eq) [] [] (He.ma K (He.ga K "Spending") "__eq__") fd := c.def_ 29 (d := d_Spending_eq) rfl
  obtain ⟨fd_Journey_init, F_Journey_init⟩ : ∃ fd, FunD K "__init__" "Journey.__init__" (defArgs s_Journey_init) (defBody s_Journey_init) (defScope s_Journey_init) [.int 10, .int 10] [] (He.ma K (He.ga K "Journey") "__init__") fd := c.def_ 30 (d := d_Journey_init) rfl
  obtain ⟨fd_Journey_eq, F_Journey_eq⟩ : ∃ fd, FunD K "__eq__" "Journey.__eq__" (defArgs s_Journey_eq) (defBody s_Journey_eq) (defScope s_Journey_eq) [] [] (He.ma K (He.ga K "Journey") "__eq__") fd := c.def_ 31 (d := d_Journey_eq) rfl
  obtain ⟨fd_Journey_len, F_Journey_len⟩ : ∃ fd, FunD K "__len__" "Journey.__len__" (defArgs s_Journey_len) (defBody s_Journey_len) (defScope s_Journey_len) [] [] (He.ma K (He.ga K "Journey") "__len__") fd := c.def_ 32 (d := d_Journey_len) rfl
  obtain ⟨fd_Journey_become, F_Journey_become⟩ : ∃ fd, FunD K "become" "Journey.become" (defArgs s_Journey_become) (defBody s_Journey_become) (defScope s_Journey_become) [] [] (He.ma K (He.ga K "Journey") "become") fd := c.def_ 33 (d := d_Journey_become) rfl
  obtain ⟨fd_Journey_spend, F_Journey_spend⟩ : ∃ fd, FunD K "spend" "Journey.spend" (defArgs s_Journey_spend) (defBody s_Journey_spend) (defScope s_Journey_spend) [] [] (He.ma K (He.ga K "Journey") "spend") fd := c.def_ 34 (d := d_Journey_spend) rfl
  obtain ⟨fd_Journey_strike, F_Journey_strike⟩ : ∃ fd, FunD K "strike" "Journey.strike" (defArgs s_Journey_strike) (defBody s_Journey_strike) (defScope s_Journey_strike) [] [] (He.ma K (He.ga K "Journey") "strike") fd := c.def_ 35 (d := d_Journey_strike) rfl
  obtain ⟨fd_Journey_had, F_Journey_had⟩ : ∃ fd, FunD K "had" "Journey.had" (defArgs s_Journey_had) (defBody s_Journey_had) (defScope s_Journey_had) [] [] (He.ma K (He.ga K "Journey") "had") fd := c.def_ 36 (d := d_Journey_had) rfl
  obtain ⟨fd_Journey_undo, F_Journey_undo⟩ : ∃ fd, FunD K "undo" "Journey.undo" (defArgs s_Journey_undo) (defBody s_Journey_undo) (defScope s_Journey_undo) [] [] (He.ma K (He.ga K "Journey") "undo") fd := c.def_ 37 (d := d_Journey_undo) rfl
  obtain ⟨fd_Journey_twin, F_Journey_twin⟩ : ∃ fd, FunD K "twin" "Journey.twin" (defArgs s_Journey_twin) (defBody s_Journey_twin) (defScope s_Journey_twin) [] [] (He.ma K (He.ga K "Journey") "twin") fd := c.def_ 38 (d := d_Journey_twin) rfl
  obtain ⟨fd_Journey_lines, F_Journey_lines⟩ : ∃ fd, FunD K "lines" "Journey.lines" (defArgs s_Journey_lines) (defBody s_Journey_lines) (defScope s_Journey_lines) [] [] (He.ma K (He.ga K "Journey") "lines") fd := c.def_ 39 (d := d_Journey_lines) rfl
  obtain ⟨fd_Journey_has_day, F_Journey_has_day⟩ : ∃ fd, FunD K "has_day" "Journey.has_day" (defArgs s_Journey_has_day) (defBody s_Journey_has_day) (defScope s_Journey_has_day) [] [] (He.ma K (He.ga K "Journey") "has_day") fd := c.def_ 40 (d := d_Journey_has_day) rfl
  obtain ⟨fd_Journey_twins, F_Journey_twins⟩ : ∃ fd, FunD K "twins" "Journey.twins" (defArgs s_Journey_twins) (defBody s_Journey_twins) (defScope s_Journey_twins) [] [] (He.ma K (He.ga K "Journey") "twins") fd := c.def_ 41 (d := d_Journey_twins) rfl
  obtain ⟨cx1, cx⟩ := He.ba cx
  obtain ⟨cx2, cx⟩ := He.ba cx
  obtain ⟨cx3, cx4⟩ := He.ba cx
  have nSJ : He.ga K "Spending" ≠ He.ga K "Journey" := of_decide_eq_true cx4
  have CFS : ClsF K (He.ga K "Spending") := clsFB_ok cx2
  have CF : ClsF K (He.ga K "Journey") := clsFB_ok cx3
  have TJ : TxJ mg := ⟨He.free_ok X G (c.fact 31 (f := .free "range") rfl), He.free_ok X G (c.fact 32 (f := .free "abs") rfl), He.free_ok X G (c.fact 33 (f := .free "len") rfl), He.free_ok X G (c.fact 34 (f := .free "divmod") rfl), He.free_ok X G (c.fact 35 (f := .free "isinstance") rfl), He.free_ok X G (c.fact 36 (f := .free "int") rfl), He.free_ok X G (c.fact 37 (f := .free "bool") rfl)⟩
  have T : Txt K mg := ⟨He.free_ok X G (c.fact 31 (f := .free "range") rfl), He.free_ok X G (c.fact 32 (f := .free "abs") rfl), He.free_ok X G (c.fact 33 (f := .free "len") rfl), He.free_ok X G (c.fact 34 (f := .free "divmod") rfl), He.free_ok X G (c.fact 35 (f := .free "isinstance") rfl), He.free_ok X G (c.fact 36 (f := .free "int") rfl), He.free_ok X G (c.fact 37 (f := .free "bool") rfl), ⟨_, He.glo_ok X G (c.fact 28 (f := .glo "KINDS") rfl), fun H => He.tupB_ok cx1 H⟩, He.int_ok X G (c.fact 46 (f := .int "LAST_DAY" 59) rfl), He.int_ok X G (c.fact 47 (f := .int "LAST_MONEY" 3) rfl), He.int_ok X G (c.fact 48 (f := .int "MOST_AMOUNT" 1000000) rfl), He.int_ok X G (c.fact 49 (f := .int "MOST_HEADS" 6) rfl)⟩
  have T3 : Tx3 mg := ⟨He.free_ok X G (c.fact 41 (f := .free "tuple") rfl), He.free_ok X G (c.fact 40 (f := .free "all") rfl), He.int_ok X G (c.fact 45 (f := .int "LAST_TOWN" 3) rfl), He.int_ok X G (c.fact 50 (f := .int "MOST_DAYS" 30) rfl), He.int_ok X G (c.fact 51 (f := .int "WHOLE_DAY" 10) rfl), He.int_ok X G (c.fact 52 (f := .int "MOST_LINES" 40) rfl), He.int_ok X G (c.fact 53 (f := .int "MOST_SUM" 1000000000) rfl), He.int_ok X G (c.fact 54 (f := .int "MOST_SUMS" 10) rfl)⟩
  have tmax : mg "max" = none := He.free_ok X G (c.fact 38 (f := .free "max") rfl)
  have tmin : mg "min" = none := He.free_ok X G (c.fact 39 (f := .free "min") rfl)
  have tall : mg "all" = none := He.free_ok X G (c.fact 40 (f := .free "all") rfl)
  have ttuple : mg "tuple" = none := He.free_ok X G (c.fact 41 (f := .free "tuple") rfl)
  have tlist : mg "list" = none := He.free_ok X G (c.fact 42 (f := .free "list") rfl)
  have tsorted : mg "sorted" = none := He.free_ok X G (c.fact 43 (f := .free "sorted") rfl)
  have tenumerate : mg "enumerate" = none := He.free_ok X G (c.fact 44 (f := .free "enumerate") rfl)
  have SS : Sc K (He.ga K "Spending") := ⟨He.cls_ok (c.fact 55 (f := .cls "Spending") rfl), He.noat_ok (c.fact 56 (f := .noat "Spending" "kind") rfl), He.noat_ok (c.fact 57 (f := .noat "Spending" "amount") rfl), He.noat_ok (c.fact 58 (f := .noat "Spending" "day") rfl), He.noat_ok (c.fact 59 (f := .noat "Spending" "paper") rfl), He.noat_ok (c.fact 60 (f := .noat "Spending" "heads") rfl), He.noat_ok (c.fact 61 (f := .noat "Spending" "money") rfl)⟩
  have S : Sj K (He.ga K "Journey") := ⟨He.cls_ok (c.fact 64 (f := .cls "Journey") rfl), He.noat_ok (c.fact 65 (f := .noat "Journey" "towns") rfl), He.noat_ok (c.fact 66 (f := .noat "Journey" "begun") rfl), He.noat_ok (c.fact 67 (f := .noat "Journey" "ended") rfl), He.noat_ok (c.fact 68 (f := .noat "Journey" "spent") rfl), He.noat_ok (c.fact 69 (f := .noat "Journey" "sums") rfl), He.noat_ok (c.fact 70 (f := .noat "Journey" "past") rfl)⟩
  have MKS := He.mkr_ok (c.fact 62 (f := .mkr "Spending") rfl)
  have mSe := He.meth_ok (c.fact 63 (f := .meth "Spending" "__eq__") rfl)
  have MK := He.mkr_ok (c.fact 71 (f := .mkr "Journey") rfl)
  have mEq := He.meth_ok (c.fact 72 (f := .meth "Journey" "__eq__") rfl)
  have mLen := He.meth_ok (c.fact 73 (f := .meth "Journey" "__len__") rfl)
  have mMBe := He.meth_ok (c.fact 74 (f := .meth "Journey" "become") rfl)
  have mMSp := He.meth_ok (c.fact 75 (f := .meth "Journey" "spend") rfl)
  have mMSt := He.meth_ok (c.fact 76 (f := .meth "Journey" "strike") rfl)
  have mMH := He.meth_ok (c.fact 77 (f := .meth "Journey" "had") rfl)
  have mMU := He.meth_ok (c.fact 78 (f := .meth "Journey" "undo") rfl)
  have mMTn := He.meth_ok (c.fact 79 (f := .meth "Journey" "twin") rfl)
  have mML := He.meth_ok (c.fact 80 (f := .meth "Journey" "lines") rfl)
  have mMHd := He.meth_ok (c.fact 81 (f := .meth "Journey" "has_day") rfl)
  have mMTw := He.meth_ok (c.fact 82 (f := .meth "Journey" "twins") rfl)
  have gS : mg "Spending" = some (.ref (He.ga K "Spending")) := He.glo_ok X G (c.fact 29 (f := .glo "Spending") rfl)
  have gJ : mg "Journey" = some (.ref (He.ga K "Journey")) := He.glo_ok X G (c.fact 30 (f := .glo "Journey") rfl)
  have g_is_whole : mg "is_whole" = some (.ref (He.ga K "is_whole")) := He.glo_ok X G (c.fact 0 (f := .glo "is_whole") rfl)
  have g_is_truth : mg "is_truth" = some (.ref (He.ga K "is_truth")) := He.glo_ok X G (c.fact 1 (f := .glo "is_truth") rfl)
  have g_is_kind : mg "is_kind" = some (.ref (He.ga K "is_kind")) := He.glo_ok X G (c.fact 2 (f := .glo "is_kind") rfl)
  have g_is_town : mg "is_town" = some (.ref (He.ga K "is_town")) := He.glo_ok X G (c.fact 3 (f := .glo "is_town") rfl)
  have g_is_day : mg "is_day" = some (.ref (He.ga K "is_day")) := He.glo_ok X G (c.fact 4 (f := .glo "is_day") rfl)
  have g_check_heads : mg "check_heads" = some (.ref (He.ga K "check_heads")) := He.glo_ok X G (c.fact 5 (f := .glo "check_heads") rfl)
  have g_check_parts_spendings : mg "check_parts_spendings" = some (.ref (He.ga K "check_parts_spendings")) := He.glo_ok X G (c.fact 6 (f := .glo "check_parts_spendings") rfl)
  have g_are_twins : mg "are_twins" = some (.ref (He.ga K "are_twins")) := He.glo_ok X G (c.fact 7 (f := .glo "are_twins") rfl)
  have g_are_towns : mg "are_towns" = some (.ref (He.ga K "are_towns")) := He.glo_ok X G (c.fact 8 (f := .glo "are_towns") rfl)
  have g_check_parts_journeys : mg "check_parts_journeys" = some (.ref (He.ga K "check_parts_journeys")) := He.glo_ok X G (c.fact 9 (f := .glo "check_parts_journeys") rfl)
  have g_check_room : mg "check_room" = some (.ref (He.ga K "check_room")) := He.glo_ok X G (c.fact 10 (f := .glo "check_room") rfl)
  have g_rank_of : mg "rank_of" = some (.ref (He.ga K "rank_of")) := He.glo_ok X G (c.fact 11 (f := .glo "rank_of") rfl)
  have g_place_of : mg "place_of" = some (.ref (He.ga K "place_of")) := He.glo_ok X G (c.fact 12 (f := .glo "place_of") rfl)
  have g__law_cell : mg "_law_cell" = some (.ref (He.ga K "_law_cell")) := He.glo_ok X G (c.fact 13 (f := .glo "_law_cell") rfl)
  have g__law_mix : mg "_law_mix" = some (.ref (He.ga K "_law_mix")) := He.glo_ok X G (c.fact 14 (f := .glo "_law_mix") rfl)
  have g__law_box : mg "_law_box" = some (.ref (He.ga K "_law_box")) := He.glo_ok X G (c.fact 15 (f := .glo "_law_box") rfl)
  have g__law_take : mg "_law_take" = some (.ref (He.ga K "_law_take")) := He.glo_ok X G (c.fact 16 (f := .glo "_law_take") rfl)
  have g__law_sorts : mg "_law_sorts" = some (.ref (He.ga K "_law_sorts")) := He.glo_ok X G (c.fact 17 (f := .glo "_law_sorts") rfl)
  have g__law_row : mg "_law_row" = some (.ref (He.ga K "_law_row")) := He.glo_ok X G (c.fact 18 (f := .glo "_law_row") rfl)
  have g__law_spent : mg "_law_spent" = some (.ref (He.ga K "_law_spent")) := He.glo_ok X G (c.fact 19 (f := .glo "_law_spent") rfl)
  have g__law_towns : mg "_law_towns" = some (.ref (He.ga K "_law_towns")) := He.glo_ok X G (c.fact 20 (f := .glo "_law_towns") rfl)
  have g__law_travel : mg "_law_travel" = some (.ref (He.ga K "_law_travel")) := He.glo_ok X G (c.fact 21 (f := .glo "_law_travel") rfl)
  have g__law_mixed : mg "_law_mixed" = some (.ref (He.ga K "_law_mixed")) := He.glo_ok X G (c.fact 22 (f := .glo "_law_mixed") rfl)
  have g__law_among : mg "_law_among" = some (.ref (He.ga K "_law_among")) := He.glo_ok X G (c.fact 23 (f := .glo "_law_among") rfl)
  have g__law_unlike_right : mg "_law_unlike_right" = some (.ref (He.ga K "_law_unlike_right")) := He.glo_ok X G (c.fact 24 (f := .glo "_law_unlike_right") rfl)
  have g__law_twin_right : mg "_law_twin_right" = some (.ref (He.ga K "_law_twin_right")) := He.glo_ok X G (c.fact 25 (f := .glo "_law_twin_right") rfl)
  have g__law_undone_right : mg "_law_undone_right" = some (.ref (He.ga K "_law_undone_right")) := He.glo_ok X G (c.fact 26 (f := .glo "_law_undone_right") rfl)
  have g_law : mg "law" = some (.ref (He.ga K "law")) := He.glo_ok X G (c.fact 27 (f := .glo "law") rfl)
  have e := hfa.symm.trans g_law
  cases e
  have b_law := FunD.bindsA (ps := ["_law_script"]) F_law fun _ _ _ _ _ _ us hl => match us, hl with | [_], _ => rfl
  obtain ⟨dI0, vI0, bI0⟩ := FunD.binds1 (ps := ["self", "kind", "amount", "day", "paper", "heads", "money"]) F_Spending_init 7 4 (by simp) rfl fun T kV doc pm an cdv ct us its hl hi => match us, its, hl, hi with | [_, _, _, _, _, _, _], [_, _, _, _], _, _ => ⟨_, rfl, rfl⟩
  obtain ⟨dI3, vI3, bI3⟩ := FunD.binds1 (ps := ["self", "kind", "amount", "day", "paper", "heads", "money"]) F_Spending_init 4 1 (by simp) rfl fun T kV doc pm an cdv ct us its hl hi => match us, its, hl, hi with | [_, _, _, _], [_, _, _, _], _, _ => ⟨_, rfl, rfl⟩
  obtain ⟨dI5, vI5, bI5⟩ := FunD.binds1 (ps := ["self", "kind", "amount", "day", "paper", "heads", "money"]) F_Spending_init 6 3 (by simp) rfl fun T kV doc pm an cdv ct us its hl hi => match us, its, hl, hi with | [_, _, _, _, _, _], [_, _, _, _], _, _ => ⟨_, rfl, rfl⟩
  obtain ⟨dJ, vJ, bJ⟩ := FunD.binds1 (ps := ["self", "towns", "begun", "ended"]) F_Journey_init 4 2 (by simp) rfl fun T kV doc pm an cdv ct us its hl hi => match us, its, hl, hi with | [_, _, _, _], [_, _], _, _ => ⟨_, rfl, rfl⟩
  have bSe : Binds K fd_Spending_eq ["self", "other"] [] := FunD.bindsN F_Spending_eq (fun _ _ _ _ _ _ us hl => match us, hl with | [_, _], _ => rfl)
  have bEq : Binds K fd_Journey_eq ["self", "other"] [] := FunD.bindsN F_Journey_eq (fun _ _ _ _ _ _ us hl => match us, hl with | [_, _], _ => rfl)
  have bLen : Binds K fd_Journey_len ["self"] [] := FunD.bindsN F_Journey_len (fun _ _ _ _ _ _ us hl => match us, hl with | [_], _ => rfl)
  have bBe : Binds K fd_Journey_become ["self", "spent", "sums"] [] := FunD.bindsN F_Journey_become (fun _ _ _ _ _ _ us hl => match us, hl with | [_, _, _], _ => rfl)
  have bSp : Binds K fd_Journey_spend ["self", "spending"] [] := FunD.bindsN F_Journey_spend (fun _ _ _ _ _ _ us hl => match us, hl with | [_, _], _ => rfl)
  have bSt : Binds K fd_Journey_strike ["self", "spending"] [] := FunD.bindsN F_Journey_strike (fun _ _ _ _ _ _ us hl => match us, hl with | [_, _], _ => rfl)
  have bH : Binds K fd_Journey_had ["self", "amount"] [] := FunD.bindsN F_Journey_had (fun _ _ _ _ _ _ us hl => match us, hl with | [_, _], _ => rfl)
  have bU : Binds K fd_Journey_undo ["self"] [] := FunD.bindsN F_Journey_undo (fun _ _ _ _ _ _ us hl => match us, hl with | [_], _ => rfl)
  have bTn : Binds K fd_Journey_twin ["self"] [] := FunD.bindsN F_Journey_twin (fun _ _ _ _ _ _ us hl => match us, hl with | [_], _ => rfl)
  have bL : Binds K fd_Journey_lines ["self"] [] := FunD.bindsN F_Journey_lines (fun _ _ _ _ _ _ us hl => match us, hl with | [_], _ => rfl)
  have bHd : Binds K fd_Journey_has_day ["self", "day"] [] := FunD.bindsN F_Journey_has_day (fun _ _ _ _ _ _ us hl => match us, hl with | [_, _], _ => rfl)
  have bTw : Binds K fd_Journey_twins ["self"] [] := FunD.bindsN F_Journey_twins (fun _ _ _ _ _ _ us hl => match us, hl with | [_], _ => rfl)
  refine ⟨fd_law, fun s v => b_law s [v] rfl, fun base _ _ => ?_⟩
  have D_is_whole : Df P w K mg base 1 "is_whole" ["thing", "least", "most"] [] spWhole := df_mk F_is_whole g_is_whole (fun _ _ _ _ _ _ us hl => match us, hl with | [_, _, _], _ => rfl) (p_whole ⟨_, _, F_is_whole⟩ T)
  have D_is_truth : Df P w K mg base 1 "is_truth" ["thing"] [] spTruth := df_mk F_is_truth g_is_truth (fun _ _ _ _ _ _ us hl => match us, hl with | [_], _ => rfl) (p_truth ⟨_, _, F_is_truth⟩ T)
  have D_is_kind : Df P w K mg base 1 "is_kind" ["thing"] [] spKind := df_mk F_is_kind g_is_kind (fun _ _ _ _ _ _ us hl => match us, hl with | [_], _ => rfl) (p_kind ⟨_, _, F_is_kind⟩ T)
  have D_is_town : Df P w K mg base 2 "is_town" ["thing"] [] spTownR := df_mk F_is_town g_is_town (fun _ _ _ _ _ _ us hl => match us, hl with | [_], _ => rfl) (p_townR ⟨_, _, F_is_town⟩ T3 D_is_whole)
  have D_is_day : Df P w K mg base 2 "is_day" ["thing"] [] spDay := df_mk F_is_day g_is_day (fun _ _ _ _ _ _ us hl => match us, hl with | [_], _ => rfl) (p_day ⟨_, _, F_is_day⟩ T D_is_whole)
  have D_check_heads : Df P w K mg base 2 "check_heads" ["heads"] [] spHeads := df_mk F_check_heads g_check_heads (fun _ _ _ _ _ _ us hl => match us, hl with | [_], _ => rfl) (p_heads ⟨_, _, F_check_heads⟩ T D_is_whole)
  have D_check_parts_spendings : Df P w K mg base 3 "check_parts_spendings" ["kind", "amount", "day", "paper", "heads", "money"] [] spParts := ⟨_, fd_check_parts_spendings, [], p_parts ⟨_, _, F_check_parts_spendings⟩ T D_is_whole D_is_kind D_is_day D_is_truth D_check_heads, g_check_parts_spendings, F_check_parts_spendings.kp, FunD.bindsN F_check_parts_spendings (fun _ _ _ _ _ _ us hl => match us, hl with | [_, _, _, _, _, _], _ => rfl), .nil⟩
  have OI : FnOk P w K mg base CX0 4 _ fd_Spending_init ["self", "kind", "amount", "day", "paper", "heads", "money"] (spInit (He.ga K "Spending")) := p_init ⟨_, _, F_Spending_init⟩ SS D_check_parts_spendings
  have MS0 : Mp P w K mg base 4 "Spending" (He.ga K "Spending") [] (spInit (He.ga K "Spending")) := ⟨_, fd_Spending_init, _, _, MKS, OI, gS, bI0, vI0⟩
  have MS3 : Mp P w K mg base 4 "Spending" (He.ga K "Spending") [.bl true, .int 1, .int 0] (spInit (He.ga K "Spending")) := ⟨_, fd_Spending_init, _, _, MKS, OI, gS, bI3, vI3⟩
  have MS5 : Mp P w K mg base 4 "Spending" (He.ga K "Spending") [.int 0] (spInit (He.ga K "Spending")) := ⟨_, fd_Spending_init, _, _, MKS, OI, gS, bI5, vI5⟩
  have MSe : Mo P w K mg base 1 (He.ga K "Spending") "__eq__" (spSame K (He.ga K "Spending")) := ⟨_, fd_Spending_eq, _, p_same ⟨_, _, F_Spending_eq⟩ T SS gS (fun h => CFS.ty SS.cl h), mSe.at_, mSe.fn, bSe⟩
  have D_are_twins : Df P w K mg base 1 "are_twins" ["one", "other"] [] (spTwins (He.ga K "Spending")) := df_mk F_are_twins g_are_twins (fun _ _ _ _ _ _ us hl => match us, hl with | [_, _], _ => rfl) (p_twins ⟨_, _, F_are_twins⟩ SS)
  have D_are_towns : Df P w K mg base 3 "are_towns" ["thing"] [] spAreR := df_mk F_are_towns g_are_towns (fun _ _ _ _ _ _ us hl => match us, hl with | [_], _ => rfl) (p_areR ⟨_, _, F_are_towns⟩ T T3 D_is_town)
  have D_check_parts_journeys : Df P w K mg base 4 "check_parts_journeys" ["towns", "begun", "ended"] [] spChkR := ⟨_, fd_check_parts_journeys, [], p_chkR ⟨_, _, F_check_parts_journeys⟩ T3 D_are_towns D_is_whole, g_check_parts_journeys, F_check_parts_journeys.kp, FunD.bindsN F_check_parts_journeys (fun _ _ _ _ _ _ us hl => match us, hl with | [_, _, _], _ => rfl), .nil⟩
  have OIJ : FnOk P w K mg base (L2N.CX P w) 5 _ fd_Journey_init ["self", "towns", "begun", "ended"] (spInitR (He.ga K "Journey") (He.ga K "Spending")) := p_initR ⟨_, _, F_Journey_init⟩ S D_check_parts_journeys
  have MJ : Mx P w K mg base 5 "Journey" (He.ga K "Journey") [] (spInitR (He.ga K "Journey") (He.ga K "Spending")) := ⟨_, fd_Journey_init, _, _, MK, OIJ, gJ, bJ, vJ⟩
  have D_check_room : Df P w K mg base 1 "check_room" ["many", "most"] [] spRoom := df_mk F_check_room g_check_room (fun _ _ _ _ _ _ us hl => match us, hl with | [_, _], _ => rfl) (p_room ⟨_, _, F_check_room⟩ )
  have OR : FnOk P w K mg base CX0 1 _ fd_rank_of ["line"] (spRank (He.ga K "Spending")) := p_rank ⟨_, _, F_rank_of⟩ SS
  have bRk : Binds K fd_rank_of ["line"] [] := FunD.bindsN F_rank_of (fun _ _ _ _ _ _ us hl => match us, hl with | [_], _ => rfl)
  have D_place_of : Df P w K mg base 2 "place_of" ["spending", "spendings"] [] (spPlace (He.ga K "Spending")) := df_mk F_place_of g_place_of (fun _ _ _ _ _ _ us hl => match us, hl with | [_, _], _ => rfl) (p_place ⟨_, _, F_place_of⟩ tenumerate MSe)
  have OMHd : FnOk P w K mg base (L2N.CX P w) 2 _ fd_Journey_has_day ["self", "day"] (spHasR (He.ga K "Journey") (He.ga K "Spending")) := p_hasR ⟨_, _, F_Journey_has_day⟩ T S D_is_whole
  have MHd : Me P w K mg base 2 (He.ga K "Journey") "has_day" [] (spHasR (He.ga K "Journey") (He.ga K "Spending")) := ⟨_, fd_Journey_has_day, _, _, mMHd, OMHd, bHd, .nil⟩
  have OMBe : FnOk P w K mg base (L2N.CX P w) 1 _ fd_Journey_become ["self", "spent", "sums"] (spBecome (He.ga K "Journey") (He.ga K "Spending")) := p_become ⟨_, _, F_Journey_become⟩ S
  have MBe : Me P w K mg base 1 (He.ga K "Journey") "become" [] (spBecome (He.ga K "Journey") (He.ga K "Spending")) := ⟨_, fd_Journey_become, _, _, mMBe, OMBe, bBe, .nil⟩
  have OMSp : FnOk P w K mg base (L2N.CX P w) 3 _ fd_Journey_spend ["self", "spending"] (spSpendR (He.ga K "Journey") (He.ga K "Spending")) := p_spendR ⟨_, _, F_Journey_spend⟩ T T3 S SS MHd D_check_room MBe
  have MSp : Me P w K mg base 3 (He.ga K "Journey") "spend" [] (spSpendR (He.ga K "Journey") (He.ga K "Spending")) := ⟨_, fd_Journey_spend, _, _, mMSp, OMSp, bSp, .nil⟩
  have OMH : FnOk P w K mg base (L2N.CX P w) 3 _ fd_Journey_had ["self", "amount"] (spHadR (He.ga K "Journey") (He.ga K "Spending")) := p_hadR ⟨_, _, F_Journey_had⟩ T T3 S D_is_whole D_check_room MBe
  have MH : Me P w K mg base 3 (He.ga K "Journey") "had" [] (spHadR (He.ga K "Journey") (He.ga K "Spending")) := ⟨_, fd_Journey_had, _, _, mMH, OMH, bH, .nil⟩
  have OMU : FnOk P w K mg base (L2N.CX P w) 1 _ fd_Journey_undo ["self"] (spUndoR (He.ga K "Journey") (He.ga K "Spending")) := p_undoR ⟨_, _, F_Journey_undo⟩ T S
  have MU : Me P w K mg base 1 (He.ga K "Journey") "undo" [] (spUndoR (He.ga K "Journey") (He.ga K "Spending")) := ⟨_, fd_Journey_undo, _, _, mMU, OMU, bU, .nil⟩
  have OMTn : FnOk P w K mg base (L2N.CX P w) 7 _ fd_Journey_twin ["self"] (spTwinR (He.ga K "Journey") (He.ga K "Spending")) := p_twinR ⟨_, _, F_Journey_twin⟩ S tlist MJ
  have MTn : Me P w K mg base 7 (He.ga K "Journey") "twin" [] (spTwinR (He.ga K "Journey") (He.ga K "Spending")) := ⟨_, fd_Journey_twin, _, _, mMTn, OMTn, bTn, .nil⟩
  have OML : FnOk P w K mg base (L2N.CX P w) 4 _ fd_Journey_lines ["self"] (spLinesR (He.ga K "Journey") (He.ga K "Spending")) := p_linesR ⟨_, _, F_Journey_lines⟩ S tsorted OR bRk g_rank_of
  have ML : Me P w K mg base 4 (He.ga K "Journey") "lines" [] (spLinesR (He.ga K "Journey") (He.ga K "Spending")) := ⟨_, fd_Journey_lines, _, _, mML, OML, bL, .nil⟩
  have OMTw : FnOk P w K mg base (L2N.CX P w) 5 _ fd_Journey_twins ["self"] (spTwinsR (He.ga K "Journey") (He.ga K "Spending")) := p_twinsR ⟨_, _, F_Journey_twins⟩ T S ML D_are_twins
  have MTw : Me P w K mg base 5 (He.ga K "Journey") "twins" [] (spTwinsR (He.ga K "Journey") (He.ga K "Spending")) := ⟨_, fd_Journey_twins, _, _, mMTw, OMTw, bTw, .nil⟩
  have OMSt : FnOk P w K mg base (L2N.CX P w) 3 _ fd_Journey_strike ["self", "spending"] (spStrikeR (He.ga K "Journey") (He.ga K "Spending")) := p_strikeR ⟨_, _, F_Journey_strike⟩ S D_place_of MBe
  have MSt : Me P w K mg base 3 (He.ga K "Journey") "strike" [] (spStrikeR (He.ga K "Journey") (He.ga K "Spending")) := ⟨_, fd_Journey_strike, _, _, mMSt, OMSt, bSt, .nil⟩
  have MLen : Mo P w K mg base 1 (He.ga K "Journey") "__len__" (spLenR (He.ga K "Journey") (He.ga K "Spending")) := ⟨_, fd_Journey_len, _, p_lenR ⟨_, _, F_Journey_len⟩ T S, mLen.at_, mLen.fn, bLen⟩
  have MEq : Mo P w K mg base 5 (He.ga K "Journey") "__eq__" (spEqR K (He.ga K "Journey") (He.ga K "Spending")) := ⟨_, fd_Journey_eq, _, p_eqR ⟨_, _, F_Journey_eq⟩ T S tsorted gJ (fun h => CF.ty S.cl h) ML MSe, mEq.at_, mEq.fn, bEq⟩
  have D__law_cell : Df P w K mg base 1 "_law_cell" ["_law_script", "_law_k"] [] (spCell K) := df_mk F__law_cell g__law_cell (fun _ _ _ _ _ _ us hl => match us, hl with | [_, _], _ => rfl) (p_cell ⟨_, _, F__law_cell⟩ TJ)
  have D__law_mix : Df P w K mg base 1 "_law_mix" ["_law_cell_here", "_law_k"] [] spMix := df_mk F__law_mix g__law_mix (fun _ _ _ _ _ _ us hl => match us, hl with | [_, _], _ => rfl) (p_mix ⟨_, _, F__law_mix⟩ )
  have D__law_box : Df P w K mg base 2 "_law_box" ["_law_script", "_law_k", "_law_lap"] [] (spBoxM K) := df_mk F__law_box g__law_box (fun _ _ _ _ _ _ us hl => match us, hl with | [_, _, _], _ => rfl) (p_boxM ⟨_, _, F__law_box⟩ TJ D__law_cell D__law_mix)
  have D__law_take : Df P w K mg base 1 "_law_take" ["_law_box_here", "_law_count"] [] spTakeM := df_mk F__law_take g__law_take (fun _ _ _ _ _ _ us hl => match us, hl with | [_, _], _ => rfl) (p_takeM ⟨_, _, F__law_take⟩ TJ)
  have D__law_sorts : Df P w K mg base 1 "_law_sorts" [] [] spSorts := df_mk F__law_sorts g__law_sorts (fun _ _ _ _ _ _ us hl => match us, hl with | [], _ => rfl) (p_sorts ⟨_, _, F__law_sorts⟩ )
  have D__law_row : Df P w K mg base 2 "_law_row" ["_law_box_here", "_law_many"] [] spRowM := df_mk F__law_row g__law_row (fun _ _ _ _ _ _ us hl => match us, hl with | [_, _], _ => rfl) (p_rowM ⟨_, _, F__law_row⟩ D__law_sorts D__law_take)
  have D__law_spent : Df P w K mg base 6 "_law_spent" ["_law_row_here"] [] (spSpentR (He.ga K "Spending")) := df_mk F__law_spent g__law_spent (fun _ _ _ _ _ _ us hl => match us, hl with | [_], _ => rfl) (p_spentR ⟨_, _, F__law_spent⟩ MS0)
  have D__law_towns : Df P w K mg base 2 "_law_towns" ["_law_box_here"] [] spTowns := df_mk F__law_towns g__law_towns (fun _ _ _ _ _ _ us hl => match us, hl with | [_], _ => rfl) (p_towns ⟨_, _, F__law_towns⟩ TJ ttuple D__law_take)
  have D__law_travel : Df P w K mg base 7 "_law_travel" ["_law_towns_here", "_law_parts", "_law_rows", "_law_sums"] [] (spTravel (He.ga K "Journey") (He.ga K "Spending")) := df_mk F__law_travel g__law_travel (fun _ _ _ _ _ _ us hl => match us, hl with | [_, _, _, _], _ => rfl) (p_travel ⟨_, _, F__law_travel⟩ S MJ D__law_spent MSp MH)
  have D__law_mixed : Df P w K mg base 2 "_law_mixed" ["_law_box_here", "_law_things"] [] spMixed := df_mk F__law_mixed g__law_mixed (fun _ _ _ _ _ _ us hl => match us, hl with | [_, _], _ => rfl) (p_mixed ⟨_, _, F__law_mixed⟩ T tlist D__law_take)
  have D__law_among : Df P w K mg base 7 "_law_among" ["_law_box_here", "_law_towns_here", "_law_parts", "_law_rows", "_law_sums"] [] (spAmong (He.ga K "Journey") (He.ga K "Spending")) := df_mk F__law_among g__law_among (fun _ _ _ _ _ _ us hl => match us, hl with | [_, _, _, _, _], _ => rfl) (p_among ⟨_, _, F__law_among⟩ T T3 S D__law_take D__law_mixed MJ D__law_spent MS5 MSp MH MU MSt)
  have D__law_unlike_right : Df P w K mg base 8 "_law_unlike_right" ["_law_box_here", "_law_one", "_law_towns_here", "_law_parts", "_law_rows", "_law_sums"] [] (spUnlike (He.ga K "Journey") (He.ga K "Spending")) := df_mk F__law_unlike_right g__law_unlike_right (fun _ _ _ _ _ _ us hl => match us, hl with | [_, _, _, _, _, _], _ => rfl) (p_unlike ⟨_, _, F__law_unlike_right⟩ T S CF D__law_take D__law_travel MEq)
  have D__law_twin_right : Df P w K mg base 8 "_law_twin_right" ["_law_box_here", "_law_one", "_law_other", "_law_rows"] [] (spTwinRight (He.ga K "Journey") (He.ga K "Spending")) := df_mk F__law_twin_right g__law_twin_right (fun _ _ _ _ _ _ us hl => match us, hl with | [_, _, _, _], _ => rfl) (p_twinRight ⟨_, _, F__law_twin_right⟩ T S CF gJ MEq MLen MTn MSp MH MU MSt ML MS3)
  have D__law_undone_right : Df P w K mg base 8 "_law_undone_right" ["_law_towns_here", "_law_parts", "_law_rows", "_law_sums"] [] (spUndone (He.ga K "Journey") (He.ga K "Spending")) := df_mk F__law_undone_right g__law_undone_right (fun _ _ _ _ _ _ us hl => match us, hl with | [_, _, _, _], _ => rfl) (p_undone ⟨_, _, F__law_undone_right⟩ T S CF D__law_travel MJ MEq MTn MU)
  exact p_law ⟨_, _, F_law⟩ T S CF tmax tmin nSJ D__law_box D__law_take D__law_towns D__law_row D__law_among D__law_travel D__law_unlike_right D__law_twin_right D__law_undone_right MSe MEq ML MTw
end Rp
open PySem PySem.W PySem.Calls PyProof.Rows in
set_option maxRecDepth 100000 in
set_option maxHeartbeats 0 in
theorem PySem.Challenge.cw_roadpence_k33_whole_journeys_in_any_orde_holds : PySem.Challenge.rw_roadpence_k33_whole_journeys_in_any_orde.Holds := by
  w_on; o_law
  refine HandSHeadRun.head_any (r := OpenLaw.row PySem.Challenge.rw_roadpence_k33_whole_journeys_in_any_orde) (q := Rp.RV) (H := Rp.hk) (ob := Rp.ob) (M := 9000) (loose := Rp.loose) (d := HandSHeadRun.topDef (OpenLaw.row PySem.Challenge.rw_roadpence_k33_whole_journeys_in_any_orde).prog 57) (kwd := []) Rp.ob_eq
    (by kernel_rfl) (fun s => by kernel_rfl) Rp.run (by kernel_rfl) (by kernel_rfl) (by kernel_rfl) (by rfl) (by first | assumption | decide +kernel) (by decide +kernel) ⟨rfl, rfl, rfl, rfl, rfl, by decide +kernel⟩ ?hw ?hc
  case hw => w_witness2
  case hc =>
    refine L2.walk_ofE (l := PySem.Challenge.rw_roadpence_k33_whole_journeys_in_any_orde) (n := 63) (k := 9) (x := "_law_script") (CX := L2.CX0) rfl (by decide) (by kernel_rfl) ⟨rfl, by decide, by decide⟩ ?F (fun _ _ _ _ z => z)
    intro w mg fa h Y G hmg0
    obtain ⟨K, KX, c, cx⟩ := Y
    have hmg : mg ("law" : PySem.Str) = some (.ref fa) := by
      have e : (HandSHeadRun.topDef (OpenLaw.row PySem.Challenge.rw_roadpence_k33_whole_journeys_in_any_orde).prog 57).name = ("law" : PySem.Str) := by kernel_rfl
      rw [← e]
      exact hmg0
    obtain ⟨fd, hb, hF⟩ := Rp.facts (P := (PySem.Challenge.rw_roadpence_k33_whole_journeys_in_any_orde).prog) (w := w) KX G hmg c cx
    exact ⟨K, fd, Rp.spLaw K, KX, hb, fun H a ns hl _ hS => ⟨a, ns, rfl, hS, hl, fun _ => rfl⟩, hF⟩
