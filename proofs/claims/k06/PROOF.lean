import PyProof.Rows.All
import Wide.All
import OpenK.AllK
import Wide.FinOn
import PyProof.ReprRoads
import HandS.ForMost
import HandS.ForExc
import HandS.Wide
import HandS.Gcd
import HandS.IsInst
import HandS.Defaults
import HandS.NoneIn
import HandS.Style
import HandS.Evl
import KE.KExcIs
import HandS.Exc
import HandS.ExcValue
import HandS.ExcInit
import HandS.ExcField
import HandS.ExcOwn
import HandS.WordsExc
import PyProof.Rows.RuleB_bool
import PyProof.FitsInt
import PyProof.ReprLen
import HandS.Walk
import HandS.Rev
import HandS.Zip0
import KE.GoesMore
import KE.GoesEnum
import PySem.Challenge.RW_typedcurve_k06_rows_valued_and_multiplie
set_option Elab.async false
set_option linter.all false
set_option maxRecDepth 100000
set_option maxHeartbeats 4000000
namespace Ty
open PySem PySem.Spec PyProof.Rows L2
section
variable {X : Cx}
/-- repr of data -/
def rRepr (K : PySem.W.Frag) : List V → Hp → VK → Prop := fun xs H Q => ∃ a d, xs = [.ref a] ∧ Dp K H (.ref a) d ∧ d.showable = true ∧ d.hasDict = false ∧ d.depth ≤ 60 ∧ d.shown.length ≤ sizeLine ∧ Q (.str d.shown) H
theorem call_repr (hu : X.A.units + 64 < cLine) (hg : X.A.guards = some []) : CallR X (.builtin "repr") (rRepr X.K) := by
  intro pins s σ H xs us Q I r h
  obtain ⟨a, d, rfl, hd, h1, h2, h3, h4, q⟩ := h
  cases r with
  | cons rv rn =>
    cases rn
    cases (show _ = Value.ref a from rv)
    obtain ⟨as, rr⟩ := Dp.reads I d _ _ hd rfl
    refine repr_of_reads' rr h1 (fun z => by rw [h2] at z; cases z) hg (by omega) (fun _ _ e => e) (fun h' u tk hk => ?_) h4
    exact ⟨.str d.shown, H, I.kept hk, ⟨u, rfl⟩, q⟩
/-- a target of several names: a list or a tuple -/
theorem pg_or {tg : Expr} {g g' : TG} (h : PG X tg g) (h' : PG X tg g') : PG X tg (fun v σ H Q => g v σ H Q ∨ g' v σ H Q) := by
  refine ⟨fun pins s σ H v u Q I r hw => ?_⟩
  rcases hw with hw | hw
  · exact h.run pins s σ H v u Q I r hw
  · exact h'.run pins s σ H v u Q I r hw
variable {CX : CXT} {k : Nat} {f : Addr} {fd : FuncData} {ps ks : List Str} {sp : Sp} {E : XK} {x : Str} {p pos : Pos} {kws : List Keyword} {t tk : TA} {g : List Value → List Value → List Value} {gV : List V → List V → List V}
/-- f(k = v, ..) -/
theorem pe_callN0 (F : FnOk X.prog X.w X.K X.mg X.base CX k f fd ps sp) (hr : Room k X.A) (hg : Gl X x) (hm : X.mg x = some (.ref f)) (hk : PySem.W.keepIn X.K (.ref f) = true) (hb : KBn X.K fd ps 0 ks g gV) (hx : Passes CX X E)
    (hkw : PK X kws tk) (hall : (backToKw pos (keywordEach kws X.env)).all (·.1.isSome) = true := by rfl) (hks : (backToKw pos (keywordEach kws X.env)).filterMap (·.1) = ks := by rfl)
    (hdb : (x == ("__debug__" : Str)) = false := by decide)
    (hpl : ((backTo pos (starEach [] X.env)).any (·.1) || (backToKw pos (keywordEach kws X.env)).any (·.1.isNone)) = false := by rfl) :
    PE X (.Call (.Name x p) [] kws pos) (tCallN 0 ks.length sp gV E tNil tk) := by
  refine ⟨fun pins s σ H Q I h => ?_⟩
  refine wpAny_Call_Name_kw (ld_glob I hg hm ?_ hdb)
  refine PySem.W.callWith_KW0 (h₀ := X.base) I.ok.mod.kin hk hall (thn (hkw.run pos pins s σ H _ I h) fun ws s2 hh => ?_) hpl
  obtain ⟨zs, H2, I2, rz, l1, l2, q2⟩ := hh
  refine ⟨I2.kIn, ?_⟩
  rw [hks]
  exact run_fnN F hr hb hx I2 .nil rz l1 l2 q2
end
/-- how a call with keywords binds, no defaults -/
theorem kbn_of {K : PySem.W.Frag} {y qual : Str} {st : Stmt} {f : Addr} {fd : FuncData} {ps : List Str} {n : Nat} {ks : List Str} {g : List Value → List Value → List Value} {gV : List V → List V → List V} (F : Fun K y qual st f fd)
    (h : ∀ (kV doc pm : Value) (an : Option Addr) (cdv ct : Value) (us ws : List Value), us.length = n → ws.length = ks.length → bindArgs (PySem.W.fnOf y qual (defArgs st) (defBody st) (defScope st) .none kV doc pm an cdv ct) ⟨us, ks.zip ws⟩ = pure (ps.zip (g us ws)))
    (hrel : ∀ {vs : List V} {us : List Value} {zs : List V} {ws : List Value}, Vals vs us → Vals zs ws → Vals (gV vs zs) (g us ws)) : KBn K fd ps n ks g gV := by
  obtain ⟨oc, od, kV, doc, pm, an, cdv, ct, osl, rfl, lk, hcd⟩ := F.ex
  exact ⟨fun s us ws _ h1 h2 => .of_eq (h kV doc pm an cdv ct us ws h1 h2), hrel⟩
end Ty

namespace Ty
open PySem PySem.Spec PyProof.Rows L2
theorem Same.new {H : Hp} {p : Addr} {o : HO} (h : H p = none) : Same H (upd H p o) := fun a u e => by
  rw [upd_ne (ne_of_none e h)]
  exact e
/-! ### operators -/
def CPowW (i j : Int) : Prop := 0 ≤ j ∧ j ≤ 100 ∧ i.natAbs.log2 < 1000000
theorem op_powW {X : Cx} : OpR X (binaryOp .Pow) (rI CPowW fun i j => .int (i ^ j.toNat)) := opI fun i j _ _ _ _ _ hc q => by
  refine pow_int hc.1 ?_ q
  have b : Builtin.Int.intBits i ≤ i.natAbs.log2 + 1 := by
    unfold Builtin.Int.intBits
    split <;> omega
  have h1 := hc.1
  have h2 := hc.2.1
  have h3 := hc.2.2
  have h4 : (Builtin.Int.intBits i : Int) ≤ 1000000 := by omega
  have h5 : (Builtin.Int.intBits i : Int) * j ≤ 1000000 * 100 := Int.mul_le_mul h4 h2 h1 (by decide)
  exact Int.le_trans h5 (by decide)
/-- == and != of a list and an empty one -/
def rEqE (K : PySem.W.Frag) : R2 := fun x y H Q => ∃ a b xs, x = .ref a ∧ y = .ref b ∧ SqL K H a xs ∧ SqL K H b [] ∧ Q (.bl xs.isEmpty) H
def rNeE (K : PySem.W.Frag) : R2 := fun x y H Q => ∃ a b xs, x = .ref a ∧ y = .ref b ∧ SqL K H a xs ∧ SqL K H b [] ∧ Q (.bl (!xs.isEmpty)) H
theorem op_eqE {X : Cx} (hu : X.A.units < cLine) : OpR X (compareOp .Eq) (rEqE X.K) := by
  intro pins s σ H x y v u Q I rx ry h
  obtain ⟨a, b, xs, rfl, rfl, ha, hb, q⟩ := h
  cases (show v = Value.ref a from rx)
  cases (show u = Value.ref b from ry)
  obtain ⟨us, r1, p1, _⟩ := I.list ha
  obtain ⟨ws, r2, p2, _⟩ := I.list hb
  cases r2
  cases xs with
  | nil =>
    cases r1
    refine SeqAt.eq_listAt (e := fun _ => true) p1.isList p2.isList rfl hu (fun j h1 _ => absurd h1 (Nat.not_lt_zero _)) ?_
    exact ⟨.bl true, H, I, rfl, q⟩
  | cons z zs =>
    refine SeqAt.eq_list_lengthsAt p1.isList p2.isList ?_ hu ⟨.bl false, H, I, rfl, q⟩
    have e := r1.length
    rw [List.length_cons] at e
    rw [List.size_toArray, ← e]
    rfl
theorem op_neE {X : Cx} (hu : X.A.units < cLine) : OpR X (compareOp .NotEq) (rNeE X.K) := by
  intro pins s σ H x y v u Q I rx ry h
  obtain ⟨a, b, xs, rfl, rfl, ha, hb, q⟩ := h
  cases (show v = Value.ref a from rx)
  cases (show u = Value.ref b from ry)
  obtain ⟨us, r1, p1, _⟩ := I.list ha
  obtain ⟨ws, r2, p2, _⟩ := I.list hb
  cases r2
  cases xs with
  | nil =>
    cases r1
    refine SeqAt.RcNeAt.lists (e := fun _ => true) p1.isList p2.isList rfl hu (fun j h1 _ => absurd h1 (Nat.not_lt_zero _)) _ _ _ _ ?_
    exact ⟨.bl false, H, I, rfl, q⟩
  | cons z zs =>
    refine SeqAt.RcNeAt.lists_lengths p1.isList p2.isList ?_ hu _ _ _ _ ⟨.bl true, H, I, rfl, q⟩
    have e := r1.length
    rw [List.length_cons] at e
    rw [List.size_toArray, ← e]
    rfl
/-! ### any value -/
inductive Da where
  | non
  | bl (b : Bool)
  | int (i : Int)
  | str (x : Str)
  | tup (l : List Da)
  | lst (l : List Da)
  | dic
mutual
inductive Is (H : Hp) : V → Da → Prop
  | non : Is H .non .non
  | bl (b : Bool) : Is H (.bl b) (.bl b)
  | int (i : Int) : Is H (.int i) (.int i)
  | str (x : Str) : Is H (.str x) (.str x)
  | tup {a : Addr} {xs : List V} {ds : List Da} : H a = some (.tup xs) → IsAll H xs ds → Is H (.ref a) (.tup ds)
  | lst {a : Addr} {xs : List V} {ds : List Da} : H a = some (.lst xs) → IsAll H xs ds → Is H (.ref a) (.lst ds)
  | dic {a : Addr} : H a = some (.dK []) → Is H (.ref a) .dic
inductive IsAll (H : Hp) : List V → List Da → Prop
  | nil : IsAll H [] []
  | cons {v : V} {vs : List V} {d : Da} {ds : List Da} : Is H v d → IsAll H vs ds → IsAll H (v :: vs) (d :: ds)
end
mutual
theorem Is.mono {H H' : Hp} (s : Same H H') : ∀ (d : Da) (v : V), Is H v d → Is H' v d
  | .non, _, h => by cases h; exact .non
  | .bl _, _, h => by cases h; exact .bl _
  | .int _, _, h => by cases h; exact .int _
  | .str _, _, h => by cases h; exact .str _
  | .tup ds, _, h => by
    cases h with
    | tup e h => exact .tup (s _ _ e) (IsAll.mono s ds _ h)
  | .lst ds, _, h => by
    cases h with
    | lst e h => exact .lst (s _ _ e) (IsAll.mono s ds _ h)
  | .dic, _, h => by
    cases h with
    | dic e => exact .dic (s _ _ e)
theorem IsAll.mono {H H' : Hp} (s : Same H H') : ∀ (ds : List Da) (vs : List V), IsAll H vs ds → IsAll H' vs ds
  | [], _, h => by cases h; exact .nil
  | d :: ds, _, h => by
    cases h with
    | cons h t => exact .cons (Is.mono s d _ h) (IsAll.mono s ds _ t)
end
theorem Is.up {H H' : Hp} {v : V} {d : Da} (h : Is H v d) (s : Same H H') : Is H' v d := Is.mono s d v h
theorem IsAll.up {H H' : Hp} {v : List V} {d : List Da} (h : IsAll H v d) (s : Same H H') : IsAll H' v d := IsAll.mono s d v h
theorem IsAll.length {H : Hp} : ∀ {vs : List V} {ds : List Da}, IsAll H vs ds → vs.length = ds.length
  | _, [], h => by cases h; rfl
  | _, d :: ds, h => by
    cases h with
    | cons _ t => rw [List.length_cons, List.length_cons, IsAll.length t]
theorem IsAll.at {H : Hp} : ∀ {vs : List V} {ds : List Da} {i : Nat} {v : V}, IsAll H vs ds → vs[i]? = some v → ∃ d, ds[i]? = some d ∧ Is H v d
  | _, [], _, _, h, e => by cases h; simp at e
  | _, d :: ds, 0, _, h, e => by
    cases h with
    | cons h _ =>
      cases (Option.some.inj e)
      exact ⟨d, rfl, h⟩
  | _, d :: ds, i + 1, _, h, e => by
    cases h with
    | @cons _ vs _ _ _ t =>
      have e' : vs[i]? = some _ := e
      obtain ⟨d', h1, h2⟩ := IsAll.at t e'
      exact ⟨d', h1, h2⟩
/-! ### what kind a value is of -/
def kd : Da → String
  | .non => "NoneType" | .bl _ => "bool" | .int _ => "int" | .str _ => "str" | .tup _ => "tuple" | .lst _ => "list" | .dic => "dict"
def isI : Da → Bool
  | .int _ => true | .bl _ => true | _ => false
def isB : Da → Bool
  | .bl _ => true | _ => false
def isN : Da → Bool
  | .int _ => true | _ => false
def isS : Da → Bool
  | .tup _ => true | .lst _ => true | _ => false
def items : Da → List Da
  | .tup l => l | .lst l => l | _ => []
theorem Is.ty {K : PySem.W.Frag} {H : Hp} {v : V} {d : Da} (h : Is H v d) : TyX K H v (.type (kd d)) := by
  cases h with
  | non => exact .base .non
  | bl b => exact .base (.bl b)
  | int i => exact .base (.int i)
  | str x => exact .base (.str x)
  | tup e _ => exact .base (.tup e)
  | lst e _ => exact .base (.lst e)
  | dic e => exact .base (.dK e)
theorem kit_int : ∀ d : Da, kitB (kd d) "int" = some (isI d)
  | .non => show kitB "NoneType" "int" = some false by decide +kernel
  | .bl _ => show kitB "bool" "int" = some true by decide +kernel
  | .int _ => show kitB "int" "int" = some true by decide +kernel
  | .str _ => show kitB "str" "int" = some false by decide +kernel
  | .tup _ => show kitB "tuple" "int" = some false by decide +kernel
  | .lst _ => show kitB "list" "int" = some false by decide +kernel
  | .dic => show kitB "dict" "int" = some false by decide +kernel
theorem kit_bool : ∀ d : Da, kitB (kd d) "bool" = some (isB d)
  | .non => show kitB "NoneType" "bool" = some false by decide +kernel
  | .bl _ => show kitB "bool" "bool" = some true by decide +kernel
  | .int _ => show kitB "int" "bool" = some false by decide +kernel
  | .str _ => show kitB "str" "bool" = some false by decide +kernel
  | .tup _ => show kitB "tuple" "bool" = some false by decide +kernel
  | .lst _ => show kitB "list" "bool" = some false by decide +kernel
  | .dic => show kitB "dict" "bool" = some false by decide +kernel
def isL : Da → Bool
  | .lst _ => true | _ => false
def isT : Da → Bool
  | .tup _ => true | _ => false
theorem kit_list : ∀ d : Da, kitB (kd d) "list" = some (isL d)
  | .non => show kitB "NoneType" "list" = some false by decide +kernel
  | .bl _ => show kitB "bool" "list" = some false by decide +kernel
  | .int _ => show kitB "int" "list" = some false by decide +kernel
  | .str _ => show kitB "str" "list" = some false by decide +kernel
  | .tup _ => show kitB "tuple" "list" = some false by decide +kernel
  | .lst _ => show kitB "list" "list" = some true by decide +kernel
  | .dic => show kitB "dict" "list" = some false by decide +kernel
theorem kit_tuple : ∀ d : Da, kitB (kd d) "tuple" = some (isT d)
  | .non => show kitB "NoneType" "tuple" = some false by decide +kernel
  | .bl _ => show kitB "bool" "tuple" = some false by decide +kernel
  | .int _ => show kitB "int" "tuple" = some false by decide +kernel
  | .str _ => show kitB "str" "tuple" = some false by decide +kernel
  | .tup _ => show kitB "tuple" "tuple" = some true by decide +kernel
  | .lst _ => show kitB "list" "tuple" = some false by decide +kernel
  | .dic => show kitB "dict" "tuple" = some false by decide +kernel
theorem kit_seq {K : PySem.W.Frag} (d : Da) : PySem.W.kitAny K (.type (kd d)) [.type "list", .type "tuple"] = some (isS d) := by
  refine kitAny_cons (kit_ty (kit_list d)) (fun h => kitAny_cons (kit_ty (kit_tuple d)) (fun h2 => ?_) fun h2 => ?_) fun h => ?_
  · rw [kitAny_nil]
    cases d with
    | lst _ => cases h
    | tup _ => cases h2
    | _ => rfl
  · cases d with
    | tup _ => rfl
    | _ => cases h2
  · cases d with
    | lst _ => rfl
    | _ => cases h
section
variable {K : PySem.W.Frag} {H : Hp} {v : V} {d : Da} {Q : VK}
theorem isi_int (h : Is H v d) (q : Q (.bl (isI d)) H) : rIsi K [v, .ty "int"] H Q := ⟨v, .ty "int", _, _, _, rfl, .ty "int", h.ty, kit_ty (kit_int d), q⟩
theorem isi_bool (h : Is H v d) (q : Q (.bl (isB d)) H) : rIsi K [v, .ty "bool"] H Q := ⟨v, .ty "bool", _, _, _, rfl, .ty "bool", h.ty, kit_ty (kit_bool d), q⟩
theorem isi_tuple (h : Is H v d) (q : Q (.bl (isT d)) H) : rIsi K [v, .ty "tuple"] H Q := ⟨v, .ty "tuple", _, _, _, rfl, .ty "tuple", h.ty, kit_ty (kit_tuple d), q⟩
theorem isi_list (h : Is H v d) (q : Q (.bl (isL d)) H) : rIsi K [v, .ty "list"] H Q := ⟨v, .ty "list", _, _, _, rfl, .ty "list", h.ty, kit_ty (kit_list d), q⟩
theorem isi_seq {p : Addr} (h : Is H v d) (hp : H p = some (.tup [.ty "list", .ty "tuple"])) (q : Q (.bl (isS d)) H) : rIsiT K [v, .ref p] H Q :=
  ⟨v, p, _, _, [.type "list", .type "tuple"], _, rfl, hp, .cons (.ty "list") (.cons (.ty "tuple") .nil), h.ty, kit_seq d, q⟩
end
section
variable {X : Cx}
theorem call_isiInt : CallR X (.builtin "isinstance") (fun xs H Q => ∃ x d, xs = [x, .ty "int"] ∧ Is H x d ∧ Q (.bl (isI d)) H) := by
  intro pins s σ H xs us Q I r h
  obtain ⟨x, d, rfl, h, q⟩ := h
  exact call_isi pins s σ H _ us Q I r (isi_int h q)
theorem call_isiBool : CallR X (.builtin "isinstance") (fun xs H Q => ∃ x d, xs = [x, .ty "bool"] ∧ Is H x d ∧ Q (.bl (isB d)) H) := by
  intro pins s σ H xs us Q I r h
  obtain ⟨x, d, rfl, h, q⟩ := h
  exact call_isi pins s σ H _ us Q I r (isi_bool h q)
theorem call_isiList : CallR X (.builtin "isinstance") (fun xs H Q => ∃ x d, xs = [x, .ty "list"] ∧ Is H x d ∧ Q (.bl (isL d)) H) := by
  intro pins s σ H xs us Q I r h
  obtain ⟨x, d, rfl, h, q⟩ := h
  exact call_isi pins s σ H _ us Q I r (isi_list h q)
theorem call_isiTuple : CallR X (.builtin "isinstance") (fun xs H Q => ∃ x d, xs = [x, .ty "tuple"] ∧ Is H x d ∧ Q (.bl (isT d)) H) := by
  intro pins s σ H xs us Q I r h
  obtain ⟨x, d, rfl, h, q⟩ := h
  exact call_isi pins s σ H _ us Q I r (isi_tuple h q)
/-- isinstance(x, (list, tuple)) -/
theorem call_isiSeq : CallR X (.builtin "isinstance") (fun xs H Q => ∃ x d p, xs = [x, .ref p] ∧ H p = some (.tup [.ty "list", .ty "tuple"]) ∧ Is H x d ∧ Q (.bl (isS d)) H) := by
  intro pins s σ H xs us Q I r h
  obtain ⟨x, d, p, rfl, hp, h, q⟩ := h
  exact call_isiT pins s σ H _ us Q I r (isi_seq h hp q)
end
/-- what a sequence holds -/
theorem Is.seq {K : PySem.W.Frag} {H : Hp} {v : V} {d : Da} (h : Is H v d) (s : isS d = true) : ∃ a xs, v = .ref a ∧ (SqL K H a xs ∨ SqT K H a xs) ∧ IsAll H xs (items d) := by
  cases h with
  | tup e h => exact ⟨_, _, rfl, .inr (.inl (.inl e)), h⟩
  | lst e h => exact ⟨_, _, rfl, .inl (.inl (.inl e)), h⟩
  | _ => cases s
end Ty

namespace Ty
open PySem PySem.Spec PyProof.Rows L2
/-- a def's promise where nothing is being shown (repr) around the call -/
structure FnG (P : Program) (w : World) (K : PySem.W.Frag) (mg : Str → Option Value) (base : Heap) (CX : CXT) (k : Nat) (f : Addr) (fd : FuncData) (ps : List Str) (sp : Sp) : Prop where
  len : ∀ vs H Q E, sp vs H Q E → vs.length = ps.length
  run : ∀ (A : Around), A.guards = some [] → ∀ (outer : List Env) (s : Shared) (H : Hp) (args : Args) (us : List Value) (vs : List V) (Q : VK) (E : XK), Room k A → Env0 P w K mg base A outer s H → BindsTo s fd args (ps.zip us) → Vals vs us → sp vs H Q E →
    codeAny (model P w) A (.call (.ref f) args) (CR CX outer P w H s Q E) s
section
variable {P : Program} {w : World} {K : PySem.W.Frag} {mg : Str → Option Value} {base : Heap}
theorem FnG.of {CX : CXT} {k : Nat} {f : Addr} {fd : FuncData} {ps : List Str} {sp : Sp} (F : FnOk P w K mg base CX k f fd ps sp) : FnG P w K mg base CX k f fd ps sp :=
  ⟨F.len, fun A _ outer s H args us vs Q E => F.run A outer s H args us vs Q E⟩
theorem Fun.okX {CX : CXT} {y qual : Str} {st : Stmt} {f : Addr} {fd : FuncData} {N ps : List Str} {k : Nat} {sp : Sp} (F : Fun K y qual st f fd) (S : FnScope N ps (defScope st)) (len : ∀ vs H Q E, sp vs H Q E → vs.length = ps.length)
    (body : ∀ (cdv : Value) (A : Around) (outer : List Env) (s : Shared) (H : Hp) (vs : List V) (Q : VK) (E : XK), A.guards = some [] → Room k (A.deeper (envOfC qual (defScope st) s.heap.objs.size f cdv)) → sp vs H Q E →
      ∃ t, PSs (cxOf CX P w K mg base N qual (defScope st) f cdv A outer s H E) (defBody st) t ∧ t { nx := fun _ H' => Q .non H', rt := Q } (start N vs) H) : FnG P w K mg base CX (k + 1) f fd ps sp := by
  obtain ⟨oc, od, kV, doc, pm, an, cdv, ct, osl, rfl, lk, hcd⟩ := F.ex
  constructor
  · exact len
  intro A hgd outer s H args us vs Q E hr e0 hb r hsp
  obtain ⟨t, ht, hq⟩ := body cdv A outer s H vs Q E hgd (hr.deeper _) hsp
  have up : ∀ b o, base.get? b = some o → s.heap.get? b = some o := fun b o e => (e0.bs b o e).1
  have KX : K.In s.heap := e0.mod.kin.keeps up
  refine codeAny_call_function hr.depth (KX _ _ lk) rfl S.co S.gen rfl (PySem.W.codeRec_of KX hcd) (hb _ _ _ _ (wpAny_newFunctionEnv_cells S.kind ?_ ?_))
  · rintro ⟨n, v⟩ hy
    rcases S.par n (List.of_mem_zip hy).1 with q | q
    · exact Or.inl q
    · exact Or.inr ⟨q, PySem.W.cellsFrom_some _ _ _ (Or.inl q)⟩
  · intro env he s1 x
    subst he
    refine ⟨(e0.mod.nolimit.keeps up).keeps x.toInCall.keep, codeAny_func ?_⟩
    refine wpAny_mono (ht.run [] s1 (start N vs) H _ (inv_start S hr.hd e0 (len _ _ _ _ hsp) r x) hq) ?_ fun _ _ h => h
    intro fl s' hs
    cases fl with
    | ret u => obtain ⟨v, σ', H', J, rv, q⟩ := hs; exact ⟨v, H', J.os, J.bare, J.base, J.hok, rv, q⟩
    | next => obtain ⟨σ', H', J, q⟩ := hs; exact ⟨V.non, H', J.os, J.bare, J.base, J.hok, rfl, q⟩
    | brk => obtain ⟨_, _, _, q⟩ := hs; cases q
    | cont => obtain ⟨_, _, _, q⟩ := hs; cases q
theorem Fun.okG {y qual : Str} {st : Stmt} {f : Addr} {fd : FuncData} {N ps : List Str} {k : Nat} {sp : Sp} (F : Fun K y qual st f fd) (S : FnScope N ps (defScope st)) (len : ∀ vs H Q E, sp vs H Q E → vs.length = ps.length)
    (body : ∀ (cdv : Value) (A : Around) (outer : List Env) (s : Shared) (H : Hp) (vs : List V) (Q : VK) (E : XK), A.guards = some [] → Room k (A.deeper (envOfC qual (defScope st) s.heap.objs.size f cdv)) → sp vs H Q E →
      ∃ t, PSs (cxOf CX0 P w K mg base N qual (defScope st) f cdv A outer s H E).nox (defBody st) t ∧ t { nx := fun _ H' => Q .non H', rt := Q } (start N vs) H) : FnG P w K mg base CX0 (k + 1) f fd ps sp := by
  refine Ty.Fun.okX F S len ?_
  intro cdv A outer s H vs Q E h1 h2 h3
  obtain ⟨t, h4, h5⟩ := body cdv A outer s H vs Q E h1 h2 h3
  exact ⟨t, h4.nox, h5⟩
end
section
variable {X : Cx} {CX : CXT} {k n : Nat} {f : Addr} {fd : FuncData} {ps ks : List Str} {sp : Sp} {E : XK} {x : Str} {p pos : Pos} {e : Expr} {es : List Expr} {t : TA} {dvs : List V} {ds : List Value}
/-- f(e, ..) of such a def -/
theorem pe_callG (hgd : X.A.guards = some []) (F : FnG X.prog X.w X.K X.mg X.base CX k f fd ps sp) (hr : Room k X.A) (hg : Gl X x) (hm : X.mg x = some (.ref f)) (hk : PySem.W.keepIn X.K (.ref f) = true) (hb : Binds X.K fd ps ds) (hd : Vals dvs ds) (hx : Passes CX X E)
    (ha : PA X (e :: es) t) (hdb : (x == ("__debug__" : Str)) = false := by decide) (he : starEach (e :: es) X.env = (false, eval e X.env) :: starEach es X.env := by rfl) (hpl : (backTo pos (starEach es X.env)).any (·.1) = false := by rfl) :
    PE X (.Call (.Name x p) (e :: es) [] pos) (tCall sp dvs E t) := by
  constructor
  intro pins s σ H Q I h
  refine wpAny_Call_Name_kw (ld_glob I hg hm (PySem.W.callWith_K (h₀ := X.base) I.ok.mod.kin hk (thn (ha.run pos pins s σ H _ I h) ?_) he hpl) hdb)
  rintro us s1 ⟨vs, H1, I1, r, q⟩
  have r2 : Vals (vs ++ dvs) (us ++ ds) := r.append hd
  refine ⟨I1.kIn, wpAny_call (codeAny_mono (F.run X.A hgd X.stack s1 H1 ⟨us, []⟩ (us ++ ds) (vs ++ dvs) Q E hr I1.env0 (hb s1 us I1.kIn (r2.length.symm.trans (F.len _ _ _ _ q))) r2 q) ?_)⟩
  intro r s' hq
  cases r with
  | error e => exact hx pins σ H1 s1 e s' I1 hq
  | ok fl =>
    cases fl with
    | ret u => exact I1.after hq
    | _ => cases hq
end
/-- the law's call, where the law's def is promised so -/
theorem lawG {P : Program} {w : World} {K : PySem.W.Frag} {mg mb : Str → Option Value} {CX : CXT} {k : Nat} {fa a : Addr} {fd : FuncData} {x : Str} {sp : Sp} {s1 : Shared} {vs : List Value} {ns : List Int}
    (KX : K.In s1.heap) (hns : s1.heap.Ns mainGlobals mg) (hb : s1.heap.Ns builtinsNs mb) (hbb : ∀ x : Str, x ≠ "__name__" → mb x = bootBuiltins x) (hlim : s1.heap.NoLimit) (hg : s1.gens = #[])
    (ha : s1.heap.get? a = some { cls := .type "list", data := .seq vs.toArray }) (hi : IntsAre vs ns) (hl : ns.length ≤ sizeLine) (hr : Room k callerA)
    (F : ∀ base : Heap, K.In base → base.Ns mainGlobals mg → FnG P w K mg base CX k fa fd [x] sp) (hbind : ∀ (s : Shared) (u : Value), BindsTo s fd ⟨[u], []⟩ [(x, u)])
    (hsp : ∀ H : Hp, Only H → SqL K H a (ns.map V.int) → sp [.ref a] H (fun v _ => v = .bl true) fun _ _ _ => False)
    (hCX : ∀ H e s', CX [] H s1 (fun _ _ _ => False) e s' → False) :
    codeAny (model P w) callerA (.call (.ref fa) ⟨[.ref a], []⟩) (fun r s' => r = .ok (.ret (.bool true)) ∧ OldK s1.heap s'.heap ∧ s'.os = s1.os ∧ AllBare s'.gens) s1 := by
  have rv := vals_ints hi
  suffices main : ∃ H : Hp, Only H ∧ SqL K H a (ns.map V.int) ∧ HOk P w H s1.heap ∧ (∀ b, H b ≠ none → b = a) ∧ (H a ≠ none → K.lookup a = none) by
    obtain ⟨H, hO, hS, hok, hA, hK⟩ := main
    have free : ∀ {b : Addr}, b ≠ a → H b = none := fun {b} z => by
      cases q : H b with
      | none => rfl
      | some _ => exact absurd (hA b (by rw [q]; exact nofun)) z
    have dictFree : ∀ {b : Addr} {o : Obj} {es : Array DictEntry} {ep : Nat}, s1.heap.get? b = some o → o.data = .dict es ep → H b = none := fun {b o es ep} e d => by
      refine free fun z => ?_
      rw [z, ha] at e
      cases e
      cases (show Data.seq vs.toArray _ = Data.dict es ep from d)
    have keepNs : ∀ {b : Addr} {m : Str → Option Value}, s1.heap.Ns b m → (hidT s1.heap H).Ns b m := by
      rintro b m ⟨o, es, ep, e, d, r⟩
      exact ⟨o, es, ep, hidT_get e (dictFree e d), d, r⟩
    have KB : K.In (hidT s1.heap H) := fun b o e => by
      refine hidT_get (KX b o e) ?_
      by_cases z : b = a
      · cases q : H b with
        | none => rfl
        | some _ =>
          have z2 := hK (by rw [← z, q]; exact nofun)
          rw [← z, e] at z2
          cases z2
      · exact free z
    have M : Mod K mg (hidT s1.heap H) := by
      obtain ⟨mc, h1, h2⟩ := hlim
      exact ⟨KB, keepNs hns, ⟨mb, keepNs hb, hbb⟩, ⟨mc, keepNs h1, h2⟩⟩
    have e0 : Env0 P w K mg (hidT s1.heap H) callerA [] s1 H := by
      refine ⟨rfl, M, fun b o e => of_hidT e, Nat.le_of_eq (hidT_size _ _), trivial, ?_, hok, .of_eq hg⟩
      intro b hb
      cases hb
    refine codeAny_mono ((F _ KB (keepNs hns)).run callerA rfl [] s1 H ⟨[.ref a], []⟩ [.ref a] [.ref a] _ _ hr e0 (hbind s1 (.ref a)) (.cons rfl .nil) (hsp H hO hS)) ?_
    intro r s' h
    cases r with
    | error e => exact (hCX H e s' h).elim
    | ok fl =>
      cases fl with
      | ret u =>
        obtain ⟨v, H', os, bare, un, hok', r', q⟩ := h
        subst q
        obtain rfl : u = Value.bool true := r'
        refine ⟨rfl, OldK.of_keep ?_, os, bare⟩
        intro b o e
        cases q : H b with
        | none => exact un.keep b o e q (fun z => by cases z) (by simp)
        | some u =>
          rcases hO b with z | ⟨ob, xs, z⟩
          · rw [q] at z
            cases z
          · obtain ⟨e1, _⟩ := hok b _ z
            obtain ⟨e2, _⟩ := hok' b _ (un.frzs b ob _ z)
            rw [e] at e1
            cases e1
            exact e2
      | _ => cases h
  cases hk : K.lookup a with
  | some o =>
    have e := KX a o hk
    rw [ha] at e
    cases e
    have hz : vs.toArray.size ≤ sizeLine := by
      rw [List.size_toArray, hi.length]
      exact hl
    exact ⟨fun _ => none, fun _ => .inl rfl, .inr ⟨_, vs.toArray, _, hk, rfl, rfl, rfl, hz, by simpa using rv⟩, fun b u z => (nomatch z), fun b z => absurd rfl z, fun z => absurd rfl z⟩
  | none =>
    refine ⟨upd (fun _ => none) a (.frz { cls := .type "list", data := .seq vs.toArray } (.lst (ns.map V.int))), fun b => ?_, .inl (.inr ⟨_, upd_same⟩), fun b u z => ?_, fun b z => ?_, fun _ => rfl⟩
    · by_cases q : b = a
      · subst q
        exact .inr ⟨_, _, upd_same⟩
      · exact .inl (upd_ne q)
    · by_cases q : b = a
      · subst q
        rw [upd_same] at z
        cases z
        exact ⟨ha, by rw [List.length_map]; exact hl, vs, _, rv, ha⟩
      · rw [upd_ne q] at z
        cases z
    · by_cases q : b = a
      · exact q
      · exact absurd (upd_ne q) z
theorem walkG {l : PySem.W.OpenLaw} {n k : Nat} {q : Program} {loose : List Str} {XP : (Str → Option Value) → Heap → Prop} {YP : World → Heap → Prop} {d : DefRec} {K : Params → PySem.W.Frag} {CX : World → CXT} {sp : World → Sp} {x : Str}
    (hn : l.most = some n) (hn2 : n ≤ sizeLine) (hdf : d.params.defaults = []) (hr : Room k callerA)
    (hY : ∀ (w : World) (h : Heap), YP w h → (K w.params).In h)
    (F : ∀ (w : World) (mg : Str → Option Value) (fa : Addr) (h : Heap), (K w.params).In h → h.Ns mainGlobals mg → mg d.name = some (.ref fa) →
      ∃ fd : FuncData, (∀ (s : Shared) (u : Value), BindsTo s fd ⟨[u], []⟩ [(x, u)]) ∧
        ∀ base : Heap, (K w.params).In base → base.Ns mainGlobals mg → FnG l.prog w (K w.params) mg base (CX w) k fa fd [x] (sp w))
    (hsp : ∀ (w : World) (H : Hp) (a : Addr) (ns : List Int), ns.length ≤ n → Only H → SqL (K w.params) H a (ns.map V.int) → sp w [.ref a] H (fun v _ => v = .bl true) fun _ _ _ => False)
    (hCX : ∀ (w : World) (H : Hp) (s : Shared) (e : Value) (s' : Shared), CX w [] H s (fun _ _ _ => False) e s' → False) :
    PySem.W.WalkO q loose XP YP l.row.toRowW d [] (fun f vs => PySem.call f vs) := by
  refine Att.attach_call hn hdf ?_
  intro w s0 s1 mg mb fa o pm cd doc a vs ns G Y ho hd hcd hmg hobj hints hlen hg
  obtain ⟨fd, hb, hF⟩ := F w mg fa _ (hY w _ Y) G.T.g hmg
  refine lawG (hY w _ Y) G.T.g G.T.b G.T.builtins G.T.nolimit hg hobj hints (Nat.le_trans hlen hn2) hr hF hb (hsp w · a ns hlen) ?_
  exact fun H e s' => hCX w H s1 e s'
end Ty
namespace Ty
open PySem PySem.Spec PyProof.Rows L2
/-- the values in the parameters' order -/
def perm {α : Type} (is : List Nat) (l : List α) : List α := is.filterMap fun i => l[i]?
theorem Vals.perm {vs : List V} {us : List Value} (r : Vals vs us) : ∀ is : List Nat, Vals (Ty.perm is vs) (Ty.perm is us)
  | [] => .nil
  | i :: is => by
    have ih := Vals.perm r is
    cases e : vs[i]? with
    | none =>
      have e2 : us[i]? = none := by
        rw [List.getElem?_eq_none_iff] at e ⊢
        rw [← r.length]
        exact e
      have h1 : Ty.perm (i :: is) vs = Ty.perm is vs := by
        unfold Ty.perm
        rw [List.filterMap_cons, e]
      have h2 : Ty.perm (i :: is) us = Ty.perm is us := by
        unfold Ty.perm
        rw [List.filterMap_cons, e2]
      rw [h1, h2]
      exact ih
    | some v =>
      obtain ⟨u, e2, ru⟩ := r.get e
      have h1 : Ty.perm (i :: is) vs = v :: Ty.perm is vs := by
        unfold Ty.perm
        rw [List.filterMap_cons, e]
      have h2 : Ty.perm (i :: is) us = u :: Ty.perm is us := by
        unfold Ty.perm
        rw [List.filterMap_cons, e2]
      rw [h1, h2]
      exact .cons ru ih
/-- what a for or a comprehension walks: a list or a tuple -/
theorem pi_or {X : Cx} {tg l : Expr} {w w' : TI} (h : PI X tg l w) (h' : PI X tg l w') : PI X tg l (fun σ H R => w σ H R ∨ w' σ H R) := by
  refine ⟨?_⟩
  intro pins s σ H R I hw
  rcases hw with hw | hw
  · exact h.run pins s σ H R I hw
  · exact h'.run pins s σ H R I hw
end Ty

namespace Ty
open PySem PySem.Spec PyProof.Rows L2
/-! ### tests -/
section
variable {b : Bool} {c A B : Prop}
theorem iteN (h1 : b = false → A) (h2 : b = true → B) : if (!b) = true then A else B := by
  cases b with
  | false => rw [if_pos (by rfl)]; exact h1 rfl
  | true => rw [if_neg (by decide)]; exact h2 rfl
theorem iteB (h1 : b = true → A) (h2 : b = false → B) : if b = true then A else B := by
  cases b with
  | false => rw [if_neg (by decide)]; exact h2 rfl
  | true => rw [if_pos rfl]; exact h1 rfl
theorem iteD [Decidable c] (h1 : c → A) (h2 : ¬ c → B) : if decide c = true then A else B := by
  by_cases h : c
  · rw [if_pos (decide_eq_true h)]; exact h1 h
  · rw [if_neg (by rw [decide_eq_false h]; decide)]; exact h2 h
theorem iteE [Decidable c] (h1 : ¬ c → A) (h2 : c → B) : if (!decide c) = true then A else B := by
  by_cases h : c
  · rw [if_neg (by rw [decide_eq_true h]; decide)]; exact h2 h
  · rw [if_pos (by rw [decide_eq_false h]; rfl)]; exact h1 h
end
theorem int_ne {i j : Int} (h : ¬ V.int i = V.int j) : i ≠ j := fun e => h (congrArg V.int e)
theorem int_eq {i j : Int} (h : V.int i = V.int j) : i = j := by injection h
/-! ### numbers, points, turns among all values -/
def coprime (a b : Int) : Bool := decide (Nat.gcd a.natAbs b.natAbs = 1)
def isPair : List Da → Bool
  | [.int a, .int b] => decide (2 ≤ b) && coprime a b
  | _ => false
theorem isPair_len : ∀ l : List Da, l.length ≠ 2 → isPair l = false := by
  intro l h
  unfold isPair
  split
  · exact absurd rfl h
  · rfl
def isNum (d : Da) : Bool := isN d || (isS d && isPair (items d))
def isTwo : List Da → Bool
  | [a, b] => isNum a && isNum b
  | _ => false
def isPt (d : Da) : Bool := isS d && isTwo (items d)
/-- above and below the line -/
def above : Da → Int
  | .int i => i
  | .tup [.int a, _] => a
  | .lst [.int a, _] => a
  | _ => 0
def below : Da → Int
  | .int _ => 1
  | .tup [_, .int b] => b
  | .lst [_, .int b] => b
  | _ => 1
def onRing : List Da → Bool
  | [x, y] => decide ((above x * below y) ^ 2 + (above y * below x) ^ 2 = (below x * below y) ^ 2)
  | _ => false
def isTurn (d : Da) : Bool := isPt d && onRing (items d)
def optV : Option Int → V
  | none => .non
  | some i => .int i
def okLo (i : Int) : Option Int → Bool
  | none => true
  | some l => decide (l ≤ i)
def okHi (i : Int) : Option Int → Bool
  | none => true
  | some m => decide (i ≤ m)
def within (d : Da) (lo hi : Option Int) : Bool := match d with
  | .int i => okLo i lo && okHi i hi
  | _ => false
/-! ### promises -/
def spD (f : Da → Bool) : Sp := fun vs H Q _ => ∃ v d, vs = [v] ∧ Is H v d ∧ ∀ H', Same H H' → Q (.bl (f d)) H'
def spW : Sp := fun vs H Q _ => ∃ v d lo hi, vs = [v, optV lo, optV hi] ∧ Is H v d ∧ ∀ H', Same H H' → Q (.bl (within d lo hi)) H'
theorem isN_of {H : Hp} {v : V} {d : Da} (h : Is H v d) (e : isN d = true) : ∃ i, v = .int i ∧ d = .int i := by
  cases h with
  | int i => exact ⟨i, rfl, rfl⟩
  | _ => cases e
/-- the integers of a value are below 2 ^ n -/
def smallA (n : Nat) : List Da → Bool
  | [] => true
  | .int i :: l => decide (i.natAbs < 2 ^ n) && smallA n l
  | _ :: l => smallA n l
def small2 (n : Nat) : Da → Bool
  | .int i => decide (i.natAbs < 2 ^ n)
  | .tup l => smallA n l
  | .lst l => smallA n l
  | _ => true
def small3 (n : Nat) (d : Da) : Bool := (items d).all (small2 n)
/-- more bits than any integer has here -/
def huge : Nat := 200000
def spT : Sp := fun vs H Q _ => ∃ v d, vs = [v] ∧ Is H v d ∧ small3 huge d = true ∧ ∀ H', Same H H' → Q (.bl (isTurn d)) H'
/-- above and below of a number that stands there -/
theorem num_cases {H : Hp} {v : V} {d : Da} (h : Is H v d) (e : isNum d = true) : (∃ i, v = .int i ∧ d = .int i) ∨
    ∃ a i j, v = .ref a ∧ (H a = some (.tup [.int i, .int j]) ∧ d = .tup [.int i, .int j] ∨ H a = some (.lst [.int i, .int j]) ∧ d = .lst [.int i, .int j]) ∧ 2 ≤ j ∧ Nat.gcd i.natAbs j.natAbs = 1 := by
  have two : ∀ {xs : List V} {ds : List Da}, IsAll H xs ds → isPair ds = true → ∃ i j, xs = [.int i, .int j] ∧ ds = [.int i, .int j] ∧ 2 ≤ j ∧ Nat.gcd i.natAbs j.natAbs = 1 := by
    intro xs ds hx hp
    match ds, hp with
    | [.int a, .int b], hp =>
      have hp' : (decide (2 ≤ b) && coprime a b) = true := hp
      rw [Bool.and_eq_true] at hp'
      cases hx with
      | cons h1 hx =>
        cases hx with
        | cons h2 hx =>
          cases hx
          cases h1
          cases h2
          exact ⟨a, b, rfl, rfl, of_decide_eq_true hp'.1, of_decide_eq_true hp'.2⟩
  cases h with
  | int i => exact .inl ⟨i, rfl, rfl⟩
  | tup ha hx =>
    obtain ⟨i, j, rfl, rfl, h2, h3⟩ := two hx (by simpa [isNum, isN, isS, items] using e)
    exact .inr ⟨_, i, j, rfl, .inl ⟨ha, rfl⟩, h2, h3⟩
  | lst ha hx =>
    obtain ⟨i, j, rfl, rfl, h2, h3⟩ := two hx (by simpa [isNum, isN, isS, items] using e)
    exact .inr ⟨_, i, j, rfl, .inr ⟨ha, rfl⟩, h2, h3⟩
  | _ => cases e
/-- a number's two parts, given as a pair: a tuple, or the list itself -/
def spParts : Sp := fun vs H Q _ => ∃ v d, vs = [v] ∧ Is H v d ∧ isNum d = true ∧ ∀ H' p, Same H H' → (H' p = some (.tup [.int (above d), .int (below d)]) ∨ H' p = some (.lst [.int (above d), .int (below d)])) → Q (.ref p) H'
end Ty
namespace Ty
open PySem PySem.Spec PyProof.Rows L2
theorem dec_int (i j : Int) : decide (V.int i = V.int j) = decide (i = j) := by
  by_cases h : i = j
  · rw [decide_eq_true h]
    exact decide_eq_true (by rw [h])
  · rw [decide_eq_false h]
    exact decide_eq_false fun z => h (int_eq z)
/-- a number's two parts as a pair -/
def PtP (H : Hp) (u : V) (d : Da) : Prop := ∃ p, u = .ref p ∧ (H p = some (.tup [.int (above d), .int (below d)]) ∨ H p = some (.lst [.int (above d), .int (below d)]))
theorem PtP.up {H H' : Hp} {u : V} {d : Da} (h : PtP H u d) (s : Same H H') : PtP H' u d := by
  obtain ⟨p, rfl, h | h⟩ := h
  · exact ⟨p, rfl, .inl (s _ _ h)⟩
  · exact ⟨p, rfl, .inr (s _ _ h)⟩
theorem PtP.upd {H : Hp} {u : V} {d : Da} {D : Addr} {o : HO} {acc : List V} (h : PtP H u d) (hD : H D = some (.lst acc)) (hl : acc.length ≠ 2) : PtP (L2.upd H D o) u d := by
  obtain ⟨p, rfl, h | h⟩ := h
  · refine ⟨p, rfl, .inl ?_⟩
    rw [upd_ne (ne_of h hD (by intro z; cases z))]
    exact h
  · refine ⟨p, rfl, .inr ?_⟩
    rw [upd_ne (fun z => by
      rw [z, hD] at h
      injection h with h
      injection h with h
      exact hl (by rw [h]; rfl))]
    exact h
theorem un2 {K : PySem.W.Frag} {H : Hp} {u : V} {d : Da} {i j : Nat} {σ : L2.St} {Q : L2.St → Hp → Prop} (h : PtP H u d) (q : Q ((σ.set i (some (.int (above d)))).set j (some (.int (below d)))) H) :
    gUnl K 2 (gCons (gName i) (gCons (gName j) gNil)) u σ H Q ∨ gTup K 2 (gCons (gName i) (gCons (gName j) gNil)) u σ H Q := by
  obtain ⟨p, rfl, h | h⟩ := h
  · exact .inr ⟨p, _, rfl, .inl (.inl h), rfl, _, _, rfl, _, _, rfl, rfl, q⟩
  · exact .inl ⟨p, _, rfl, .inl (.inl h), rfl, _, _, rfl, _, _, rfl, rfl, q⟩
theorem parts_small {n : Nat} {d : Da} (h0 : 0 < n) (h : isNum d = true) (hs : small2 n d = true) : (above d).natAbs < 2 ^ n ∧ (below d).natAbs < 2 ^ n := by
  have one : (1 : Int).natAbs < 2 ^ n := Nat.one_lt_two_pow (by omega)
  match d, h, hs with
  | .int i, _, hs => exact ⟨of_decide_eq_true hs, one⟩
  | .tup [.int a, .int b], _, hs =>
    have hs' : (decide (a.natAbs < 2 ^ n) && (decide (b.natAbs < 2 ^ n) && true)) = true := hs
    rw [Bool.and_eq_true, Bool.and_eq_true] at hs'
    exact ⟨of_decide_eq_true hs'.1, of_decide_eq_true hs'.2.1⟩
  | .lst [.int a, .int b], _, hs =>
    have hs' : (decide (a.natAbs < 2 ^ n) && (decide (b.natAbs < 2 ^ n) && true)) = true := hs
    rw [Bool.and_eq_true, Bool.and_eq_true] at hs'
    exact ⟨of_decide_eq_true hs'.1, of_decide_eq_true hs'.2.1⟩
theorem pow_ok {i : Int} {a : Nat} (h : i.natAbs < 2 ^ a) (h0 : 0 < a) (ha : a ≤ 1000000) : CPowW i 2 :=
  ⟨by decide, by decide, Nat.lt_of_lt_of_le (PySem.Flt.log2_lt_of h0 h) ha⟩
theorem Same.mut {H H' : Hp} {p : Addr} {o : HO} (e : Same H H') (h : H p = none) : Same H (upd H' p o) := fun a u ha => by
  rw [upd_ne (ne_of_none ha h)]
  exact e a u ha
theorem isPt_of {d : Da} (h : isPt d = true) : isS d = true ∧ ∃ x y, items d = [x, y] ∧ isNum x = true ∧ isNum y = true := by
  have h' : (isS d && isTwo (items d)) = true := h
  rw [Bool.and_eq_true] at h'
  refine ⟨h'.1, ?_⟩
  have h2 := h'.2
  match items d, h2 with
  | [x, y], h2 =>
    have h3 : (isNum x && isNum y) = true := h2
    rw [Bool.and_eq_true] at h3
    exact ⟨x, y, rfl, h3.1, h3.2⟩
theorem IsAll.two {H : Hp} {xs : List V} {x y : Da} (h : IsAll H xs [x, y]) : ∃ u v, xs = [u, v] ∧ Is H u x ∧ Is H v y := by
  cases h with
  | cons h1 h =>
    cases h with
    | cons h2 h =>
      cases h
      exact ⟨_, _, rfl, h1, h2⟩
end Ty

namespace Ty
open PySem PySem.Spec PyProof.Rows L2
/-! ### what is drawn from: one list that changes, all else stays -/
/-- the heap without some addresses -/
def mn (S : Addr → Bool) (H : Hp) : Hp := fun b => if S b = true then none else H b
theorem mn_at {S : Addr → Bool} {H : Hp} {b : Addr} (h : S b = false) : mn S H b = H b := if_neg (by rw [h]; decide)
theorem mn_of {S : Addr → Bool} {H : Hp} {b : Addr} {o : HO} (h : mn S H b = some o) : S b = false ∧ H b = some o := by
  cases e : S b with
  | true =>
    have z : mn S H b = none := if_pos e
    rw [z] at h
    cases h
  | false => exact ⟨rfl, (mn_at e).symm.trans h⟩
theorem mn_same {S : Addr → Bool} {H : Hp} : Same (mn S H) H := fun _ _ h => (mn_of h).2
/-- they all stand -/
def Live (S : Addr → Bool) (H : Hp) : Prop := ∀ b, S b = true → H b ≠ none
theorem mn_put {S : Addr → Bool} {H : Hp} {p : Addr} {o : HO} (l : Live S H) (h : H p = none) : mn S (upd H p o) p = some o := by
  have e : S p = false := by
    cases e : S p with
    | false => rfl
    | true => exact absurd h (l p e)
  rw [mn_at e]
  exact upd_same
theorem Same.less {S : Addr → Bool} {H H' : Hp} (s : Same H H') : Same (mn S H) (mn S H') := fun b o h => by
  obtain ⟨h1, h2⟩ := mn_of h
  rw [mn_at h1]
  exact s _ _ h2
/-- what is not the list at j stays -/
def Keep (j : Addr) (H H' : Hp) : Prop := ∀ b o, b ≠ j → H b = some o → H' b = some o
theorem Keep.refl {j : Addr} (H : Hp) : Keep j H H := fun _ _ _ h => h
theorem Keep.trans {j : Addr} {H H1 H2 : Hp} (a : Keep j H H1) (b : Keep j H1 H2) : Keep j H H2 := fun c o h e => b c o h (a c o h e)
theorem Same.keep {j : Addr} {H H' : Hp} (s : Same H H') : Keep j H H' := fun b o _ h => s b o h
theorem keep_upd {H : Hp} {j : Addr} {o : HO} : Keep j H (upd H j o) := fun b u h e => by
  rw [upd_ne h]
  exact e
theorem Keep.less {S : Addr → Bool} {j : Addr} {H H' : Hp} (k : Keep j H H') (hj : S j = true) : Same (mn S H) (mn S H') := fun b o h => by
  obtain ⟨h1, h2⟩ := mn_of h
  rw [mn_at h1]
  exact k b o (fun z => by rw [z, hj] at h1; cases h1) h2
/-- the list at j: the cells, how many were begun (n at most), what is left of a great one -/
def Jar (j b : Addr) (H : Hp) (n : Nat) : Prop := ∃ (cells : List Int) (at_ left : Int), H j = some (.lst [.ref b, .int at_, .int left]) ∧ H b = some (.lst (cells.map V.int)) ∧ b ≠ j ∧ 0 ≤ at_ ∧ at_ ≤ (n : Int)
theorem Jar.up {j bk : Addr} {H H' : Hp} {n : Nat} (h : Jar j bk H n) (s : Same H H') : Jar j bk H' n := by
  obtain ⟨cells, a, l, h1, h2, h3, h4⟩ := h
  exact ⟨cells, a, l, s _ _ h1, s _ _ h2, h3, h4⟩
theorem Live.up {S : Addr → Bool} {j bk : Addr} {H H' : Hp} {n : Nat} (l : Live S H) (k : Keep j H H') (J : Jar j bk H' n) : Live S H' := fun b hb => by
  by_cases e : b = j
  · subst e
    obtain ⟨cells, a, lf, h1, _⟩ := J
    rw [h1]
    exact nofun
  · cases q : H b with
    | none => exact absurd q (l b hb)
    | some o =>
      rw [k b o e q]
      exact nofun
theorem Jar.put {j bk a : Addr} {H : Hp} {n : Nat} {o : HO} (h : Jar j bk H n) (h1 : a ≠ j) (h2 : a ≠ bk) : Jar j bk (upd H a o) n := by
  obtain ⟨cells, at_, l, e1, e2, e3⟩ := h
  refine ⟨cells, at_, l, ?_, ?_, e3⟩
  · rw [upd_ne h1.symm]
    exact e1
  · rw [upd_ne h2.symm]
    exact e2
theorem Jar.newB {j bk p : Addr} {H : Hp} {n : Nat} (h : Jar j bk H n) (hp : H p = none) : p ≠ bk := by
  obtain ⟨cells, at_, l, _, h1, _⟩ := h
  exact fun e => by rw [e, h1] at hp; cases hp
theorem Jar.le {j bk : Addr} {H : Hp} {n m : Nat} (h : Jar j bk H n) (s : n ≤ m) : Jar j bk H m := by
  obtain ⟨cells, a, l, h1, h2, h3, h4, h5⟩ := h
  exact ⟨cells, a, l, h1, h2, h3, h4, by omega⟩
theorem Jar.new {j bk p : Addr} {H : Hp} {n : Nat} (h : Jar j bk H n) (hp : H p = none) : p ≠ j := by
  obtain ⟨cells, a, l, h1, _⟩ := h
  exact fun e => by rw [e, h1] at hp; cases hp
/-- an integer from 0 below many -/
def spReach : Sp := fun vs H Q _ => ∃ (j bk : Addr) (many : Int) (n : Nat), vs = [.ref j, .int many] ∧ Jar j bk H n ∧ n ≤ 100000 ∧ 0 < many ∧ many.natAbs < 2 ^ 8000 ∧
  ∀ (r : Int) (H' : Hp), Keep j H H' → Jar j bk H' (n + 1) → 0 ≤ r → r < many → Q (.int r) H'
/-- one of some things -/
def spPick : Sp := fun vs H Q _ => ∃ (j bk p : Addr) (xs : List V) (n : Nat), vs = [.ref j, .ref p] ∧ Jar j bk H n ∧ n ≤ 100000 ∧ H p = some (.lst xs) ∧ p ≠ j ∧ 0 < xs.length ∧ xs.length ≤ 1000 ∧
  ∀ (v : V) (H' : Hp), Keep j H H' → Jar j bk H' (n + 1) → v ∈ xs → Q v H'
/-- what draws, made of the script -/
def spSack (K : PySem.W.Frag) : Sp := fun vs H Q _ => ∃ (a : Addr) (ns : List Int), vs = [.ref a] ∧ SqL K H a (ns.map V.int) ∧ ns.length ≤ 1000 ∧
  ∀ (j bk : Addr) (H' : Hp), Same H H' → H j = none → H bk = none → Jar j bk H' 0 → Q (.ref j) H'
theorem mod_lt_of {a b : Int} (h : 0 < b) : 0 ≤ a % b ∧ a % b < b := ⟨Int.emod_nonneg _ (by omega), Int.emod_lt_of_pos _ h⟩
theorem atI_of {xs : List V} {i : Int} {v : V} {n : Nat} (h0 : 0 ≤ i) (hn : i.toNat = n) (h : xs[n]? = some v) : atI xs i = some v := by
  have e : i = ((n : Nat) : Int) := by omega
  rw [e]
  exact atI_nat h
theorem cut_ints (ns : List Int) (lo hi : Option Int) : ∃ ms : List Int, cutV (ns.map V.int) lo hi = ms.map V.int ∧ ms.length ≤ ns.length := by
  refine ⟨(ns.drop (HT.sIx (ns.map V.int).length 0 lo)).take (HT.sIx (ns.map V.int).length (ns.map V.int).length hi - HT.sIx (ns.map V.int).length 0 lo), ?_, ?_⟩
  · unfold cutV
    rw [List.map_take, List.map_drop]
  · rw [List.length_take, List.length_drop]
    omega
end Ty

namespace Ty
open PySem PySem.Spec PyProof.Rows L2
/-! ### drawing: an expression that may draw from the list at j; S: what is out of the data (j is) -/
/-- from any heap behind H0 the expression gives a value of which P holds; c draws at most -/
def Dr (S : Addr → Bool) (j bk : Addr) (H0 : Hp) (c : Nat) (σ : L2.St) (te : TE) (P : Da → Prop) : Prop := ∀ (H : Hp) (n : Nat) (Q : VK), Keep j H0 H → Live S H → Jar j bk H n → n + c ≤ 100000 →
  (∀ v d H', Keep j H H' → Live S H' → Jar j bk H' (n + c) → Is (mn S H') v d → P d → Q v H') → te σ H Q
def DrA (S : Addr → Bool) (j bk : Addr) (H0 : Hp) (c : Nat) (σ : L2.St) (ta : TA) (P : List Da → Prop) : Prop := ∀ (H : Hp) (n : Nat) (Q : List V → Hp → Prop), Keep j H0 H → Live S H → Jar j bk H n → n + c ≤ 100000 →
  (∀ vs ds H', Keep j H H' → Live S H' → Jar j bk H' (n + c) → IsAll (mn S H') vs ds → P ds → Q vs H') → ta σ H Q
/-- a test -/
def DrT (S : Addr → Bool) (j bk : Addr) (H0 : Hp) (c : Nat) (σ : L2.St) (tt : TT) (P : Bool → Prop) : Prop := ∀ (H : Hp) (n : Nat) (Q : Bool → Hp → Prop), Keep j H0 H → Live S H → Jar j bk H n → n + c ≤ 100000 →
  (∀ b H', Keep j H H' → Live S H' → Jar j bk H' (n + c) → P b → Q b H') → tt σ H Q
theorem Live.more {S : Addr → Bool} {H H' : Hp} (l : Live S H) (s : Same H H') : Live S H' := fun b hb z => by
  cases q : H b with
  | none => exact l b hb q
  | some o =>
    rw [s b o q] at z
    cases z
section
variable {S : Addr → Bool} {j bk : Addr} {H0 H : Hp} {c c1 c2 n : Nat} {σ : L2.St} {te ta tb : TE} {tr : TA} {tt : TT} {P P1 P2 : Da → Prop} {K : PySem.W.Frag}
theorem Dr.imp (h : Dr S j bk H0 c σ te P) (g : ∀ d, P d → P1 d) : Dr S j bk H0 c σ te P1 := fun H n Q kp lv J hn k => h H n Q kp lv J hn fun v d H' kp' lv' J' hi hp => k v d H' kp' lv' J' hi (g d hp)
theorem Dr.later (h : Dr S j bk H0 c σ te P) (kp : Keep j H0 H) : Dr S j bk H c σ te P := fun H1 n Q kp1 lv J hn k => h H1 n Q (kp.trans kp1) lv J hn k
theorem Dr.more (h : Dr S j bk H0 c σ te P) (hc : c ≤ c1) : Dr S j bk H0 c1 σ te P := fun H n Q kp lv J hn k => h H n Q kp lv J (by omega) fun v d H' kp' lv' J' hi hp => k v d H' kp' lv' (J'.le (by omega)) hi hp
theorem dr_non : Dr S j bk H0 0 σ (tC .non) (· = .non) := fun H n Q kp lv J hn k => k _ _ H (Keep.refl _) lv J .non rfl
theorem dr_bl {b : Bool} : Dr S j bk H0 0 σ (tC (.bl b)) (· = .bl b) := fun H n Q kp lv J hn k => k _ _ H (Keep.refl _) lv J (.bl b) rfl
theorem dr_int {i : Int} : Dr S j bk H0 0 σ (tC (.int i)) (· = .int i) := fun H n Q kp lv J hn k => k _ _ H (Keep.refl _) lv J (.int i) rfl
theorem dr_str {x : Str} : Dr S j bk H0 0 σ (tC (.str x)) (· = .str x) := fun H n Q kp lv J hn k => k _ _ H (Keep.refl _) lv J (.str x) rfl
theorem dr_var {i : Nat} {v : V} {d : Da} (hj : S j = true) (h : σ[i]? = some (some v)) (hv : Is (mn S H0) v d) : Dr S j bk H0 0 σ (tVar i) (· = d) := fun H n Q kp lv J hn k => ⟨v, h, k _ _ H (Keep.refl _) lv J (hv.up (kp.less hj)) rfl⟩
theorem dr_varI {i : Nat} {z : Int} (h : σ[i]? = some (some (.int z))) : Dr S j bk H0 0 σ (tVar i) (· = .int z) := fun H n Q kp lv J hn k => ⟨_, h, k _ _ H (Keep.refl _) lv J (.int z) rfl⟩
theorem drA_nil : DrA S j bk H0 0 σ tNil (· = []) := fun H n Q kp lv J hn k => k _ _ H (Keep.refl _) lv J .nil rfl
theorem drA_cons {P2 : List Da → Prop} (hj : S j = true) (h : Dr S j bk H0 c1 σ te P) (hr : DrA S j bk H0 c2 σ tr P2) : DrA S j bk H0 (c1 + c2) σ (tCons te tr) (fun ds => ∃ d r, ds = d :: r ∧ P d ∧ P2 r) := fun H n Q kp lv J hn k =>
  h H n _ kp lv J (by omega) fun v d H1 k1 l1 J1 h1 p1 => hr H1 (n + c1) _ (kp.trans k1) l1 J1 (by omega) fun vs ds H2 k2 l2 J2 h2 p2 => k _ _ H2 (k1.trans k2) l2 (by rwa [Nat.add_assoc] at J2) (.cons (h1.up (k2.less hj)) h2) ⟨d, ds, rfl, p1, p2⟩
theorem dr_tup {P2 : List Da → Prop} (h : DrA S j bk H0 c σ tr P2) (hl : ∀ ds, P2 ds → ds.length ≤ 1000) : Dr S j bk H0 c σ (tTup tr) (fun d => ∃ ds, d = .tup ds ∧ P2 ds) := fun H n Q kp lv J hn k =>
  h H n _ kp lv J hn fun vs ds H1 k1 l1 J1 h1 p1 => ⟨by rw [h1.length]; exact Nat.le_trans (hl ds p1) (by decide), fun p hp =>
    k _ _ _ (k1.trans (Same.keep (Same.new hp))) (l1.more (Same.new hp)) (J1.up (Same.new hp)) (.tup (mn_put l1 hp) (h1.up (Same.less (Same.new hp)))) ⟨ds, rfl, p1⟩⟩
theorem dr_lst {P2 : List Da → Prop} (h : DrA S j bk H0 c σ tr P2) (hl : ∀ ds, P2 ds → ds.length ≤ 1000) : Dr S j bk H0 c σ (tLst tr) (fun d => ∃ ds, d = .lst ds ∧ P2 ds) := fun H n Q kp lv J hn k =>
  h H n _ kp lv J hn fun vs ds H1 k1 l1 J1 h1 p1 => ⟨by rw [h1.length]; exact Nat.le_trans (hl ds p1) (by decide), fun p hp =>
    k _ _ _ (k1.trans (Same.keep (Same.new hp))) (l1.more (Same.new hp)) (J1.up (Same.new hp)) (.lst (mn_put l1 hp) (h1.up (Same.less (Same.new hp)))) ⟨ds, rfl, p1⟩⟩
theorem dr_dict : Dr S j bk H0 0 σ tDNewK (· = .dic) := fun H n Q kp lv J hn k p hp =>
  k _ _ _ (Same.keep (Same.new hp)) (lv.more (Same.new hp)) (J.up (Same.new hp)) (.dic (mn_put lv hp)) rfl
/-- an operation on two integers -/
theorem dr_op {C : Int → Int → Prop} {g : Int → Int → Int} {Pa Pb : Int → Prop} (ha : Dr S j bk H0 c1 σ ta (fun d => ∃ i, d = .int i ∧ Pa i)) (hb : Dr S j bk H0 c2 σ tb (fun d => ∃ i, d = .int i ∧ Pb i)) (hc : ∀ a b, Pa a → Pb b → C a b) :
    Dr S j bk H0 (c1 + c2) σ (tOp (rI C fun i j => .int (g i j)) ta tb) (fun d => ∃ i, d = .int i ∧ ∃ a b, Pa a ∧ Pb b ∧ i = g a b) := fun H n Q kp lv J hn k =>
  ha H n _ kp lv J (by omega) fun v d H1 k1 l1 J1 h1 p1 => hb H1 (n + c1) _ (kp.trans k1) l1 J1 (by omega) fun u e H2 k2 l2 J2 h2 p2 => by
    obtain ⟨a, rfl, pa⟩ := p1
    obtain ⟨b, rfl, pb⟩ := p2
    cases h1
    cases h2
    exact ⟨a, b, rfl, rfl, hc a b pa pb, k _ _ H2 (k1.trans k2) l2 (by rwa [Nat.add_assoc] at J2) (.int _) ⟨_, rfl, a, b, pa, pb, rfl⟩⟩
theorem dr_op0 {g : Int → Int → Int} {Pa Pb : Int → Prop} (ha : Dr S j bk H0 c1 σ ta (fun d => ∃ i, d = .int i ∧ Pa i)) (hb : Dr S j bk H0 c2 σ tb (fun d => ∃ i, d = .int i ∧ Pb i)) :
    Dr S j bk H0 (c1 + c2) σ (tOp (rI0 fun i j => .int (g i j)) ta tb) (fun d => ∃ i, d = .int i ∧ ∃ a b, Pa a ∧ Pb b ∧ i = g a b) := fun H n Q kp lv J hn k =>
  ha H n _ kp lv J (by omega) fun v d H1 k1 l1 J1 h1 p1 => hb H1 (n + c1) _ (kp.trans k1) l1 J1 (by omega) fun u e H2 k2 l2 J2 h2 p2 => by
    obtain ⟨a, rfl, pa⟩ := p1
    obtain ⟨b, rfl, pb⟩ := p2
    cases h1
    cases h2
    exact ⟨a, b, rfl, rfl, k _ _ H2 (k1.trans k2) l2 (by rwa [Nat.add_assoc] at J2) (.int _) ⟨_, rfl, a, b, pa, pb, rfl⟩⟩
theorem dr_neg {i : Int} : Dr S j bk H0 0 σ (tUn (rU fun i => .int (-i)) (tC (.int i))) (· = .int (-i)) := fun H n Q kp lv J hn k => ⟨i, rfl, k _ _ H (Keep.refl _) lv J (.int _) rfl⟩
theorem dr_pow {a b : Int} (h : CPow a b) : Dr S j bk H0 0 σ (tOp (rI CPow fun i j => .int (i ^ j.toNat)) (tC (.int a)) (tC (.int b))) (· = .int (a ^ b.toNat)) := fun H n Q kp lv J hn k => ⟨a, b, rfl, rfl, h, k _ _ H (Keep.refl _) lv J (.int _) rfl⟩
theorem dr_cI {i : Int} : Dr S j bk H0 0 σ (tC (.int i)) (fun d => ∃ z, d = .int z ∧ z = i) := dr_int.imp fun d h => ⟨i, h, rfl⟩
theorem dr_vI {i : Nat} {z : Int} (h : σ[i]? = some (some (.int z))) : Dr S j bk H0 0 σ (tVar i) (fun d => ∃ y, d = .int y ∧ y = z) := (dr_varI h).imp fun d h => ⟨z, h, rfl⟩
/-- a draw: f(jar, many) -/
theorem dr_reach {i : Nat} {many : Int} (h : σ[i]? = some (some (.ref j))) (hp : 0 < many) (hb : many.natAbs < 2 ^ 8000) : Dr S j bk H0 1 σ (tCall spReach [] E0 (tCons (tVar i) (tCons (tC (.int many)) tNil))) (fun d => ∃ r, d = .int r ∧ 0 ≤ r ∧ r < many) := fun H n Q kp lv J hn k =>
  ⟨_, h, j, bk, many, n, rfl, J, by omega, hp, hb, fun r H' k1 J1 h0 h1 => k _ _ H' k1 (lv.up k1 J1) J1 (.int r) ⟨r, rfl, h0, h1⟩⟩
/-- one of some things -/
theorem dr_pick {i : Nat} {P2 : List Da → Prop} (hj : S j = true) (h : σ[i]? = some (some (.ref j))) (hr : DrA S j bk H0 c σ tr P2) (hl : ∀ ds, P2 ds → 0 < ds.length ∧ ds.length ≤ 1000) :
    Dr S j bk H0 (c + 1) σ (tCall spPick [] E0 (tCons (tVar i) (tCons (tLst tr) tNil))) (fun d => ∃ ds, P2 ds ∧ d ∈ ds) := fun H n Q kp lv J hn k =>
  ⟨_, h, hr H n _ kp lv J (by omega) fun vs ds H1 k1 l1 J1 h1 p1 => ⟨by rw [h1.length]; exact Nat.le_trans (hl ds p1).2 (by decide), fun p hp => by
    have hpj := J1.new hp
    have s1 : Same H1 (upd H1 p (.lst vs)) := Same.new hp
    have hl1 := hl ds p1
    have hl2 := h1.length
    refine ⟨j, bk, p, vs, n + c, rfl, J1.up s1, by omega, upd_same, hpj, by omega, by omega, fun v H' k2 J2 hv => ?_⟩
    obtain ⟨i, hi⟩ := List.getElem?_of_mem hv
    obtain ⟨d, hd, hi2⟩ := h1.at hi
    have k3 : Keep j H1 H' := (Same.keep s1).trans k2
    exact k v d H' (k1.trans k3) (l1.up k3 J2) (by rwa [Nat.add_assoc] at J2) (hi2.up (k3.less hj)) ⟨ds, p1, List.mem_of_getElem? hd⟩⟩⟩
/-- if, between two expressions -/
theorem dr_if {PT : Bool → Prop} (h : DrT S j bk H0 c1 σ tt PT) (ha : ∀ H1, Keep j H0 H1 → PT true → Dr S j bk H1 c2 σ ta P) (hb : ∀ H1, Keep j H0 H1 → PT false → Dr S j bk H1 c2 σ tb P) : Dr S j bk H0 (c1 + c2) σ (tIf tt ta tb) P := fun H n Q kp lv J hn k =>
  h H n _ kp lv J (by omega) fun b H1 k1 l1 J1 p1 => by
    have fin : ∀ v d H', Keep j H1 H' → Live S H' → Jar j bk H' (n + c1 + c2) → Is (mn S H') v d → P d → Q v H' := fun v d H' k2 l2 J2 h2 p2 => k v d H' (k1.trans k2) l2 (by rwa [Nat.add_assoc] at J2) h2 p2
    cases b with
    | true => exact ha H1 (kp.trans k1) p1 H1 (n + c1) Q (Keep.refl _) l1 J1 (by omega) fin
    | false => exact hb H1 (kp.trans k1) p1 H1 (n + c1) Q (Keep.refl _) l1 J1 (by omega) fin
/-- a comparison of two integers -/
theorem drT_cmp {g : Int → Int → Bool} {Pa Pb : Int → Prop} (ha : Dr S j bk H0 c1 σ ta (fun d => ∃ i, d = .int i ∧ Pa i)) (hb : Dr S j bk H0 c2 σ tb (fun d => ∃ i, d = .int i ∧ Pb i)) :
    DrT S j bk H0 (c1 + c2) σ (tTest (tOp (rI0 fun i j => .bl (g i j)) ta tb)) (fun k => ∃ a b, Pa a ∧ Pb b ∧ k = g a b) := fun H n Q kp lv J hn k =>
  ha H n _ kp lv J (by omega) fun v d H1 k1 l1 J1 h1 p1 => hb H1 (n + c1) _ (kp.trans k1) l1 J1 (by omega) fun u e H2 k2 l2 J2 h2 p2 => by
    obtain ⟨a, rfl, pa⟩ := p1
    obtain ⟨b, rfl, pb⟩ := p2
    cases h1
    cases h2
    exact ⟨a, b, rfl, rfl, _, rfl, k _ H2 (k1.trans k2) l2 (by rwa [Nat.add_assoc] at J2) ⟨a, b, pa, pb, rfl⟩⟩
theorem drT_eq {Pa Pb : Int → Prop} (ha : Dr S j bk H0 c1 σ ta (fun d => ∃ i, d = .int i ∧ Pa i)) (hb : Dr S j bk H0 c2 σ tb (fun d => ∃ i, d = .int i ∧ Pb i)) :
    DrT S j bk H0 (c1 + c2) σ (tTest (tOp rEq ta tb)) (fun k => ∃ a b, Pa a ∧ Pb b ∧ k = decide (a = b)) := fun H n Q kp lv J hn k =>
  ha H n _ kp lv J (by omega) fun v d H1 k1 l1 J1 h1 p1 => hb H1 (n + c1) _ (kp.trans k1) l1 J1 (by omega) fun u e H2 k2 l2 J2 h2 p2 => by
    obtain ⟨a, rfl, pa⟩ := p1
    obtain ⟨b, rfl, pb⟩ := p2
    cases h1
    cases h2
    exact ⟨rfl, _, rfl, k _ H2 (k1.trans k2) l2 (by rwa [Nat.add_assoc] at J2) ⟨a, b, pa, pb, dec_int a b⟩⟩
/-- list(pair): a new list of a tuple's items -/
theorem dr_listOf {i : Nat} {v : V} {ds : List Da} (hj : S j = true) (h : σ[i]? = some (some v)) (hv : Is (mn S H0) v (.tup ds)) :
    Dr S j bk H0 0 σ (tCB (fun xs H Q => ∃ p ys, xs = [.ref p] ∧ (SqL K H p ys ∨ SqT K H p ys) ∧ ∀ l, H l = none → Q (.ref l) (upd H l (.lst ys))) (tCons (tVar i) tNil)) (· = .lst ds) := fun H n Q kp lv J hn k => by
  have hv' := hv.up (kp.less hj)
  cases hv' with
  | tup e hx =>
    refine ⟨_, h, _, _, rfl, .inr (.inl (.inl (mn_same _ _ e))), fun l hl => ?_⟩
    exact k _ _ _ (Same.keep (Same.new hl)) (lv.more (Same.new hl)) (J.up (Same.new hl)) (.lst (mn_put lv hl) (hx.up (Same.less (Same.new hl)))) rfl
/-! statements -/
theorem dr_asg {i : Nat} {tz : TS} {D : Ends} (h : Dr S j bk H c σ te P) (lv : Live S H) (J : Jar j bk H n) (hn : n + c ≤ 100000) (k : ∀ v d H', Keep j H H' → Live S H' → Jar j bk H' (n + c) → Is (mn S H') v d → P d → tz D (σ.set i (some v)) H') : tSeq (tAsg te (gName i)) tz D σ H :=
  h H n _ (Keep.refl _) lv J hn k
theorem dr_ret {D : Ends} (h : Dr S j bk H c σ te P) (lv : Live S H) (J : Jar j bk H n) (hn : n + c ≤ 100000) (k : ∀ v d H', Keep j H H' → Live S H' → Jar j bk H' (n + c) → Is (mn S H') v d → P d → D.rt v H') : tRet te D σ H :=
  h H n _ (Keep.refl _) lv J hn k
theorem dr_par {i l : Nat} {tz : TS} {D : Ends} {Pa Pb : Da → Prop} (hj : S j = true) (ha : Dr S j bk H c1 σ ta Pa) (hb : Dr S j bk H c2 σ tb Pb) (lv : Live S H) (J : Jar j bk H n) (hn : n + (c1 + c2) ≤ 100000)
    (k : ∀ v d u e H', Keep j H H' → Live S H' → Jar j bk H' (n + (c1 + c2)) → Is (mn S H') v d → Pa d → Is (mn S H') u e → Pb e → tz D ((σ.set i (some v)).set l (some u)) H') : tSeq (tPar i l (tCons ta (tCons tb tNil))) tz D σ H :=
  ha H n _ (Keep.refl _) lv J (by omega) fun v d H1 k1 l1 J1 h1 p1 => hb H1 (n + c1) _ k1 l1 J1 (by omega) fun u e H2 k2 l2 J2 h2 p2 => ⟨v, u, rfl, k v d u e H2 (k1.trans k2) l2 (by rwa [Nat.add_assoc] at J2) (h1.up (k2.less hj)) p1 h2 p2⟩
/-- an if whose test draws -/
theorem dr_ifS {PT : Bool → Prop} {tu tw : TS} {D : Ends} (h : DrT S j bk H c σ tt PT) (lv : Live S H) (J : Jar j bk H n) (hn : n + c ≤ 100000) (h1 : ∀ H', Keep j H H' → Live S H' → Jar j bk H' (n + c) → PT true → tu D σ H') (h2 : ∀ H', Keep j H H' → Live S H' → Jar j bk H' (n + c) → PT false → tw D σ H') : tIfS tt tu tw D σ H :=
  h H n _ (Keep.refl _) lv J hn fun b H' k' l' J' p => by
    cases b with
    | true => exact h1 H' k' l' J' p
    | false => exact h2 H' k' l' J' p
theorem dr_when {PT : Bool → Prop} {tu tz : TS} {D : Ends} (h : DrT S j bk H c σ tt PT) (lv : Live S H) (J : Jar j bk H n) (hn : n + c ≤ 100000) (h1 : ∀ H', Keep j H H' → Live S H' → Jar j bk H' (n + c) → PT true → tu { D with nx := tz D } σ H') (h2 : ∀ H', Keep j H H' → Live S H' → Jar j bk H' (n + c) → PT false → tz D σ H') : tSeq (tIfS tt tu tNext) tz D σ H :=
  dr_ifS h lv J hn h1 h2
end
/-- what is out of the data, j alone -/
def only (j : Addr) : Addr → Bool := fun b => decide (b = j)
theorem only_self {j : Addr} : only j j = true := decide_eq_true rfl
theorem only_live {j bk : Addr} {H : Hp} {n : Nat} (J : Jar j bk H n) : Live (only j) H := fun b hb => by
  have e : b = j := of_decide_eq_true hb
  subst e
  obtain ⟨cells, a, l, h, _⟩ := J
  rw [h]
  exact nofun
end Ty
namespace Ty
open PySem PySem.Spec PyProof.Rows L2
section
variable {S : Addr → Bool} {j bk : Addr} {H0 H : Hp} {c c1 c2 n : Nat} {σ : L2.St} {te ta tb : TE} {tr : TA} {d : Da} {ds : List Da}
theorem drA_consE (hj : S j = true) (h : Dr S j bk H0 0 σ te (· = d)) (hr : DrA S j bk H0 0 σ tr (· = ds)) : DrA S j bk H0 0 σ (tCons te tr) (· = d :: ds) := fun H n Q kp lv J hn k =>
  drA_cons hj h hr H n Q kp lv J hn fun vs es H' k' l' J' h' p' => by
    obtain ⟨_, _, rfl, rfl, rfl⟩ := p'
    exact k vs _ H' k' l' J' h' rfl
theorem dr_tupE (h : DrA S j bk H0 0 σ tr (· = ds)) (hl : ds.length ≤ 1000) : Dr S j bk H0 0 σ (tTup tr) (· = .tup ds) := (dr_tup h fun _ e => by rw [e]; exact hl).imp fun d ⟨_, e1, e2⟩ => by rw [e1, e2]
theorem dr_lstE (h : DrA S j bk H0 0 σ tr (· = ds)) (hl : ds.length ≤ 1000) : Dr S j bk H0 0 σ (tLst tr) (· = .lst ds) := (dr_lst h fun _ e => by rw [e]; exact hl).imp fun d ⟨_, e1, e2⟩ => by rw [e1, e2]
/-- one of written things -/
theorem dr_pickE {i : Nat} (hj : S j = true) (h : σ[i]? = some (some (.ref j))) (hr : DrA S j bk H0 0 σ tr (· = ds)) (hl : 0 < ds.length) (hl2 : ds.length ≤ 1000) :
    Dr S j bk H0 1 σ (tCall spPick [] E0 (tCons (tVar i) (tCons (tLst tr) tNil))) (· ∈ ds) := (dr_pick hj h hr fun _ e => by rw [e]; exact ⟨hl, hl2⟩).imp fun d ⟨_, e1, e2⟩ => by rwa [← e1]
theorem dr_opE {C : Int → Int → Prop} {g : Int → Int → Int} {a b : Int} (ha : Dr S j bk H0 c1 σ ta (· = .int a)) (hb : Dr S j bk H0 c2 σ tb (· = .int b)) (hc : C a b) :
    Dr S j bk H0 (c1 + c2) σ (tOp (rI C fun i j => .int (g i j)) ta tb) (· = .int (g a b)) :=
  (dr_op (Pa := (· = a)) (Pb := (· = b)) (ha.imp fun d e => ⟨a, e, rfl⟩) (hb.imp fun d e => ⟨b, e, rfl⟩) fun _ _ e1 e2 => by rw [e1, e2]; exact hc).imp fun d ⟨i, e, _, _, e1, e2, e3⟩ => by rw [e, e3, e1, e2]
theorem dr_op0E {g : Int → Int → Int} {a b : Int} (ha : Dr S j bk H0 c1 σ ta (· = .int a)) (hb : Dr S j bk H0 c2 σ tb (· = .int b)) :
    Dr S j bk H0 (c1 + c2) σ (tOp (rI0 fun i j => .int (g i j)) ta tb) (· = .int (g a b)) :=
  (dr_op0 (Pa := (· = a)) (Pb := (· = b)) (ha.imp fun d e => ⟨a, e, rfl⟩) (hb.imp fun d e => ⟨b, e, rfl⟩)).imp fun d ⟨i, e, _, _, e1, e2, e3⟩ => by rw [e, e3, e1, e2]
end
end Ty

namespace Ty
open PySem PySem.Spec PyProof.Rows L2
/-- [x for x in xs if test]: whether anything is in it -/
theorem r_filter {K : PySem.W.Frag} {l i : Nat} {tt : TT} {σ : L2.St} {H : Hp} {Q : VK} {a : Addr} {xs : List V} {ds : List Da} (t : Da → Bool) (hv : σ[l]? = some (some (.ref a))) (hs : SqL K H a xs ∨ SqT K H a xs) (hx : IsAll H xs ds) (hlen : xs.length ≤ 1000)
    (hw : ∀ x, wipe ((wipe σ [i]).set i (some x)) [i] = wipe σ [i]) (hi : ∀ x : V, ((wipe σ [i]).set i (some x))[i]? = some (some x))
    (ht : ∀ (x : V) (dx : Da) (H' : Hp) (Q' : Bool → Hp → Prop), Same H H' → Is H' x dx → dx ∈ ds → (∀ H'', Same H' H'' → Q' (t dx) H'') → tt ((wipe σ [i]).set i (some x)) H' Q')
    (k : ∀ (D : Addr) (H' : Hp) (acc : List V), Same H H' → H D = none → H' D = some (.lst acc) → acc.isEmpty = (ds.all fun d => !t d) → Q (.ref D) H') :
    tLc (fun σ H R => iList K (tVar l) σ H R ∨ iTup K (tVar l) σ H R) (gName i) tt (tVar i) [i] σ H Q := by
  have turn : ∀ (D : Addr) (m : Nat) (x : V) (H' : Hp), H D = none → xs[m]? = some x → (Same H H' ∧ ∃ acc, H' D = some (.lst acc) ∧ acc.length ≤ m ∧ acc.isEmpty = ((ds.take m).all fun d => !t d)) →
      gName i x (wipe σ [i]) H' fun σ2 H2 => wipe σ2 [i] = wipe σ [i] ∧ tt σ2 H2 fun b H3 => if b = true then tVar i σ2 H3 fun y H4 => ∃ acc, H4 D = some (.lst acc) ∧ acc.length < sizeLine ∧ (Same H (upd H4 D (.lst (acc ++ [y]))) ∧ ∃ acc', (upd H4 D (.lst (acc ++ [y]))) D = some (.lst acc') ∧ acc'.length ≤ m + 1 ∧ acc'.isEmpty = ((ds.take (m + 1)).all fun d => !t d))
        else (Same H H3 ∧ ∃ acc', H3 D = some (.lst acc') ∧ acc'.length ≤ m + 1 ∧ acc'.isEmpty = ((ds.take (m + 1)).all fun d => !t d)) := by
    rintro D m x H' hD hm ⟨s1, acc, hacc, hl, he⟩
    obtain ⟨dx, hdx, hix⟩ := hx.at hm
    have more : ((ds.take (m + 1)).all fun d => !t d) = (((ds.take m).all fun d => !t d) && !t dx) := by
      rw [List.take_add_one, hdx, List.all_append]
      simp
    have mlt := (List.getElem?_eq_some_iff.mp hm).1
    refine ⟨hw x, ht x dx H' _ s1 (hix.up s1) (List.mem_of_getElem? hdx) fun H3 s3 => iteB (fun c => ?_) fun c => ?_⟩
    · refine ⟨x, hi x, acc, s3 _ _ hacc, Nat.lt_of_le_of_lt (show acc.length ≤ 1000 by omega) (by decide), Same.mut (s1.trans s3) hD, _, upd_same, by rw [List.length_append]; simp; omega, ?_⟩
      rw [more, c]
      simp
    · refine ⟨s1.trans s3, acc, s3 _ _ hacc, by omega, ?_⟩
      rw [more, c, he]
      simp
  have fin : ∀ (D : Addr) (H' : Hp), H D = none → (Same H H' ∧ ∃ acc, H' D = some (.lst acc) ∧ acc.length ≤ xs.length ∧ acc.isEmpty = ((ds.take xs.length).all fun d => !t d)) → Q (.ref D) H' := by
    rintro D H' hD ⟨s1, acc, hacc, _, he⟩
    refine k D H' acc s1 hD hacc ?_
    rwa [hx.length, List.take_length] at he
  rcases hs with hs | hs
  · exact .inl ⟨_, hv, a, rfl, ⟨_, hs⟩, fun D hD => lc_list (xs := xs) (fun m H' => Same H H' ∧ ∃ acc, H' D = some (.lst acc) ∧ acc.length ≤ m ∧ acc.isEmpty = ((ds.take m).all fun d => !t d))
      ⟨Same.new hD, [], upd_same, Nat.le_refl _, by simp⟩ (fun m H' _ p => p.1.seq hs) (fun m x H' hm p => turn D m x H' hD hm p) (fun H' p => fin D H' hD p)⟩
  · exact .inr ⟨_, hv, a, rfl, ⟨_, hs⟩, fun D hD => lc_tup (xs := xs) (fun m H' => Same H H' ∧ ∃ acc, H' D = some (.lst acc) ∧ acc.length ≤ m ∧ acc.isEmpty = ((ds.take m).all fun d => !t d))
      ⟨Same.new hD, [], upd_same, Nat.le_refl _, by simp⟩ (fun m H' _ p => Evl.ex_t p.1 hs) (fun m x H' hm p => turn D m x H' hD hm p) (fun H' p => fin D H' hD p)⟩
/-! ### no divisor -/
def noDiv (a b : Int) (n : Nat) : Bool := (List.range n).all fun k => !(decide (a % (2 + (k : Int)) = 0) && decide (b % (2 + (k : Int)) = 0))
theorem noDiv_gcd {a b : Int} (h2 : 2 ≤ b) {n : Nat} (hn : (n : Int) = b + 1 - 2) : noDiv a b n = coprime a b := by
  unfold noDiv coprime
  by_cases g : Nat.gcd a.natAbs b.natAbs = 1
  · rw [decide_eq_true g, List.all_eq_true]
    intro k hk
    rw [Bool.not_eq_true', Bool.and_eq_false_iff]
    by_cases h1 : a % (2 + (k : Int)) = 0
    · right
      refine decide_eq_false fun h3 => ?_
      have d1 : (2 + k) ∣ a.natAbs := Int.ofNat_dvd_left.mp (by have := Int.dvd_of_emod_eq_zero h1; push_cast; exact this)
      have d2 : (2 + k) ∣ b.natAbs := Int.ofNat_dvd_left.mp (by have := Int.dvd_of_emod_eq_zero h3; push_cast; exact this)
      have d3 := Nat.dvd_gcd d1 d2
      rw [g] at d3
      have := Nat.le_of_dvd (by decide) d3
      omega
    · left
      exact decide_eq_false h1
  · rw [decide_eq_false g, List.all_eq_false]
    have pos : 0 < Nat.gcd a.natAbs b.natAbs := Nat.gcd_pos_of_pos_right _ (by omega)
    have le : Nat.gcd a.natAbs b.natAbs ≤ b.natAbs := Nat.le_of_dvd (by omega) (Nat.gcd_dvd_right _ _)
    refine ⟨Nat.gcd a.natAbs b.natAbs - 2, List.mem_range.mpr (by omega), ?_⟩
    have e : (2 + ((Nat.gcd a.natAbs b.natAbs - 2 : Nat) : Int)) = ((Nat.gcd a.natAbs b.natAbs : Nat) : Int) := by omega
    rw [e]
    have d1 : a % ((Nat.gcd a.natAbs b.natAbs : Nat) : Int) = 0 := Int.emod_eq_zero_of_dvd (Int.ofNat_dvd_left.mpr (Nat.gcd_dvd_left _ _))
    have d2 : b % ((Nat.gcd a.natAbs b.natAbs : Nat) : Int) = 0 := Int.emod_eq_zero_of_dvd (Int.ofNat_dvd_left.mpr (Nat.gcd_dvd_right _ _))
    rw [decide_eq_true d1, decide_eq_true d2]
    decide
def okPair : List Da → Bool
  | [.int _, .int b] => decide (b ≤ 400)
  | _ => true
/-- of a value with such a pair -/
def spForm : Sp := fun vs H Q _ => ∃ v d, vs = [v] ∧ Is H v d ∧ okPair (items d) = true ∧ (items d).length ≤ 1000 ∧ ∀ H', Same H H' → Q (.bl (isNum d)) H'
end Ty
namespace Ty
open PySem PySem.Spec PyProof.Rows L2
section
variable {σ : L2.St} {H : Hp} {D : Ends} {t u : TS} {c c' : TT} {te ta tb : TE} {tr : TA} {Q : VK} {QT : Bool → Hp → Prop} {QA : List V → Hp → Prop} {r : R2} {f : List V → Hp → VK → Prop} {g : TG}
theorem go_next (h : D.nx σ H) : tNext D σ H := h
theorem go_seq (h : t { D with nx := u D } σ H) : tSeq t u D σ H := h
theorem go_if (h : c σ H fun b H1 => if b = true then t D σ H1 else u D σ H1) : tIfS c t u D σ H := h
theorem go_asg (h : te σ H fun x H1 => g x σ H1 D.nx) : tAsg te g D σ H := h
theorem go_ret (h : te σ H D.rt) : tRet te D σ H := h
theorem go_or (h : c σ H fun b H1 => if b = true then QT true H1 else c' σ H1 QT) : tOr c c' σ H QT := h
theorem go_and (h : c σ H fun b H1 => if b = true then c' σ H1 QT else QT false H1) : tAnd c c' σ H QT := h
theorem go_not (h : c σ H fun b H1 => QT (!b) H1) : tNot c σ H QT := h
theorem go_test (h : te σ H fun x H1 => ∃ k, x = .bl k ∧ QT k H1) : tTest te σ H QT := h
theorem go_B (h : te σ H fun x H1 => ∃ k, x = .bl k ∧ QT k H1) : tB te σ H QT := h
theorem go_op (h : ta σ H fun x H1 => tb σ H1 fun y H2 => r x y H2 Q) : tOp r ta tb σ H Q := h
theorem go_cb (h : tr σ H fun vs H1 => f vs H1 Q) : tCB f tr σ H Q := h
theorem go_cons (h : te σ H fun x H1 => tr σ H1 fun xs H2 => QA (x :: xs) H2) : tCons te tr σ H QA := h
end
end Ty
namespace Ty
open PySem PySem.Spec PyProof.Rows L2
def good1 (d : Da) : Bool := okPair (items d) && decide ((items d).length ≤ 1000) && small2 huge d
def good (d : Da) : Bool := good1 d && (items d).all good1
theorem small_big {i : Int} (h : i.natAbs < 2 ^ 200) : decide (i.natAbs < 2 ^ huge) = true := decide_eq_true (Nat.lt_of_lt_of_le h (Nat.pow_le_pow_right (by decide) (by decide)))
theorem good1_int {i : Int} (h : i.natAbs < 2 ^ 200) : good1 (.int i) = true := by
  show (true && true && decide (i.natAbs < 2 ^ huge)) = true
  rw [small_big h]
  decide
theorem good_int {i : Int} (h : i.natAbs < 2 ^ 200) : good (.int i) = true := by
  show (good1 (.int i) && true) = true
  rw [good1_int h]
  decide
theorem good1_pair {a b : Int} (ha : a.natAbs < 2 ^ 200) (hb : b.natAbs < 2 ^ 200) (h4 : b ≤ 400) : good1 (.tup [.int a, .int b]) = true ∧ good1 (.lst [.int a, .int b]) = true := by
  constructor
  · show (decide (b ≤ 400) && true && (decide (a.natAbs < 2 ^ huge) && (decide (b.natAbs < 2 ^ huge) && true))) = true
    rw [small_big ha, small_big hb, decide_eq_true h4]
    decide
  · show (decide (b ≤ 400) && true && (decide (a.natAbs < 2 ^ huge) && (decide (b.natAbs < 2 ^ huge) && true))) = true
    rw [small_big ha, small_big hb, decide_eq_true h4]
    decide
theorem good_pair {a b : Int} (ha : a.natAbs < 2 ^ 200) (hb : b.natAbs < 2 ^ 200) (h4 : b ≤ 400) : good (.tup [.int a, .int b]) = true ∧ good (.lst [.int a, .int b]) = true := by
  have e := good1_pair ha hb h4
  constructor
  · show (good1 (.tup [.int a, .int b]) && (good1 (.int a) && (good1 (.int b) && true))) = true
    rw [e.1, good1_int ha, good1_int hb]
    decide
  · show (good1 (.lst [.int a, .int b]) && (good1 (.int a) && (good1 (.int b) && true))) = true
    rw [e.2, good1_int ha, good1_int hb]
    decide
def spValue : Sp := fun vs H Q _ => ∃ (S : Addr → Bool) (j bk : Addr) (n : Nat), vs = [.ref j] ∧ S j = true ∧ Live S H ∧ Jar j bk H n ∧ n + 3 ≤ 100000 ∧
  ∀ v d H', Keep j H H' → Live S H' → Jar j bk H' (n + 3) → Is (mn S H') v d → good d = true → Q v H'
def spHalves : Sp := fun vs H Q _ => ∃ v d, vs = [v] ∧ Is H v d ∧ isNum d = true ∧ ∀ H' p, Same H H' → H' p = some (.tup [.int (above d), .int (below d)]) → Q (.ref p) H'
def okEach (d : Da) : Bool := decide ((items d).length ≤ 1000) && (items d).all fun e => okPair (items e) && decide ((items e).length ≤ 1000)
def spRound : Sp := fun vs H Q _ => ∃ v d, vs = [v] ∧ Is H v d ∧ okEach d = true ∧ small3 huge d = true ∧ ∀ H', Same H H' → Q (.bl (isTurn d)) H'
def spPair : Sp := fun vs H Q _ => ∃ v d, vs = [v] ∧ Is H v d ∧ okEach d = true ∧ ∀ H', Same H H' → Q (.bl (isPt d)) H'
def spFrac : Sp := fun vs H Q _ => ∃ a b : Int, vs = [.int a, .int b] ∧ 0 < b ∧ a.natAbs < 2 ^ 31 ∧ b < 2 ^ 31 ∧ (∀ i : Int, i.natAbs ≤ a.natAbs → Q (.int i) H) ∧
  ∀ (i m : Int) (p : Addr) (H' : Hp), Same H H' → H p = none → H' p = some (.tup [.int i, .int m]) → i.natAbs ≤ a.natAbs → 0 ≤ m → m ≤ b → Q (.ref p) H'
end Ty
namespace Ty
open PySem PySem.Spec PyProof.Rows L2
theorem ediv_abs {a p : Int} (hp : 0 < p) : (a / p).natAbs ≤ a.natAbs := by
  by_cases h : 0 ≤ a
  · have h1 := Int.ediv_nonneg h (Int.le_of_lt hp)
    have h2 := Int.ediv_le_self p h
    omega
  · have h1 : a / p < 0 := Int.ediv_neg_of_neg_of_pos (by omega) hp
    have h2 : a ≤ a / p := by
      have h3 := Int.lt_ediv_add_one_mul_self a hp
      have h4 : a / p * p ≤ a / p * 1 := Int.mul_le_mul_of_nonpos_left (by omega) (by omega)
      have h5 : (a / p + 1) * p = a / p * p + p := by rw [Int.add_mul, Int.one_mul]
      by_cases h6 : a ≤ a / p
      · exact h6
      · exfalso
        have h7 : a / p + 1 ≤ a := by omega
        have h8 : (a / p + 1) * p ≤ (a / p + 1) * 1 := Int.mul_le_mul_of_nonpos_left (by omega) (by omega)
        omega
    omega
/-- a fraction made of two integers -/
def FracOf (a b : Int) (d : Da) : Prop := (∃ i, d = .int i ∧ i.natAbs ≤ a.natAbs) ∨ ∃ i m, d = .tup [.int i, .int m] ∧ i.natAbs ≤ a.natAbs ∧ 0 ≤ m ∧ m ≤ b
theorem dr_frac {S : Addr → Bool} {j bk : Addr} {H0 : Hp} {σ : L2.St} {ta tb : TE} {a b : Int} (ha : Dr S j bk H0 0 σ ta (· = .int a)) (hb : Dr S j bk H0 0 σ tb (· = .int b)) (h0 : 0 < b) (h1 : a.natAbs < 2 ^ 31) (h2 : b < 2 ^ 31) :
    Dr S j bk H0 0 σ (tCall spFrac [] E0 (tCons ta (tCons tb tNil))) (FracOf a b) := fun H n Q kp lv J hn k =>
  ha H n _ kp lv J hn fun v d H1 k1 l1 J1 i1 p1 => hb H1 n _ (kp.trans k1) l1 J1 hn fun u e H2 k2 l2 J2 i2 p2 => by
    subst p1
    subst p2
    cases i1
    cases i2
    exact ⟨a, b, rfl, h0, h1, h2, fun i hi => k _ _ H2 (k1.trans k2) l2 J2 (.int i) (.inl ⟨i, rfl, hi⟩), fun i m p H' s hp hp' hi hm0 hm1 => by
      have Sp : S p = false := by
        cases e : S p with
        | false => rfl
        | true => exact absurd hp (l2 p e)
      refine k _ _ H' ((k1.trans k2).trans (Same.keep s)) (l2.more s) (J2.up s) (.tup ?_ (.cons (.int i) (.cons (.int m) .nil))) (.inr ⟨i, m, rfl, hi, hm0, hm1⟩)
      rw [mn_at Sp]
      exact hp'⟩
theorem FracOf.good {a b : Int} {d : Da} (h : FracOf a b d) (ha : a.natAbs < 2 ^ 31) (hb : b ≤ 400) : good1 d = true := by
  rcases h with ⟨i, rfl, hi⟩ | ⟨i, m, rfl, hi, hm0, hm1⟩
  · exact good1_int (Nat.lt_of_le_of_lt hi (Nat.lt_trans ha (by decide)))
  · exact (good1_pair (Nat.lt_of_le_of_lt hi (Nat.lt_trans ha (by decide))) (Nat.lt_of_le_of_lt (show m.natAbs ≤ 400 by omega) (by decide)) (by omega)).1
/-- such a value is no list -/
theorem FracOf.off {S S' : Addr → Bool} {H : Hp} {a b : Int} {d : Da} {v : V} {p : Addr} {xs : List V} (h : FracOf a b d) (hv : Is (mn S H) v d) (hp : H p = some (.lst xs)) (hS : ∀ q, S' q = true → S q = true ∨ q = p) : Is (mn S' H) v d := by
  rcases h with ⟨i, rfl, hi⟩ | ⟨i, m, rfl, hi, hm0, hm1⟩
  · cases hv
    exact .int i
  · cases hv with
    | tup e hx =>
      obtain ⟨e1, e2⟩ := mn_of e
      rename_i q ys
      have off : S' q = false := by
        cases z : S' q with
        | false => rfl
        | true =>
          rcases hS q z with w | w
          · rw [w] at e1
            cases e1
          · subst w
            rw [e2] at hp
            cases hp
      have e3 : mn S' H q = some (.tup ys) := by
        rw [mn_at off]
        exact e2
      cases hx with
      | cons x1 hx =>
        cases x1
        cases hx with
        | cons x2 hx =>
          cases x2
          cases hx
          exact .tup e3 (.cons (.int _) (.cons (.int _) .nil))
def spTurn : Sp := fun vs H Q _ => ∃ (S : Addr → Bool) (j bk : Addr) (n : Nat), vs = [.ref j] ∧ S j = true ∧ Live S H ∧ Jar j bk H n ∧ n + 8 ≤ 100000 ∧
  ∀ v d H', Keep j H H' → Live S H' → Jar j bk H' (n + 8) → Is (mn S H') v d → okEach d = true → small3 huge d = true → Q v H'
theorem good1_small {d : Da} (h : good1 d = true) : small2 huge d = true := by
  unfold good1 at h
  rw [Bool.and_eq_true] at h
  exact h.2
theorem good1_ok {d : Da} (h : good1 d = true) : (okPair (items d) && decide ((items d).length ≤ 1000)) = true := by
  unfold good1 at h
  rw [Bool.and_eq_true] at h
  exact h.1
theorem two_ok {x y : Da} (h1 : good1 x = true) (h2 : good1 y = true) : okEach (.lst [x, y]) = true ∧ okEach (.tup [x, y]) = true ∧ small3 huge (.lst [x, y]) = true ∧ small3 huge (.tup [x, y]) = true := by
  have e1 : okEach (.lst [x, y]) = true := by
    show (true && ((okPair (items x) && decide ((items x).length ≤ 1000)) && ((okPair (items y) && decide ((items y).length ≤ 1000)) && true))) = true
    rw [good1_ok h1, good1_ok h2]
    decide
  have e2 : small3 huge (.lst [x, y]) = true := by
    show (small2 huge x && (small2 huge y && true)) = true
    rw [good1_small h1, good1_small h2]
    decide
  exact ⟨e1, e1, e2, e2⟩
theorem good_good1 {d : Da} (h : good d = true) : good1 d = true := by
  unfold good at h
  rw [Bool.and_eq_true] at h
  exact h.1
end Ty
namespace Ty
open PySem PySem.Spec PyProof.Rows L2
theorem sq_bounds {p : Int} (h1 : -7 ≤ p) (h2 : p ≤ 7) : 0 ≤ p * p ∧ p * p ≤ 49 := by
  have e := Int.natAbs_mul_self (a := p)
  have h3 : p.natAbs * p.natAbs ≤ 7 * 7 := Nat.mul_le_mul (by omega) (by omega)
  omega
theorem prod_bounds {p q : Int} (h1 : -7 ≤ p) (h2 : p ≤ 7) (h3 : -7 ≤ q) (h4 : q ≤ 7) : (2 * p * q).natAbs ≤ 98 := by
  rw [Int.natAbs_mul, Int.natAbs_mul]
  have h5 : (2 : Int).natAbs * p.natAbs ≤ 2 * 7 := Nat.mul_le_mul (by decide) (by omega)
  exact Nat.le_trans (Nat.mul_le_mul h5 (show q.natAbs ≤ 7 by omega)) (by decide)
theorem Is.wide {S S' : Addr → Bool} {H : Hp} {v : V} {d : Da} (h : Is (mn S H) v d) (hs : ∀ b, S' b = true → S b = true) : Is (mn S' H) v d := h.up fun b o e => by
  obtain ⟨h1, h2⟩ := mn_of e
  rw [mn_at]
  · exact h2
  · cases z : S' b with
    | false => rfl
    | true =>
      rw [hs b z] at h1
      cases h1
end Ty

namespace Ty
open PySem PySem.Spec PyProof.Rows L2
/-- a caught exception that a name holds: its class, its dict -/
def ExT (cls : Value) (d : Option Addr) (a : Addr) : HO := .ext fun h => ∃ (oe : Obj) (vs : Array Value), h.get? a = some oe ∧ Zc cls d oe ∧ oe.data = .fields vs
theorem exT_ok {P : Program} {w : World} {H : Hp} {h : Heap} {a : Addr} {cls : Value} {d : Option Addr} {oe : Obj} {vs : Array Value} (e : h.get? a = some oe) (z : Zc cls d oe) (dd : oe.data = .fields vs) : ObjOk P w H h a (ExT cls d a) :=
  ⟨⟨oe, vs, e, z, dd⟩, ⟨oe, e⟩, fun _ _ ⟨o, v, q, r⟩ k => ⟨o, v, k o q, r⟩⟩
section
variable {X : Cx} {pins : List (Addr × Obj)} {σ : L2.St} {H : Hp} {s : Shared}
/-- an object that stands, made since the entry and not tracked, is tracked from now on -/
theorem Inv.track {a : Addr} {oe : Obj} {o : HO} (I : Inv X pins σ H s) (ha : s.heap.get? a = some oe) (hn : H a = none) (h0 : X.s_0.heap.get? a = none) (nL : a ≠ X.env.locals) (nC : ∀ v, oe.data ≠ .cell v) (np : ∀ p ∈ X.pn ++ pins, p.1 ≠ a)
    (new : ObjOk X.prog X.w (upd H a o) s.heap a o) : Inv X pins σ (upd H a o) s := by
  have ne0 : ∀ {b : Addr} {u : Obj}, X.s_0.heap.get? b = some u → b ≠ a := fun {b u} e z => by
    rw [z, h0] at e
    cases e
  have neC : ∀ x c, X.env.cells.lookup x = some c → c ≠ a := fun x c e z => by
    obtain ⟨v, oc, ho, hd⟩ := I.cell x c e
    rw [z, ha] at ho
    cases ho
    exact nC v hd
  constructor
  · exact I.ok
  · exact I.os
  · exact I.bare
  · refine ⟨I.base.keep, I.base.slot, ?_, I.base.there, ?_, ?_, ?_⟩
    · intro b u e n hx
      rw [upd_ne (ne0 e)]
      exact I.base.free b u e n hx
    · intro b xs e
      have q := I.base.tups b xs e
      rw [upd_ne (ne_of_none q hn)]
      exact q
    · intro b u v e
      have q := I.base.frzs b u v e
      rw [upd_ne (ne_of_none q hn)]
      exact q
    · intro b ps e
      obtain ⟨m, q⟩ := I.base.tbls b ps e
      refine ⟨m, ?_⟩
      rw [upd_ne (ne_of_none q hn)]
      exact q
  · exact I.loc
  · exact I.cell
  · rw [upd_ne nL.symm]
    exact I.free
  · intro x c e
    rw [upd_ne (neC x c e)]
    exact I.freeC x c e
  · intro p hp
    obtain ⟨h1, h2, h3⟩ := I.pin p hp
    refine ⟨h1, ?_, h3⟩
    rw [upd_ne (np p hp)]
    exact h2
  · exact I.hok.laidN (fun _ _ e => e) hn new
  · exact I.len
end
/-- what the clause «except x as n: m = n» wishes: slot i is n's, slot l is m's; behind it the exception is tracked -/
def wKeep (K : PySem.W.Frag) (c : Value) (i l : Nat) (Wout : WX) (D : Ends) : WX := fun cls d σ H =>
  ∃ b, PySem.W.exmOne K cls c = some b ∧ (b = true → ∀ a, H a = none → D.nx ((((σ.set i (some (.ref a))).set l (some (.ref a)))).set i none) (upd H a (ExT cls d a))) ∧ (b = false → Wout cls d σ H)
section
variable {X : Cx} {x n : Str} {c : Value} {i l : Nat} {body : List Stmt} {st : Stmt} {np pos pos' : Pos} {tb : WX → TS} {Wout : WX}
theorem ps_try_keep (hex : X.ex = []) (hpn : X.pn = []) (hs : X.stack = X.env :: X.outer) (hf : X.env.frame = some X.env.locals) (hN : X.N.Nodup) (hi : X.N[i]? = some n) (hln : X.env.kindOf n = some .local) (hc : Names X x c) (tk : Takes X Wout)
    (hb : ∀ (W : WX) (pn : List (Addr × Obj)) (xe : Value → Shared → Prop), Takes (X.tr pn xe) W → PassesOwn (model X.prog X.w) X.A X.env xe → PSs (X.tr pn xe) body (tb W))
    (hsu : ∀ (a : Addr) (oe : Obj) (cls : Value) (d : Option Addr) (pn : List (Addr × Obj)), Zc cls d oe → (∃ vs, oe.data = .fields vs) → PSs (X.suite a ((a, oe) :: pn)) [st] (tAsg (tVar i) (gName l))) :
    PS X (.Try body [.ExceptHandler (some (.Name x np)) (some n) [st] pos'] [] [] pos) (fun D σ H => tb (wKeep X.K c i l Wout D) D σ H) := by
  constructor
  intro pins s σ H D I h
  have ok := I.ok
  have hfr : X.A.frames = some (X.env :: X.outer) := by rw [ok.frames, hs]
  refine wpAny_Try_except (wpAny_mono ((hb (wKeep X.K c i l Wout D) (X.pn ++ pins) (fun e s1 => wpAny (model X.prog X.w) X.A (noteFrame e X.env) (fun _ s2 => wpAny (model X.prog X.w) X.A (setFlight e none) (fun _ s3 =>
    wpAny (model X.prog X.w) X.A (handleBy e X.env [.ExceptHandler (some (.Name x np)) (some n) [st] pos']) (SP X pins D) X.xe s3) X.xe s2) X.xe s1) ?_ PassesOwn.looking).run [] s σ H D (I.toTry _) h) ?_ fun e s1 he => he)
  · rintro u s' ⟨a, B, sI, pins', σ', H', cls, d, rfl, J', nb, up, sky, na, os, ag, b, hb1, hyes, hno⟩
    have J : Inv X pins σ' H' sI := J'.ofTry ok
    rw [hs] at sky
    show wpAny (model X.prog X.w) X.A (noteFrame (.ref a) X.env) _ _ _
    refine Sky.land Zc.steady hfr hf sky ?_
    intro h3 fl3 up3
    have J3 : Inv X pins σ' H' { s' with heap := h3 } := J.landed nb fl3.1 (up.trans up3) os ag
    obtain ⟨oe3, vs3, he3, hz3, hd3⟩ := fl3.there
    have nfr : a ∉ frs (X.env :: X.outer) := fun hm => by
      obtain ⟨_, o', e', hnf⟩ := fl3.2.2.1.mem hm
      rw [he3] at e'
      cases e'
      exact hnf _ hd3
    have nL : a ≠ X.env.locals := fun z => nfr (List.mem_filterMap.mpr ⟨X.env, List.mem_cons_self, by rw [hf, z]⟩)
    have nF : a ∉ X.fs := fun hm => by
      obtain ⟨e, he, q⟩ := List.mem_filterMap.mp hm
      exact nfr (List.mem_filterMap.mpr ⟨e, List.mem_cons_of_mem _ he, q⟩)
    have new0 : X.s_0.heap.get? a = none := by
      cases e : X.s_0.heap.get? a with
      | none => rfl
      | some o =>
        obtain ⟨o', e1⟩ := J.base.there a o e (by rw [hex]; exact nofun)
        have e2 := nb a o' e1 (by rw [hs]; exact nfr)
        rw [fl3.2.1] at e2
        cases e2
    have S3 := J3.suite he3 hd3 na nL nF
    have LM := PySem.W.exm_one (M := model X.prog X.w) J3.kIn (fun A Q E s k q => wpAny_typeOf_ref (k _ _ he3) (by rw [hz3.1]; exact q)) hb1
    refine wpAny_handleBy_cons (codeAny_handlers_test ?_) (by intro q; cases q)
    have test : ∀ {Q : Value → Shared → Prop} {E : Value → Shared → Prop}, Q c { s' with heap := h3 } → wpAny (model X.prog X.w) (X.A.mark (some (.ref a))) (eval (.Name x np) X.env) Q E { s' with heap := h3 } := by
      intro Q E q
      obtain ⟨hg, hdbg, hm | ⟨hm, hv, hnn⟩⟩ := hc
      · exact ld_glob (X := X.suite a ((a, oe3) :: (X.pn ++ pins))) S3 hg hm q hdbg
      · exact ld_blt (X := X.suite a ((a, oe3) :: (X.pn ++ pins))) S3 hg hm hv q hnn hdbg
    refine test (LM.here ?_)
    cases b with
    | true =>
      refine codeAny_handlers_suite_as (HandSPX.lands_againZ fl3 ?_)
      intro h4 fl4 up4
      have J4 : Inv X pins σ' H' { s' with heap := h4 } := J.landed nb fl4.1 ((up.trans up3).trans up4) os ag
      obtain ⟨oe4, vs4, he4, hz4, hd4⟩ := fl4.there
      refine store_ok (X := X.suite a ((a, oe4) :: (X.pn ++ pins))) (v := .ref a) (J4.suite he4 hd4 na nL nF) hN hi (.inl hln) rfl ?_ (.inr hln)
      intro s5 S5
      have ilt : i < σ'.length := by
        rw [J.len]
        exact (List.getElem?_eq_some_iff.mp hi).1
      refine wpAny_mono ((hsu a oe4 cls d (X.pn ++ pins) hz4 ⟨_, hd4⟩).run [] s5 _ H' { nx := fun σ6 H6 => σ6 = ((σ'.set i (some (.ref a))).set l (some (.ref a))) ∧ H6 = H', rt := fun _ _ => False, bk := fun _ _ => False, ct := fun _ _ => False } S5 ⟨.ref a, List.getElem?_set_self ilt, rfl, rfl⟩) ?_ fun _ _ z => False.elim z
      intro f s6 hsp
      cases f with
      | next =>
        obtain ⟨σ6, H6, S6, rfl, rfl⟩ := hsp
        have S7 : Inv X ((a, oe4) :: pins) ((σ'.set i (some (.ref a))).set l (some (.ref a))) H6 s6 := (S6.unsuite ok).pins_of fun p hp => by
          rcases List.mem_cons.mp hp with e | hp
          · rw [e]
            exact S6.pin (a, oe4) (List.mem_append_left _ List.mem_cons_self)
          · exact S6.pin p (List.mem_append_left _ (List.mem_cons_of_mem _ (List.mem_append_right _ hp)))
        refine gone_ok S7 hN hi hln ?_
        intro s7 J7
        obtain ⟨g1, g2, g3, g4, g5⟩ := J7.pin (a, oe4) (List.mem_append_right _ List.mem_cons_self)
        have J8 : Inv X [] (((σ'.set i (some (.ref a))).set l (some (.ref a))).set i none) H6 s7 := J7.pins_of fun p hp => by cases hp
        have J9 := Inv.track (o := ExT cls d a) J8 g1 g2 new0 g3 g5 (fun p hp => by rw [hpn] at hp; cases hp) (exT_ok g1 hz4 hd4)
        have J10 : Inv X pins (((σ'.set i (some (.ref a))).set l (some (.ref a))).set i none) (upd H6 a (ExT cls d a)) s7 := J9.pins_of fun p hp => by
          obtain ⟨k1, k2, k3⟩ := J7.pin p (List.mem_append_right _ (List.mem_cons_of_mem _ hp))
          have kp := J4.pin p (List.mem_append_right _ hp)
          refine ⟨k1, ?_, k3⟩
          by_cases e : p.1 = a
          · -- a pinned object was there before the exception
            exfalso
            have e1 := (I.pin p (List.mem_append_right _ hp)).1
            have e2 := (J.pin p (List.mem_append_right _ hp)).1
            rw [e] at e2
            have e3 := nb a _ e2 (by rw [hs]; exact nfr)
            rw [fl3.2.1] at e3
            cases e3
          · rw [upd_ne e]
            exact k2
        exact ⟨_, _, J10, hyes rfl a na⟩
      | brk => obtain ⟨_, _, _, q⟩ := hsp; cases q
      | cont => obtain ⟨_, _, _, q⟩ := hsp; cases q
      | ret u => obtain ⟨_, _, _, _, _, q⟩ := hsp; cases q
    | false =>
      show wpAny _ X.A (handleBy (.ref a) X.env []) _ _ _
      refine wpAny_handleBy_nil ?_
      obtain ⟨k1, k2, k3, oe, vs, T, oT, ts', he, hz, hd, h1, hr⟩ := id fl3
      unfold PySem.passOn
      refine wpAny_bind (wpAny_field he hd h1 ?_)
      rw [if_neg (show ¬ ((Value.ref T == Value.none) = true) from by simp)]
      have fin : wpAny (model X.prog X.w) X.A (setFlight (.ref a) X.env.frame) (fun _ s4 => wpAny (model X.prog X.w) X.A (throw (.ref a) : Sem Flow) (SP X pins D) X.xe s4) X.xe { s' with heap := h3 } := by
        rw [hf]
        exact HandSPX.setFlight_upZ fl3 fun h4 hh4 up4 => wpAny_throw (tk _ _ ⟨a, B, sI, pins, σ', H', cls, d, rfl, J, nb, (up.trans up3).trans up4, .inr (.inr (by rw [hs]; exact hh4)), na, os, ag, hno rfl⟩)
      first
        | exact wpAny_bind (wpAny_pure (wpAny_bind fin))
        | exact wpAny_bind fin
  · intro f s1 hsp
    cases f with
    | next => obtain ⟨σ', H', J', q⟩ := hsp; exact wpAny_execs_nil ⟨σ', H', J'.ofTry ok, q⟩
    | brk => obtain ⟨σ', H', J', q⟩ := hsp; exact ⟨σ', H', J'.ofTry ok, q⟩
    | cont => obtain ⟨σ', H', J', q⟩ := hsp; exact ⟨σ', H', J'.ofTry ok, q⟩
    | ret u => obtain ⟨v, σ', H', J', r, q⟩ := hsp; exact ⟨v, σ', H', J'.ofTry ok, r, q⟩
end
/-! ### a caught exception that a name holds -/
/-- what its class must say -/
structure ExcK (K : PySem.W.Frag) (D : Addr) : Prop where
  cl : (PySem.W.clsIn K D).isSome = true
  ga : PySem.W.findIn K (.ref D) "__getattribute__" = some (some (.builtin "BaseException.__getattribute__"))
  gg : PySem.W.findIn K (.ref D) "__getattr__" = some none
  sb : PySem.W.subIn K (.ref D) (.type "BaseException") = some true
  hd : PySem.W.hasDictIn K D = true
  kl : PySem.W.findIn K (.ref D) "__class__" = some (some (.builtin "object.__class__"))
  sp : PySem.W.specialIn K (.builtin "object.__class__") "__get__" = some (some (.builtin "getset_descriptor.__get__"))
  tk : PySem.W.takesIn K (.builtin "object.__class__") = some true
  mr : PySem.W.mroIn K D (.type "object") = some true
section
variable {X : Cx}
/-- isinstance(e, C) of such -/
def rIsX (K : PySem.W.Frag) : List V → Hp → VK → Prop := fun xs H Q => ∃ (a D : Addr) (d : Addr) (fs : List (Str × V)) (c : V) (u : Value) (b : Bool), xs = [.ref a, c] ∧ ClsV c u ∧ H a = some (ExT (.ref D) (some d) a) ∧ H d = some (.xd fs) ∧ ExcK K D ∧ PySem.W.kitOne K (.ref D) u = some b ∧ Q (.bl b) H
theorem inst_of {pins : List (Addr × Obj)} {σ : L2.St} {H : Hp} {s : Shared} {a D d : Addr} {fs : List (Str × V)} (I : Inv X pins σ H s) (ha : H a = some (ExT (.ref D) (some d) a)) (hd : H d = some (.xd fs)) :
    ∃ (oe od : Obj) (mA : Str → Option Value), PySem.W.InstAt s.heap a oe D (some od) ∧ (∀ f, RelO (fs.lookup f) (mA f)) ∧ ∀ n, PySem.W.lookIn n od = some (mA n) := by
  obtain ⟨⟨oe, vs, h1, h2, h3⟩, _⟩ := I.hok a _ ha
  obtain ⟨mA, hns, hr⟩ := (show ObjOk X.prog X.w H s.heap d (.xd fs) from I.hok d _ hd)
  obtain ⟨od, ho, hl⟩ := lookIn_ns hns
  refine ⟨oe, od, mA, ⟨h1, h2.1, ?_, ?_⟩, hr, hl⟩
  · unfold PySem.W.notCls
    rw [h3]
  · rw [h2.2]
    exact ho
theorem call_isX : CallR X (.builtin "isinstance") (rIsX X.K) := by
  intro pins s σ H xs us Q I r h
  obtain ⟨a, D, d, fs, c, u, b, rfl, hc, ha, hd, k, e, q⟩ := h
  obtain ⟨u1, u2, rfl, r1, r2⟩ := vals2 r
  cases (show u1 = Value.ref a from r1)
  have e2 := hc.eq r2
  subst e2
  obtain ⟨oe, od, mA, J, _, _⟩ := inst_of I ha hd
  exact PySem.W.kia_one (PySem.W.kitx_exc k.cl k.ga k.gg k.sb k.kl k.sp k.tk k.mr) I.kIn J e (fun z => nomatch z) fun tk => ⟨.bl b, H, I.tok tk, rfl, q⟩
/-- e.f -/
def tXt (K : PySem.W.Frag) (te : TE) (f : Str) : TE := fun σ H Q => te σ H fun x H1 => ∃ (a D d : Addr) (fs : List (Str × V)) (v : V), x = .ref a ∧ H1 a = some (ExT (.ref D) (some d) a) ∧ H1 d = some (.xd fs) ∧ ExcK K D ∧ PySem.W.findIn K (.ref D) f = some none ∧ fs.lookup f = some v ∧ Q v H1
theorem pe_xt {e : Expr} {te : TE} {pos : Pos} {f : Str} (he : PE X e te) (hb : attributeBase e f X.env (eval e X.env) = eval e X.env := by rfl) : PE X (.Attribute e f pos) (tXt X.K te f) := by
  constructor
  intro pins s σ H Q I h
  refine attr_of hb (thn (he.run pins s σ H _ I h) ?_)
  rintro u s1 ⟨x, H1, I1, rx, a, D, d, fs, v, rfl, ha, hd, k, hno, hl, q⟩
  cases (show u = Value.ref a from rx)
  obtain ⟨oe, od, mA, J, hr, hlk⟩ := inst_of I1 ha hd
  obtain ⟨u, hu, ru⟩ := RelO.some_of (v := v) (o := mA f) (by rw [← hl]; exact hr f)
  exact HandSPX.exc_get I1.kIn J k.ga k.gg k.sb (PySem.W.findObj_own k.hd hno rfl (by rw [hlk, hu])) (handed_of ru) ⟨v, H1, I1.tok _, ru, q⟩
end
end Ty

/-! ### an own exception's __init__ of one field, of two -/
namespace Ty
open PySem PySem.Spec PyProof.Rows L2
def spIni1 (C : Addr) (fs : List Str) : Sp := fun vs H Q _ => ∃ (a : Addr) (v : V) (f : Str), vs = [.ref a, v] ∧ fs = [f] ∧ H a = some (exo a C none) ∧ ∀ d, H d = none → d ≠ a → Q .non (upd (upd H d (exd d [(f, v)])) a (exo a C (some d)))
def spIni2 (C : Addr) (fs : List Str) : Sp := fun vs H Q _ => ∃ (a : Addr) (v u : V) (f g : Str), vs = [.ref a, v, u] ∧ fs = [f, g] ∧ H a = some (exo a C none) ∧
  ∀ d, H d = none → d ≠ a → Q .non (upd (upd (upd H d (exd d [(f, v)])) a (exo a C (some d))) d (exd d [(g, u), (f, v)]))
theorem spIni1_len {C : Addr} {fs : List Str} {x y : Str} {vs : List V} {H : Hp} {Q : VK} {E : XK} (h : spIni1 C fs vs H Q E) : vs.length = [x, y].length := by
  obtain ⟨_, _, _, rfl, _⟩ := h
  rfl
theorem spIni2_len {C : Addr} {fs : List Str} {x y z : Str} {vs : List V} {H : Hp} {Q : VK} {E : XK} (h : spIni2 C fs vs H Q E) : vs.length = [x, y, z].length := by
  obtain ⟨_, _, _, _, _, rfl, _⟩ := h
  rfl
theorem r_ini1 {K : PySem.W.Frag} {C : Addr} {f x y : Str} {vs : List V} {H : Hp} {Q : VK} {E : XK} (T : OexC K C) (no : PySem.W.findIn K (.ref C) f = some none) (h : spIni1 C [f] vs H Q E) :
    tOst K f (tVar 0) (tVar 1) { nx := fun _ H' => Q .non H', rt := Q } (start [x, y] vs) H := by
  obtain ⟨a, v, f', rfl, e, ha, k⟩ := h
  cases e
  exact ⟨v, rfl, .ref a, rfl, a, C, rfl, T, no, .inl ⟨ha, fun dx hd hn => k dx hd hn⟩⟩
theorem r_ini2 {K : PySem.W.Frag} {C : Addr} {f g x y z : Str} {vs : List V} {H : Hp} {Q : VK} {E : XK} (T : OexC K C) (no : PySem.W.findIn K (.ref C) f = some none) (no2 : PySem.W.findIn K (.ref C) g = some none) (h : spIni2 C [f, g] vs H Q E) :
    tSeq (tOst K f (tVar 0) (tVar 1)) (tOst K g (tVar 0) (tVar 2)) { nx := fun _ H' => Q .non H', rt := Q } (start [x, y, z] vs) H := by
  obtain ⟨a, v, u, f', g', rfl, e, ha, k⟩ := h
  cases e
  refine ⟨v, rfl, .ref a, rfl, a, C, rfl, T, no, .inl ⟨ha, fun dx hd hn => ?_⟩⟩
  refine ⟨u, rfl, .ref a, rfl, a, C, rfl, T, no2, .inr ⟨dx, [(f, v)], upd_same, ?_, by show 1 ≤ 900; decide, k dx hd hn⟩⟩
  rw [upd_ne hn]
  exact upd_same
/-- what stands behind C(v): the exception's dict -/
theorem mk1 {C : Addr} {f : Str} {v : V} {H1 : Hp} {Q : XK} (h : ∀ d H', Same H1 H' → H1 d = none → H' d = some (.xd [(f, v)]) → Q (.ref C) (some d) H') :
    [v].length ≤ 1000 ∧ ∀ a, H1 a = none → spIni1 C [f] (.ref a :: ([v] ++ [])) (upd H1 a (exo a C none))
      (fun u H2 => u = .non ∧ ∃ (d : Addr) (fs : List (Str × V)), H2 a = some (exo a C (some d)) ∧ H2 d = some (exd d fs) ∧ H1 d = none ∧ Q (.ref C) (some d) (upd (del H2 a) d (.xd fs))) (fun _ _ _ => False) := by
  refine ⟨by show 1 ≤ 1000; decide, fun a ha => ⟨a, v, f, rfl, rfl, upd_same, fun d hd hn => ⟨rfl, d, _, upd_same, by rw [upd_ne hn]; exact upd_same, by rwa [upd_ne hn] at hd, ?_⟩⟩⟩
  have hd0 : H1 d = none := by rwa [upd_ne hn] at hd
  refine h d _ (fun b o e => ?_) hd0 upd_same
  have ba := ne_of_none e ha
  rw [upd_ne (ne_of_none e hd0), del_ne ba, upd_ne ba, upd_ne (ne_of_none e hd0), upd_ne ba]
  exact e
theorem mk2 {C : Addr} {f g : Str} {v u : V} {H1 : Hp} {Q : XK} (h : ∀ d H', Same H1 H' → H1 d = none → H' d = some (.xd [(g, u), (f, v)]) → Q (.ref C) (some d) H') :
    [v, u].length ≤ 1000 ∧ ∀ a, H1 a = none → spIni2 C [f, g] (.ref a :: ([v, u] ++ [])) (upd H1 a (exo a C none))
      (fun x H2 => x = .non ∧ ∃ (d : Addr) (fs : List (Str × V)), H2 a = some (exo a C (some d)) ∧ H2 d = some (exd d fs) ∧ H1 d = none ∧ Q (.ref C) (some d) (upd (del H2 a) d (.xd fs))) (fun _ _ _ => False) := by
  refine ⟨by show 2 ≤ 1000; decide, fun a ha => ⟨a, v, u, f, g, rfl, rfl, upd_same, fun d hd hn => ⟨rfl, d, _, by rw [upd_ne hn.symm]; exact upd_same, upd_same, by rwa [upd_ne hn] at hd, ?_⟩⟩⟩
  have hd0 : H1 d = none := by rwa [upd_ne hn] at hd
  refine h d _ (fun b o e => ?_) hd0 upd_same
  have ba := ne_of_none e ha
  have bd := ne_of_none e hd0
  rw [upd_ne bd, del_ne ba, upd_ne bd, upd_ne ba, upd_ne bd, upd_ne ba]
  exact e
/-- what a def that raises an error of one field lets out: the error's dict, all else stays -/
def Out1 (C : Addr) (f : Str) (v : V) (H : Hp) (E : XK) : Prop := ∀ d H', Same H H' → H d = none → H' d = some (.xd [(f, v)]) → E (.ref C) (some d) H'
theorem Out1.up {C : Addr} {f : Str} {v : V} {H H1 : Hp} {E : XK} (h : Out1 C f v H E) (s : Same H H1) : Out1 C f v H1 E := fun d H' s' hd hx => h d H' (s.trans s') (by
  cases e : H d with
  | none => rfl
  | some o => rw [s _ _ e] at hd; cases hd) hx
end Ty
namespace Ty
open PySem PySem.Spec PyProof.Rows L2
section
variable {K : PySem.W.Frag} {C D : Addr} {b : Bool}
theorem cls_here (i : PySem.W.isClsIn K D = true) (t : PySem.W.typeIn K (.ref D) = some (.type "type")) (s : PySem.W.subIn K (.ref C) (.ref D) = some b) : PySem.W.kitCls K (.ref C) (.ref D) = some b := by
  have i' : (PySem.W.clsIn K D).isSome = true := i
  have e : ((PySem.W.clsIn K D).isSome && PySem.W.typeIn K (.ref D) == some (.type "type")) = true := by rw [i', t]; rfl
  show (if _ = true then PySem.W.subIn K (.ref C) (.ref D) else none) = some b
  rw [if_pos e]
  exact s
theorem exm_is (x : PySem.W.subIn K (.ref D) (.type "BaseException") = some true) (i : PySem.W.isClsIn K D = true) (t : PySem.W.typeIn K (.ref D) = some (.type "type")) (s : PySem.W.subIn K (.ref C) (.ref D) = some b) : PySem.W.exmOne K (.ref C) (.ref D) = some b := by
  have e : (PySem.W.subIn K (.ref D) (.type "BaseException") == some true) = true := by rw [x]; rfl
  show (if _ = true then PySem.W.kitCls K (.ref C) (.ref D) else none) = some b
  rw [if_pos e]
  exact cls_here i t s
theorem kit_isT (i : PySem.W.isClsIn K D = true) (t : PySem.W.typeIn K (.ref D) = some (.type "type")) (s : PySem.W.subIn K (.ref C) (.ref D) = some true) : PySem.W.kitOne K (.ref C) (.ref D) = some true := by
  unfold PySem.W.kitOne
  split
  · rfl
  · exact cls_here i t s
theorem kit_isF (i : PySem.W.isClsIn K D = true) (t : PySem.W.typeIn K (.ref D) = some (.type "type")) (s : PySem.W.subIn K (.ref C) (.ref D) = some false) (s2 : PySem.W.subIn K (.ref D) (.ref D) = some true) : PySem.W.kitOne K (.ref C) (.ref D) = some false := by
  unfold PySem.W.kitOne
  split
  · rename_i h
    have e : (Value.ref C) = (Value.ref D) := by simpa using h
    rw [e, s2] at s
    cases s
  · exact cls_here i t s
end
end Ty

namespace Ty
open PySem PySem.Spec PyProof.Rows L2
/-! ### operators -/
def CDivX (_ j : Int) : Prop := j ≠ 0 ∧ j.natAbs.log2 < 9000
theorem op_fdivX {X : Cx} : OpR X (binaryOp .FloorDiv) (rI CDivX fun i j => .int (i.fdiv j)) := opI fun i j _ _ _ _ _ hc q => floordiv_int hc.1 q (.inl (PyProof.noPylong_of_log2 hc.2))
theorem divX {i j : Int} {b : Nat} (h : j ≠ 0) (hb : j.natAbs < 2 ^ b) (h0 : 0 < b) (h9 : b ≤ 9000) : CDivX i j := ⟨h, Nat.lt_of_lt_of_le (PySem.Flt.log2_lt_of h0 hb) h9⟩
theorem op_subBl {X : Cx} : OpR X (binaryOp .Sub) (fun x y H Q => ∃ p q, x = .bl p ∧ y = .bl q ∧ Q (.int ((if p = true then (1 : Int) else 0) - if q = true then (1 : Int) else 0)) H) := by
  intro pins s σ H x y v u Q I rx ry h
  obtain ⟨p, q, rfl, rfl, k⟩ := h
  cases rx
  cases ry
  exact PyProof.Rows.sub_bool ⟨.int _, H, I.tok _, ⟨_, rfl⟩, k⟩
/-! ### the one form of a fraction -/
def frac (a b : Int) : Da := if b = 1 then .int a else .tup [.int a, .int b]
/-- d is the number a / b in its one form -/
def Low (a b : Int) (d : Da) : Prop := ∃ p q g : Int, g ≠ 0 ∧ a = p * g ∧ b = q * g ∧ 0 < q ∧ Nat.gcd p.natAbs q.natAbs = 1 ∧ d = frac p q
theorem frac_above {a b : Int} : above (frac a b) = a := by
  unfold frac
  split <;> rfl
theorem frac_below {a b : Int} : below (frac a b) = b := by
  unfold frac
  split
  · rename_i h
    rw [h]
    rfl
  · rfl
theorem frac_num {a b : Int} (h : 0 < b) (g : Nat.gcd a.natAbs b.natAbs = 1) : isNum (frac a b) = true := by
  unfold frac
  split
  · rfl
  · rename_i n
    show (false || (true && (decide (2 ≤ b) && decide (Nat.gcd a.natAbs b.natAbs = 1)))) = true
    rw [decide_eq_true (by omega : 2 ≤ b), decide_eq_true g]
    rfl
theorem co_dvd {p q p' q' : Int} (g : Nat.gcd p.natAbs q.natAbs = 1) (h : p * q' = p' * q) : q.natAbs ∣ q'.natAbs := by
  have h1 : q ∣ p * q' := ⟨p', by rw [h, Int.mul_comm]⟩
  have h2 : q.natAbs ∣ p.natAbs * q'.natAbs := by
    rw [← Int.natAbs_mul]
    exact Int.natAbs_dvd_natAbs.mpr h1
  exact (Nat.Coprime.symm (show Nat.Coprime p.natAbs q.natAbs from g)).dvd_of_dvd_mul_left h2
theorem co_eq {p q p' q' : Int} (g : Nat.gcd p.natAbs q.natAbs = 1) (g' : Nat.gcd p'.natAbs q'.natAbs = 1) (hq : 0 < q) (hq' : 0 < q') (h : p * q' = p' * q) : p = p' ∧ q = q' := by
  have d1 := co_dvd g h
  have d2 := co_dvd g' h.symm
  have e := Nat.dvd_antisymm d1 d2
  have eq : q = q' := by omega
  subst eq
  exact ⟨Int.eq_of_mul_eq_mul_right (by omega) h, rfl⟩
theorem Low.uniq {a b a' b' : Int} {d d' : Da} (h : Low a b d) (h' : Low a' b' d') (e : a * b' = a' * b) : d = d' := by
  obtain ⟨p, q, g, g0, rfl, rfl, q0, co, rfl⟩ := h
  obtain ⟨p', q', g', g0', rfl, rfl, q0', co', rfl⟩ := h'
  have e2 : (p * q') * (g * g') = (p' * q) * (g * g') := by
    have e3 : p * g * (q' * g') = (p * q') * (g * g') := by rw [Int.mul_assoc, Int.mul_left_comm g, ← Int.mul_assoc p]
    have e4 : p' * g' * (q * g) = (p' * q) * (g * g') := by rw [Int.mul_assoc, Int.mul_left_comm g', ← Int.mul_assoc p', Int.mul_comm g']
    rw [← e3, ← e4, e]
  have e3 := Int.eq_of_mul_eq_mul_right (Int.mul_ne_zero g0 g0') e2
  obtain ⟨rfl, rfl⟩ := co_eq co co' q0 q0' e3
  rfl
theorem Low.at (a b : Int) (h : b ≠ 0) : ∃ d, Low a b d := by
  have gp : 0 < Nat.gcd a.natAbs b.natAbs := Nat.gcd_pos_of_pos_right _ (by omega)
  have d1 : ((Nat.gcd a.natAbs b.natAbs : Nat) : Int) ∣ a := Int.ofNat_dvd_left.mpr (Nat.gcd_dvd_left _ _)
  have d2 : ((Nat.gcd a.natAbs b.natAbs : Nat) : Int) ∣ b := Int.ofNat_dvd_left.mpr (Nat.gcd_dvd_right _ _)
  have co := Nat.coprime_div_gcd_div_gcd gp
  obtain ⟨p, hp⟩ := d1
  obtain ⟨q, hq⟩ := d2
  generalize hg : Nat.gcd a.natAbs b.natAbs = g at *
  have cop : Nat.gcd p.natAbs q.natAbs = 1 := by
    have e1 : a.natAbs / g = p.natAbs := by rw [hp, Int.natAbs_mul, Int.natAbs_natCast, Nat.mul_div_cancel_left _ gp]
    have e2 : b.natAbs / g = q.natAbs := by rw [hq, Int.natAbs_mul, Int.natAbs_natCast, Nat.mul_div_cancel_left _ gp]
    rw [e1, e2] at co
    exact co
  by_cases hb : 0 < b
  · refine ⟨frac p q, p, q, g, by omega, by rw [hp, Int.mul_comm], by rw [hq, Int.mul_comm], ?_, cop, rfl⟩
    rw [hq] at hb
    exact Int.pos_of_mul_pos_right hb (by omega)
  · refine ⟨frac (-p) (-q), -p, -q, -g, by omega, by rw [hp, Int.neg_mul_neg, Int.mul_comm], by rw [hq, Int.neg_mul_neg, Int.mul_comm], ?_, by rw [Int.natAbs_neg, Int.natAbs_neg]; exact cop, rfl⟩
    have hb' : q * (g : Int) < 0 := by rw [Int.mul_comm]; omega
    have := Int.neg_of_mul_neg_left hb' (by omega)
    omega
theorem Low.num {a b : Int} {d : Da} (h : Low a b d) : isNum d = true ∧ 0 < below d ∧ above d * b = a * below d ∧ (above d).natAbs ≤ a.natAbs ∧ (below d).natAbs ≤ b.natAbs := by
  obtain ⟨p, q, g, g0, rfl, rfl, q0, co, rfl⟩ := h
  rw [frac_above, frac_below]
  have g1 : 1 ≤ g.natAbs := by omega
  refine ⟨frac_num q0 co, q0, by rw [Int.mul_assoc, Int.mul_comm g, ← Int.mul_assoc], ?_, ?_⟩
  · rw [Int.natAbs_mul]
    exact Nat.le_mul_of_pos_right _ g1
  · rw [Int.natAbs_mul]
    exact Nat.le_mul_of_pos_right _ g1
/-- a number's parts share no divisor -/
theorem num_parts {d : Da} (h : isNum d = true) : 0 < below d ∧ Nat.gcd (above d).natAbs (below d).natAbs = 1 := by
  have two : ∀ l, isPair l = true → ∃ a b : Int, l = [.int a, .int b] ∧ 2 ≤ b ∧ Nat.gcd a.natAbs b.natAbs = 1 := fun l hl => by
    match l, hl with
    | [.int a, .int b], hl =>
      have hl' : (decide (2 ≤ b) && decide (Nat.gcd a.natAbs b.natAbs = 1)) = true := hl
      rw [Bool.and_eq_true] at hl'
      exact ⟨a, b, rfl, of_decide_eq_true hl'.1, of_decide_eq_true hl'.2⟩
  cases d with
  | int i => exact ⟨by show (0 : Int) < 1; decide, Nat.gcd_one_right _⟩
  | tup l =>
    obtain ⟨a, b, rfl, h2, h3⟩ := two l (by simpa [isNum, isN, isS, items] using h)
    exact ⟨by show 0 < b; omega, h3⟩
  | lst l =>
    obtain ⟨a, b, rfl, h2, h3⟩ := two l (by simpa [isNum, isN, isS, items] using h)
    exact ⟨by show 0 < b; omega, h3⟩
  | _ => cases h
/-- a number's one form -/
theorem Low.self {d : Da} (h : isNum d = true) : Low (above d) (below d) (frac (above d) (below d)) := by
  obtain ⟨h1, h2⟩ := num_parts h
  exact ⟨_, _, 1, by decide, (Int.mul_one _).symm, (Int.mul_one _).symm, h1, h2, rfl⟩
/-- is it in the one form -/
def isOne : Da → Bool
  | .int _ => true
  | .tup l => isPair l
  | _ => false
theorem isOne_num {d : Da} (h : isOne d = true) : isNum d = true := by
  cases d with
  | int i => rfl
  | tup l =>
    have h' : isPair l = true := h
    simpa [isNum, isN, isS, items] using h'
  | _ => cases h
theorem isOne_frac {d : Da} (h : isOne d = true) : d = frac (above d) (below d) := by
  cases d with
  | int i => rfl
  | tup l =>
    match l, h with
    | [.int a, .int b], h =>
      have hl' : (decide (2 ≤ b) && decide (Nat.gcd a.natAbs b.natAbs = 1)) = true := h
      rw [Bool.and_eq_true] at hl'
      have h2 := of_decide_eq_true hl'.1
      show Da.tup [.int a, .int b] = if b = 1 then .int a else .tup [.int a, .int b]
      rw [if_neg (by omega)]
  | _ => cases h
theorem Low.one {a b : Int} {d : Da} (h : Low a b d) : isOne d = true := by
  obtain ⟨p, q, g, g0, rfl, rfl, q0, co, rfl⟩ := h
  have e := frac_num q0 co
  unfold frac at e ⊢
  split
  · rfl
  · rename_i n
    rw [if_neg n] at e
    rw [isOne]
    simpa [isNum, isN, isS, items] using e
/-- the values that a program makes of it -/
theorem low_quot {a b g : Int} (hg : g ≠ 0) (ha : g ∣ a) (hb : g ∣ b) : a = a.fdiv g * g ∧ b = b.fdiv g * g := by
  rw [Int.fdiv_eq_ediv_of_dvd ha, Int.fdiv_eq_ediv_of_dvd hb]
  exact ⟨(Int.ediv_mul_cancel ha).symm, (Int.ediv_mul_cancel hb).symm⟩
/-- the number that the two quotients by the signed divisor make -/
theorem low_of {a b g : Int} (hb : b ≠ 0) (hg : g = if b < 0 then -((Nat.gcd a.natAbs b.natAbs : Nat) : Int) else ((Nat.gcd a.natAbs b.natAbs : Nat) : Int)) :
    g ≠ 0 ∧ 0 < b.fdiv g ∧ Low a b (frac (a.fdiv g) (b.fdiv g)) ∧ (b = g ↔ b.fdiv g = 1) ∧ g.natAbs ≤ b.natAbs := by
  have gp : 0 < Nat.gcd a.natAbs b.natAbs := Nat.gcd_pos_of_pos_right _ (by omega)
  have gn : g.natAbs = Nat.gcd a.natAbs b.natAbs := by
    rw [hg]
    split
    · rw [Int.natAbs_neg, Int.natAbs_natCast]
    · rw [Int.natAbs_natCast]
  have g0 : g ≠ 0 := by omega
  have d1 : g ∣ a := Int.natAbs_dvd_natAbs.mp (by rw [gn]; exact Nat.gcd_dvd_left _ _)
  have d2 : g ∣ b := Int.natAbs_dvd_natAbs.mp (by rw [gn]; exact Nat.gcd_dvd_right _ _)
  obtain ⟨e1, e2⟩ := low_quot g0 d1 d2
  have co : Nat.gcd (a.fdiv g).natAbs (b.fdiv g).natAbs = 1 := by
    have c := Nat.coprime_div_gcd_div_gcd gp
    have f1 : a.natAbs / Nat.gcd a.natAbs b.natAbs = (a.fdiv g).natAbs := by
      have : a.natAbs = (a.fdiv g).natAbs * g.natAbs := by rw [← Int.natAbs_mul, ← e1]
      rw [← gn, this, Nat.mul_div_cancel _ (by omega)]
    have f2 : b.natAbs / Nat.gcd a.natAbs b.natAbs = (b.fdiv g).natAbs := by
      have : b.natAbs = (b.fdiv g).natAbs * g.natAbs := by rw [← Int.natAbs_mul, ← e2]
      rw [← gn, this, Nat.mul_div_cancel _ (by omega)]
    rw [f1, f2] at c
    exact c
  have qp : 0 < b.fdiv g := by
    by_cases hb2 : b < 0
    · have gneg : g < 0 := by rw [hg, if_pos hb2]; omega
      generalize b.fdiv g = q at e2
      rw [e2] at hb2
      by_cases z : 0 < q
      · exact z
      · exact absurd (Int.mul_nonneg_of_nonpos_of_nonpos (by omega : q ≤ 0) (by omega : g ≤ 0)) (by omega)
    · have gpos : 0 < g := by rw [hg, if_neg hb2]; omega
      generalize b.fdiv g = q at e2
      have hb3 : 0 < q * g := by rw [← e2]; omega
      exact Int.pos_of_mul_pos_left hb3 gpos
  refine ⟨g0, qp, ⟨_, _, g, g0, e1, e2, qp, co, rfl⟩, ⟨fun e => ?_, fun e => ?_⟩, ?_⟩
  · have e3 : g = b.fdiv g * g := by rw [← e2, e]
    have e4 : 1 * g = b.fdiv g * g := by rw [Int.one_mul]; exact e3
    exact (Int.eq_of_mul_eq_mul_right g0 e4).symm
  · rw [e, Int.one_mul] at e2
    exact e2
  · rw [gn]
    exact Nat.gcd_le_right _ (by omega)
end Ty

namespace Ty
open PySem PySem.Spec PyProof.Rows L2
/-! ### repr of any value without a dict -/
mutual
def pd : Da → PyData
  | .non => .none
  | .bl b => .bool b
  | .int i => .int i
  | .str x => .str x
  | .tup l => .tuple (pdA l)
  | .lst l => .list (pdA l)
  | .dic => .dict []
def pdA : List Da → List PyData
  | [] => []
  | d :: l => pd d :: pdA l
end
mutual
/-- more than the text is long -/
def wt : Da → Nat
  | .int _ => 1930
  | .str x => (reprText x).length
  | .tup l => wtA l + 10
  | .lst l => wtA l + 10
  | _ => 10
def wtA : List Da → Nat
  | [] => 0
  | d :: l => wt d + 2 + wtA l
end
mutual
/-- its integers have less than 1920 bits, there is no dict -/
def nums : Da → Bool
  | .int i => decide (i.natAbs.log2 < 1920)
  | .tup l => numsA l
  | .lst l => numsA l
  | .dic => false
  | _ => true
def numsA : List Da → Bool
  | [] => true
  | d :: l => nums d && numsA l
end
mutual
def dp : Da → Nat
  | .tup l => dpA l + 1
  | .lst l => dpA l + 1
  | .dic => 1
  | _ => 0
def dpA : List Da → Nat
  | [] => 0
  | d :: l => max (dp d) (dpA l)
end
mutual
theorem nums_show : ∀ d : Da, nums d = true → (pd d).showable = true ∧ (pd d).hasDict = false
  | .non, _ => ⟨rfl, rfl⟩
  | .bl _, _ => ⟨rfl, rfl⟩
  | .int i, h => ⟨h, rfl⟩
  | .str _, _ => ⟨rfl, rfl⟩
  | .tup l, h => numsA_show l h
  | .lst l, h => numsA_show l h
  | .dic, h => by cases h
theorem numsA_show : ∀ l : List Da, numsA l = true → PyData.showableAll (pdA l) = true ∧ PyData.hasDictAll (pdA l) = false
  | [], _ => ⟨rfl, rfl⟩
  | d :: l, h => by
    have h' : (nums d && numsA l) = true := h
    rw [Bool.and_eq_true] at h'
    obtain ⟨a1, a2⟩ := nums_show d h'.1
    obtain ⟨b1, b2⟩ := numsA_show l h'.2
    constructor
    · show (PyData.showable (pd d) && PyData.showableAll (pdA l)) = true
      rw [a1, b1]
      rfl
    · show (PyData.hasDict (pd d) || PyData.hasDictAll (pdA l)) = false
      rw [a2, b2]
      rfl
end
mutual
theorem dp_eq : ∀ d : Da, PyData.depth (pd d) = dp d
  | .non => rfl
  | .bl _ => rfl
  | .int _ => rfl
  | .str _ => rfl
  | .tup l => by
    show PyData.depthAll (pdA l) + 1 = dpA l + 1
    rw [dpA_eq l]
  | .lst l => by
    show PyData.depthAll (pdA l) + 1 = dpA l + 1
    rw [dpA_eq l]
  | .dic => rfl
theorem dpA_eq : ∀ l : List Da, PyData.depthAll (pdA l) = dpA l
  | [] => rfl
  | d :: l => by
    show max (PyData.depth (pd d)) (PyData.depthAll (pdA l)) = max (dp d) (dpA l)
    rw [dp_eq d, dpA_eq l]
end
theorem wtA_sum : ∀ l : List Da, (∀ d ∈ l, (PyData.shown (pd d)).length ≤ wt d) → ((PyData.shownAll (pdA l)).map (·.length)).sum + 2 * (PyData.shownAll (pdA l)).length ≤ wtA l
  | [], _ => Nat.le_refl _
  | d :: l, h => by
    have h1 := h d List.mem_cons_self
    have h2 := wtA_sum l fun e he => h e (List.mem_cons_of_mem _ he)
    show ((PyData.shown (pd d) :: PyData.shownAll (pdA l)).map (·.length)).sum + 2 * (PyData.shown (pd d) :: PyData.shownAll (pdA l)).length ≤ wt d + 2 + wtA l
    rw [List.map_cons, List.sum_cons, List.length_cons]
    omega
mutual
theorem shown_wt : ∀ d : Da, nums d = true → (PyData.shown (pd d)).length ≤ wt d
  | .non, _ => by show (PyData.shown .none).length ≤ 10; decide +kernel
  | .bl b, _ => by
    cases b
    · show (PyData.shown (.bool false)).length ≤ 10; decide +kernel
    · show (PyData.shown (.bool true)).length ≤ 10; decide +kernel
  | .int i, h => by
    have h1 := PySem.int_text_length_le (a := i) (k := 1920) (by decide) (of_decide_eq_true h)
    show (PySem.Str.ofString (toString i)).length ≤ 1930
    rw [PySem.ofString_length]
    omega
  | .str x, _ => Nat.le_refl _
  | .tup l, h => by
    have h1 := wtA_sum l (shown_wtA l h)
    have h2 := tupleText_len_le (PyData.shownAll (pdA l))
    show (tupleText (PyData.shownAll (pdA l))).length ≤ wtA l + 10
    omega
  | .lst l, h => by
    have h1 := wtA_sum l (shown_wtA l h)
    have h2 := listText_len_le (PyData.shownAll (pdA l))
    show (listText (PyData.shownAll (pdA l))).length ≤ wtA l + 10
    omega
  | .dic, h => by cases h
theorem shown_wtA : ∀ l : List Da, numsA l = true → ∀ d ∈ l, (PyData.shown (pd d)).length ≤ wt d
  | [], _, d, hd => by cases hd
  | e :: l, h, d, hd => by
    have h' : (nums e && numsA l) = true := h
    rw [Bool.and_eq_true] at h'
    cases hd with
    | head => exact shown_wt e h'.1
    | tail _ hd => exact shown_wtA l h'.2 d hd
end
def okr (d : Da) : Bool := nums d && (decide (dp d ≤ 60) && decide (wt d ≤ 16000000))
mutual
theorem Is.dp {K : PySem.W.Frag} {H : Hp} : ∀ (d : Da) (v : V), Is H v d → nums d = true → Dp K H v (pd d)
  | .non, _, h, _ => by cases h; exact .non
  | .bl b, _, h, _ => by cases h; exact .bl b
  | .int i, _, h, _ => by cases h; exact .int i
  | .str x, _, h, _ => by cases h; exact .str x
  | .tup l, _, h, n => by
    cases h with
    | tup e h => exact .tup (.inl (.inl e)) (IsAll.dp l _ h n)
  | .lst l, _, h, n => by
    cases h with
    | lst e h => exact .lst (.inl (.inl e)) (IsAll.dp l _ h n)
  | .dic, _, _, n => by cases n
theorem IsAll.dp {K : PySem.W.Frag} {H : Hp} : ∀ (l : List Da) (vs : List V), IsAll H vs l → numsA l = true → DpAll K H vs (pdA l)
  | [], _, h, _ => by cases h; exact .nil
  | d :: l, _, h, n => by
    have h' : (nums d && numsA l) = true := n
    rw [Bool.and_eq_true] at h'
    cases h with
    | cons h t => exact .cons (Is.dp d _ h h'.1) (IsAll.dp l _ t h'.2)
end
section
variable {X : Cx}
/-- repr(x) -/
theorem call_reprD (hu : X.A.units + 64 < cLine) (hg : X.A.guards = some []) : CallR X (.builtin "repr") (fun xs H Q => ∃ v d, xs = [v] ∧ Is H v d ∧ okr d = true ∧ Q (.str (pd d).shown) H) := by
  intro pins s σ H xs us Q I r h
  obtain ⟨v, d, rfl, hd, ok, q⟩ := h
  obtain ⟨u, rfl, ru⟩ := vals1 r
  unfold okr at ok
  rw [Bool.and_eq_true, Bool.and_eq_true] at ok
  have h1 := ok.1
  have h2 := of_decide_eq_true ok.2.1
  have h3 := of_decide_eq_true ok.2.2
  obtain ⟨s1, s2⟩ := nums_show d h1
  have sz := shown_wt d h1
  have line : (PyData.shown (pd d)).length ≤ sizeLine := Nat.le_trans sz (Nat.le_trans h3 (by decide))
  have fin : ∀ {t : Tok} {s' : Shared}, Inv X pins σ H s' → EP X pins σ Q (.str (pd d).shown t) s' := fun {t s'} I' => ⟨.str (pd d).shown, H, I', ⟨t, rfl⟩, q⟩
  have rr : ∀ {a : Addr}, u = .ref a → Dp X.K H v (pd d) → wpAny (model X.prog X.w) X.A (PySem.call (.builtin "repr") [u]) (EP X pins σ Q) X.xe s := fun {a} e D => by
    subst e
    obtain ⟨as, rr⟩ := Dp.reads I (pd d) _ _ D ru
    refine repr_of_reads' rr s1 (fun z => by rw [s2] at z; cases z) hg (by rw [dp_eq]; omega) (fun _ _ e => e) (fun h' u tk hk => ?_) line
    exact fin (I.kept hk)
  have D := Is.dp (K := X.K) d v hd h1
  cases hd with
  | non =>
    cases ru
    exact PySem.P.repr_of_none (fin (I.tok _))
  | bl b =>
    cases ru
    exact PySem.P.repr_of_bool (fin (I.tok _))
  | int i =>
    obtain ⟨t, rfl⟩ := ru
    exact PySem.P.repr_of_int (of_decide_eq_true h1) (fin (I.tok _))
  | str x =>
    obtain ⟨t, rfl⟩ := ru
    exact PySem.P.repr_of_str (fin (I.tok _)) line
  | tup e hx => exact rr (show u = _ from ru) D
  | lst e hx => exact rr (show u = _ from ru) D
  | dic e => cases h1
end
/-! ### what is new -/
/-- all that v is made of has been made since H -/
def New (H H' : Hp) (v : V) (d : Da) : Prop := ∀ S, Live S H → Is (mn S H') v d
section
variable {H H1 H2 : Hp} {v : V} {d : Da}
theorem New.is (h : New H H1 v d) : Is H1 v d := (h (fun _ => false) (fun _ z => by cases z)).up mn_same
theorem New.up (h : New H H1 v d) (s : Same H1 H2) : New H H2 v d := fun S l => (h S l).up (Same.less s)
theorem New.from (h : New H1 H2 v d) (s : Same H H1) : New H H2 v d := fun S l => h S (l.more s)
theorem New.int {i : Int} : New H H1 (.int i) (.int i) := fun _ _ => .int i
theorem New.bl {b : Bool} : New H H1 (.bl b) (.bl b) := fun _ _ => .bl b
theorem New.str {x : Str} : New H H1 (.str x) (.str x) := fun _ _ => .str x
theorem New.tup2 {p : Addr} {v w : V} {d e : Da} (hp : H p = none) (e1 : H1 p = some (.tup [v, w])) (a : New H H1 v d) (b : New H H1 w e) : New H H1 (.ref p) (.tup [d, e]) := fun S l => by
  refine .tup ?_ (.cons (a S l) (.cons (b S l) .nil))
  rw [mn_at]
  · exact e1
  · cases q : S p with
    | false => rfl
    | true => exact absurd hp (l p q)
end
/-! ### drawing, more -/
section
variable {S : Addr → Bool} {j bk : Addr} {H0 H : Hp} {c c1 c2 n : Nat} {σ : L2.St} {te ta tb : TE}
/-- f(jar, e) -/
theorem dr_reachE {i : Nat} {P : Int → Prop} (h : σ[i]? = some (some (.ref j))) (hm : Dr S j bk H0 c σ te (fun d => ∃ m, d = .int m ∧ P m)) (hP : ∀ m, P m → 0 < m ∧ m.natAbs < 2 ^ 8000) :
    Dr S j bk H0 (c + 1) σ (tCall spReach [] E0 (tCons (tVar i) (tCons te tNil))) (fun d => ∃ r, d = .int r ∧ ∃ m, P m ∧ 0 ≤ r ∧ r < m) := fun H n Q kp lv J hn k =>
  ⟨_, h, hm H n _ kp lv J (by omega) fun v d H1 k1 l1 J1 i1 p1 => by
    obtain ⟨m, rfl, pm⟩ := p1
    cases i1
    exact ⟨j, bk, m, n + c, rfl, J1, by omega, (hP m pm).1, (hP m pm).2, fun r H' k2 J2 h0 h1 => k _ _ H' (k1.trans k2) (l1.up k2 J2) (by rwa [Nat.add_assoc] at J2) (.int r) ⟨r, rfl, m, pm, h0, h1⟩⟩⟩
end
/-! ### numbers -/
def bitsN : Nat := 4000
/-- the parts of a number have less than so many bits -/
def NB (n : Nat) (d : Da) : Prop := (above d).natAbs < 2 ^ n ∧ (below d).natAbs < 2 ^ n
theorem NB.more {n m : Nat} {d : Da} (h : NB n d) (l : n ≤ m) : NB m d := ⟨Nat.lt_of_lt_of_le h.1 (Nat.pow_le_pow_right (by decide) l), Nat.lt_of_lt_of_le h.2 (Nat.pow_le_pow_right (by decide) l)⟩
/-- two numbers that can be reckoned together -/
def Fit (d e : Da) : Prop := ∃ m n, 0 < m ∧ 0 < n ∧ m + n ≤ 8900 ∧ NB m d ∧ NB n e
theorem fit_of {d e : Da} (h : NB bitsN d ∧ NB bitsN e) : Fit d e := ⟨bitsN, bitsN, by decide, by decide, by decide, h.1, h.2⟩
/-- a / b in its one form, made new -/
def spNo : Sp := fun vs H Q _ => ∃ a b : Int, vs = [.int a, .int b] ∧ b ≠ 0 ∧ b.natAbs < 2 ^ 8900 ∧ ∀ v d H', Same H H' → New H H' v d → Low a b d → Q v H'
/-- what a def of numbers gives -/
def spOn (F : Da → Da → Prop) : Sp := fun vs H Q _ => ∃ v d, vs = [v] ∧ Is H v d ∧ isNum d = true ∧ NB 8900 d ∧ ∀ w r H', Same H H' → New H H' w r → F d r → Q w H'
def spOn2 (C : Da → Da → Prop) (F : Da → Da → Da → Prop) : Sp := fun vs H Q _ => ∃ u v d e, vs = [u, v] ∧ Is H u d ∧ Is H v e ∧ isNum d = true ∧ isNum e = true ∧ Fit d e ∧ C d e ∧ ∀ w r H', Same H H' → New H H' w r → F d e r → Q w H'
def CT (_ _ : Da) : Prop := True
def fSum (d e r : Da) : Prop := Low (above d * below e + above e * below d) (below d * below e) r
def fDiff (d e r : Da) : Prop := Low (above d * below e - above e * below d) (below d * below e) r
def fProd (d e r : Da) : Prop := Low (above d * above e) (below d * below e) r
def fQuot (d e r : Da) : Prop := Low (above d * below e) (below d * above e) r
def fLess (d e r : Da) : Prop := r = .bl (decide (above d * below e < above e * below d))
def fNeg (d r : Da) : Prop := Low (-above d) (below d) r
def sgn (i : Int) : Int := (if decide (0 < i) = true then (1 : Int) else 0) - if decide (i < 0) = true then (1 : Int) else 0
def fSign (d r : Da) : Prop := r = .int (sgn (above d))
theorem Low.nb {a b : Int} {d : Da} {n : Nat} (h : Low a b d) (ha : a.natAbs < 2 ^ n) (hb : b.natAbs < 2 ^ n) : NB n d := ⟨Nat.lt_of_le_of_lt h.num.2.2.2.1 ha, Nat.lt_of_le_of_lt h.num.2.2.2.2 hb⟩
/-- the number that comes of a number that stands for a fraction -/
theorem quot_of {a b p q u v : Int} {f r : Da} (h : Low p q f) (hr : Low (a * above f) (b * below f) r) (hb : b ≠ 0) (hq : q ≠ 0) (hu : u = a * p) (hv : v = b * q) : Low u v r := by
  obtain ⟨d, hd⟩ := Low.at u v (by rw [hv]; exact Int.mul_ne_zero hb hq)
  have e : r = d := hr.uniq hd (by
    rw [hu, hv]
    have e1 := h.num.2.2.1
    calc a * above f * (b * q) = a * b * (above f * q) := by rw [Int.mul_assoc, Int.mul_left_comm (above f) b q, ← Int.mul_assoc a]
      _ = a * b * (p * below f) := by rw [e1]
      _ = a * p * (b * below f) := by rw [Int.mul_assoc, Int.mul_left_comm b p, ← Int.mul_assoc a])
  rw [e]
  exact hd
theorem diff_of {a b c e : Int} {f r : Da} (h : Low (-c) e f) (hr : Low (a * below f + above f * b) (b * below f) r) (hb : b ≠ 0) (he : e ≠ 0) : Low (a * e - c * b) (b * e) r := by
  obtain ⟨d, hd⟩ := Low.at (a * e - c * b) (b * e) (Int.mul_ne_zero hb he)
  have q : r = d := hr.uniq hd (by
    have e1 := h.num.2.2.1
    have e2 : (a * below f + above f * b) * (b * e) = a * below f * (b * e) + above f * e * (b * b) := by
      rw [Int.add_mul]
      congr 1
      rw [Int.mul_assoc, Int.mul_assoc, Int.mul_left_comm b b e, Int.mul_comm e, Int.mul_comm (b * b) e]
      simp only [Int.mul_assoc, Int.mul_comm, Int.mul_left_comm]
    rw [e2, e1, Int.sub_mul]
    simp only [Int.mul_assoc, Int.mul_comm, Int.mul_left_comm, Int.neg_mul, Int.mul_neg, Int.sub_eq_add_neg])
  rw [q]
  exact hd
end Ty
namespace Ty
open PySem PySem.Spec PyProof.Rows L2
/-- a demand on a value -/
def spNeed (f : Da → Bool) (C : Addr) : Sp := fun vs H Q E => ∃ v p d, vs = [v, p] ∧ Is H v d ∧ (f d = true → ∀ H', Same H H' → Q .non H') ∧ (f d = false → Out1 C "part" p H E)
def spBoth (C : Addr) : Sp := fun vs H Q E => ∃ u v d e, vs = [u, v] ∧ Is H u d ∧ Is H v e ∧ (isNum d = false → Out1 C "part" (.str "one") H E) ∧ (isNum d = true → isNum e = false → Out1 C "part" (.str "other") H E) ∧
  (isNum d = true → isNum e = true → ∀ H', Same H H' → Q .non H')
/-- two numbers reckoned -/
def spBin (C : Addr) (G : Da → Da → Prop) (F : Da → Da → Da → Prop) : Sp := fun vs H Q E => ∃ u v d e, vs = [u, v] ∧ Is H u d ∧ Is H v e ∧ (isNum d = true → isNum e = true → Fit d e) ∧
  (isNum d = false → Out1 C "part" (.str "one") H E) ∧ (isNum d = true → isNum e = false → Out1 C "part" (.str "other") H E) ∧
  (isNum d = true → isNum e = true → G d e → ∀ w r H', Same H H' → New H H' w r → F d e r → Q w H')
def spQuo (C C2 : Addr) : Sp := fun vs H Q E => ∃ u v d e, vs = [u, v] ∧ Is H u d ∧ Is H v e ∧ (isNum d = true → isNum e = true → Fit d e) ∧
  (isNum d = false → Out1 C "part" (.str "one") H E) ∧ (isNum d = true → isNum e = false → Out1 C "part" (.str "other") H E) ∧ (isNum d = true → isNum e = true → above e = 0 → Out1 C2 "part" (.str "other") H E) ∧
  (isNum d = true → isNum e = true → above e ≠ 0 → ∀ w r H', Same H H' → New H H' w r → fQuot d e r → Q w H')
def spSgn (C : Addr) : Sp := fun vs H Q E => ∃ v d, vs = [v] ∧ Is H v d ∧ (isNum d = true → NB 8900 d) ∧ (isNum d = false → Out1 C "part" (.str "number") H E) ∧ (isNum d = true → ∀ w r H', Same H H' → New H H' w r → fSign d r → Q w H')
theorem sgn_zero {i : Int} : sgn i = 0 ↔ i = 0 := by
  unfold sgn
  by_cases h1 : 0 < i
  · rw [decide_eq_true h1, decide_eq_false (by omega : ¬ i < 0)]
    constructor
    · intro z; cases z
    · intro z; omega
  · by_cases h2 : i < 0
    · rw [decide_eq_false h1, decide_eq_true h2]
      constructor
      · intro z; cases z
      · intro z; omega
    · rw [decide_eq_false h1, decide_eq_false h2]
      constructor
      · intro z; omega
      · intro z; rfl
end Ty

namespace Ty
open PySem PySem.Spec PyProof.Rows L2
section
variable {S : Addr → Bool} {j bk : Addr} {H0 H : Hp} {c c1 c2 c3 n : Nat} {σ : L2.St} {te ta tb tc : TE}
/-- a / b in its one form -/
theorem dr_low {Pa Pb : Int → Prop} (ha : Dr S j bk H0 c1 σ ta (fun d => ∃ i, d = .int i ∧ Pa i)) (hb : Dr S j bk H0 c2 σ tb (fun d => ∃ i, d = .int i ∧ Pb i)) (hp : ∀ b, Pb b → b ≠ 0 ∧ b.natAbs < 2 ^ 8900) :
    Dr S j bk H0 (c1 + c2) σ (tCall spNo [] E0 (tCons ta (tCons tb tNil))) (fun d => ∃ a b, Pa a ∧ Pb b ∧ Low a b d) := fun H n Q kp lv J hn k =>
  ha H n _ kp lv J (by omega) fun v d H1 k1 l1 J1 h1 p1 => hb H1 (n + c1) _ (kp.trans k1) l1 J1 (by omega) fun u e H2 k2 l2 J2 h2 p2 => by
    obtain ⟨a, rfl, pa⟩ := p1
    obtain ⟨b, rfl, pb⟩ := p2
    cases h1
    cases h2
    exact ⟨a, b, rfl, (hp b pb).1, (hp b pb).2, fun w r H3 s3 n3 l3 => k w r H3 ((k1.trans k2).trans (Same.keep s3)) (l2.more s3) ((by rwa [Nat.add_assoc] at J2 : Jar j bk H2 (n + (c1 + c2))).up s3) (n3 S l2) ⟨a, b, pa, pb, l3⟩⟩
/-- one of a list that is made -/
theorem dr_pickV {i : Nat} {P2 : List Da → Prop} (hj : S j = true) (h : σ[i]? = some (some (.ref j))) (hl : Dr S j bk H0 c σ te (fun d => ∃ ds, d = .lst ds ∧ P2 ds)) (hp : ∀ ds, P2 ds → 0 < ds.length ∧ ds.length ≤ 1000) :
    Dr S j bk H0 (c + 1) σ (tCall spPick [] E0 (tCons (tVar i) (tCons te tNil))) (fun d => ∃ ds, P2 ds ∧ d ∈ ds) := fun H n Q kp lv J hn k =>
  ⟨_, h, hl H n _ kp lv J (by omega) fun v d H1 k1 l1 J1 h1 p1 => by
    obtain ⟨ds, rfl, p2⟩ := p1
    cases h1 with
    | @lst a xs _ e hx =>
      obtain ⟨e1, e2⟩ := mn_of e
      have aj : a ≠ j := fun z => by rw [z, hj] at e1; cases e1
      have hl := hp ds p2
      have hl2 := hx.length
      refine ⟨j, bk, a, xs, n + c, rfl, J1, by omega, e2, aj, by omega, by omega, fun v H' k2 J2 hv => ?_⟩
      obtain ⟨i, hi⟩ := List.getElem?_of_mem hv
      obtain ⟨d, hd, hi2⟩ := hx.at hi
      exact k v d H' (k1.trans k2) (l1.up k2 J2) (by rwa [Nat.add_assoc] at J2) (hi2.up (k2.less hj)) ⟨ds, p2, List.mem_of_getElem? hd⟩⟩
theorem dr_cat {d1 d2 : List Da} (hj : S j = true) (ha : Dr S j bk H0 0 σ ta (· = .lst d1)) (hb : Dr S j bk H0 0 σ tb (· = .lst d2)) (hl : d1.length + d2.length ≤ 1000) : Dr S j bk H0 0 σ (tOp rCat ta tb) (· = .lst (d1 ++ d2)) := fun H n Q kp lv J hn k =>
  ha H n _ kp lv J hn fun v d H1 k1 l1 J1 h1 p1 => hb H1 n _ (kp.trans k1) l1 J1 hn fun u e H2 k2 l2 J2 h2 p2 => by
    subst p1
    subst p2
    have h1' := h1.up (k2.less hj)
    cases h1' with
    | @lst a xs _ e1 x1 =>
      cases h2 with
      | @lst b ys _ e2 x2 =>
        refine ⟨a, b, xs, ys, rfl, rfl, (mn_of e1).2, (mn_of e2).2, ?_, fun p hp => ?_⟩
        · rw [x1.length, x2.length]
          exact Nat.le_trans hl (by decide)
        · refine k _ _ _ ((k1.trans k2).trans (Same.keep (Same.new hp))) (l2.more (Same.new hp)) (J2.up (Same.new hp)) (.lst (mn_put l2 hp) ?_) rfl
          have app : ∀ {xs ys : List V} {d1 d2 : List Da} {G : Hp}, IsAll G xs d1 → IsAll G ys d2 → IsAll G (xs ++ ys) (d1 ++ d2) := by
            intro xs ys d1
            induction d1 generalizing xs with
            | nil => intro d2 G q1 q2; cases q1; exact q2
            | cons d ds ih => intro d2 G q1 q2; cases q1 with | cons q1 q3 => exact .cons q1 (ih q3 q2)
          exact app (x1.up (Same.less (Same.new hp))) (x2.up (Same.less (Same.new hp)))
/-- three at once -/
theorem dr_par3 {i l m : Nat} {tz : TS} {D : Ends} {Pa Pb Pc : Da → Prop} (hj : S j = true) (ha : Dr S j bk H c1 σ ta Pa) (hb : Dr S j bk H c2 σ tb Pb) (hc : Dr S j bk H c3 σ tc Pc) (lv : Live S H) (J : Jar j bk H n) (hn : n + (c1 + c2 + c3) ≤ 100000)
    (k : ∀ v d u e w f H', Keep j H H' → Live S H' → Jar j bk H' (n + (c1 + c2 + c3)) → Is (mn S H') v d → Pa d → Is (mn S H') u e → Pb e → Is (mn S H') w f → Pc f → tz D (((σ.set i (some v)).set l (some u)).set m (some w)) H') : tSeq (tPar3 i l m (tCons ta (tCons tb (tCons tc tNil)))) tz D σ H :=
  ha H n _ (Keep.refl _) lv J (by omega) fun v d H1 k1 l1 J1 h1 p1 => hb H1 (n + c1) _ k1 l1 J1 (by omega) fun u e H2 k2 l2 J2 h2 p2 => hc H2 (n + c1 + c2) _ (k1.trans k2) l2 J2 (by omega) fun w f H3 k3 l3 J3 h3 p3 =>
    ⟨v, u, w, rfl, k v d u e w f H3 ((k1.trans k2).trans k3) l3 (by rwa [Nat.add_assoc, Nat.add_assoc, ← Nat.add_assoc c1] at J3) (h1.up ((k2.trans k3).less hj)) p1 (h2.up (k3.less hj)) p2 h3 p3⟩
end
/-- a number of not too many digits can be shown -/
theorem log2_lt_nat {i : Int} {n : Nat} (h : i.natAbs < 2 ^ n) (h0 : 0 < n) : i.natAbs.log2 < n := PySem.Flt.log2_lt_of h0 h
theorem num_show {d : Da} (h : isNum d = true) (b : NB 1900 d) : nums d = true ∧ dp d ≤ 1 ∧ wt d ≤ 4000 := by
  have two : ∀ l, isPair l = true → ∃ a b : Int, l = [.int a, .int b] := fun l hl => by
    match l, hl with
    | [.int a, .int b], hl => exact ⟨a, b, rfl⟩
  have lg : ∀ {i : Int}, i.natAbs < 2 ^ 1900 → nums (.int i) = true := fun {i} h => decide_eq_true (Nat.lt_of_lt_of_le (log2_lt_nat h (by decide)) (by decide))
  cases d with
  | int i => exact ⟨lg b.1, by show 0 ≤ 1; decide, by show 1930 ≤ 4000; decide⟩
  | tup l =>
    obtain ⟨x, y, rfl⟩ := two l (by simpa [isNum, isN, isS, items] using h)
    refine ⟨?_, by show 1 ≤ 1; decide, by show 1930 + 2 + (1930 + 2 + 0) + 10 ≤ 4000; decide⟩
    show (nums (.int x) && (nums (.int y) && true)) = true
    rw [(lg b.1 : nums (.int x) = true), (lg b.2 : nums (.int y) = true)]
    rfl
  | lst l =>
    obtain ⟨x, y, rfl⟩ := two l (by simpa [isNum, isN, isS, items] using h)
    refine ⟨?_, by show 1 ≤ 1; decide, by show 1930 + 2 + (1930 + 2 + 0) + 10 ≤ 4000; decide⟩
    show (nums (.int x) && (nums (.int y) && true)) = true
    rw [(lg b.1 : nums (.int x) = true), (lg b.2 : nums (.int y) = true)]
    rfl
  | _ => cases h
theorem num_okr {d : Da} (h : isNum d = true) (b : NB 1900 d) : okr d = true := by
  obtain ⟨h1, h2, h3⟩ := num_show h b
  unfold okr
  rw [h1, decide_eq_true (by omega : dp d ≤ 60), decide_eq_true (by omega : wt d ≤ 16000000)]
  rfl
theorem num_okr2 {d e : Da} (h : isNum d = true) (b : NB 1900 d) (h' : isNum e = true) (b' : NB 1900 e) : okr (.lst [d, e]) = true ∧ okr (.tup [d, e]) = true := by
  obtain ⟨h1, h2, h3⟩ := num_show h b
  obtain ⟨h4, h5, h6⟩ := num_show h' b'
  have e1 : nums (.lst [d, e]) = true := by
    show (nums d && (nums e && true)) = true
    rw [h1, h4]
    rfl
  have e2 : dp (.lst [d, e]) ≤ 60 := by
    show max (dp d) (max (dp e) 0) + 1 ≤ 60
    omega
  have e3 : wt (.lst [d, e]) ≤ 16000000 := by
    show wt d + 2 + (wt e + 2 + 0) + 10 ≤ 16000000
    omega
  constructor
  · unfold okr
    rw [e1, decide_eq_true e2, decide_eq_true e3]
    rfl
  · have q1 : nums (.tup [d, e]) = true := e1
    have q2 : dp (.tup [d, e]) ≤ 60 := e2
    have q3 : wt (.tup [d, e]) ≤ 16000000 := e3
    unfold okr
    rw [q1, decide_eq_true q2, decide_eq_true q3]
    rfl
/-- gcd by rests -/
theorem gcd_step {p o : Int} (p0 : 0 ≤ p) (o0 : 0 < o) : Nat.gcd o.natAbs (p % o).natAbs = Nat.gcd p.natAbs o.natAbs := by
  obtain ⟨p', rfl⟩ := Int.eq_ofNat_of_zero_le p0
  obtain ⟨o', rfl⟩ := Int.eq_ofNat_of_zero_le (Int.le_of_lt o0)
  have e : ((p' : Int) % (o' : Int)).natAbs = p' % o' := by rw [← Int.natCast_emod, Int.natAbs_natCast]
  rw [e, Int.natAbs_natCast, Int.natAbs_natCast, Nat.gcd_comm, ← Nat.gcd_rec, Nat.gcd_comm]
def spCommon : Sp := fun vs H Q _ => ∃ a b : Int, vs = [.int a, .int b] ∧ Q (.int ((Nat.gcd a.natAbs b.natAbs : Nat) : Int)) H
/-- the five words, and what comes -/
def res (w : Str) (a b c e : Int) (r : Da) : Prop :=
  (w = "plus" ∧ Low (a * e + c * b) (b * e) r) ∨ (w = "minus" ∧ Low (a * e - c * b) (b * e) r) ∨ (w = "times" ∧ Low (a * c) (b * e) r) ∨ (w = "below" ∧ r = .bl (decide (a * e < c * b))) ∨
  (w = "quotient" ∧ c ≠ 0 ∧ Low (a * e) (b * c) r) ∨ (w = "quotient" ∧ c = 0 ∧ r = .tup [.str "misfit", .str "other"])
theorem res.uniq {w : Str} {a b c e : Int} {r r' : Da} (h : res w a b c e r) (h' : res w a b c e r') : r = r' := by
  rcases h with ⟨rfl, h⟩ | ⟨rfl, h⟩ | ⟨rfl, h⟩ | ⟨rfl, h⟩ | ⟨rfl, hc, h⟩ | ⟨rfl, hc, h⟩ <;> rcases h' with ⟨e', h'⟩ | ⟨e', h'⟩ | ⟨e', h'⟩ | ⟨e', h'⟩ | ⟨e', hc', h'⟩ | ⟨e', hc', h'⟩ <;>
    first
      | exact h.uniq h' rfl
      | exact h.trans h'.symm
      | exact absurd e' (by decide)
      | exact absurd hc hc'
      | exact absurd hc' hc
theorem res.okr {w : Str} {a b c e : Int} {r : Da} {n : Nat} (h : res w a b c e r) (hn : n + n + 1 ≤ 1900) (ha : a.natAbs < 2 ^ n) (hb : b.natAbs < 2 ^ n) (hc : c.natAbs < 2 ^ n) (he : e.natAbs < 2 ^ n) : okr r = true := by
  have m : ∀ {x y : Int}, x.natAbs < 2 ^ n → y.natAbs < 2 ^ n → (x * y).natAbs < 2 ^ (n + n) := fun h1 h2 => wide_lt h1 h2
  have up : ∀ {x : Int}, x.natAbs < 2 ^ (n + n) → x.natAbs < 2 ^ 1900 := fun h => Nat.lt_of_lt_of_le h (Nat.pow_le_pow_right (by decide) (by omega))
  have two : (2 : Nat) ^ (n + n) + 2 ^ (n + n) ≤ 2 ^ 1900 := by
    rw [← Nat.two_mul, ← Nat.pow_succ']
    exact Nat.pow_le_pow_right (by decide) hn
  rcases h with ⟨rfl, h⟩ | ⟨rfl, h⟩ | ⟨rfl, h⟩ | ⟨rfl, rfl⟩ | ⟨rfl, _, h⟩ | ⟨rfl, _, rfl⟩
  · have h1 := m ha he
    have h2 := m hc hb
    exact num_okr h.num.1 (h.nb (by omega) (up (m hb he)))
  · have h1 := m ha he
    have h2 := m hc hb
    exact num_okr h.num.1 (h.nb (by omega) (up (m hb he)))
  · exact num_okr h.num.1 (h.nb (up (m ha hc)) (up (m hb he)))
  · generalize decide (a * e < c * b) = k
    cases k <;> decide
  · exact num_okr h.num.1 (h.nb (up (m ha he)) (up (m hb hc)))
  · decide +kernel
def W5 : List Str := ["plus", "minus", "times", "below", "quotient"]
end Ty
namespace Ty
open PySem PySem.Spec PyProof.Rows L2
def spNumber : Sp := fun vs H Q _ => ∃ (S : Addr → Bool) (j bk : Addr) (n : Nat), vs = [.ref j] ∧ S j = true ∧ Live S H ∧ Jar j bk H n ∧ n + 5 ≤ 100000 ∧
  ∀ v d H', Keep j H H' → Live S H' → Jar j bk H' (n + 5) → Is (mn S H') v d → isOne d = true → NB 140 d → Q v H'
def spTold : Sp := fun vs H Q _ => ∃ (S : Addr → Bool) (j bk : Addr) (n : Nat) (v : V) (d : Da), vs = [.ref j, v] ∧ S j = true ∧ Live S H ∧ Jar j bk H n ∧ n + 1 ≤ 100000 ∧ Is (mn S H) v d ∧ isOne d = true ∧
  ∀ w f H', Keep j H H' → Live S H' → Jar j bk H' (n + 1) → Is (mn S H') w f → isNum f = true → above f = above d → below f = below d → Q w H'
end Ty
namespace Ty
open PySem PySem.Spec PyProof.Rows L2
def spPairN : Sp := fun vs H Q _ => ∃ (S : Addr → Bool) (j bk : Addr) (n : Nat), vs = [.ref j] ∧ S j = true ∧ Live S H ∧ Jar j bk H n ∧ n + 12 ≤ 100000 ∧
  ∀ p v u d e H', Keep j H H' → Live S H' → Jar j bk H' (n + 12) → H' p = some (.tup [v, u]) → Is (mn S H') v d → Is (mn S H') u e → isOne d = true → isOne e = true → NB 140 d → NB 140 e → Q (.ref p) H'
/-- within the pair's making -/
def PairI (S : Addr → Bool) (j bk : Addr) (H : Hp) (v : V) (d : Da) (way : Int) (m : Nat) : L2.St → Hp → Prop := fun σ' H' => ∃ u e, σ' = [some (.ref j), some v, some u, some (.int way), some (.int (above d)), some (.int (below d))] ∧
  Keep j H H' ∧ Live S H' ∧ Jar j bk H' m ∧ Is (mn S H') v d ∧ Is (mn S H') u e ∧ isOne e = true ∧ NB 140 e
def spDone (C C2 : Addr) : Sp := fun vs H Q E => ∃ w u v d e, vs = [.str w, u, v] ∧ w ∈ W5 ∧ Is H u d ∧ Is H v e ∧ (isNum d = true → isNum e = true → NB bitsN d ∧ NB bitsN e) ∧
  (isNum d = false → Out1 C "part" (.str "one") H E) ∧ (isNum d = true → isNum e = false → Out1 C "part" (.str "other") H E) ∧ (isNum d = true → isNum e = true → w = "quotient" → above e = 0 → Out1 C2 "part" (.str "other") H E) ∧
  (isNum d = true → isNum e = true → ∀ x r H', Same H H' → New H H' x r → res w (above d) (below d) (above e) (below e) r → Q x H')
def spHeard : Sp := fun vs H Q _ => ∃ w u v d e, vs = [.str w, u, v] ∧ w ∈ W5 ∧ Is H u d ∧ Is H v e ∧ (isNum d = true → isNum e = true → NB bitsN d ∧ NB bitsN e) ∧
  (isNum d = false → ∀ x H', Same H H' → Is H' x (.tup [.str "number", .str "one"]) → Q x H') ∧ (isNum d = true → isNum e = false → ∀ x H', Same H H' → Is H' x (.tup [.str "number", .str "other"]) → Q x H') ∧
  (isNum d = true → isNum e = true → ∀ x r H', Same H H' → Is H' x r → res w (above d) (below d) (above e) (below e) r → Q x H')
def spDue : Sp := fun vs H Q _ => ∃ w u v d e, vs = [.str w, u, v] ∧ w ∈ W5 ∧ Is H u d ∧ Is H v e ∧ isNum d = true ∧ isNum e = true ∧ NB bitsN d ∧ NB bitsN e ∧
  ∀ x r H', Same H H' → Is H' x r → res w (above d) (below d) (above e) (below e) r → Q x H'
def spOdd : Sp := fun vs H Q _ => ∃ (S : Addr → Bool) (j bk : Addr) (n : Nat) (v : V) (d : Da), vs = [.ref j, v] ∧ S j = true ∧ Live S H ∧ Jar j bk H n ∧ n + 2 ≤ 100000 ∧ Is (mn S H) v d ∧ isOne d = true ∧ NB 140 d ∧
  ∀ w f H', Keep j H H' → Live S H' → Jar j bk H' (n + 2) → Is (mn S H') w f → isNum f = false → Q w H'
theorem str_ne {a b : Str} (h : a ≠ b) : ¬ V.str a = V.str b := fun z => h (by injection z)
section
variable {S : Addr → Bool} {j bk : Addr} {H0 H : Hp} {c c1 n : Nat} {σ : L2.St} {te : TE}
theorem dr_number {i : Nat} (hS : S j = true) (h : σ[i]? = some (some (.ref j))) : Dr S j bk H0 5 σ (tCall spNumber [] E0 (tCons (tVar i) tNil)) (fun d => isOne d = true ∧ NB 140 d) := fun H n Q kp lv J hn k =>
  ⟨_, h, S, j, bk, n, rfl, hS, lv, J, hn, fun v d H' k' l' J' h' g1 g2 => k v d H' k' l' J' h' ⟨g1, g2⟩⟩
theorem dr_told {i l : Nat} {v : V} {d : Da} (hS : S j = true) (h : σ[i]? = some (some (.ref j))) (h2 : σ[l]? = some (some v)) (hv : Is (mn S H0) v d) (od : isOne d = true) :
    Dr S j bk H0 1 σ (tCall spTold [] E0 (tCons (tVar i) (tCons (tVar l) tNil))) (fun f => isNum f = true ∧ above f = above d ∧ below f = below d) := fun H n Q kp lv J hn k =>
  ⟨_, h, _, h2, S, j, bk, n, v, d, rfl, hS, lv, J, hn, hv.up (kp.less hS), od, fun w f H' k' l' J' h' g1 g2 g3 => k w f H' k' l' J' h' ⟨g1, g2, g3⟩⟩
theorem dr_odd {i l : Nat} {v : V} {d : Da} (hS : S j = true) (h : σ[i]? = some (some (.ref j))) (h2 : σ[l]? = some (some v)) (hv : Is (mn S H0) v d) (od : isOne d = true) (bd : NB 140 d) :
    Dr S j bk H0 2 σ (tCall spOdd [] E0 (tCons (tVar i) (tCons (tVar l) tNil))) (fun f => isNum f = false) := fun H n Q kp lv J hn k =>
  ⟨_, h, _, h2, S, j, bk, n, v, d, rfl, hS, lv, J, hn, hv.up (kp.less hS), od, bd, fun w f H' k' l' J' h' g1 => k w f H' k' l' J' h' g1⟩
theorem dr_negE {i : Int} (h : Dr S j bk H0 c σ te (· = .int i)) : Dr S j bk H0 c σ (tUn (rU fun i => .int (-i)) te) (· = .int (-i)) := fun H n Q kp lv J hn k =>
  h H n _ kp lv J hn fun v d H1 k1 l1 J1 h1 p1 => by
    subst p1
    cases h1
    exact ⟨i, rfl, k _ _ H1 k1 l1 J1 (.int _) rfl⟩
end
theorem pair_not {a b : Int} {t : Int} (ht : 2 ≤ t) : isNum (.tup [.int (a * t), .int (b * t)]) = false := by
  show (false || (true && (decide (2 ≤ b * t) && decide (Nat.gcd (a * t).natAbs (b * t).natAbs = 1)))) = false
  have e : Nat.gcd (a * t).natAbs (b * t).natAbs ≠ 1 := by
    rw [Int.natAbs_mul, Int.natAbs_mul, Nat.gcd_mul_right]
    intro z
    have := Nat.eq_one_of_mul_eq_one_left z
    omega
  rw [decide_eq_false e]
  cases decide (2 ≤ b * t) <;> rfl
theorem low_not {a b : Int} (hb : b < 2) : isNum (.tup [.int a, .int b]) = false := by
  show (false || (true && (decide (2 ≤ b) && decide (Nat.gcd a.natAbs b.natAbs = 1)))) = false
  rw [decide_eq_false (by omega)]
  rfl
end Ty
namespace Ty
open PySem PySem.Spec PyProof.Rows L2
/-- whether all is right with two numbers -/
def spRight2 : Sp := fun vs H Q _ => ∃ (S : Addr → Bool) (j bk : Addr) (n : Nat) (u v : V) (d e : Da), vs = [.ref j, u, v] ∧ S j = true ∧ Live S H ∧ Jar j bk H n ∧ n + 2 ≤ 100000 ∧ Is (mn S H) u d ∧ Is (mn S H) v e ∧ isOne d = true ∧ isOne e = true ∧ NB 140 d ∧ NB 140 e ∧
  ∀ H', Keep j H H' → Live S H' → Jar j bk H' (n + 2) → Q (.bl true) H'
def spRight1 : Sp := fun vs H Q _ => ∃ (S : Addr → Bool) (j bk : Addr) (n : Nat) (u : V) (d : Da), vs = [.ref j, u] ∧ S j = true ∧ Live S H ∧ Jar j bk H n ∧ n + 4 ≤ 100000 ∧ Is (mn S H) u d ∧ isOne d = true ∧ NB 140 d ∧
  ∀ H', Keep j H H' → Live S H' → Jar j bk H' (n + 4) → Q (.bl true) H'
def spLaw (K : PySem.W.Frag) : Sp := fun vs H Q _ => ∃ (a : Addr) (ns : List Int), vs = [.ref a] ∧ SqL K H a (ns.map V.int) ∧ ns.length ≤ 63 ∧ ∀ H', Q (.bl true) H'
/-- the words, walked -/
def W5v : List V := [.str "plus", .str "minus", .str "times", .str "below", .str "quotient"]
theorem W5_at {i : Nat} {x : V} (h : W5v[i]? = some x) : ∃ w, x = .str w ∧ w ∈ W5 := by
  have m := List.mem_of_getElem? h
  simp only [W5v, List.mem_cons, List.not_mem_nil, or_false] at m
  rcases m with rfl | rfl | rfl | rfl | rfl <;> exact ⟨_, rfl, by simp [W5]⟩
end Ty

namespace Ty
open PySem PySem.Spec PyProof.Rows L2
/-! ### enumerate of a tuple -/
set_option maxHeartbeats 1000000 in
theorem enumT_new (t : Addr) (items : Array Value) : Meets (Builtin.«enumerate.__new__» ⟨[.type "enumerate", .ref t], []⟩) (fun _ R s => s.heap.IsTuple t items ∧
    R (.ok (.ret (.ref (s.heap.push { cls := .type "tuple_iterator", data := .fields #[.ref t, .int 0 0] }).objs.size))) { s with heap := (s.heap.push { cls := .type "tuple_iterator", data := .fields #[.ref t, .int 0 0] }).push { cls := .type "enumerate", data := .fields #[.none, .bool false, .ref s.heap.objs.size, rawInt 0, .none, .none] } }) :=
  .of_wp fun prog w A R s h => by
    obtain ⟨hp, g, d, tk, os⟩ := s
    obtain ⟨h1, h⟩ := h
    have hsub := sub_enumerate
    have q1 : ∀ {A' : Around} {E : Value → Shared → Prop} {Q : Value → Shared → Prop}, Q (.ref hp.objs.size) ⟨hp.push { cls := .type "tuple_iterator", data := .fields #[.ref t, .int 0 0] }, g, d, tk, os⟩ → wpAny (model prog w) A' (pyIter (.ref t)) Q E ⟨hp, g, d, tk, os⟩ :=
      fun q => wpAny_pyIter_tuple h1 q
    wp_walk using q1
    refine wpAny_stack_any fun st => wpAny_pure ?_
    split
    · rename_i c _ _ _ _ _
      cases (c == Value.type "enumerate")
      · wp_walk using q1
        exact ⟨_, rfl, h⟩
      · wp_walk using q1
        exact ⟨_, rfl, h⟩
    · wp_walk using q1
      exact ⟨_, rfl, h⟩
section
variable {prog : Program} {w : World} {A : Around} {E : Value → Shared → Prop} {s : Shared}
theorem call_enumT {t : Addr} {items : Array Value} {Q : Value → Shared → Prop} (hT : s.heap.IsTuple t items)
    (h : ∀ h', IsEnum h' (s.heap.objs.size + 1) s.heap.objs.size 0 .none → h'.IsTupleIter s.heap.objs.size t 0 → (∀ b o, s.heap.get? b = some o → h'.get? b = some o) → Q (.ref (s.heap.objs.size + 1)) { s with heap := h' }) :
    wpAny (model prog w) A (PySem.call (.type "enumerate") [.ref t]) Q E s := by
  refine callType_new F.called_enumerate (by decide) (F.typeCall_enumerate_1 _) (F.newCall_enumerate_1 _) (fun obj => F.args_object_init_2 obj _) F.entry_enumerate_new (enumT_new t items) ⟨hT, ?_⟩
  have hz : (s.heap.push { cls := .type "tuple_iterator", data := .fields #[.ref t, .int 0 0] }).objs.size = s.heap.objs.size + 1 := Heap.size_push ..
  show _ ∧ _
  rw [hz]
  have he : IsEnum ((s.heap.push { cls := .type "tuple_iterator", data := .fields #[.ref t, .int 0 0] }).push { cls := .type "enumerate", data := .fields #[.none, .bool false, .ref s.heap.objs.size, rawInt 0, .none, .none] }) (s.heap.objs.size + 1) s.heap.objs.size 0 .none := by
    have q := Heap.get?_push_size (s.heap.push { cls := .type "tuple_iterator", data := .fields #[.ref t, .int 0 0] }) (o := { cls := .type "enumerate", data := .fields #[.none, .bool false, .ref s.heap.objs.size, rawInt 0, .none, .none] }) rfl
    rw [hz] at q
    exact q
  exact ⟨⟨_, he, rfl⟩, h _ he ⟨_, Heap.get?_push_of_some _ (Heap.get?_push_size _ rfl), rfl, rfl⟩ fun b o x => Heap.get?_push_of_some _ (Heap.get?_push_of_some _ x)⟩
end
theorem drawsT {prog : Program} {w : World} {A : Around} (hh : A.handled = none) (it t : Addr) (hne : t ≠ it) (items : Array Value) :
    Draws prog w A it [it, t] items.size (fun i v => items[i]? = some v) (fun i h => h.IsTupleIter it t i ∧ h.IsTuple t items) where
  live := fun _ _ st => let ⟨o, ho, _⟩ := st.1; ⟨o, ho⟩
  frame := fun _ _ _ st hk => ⟨st.1.at fun o e => hk it (by simp) o e, by
    obtain ⟨o, ho, r⟩ := st.2
    exact ⟨o, hk t (by simp) o ho, r⟩⟩
  item := fun i s Q E hi st hQ => by
    refine RZ.nextOf_tuple_item st.1 st.2 (x := items[i]) (by simp [hi]) fun h' hit' hs' => ?_
    refine hQ _ h' s.toks (by simp [hi]) ⟨hit', ?_⟩ hs'
    obtain ⟨o, ho, r⟩ := st.2
    exact ⟨o, (hs'.2 t hne).trans ho, r⟩
  done := fun s Q E st hE => RZ.nextOf_tuple_end hh st.1 st.2 (by simp) hE
/-- the tuple at a, each item in a new pair -/
def IteT (K : PySem.W.Frag) (a : Addr) : It :=
  ⟨fun i H => ∃ (xs : List V) (x : V), SqT K H a xs ∧ xs[i]? = some x, fun i H v H' => ∃ T x, v = .ref T ∧ H T = none ∧ H' = upd H T (.tup [.int (i : Nat), x]) ∧ ∀ xs, SqT K H a xs → xs[i]? = some x, fun i H => ∃ xs : List V, SqT K H a xs ∧ xs.length = i⟩
end Ty
namespace Ty
open PySem PySem.Spec PyProof.Rows L2
theorem turn_enumT {P : Program} {w : World} {K : PySem.W.Frag} {elts : List Expr} {kk : Nat} {tpos : Pos} (a e it : Addr) :
    Turn P w K (.Tuple elts kk tpos) (IteT K a) [e, it] e (fun i h => (∃ old, IsEnum h e it ((i : Nat) : Int) old) ∧ h.IsTupleIter it a i ∧ e ≠ it) where
  mem := by simp
  obj := fun i h st b hb => by
    obtain ⟨⟨old, he⟩, ⟨o, ho, hc, hd⟩, _⟩ := st
    rcases (by simpa using hb : b = e ∨ b = it) with z | z
    · rw [z]; exact ⟨_, he, fun v q => nomatch q⟩
    · rw [z]; exact ⟨o, ho, fun v q => by rw [hd] at q; cases q⟩
  keep := fun i h h' st k => let ⟨⟨old, he⟩, hi, hne⟩ := st; ⟨⟨old, k e (by simp) _ he⟩, hi.at fun o q => k it (by simp) o q, hne⟩
  item := by
    intro X hP hw hK hc i pins s σ H E I hf st hg
    subst hP hw hK
    obtain ⟨⟨old, he⟩, hit, hne⟩ := st
    obtain ⟨xs, x, hq, hx⟩ := hg
    obtain ⟨its, rv, p, hz⟩ := I.tuple hq
    obtain ⟨u, hu, ru⟩ := rv.get hx
    have hel : e < s.heap.objs.size := Heap.lt_size he
    have hil : it < s.heap.objs.size := by obtain ⟨_, q, _⟩ := hit; exact Heap.lt_size q
    have p' : s.heap.IsTuple a its.toArray := p
    have ae : e ≠ a := fun z => by
      obtain ⟨o, ho, hc, _⟩ := p'
      rw [← z, he] at ho
      cases ho
      simp at hc
    have ai : a ≠ it := fun z => by
      obtain ⟨o, ho, hc, _⟩ := p'
      obtain ⟨o2, ho2, hc2, _⟩ := hit
      rw [z, ho2] at ho
      cases ho
      rw [hc] at hc2
      simp at hc2
    have hlt : i < its.toArray.size := by
      have := (List.getElem?_eq_some_iff.mp hu).1
      simpa using this
    refine wpAny_pyNext_enum_itemD (drawsT (A := X.A.in1) (I.ok.hd hc) it a ai its.toArray) he ⟨hit, p'⟩ hlt hne (by simp [hne, ae]) fun x' h' tk hx' ho hst' hT hsz hk => ?_
    obtain ⟨hit', _⟩ := hst'
    have ex : x' = u := by
      have q : its[i]? = some x' := by simpa using hx'
      rw [hu] at q
      exact (Option.some.inj q).symm
    subst ex
    refine ⟨_, rfl, wpAny_letOwnedTupleGo_enum (s := { s with heap := h', toks := tk + 1 }) ho fun h'' he' sb => ?_⟩
    have hT2 : h''.get? s.heap.objs.size = some { cls := .type "tuple", data := .seq #[.int i tk, x'] } := (sb.2 _ (Nat.ne_of_gt hel)).trans hT
    have new : ObjOk X.prog X.w (upd H s.heap.objs.size (.tup [.int (i : Nat), x])) h'' s.heap.objs.size (.tup [.int (i : Nat), x]) :=
      ⟨by show 2 ≤ sizeLine; decide, [.int i tk, x'], .cons ⟨_, rfl⟩ (.cons ru .nil), ⟨_, hT2, rfl, _, rfl⟩⟩
    have I1 : Inv X pins σ (upd H s.heap.objs.size (.tup [.int (i : Nat), x])) { s with heap := h'', toks := tk + 1 } :=
      I.turnedNew (ch := [e, it]) (fun b ob hb q => (sb.2 b (fun z => hb (by simp [z]))).trans (hk b ob (fun z => hb (by simp [z])) (fun z => hb (by simp [z])) q)) hf (Nat.le_refl _) new
    refine ⟨.ref s.heap.objs.size, _, I1, rfl, ⟨_, x, rfl, I.hok.fresh (Nat.le_refl _), rfl, fun ys hy => by rw [I.tuple_inj hy hq]; exact hx⟩, ⟨⟨x', ?_⟩, hit'.at fun o q => (sb.2 it (Ne.symm hne)).trans q, hne⟩, fun b hb => ?_⟩
    · have e1 : ((i + 1 : Nat) : Int) = (i : Int) + 1 := by omega
      rw [e1]; exact he'
    · have hb' : b < s.heap.objs.size := by
        rcases (by simpa using hb : b = e ∨ b = it) with z | z
        · rw [z]; exact hel
        · rw [z]; exact hil
      rw [upd_ne (Nat.ne_of_lt hb')]
      exact (hf b hb).1
  done := by
    intro X hP hw hK hc i pins s σ H E I hf st hg
    subst hP hw hK
    obtain ⟨⟨old, he⟩, hit, hne⟩ := st
    obtain ⟨xs, hq, hx⟩ := hg
    obtain ⟨its, rv, p, hz⟩ := I.tuple hq
    obtain ⟨f0, f1, f2, f3, f4, f5⟩ := hf it (by simp)
    have hl := rv.length
    have p' : s.heap.IsTuple a its.toArray := p
    have ai : a ≠ it := fun z => by
      obtain ⟨o, ho, hc, _⟩ := p'
      obtain ⟨o2, ho2, hc2, _⟩ := hit
      rw [z, ho2] at ho
      cases ho
      rw [hc] at hc2
      simp at hc2
    have en : its.toArray.size = i := by simp; omega
    refine wpAny_pyNext_enum_endD (drawsT (A := X.A.in1) (I.ok.hd hc) it a ai its.toArray) he ⟨by rw [en]; exact hit, p'⟩ fun h' eb => ⟨rfl, I.turned (t' := s.toks) (fun b o hb q => eb b o hb q) f0 f1 f3 f4 f5⟩
  self := fun A i s Q E st h => let ⟨⟨_, he⟩, _⟩ := st; wpAny_pyIter_enum he h
def iEnumT (K : PySem.W.Frag) (ta : TA) : TI := fun σ H R => ta σ H fun vs H1 => ∃ a xs, vs = [.ref a] ∧ SqT K H1 a xs ∧ R (IteT K a) H1
theorem pi_enumT {X : Cx} {e : Expr} {ta : TA} {p pos tpos : Pos} {elts : List Expr} {kk : Nat} (hg : Gl X "enumerate") (hm : X.mg "enumerate" = none) (ha : PA X [e] ta) (hs : starEach [e] X.env = [(false, eval e X.env)] := by rfl) :
    PI X (.Tuple elts kk tpos) (.Call (.Name "enumerate" p) [e] [] pos) (iEnumT X.K ta) := by
  refine ⟨fun pins s σ H R I h => ?_⟩
  refine Call_ (ld_blt I hg hm boot_enumerate (PyProof.Rows.callWith_type1 (thn (ha.run pos pins s σ H _ I h) fun us s1 hh => ?_) hs rfl))
  obtain ⟨vs, H1, I1, r1, a, xs, ex, hq, q⟩ := hh
  subst ex
  cases r1 with
  | cons r rr =>
    cases rr
    cases r
    obtain ⟨its, rv, p', hz⟩ := I1.tuple hq
    refine call_enumT p' fun h' he hit hk => wpAny_pyIter_enum he ?_
    have I2 : Inv X pins σ H1 { s1 with heap := h' } := I1.kept (t' := s1.toks) hk
    refine ⟨s1.heap.objs.size + 1, [s1.heap.objs.size + 1, s1.heap.objs.size], _, _, H1, rfl, I2, turn_enumT a (s1.heap.objs.size + 1) s1.heap.objs.size, ⟨⟨.none, he⟩, hit, Nat.succ_ne_self _⟩, fun b hb => ?_, q⟩
    have hle : s1.heap.objs.size ≤ b := by
      rcases (by simpa using hb : b = s1.heap.objs.size + 1 ∨ b = s1.heap.objs.size) with z | z
      · rw [z]; exact Nat.le_add_right _ _
      · rw [z]; exact Nat.le_refl _
    exact I1.fpOk hle (I1.hok.fresh hle)
section
variable {K : PySem.W.Frag} {a : Addr} {xs : List V}
theorem walk_enumT : Walk (IteT K a) xs.length (fun H => SqT K H a xs) (YPair (fun i => some (.int (i : Nat))) (fun i => xs[i]?)) := by
  refine ⟨fun i H hi h => ⟨xs, xs[i], h, by simp [hi]⟩, fun H h => ⟨xs, h, rfl⟩, ?_⟩
  rintro i H x H' hi h ⟨T, y, e1, e2, e3, e4⟩
  exact ⟨T, .int (i : Nat), y, e1, e2, e3, rfl, e4 xs h⟩
theorem walk_revT : Walk (RT.ItvT K a xs.length) xs.length (fun H => SqT K H a xs) (fun i H x H' => H' = H ∧ xs[xs.length - 1 - i]? = some x) := by
  refine ⟨fun i H hi h => ⟨hi, xs, xs[xs.length - 1 - i], h, List.getElem?_eq_getElem (by omega)⟩, fun H h => Nat.le_refl _, ?_⟩
  rintro i H x H' hi h ⟨e1, e2⟩
  exact ⟨e1, e2 xs h⟩
end
end Ty

namespace Ty
open PySem PySem.Spec PyProof.Rows L2
/-! ### numbers as rationals -/
def rt (d : Da) : Rat := Rat.divInt (above d) (below d)
def ofR (q : Rat) : Da := frac q.num (q.den : Int)
theorem ofR_low (q : Rat) : Low q.num (q.den : Int) (ofR q) := ⟨q.num, q.den, 1, by decide, (Int.mul_one _).symm, (Int.mul_one _).symm, by have := q.den_pos; omega, by rw [Int.natAbs_natCast]; exact q.reduced, rfl⟩
theorem ofR_one (q : Rat) : isOne (ofR q) = true := (ofR_low q).one
theorem ofR_num (q : Rat) : isNum (ofR q) = true := isOne_num (ofR_one q)
theorem ofR_above (q : Rat) : above (ofR q) = q.num := frac_above
theorem ofR_below (q : Rat) : below (ofR q) = (q.den : Int) := frac_below
theorem rt_ofR (q : Rat) : rt (ofR q) = q := by
  unfold rt
  rw [ofR_above, ofR_below]
  exact Rat.num_divInt_den q
theorem low_ofR {a b : Int} {d : Da} (hb : b ≠ 0) (h : Low a b d) : d = ofR (Rat.divInt a b) := by
  refine h.uniq (ofR_low (Rat.divInt a b)) ?_
  have e := Rat.num_divInt_den (Rat.divInt a b)
  have d0 : (((Rat.divInt a b).den : Nat) : Int) ≠ 0 := by have := (Rat.divInt a b).den_pos; omega
  have q := (Rat.divInt_eq_divInt_iff d0 hb).mp e
  exact q.symm
theorem rt_low {a b : Int} {d : Da} (hb : b ≠ 0) (h : Low a b d) : rt d = Rat.divInt a b := by rw [low_ofR hb h, rt_ofR]
theorem ofR_rt {d : Da} (h : isOne d = true) : ofR (rt d) = d := by
  have n := num_parts (isOne_num h)
  have l := Low.self (isOne_num h)
  rw [← isOne_frac h] at l
  exact (low_ofR (by omega) l).symm
theorem num_is {d : Da} (h : isNum d = true) : above d = (rt d).num ∧ below d = ((rt d).den : Int) := by
  have n := num_parts h
  have e := low_ofR (by omega) (Low.self h)
  have e1 : above (frac (above d) (below d)) = (rt d).num := by rw [e, ofR_above]; rfl
  have e2 : below (frac (above d) (below d)) = ((rt d).den : Int) := by rw [e, ofR_below]; rfl
  rw [frac_above] at e1
  rw [frac_below] at e2
  exact ⟨e1, e2⟩
section
variable {d e r : Da}
theorem fSum_rt (h1 : isNum d = true) (h2 : isNum e = true) (h : fSum d e r) : r = ofR (rt d + rt e) := by
  have a := (num_parts h1).1
  have b := (num_parts h2).1
  rw [low_ofR (Int.mul_ne_zero (by omega) (by omega)) h]
  unfold rt
  rw [Rat.divInt_add_divInt _ _ (by omega) (by omega)]
theorem fDiff_rt (h1 : isNum d = true) (h2 : isNum e = true) (h : fDiff d e r) : r = ofR (rt d - rt e) := by
  have a := (num_parts h1).1
  have b := (num_parts h2).1
  rw [low_ofR (Int.mul_ne_zero (by omega) (by omega)) h]
  unfold rt
  rw [Rat.divInt_sub_divInt _ _ (by omega) (by omega)]
theorem fProd_rt (h1 : isNum d = true) (h2 : isNum e = true) (h : fProd d e r) : r = ofR (rt d * rt e) := by
  have a := (num_parts h1).1
  have b := (num_parts h2).1
  rw [low_ofR (Int.mul_ne_zero (by omega) (by omega)) h]
  unfold rt
  rw [Rat.divInt_mul_divInt]
end
/-- the parts of a rational have less than n bits -/
def Sz (n : Nat) (q : Rat) : Prop := q.num.natAbs < 2 ^ n ∧ q.den < 2 ^ n
theorem Sz.more {n m : Nat} {q : Rat} (h : Sz n q) (l : n ≤ m) : Sz m q := ⟨Nat.lt_of_lt_of_le h.1 (Nat.pow_le_pow_right (by decide) l), Nat.lt_of_lt_of_le h.2 (Nat.pow_le_pow_right (by decide) l)⟩
theorem Sz.nb {n : Nat} {d : Da} (h : isNum d = true) (s : Sz n (rt d)) : NB n d := by
  obtain ⟨e1, e2⟩ := num_is h
  unfold NB
  rw [e1, e2]
  exact ⟨s.1, by rw [Int.natAbs_natCast]; exact s.2⟩
theorem sz_nb {n : Nat} {d : Da} (h : isNum d = true) (s : NB n d) : Sz n (rt d) := by
  obtain ⟨e1, e2⟩ := num_is h
  unfold NB at s
  rw [e1, e2] at s
  exact ⟨s.1, by have := s.2; rwa [Int.natAbs_natCast] at this⟩
theorem sz_low {n : Nat} {a b : Int} (hb : b ≠ 0) (h1 : a.natAbs < 2 ^ n) (h2 : b.natAbs < 2 ^ n) : Sz n (Rat.divInt a b) := by
  obtain ⟨d, hd⟩ := Low.at a b hb
  rw [← rt_low hb hd]
  exact sz_nb hd.num.1 (hd.nb h1 h2)
theorem Sz.add {a b : Nat} {p q : Rat} (h1 : Sz a p) (h2 : Sz b q) : Sz (a + b + 1) (p + q) := by
  have e : p + q = Rat.divInt (p.num * q.den + q.num * p.den) ((p.den : Int) * q.den) := by
    have d1 : ((p.den : Nat) : Int) ≠ 0 := by have := p.den_pos; omega
    have d2 : ((q.den : Nat) : Int) ≠ 0 := by have := q.den_pos; omega
    rw [← Rat.divInt_add_divInt _ _ d1 d2, Rat.num_divInt_den, Rat.num_divInt_den]
  rw [e]
  have x1 : (p.num * (q.den : Int)).natAbs < 2 ^ (a + b) := wide_lt h1.1 (by rw [Int.natAbs_natCast]; exact h2.2)
  have x2 : (q.num * (p.den : Int)).natAbs < 2 ^ (b + a) := wide_lt h2.1 (by rw [Int.natAbs_natCast]; exact h1.2)
  have x3 : ((p.den : Int) * (q.den : Int)).natAbs < 2 ^ (a + b) := wide_lt (by rw [Int.natAbs_natCast]; exact h1.2) (by rw [Int.natAbs_natCast]; exact h2.2)
  rw [Nat.add_comm b a] at x2
  have two : 2 ^ (a + b + 1) = 2 ^ (a + b) + 2 ^ (a + b) := by rw [Nat.pow_succ]; omega
  refine sz_low (Int.mul_ne_zero (by have := p.den_pos; omega) (by have := q.den_pos; omega)) (by omega) (by omega)
theorem Sz.mul {a b : Nat} {p q : Rat} (h1 : Sz a p) (h2 : Sz b q) : Sz (a + b) (p * q) := by
  have e : p * q = Rat.divInt (p.num * q.num) ((p.den : Int) * q.den) := by
    rw [← Rat.divInt_mul_divInt, Rat.num_divInt_den, Rat.num_divInt_den]
  rw [e]
  exact sz_low (Int.mul_ne_zero (by have := p.den_pos; omega) (by have := q.den_pos; omega)) (wide_lt h1.1 h2.1) (wide_lt (by rw [Int.natAbs_natCast]; exact h1.2) (by rw [Int.natAbs_natCast]; exact h2.2))
theorem sz_zero : Sz 1 0 := ⟨by decide, by decide⟩
theorem sz_one : Sz 1 1 := ⟨by decide, by decide⟩
end Ty
/-! ### rows: the mathematics -/
namespace Ty
/-- Horner -/
def hval (l : List Rat) (x : Rat) : Rat := l.foldr (fun c t => t * x + c) 0
theorem hval_nil (x : Rat) : hval [] x = 0 := rfl
theorem hval_cons (c : Rat) (l : List Rat) (x : Rat) : hval (c :: l) x = hval l x * x + c := rfl
/-- the slope's value -/
def dval : List Rat → Rat → Rat
  | [], _ => 0
  | _ :: l, x => hval l x + x * dval l x
/-- k c0, (k + 1) c1, .. -/
def wsl : Rat → List Rat → List Rat
  | _, [] => []
  | k, c :: l => k * c :: wsl (k + 1) l
def slope : List Rat → List Rat
  | [] => []
  | [_] => [0]
  | _ :: l => wsl 1 l
theorem wsl_len : ∀ (k : Rat) (l : List Rat), (wsl k l).length = l.length
  | _, [] => rfl
  | k, c :: l => by
    show (wsl (k + 1) l).length + 1 = l.length + 1
    rw [wsl_len]
theorem wsl_at : ∀ (k : Rat) (l : List Rat) (i : Nat) (c : Rat), l[i]? = some c → (wsl k l)[i]? = some ((k + (i : Nat)) * c)
  | k, a :: l, 0, c, h => by
    cases h
    show some (k * a) = some ((k + ((0 : Nat) : Rat)) * a)
    have e : k + ((0 : Nat) : Rat) = k := by simp [Rat.add_zero]
    rw [e]
  | k, a :: l, i + 1, c, h => by
    have h' : l[i]? = some c := h
    show (wsl (k + 1) l)[i]? = _
    rw [wsl_at (k + 1) l i c h']
    congr 2
    have : ((i + 1 : Nat) : Rat) = (i : Rat) + 1 := by push_cast; rfl
    grind
theorem hval_wsl : ∀ (k : Rat) (l : List Rat) (x : Rat), hval (wsl k l) x = k * hval l x + x * dval l x
  | k, [], x => by
    show (0 : Rat) = k * 0 + x * 0
    grind
  | k, a :: l, x => by
    show hval (wsl (k + 1) l) x * x + k * a = k * (hval l x * x + a) + x * (hval l x + x * dval l x)
    rw [hval_wsl]
    grind
theorem hval_slope : ∀ (l : List Rat) (x : Rat), hval (slope l) x = dval l x
  | [], _ => rfl
  | [a], x => by
    show (0 : Rat) * x + 0 = 0 + x * 0
    grind
  | a :: b :: l, x => by
    show hval (wsl 1 (b :: l)) x = hval (b :: l) x + x * dval (b :: l) x
    rw [hval_wsl]
    grind
/-- k x^(k-1) -/
def ee : Nat → Rat → Rat
  | 0, _ => 0
  | k + 1, x => x ^ k + x * ee k x
theorem pow_next (x : Rat) (k : Nat) : x ^ (k + 1) = x ^ k * x := Rat.pow_succ x k
theorem pow_sum (x : Rat) (i : Nat) : ∀ j, x ^ (i + j) = x ^ i * x ^ j
  | 0 => by
    rw [Nat.add_zero, Rat.pow_zero]
    grind
  | j + 1 => by
    rw [← Nat.add_assoc, pow_next, pow_next, pow_sum x i j]
    grind
theorem ee_add : ∀ (i j : Nat) (x : Rat), ee (i + j) x = ee i x * x ^ j + x ^ i * ee j x
  | 0, j, x => by
    rw [Nat.zero_add]
    show ee j x = 0 * x ^ j + x ^ 0 * ee j x
    rw [Rat.pow_zero]
    grind
  | i + 1, j, x => by
    have e : i + 1 + j = (i + j) + 1 := by omega
    rw [e]
    show x ^ (i + j) + x * ee (i + j) x = (x ^ i + x * ee i x) * x ^ j + x ^ (i + 1) * ee j x
    rw [ee_add i j x, pow_next, pow_sum]
    grind
def addAt (l : List Rat) (i : Nat) (c : Rat) : List Rat := l.set i (l.getD i 0 + c)
theorem addAt_len (l : List Rat) (i : Nat) (c : Rat) : (addAt l i c).length = l.length := List.length_set
theorem hval_addAt : ∀ (l : List Rat) (k : Nat) (c x : Rat), k < l.length → hval (addAt l k c) x = hval l x + c * x ^ k
  | a :: l, 0, c, x, _ => by
    show hval l x * x + (a + c) = hval l x * x + a + c * x ^ 0
    rw [Rat.pow_zero]
    grind
  | a :: l, k + 1, c, x, h => by
    have h' : k < l.length := by simpa using h
    show hval (addAt l k c) x * x + a = hval l x * x + a + c * x ^ (k + 1)
    rw [hval_addAt l k c x h', pow_next]
    grind
theorem dval_addAt : ∀ (l : List Rat) (k : Nat) (c x : Rat), k < l.length → dval (addAt l k c) x = dval l x + c * ee k x
  | a :: l, 0, c, x, _ => by
    show hval l x + x * dval l x = hval l x + x * dval l x + c * 0
    grind
  | a :: l, k + 1, c, x, h => by
    have h' : k < l.length := by simpa using h
    show hval (addAt l k c) x + x * dval (addAt l k c) x = hval l x + x * dval l x + c * (x ^ k + x * ee k x)
    rw [hval_addAt l k c x h', dval_addAt l k c x h']
    grind
theorem hval_snoc : ∀ (l : List Rat) (c x : Rat), hval (l ++ [c]) x = hval l x + c * x ^ l.length
  | [], c, x => by
    show (0 : Rat) * x + c = 0 + c * x ^ 0
    rw [Rat.pow_zero]
    grind
  | a :: l, c, x => by
    show hval (l ++ [c]) x * x + a = hval l x * x + a + c * x ^ (l.length + 1)
    rw [hval_snoc, pow_next]
    grind
theorem dval_snoc : ∀ (l : List Rat) (c x : Rat), dval (l ++ [c]) x = dval l x + c * ee l.length x
  | [], c, x => by
    show (0 : Rat) + x * 0 = 0 + c * 0
    grind
  | a :: l, c, x => by
    show hval (l ++ [c]) x + x * dval (l ++ [c]) x = hval l x + x * dval l x + c * (x ^ l.length + x * ee l.length x)
    rw [hval_snoc, dval_snoc]
    grind
/-- the row of a product, as both loops make it -/
def convIn (p : Rat) (i : Nat) (q l : List Rat) (m : Nat) : List Rat := (List.range m).foldl (fun l j => addAt l (i + j) (p * q.getD j 0)) l
def convOut (p q l : List Rat) (m : Nat) : List Rat := (List.range m).foldl (fun l i => convIn (p.getD i 0) i q l q.length) l
def conv (p q : List Rat) : List Rat := convOut p q (List.replicate (p.length + q.length - 1) 0) p.length
theorem convIn_next (p : Rat) (i : Nat) (q l : List Rat) (m : Nat) : convIn p i q l (m + 1) = addAt (convIn p i q l m) (i + m) (p * q.getD m 0) := by
  unfold convIn
  rw [List.range_succ, List.foldl_append]
  rfl
theorem convOut_next (p q l : List Rat) (m : Nat) : convOut p q l (m + 1) = convIn (p.getD m 0) m q (convOut p q l m) q.length := by
  unfold convOut
  rw [List.range_succ, List.foldl_append]
  rfl
theorem convIn_len (p : Rat) (i : Nat) (q l : List Rat) : ∀ m, (convIn p i q l m).length = l.length
  | 0 => rfl
  | m + 1 => by rw [convIn_next, addAt_len, convIn_len p i q l m]
theorem convOut_len (p q l : List Rat) : ∀ m, (convOut p q l m).length = l.length
  | 0 => rfl
  | m + 1 => by rw [convOut_next, convIn_len, convOut_len p q l m]
theorem conv_len (p q : List Rat) : (conv p q).length = p.length + q.length - 1 := by
  unfold conv
  rw [convOut_len, List.length_replicate]
theorem take_next (q : List Rat) (m : Nat) (h : m < q.length) : q.take (m + 1) = q.take m ++ [q.getD m 0] := by
  rw [List.take_add_one, List.getElem?_eq_getElem h]
  simp [List.getD_eq_getElem?_getD, List.getElem?_eq_getElem h]
theorem hval_convIn (p : Rat) (i : Nat) (q l : List Rat) (x : Rat) (hl : i + q.length ≤ l.length) : ∀ m, m ≤ q.length → hval (convIn p i q l m) x = hval l x + p * x ^ i * hval (q.take m) x
  | 0, _ => by
    show hval l x = hval l x + p * x ^ i * 0
    grind
  | m + 1, h => by
    rw [convIn_next, hval_addAt _ _ _ _ (by rw [convIn_len]; omega), hval_convIn p i q l x hl m (by omega), take_next q m (by omega), hval_snoc, List.length_take, Nat.min_eq_left (by omega), pow_sum]
    grind
theorem dval_convIn (p : Rat) (i : Nat) (q l : List Rat) (x : Rat) (hl : i + q.length ≤ l.length) : ∀ m, m ≤ q.length → dval (convIn p i q l m) x = dval l x + p * (ee i x * hval (q.take m) x + x ^ i * dval (q.take m) x)
  | 0, _ => by
    show dval l x = dval l x + p * (ee i x * 0 + x ^ i * 0)
    grind
  | m + 1, h => by
    rw [convIn_next, dval_addAt _ _ _ _ (by rw [convIn_len]; omega), dval_convIn p i q l x hl m (by omega), take_next q m (by omega), hval_snoc, dval_snoc, List.length_take, Nat.min_eq_left (by omega), ee_add]
    grind
theorem hval_convOut (p q l : List Rat) (x : Rat) (hl : p.length + q.length ≤ l.length + 1) : ∀ m, m ≤ p.length → hval (convOut p q l m) x = hval l x + hval (p.take m) x * hval q x
  | 0, _ => by
    show hval l x = hval l x + 0 * hval q x
    grind
  | m + 1, h => by
    rw [convOut_next, hval_convIn _ _ _ _ _ (by rw [convOut_len]; omega) _ (Nat.le_refl _), hval_convOut p q l x hl m (by omega), take_next p m (by omega), hval_snoc, List.length_take, Nat.min_eq_left (by omega), List.take_length]
    grind
theorem dval_convOut (p q l : List Rat) (x : Rat) (hl : p.length + q.length ≤ l.length + 1) : ∀ m, m ≤ p.length → dval (convOut p q l m) x = dval l x + (dval (p.take m) x * hval q x + hval (p.take m) x * dval q x)
  | 0, _ => by
    show dval l x = dval l x + (0 * hval q x + 0 * dval q x)
    grind
  | m + 1, h => by
    rw [convOut_next, dval_convIn _ _ _ _ _ (by rw [convOut_len]; omega) _ (Nat.le_refl _), dval_convOut p q l x hl m (by omega), take_next p m (by omega), hval_snoc, dval_snoc, List.length_take, Nat.min_eq_left (by omega), List.take_length]
    grind
theorem hval_zeros (x : Rat) : ∀ n, hval (List.replicate n 0) x = 0
  | 0 => rfl
  | n + 1 => by
    show hval (List.replicate n 0) x * x + 0 = 0
    rw [hval_zeros x n]
    grind
theorem dval_zeros (x : Rat) : ∀ n, dval (List.replicate n 0) x = 0
  | 0 => rfl
  | n + 1 => by
    show hval (List.replicate n 0) x + x * dval (List.replicate n 0) x = 0
    rw [hval_zeros x n, dval_zeros x n]
    grind
theorem hval_conv (p q : List Rat) (x : Rat) (hp : 0 < p.length) : hval (conv p q) x = hval p x * hval q x := by
  unfold conv
  rw [hval_convOut _ _ _ _ (by rw [List.length_replicate]; omega) _ (Nat.le_refl _), hval_zeros, List.take_length]
  grind
theorem dval_conv (p q : List Rat) (x : Rat) (hp : 0 < p.length) : dval (conv p q) x = dval p x * hval q x + hval p x * dval q x := by
  unfold conv
  rw [dval_convOut _ _ _ _ (by rw [List.length_replicate]; omega) _ (Nat.le_refl _), dval_zeros, List.take_length]
  grind
end Ty
namespace Ty
open PySem PySem.Spec PyProof.Rows L2
/-! ### rows as data -/
def isRow (d : Da) : Bool := isS d && (decide (1 ≤ (items d).length ∧ (items d).length ≤ 25) && (items d).all isNum)
def rts (d : Da) : List Rat := (items d).map rt
end Ty

namespace Ty
open PySem PySem.Spec PyProof.Rows L2
/-- S and the address D -/
def wth (S : Addr → Bool) (D : Addr) : Addr → Bool := fun b => S b || decide (b = D)
theorem wth_self {S : Addr → Bool} {D : Addr} : wth S D D = true := by
  unfold wth
  rw [decide_eq_true rfl, Bool.or_true]
theorem wth_sub {S : Addr → Bool} {D b : Addr} (h : S b = true) : wth S D b = true := by
  unfold wth
  rw [h, Bool.true_or]
theorem wth_cases {S : Addr → Bool} {D b : Addr} (h : wth S D b = true) : S b = true ∨ b = D := by
  unfold wth at h
  rw [Bool.or_eq_true] at h
  exact h.imp_right of_decide_eq_true
theorem wth_live {S : Addr → Bool} {D : Addr} {H : Hp} {o : HO} (l : Live S H) (h : H D = some o) : Live (wth S D) H := fun b hb => by
  rcases wth_cases hb with z | z
  · exact l b z
  · rw [z, h]
    exact nofun
theorem wth_put {S : Addr → Bool} {D : Addr} {H : Hp} {o : HO} : Same (mn (wth S D) H) (mn (wth S D) (upd H D o)) := fun b u e => by
  obtain ⟨e1, e2⟩ := mn_of e
  have bd : b ≠ D := fun z => by rw [z, wth_self] at e1; cases e1
  rw [mn_at e1, upd_ne bd]
  exact e2
theorem mn_mono {S S' : Addr → Bool} {H : Hp} (h : ∀ b, S b = true → S' b = true) : Same (mn S' H) (mn S H) := fun b u e => by
  obtain ⟨e1, e2⟩ := mn_of e
  rw [mn_at]
  · exact e2
  · cases q : S b with
    | false => rfl
    | true => rw [h b q] at e1; cases e1
theorem IsAll.snoc {H : Hp} {v : V} {d : Da} : ∀ {vs : List V} {ds : List Da}, IsAll H vs ds → Is H v d → IsAll H (vs ++ [v]) (ds ++ [d])
  | _, [], h, k => by cases h; exact .cons k .nil
  | _, e :: ds, h, k => by
    cases h with
    | cons h t => exact .cons h (IsAll.snoc t k)
section
variable {J : It} {n : Nat} {G : Hp → Prop} {Y : Nat → Hp → V → Hp → Prop}
/-- [f(x) for x in ..]: each item made new of what stood before -/
theorem lc_map (w : Walk J n G Y) {g : TG} {tt : TT} {te : TE} {vs : List Nat} {σ : L2.St} {H : Hp} {D : Addr} {Qd : Hp → Prop} (f : Nat → Da) (hn : n ≤ 1000) (hD : H D = none) (hG : ∀ H', Same H H' → G H')
    (hs : ∀ m x H1 H2 (Q' : VK) (N : Hp → Prop), m < n → Same H H1 → Y m H1 x H2 → (∀ y H4, Same H1 H4 → New H1 H4 y (f m) → Q' y H4) →
      g x (wipe σ vs) H2 fun σ2 H3 => wipe σ2 vs = wipe σ vs ∧ tt σ2 H3 fun b H4 => if b = true then te σ2 H4 Q' else N H4)
    (k : ∀ H' ys, Same H H' → H' D = some (.lst ys) → ys.length = n → New H H' (.ref D) (.lst ((List.range n).map f)) → Qd H') :
    ∃ W : Nat → Nat → Hp → Prop, (∃ m, W 0 m (upd H D (.lst []))) ∧ ∀ i m H, W i m H →
      (J.stop i H ∧ Qd H) ∨ (J.go i H ∧ ∃ Nx : Hp → Prop, (∀ H', Nx H' → ∃ m', m' < m ∧ W (i + 1) m' H') ∧ ∀ x H', J.yld i H x H' → g x (wipe σ vs) H' fun σ2 H2 => wipe σ2 vs = wipe σ vs ∧ tt σ2 H2 fun b H3 =>
        if b = true then te σ2 H3 fun y H4 => ∃ acc, H4 D = some (.lst acc) ∧ acc.length < sizeLine ∧ Nx (upd H4 D (.lst (acc ++ [y]))) else Nx H3) := by
  refine lc_it w (fun i H' => Same H H' ∧ ∃ acc, H' D = some (.lst acc) ∧ acc.length = i ∧ ∀ S, Live S H → IsAll (mn (wth S D) H') acc ((List.range i).map f)) ⟨Same.new hD, [], upd_same, rfl, fun _ _ => .nil⟩ (fun i H' _ p => hG H' p.1) ?_ ?_
  · rintro i x H1 H2 hi ⟨s1, acc, ha, hl, hall⟩ y
    refine hs i x H1 H2 _ _ hi s1 y fun v H4 s4 nv => ⟨acc, s4 _ _ ha, by rw [hl]; exact Nat.lt_of_lt_of_le (show i < 1001 by omega) (by decide), Same.mut (s1.trans s4) hD, _, upd_same, by rw [List.length_append, hl]; rfl, fun S l => ?_⟩
    rw [List.range_succ, List.map_append]
    exact ((((hall S l).up (Same.less s4)).snoc (nv (wth S D) (wth_live (l.more s1) ha)))).up wth_put
  · rintro H' ⟨s1, acc, ha, hl, hall⟩
    refine k H' acc s1 ha hl fun S l => ?_
    have e : S D = false := by
      cases q : S D with
      | false => rfl
      | true => exact absurd hD (l D q)
    exact .lst (by rw [mn_at e]; exact ha) ((hall S l).up (mn_mono fun b hb => wth_sub hb))
end
/-- the items of a list or a tuple, and how they are walked -/
theorem Is.row {K : PySem.W.Frag} {H : Hp} {v : V} {d : Da} (h : Is H v d) (s : isS d = true) : ∃ a xs, v = .ref a ∧ ((∀ H', Same H H' → SqL K H' a xs) ∨ (∀ H', Same H H' → SqT K H' a xs)) ∧ IsAll H xs (items d) := by
  cases h with
  | tup e h => exact ⟨_, _, rfl, .inr fun H' s' => .inl (.inl (s' _ _ e)), h⟩
  | lst e h => exact ⟨_, _, rfl, .inl fun H' s' => .inl (.inl (s' _ _ e)), h⟩
  | _ => cases s
end Ty
namespace Ty
open PySem PySem.Spec PyProof.Rows L2
theorem range_getD {α β : Type} (f : α → β) (z : α) (l : List α) : ((List.range l.length).map fun m => f (l.getD m z)) = l.map f := by
  apply List.ext_getElem?
  intro i
  by_cases h : i < l.length
  · simp [h, List.getD_eq_getElem?_getD]
  · rw [List.getElem?_eq_none (by simp; omega), List.getElem?_eq_none (by simp; omega)]
theorem isAll_bl {H : Hp} : ∀ {ys : List V} {bs : List Bool}, IsAll H ys (bs.map Da.bl) → ys = bs.map V.bl
  | _, [], h => by cases h; rfl
  | _, b :: bs, h => by
    cases h with
    | cons h t =>
      cases h
      rw [isAll_bl t]
      rfl
theorem IsAll.get {H : Hp} : ∀ {vs : List V} {ds : List Da} {i : Nat} {d : Da}, IsAll H vs ds → ds[i]? = some d → ∃ v, vs[i]? = some v ∧ Is H v d
  | _, [], _, _, _, e => by simp at e
  | _, d :: ds, 0, _, h, e => by
    cases h with
    | cons h _ =>
      cases (Option.some.inj e)
      exact ⟨_, rfl, h⟩
  | _, d :: ds, i + 1, _, h, e => by
    cases h with
    | cons _ t =>
      have e' : ds[i]? = some _ := e
      obtain ⟨w, h1, h2⟩ := IsAll.get t e'
      exact ⟨w, h1, h2⟩
theorem IsAll.set {H : Hp} {v : V} {d : Da} : ∀ {vs : List V} {ds : List Da} (i : Nat), IsAll H vs ds → Is H v d → IsAll H (vs.set i v) (ds.set i d)
  | _, [], i, h, _ => by cases h; cases i <;> exact .nil
  | _, e :: ds, 0, h, k => by
    cases h with
    | cons _ t => exact .cons k t
  | _, e :: ds, i + 1, h, k => by
    cases h with
    | cons h t => exact .cons h (IsAll.set i t k)
/-- a number's text is the int -/
theorem ofR_int (i : Int) : ofR (i : Rat) = .int i := by
  unfold ofR frac
  rw [if_pos (by rfl)]
  rfl
theorem ofR_zero : ofR 0 = .int 0 := ofR_int 0
theorem rt_int (i : Int) : rt (.int i) = (i : Rat) := by rw [← ofR_int, rt_ofR]
/-! ### promises of rows -/
/-- an error of two fields -/
def Out2 (C : Addr) (f : Str) (v : V) (g : Str) (u : V) (H : Hp) (E : XK) : Prop := ∀ d H', Same H H' → H d = none → H' d = some (.xd [(g, u), (f, v)]) → E (.ref C) (some d) H'
theorem Out2.up {C : Addr} {f g : Str} {v u : V} {H H1 : Hp} {E : XK} (h : Out2 C f v g u H E) (s : Same H H1) : Out2 C f v g u H1 E := fun d H' s' hd hx => h d H' (s.trans s') (by
  cases e : H d with
  | none => rfl
  | some o => rw [s _ _ e] at hd; cases hd) hx
/-- a row whose value can be reckoned at x -/
def FitV (l : List Rat) (x : Rat) : Prop := ∃ s t, 0 < s ∧ 0 < t ∧ (∀ q ∈ l, Sz s q) ∧ Sz t x ∧ l.length * (s + t + 1) + s + t + 2 ≤ 8900
/-- rows whose product can be -/
def FitP (p q : List Rat) : Prop := ∃ s t, 0 < s ∧ 0 < t ∧ (∀ x ∈ p, Sz s x) ∧ (∀ x ∈ q, Sz t x) ∧ (p.length + 1) * (s + t + 1) + s + t + 2 ≤ 8900
def FitS (l : List Rat) : Prop := ∃ s, 0 < s ∧ (∀ q ∈ l, Sz s q) ∧ s + 10 ≤ 8900
def spVal (C : Addr) : Sp := fun vs H Q E => ∃ u v d e, vs = [u, v] ∧ Is H u d ∧ Is H v e ∧ (isRow d = false → Out1 C "part" (.str "row") H E) ∧ (isRow d = true → isNum e = false → Out1 C "part" (.str "number") H E) ∧
  (isRow d = true → isNum e = true → FitV (rts d) (rt e) ∧ ∀ w H', Same H H' → New H H' w (ofR (hval (rts d) (rt e))) → Q w H')
def spSlo (C : Addr) : Sp := fun vs H Q E => ∃ u d, vs = [u] ∧ Is H u d ∧ (isRow d = false → Out1 C "part" (.str "row") H E) ∧
  (isRow d = true → FitS (rts d) ∧ ∀ w H', Same H H' → New H H' w (.tup ((slope (rts d)).map ofR)) → Q w H')
def spPro (C C2 : Addr) : Sp := fun vs H Q E => ∃ u v d e, vs = [u, v] ∧ Is H u d ∧ Is H v e ∧ (isRow d = false → Out1 C "part" (.str "one") H E) ∧ (isRow d = true → isRow e = false → Out1 C "part" (.str "other") H E) ∧
  (isRow d = true → isRow e = true → 26 < (items d).length + (items e).length → Out2 C2 "what" (.str "numbers") "most" (.int 25) H E) ∧
  (isRow d = true → isRow e = true → (items d).length + (items e).length ≤ 26 → FitP (rts d) (rts e) ∧ ∀ w H', Same H H' → New H H' w (.tup ((conv (rts d) (rts e)).map ofR)) → Q w H')
theorem row_of {d : Da} (h : isRow d = true) : isS d = true ∧ 1 ≤ (items d).length ∧ (items d).length ≤ 25 ∧ ∀ e ∈ items d, isNum e = true := by
  unfold isRow at h
  rw [Bool.and_eq_true, Bool.and_eq_true, List.all_eq_true] at h
  have q := of_decide_eq_true h.2.1
  exact ⟨h.1, q.1, q.2, h.2.2⟩
theorem rts_len {d : Da} : (rts d).length = (items d).length := List.length_map _
end Ty
namespace Ty
open PySem PySem.Spec PyProof.Rows L2
section
variable {K : PySem.W.Frag} {σ : L2.St} {H : Hp} {l : Nat} {a : Addr} {xs : List V} {R : It → Hp → Prop}
/-- both kinds of a row -/
abbrev Both (K : PySem.W.Frag) (H : Hp) (a : Addr) (xs : List V) : Prop := (∀ H', Same H H' → SqL K H' a xs) ∨ (∀ H', Same H H' → SqT K H' a xs)
theorem both_up {H1 : Hp} (h : Both K H a xs) (s : Same H H1) : Both K H1 a xs := h.imp (fun h H' s' => h H' (s.trans s')) fun h H' s' => h H' (s.trans s')
theorem both_now (h : Both K H a xs) : SqL K H a xs ∨ SqT K H a xs := h.imp (fun h => h _ (Same.refl _)) fun h => h _ (Same.refl _)
theorem seq_iter (hv : σ[l]? = some (some (.ref a))) (hs : Both K H a xs) (k : ∀ J G, Walk J xs.length G (YAt xs) → (∀ H', Same H H' → G H') → R J H) : iList K (tVar l) σ H R ∨ iTup K (tVar l) σ H R := by
  rcases hs with hs | hs
  · exact .inl ⟨_, hv, a, rfl, ⟨_, hs _ (Same.refl _)⟩, k _ _ walk_list hs⟩
  · exact .inr ⟨_, hv, a, rfl, ⟨_, hs _ (Same.refl _)⟩, k _ _ walk_tup hs⟩
theorem rev_iter (hv : σ[l]? = some (some (.ref a))) (hs : Both K H a xs) (k : ∀ J G, Walk J xs.length G (fun i H x H' => H' = H ∧ xs[xs.length - 1 - i]? = some x) → (∀ H', Same H H' → G H') → R J H) : RT.iRevA K (tVar l) σ H R := by
  rcases hs with hs | hs
  · exact ⟨_, hv, a, xs, rfl, .inl ⟨hs _ (Same.refl _), k _ _ walk_rev hs⟩⟩
  · exact ⟨_, hv, a, xs, rfl, .inr ⟨hs _ (Same.refl _), k _ _ walk_revT hs⟩⟩
theorem enum_iter (hv : σ[l]? = some (some (.ref a))) (hs : Both K H a xs) (k : ∀ J G, Walk J xs.length G (YPair (fun i => some (.int (i : Nat))) (fun i => xs[i]?)) → (∀ H', Same H H' → G H') → R J H) :
    iEnum K (tCons (tVar l) tNil) σ H R ∨ iEnumT K (tCons (tVar l) tNil) σ H R := by
  rcases hs with hs | hs
  · exact .inl ⟨_, hv, a, xs, rfl, hs _ (Same.refl _), k _ _ walk_enum hs⟩
  · exact .inr ⟨_, hv, a, xs, rfl, hs _ (Same.refl _), k _ _ walk_enumT hs⟩
/-- an item of it -/
theorem both_ix {H' : Hp} {i : Int} {u : V} {Q : VK} (hs : Both K H a xs) (s : Same H H') (e : atI xs i = some u) (q : Q u H') : rIxL K (.ref a) (.int i) H' Q ∨ rIxT K (.ref a) (.int i) H' Q := by
  rcases hs with hs | hs
  · exact .inl ⟨a, _, i, u, rfl, rfl, hs _ s, e, q⟩
  · exact .inr ⟨a, _, i, u, rfl, rfl, hs _ s, e, q⟩
end
theorem getD_at {α : Type} {l : List α} {i : Nat} {x z : α} (h : l[i]? = some x) : l.getD i z = x := by
  rw [List.getD_eq_getElem?_getD, h]
  rfl
end Ty
namespace Ty
open PySem PySem.Spec PyProof.Rows L2
section
variable {σ : L2.St} {H : Hp} {D : Ends} {wi : TI} {g : TG} {tb : TS} {x : V} {i : Nat} {Q : VK} {R : L2.St → Hp → Prop}
theorem go_for (h : wi σ H fun J H1 => ∃ W : Nat → Nat → L2.St → Hp → Prop, (∃ m, W 0 m σ H1) ∧ ∀ i m σ H, W i m σ H →
  (J.stop i H ∧ D.nx σ H) ∨ (J.go i H ∧ ∃ N : L2.St → Hp → Prop, (∀ σ' H', N σ' H' → ∃ m', m' < m ∧ W (i + 1) m' σ' H') ∧ ∀ x H', J.yld i H x H' → g x σ H' fun σ2 H2 => tb { D with nx := N, ct := N, bk := D.nx } σ2 H2)) : tFor wi g tb D σ H := h
theorem go_c (h : Q x H) : tC x σ H Q := h
theorem go_nm (h : R (σ.set i (some x)) H) : gName i x σ H R := h
end
end Ty
namespace Ty
open PySem PySem.Spec PyProof.Rows L2
/-- the list at D, made since H2: these rationals -/
def FoundI (H2 : Hp) (D : Addr) (l : List Rat) (H' : Hp) : Prop := Same H2 H' ∧ H2 D = none ∧ ∃ vals, H' D = some (.lst vals) ∧ ∀ S, Live S H2 → IsAll (mn (wth S D) H') vals (l.map ofR)
section
variable {H2 H' H3 : Hp} {D : Addr} {l : List Rat}
theorem FoundI.up (h : FoundI H2 D l H') (s : Same H' H3) : FoundI H2 D l H3 := by
  obtain ⟨h1, h2, vals, h3, h4⟩ := h
  exact ⟨h1.trans s, h2, vals, s _ _ h3, fun S lv => (h4 S lv).up (Same.less s)⟩
theorem FoundI.vals (h : FoundI H2 D l H') : ∃ vals, H' D = some (.lst vals) ∧ vals.length = l.length ∧ IsAll H' vals (l.map ofR) := by
  obtain ⟨h1, h2, vals, h3, h4⟩ := h
  have q := (h4 (fun _ => false) (fun _ z => by cases z)).up mn_same
  exact ⟨vals, h3, by rw [q.length, List.length_map], q⟩
theorem FoundI.put {vals : List V} {w : V} {k : Nat} {x : Rat} (h : FoundI H2 D l H') (hv : H' D = some (.lst vals)) (s : Same H' H3) (n : New H' H3 w (ofR x)) : FoundI H2 D (l.set k x) (upd H3 D (.lst (vals.set k w))) := by
  obtain ⟨h1, h2, vals', h3, h4⟩ := h
  rw [hv] at h3
  cases h3
  refine ⟨Same.mut (h1.trans s) h2, h2, _, upd_same, fun S lv => ?_⟩
  rw [List.map_set]
  exact (((h4 S lv).up (Same.less s)).set k (n (wth S D) (wth_live (lv.more h1) hv))).up wth_put
theorem FoundI.tup {p : Addr} {vals : List V} (h : FoundI H2 D l H') (hv : H' D = some (.lst vals)) (hp : H' p = none) : New H2 (upd H' p (.tup vals)) (.ref p) (.tup (l.map ofR)) := fun S lv => by
  obtain ⟨h1, h2, vals', h3, h4⟩ := h
  rw [hv] at h3
  cases h3
  exact .tup (mn_put (lv.more h1) hp) (((h4 S lv).up (mn_mono fun b hb => wth_sub hb)).up (Same.less (Same.new hp)))
end
theorem addAt_at (l : List Rat) (m k : Nat) (c : Rat) (h : m < l.length) : (addAt l m c)[k]? = if k = m then some (l.getD m 0 + c) else l[k]? := by
  unfold addAt
  rw [List.getElem?_set]
  by_cases e : m = k
  · subst e
    rw [if_pos rfl, if_pos h, if_pos rfl]
  · rw [if_neg e, if_neg (fun z => e z.symm)]
end Ty
namespace Ty
open PySem PySem.Spec PyProof.Rows L2
/-- walked at a later heap, told of the first -/
theorem enum_at {K : PySem.W.Frag} {σ : L2.St} {H H0 : Hp} {l : Nat} {a : Addr} {xs : List V} {R : It → Hp → Prop} (hv : σ[l]? = some (some (.ref a))) (hs : Both K H0 a xs) (s : Same H0 H)
    (k : ∀ J G, Walk J xs.length G (YPair (fun i => some (.int (i : Nat))) (fun i => xs[i]?)) → (∀ H', Same H0 H' → G H') → R J H) : iEnum K (tCons (tVar l) tNil) σ H R ∨ iEnumT K (tCons (tVar l) tNil) σ H R := by
  rcases hs with hs | hs
  · exact .inl ⟨_, hv, a, xs, rfl, hs _ s, k _ _ walk_enum hs⟩
  · exact .inr ⟨_, hv, a, xs, rfl, hs _ s, k _ _ walk_enumT hs⟩
end Ty

namespace Ty
open PySem PySem.Spec PyProof.Rows L2
/-! ### what laws reckon themselves, and rows that are drawn -/
/-- a / b in its one form, b above 0 -/
def spLow : Sp := fun vs H Q _ => ∃ a b : Int, vs = [.int a, .int b] ∧ 0 < b ∧ b.natAbs < 2 ^ 8900 ∧ ∀ v H', Same H H' → New H H' v (ofR (Rat.divInt a b)) → Q v H'
/-- two numbers -/
def spRat2 (f : Rat → Rat → Rat) : Sp := fun vs H Q _ => ∃ u v d e, vs = [u, v] ∧ Is H u d ∧ Is H v e ∧ isNum d = true ∧ isNum e = true ∧ Fit d e ∧ ∀ w H', Same H H' → New H H' w (ofR (f (rt d) (rt e))) → Q w H'
def fitR (p q : Rat) : Prop := ∃ m n, 0 < m ∧ 0 < n ∧ m + n ≤ 8900 ∧ Sz m p ∧ Sz n q
theorem fitR.fit {p q : Rat} (h : fitR p q) : Fit (ofR p) (ofR q) := by
  obtain ⟨m, n, h1, h2, h3, h4, h5⟩ := h
  exact ⟨m, n, h1, h2, h3, Sz.nb (ofR_num _) (by rw [rt_ofR]; exact h4), Sz.nb (ofR_num _) (by rw [rt_ofR]; exact h5)⟩
/-- a number that is drawn -/
def spNumR : Sp := fun vs H Q _ => ∃ (S : Addr → Bool) (j bk : Addr) (n : Nat), vs = [.ref j] ∧ S j = true ∧ Live S H ∧ Jar j bk H n ∧ n + 4 ≤ 100000 ∧
  ∀ v q H', Keep j H H' → Live S H' → Jar j bk H' (n + 4) → Is (mn S H') v (ofR q) → Sz 41 q → Q v H'
/-- a row that is drawn -/
def spRowR : Sp := fun vs H Q _ => ∃ (S : Addr → Bool) (j bk : Addr) (n : Nat) (most : Int), vs = [.ref j, .int most] ∧ S j = true ∧ Live S H ∧ Jar j bk H n ∧ 0 < most ∧ most ≤ 20 ∧ n + 101 ≤ 100000 ∧
  ∀ (v : V) (qs : List Rat) (H' : Hp), Keep j H H' → Live S H' → Jar j bk H' (n + 101) → Is (mn S H') v (.lst (qs.map ofR)) → 1 ≤ qs.length → (qs.length : Int) ≤ most → (∀ q ∈ qs, Sz 41 q) → Q v H'
section
variable {S : Addr → Bool} {j bk : Addr} {H0 H : Hp} {c c1 c2 n : Nat} {σ : L2.St} {te ta tb : TE}
theorem dr_lowR {Pa Pb : Int → Prop} (ha : Dr S j bk H0 c1 σ ta (fun d => ∃ i, d = .int i ∧ Pa i)) (hb : Dr S j bk H0 c2 σ tb (fun d => ∃ i, d = .int i ∧ Pb i)) (hp : ∀ b, Pb b → 0 < b ∧ b.natAbs < 2 ^ 8900) :
    Dr S j bk H0 (c1 + c2) σ (tCall spLow [] E0 (tCons ta (tCons tb tNil))) (fun d => ∃ a b, Pa a ∧ Pb b ∧ d = ofR (Rat.divInt a b)) := fun H n Q kp lv J hn k =>
  ha H n _ kp lv J (by omega) fun v d H1 k1 l1 J1 h1 p1 => hb H1 (n + c1) _ (kp.trans k1) l1 J1 (by omega) fun u e H2 k2 l2 J2 h2 p2 => by
    obtain ⟨a, rfl, pa⟩ := p1
    obtain ⟨b, rfl, pb⟩ := p2
    cases h1
    cases h2
    exact ⟨a, b, rfl, (hp b pb).1, (hp b pb).2, fun w H3 s3 n3 => k w _ H3 ((k1.trans k2).trans (Same.keep s3)) (l2.more s3) ((by rwa [Nat.add_assoc] at J2 : Jar j bk H2 (n + (c1 + c2))).up s3) (n3 S l2) ⟨a, b, pa, pb, rfl⟩⟩
theorem dr_numR {i : Nat} (hS : S j = true) (h : σ[i]? = some (some (.ref j))) : Dr S j bk H0 4 σ (tCall spNumR [] E0 (tCons (tVar i) tNil)) (fun d => ∃ q, d = ofR q ∧ Sz 41 q) := fun H n Q kp lv J hn k =>
  ⟨_, h, S, j, bk, n, rfl, hS, lv, J, hn, fun v q H' k' l' J' h' g => k v _ H' k' l' J' h' ⟨q, rfl, g⟩⟩
theorem dr_rowR {i : Nat} {most : Int} (hS : S j = true) (h : σ[i]? = some (some (.ref j))) (h0 : 0 < most) (h1 : most ≤ 20) : Dr S j bk H0 101 σ (tCall spRowR [] E0 (tCons (tVar i) (tCons (tC (.int most)) tNil)))
    (fun d => ∃ qs : List Rat, d = .lst (qs.map ofR) ∧ 1 ≤ qs.length ∧ (qs.length : Int) ≤ most ∧ ∀ q ∈ qs, Sz 41 q) := fun H n Q kp lv J hn k =>
  ⟨_, h, S, j, bk, n, most, rfl, hS, lv, J, h0, h1, hn, fun v qs H' k' l' J' h' g1 g2 g3 => k v _ H' k' l' J' h' ⟨qs, rfl, g1, g2, g3⟩⟩
end
/-- gcd of a positive divisor -/
theorem low_pos {a b : Int} (hb : 0 < b) : ((Nat.gcd a.natAbs b.natAbs : Nat) : Int) ≠ 0 ∧ ((Nat.gcd a.natAbs b.natAbs : Nat) : Int).natAbs ≤ b.natAbs ∧ frac (a.fdiv ((Nat.gcd a.natAbs b.natAbs : Nat) : Int)) (b.fdiv ((Nat.gcd a.natAbs b.natAbs : Nat) : Int)) = ofR (Rat.divInt a b) := by
  obtain ⟨g0, qp, low, one, gl⟩ := low_of (a := a) (b := b) (g := ((Nat.gcd a.natAbs b.natAbs : Nat) : Int)) (by omega) (by rw [if_neg (by omega)])
  exact ⟨g0, gl, low_ofR (by omega) low⟩
end Ty
namespace Ty
open PySem PySem.Spec PyProof.Rows L2
/-- a row told by lists and tuples -/
def spToldR : Sp := fun vs H Q _ => ∃ (S : Addr → Bool) (j bk : Addr) (n : Nat) (v : V) (qs : List Rat), vs = [.ref j, v] ∧ S j = true ∧ Live S H ∧ Jar j bk H n ∧ n + 30 ≤ 100000 ∧ Is (mn S H) v (.lst (qs.map ofR)) ∧ qs.length ≤ 25 ∧
  ∀ (w : V) (f : Da) (H' : Hp), Keep j H H' → Live S H' → Jar j bk H' (n + 30) → Is (mn S H') w f → isS f = true → (∀ e ∈ items f, isNum e = true) → rts f = qs → Q w H'
def spValR : Sp := fun vs H Q _ => ∃ (u v : V) (qs : List Rat) (x : Rat), vs = [u, v] ∧ Is H u (.lst (qs.map ofR)) ∧ Is H v (ofR x) ∧
  (∃ s t, 0 < s ∧ 0 < t ∧ (∀ q ∈ qs, Sz s q) ∧ Sz t x ∧ qs.length * (s + qs.length * t + 2) + s + qs.length * t + t + 3 ≤ 8900) ∧ qs.length ≤ 100 ∧ ∀ w H', Same H H' → New H H' w (ofR (hval qs x)) → Q w H'
def spSlopeR : Sp := fun vs H Q _ => ∃ (u : V) (qs : List Rat), vs = [u] ∧ Is H u (.lst (qs.map ofR)) ∧ 1 ≤ qs.length ∧ qs.length ≤ 25 ∧ FitS qs ∧ ∀ w H', Same H H' → New H H' w (.lst ((slope qs).map ofR)) → Q w H'
def spProdR : Sp := fun vs H Q _ => ∃ (u v : V) (p q : List Rat), vs = [u, v] ∧ Is H u (.lst (p.map ofR)) ∧ Is H v (.lst (q.map ofR)) ∧ 1 ≤ p.length ∧ p.length ≤ 26 ∧ 1 ≤ q.length ∧ q.length ≤ 26 ∧ FitP p q ∧ ∀ w H', Same H H' → New H H' w (.lst ((conv p q).map ofR)) → Q w H'
theorem FoundI.lst {H2 H' : Hp} {D : Addr} {l : List Rat} (h : FoundI H2 D l H') : New H2 H' (.ref D) (.lst (l.map ofR)) := fun S lv => by
  obtain ⟨h1, h2, vals, h3, h4⟩ := h
  have e : S D = false := by
    cases q : S D with
    | false => rfl
    | true => exact absurd h2 (lv D q)
  exact .lst (by rw [mn_at e]; exact h3) ((h4 S lv).up (mn_mono fun b hb => wth_sub hb))
/-- the items of a list of rationals -/
theorem Is.rats {H : Hp} {v : V} {qs : List Rat} (h : Is H v (.lst (qs.map ofR))) : ∃ a xs, v = .ref a ∧ H a = some (.lst xs) ∧ xs.length = qs.length ∧ IsAll H xs (qs.map ofR) := by
  cases h with
  | lst e hx => exact ⟨_, _, rfl, e, by rw [hx.length, List.length_map], hx⟩
theorem rats_at {H : Hp} {xs : List V} {qs : List Rat} {i : Nat} {x : V} (h : IsAll H xs (qs.map ofR)) (e : xs[i]? = some x) : ∃ q, qs[i]? = some q ∧ Is H x (ofR q) := by
  obtain ⟨d, e1, e2⟩ := h.at e
  rw [List.getElem?_map] at e1
  cases eq : qs[i]? with
  | none => rw [eq] at e1; cases e1
  | some q =>
    rw [eq] at e1
    cases e1
    exact ⟨q, rfl, e2⟩
end Ty

namespace Ty
open PySem PySem.Spec PyProof.Rows L2
/-! ### sizes of what rows give -/
theorem hval_sz {s t : Nat} {x : Rat} (hx : Sz t x) : ∀ (l : List Rat), (∀ q ∈ l, Sz s q) → Sz (l.length * (s + t + 1) + 1) (hval l x)
  | [], _ => sz_zero.more (by omega)
  | c :: l, h => by
    have ih := hval_sz hx l fun q hq => h q (List.mem_cons_of_mem _ hq)
    have e : (c :: l).length * (s + t + 1) + 1 = l.length * (s + t + 1) + 1 + t + s + 1 := by
      rw [List.length_cons, Nat.succ_mul]
      omega
    rw [hval_cons, e]
    exact (ih.mul hx).add (h c List.mem_cons_self)
theorem wsl_sz {s : Nat} : ∀ (l : List Rat) (k : Nat), k + l.length ≤ 30 → (∀ q ∈ l, Sz s q) → ∀ c ∈ wsl (k : Rat) l, Sz (5 + s) c
  | [], k, _, _, c, hc => by cases hc
  | a :: l, k, hk, h, c, hc => by
    have hl : (a :: l).length = l.length + 1 := rfl
    rcases List.mem_cons.mp hc with z | z
    · rw [z]
      have sk : Sz 5 ((k : Nat) : Rat) := ⟨by
        have : ((k : Nat) : Rat).num = (k : Int) := rfl
        rw [this, Int.natAbs_natCast]
        omega, by
        have : ((k : Nat) : Rat).den = 1 := rfl
        rw [this]
        decide⟩
      exact sk.mul (h a List.mem_cons_self)
    · have e : ((k : Nat) : Rat) + 1 = ((k + 1 : Nat) : Rat) := by push_cast; rfl
      rw [e] at z
      exact wsl_sz l (k + 1) (by omega) (fun q hq => h q (List.mem_cons_of_mem _ hq)) c z
theorem slope_sz {s : Nat} {l : List Rat} (hl : l.length ≤ 28) (h : ∀ q ∈ l, Sz s q) : ∀ c ∈ slope l, Sz (5 + s) c := by
  match l, hl, h with
  | [], _, _ => intro c hc; cases hc
  | [a], _, _ =>
    intro c hc
    rw [List.mem_singleton.mp hc]
    exact sz_zero.more (by omega)
  | a :: b :: m, hl, h =>
    intro c hc
    have hl' : m.length + 1 + 1 ≤ 28 := hl
    have e : (1 : Rat) = ((1 : Nat) : Rat) := rfl
    have hc' : c ∈ wsl 1 (b :: m) := hc
    rw [e] at hc'
    exact wsl_sz (b :: m) 1 (by show 1 + (m.length + 1) ≤ 30; omega) (fun q hq => h q (List.mem_cons_of_mem _ hq)) c hc'
theorem slope_len {l : List Rat} (h : 1 ≤ l.length) : 1 ≤ (slope l).length ∧ (slope l).length ≤ l.length := by
  match l, h with
  | [a], _ => exact ⟨Nat.le_refl _, Nat.le_refl _⟩
  | a :: b :: m, _ =>
    have e : (slope (a :: b :: m)).length = (b :: m).length := wsl_len 1 (b :: m)
    rw [e]
    exact ⟨by show 1 ≤ m.length + 1; omega, by show m.length + 1 ≤ m.length + 1 + 1; omega⟩
theorem convIn_sz {s t b : Nat} {p : Rat} {q : List Rat} (hp : Sz s p) (hq : ∀ x ∈ q, Sz t x) {i : Nat} {l : List Rat} (hl : i + q.length ≤ l.length) (h : ∀ x ∈ l, Sz b x) :
    ∀ m, m ≤ q.length → ∀ k c, (convIn p i q l m)[k]? = some c → Sz (b + (s + t) + 1) c ∧ (i + m ≤ k → Sz b c)
  | 0, _, k, c, hk => ⟨(h c (List.mem_of_getElem? hk)).more (by omega), fun _ => h c (List.mem_of_getElem? hk)⟩
  | m + 1, hm, k, c, hk => by
    have ih := convIn_sz hp hq hl h m (by omega)
    have len := convIn_len p i q l m
    have lt : i + m < (convIn p i q l m).length := by omega
    rw [convIn_next, addAt_at _ _ _ _ lt] at hk
    by_cases e : k = i + m
    · rw [if_pos e] at hk
      cases hk
      have g := List.getElem?_eq_getElem lt
      rw [getD_at g]
      have gq : q[m]? = some q[m] := List.getElem?_eq_getElem (by omega)
      rw [getD_at gq]
      exact ⟨((ih _ _ g).2 (Nat.le_refl _)).add (hp.mul (hq _ (List.mem_of_getElem? gq))), fun z => by omega⟩
    · rw [if_neg e] at hk
      have r := ih k c hk
      exact ⟨r.1, fun z => r.2 (by omega)⟩
theorem convOut_sz {s t : Nat} {p q l : List Rat} (hp : ∀ x ∈ p, Sz s x) (hq : ∀ x ∈ q, Sz t x) (hl : p.length + q.length ≤ l.length + 1) (h : ∀ x ∈ l, Sz 1 x) : ∀ m, m ≤ p.length → ∀ c ∈ convOut p q l m, Sz (m * (s + t + 1) + 1) c
  | 0, _, c, hc => (h c hc).more (by omega)
  | m + 1, hm, c, hc => by
    have ih := convOut_sz hp hq hl h m (by omega)
    have gp : p[m]? = some p[m] := List.getElem?_eq_getElem (by omega)
    rw [convOut_next, getD_at gp] at hc
    obtain ⟨k, hk⟩ := List.getElem?_of_mem hc
    have r := (convIn_sz (hp _ (List.mem_of_getElem? gp)) hq (by rw [convOut_len]; omega) ih q.length (Nat.le_refl _) k c hk).1
    have e : (m + 1) * (s + t + 1) + 1 = m * (s + t + 1) + 1 + (s + t) + 1 := by
      rw [Nat.succ_mul]
      omega
    rw [e]
    exact r
theorem conv_sz {s t : Nat} {p q : List Rat} (hp : ∀ x ∈ p, Sz s x) (hq : ∀ x ∈ q, Sz t x) (h0 : 0 < p.length) : ∀ c ∈ conv p q, Sz (p.length * (s + t + 1) + 1) c :=
  convOut_sz hp hq (by rw [List.length_replicate]; omega) (fun x hx => by rw [List.eq_of_mem_replicate hx]; exact sz_zero) p.length (Nat.le_refl _)
/-! ### rows can be shown -/
theorem items_show : ∀ (l : List Da), (∀ e ∈ l, isNum e = true) → (∀ e ∈ l, NB 1900 e) → numsA l = true ∧ dpA l ≤ 1 ∧ wtA l ≤ l.length * 4002
  | [], _, _ => ⟨rfl, Nat.zero_le _, Nat.zero_le _⟩
  | d :: l, hn, hb => by
    obtain ⟨a1, a2, a3⟩ := num_show (hn d List.mem_cons_self) (hb d List.mem_cons_self)
    obtain ⟨b1, b2, b3⟩ := items_show l (fun e he => hn e (List.mem_cons_of_mem _ he)) (fun e he => hb e (List.mem_cons_of_mem _ he))
    refine ⟨?_, ?_, ?_⟩
    · show (nums d && numsA l) = true
      rw [a1, b1]
      rfl
    · show max (dp d) (dpA l) ≤ 1
      omega
    · show wt d + 2 + wtA l ≤ (l.length + 1) * 4002
      omega
theorem row_show {d : Da} (s : isS d = true) (hn : ∀ e ∈ items d, isNum e = true) (hb : ∀ e ∈ items d, NB 1900 e) : nums d = true ∧ dp d ≤ 2 ∧ wt d ≤ (items d).length * 4002 + 10 := by
  obtain ⟨a1, a2, a3⟩ := items_show (items d) hn hb
  cases d with
  | tup l =>
    have a2' : dpA l ≤ 1 := a2
    have a3' : wtA l ≤ l.length * 4002 := a3
    exact ⟨a1, by show dpA l + 1 ≤ 2; omega, by show wtA l + 10 ≤ l.length * 4002 + 10; omega⟩
  | lst l =>
    have a2' : dpA l ≤ 1 := a2
    have a3' : wtA l ≤ l.length * 4002 := a3
    exact ⟨a1, by show dpA l + 1 ≤ 2; omega, by show wtA l + 10 ≤ l.length * 4002 + 10; omega⟩
  | _ => cases s
theorem row_okr {d : Da} (s : isS d = true) (hl : (items d).length ≤ 100) (hn : ∀ e ∈ items d, isNum e = true) (hb : ∀ e ∈ items d, NB 1900 e) : okr d = true := by
  obtain ⟨a1, a2, a3⟩ := row_show s hn hb
  unfold okr
  rw [a1, decide_eq_true (by omega : dp d ≤ 60), decide_eq_true (by omega : wt d ≤ 16000000)]
  rfl
theorem rats_okr {l : List Rat} (hl : l.length ≤ 100) (h : ∀ q ∈ l, Sz 1900 q) : okr (.tup (l.map ofR)) = true ∧ okr (.lst (l.map ofR)) = true := by
  have hn : ∀ e ∈ l.map ofR, isNum e = true := fun e he => by
    obtain ⟨q, _, rfl⟩ := List.mem_map.mp he
    exact ofR_num q
  have hb : ∀ e ∈ l.map ofR, NB 1900 e := fun e he => by
    obtain ⟨q, hq, rfl⟩ := List.mem_map.mp he
    exact Sz.nb (ofR_num q) (by rw [rt_ofR]; exact h q hq)
  exact ⟨row_okr (d := .tup (l.map ofR)) rfl (by show (l.map ofR).length ≤ 100; rw [List.length_map]; exact hl) hn hb, row_okr (d := .lst (l.map ofR)) rfl (by show (l.map ofR).length ≤ 100; rw [List.length_map]; exact hl) hn hb⟩
theorem rat_okr {q : Rat} (h : Sz 1900 q) : okr (ofR q) = true := num_okr (ofR_num q) (Sz.nb (ofR_num q) (by rw [rt_ofR]; exact h))
/-- what holds rationals is a row -/
theorem isRow_rats {l : List Rat} (h1 : 1 ≤ l.length) (h2 : l.length ≤ 25) : isRow (.tup (l.map ofR)) = true ∧ isRow (.lst (l.map ofR)) = true ∧ rts (.tup (l.map ofR)) = l ∧ rts (.lst (l.map ofR)) = l := by
  have e1 : (l.map ofR).all isNum = true := by
    rw [List.all_eq_true]
    intro e he
    obtain ⟨q, _, rfl⟩ := List.mem_map.mp he
    exact ofR_num q
  have e2 : (l.map ofR).map rt = l := by
    rw [List.map_map]
    conv => rhs; rw [← List.map_id l]
    exact List.map_congr_left fun q _ => rt_ofR q
  have e3 : decide (1 ≤ (l.map ofR).length ∧ (l.map ofR).length ≤ 25) = true := decide_eq_true (by rw [List.length_map]; exact ⟨h1, h2⟩)
  refine ⟨?_, ?_, e2, e2⟩
  · show (true && (decide (1 ≤ (l.map ofR).length ∧ (l.map ofR).length ≤ 25) && (l.map ofR).all isNum)) = true
    rw [e1, e3]
    rfl
  · show (true && (decide (1 ≤ (l.map ofR).length ∧ (l.map ofR).length ≤ 25) && (l.map ofR).all isNum)) = true
    rw [e1, e3]
    rfl
/-! ### data compared -/
mutual
/-- no text, no dict -/
def plain : Da → Bool
  | .str _ => false
  | .dic => false
  | .tup l => plainA l
  | .lst l => plainA l
  | _ => true
def plainA : List Da → Bool
  | [] => true
  | d :: l => plain d && plainA l
end
mutual
theorem eqv_refl : ∀ d : Da, plain d = true → PyData.eqv (pd d) (pd d) = true ∧ PyData.canLay0 (pd d) = true
  | .non, _ => ⟨rfl, rfl⟩
  | .bl b, _ => by cases b <;> exact ⟨rfl, rfl⟩
  | .int i, _ => ⟨by show (i == i) = true; simp, rfl⟩
  | .str _, h => by cases h
  | .dic, h => by cases h
  | .tup l, h => eqvA_refl l h
  | .lst l, h => eqvA_refl l h
theorem eqvA_refl : ∀ l : List Da, plainA l = true → PyData.eqvAll (pdA l) (pdA l) = true ∧ PyData.canLayAll0 (pdA l) = true
  | [], _ => ⟨rfl, rfl⟩
  | d :: l, h => by
    have h' : (plain d && plainA l) = true := h
    rw [Bool.and_eq_true] at h'
    obtain ⟨a1, a2⟩ := eqv_refl d h'.1
    obtain ⟨b1, b2⟩ := eqvA_refl l h'.2
    constructor
    · show (PyData.eqv (pd d) (pd d) && PyData.eqvAll (pdA l) (pdA l)) = true
      rw [a1, b1]
      rfl
    · show (PyData.canLay0 (pd d) && PyData.canLayAll0 (pdA l)) = true
      rw [a2, b2]
      rfl
end
theorem plain_num {d : Da} (h : isNum d = true) : plain d = true ∧ dp d ≤ 1 := by
  have two : ∀ l, isPair l = true → ∃ a b : Int, l = [.int a, .int b] := fun l hl => by
    match l, hl with
    | [.int a, .int b], hl => exact ⟨a, b, rfl⟩
  cases d with
  | int i => exact ⟨rfl, by show 0 ≤ 1; decide⟩
  | tup l =>
    obtain ⟨x, y, rfl⟩ := two l (by simpa [isNum, isN, isS, items] using h)
    exact ⟨rfl, by show 1 ≤ 1; decide⟩
  | lst l =>
    obtain ⟨x, y, rfl⟩ := two l (by simpa [isNum, isN, isS, items] using h)
    exact ⟨rfl, by show 1 ≤ 1; decide⟩
  | _ => cases h
theorem plain_rats : ∀ l : List Rat, plainA (l.map ofR) = true ∧ dpA (l.map ofR) ≤ 1
  | [] => ⟨rfl, Nat.zero_le _⟩
  | q :: l => by
    obtain ⟨a1, a2⟩ := plain_num (ofR_num q)
    obtain ⟨b1, b2⟩ := plain_rats l
    constructor
    · show (plain (ofR q) && plainA (l.map ofR)) = true
      rw [a1, b1]
      rfl
    · show max (dp (ofR q)) (dpA (l.map ofR)) ≤ 1
      omega
theorem shaped_rats (l : List Rat) : SeqAt.shaped (pd (.tup (l.map ofR))) = true ∧ SeqAt.shaped (pd (.lst (l.map ofR))) = true ∧ PyData.eqv (pd (.tup (l.map ofR))) (pd (.tup (l.map ofR))) = true ∧ PyData.eqv (pd (.lst (l.map ofR))) (pd (.lst (l.map ofR))) = true := by
  obtain ⟨a1, a2⟩ := plain_rats l
  obtain ⟨b1, b2⟩ := eqvA_refl _ a1
  have e1 : PyData.depth (pd (.tup (l.map ofR))) ≤ 64 := by
    rw [dp_eq]
    show dpA (l.map ofR) + 1 ≤ 64
    omega
  have e2 : PyData.depth (pd (.lst (l.map ofR))) ≤ 64 := e1
  have c1 : PyData.canLay0 (pd (.tup (l.map ofR))) = true := b2
  have c2 : PyData.canLay0 (pd (.lst (l.map ofR))) = true := b2
  refine ⟨?_, ?_, b1, b1⟩
  · unfold SeqAt.shaped
    rw [c1, decide_eq_true e1]
    rfl
  · unfold SeqAt.shaped
    rw [c2, decide_eq_true e2]
    rfl
theorem shaped_num {d : Da} (h : isNum d = true) : SeqAt.shaped (pd d) = true := by
  obtain ⟨a1, a2⟩ := plain_num h
  obtain ⟨b1, b2⟩ := eqv_refl _ a1
  unfold SeqAt.shaped
  rw [b2, decide_eq_true (by rw [dp_eq]; omega)]
  rfl
/-! ### what is asked of rows -/
def numb (m : Str) : Da := .tup [.str "number", .str m]
def manyD : Da := .tup [.str "many", .str "numbers", .int 25]
def spAsk (C C2 : Addr) : Sp := fun vs H Q E => ∃ w u v d e, vs = [.str w, u, v] ∧ Is H u d ∧ Is H v e ∧
  ((w = "value" ∧ (isRow d = false → Out1 C "part" (.str "row") H E) ∧ (isRow d = true → isNum e = false → Out1 C "part" (.str "number") H E) ∧
      (isRow d = true → isNum e = true → FitV (rts d) (rt e) ∧ ∀ x H', Same H H' → New H H' x (ofR (hval (rts d) (rt e))) → Q x H')) ∨
   (w = "slope" ∧ (isRow d = false → Out1 C "part" (.str "row") H E) ∧ (isRow d = true → FitS (rts d) ∧ ∀ x H', Same H H' → New H H' x (.tup ((slope (rts d)).map ofR)) → Q x H')) ∨
   (w = "product" ∧ (isRow d = false → Out1 C "part" (.str "one") H E) ∧ (isRow d = true → isRow e = false → Out1 C "part" (.str "other") H E) ∧
      (isRow d = true → isRow e = true → 26 < (items d).length + (items e).length → Out2 C2 "what" (.str "numbers") "most" (.int 25) H E) ∧
      (isRow d = true → isRow e = true → (items d).length + (items e).length ≤ 26 → FitP (rts d) (rts e) ∧ ∀ x H', Same H H' → New H H' x (.tup ((conv (rts d) (rts e)).map ofR)) → Q x H')))
def spHear : Sp := fun vs H Q _ => ∃ w u v d e, vs = [.str w, u, v] ∧ Is H u d ∧ Is H v e ∧
  ((w = "value" ∧ (isRow d = false → ∀ x H', Same H H' → New H H' x (numb "row") → Q x H') ∧ (isRow d = true → isNum e = false → ∀ x H', Same H H' → New H H' x (numb "number") → Q x H') ∧
      (isRow d = true → isNum e = true → FitV (rts d) (rt e) ∧ ∀ x H', Same H H' → New H H' x (ofR (hval (rts d) (rt e))) → Q x H')) ∨
   (w = "slope" ∧ (isRow d = false → ∀ x H', Same H H' → New H H' x (numb "row") → Q x H') ∧ (isRow d = true → FitS (rts d) ∧ ∀ x H', Same H H' → New H H' x (.tup ((slope (rts d)).map ofR)) → Q x H')) ∨
   (w = "product" ∧ (isRow d = false → ∀ x H', Same H H' → New H H' x (numb "one") → Q x H') ∧ (isRow d = true → isRow e = false → ∀ x H', Same H H' → New H H' x (numb "other") → Q x H') ∧
      (isRow d = true → isRow e = true → 26 < (items d).length + (items e).length → ∀ x H', Same H H' → New H H' x manyD → Q x H') ∧
      (isRow d = true → isRow e = true → (items d).length + (items e).length ≤ 26 → FitP (rts d) (rts e) ∧ ∀ x H', Same H H' → New H H' x (.tup ((conv (rts d) (rts e)).map ofR)) → Q x H')))
end Ty
namespace Ty
open PySem PySem.Spec PyProof.Rows L2
def spRightR (c : Nat) : Sp := fun vs H Q _ => ∃ (S : Addr → Bool) (j bk : Addr) (n : Nat), vs = [.ref j] ∧ S j = true ∧ Live S H ∧ Jar j bk H n ∧ n + c ≤ 100000 ∧ ∀ H', Keep j H H' → Live S H' → Jar j bk H' (n + c) → Q (.bl true) H'
section
variable {K : PySem.W.Frag} {S : Addr → Bool} {j bk : Addr} {H0 H : Hp} {c c1 c2 n : Nat} {σ : L2.St} {te ta tb : TE}
theorem dr_toldR {i l : Nat} {v : V} {qs : List Rat} (hS : S j = true) (h : σ[i]? = some (some (.ref j))) (h2 : σ[l]? = some (some v)) (hv : Is (mn S H0) v (.lst (qs.map ofR))) (hl : qs.length ≤ 25) :
    Dr S j bk H0 30 σ (tCall spToldR [] E0 (tCons (tVar i) (tCons (tVar l) tNil))) (fun f => isS f = true ∧ (∀ e ∈ items f, isNum e = true) ∧ rts f = qs) := fun H n Q kp lv J hn k =>
  ⟨_, h, _, h2, S, j, bk, n, v, qs, rfl, hS, lv, J, hn, hv.up (kp.less hS), hl, fun w f H' k' l' J' h' g1 g2 g3 => k w f H' k' l' J' h' ⟨g1, g2, g3⟩⟩
/-- told([x])[0] -/
theorem dr_firstR {i l : Nat} {v : V} {x : Rat} (hS : S j = true) (h : σ[i]? = some (some (.ref j))) (h2 : σ[l]? = some (some v)) (hv : Is (mn S H0) v (ofR x)) :
    Dr S j bk H0 30 σ (tOp (fun x y H Q => rIxL K x y H Q ∨ rIxT K x y H Q) (tCall spToldR [] E0 (tCons (tVar i) (tCons (tLst (tCons (tVar l) tNil)) tNil))) (tC (.int 0))) (fun e => isNum e = true ∧ rt e = x) := fun H n Q kp lv J hn k =>
  ⟨_, h, _, h2, (by decide : 1 ≤ sizeLine), fun p hp => ⟨S, j, bk, n, .ref p, [x], rfl, hS, lv.more (Same.new hp), J.up (Same.new hp), hn, .lst (mn_put lv hp) (.cons ((hv.up (kp.less hS)).up (Same.less (Same.new hp))) .nil), by show 1 ≤ 25; decide, fun w f H' k' l' J' h' g1 g2 g3 => by
    have lenf : (items f).length = 1 := by rw [← rts_len, g3]; rfl
    obtain ⟨e, ef⟩ : ∃ e, items f = [e] := by
      match items f, lenf with
      | [e], _ => exact ⟨e, rfl⟩
    have ne := g2 e (by rw [ef]; exact List.mem_singleton.mpr rfl)
    have re : rt e = x := by
      have q : (items f).map rt = [x] := g3
      rw [ef] at q
      exact List.head_eq_of_cons_eq q
    have s1 : Same H (upd H p (.lst [v])) := Same.new hp
    cases h' with
    | tup e1 hx =>
      have hx' := hx
      rw [show items (Da.tup _) = _ from rfl] at ef
      subst ef
      cases hx with
      | cons hv1 t =>
        cases t
        exact .inr ⟨_, _, 0, _, rfl, rfl, .inl (.inl (mn_of e1).2), rfl, k _ e H' ((Same.keep s1).trans k') l' J' hv1 ⟨ne, re⟩⟩
    | lst e1 hx =>
      rw [show items (Da.lst _) = _ from rfl] at ef
      subst ef
      cases hx with
      | cons hv1 t =>
        cases t
        exact .inl ⟨_, _, 0, _, rfl, rfl, .inl (.inl (mn_of e1).2), rfl, k _ e H' ((Same.keep s1).trans k') l' J' hv1 ⟨ne, re⟩⟩
    | _ => cases g1⟩⟩
end
theorem row_nb {d : Da} {s : Nat} (hn : ∀ e ∈ items d, isNum e = true) (h : ∀ q ∈ rts d, Sz s q) (l : s ≤ 1900) : ∀ e ∈ items d, NB 1900 e := fun e he => Sz.nb (hn e he) ((h (rt e) (List.mem_map.mpr ⟨e, he, rfl⟩)).more l)
theorem isRow_of {d : Da} (s : isS d = true) (hn : ∀ e ∈ items d, isNum e = true) (h1 : 1 ≤ (items d).length) (h2 : (items d).length ≤ 25) : isRow d = true := by
  unfold isRow
  rw [s, decide_eq_true ⟨h1, h2⟩, List.all_eq_true.mpr hn]
  rfl
theorem okr3 {f g e : Da} (s1 : isS f = true) (n1 : ∀ e ∈ items f, isNum e = true) (b1 : ∀ e ∈ items f, NB 1900 e) (l1 : (items f).length ≤ 100) (s2 : isS g = true) (n2 : ∀ e ∈ items g, isNum e = true) (b2 : ∀ e ∈ items g, NB 1900 e) (l2 : (items g).length ≤ 100)
    (n3 : isNum e = true) (b3 : NB 1900 e) : okr (.lst [f, g, e]) = true := by
  obtain ⟨x1, x2, x3⟩ := row_show s1 n1 b1
  obtain ⟨y1, y2, y3⟩ := row_show s2 n2 b2
  obtain ⟨z1, z2, z3⟩ := num_show n3 b3
  have e1 : nums (.lst [f, g, e]) = true := by
    show (nums f && (nums g && (nums e && true))) = true
    rw [x1, y1, z1]
    rfl
  have e2 : dp (.lst [f, g, e]) ≤ 60 := by
    show max (dp f) (max (dp g) (max (dp e) 0)) + 1 ≤ 60
    omega
  have e3 : wt (.lst [f, g, e]) ≤ 16000000 := by
    show wt f + 2 + (wt g + 2 + (wt e + 2 + 0)) + 10 ≤ 16000000
    omega
  unfold okr
  rw [e1, decide_eq_true e2, decide_eq_true e3]
  rfl
end Ty
namespace Ty
open PySem PySem.Spec PyProof.Rows L2
theorem isAll_app {G : Hp} : ∀ {d1 : List Da} {xs ys : List V} {d2 : List Da}, IsAll G xs d1 → IsAll G ys d2 → IsAll G (xs ++ ys) (d1 ++ d2)
  | [], _, _, _, h, k => by cases h; exact k
  | _ :: _, _, _, _, h, k => by
    cases h with
    | cons h t => exact .cons h (isAll_app t k)
theorem isAll_rep {G : Hp} {xs : List V} {ds : List Da} (h : IsAll G xs ds) : ∀ n : Nat, IsAll G (List.replicate n xs).flatten (List.replicate n ds).flatten
  | 0 => .nil
  | n + 1 => by
    rw [List.replicate_succ, List.replicate_succ, List.flatten_cons, List.flatten_cons]
    exact isAll_app h (isAll_rep h n)
theorem dr_repE {S : Addr → Bool} {j bk : Addr} {H0 : Hp} {σ : L2.St} {ta tb : TE} {ds : List Da} {k : Int} (hj : S j = true) (ha : Dr S j bk H0 0 σ ta (· = .lst ds)) (hb : Dr S j bk H0 0 σ tb (· = .int k)) (k0 : 0 ≤ k) (k1 : k ≤ 1000) (hl : ds.length ≤ 1000) :
    Dr S j bk H0 0 σ (tOp rRep ta tb) (· = .lst (List.replicate k.toNat ds).flatten) := fun H n Q kp lv J hn kk =>
  ha H n _ kp lv J hn fun v d H1 k1' l1 J1 h1 p1 => hb H1 n _ (kp.trans k1') l1 J1 hn fun u e H2 k2 l2 J2 h2 p2 => by
    subst p1
    subst p2
    have h1' := h1.up (k2.less hj)
    cases h2
    cases h1' with
    | @lst a xs _ e1 x1 =>
      refine ⟨a, k, xs, rfl, rfl, (mn_of e1).2, by omega, by omega, ?_, fun p hp => ?_⟩
      · rw [x1.length]
        exact Nat.le_trans (Nat.mul_le_mul hl (show k.toNat ≤ 1000 by omega)) (by decide)
      · exact kk _ _ _ ((k1'.trans k2).trans (Same.keep (Same.new hp))) (l2.more (Same.new hp)) (J2.up (Same.new hp)) (.lst (mn_put l2 hp) ((isAll_rep x1 _).up (Same.less (Same.new hp)))) rfl
theorem rep_one (n : Nat) : (List.replicate n [Da.int 1]).flatten = (List.replicate n (1 : Rat)).map ofR := by
  induction n with
  | zero => rfl
  | succ n ih =>
    rw [List.replicate_succ, List.replicate_succ, List.flatten_cons, List.map_cons, ih, show (1 : Rat) = ((1 : Int) : Rat) from rfl, ofR_int]
    rfl
theorem sz_small {i : Int} (h : i.natAbs < 2 ^ 5) : Sz 5 (i : Rat) := by
  rw [← rt_int]
  exact sz_nb rfl ⟨h, by show (1 : Int).natAbs < 2 ^ 5; decide⟩
end Ty

namespace Ty
open PySem PySem.Spec PyProof.Rows L2
def top (i : Nat) : Stmt := PySem.Challenge.pw_typedcurve_k06_rows_valued_and_multiplie.main.body.getD i (.Pass ⟨0, 0, 0, 0⟩)
abbrev s_parts_of : Stmt := top 2
abbrev N_parts_of : List Str := ["number", "above", "below"]
theorem sc_parts_of : FnScope N_parts_of ["number"] (defScope s_parts_of) := ⟨rfl, rfl, rfl, by decide +kernel, rfl, by decide +kernel, by decide +kernel⟩
abbrev s_number_of : Stmt := top 3
abbrev N_number_of : List Str := ["above", "below", "shared"]
theorem sc_number_of : FnScope N_number_of ["above", "below"] (defScope s_number_of) := ⟨rfl, rfl, rfl, by decide +kernel, rfl, by decide +kernel, by decide +kernel⟩
abbrev s_sum_of : Stmt := top 4
abbrev N_sum_of : List Str := ["one", "other", "one_above", "one_below", "other_above", "other_below"]
theorem sc_sum_of : FnScope N_sum_of ["one", "other"] (defScope s_sum_of) := ⟨rfl, rfl, rfl, by decide +kernel, rfl, by decide +kernel, by decide +kernel⟩
abbrev s_product_of : Stmt := top 5
abbrev N_product_of : List Str := ["one", "other", "one_above", "one_below", "other_above", "other_below"]
theorem sc_product_of : FnScope N_product_of ["one", "other"] (defScope s_product_of) := ⟨rfl, rfl, rfl, by decide +kernel, rfl, by decide +kernel, by decide +kernel⟩
abbrev s_is_list : Stmt := top 7
abbrev N_is_list : List Str := ["value"]
theorem sc_is_list : FnScope N_is_list ["value"] (defScope s_is_list) := ⟨rfl, rfl, rfl, by decide +kernel, rfl, by decide +kernel, by decide +kernel⟩
abbrev s_is_integer : Stmt := top 8
abbrev N_is_integer : List Str := ["value"]
theorem sc_is_integer : FnScope N_is_integer ["value"] (defScope s_is_integer) := ⟨rfl, rfl, rfl, by decide +kernel, rfl, by decide +kernel, by decide +kernel⟩
abbrev s_is_within : Stmt := top 9
abbrev N_is_within : List Str := ["value", "least", "most"]
theorem sc_is_within : FnScope N_is_within ["value", "least", "most"] (defScope s_is_within) := ⟨rfl, rfl, rfl, by decide +kernel, rfl, by decide +kernel, by decide +kernel⟩
abbrev s_is_number : Stmt := top 10
abbrev N_is_number : List Str := ["value", "above", "below"]
theorem sc_is_number : FnScope N_is_number ["value"] (defScope s_is_number) := ⟨rfl, rfl, rfl, by decide +kernel, rfl, by decide +kernel, by decide +kernel⟩
abbrev s_need_number : Stmt := top 16
abbrev N_need_number : List Str := ["value", "part"]
theorem sc_need_number : FnScope N_need_number ["value", "part"] (defScope s_need_number) := ⟨rfl, rfl, rfl, by decide +kernel, rfl, by decide +kernel, by decide +kernel⟩
abbrev s_value_at : Stmt := top 19
abbrev N_value_at : List Str := ["row", "number", "total", "factor"]
theorem sc_value_at : FnScope N_value_at ["row", "number"] (defScope s_value_at) := ⟨rfl, rfl, rfl, by decide +kernel, rfl, by decide +kernel, by decide +kernel⟩
abbrev s_slope_row : Stmt := top 20
abbrev N_slope_row : List Str := ["row", "power"]
theorem sc_slope_row : FnScope N_slope_row ["row"] (defScope s_slope_row) := ⟨rfl, rfl, rfl, by decide +kernel, rfl, by decide +kernel, by decide +kernel⟩
abbrev s_row_product : Stmt := top 21
abbrev N_row_product : List Str := ["one", "other", "many", "found", "low", "left", "high", "right"]
theorem sc_row_product : FnScope N_row_product ["one", "other"] (defScope s_row_product) := ⟨rfl, rfl, rfl, by decide +kernel, rfl, by decide +kernel, by decide +kernel⟩
abbrev s_need_row : Stmt := top 22
abbrev N_need_row : List Str := ["value", "part", "number"]
theorem sc_need_row : FnScope N_need_row ["value", "part"] (defScope s_need_row) := ⟨rfl, rfl, rfl, by decide +kernel, rfl, by decide +kernel, by decide +kernel⟩
abbrev s_law_vat : Stmt := top 24
abbrev N_law_vat : List Str := ["script", "cell"]
theorem sc_law_vat : FnScope N_law_vat ["script"] (defScope s_law_vat) := ⟨rfl, rfl, rfl, by decide +kernel, rfl, by decide +kernel, by decide +kernel⟩
abbrev s_law_tap : Stmt := top 25
abbrev N_law_tap : List Str := ["vat", "many", "left", "at", "cell", "mixed"]
theorem sc_law_tap : FnScope N_law_tap ["vat", "many"] (defScope s_law_tap) := ⟨rfl, rfl, rfl, by decide +kernel, rfl, by decide +kernel, by decide +kernel⟩
abbrev s_law_one : Stmt := top 26
abbrev N_law_one : List Str := ["vat", "some"]
theorem sc_law_one : FnScope N_law_one ["vat", "some"] (defScope s_law_one) := ⟨rfl, rfl, rfl, by decide +kernel, rfl, by decide +kernel, by decide +kernel⟩
abbrev s_law_common : Stmt := top 27
abbrev N_law_common : List Str := ["one", "other"]
theorem sc_law_common : FnScope N_law_common ["one", "other"] (defScope s_law_common) := ⟨rfl, rfl, rfl, by decide +kernel, rfl, by decide +kernel, by decide +kernel⟩
abbrev s_law_lowest : Stmt := top 28
abbrev N_law_lowest : List Str := ["above", "under", "part"]
theorem sc_law_lowest : FnScope N_law_lowest ["above", "under"] (defScope s_law_lowest) := ⟨rfl, rfl, rfl, by decide +kernel, rfl, by decide +kernel, by decide +kernel⟩
abbrev s_law_ends : Stmt := top 29
abbrev N_law_ends : List Str := ["number"]
theorem sc_law_ends : FnScope N_law_ends ["number"] (defScope s_law_ends) := ⟨rfl, rfl, rfl, by decide +kernel, rfl, by decide +kernel, by decide +kernel⟩
abbrev s_law_plus : Stmt := top 30
abbrev N_law_plus : List Str := ["one", "other", "above", "under", "its", "its_under"]
theorem sc_law_plus : FnScope N_law_plus ["one", "other"] (defScope s_law_plus) := ⟨rfl, rfl, rfl, by decide +kernel, rfl, by decide +kernel, by decide +kernel⟩
abbrev s_law_times : Stmt := top 31
abbrev N_law_times : List Str := ["one", "other", "above", "under", "its", "its_under"]
theorem sc_law_times : FnScope N_law_times ["one", "other"] (defScope s_law_times) := ⟨rfl, rfl, rfl, by decide +kernel, rfl, by decide +kernel, by decide +kernel⟩
abbrev s_law_number : Stmt := top 32
abbrev N_law_number : List Str := ["vat", "size"]
theorem sc_law_number : FnScope N_law_number ["vat"] (defScope s_law_number) := ⟨rfl, rfl, rfl, by decide +kernel, rfl, by decide +kernel, by decide +kernel⟩
abbrev s_law_row : Stmt := top 33
abbrev N_law_row : List Str := ["vat", "most", "found", "turn"]
theorem sc_law_row : FnScope N_law_row ["vat", "most"] (defScope s_law_row) := ⟨rfl, rfl, rfl, by decide +kernel, rfl, by decide +kernel, by decide +kernel⟩
abbrev s_law_told : Stmt := top 34
abbrev N_law_told : List Str := ["vat", "row", "found", "number"]
theorem sc_law_told : FnScope N_law_told ["vat", "row"] (defScope s_law_told) := ⟨rfl, rfl, rfl, by decide +kernel, rfl, by decide +kernel, by decide +kernel⟩
abbrev s_law_value : Stmt := top 35
abbrev N_law_value : List Str := ["row", "number", "found", "power", "each"]
theorem sc_law_value : FnScope N_law_value ["row", "number"] (defScope s_law_value) := ⟨rfl, rfl, rfl, by decide +kernel, rfl, by decide +kernel, by decide +kernel⟩
abbrev s_law_slope : Stmt := top 36
abbrev N_law_slope : List Str := ["row", "at", "number"]
theorem sc_law_slope : FnScope N_law_slope ["row"] (defScope s_law_slope) := ⟨rfl, rfl, rfl, by decide +kernel, rfl, by decide +kernel, by decide +kernel⟩
abbrev s_law_product : Stmt := top 37
abbrev N_law_product : List Str := ["one", "other", "found", "at", "mine", "place", "its", "turn"]
theorem sc_law_product : FnScope N_law_product ["one", "other"] (defScope s_law_product) := ⟨rfl, rfl, rfl, by decide +kernel, rfl, by decide +kernel, by decide +kernel⟩
abbrev s_law_ask : Stmt := top 38
abbrev N_law_ask : List Str := ["word", "one", "other"]
theorem sc_law_ask : FnScope N_law_ask ["word", "one", "other"] (defScope s_law_ask) := ⟨rfl, rfl, rfl, by decide +kernel, rfl, by decide +kernel, by decide +kernel⟩
abbrev s_law_heard : Stmt := top 39
abbrev N_law_heard : List Str := ["word", "one", "other", "caught", "error"]
theorem sc_law_heard : FnScope N_law_heard ["word", "one", "other"] (defScope s_law_heard) := ⟨rfl, rfl, rfl, by decide +kernel, rfl, by decide +kernel, by decide +kernel⟩
abbrev s_law_rows_right : Stmt := top 40
abbrev N_law_rows_right : List Str := ["vat", "one", "other", "number", "mine", "its", "at", "before", "made", "grown"]
theorem sc_law_rows_right : FnScope N_law_rows_right ["vat"] (defScope s_law_rows_right) := ⟨rfl, rfl, rfl, by decide +kernel, rfl, by decide +kernel, by decide +kernel⟩
abbrev s_law_refused_right : Stmt := top 41
abbrev N_law_refused_right : List Str := ["vat", "row", "bent", "odd", "word", "first", "second", "due", "heard", "many", "long", "more", "turn"]
theorem sc_law_refused_right : FnScope N_law_refused_right ["vat"] (defScope s_law_refused_right) := ⟨rfl, rfl, rfl, by decide +kernel, rfl, by decide +kernel, by decide +kernel⟩
abbrev s_law : Stmt := top 42
abbrev N_law : List Str := ["script", "vat", "turn"]
theorem sc_law : FnScope N_law ["script"] (defScope s_law) := ⟨rfl, rfl, rfl, by decide +kernel, rfl, by decide +kernel, by decide +kernel⟩
abbrev si_BadNumber : Stmt := inClass (top 13) 0
abbrev Ni_BadNumber : List Str := ["self", "part"]
theorem sci_BadNumber : FnScope Ni_BadNumber Ni_BadNumber (defScope si_BadNumber) := ⟨rfl, rfl, rfl, by decide +kernel, rfl, by decide +kernel, by decide +kernel⟩
abbrev si_TooMany : Stmt := inClass (top 14) 0
abbrev Ni_TooMany : List Str := ["self", "what", "most"]
theorem sci_TooMany : FnScope Ni_TooMany Ni_TooMany (defScope si_TooMany) := ⟨rfl, rfl, rfl, by decide +kernel, rfl, by decide +kernel, by decide +kernel⟩
structure Txt (K : PySem.W.Frag) (mg : Str → Option Value) where
  a_parts_of : Addr
  d_parts_of : FuncData
  m_parts_of : mg "parts_of" = some (.ref a_parts_of)
  F_parts_of : Fun K "parts_of" "parts_of" s_parts_of a_parts_of d_parts_of
  a_number_of : Addr
  d_number_of : FuncData
  m_number_of : mg "number_of" = some (.ref a_number_of)
  F_number_of : Fun K "number_of" "number_of" s_number_of a_number_of d_number_of
  a_sum_of : Addr
  d_sum_of : FuncData
  m_sum_of : mg "sum_of" = some (.ref a_sum_of)
  F_sum_of : Fun K "sum_of" "sum_of" s_sum_of a_sum_of d_sum_of
  a_product_of : Addr
  d_product_of : FuncData
  m_product_of : mg "product_of" = some (.ref a_product_of)
  F_product_of : Fun K "product_of" "product_of" s_product_of a_product_of d_product_of
  a_is_list : Addr
  d_is_list : FuncData
  m_is_list : mg "is_list" = some (.ref a_is_list)
  F_is_list : Fun K "is_list" "is_list" s_is_list a_is_list d_is_list
  a_is_integer : Addr
  d_is_integer : FuncData
  m_is_integer : mg "is_integer" = some (.ref a_is_integer)
  F_is_integer : Fun K "is_integer" "is_integer" s_is_integer a_is_integer d_is_integer
  a_is_within : Addr
  d_is_within : FuncData
  m_is_within : mg "is_within" = some (.ref a_is_within)
  F_is_within : Fun K "is_within" "is_within" s_is_within a_is_within d_is_within
  a_is_number : Addr
  d_is_number : FuncData
  m_is_number : mg "is_number" = some (.ref a_is_number)
  F_is_number : Fun K "is_number" "is_number" s_is_number a_is_number d_is_number
  a_need_number : Addr
  d_need_number : FuncData
  m_need_number : mg "need_number" = some (.ref a_need_number)
  F_need_number : Fun K "need_number" "need_number" s_need_number a_need_number d_need_number
  a_value_at : Addr
  d_value_at : FuncData
  m_value_at : mg "value_at" = some (.ref a_value_at)
  F_value_at : Fun K "value_at" "value_at" s_value_at a_value_at d_value_at
  a_slope_row : Addr
  d_slope_row : FuncData
  m_slope_row : mg "slope_row" = some (.ref a_slope_row)
  F_slope_row : Fun K "slope_row" "slope_row" s_slope_row a_slope_row d_slope_row
  a_row_product : Addr
  d_row_product : FuncData
  m_row_product : mg "row_product" = some (.ref a_row_product)
  F_row_product : Fun K "row_product" "row_product" s_row_product a_row_product d_row_product
  a_need_row : Addr
  d_need_row : FuncData
  m_need_row : mg "_need_row" = some (.ref a_need_row)
  F_need_row : Fun K "_need_row" "_need_row" s_need_row a_need_row d_need_row
  a_law_vat : Addr
  d_law_vat : FuncData
  m_law_vat : mg "_law_vat" = some (.ref a_law_vat)
  F_law_vat : Fun K "_law_vat" "_law_vat" s_law_vat a_law_vat d_law_vat
  a_law_tap : Addr
  d_law_tap : FuncData
  m_law_tap : mg "_law_tap" = some (.ref a_law_tap)
  F_law_tap : Fun K "_law_tap" "_law_tap" s_law_tap a_law_tap d_law_tap
  a_law_one : Addr
  d_law_one : FuncData
  m_law_one : mg "_law_one" = some (.ref a_law_one)
  F_law_one : Fun K "_law_one" "_law_one" s_law_one a_law_one d_law_one
  a_law_common : Addr
  d_law_common : FuncData
  m_law_common : mg "_law_common" = some (.ref a_law_common)
  F_law_common : Fun K "_law_common" "_law_common" s_law_common a_law_common d_law_common
  a_law_lowest : Addr
  d_law_lowest : FuncData
  m_law_lowest : mg "_law_lowest" = some (.ref a_law_lowest)
  F_law_lowest : Fun K "_law_lowest" "_law_lowest" s_law_lowest a_law_lowest d_law_lowest
  a_law_ends : Addr
  d_law_ends : FuncData
  m_law_ends : mg "_law_ends" = some (.ref a_law_ends)
  F_law_ends : Fun K "_law_ends" "_law_ends" s_law_ends a_law_ends d_law_ends
  a_law_plus : Addr
  d_law_plus : FuncData
  m_law_plus : mg "_law_plus" = some (.ref a_law_plus)
  F_law_plus : Fun K "_law_plus" "_law_plus" s_law_plus a_law_plus d_law_plus
  a_law_times : Addr
  d_law_times : FuncData
  m_law_times : mg "_law_times" = some (.ref a_law_times)
  F_law_times : Fun K "_law_times" "_law_times" s_law_times a_law_times d_law_times
  a_law_number : Addr
  d_law_number : FuncData
  m_law_number : mg "_law_number" = some (.ref a_law_number)
  F_law_number : Fun K "_law_number" "_law_number" s_law_number a_law_number d_law_number
  a_law_row : Addr
  d_law_row : FuncData
  m_law_row : mg "_law_row" = some (.ref a_law_row)
  F_law_row : Fun K "_law_row" "_law_row" s_law_row a_law_row d_law_row
  a_law_told : Addr
  d_law_told : FuncData
  m_law_told : mg "_law_told" = some (.ref a_law_told)
  F_law_told : Fun K "_law_told" "_law_told" s_law_told a_law_told d_law_told
  a_law_value : Addr
  d_law_value : FuncData
  m_law_value : mg "_law_value" = some (.ref a_law_value)
  F_law_value : Fun K "_law_value" "_law_value" s_law_value a_law_value d_law_value
  a_law_slope : Addr
  d_law_slope : FuncData
  m_law_slope : mg "_law_slope" = some (.ref a_law_slope)
  F_law_slope : Fun K "_law_slope" "_law_slope" s_law_slope a_law_slope d_law_slope
  a_law_product : Addr
  d_law_product : FuncData
  m_law_product : mg "_law_product" = some (.ref a_law_product)
  F_law_product : Fun K "_law_product" "_law_product" s_law_product a_law_product d_law_product
  a_law_ask : Addr
  d_law_ask : FuncData
  m_law_ask : mg "_law_ask" = some (.ref a_law_ask)
  F_law_ask : Fun K "_law_ask" "_law_ask" s_law_ask a_law_ask d_law_ask
  a_law_heard : Addr
  d_law_heard : FuncData
  m_law_heard : mg "_law_heard" = some (.ref a_law_heard)
  F_law_heard : Fun K "_law_heard" "_law_heard" s_law_heard a_law_heard d_law_heard
  a_law_rows_right : Addr
  d_law_rows_right : FuncData
  m_law_rows_right : mg "_law_rows_right" = some (.ref a_law_rows_right)
  F_law_rows_right : Fun K "_law_rows_right" "_law_rows_right" s_law_rows_right a_law_rows_right d_law_rows_right
  a_law_refused_right : Addr
  d_law_refused_right : FuncData
  m_law_refused_right : mg "_law_refused_right" = some (.ref a_law_refused_right)
  F_law_refused_right : Fun K "_law_refused_right" "_law_refused_right" s_law_refused_right a_law_refused_right d_law_refused_right
  a_law : Addr
  d_law : FuncData
  m_law : mg "law" = some (.ref a_law)
  F_law : Fun K "law" "law" s_law a_law d_law
  m_gcd : mg "gcd" = some (.builtin "math.gcd")
  t_MOST_NUMBERS : Tok
  m_MOST_NUMBERS : mg "MOST_NUMBERS" = some (.int 25 t_MOST_NUMBERS)
  c_CurveError : Addr
  m_CurveError : mg "CurveError" = some (.ref c_CurveError)
  c_BadNumber : Addr
  m_BadNumber : mg "BadNumber" = some (.ref c_BadNumber)
  c_TooMany : Addr
  m_TooMany : mg "TooMany" = some (.ref c_TooMany)
  i_BadNumber : Addr
  di_BadNumber : FuncData
  Fi_BadNumber : Fun K "__init__" "BadNumber.__init__" si_BadNumber i_BadNumber di_BadNumber
  ox_BadNumber : OexC K c_BadNumber
  fi_BadNumber : PySem.W.findIn K (.ref c_BadNumber) "__init__" = some (some (.ref i_BadNumber))
  ti_BadNumber : PySem.W.typeIn K (.ref i_BadNumber) = some (.type "function")
  xk_BadNumber : ExcK K c_BadNumber
  no_BadNumber_part : PySem.W.findIn K (.ref c_BadNumber) "part" = some none
  i_TooMany : Addr
  di_TooMany : FuncData
  Fi_TooMany : Fun K "__init__" "TooMany.__init__" si_TooMany i_TooMany di_TooMany
  ox_TooMany : OexC K c_TooMany
  fi_TooMany : PySem.W.findIn K (.ref c_TooMany) "__init__" = some (some (.ref i_TooMany))
  ti_TooMany : PySem.W.typeIn K (.ref i_TooMany) = some (.type "function")
  xk_TooMany : ExcK K c_TooMany
  no_TooMany_what : PySem.W.findIn K (.ref c_TooMany) "what" = some none
  no_TooMany_most : PySem.W.findIn K (.ref c_TooMany) "most" = some none
  em_BadNumber_CurveError : PySem.W.exmOne K (.ref c_BadNumber) (.ref c_CurveError) = some true
  ki_BadNumber_BadNumber : PySem.W.kitOne K (.ref c_BadNumber) (.ref c_BadNumber) = some true
  ki_BadNumber_TooMany : PySem.W.kitOne K (.ref c_BadNumber) (.ref c_TooMany) = some false
  em_TooMany_CurveError : PySem.W.exmOne K (.ref c_TooMany) (.ref c_CurveError) = some true
  ki_TooMany_BadNumber : PySem.W.kitOne K (.ref c_TooMany) (.ref c_BadNumber) = some false
  ki_TooMany_TooMany : PySem.W.kitOne K (.ref c_TooMany) (.ref c_TooMany) = some true
  z_abs : mg "abs" = none
  z_all : mg "all" = none
  z_bool : mg "bool" = none
  z_enumerate : mg "enumerate" = none
  z_int : mg "int" = none
  z_isinstance : mg "isinstance" = none
  z_len : mg "len" = none
  z_list : mg "list" = none
  z_range : mg "range" = none
  z_repr : mg "repr" = none
  z_reversed : mg "reversed" = none
  z_tuple : mg "tuple" = none
section
variable {K : PySem.W.Frag} {mg : Str → Option Value}
theorem b_parts_of (T : Txt K mg) : Binds K T.d_parts_of ["number"] [] := T.F_parts_of.binds fun _ _ _ _ _ _ us hl => match us, hl with | [_], _ => rfl
theorem b_number_of (T : Txt K mg) : Binds K T.d_number_of ["above", "below"] [] := T.F_number_of.binds fun _ _ _ _ _ _ us hl => match us, hl with | [_, _], _ => rfl
theorem b_sum_of (T : Txt K mg) : Binds K T.d_sum_of ["one", "other"] [] := T.F_sum_of.binds fun _ _ _ _ _ _ us hl => match us, hl with | [_, _], _ => rfl
theorem b_product_of (T : Txt K mg) : Binds K T.d_product_of ["one", "other"] [] := T.F_product_of.binds fun _ _ _ _ _ _ us hl => match us, hl with | [_, _], _ => rfl
theorem b_is_list (T : Txt K mg) : Binds K T.d_is_list ["value"] [] := T.F_is_list.binds fun _ _ _ _ _ _ us hl => match us, hl with | [_], _ => rfl
theorem b_is_integer (T : Txt K mg) : Binds K T.d_is_integer ["value"] [] := T.F_is_integer.binds fun _ _ _ _ _ _ us hl => match us, hl with | [_], _ => rfl
theorem b_is_within (T : Txt K mg) : Binds K T.d_is_within ["value", "least", "most"] [] := T.F_is_within.binds fun _ _ _ _ _ _ us hl => match us, hl with | [_, _, _], _ => rfl
theorem b_is_number (T : Txt K mg) : Binds K T.d_is_number ["value"] [] := T.F_is_number.binds fun _ _ _ _ _ _ us hl => match us, hl with | [_], _ => rfl
theorem b_need_number (T : Txt K mg) : Binds K T.d_need_number ["value", "part"] [] := T.F_need_number.binds fun _ _ _ _ _ _ us hl => match us, hl with | [_, _], _ => rfl
theorem b_value_at (T : Txt K mg) : Binds K T.d_value_at ["row", "number"] [] := T.F_value_at.binds fun _ _ _ _ _ _ us hl => match us, hl with | [_, _], _ => rfl
theorem b_slope_row (T : Txt K mg) : Binds K T.d_slope_row ["row"] [] := T.F_slope_row.binds fun _ _ _ _ _ _ us hl => match us, hl with | [_], _ => rfl
theorem b_row_product (T : Txt K mg) : Binds K T.d_row_product ["one", "other"] [] := T.F_row_product.binds fun _ _ _ _ _ _ us hl => match us, hl with | [_, _], _ => rfl
theorem b_need_row (T : Txt K mg) : Binds K T.d_need_row ["value", "part"] [] := T.F_need_row.binds fun _ _ _ _ _ _ us hl => match us, hl with | [_, _], _ => rfl
theorem b_law_vat (T : Txt K mg) : Binds K T.d_law_vat ["script"] [] := T.F_law_vat.binds fun _ _ _ _ _ _ us hl => match us, hl with | [_], _ => rfl
theorem b_law_tap (T : Txt K mg) : Binds K T.d_law_tap ["vat", "many"] [] := T.F_law_tap.binds fun _ _ _ _ _ _ us hl => match us, hl with | [_, _], _ => rfl
theorem b_law_one (T : Txt K mg) : Binds K T.d_law_one ["vat", "some"] [] := T.F_law_one.binds fun _ _ _ _ _ _ us hl => match us, hl with | [_, _], _ => rfl
theorem b_law_common (T : Txt K mg) : Binds K T.d_law_common ["one", "other"] [] := T.F_law_common.binds fun _ _ _ _ _ _ us hl => match us, hl with | [_, _], _ => rfl
theorem b_law_lowest (T : Txt K mg) : Binds K T.d_law_lowest ["above", "under"] [] := T.F_law_lowest.binds fun _ _ _ _ _ _ us hl => match us, hl with | [_, _], _ => rfl
theorem b_law_ends (T : Txt K mg) : Binds K T.d_law_ends ["number"] [] := T.F_law_ends.binds fun _ _ _ _ _ _ us hl => match us, hl with | [_], _ => rfl
theorem b_law_plus (T : Txt K mg) : Binds K T.d_law_plus ["one", "other"] [] := T.F_law_plus.binds fun _ _ _ _ _ _ us hl => match us, hl with | [_, _], _ => rfl
theorem b_law_times (T : Txt K mg) : Binds K T.d_law_times ["one", "other"] [] := T.F_law_times.binds fun _ _ _ _ _ _ us hl => match us, hl with | [_, _], _ => rfl
theorem b_law_number (T : Txt K mg) : Binds K T.d_law_number ["vat"] [] := T.F_law_number.binds fun _ _ _ _ _ _ us hl => match us, hl with | [_], _ => rfl
theorem b_law_row (T : Txt K mg) : Binds K T.d_law_row ["vat", "most"] [] := T.F_law_row.binds fun _ _ _ _ _ _ us hl => match us, hl with | [_, _], _ => rfl
theorem b_law_told (T : Txt K mg) : Binds K T.d_law_told ["vat", "row"] [] := T.F_law_told.binds fun _ _ _ _ _ _ us hl => match us, hl with | [_, _], _ => rfl
theorem b_law_value (T : Txt K mg) : Binds K T.d_law_value ["row", "number"] [] := T.F_law_value.binds fun _ _ _ _ _ _ us hl => match us, hl with | [_, _], _ => rfl
theorem b_law_slope (T : Txt K mg) : Binds K T.d_law_slope ["row"] [] := T.F_law_slope.binds fun _ _ _ _ _ _ us hl => match us, hl with | [_], _ => rfl
theorem b_law_product (T : Txt K mg) : Binds K T.d_law_product ["one", "other"] [] := T.F_law_product.binds fun _ _ _ _ _ _ us hl => match us, hl with | [_, _], _ => rfl
theorem b_law_ask (T : Txt K mg) : Binds K T.d_law_ask ["word", "one", "other"] [] := T.F_law_ask.binds fun _ _ _ _ _ _ us hl => match us, hl with | [_, _, _], _ => rfl
theorem b_law_heard (T : Txt K mg) : Binds K T.d_law_heard ["word", "one", "other"] [] := T.F_law_heard.binds fun _ _ _ _ _ _ us hl => match us, hl with | [_, _, _], _ => rfl
theorem b_law_rows_right (T : Txt K mg) : Binds K T.d_law_rows_right ["vat"] [] := T.F_law_rows_right.binds fun _ _ _ _ _ _ us hl => match us, hl with | [_], _ => rfl
theorem b_law_refused_right (T : Txt K mg) : Binds K T.d_law_refused_right ["vat"] [] := T.F_law_refused_right.binds fun _ _ _ _ _ _ us hl => match us, hl with | [_], _ => rfl
theorem b_law (T : Txt K mg) : Binds K T.d_law ["script"] [] := T.F_law.binds fun _ _ _ _ _ _ us hl => match us, hl with | [_], _ => rfl
theorem bi_BadNumber (T : Txt K mg) : Binds K T.di_BadNumber ["self", "part"] [] := T.Fi_BadNumber.binds fun _ _ _ _ _ _ us hl => match us, hl with | [_, _], _ => rfl
theorem ini_BadNumber {P : Program} {w : World} {base : Heap} (T : Txt K mg) : FnOk P w K mg base CX0 1 T.i_BadNumber T.di_BadNumber ["self", "part"] (spIni1 T.c_BadNumber ["part"]) := by
  refine T.Fi_BadNumber.ok sci_BadNumber (fun vs H Q E h => ?_) (fun cdv A outer s H vs Q E hr h => ?_)
  · exact spIni1_len h
  · exact ⟨_, (pss_one (ps_ost (pv 0) (pv 1))), r_ini1 T.ox_BadNumber T.no_BadNumber_part h⟩
theorem bi_TooMany (T : Txt K mg) : Binds K T.di_TooMany ["self", "what", "most"] [] := T.Fi_TooMany.binds fun _ _ _ _ _ _ us hl => match us, hl with | [_, _, _], _ => rfl
theorem ini_TooMany {P : Program} {w : World} {base : Heap} (T : Txt K mg) : FnOk P w K mg base CX0 1 T.i_TooMany T.di_TooMany ["self", "what", "most"] (spIni2 T.c_TooMany ["what", "most"]) := by
  refine T.Fi_TooMany.ok sci_TooMany (fun vs H Q E h => ?_) (fun cdv A outer s H vs Q E hr h => ?_)
  · exact spIni2_len h
  · exact ⟨_, (pss_cons (ps_ost (pv 0) (pv 1)) (pss_one (ps_ost (pv 0) (pv 2)))), r_ini2 T.ox_TooMany T.no_TooMany_what T.no_TooMany_most h⟩
theorem kb_row_product_1_other (T : Txt K mg) : KBn K T.d_row_product ["one", "other"] 1 ["other"] (fun us ws => perm [0, 1] (us ++ ws)) (fun us ws => perm [0, 1] (us ++ ws)) := kbn_of T.F_row_product (fun _ _ _ _ _ _ us ws h1 h2 => match us, ws, h1, h2 with | [_], [_], _, _ => rfl) (fun r1 r2 => Vals.perm (r1.append r2) [0, 1])
theorem kb_slope_row_0_row (T : Txt K mg) : KBn K T.d_slope_row ["row"] 0 ["row"] (fun us ws => perm [0] (us ++ ws)) (fun us ws => perm [0] (us ++ ws)) := kbn_of T.F_slope_row (fun _ _ _ _ _ _ us ws h1 h2 => match us, ws, h1, h2 with | [], [_], _, _ => rfl) (fun r1 r2 => Vals.perm (r1.append r2) [0])
theorem kb_value_at_0_row_number (T : Txt K mg) : KBn K T.d_value_at ["row", "number"] 0 ["row", "number"] (fun us ws => perm [0, 1] (us ++ ws)) (fun us ws => perm [0, 1] (us ++ ws)) := kbn_of T.F_value_at (fun _ _ _ _ _ _ us ws h1 h2 => match us, ws, h1, h2 with | [], [_, _], _, _ => rfl) (fun r1 r2 => Vals.perm (r1.append r2) [0, 1])
end
end Ty

namespace Ty
open PySem PySem.Spec PyProof.Rows L2
section
variable {P : Program} {w : World} {K : PySem.W.Frag} {mg : Str → Option Value} {base : Heap}
theorem ok_parts_of (T : Txt K mg) : FnOk P w K mg base CX0 1 T.a_parts_of T.d_parts_of ["number"] spHalves := by
  refine T.F_parts_of.ok sc_parts_of (fun vs H Q E h => ?_) (fun cdv A outer s H vs Q E hr h => ?_)
  · obtain ⟨v, d, rfl, _⟩ := h
    rfl
  · obtain ⟨v, d, rfl, h, hn, k⟩ := h
    refine ⟨_, (pss_cons (ps_if (pt_val (pe_callB call_isiInt (by rfl) T.z_isinstance (by decide +kernel) (pa_cons (pv 0) (pa_cons (pe_bltn (v := .ty "int") (by rfl) T.z_int (by decide +kernel) rfl) pa_nil)))) (pss_one (ps_ret (pe_tup (pa_cons (pv 0) (pa_cons pe_int pa_nil))))) pss_nil)
      (pss_cons (ps_asg (pv 0) (pg_or (pg_unl rfl (pgs_cons (pg_name (i := 1) sc_parts_of.nd rfl (Or.inl rfl)) (pgs_cons (pg_name (i := 2) sc_parts_of.nd rfl (Or.inl rfl)) pgs_nil))) (pg_tup rfl (pgs_cons (pg_name (i := 1) sc_parts_of.nd rfl (Or.inl rfl)) (pgs_cons (pg_name (i := 2) sc_parts_of.nd rfl (Or.inl rfl)) pgs_nil)))))
      (pss_one (ps_ret (pe_tup (pa_cons (pv 1) (pa_cons (pv 2) pa_nil))))))), ?_⟩
    refine ⟨_, rfl, v, d, rfl, h, _, rfl, iteB (fun c => ?_) fun c => ?_⟩
    · rcases num_cases h hn with ⟨i, rfl, rfl⟩ | ⟨a, i, j, rfl, ⟨ha, rfl⟩ | ⟨ha, rfl⟩, _, _⟩
      · exact ⟨_, rfl, (by decide : 2 ≤ sizeLine), fun p hp => k _ p (Same.new hp) upd_same⟩
      · cases c
      · cases c
    · rcases num_cases h hn with ⟨i, rfl, rfl⟩ | ⟨a, i, j, rfl, ⟨ha, rfl⟩ | ⟨ha, rfl⟩, _, _⟩
      · cases c
      · exact ⟨_, rfl, .inr ⟨a, _, rfl, .inl (.inl ha), rfl, _, _, rfl, _, _, rfl, rfl, _, rfl, _, rfl, (by decide : 2 ≤ sizeLine), fun p hp => k _ p (Same.new hp) upd_same⟩⟩
      · exact ⟨_, rfl, .inl ⟨a, _, rfl, .inl (.inl ha), rfl, _, _, rfl, _, _, rfl, rfl, _, rfl, _, rfl, (by decide : 2 ≤ sizeLine), fun p hp => k _ p (Same.new hp) upd_same⟩⟩
theorem ok_number_of (T : Txt K mg) : FnOk P w K mg base CX0 1 T.a_number_of T.d_number_of ["above", "below"] spNo := by
  refine T.F_number_of.ok sc_number_of (fun vs H Q E h => ?_) (fun cdv A outer s H vs Q E hr h => ?_)
  · obtain ⟨a, b, rfl, _⟩ := h
    rfl
  · obtain ⟨a, b, rfl, hb, hs, k⟩ := h
    refine ⟨_, (pss_cons (ps_set (i := 2) sc_number_of.nd rfl (Or.inl rfl) (pe_callBfun cr_gcd (by rfl) T.m_gcd (pa_cons (pv 0) (pa_cons (pv 1) pa_nil))))
      (Evl.pss_cut (ps_if (pt_cmpR op_lt (pv 1) pe_int (nomark _)) (pss_one (ps_set (i := 2) sc_number_of.nd rfl (Or.inl rfl) (pe_un un_neg (pv 2)))) pss_nil)
      (pss_cons (ps_if (pt_cmpR op_eq (pv 1) (pv 2) (nomark _)) (pss_one (ps_ret (pe_op op_fdivX (pv 0) (pv 2)))) pss_nil)
      (pss_one (ps_ret (pe_tup (pa_cons (pe_op op_fdivX (pv 0) (pv 2)) (pa_cons (pe_op op_fdivX (pv 1) (pv 2)) pa_nil)))))))), ?_⟩
    refine ⟨_, rfl, _, rfl, a, b, rfl, ?_⟩
    obtain ⟨g, hg⟩ : ∃ g : Int, g = if b < 0 then -((Nat.gcd a.natAbs b.natAbs : Nat) : Int) else ((Nat.gcd a.natAbs b.natAbs : Nat) : Int) := ⟨_, rfl⟩
    obtain ⟨g0, qp, low, one, gl⟩ := low_of hb hg
    have gs : g.natAbs < 2 ^ 8900 := Nat.lt_of_le_of_lt gl hs
    refine ⟨fun σ' H' => H' = H ∧ σ' = [some (.int a), some (.int b), some (.int g)], ?_, ?_⟩
    · refine ⟨_, rfl, _, _, rfl, rfl, _, rfl, iteD (fun c => ?_) fun c => ?_⟩
      · rw [if_pos c] at hg
        exact ⟨_, rfl, _, rfl, rfl, by rw [hg]; rfl⟩
      · rw [if_neg c] at hg
        exact ⟨rfl, by rw [hg]; rfl⟩
    rintro σ' H' ⟨rfl, rfl⟩
    refine ⟨_, rfl, _, rfl, rfl, _, rfl, iteD (fun c => ?_) fun c => ?_⟩
    · have c1 := one.mp (int_eq c)
      refine ⟨_, rfl, _, rfl, _, _, rfl, rfl, divX g0 gs (by decide) (by decide), k _ (.int (a.fdiv g)) _ (Same.refl _) New.int ?_⟩
      unfold frac at low
      rw [if_pos c1] at low
      exact low
    · have c1 : b.fdiv g ≠ 1 := fun z => int_ne c (one.mpr z)
      refine ⟨_, rfl, _, rfl, _, _, rfl, rfl, divX g0 gs (by decide) (by decide), _, rfl, _, rfl, _, _, rfl, rfl, divX g0 gs (by decide) (by decide), (by decide : 2 ≤ sizeLine), fun p hp => k _ (.tup [.int (a.fdiv g), .int (b.fdiv g)]) _ (Same.new hp) (New.tup2 hp upd_same New.int New.int) ?_⟩
      unfold frac at low
      rw [if_neg c1] at low
      exact low
theorem ok_is_list (T : Txt K mg) : FnOk P w K mg base CX0 1 T.a_is_list T.d_is_list ["value"] (spD isS) := by
  refine T.F_is_list.ok sc_is_list (fun vs H Q E h => ?_) (fun cdv A outer s H vs Q E hr h => ?_)
  · obtain ⟨v, d, rfl, _⟩ := h
    rfl
  · obtain ⟨v, d, rfl, h, k⟩ := h
    refine ⟨_, (pss_one (ps_ret (pe_callB call_isiSeq (by rfl) T.z_isinstance (by decide +kernel) (pa_cons (pv 0) (pa_cons (pe_tup (pa_cons (pe_bltn (v := .ty "list") (by rfl) T.z_list (by decide +kernel) rfl) (pa_cons (pe_bltn (v := .ty "tuple") (by rfl) T.z_tuple (by decide +kernel) rfl) pa_nil))) pa_nil))))), ?_⟩
    exact ⟨_, rfl, (by decide : 2 ≤ sizeLine), fun p hp => ⟨v, d, p, rfl, upd_same, h.up (Same.new hp), k _ (Same.new hp)⟩⟩
theorem ok_is_integer (T : Txt K mg) : FnOk P w K mg base CX0 1 T.a_is_integer T.d_is_integer ["value"] (spD isN) := by
  refine T.F_is_integer.ok sc_is_integer (fun vs H Q E h => ?_) (fun cdv A outer s H vs Q E hr h => ?_)
  · obtain ⟨v, d, rfl, _⟩ := h
    rfl
  · obtain ⟨v, d, rfl, h, k⟩ := h
    refine ⟨_, (pss_one (ps_ret (pe_and (pe_callB call_isiInt (by rfl) T.z_isinstance (by decide +kernel) (pa_cons (pv 0) (pa_cons (pe_bltn (v := .ty "int") (by rfl) T.z_int (by decide +kernel) rfl) pa_nil))) (pe_one (pe_not (pe_callB call_isiBool (by rfl) T.z_isinstance (by decide +kernel) (pa_cons (pv 0) (pa_cons (pe_bltn (v := .ty "bool") (by rfl) T.z_bool (by decide +kernel) rfl) pa_nil)))))))), ?_⟩
    have kk : ∀ {b : Bool}, isN d = b → Q (.bl b) H := fun e => e ▸ k H (Same.refl H)
    refine ⟨_, rfl, v, d, rfl, h, _, rfl, iteB (fun c => ?_) fun c => ?_⟩
    · refine ⟨_, rfl, v, d, rfl, h, _, rfl, ?_⟩
      refine kk ?_
      cases d with
      | int _ => rfl
      | bl _ => rfl
      | _ => cases c
    · refine kk ?_
      cases d with
      | int _ => cases c
      | _ => rfl
theorem ok_sum_of (T : Txt K mg) : FnOk P w K mg base CX0 2 T.a_sum_of T.d_sum_of ["one", "other"] (spOn2 CT fSum) := by
  have G_parts_of := ok_parts_of (P := P) (w := w) (base := base) T
  have G_number_of := ok_number_of (P := P) (w := w) (base := base) T
  refine T.F_sum_of.ok sc_sum_of (fun vs H Q E h => ?_) (fun cdv A outer s H vs Q E hr h => ?_)
  · obtain ⟨u, v, d, e, rfl, _⟩ := h
    rfl
  · obtain ⟨u, v, d, e, rfl, hu, hv, nd, ne, ⟨m, n, m0, n0, mn, bd, be⟩, -, k⟩ := h
    refine ⟨_, (pss_cons (ps_asg (pe_call G_parts_of (hr.mono (by decide)) (by rfl) T.m_parts_of T.F_parts_of.kp (b_parts_of T) .nil pass0 (pa_cons (pv 0) pa_nil)) (pg_tup rfl (pgs_cons (pg_name (i := 2) sc_sum_of.nd rfl (Or.inl rfl)) (pgs_cons (pg_name (i := 3) sc_sum_of.nd rfl (Or.inl rfl)) pgs_nil))))
      (pss_cons (ps_asg (pe_call G_parts_of (hr.mono (by decide)) (by rfl) T.m_parts_of T.F_parts_of.kp (b_parts_of T) .nil pass0 (pa_cons (pv 1) pa_nil)) (pg_tup rfl (pgs_cons (pg_name (i := 4) sc_sum_of.nd rfl (Or.inl rfl)) (pgs_cons (pg_name (i := 5) sc_sum_of.nd rfl (Or.inl rfl)) pgs_nil))))
      (pss_one (ps_ret (pe_call G_number_of (hr.mono (by decide)) (by rfl) T.m_number_of T.F_number_of.kp (b_number_of T) .nil pass0 (pa_cons (pe_op op_add (pe_op op_mulW (pv 2) (pv 5)) (pe_op op_mulW (pv 4) (pv 3))) (pa_cons (pe_op op_mulW (pv 3) (pv 5)) pa_nil))))))), ?_⟩
    refine ⟨_, rfl, u, d, rfl, hu, nd, fun H1 p1 s1 hp1 => ?_⟩
    refine ⟨p1, _, rfl, .inl (.inl hp1), rfl, _, _, rfl, _, _, rfl, rfl, ?_⟩
    refine ⟨_, rfl, v, e, rfl, hv.up s1, ne, fun H2 p2 s2 hp2 => ?_⟩
    refine ⟨p2, _, rfl, .inl (.inl hp2), rfl, _, _, rfl, _, _, rfl, rfl, ?_⟩
    have mm := wide_lt bd.2 be.2
    have q1 := (num_parts nd).1
    have q2 := (num_parts ne).1
    refine ⟨_, rfl, _, rfl, _, _, rfl, rfl, wide_mul bd.1 be.2 m0 n0 (by omega), _, rfl, _, rfl, _, _, rfl, rfl, wide_mul be.1 bd.2 n0 m0 (by omega), _, _, rfl, rfl, _, rfl, _, rfl, _, _, rfl, rfl, wide_mul bd.2 be.2 m0 n0 (by omega), _, _, rfl, Int.mul_ne_zero (by omega) (by omega), Nat.lt_of_lt_of_le mm (Nat.pow_le_pow_right (by decide) mn), fun w r H3 s3 n3 l3 => ?_⟩
    exact k w r H3 ((s1.trans s2).trans s3) (n3.from (s1.trans s2)) l3
theorem ok_product_of (T : Txt K mg) : FnOk P w K mg base CX0 2 T.a_product_of T.d_product_of ["one", "other"] (spOn2 CT fProd) := by
  have G_parts_of := ok_parts_of (P := P) (w := w) (base := base) T
  have G_number_of := ok_number_of (P := P) (w := w) (base := base) T
  refine T.F_product_of.ok sc_product_of (fun vs H Q E h => ?_) (fun cdv A outer s H vs Q E hr h => ?_)
  · obtain ⟨u, v, d, e, rfl, _⟩ := h
    rfl
  · obtain ⟨u, v, d, e, rfl, hu, hv, nd, ne, ⟨m, n, m0, n0, mn, bd, be⟩, -, k⟩ := h
    refine ⟨_, (pss_cons (ps_asg (pe_call G_parts_of (hr.mono (by decide)) (by rfl) T.m_parts_of T.F_parts_of.kp (b_parts_of T) .nil pass0 (pa_cons (pv 0) pa_nil)) (pg_tup rfl (pgs_cons (pg_name (i := 2) sc_product_of.nd rfl (Or.inl rfl)) (pgs_cons (pg_name (i := 3) sc_product_of.nd rfl (Or.inl rfl)) pgs_nil))))
      (pss_cons (ps_asg (pe_call G_parts_of (hr.mono (by decide)) (by rfl) T.m_parts_of T.F_parts_of.kp (b_parts_of T) .nil pass0 (pa_cons (pv 1) pa_nil)) (pg_tup rfl (pgs_cons (pg_name (i := 4) sc_product_of.nd rfl (Or.inl rfl)) (pgs_cons (pg_name (i := 5) sc_product_of.nd rfl (Or.inl rfl)) pgs_nil))))
      (pss_one (ps_ret (pe_call G_number_of (hr.mono (by decide)) (by rfl) T.m_number_of T.F_number_of.kp (b_number_of T) .nil pass0 (pa_cons (pe_op op_mulW (pv 2) (pv 4)) (pa_cons (pe_op op_mulW (pv 3) (pv 5)) pa_nil))))))), ?_⟩
    refine ⟨_, rfl, u, d, rfl, hu, nd, fun H1 p1 s1 hp1 => ?_⟩
    refine ⟨p1, _, rfl, .inl (.inl hp1), rfl, _, _, rfl, _, _, rfl, rfl, ?_⟩
    refine ⟨_, rfl, v, e, rfl, hv.up s1, ne, fun H2 p2 s2 hp2 => ?_⟩
    refine ⟨p2, _, rfl, .inl (.inl hp2), rfl, _, _, rfl, _, _, rfl, rfl, ?_⟩
    have mm := wide_lt bd.2 be.2
    have q1 := (num_parts nd).1
    have q2 := (num_parts ne).1
    refine ⟨_, rfl, _, rfl, _, _, rfl, rfl, wide_mul bd.1 be.1 m0 n0 (by omega), _, rfl, _, rfl, _, _, rfl, rfl, wide_mul bd.2 be.2 m0 n0 (by omega), _, _, rfl, Int.mul_ne_zero (by omega) (by omega), Nat.lt_of_lt_of_le mm (Nat.pow_le_pow_right (by decide) mn), fun w r H3 s3 n3 l3 => ?_⟩
    exact k w r H3 ((s1.trans s2).trans s3) (n3.from (s1.trans s2)) l3
theorem ok_is_within (T : Txt K mg) : FnOk P w K mg base CX0 2 T.a_is_within T.d_is_within ["value", "least", "most"] spW := by
  have G_is_integer := ok_is_integer (P := P) (w := w) (base := base) T
  refine T.F_is_within.ok sc_is_within (fun vs H Q E h => ?_) (fun cdv A outer s H vs Q E hr h => ?_)
  · obtain ⟨v, d, lo, hi, rfl, _⟩ := h
    rfl
  · obtain ⟨v, d, lo, hi, rfl, h, k⟩ := h
    refine ⟨_, (pss_cons (ps_if (pt_not (pt_val (pe_call G_is_integer (hr.mono (by decide)) (by rfl) T.m_is_integer T.F_is_integer.kp (b_is_integer T) .nil pass0 (pa_cons (pv 0) pa_nil)))) (pss_one (ps_ret pe_bl)) pss_nil)
      (pss_one (ps_ret (pe_and (pe_or (pe_cmpR op_isN (pv 1) pe_non (nomark _)) (pe_one (pe_cmpR op_ge (pv 0) (pv 1) (nomark _)))) (pe_one (pe_or (pe_cmpR op_isN (pv 2) pe_non (nomark _)) (pe_one (pe_cmpR op_le (pv 0) (pv 2) (nomark _))))))))), ?_⟩
    refine ⟨_, rfl, v, d, rfl, h, fun H1 s1 => ⟨_, rfl, iteN (fun c => ?_) fun c => ?_⟩⟩
    · have kk : ∀ {b : Bool}, within d lo hi = b → Q (.bl b) H1 := fun e => e ▸ k H1 s1
      refine kk ?_
      cases d with
      | int _ => cases c
      | _ => rfl
    · obtain ⟨i, rfl, rfl⟩ := isN_of h c
      have kk : ∀ {b : Bool}, within (.int i) lo hi = b → Q (.bl b) H1 := fun e => e ▸ k H1 s1
      have fin : ∀ b : Bool, okLo i lo = b → if b = true then tOrV (tOp (fun x y H Q => y = .non ∧ Q (.bl (decide (x = .non))) H) (tVar 2) (tC .non)) (tOp (rI0 fun i j => .bl (decide (i ≤ j))) (tVar 0) (tVar 2)) (start N_is_within [.int i, optV lo, optV hi]) H1 Q else Q (.bl false) H1 := by
        intro b e
        refine iteB (fun c => ?_) fun c => ?_
        · subst c
          have w : within (.int i) lo hi = okHi i hi := by
            show (okLo i lo && okHi i hi) = _
            rw [e, Bool.true_and]
          cases hi with
          | none => exact ⟨_, rfl, rfl, _, rfl, iteD (fun _ => kk w) fun z => absurd rfl z⟩
          | some m => exact ⟨_, rfl, rfl, _, rfl, iteD (fun z => nomatch z) fun _ => ⟨_, rfl, _, rfl, _, _, rfl, rfl, kk w⟩⟩
        · subst c
          refine kk ?_
          show (okLo i lo && okHi i hi) = _
          rw [e, Bool.false_and]
      cases lo with
      | none => exact ⟨_, rfl, rfl, _, rfl, iteD (fun _ => ⟨_, rfl, fin _ rfl⟩) fun z => absurd rfl z⟩
      | some l => exact ⟨_, rfl, rfl, _, rfl, iteD (fun z => nomatch z) fun _ => ⟨_, rfl, _, rfl, _, _, rfl, rfl, ⟨_, rfl, fin _ rfl⟩⟩⟩
theorem ok_is_number (T : Txt K mg) : FnOk P w K mg base CX0 3 T.a_is_number T.d_is_number ["value"] (spD isNum) := by
  have G_is_integer := ok_is_integer (P := P) (w := w) (base := base) T
  have G_is_within := ok_is_within (P := P) (w := w) (base := base) T
  have G_is_list := ok_is_list (P := P) (w := w) (base := base) T
  refine T.F_is_number.ok sc_is_number (fun vs H Q E h => ?_) (fun cdv A outer s H vs Q E hr h => ?_)
  · obtain ⟨v, d, rfl, _⟩ := h
    rfl
  · obtain ⟨v, d, rfl, h, k⟩ := h
    refine ⟨_, (pss_cons (ps_if (pt_val (pe_call G_is_integer (hr.mono (by decide)) (by rfl) T.m_is_integer T.F_is_integer.kp (b_is_integer T) .nil pass0 (pa_cons (pv 0) pa_nil))) (pss_one (ps_ret pe_bl)) pss_nil)
      (pss_cons (ps_if (PW.pt (pw_or (pt_not (pt_val (pe_call G_is_list (hr.mono (by decide)) (by rfl) T.m_is_list T.F_is_list.kp (b_is_list T) .nil pass0 (pa_cons (pv 0) pa_nil)))) (pw_or1 (pt_cmpR op_ne (pe_callB call_len_seq (by rfl) T.z_len PySem.boot_len (pa_cons (pv 0) pa_nil)) pe_int (nomark _))))) (pss_one (ps_ret pe_bl)) pss_nil)
      (pss_cons (ps_asg (pv 0) (pg_or (pg_unl rfl (pgs_cons (pg_name (i := 1) sc_is_number.nd rfl (Or.inl rfl)) (pgs_cons (pg_name (i := 2) sc_is_number.nd rfl (Or.inl rfl)) pgs_nil))) (pg_tup rfl (pgs_cons (pg_name (i := 1) sc_is_number.nd rfl (Or.inl rfl)) (pgs_cons (pg_name (i := 2) sc_is_number.nd rfl (Or.inl rfl)) pgs_nil)))))
      (pss_one (ps_ret (pe_and (pe_call G_is_integer (hr.mono (by decide)) (by rfl) T.m_is_integer T.F_is_integer.kp (b_is_integer T) .nil pass0 (pa_cons (pv 1) pa_nil)) (pe_and (pe_call G_is_within (hr.mono (by decide)) (by rfl) T.m_is_within T.F_is_within.kp (b_is_within T) .nil pass0 (pa_cons (pv 2) (pa_cons pe_int (pa_cons pe_non pa_nil)))) (pe_one (pe_cmpR op_eq (pe_callBfun cr_gcd (by rfl) T.m_gcd (pa_cons (pv 1) (pa_cons (pv 2) pa_nil))) pe_int (nomark _)))))))))), ?_⟩
    have kk : ∀ {b : Bool} {H1 : Hp}, Same H H1 → isNum d = b → Q (.bl b) H1 := fun s e => e ▸ k _ s
    refine ⟨_, rfl, v, d, rfl, h, fun H1 s1 => ⟨_, rfl, iteB (fun c => ?_) fun c => ?_⟩⟩
    · exact kk s1 (by rw [isNum, c, Bool.true_or])
    refine ⟨_, rfl, v, d, rfl, h.up s1, fun H2 s2 => ⟨_, rfl, iteN (fun e => ?_) fun e => ?_⟩⟩
    · exact iteT (kk (s1.trans s2) (by rw [isNum, c, e, Bool.false_and, Bool.or_false]))
    have s12 := s1.trans s2
    obtain ⟨a, xs, rfl, hs, hx⟩ := (h.up s12).seq (K := K) e
    refine ⟨_, rfl, a, xs, rfl, hs, rfl, _, rfl, iteE (fun l => ?_) fun l => ?_⟩
    · refine kk s12 ?_
      have l' : (items d).length ≠ 2 := fun z => int_ne l (by rw [hx.length, z]; rfl)
      rw [isNum, c, e, Bool.true_and, Bool.false_or]
      exact isPair_len _ l'
    have l2 := int_eq l
    match xs, l2, hx with
    | [x, y], _, hx =>
      obtain ⟨dx, dy, e1, h1, h2⟩ : ∃ dx dy, items d = [dx, dy] ∧ Is H2 x dx ∧ Is H2 y dy := by
        generalize items d = ds at hx
        cases hx with
        | cons h1 hx =>
          cases hx with
          | cons h2 hx =>
            cases hx
            exact ⟨_, _, rfl, h1, h2⟩
      have nm : isNum d = isPair [dx, dy] := by rw [isNum, c, e, e1, Bool.true_and, Bool.false_or]
      have fin : tRet (tAndV (tCall (spD isN) [] E0 (tCons (tVar 1) tNil)) (tAndV (tCall spW [] E0 (tCons (tVar 2) (tCons (tC (.int 2)) (tCons (tC .non) tNil)))) (tOp rEq (tCB rGcd (tCons (tVar 1) (tCons (tVar 2) tNil))) (tC (.int 1))))) { nx := fun _ H' => Q .non H', rt := Q } [some (.ref a), some x, some y] H2 := by
        refine ⟨_, rfl, x, dx, rfl, h1, fun H3 s3 => ⟨_, rfl, iteB (fun c1 => ?_) fun c1 => ?_⟩⟩
        · obtain ⟨i, rfl, rfl⟩ := isN_of h1 c1
          refine ⟨_, rfl, y, dy, some 2, none, rfl, h2.up s3, fun H4 s4 => ⟨_, rfl, iteB (fun c2 => ?_) fun c2 => ?_⟩⟩
          · cases h2 with
            | int j =>
              have c3 : (2 : Int) ≤ j := of_decide_eq_true (by rwa [within, okHi, okLo, Bool.and_true] at c2)
              refine ⟨_, rfl, _, rfl, i, j, rfl, rfl, kk ((s12.trans s3).trans s4) ?_⟩
              rw [nm, isPair, decide_eq_true c3, Bool.true_and, coprime]
              by_cases g : Nat.gcd i.natAbs j.natAbs = 1
              · rw [decide_eq_true g]
                exact (decide_eq_true (by rw [g]; rfl)).symm
              · rw [decide_eq_false g]
                exact (decide_eq_false fun z => g (by have := int_eq z; omega)).symm
            | _ => cases c2
          · refine kk ((s12.trans s3).trans s4) ?_
            rw [nm]
            cases h2 with
            | int j =>
              have c3 : decide ((2 : Int) ≤ j) = false := by rwa [within, okHi, okLo, Bool.and_true] at c2
              rw [isPair, c3, Bool.false_and]
            | _ => rfl
        · refine kk (s12.trans s3) ?_
          rw [nm]
          cases h1 with
          | int j => cases c1
          | _ => rfl
      rcases hs with hs | hs
      · exact ⟨_, rfl, .inl ⟨a, _, rfl, hs, rfl, x, _, rfl, y, _, rfl, rfl, fin⟩⟩
      · exact ⟨_, rfl, .inr ⟨a, _, rfl, hs, rfl, x, _, rfl, y, _, rfl, rfl, fin⟩⟩
theorem ok_need_number (T : Txt K mg) : FnOk P w K mg base (L2.CX P w) 4 T.a_need_number T.d_need_number ["value", "part"] (spNeed isNum T.c_BadNumber) := by
  have G_is_number := ok_is_number (P := P) (w := w) (base := base) T
  refine T.F_need_number.okX sc_need_number (fun vs H Q E h => ?_) (fun cdv A outer s H vs Q E hr h => ?_)
  · obtain ⟨v, p, d, rfl, _⟩ := h
    rfl
  · obtain ⟨v, p, d, rfl, hv, k, ko⟩ := h
    refine ⟨_, (pss_one (ps_if (pt_not (pt_val (pe_call G_is_number (hr.mono (by decide)) (by rfl) T.m_is_number T.F_is_number.kp (b_is_number T) .nil pass0 (pa_cons (pv 0) pa_nil)))) (pss_one (ps_raise rfl (takes_of rfl rfl rfl rfl) (pmk_oex T.ox_BadNumber T.fi_BadNumber T.ti_BadNumber (ini_BadNumber (P := P) (w := w) (base := base) T) (hr.mono (by decide)) (bi_BadNumber T) .nil pass0 (by rfl) T.m_BadNumber (pa_cons (pv 1) pa_nil)))) pss_nil)), ?_⟩
    refine ⟨_, rfl, v, d, rfl, hv, fun H1 s1 => ⟨_, rfl, iteN (fun c => ?_) fun c => ?_⟩⟩
    · exact ⟨_, rfl, mk1 ((ko c).up s1)⟩
    · exact k c H1 s1
theorem ok_need_row (T : Txt K mg) : FnOk P w K mg base (L2.CX P w) 4 T.a_need_row T.d_need_row ["value", "part"] (spNeed isRow T.c_BadNumber) := by
  have G_is_list := ok_is_list (P := P) (w := w) (base := base) T
  have G_is_number := ok_is_number (P := P) (w := w) (base := base) T
  refine T.F_need_row.okX sc_need_row (fun vs H Q E h => ?_) (fun cdv A outer s H vs Q E hr h => ?_)
  · obtain ⟨v, p, d, rfl, _⟩ := h
    rfl
  · obtain ⟨v, p, d, rfl, hv, k, ko⟩ := h
    refine ⟨_, (pss_cons (ps_if (PW.pt (pw_or (pt_not (pt_val (pe_call G_is_list (hr.mono (by decide)) (by rfl) T.m_is_list T.F_is_list.kp (b_is_list T) .nil pass0 (pa_cons (pv 0) pa_nil)))) (pw_or1 (pt_not (pt_chain op_le op_le pe_int (pe_callB call_len_seq (by rfl) T.z_len PySem.boot_len (pa_cons (pv 0) pa_nil)) (pe_glob (v := .int 25) (by rfl) T.m_MOST_NUMBERS ⟨_, rfl⟩)))))) (pss_one (ps_raise rfl (takes_of rfl rfl rfl rfl) (pmk_oex T.ox_BadNumber T.fi_BadNumber T.ti_BadNumber (ini_BadNumber (P := P) (w := w) (base := base) T) (hr.mono (by decide)) (bi_BadNumber T) .nil pass0 (by rfl) T.m_BadNumber (pa_cons (pv 1) pa_nil)))) pss_nil)
      (pss_one (ps_if (pt_not (pt_val (pe_callB (cr_all rfl) (by rfl) T.z_all (by decide +kernel) (pa_cons (pe_lc (own := [("number", 2)]) (g := gName 2) rfl sc_need_row.nd (pi_or (pi_list (pv 0)) (pi_tup (pv 0))) (blkOk_by (N := N_need_row) (sc := defScope s_need_row) (by decide +kernel)) (fun _ _ _ _ _ => (pg_name (i := 2) sc_need_row.nd rfl (Or.inl rfl))) (fun _ _ _ _ _ => pts_nil) (fun _ _ _ _ _ => (pe_call G_is_number (hr.mono (by decide)) (by rfl) T.m_is_number T.F_is_number.kp (b_is_number T) .nil pass0 (pa_cons (pv 2) pa_nil)))) pa_nil)))) (pss_one (ps_raise rfl (takes_of rfl rfl rfl rfl) (pmk_oex T.ox_BadNumber T.fi_BadNumber T.ti_BadNumber (ini_BadNumber (P := P) (w := w) (base := base) T) (hr.mono (by decide)) (bi_BadNumber T) .nil pass0 (by rfl) T.m_BadNumber (pa_cons (pv 1) pa_nil)))) pss_nil))), ?_⟩
    have kk : ∀ {b : Bool}, isRow d = b → (b = true → ∀ H', Same H H' → Q .non H') ∧ (b = false → Out1 T.c_BadNumber "part" p H E) := fun e => e ▸ ⟨k, ko⟩
    refine ⟨_, rfl, v, d, rfl, hv, fun H1 s1 => ⟨_, rfl, iteN (fun c => ?_) fun c => ?_⟩⟩
    · refine iteT ⟨_, rfl, mk1 (((kk (b := false) ?_).2 rfl).up s1)⟩
      rw [isRow, c, Bool.false_and]
    obtain ⟨a, xs, rfl, hs, hx⟩ := (hv.up s1).row (K := K) c
    have ln := hx.length
    have bad : (¬ (1 ≤ (items d).length ∧ (items d).length ≤ 25)) → isRow d = false := fun h => by
      rw [isRow, c, Bool.true_and, decide_eq_false h, Bool.false_and]
    refine ⟨_, rfl, a, xs, rfl, both_now hs, _, _, rfl, rfl, _, rfl, iteD (fun l1 => ?_) fun l1 => ?_⟩
    · refine ⟨_, _, rfl, rfl, _, rfl, iteE (fun l2 => ?_) fun l2 => ?_⟩
      · exact ⟨_, rfl, mk1 (((kk (b := false) (bad (by omega))).2 rfl).up s1)⟩
      have good : isRow d = (items d).all isNum := by
        rw [isRow, c, Bool.true_and, decide_eq_true ⟨by omega, by omega⟩, Bool.true_and]
      refine seq_iter rfl hs fun J G w hG D hD => lc_map w (fun m => .bl (isNum ((items d).getD m .non))) (by omega) hD hG ?_ ?_
      · rintro m x H2 H3 Q' N hm s2 ⟨rfl, hx2⟩ kq
        obtain ⟨dx, e, hi⟩ := hx.at hx2
        refine ⟨rfl, _, rfl, x, dx, rfl, hi.up s2, fun H4 s4 => kq _ H4 s4 ?_⟩
        show New _ _ _ (.bl (isNum ((items d).getD m .non)))
        rw [getD_at e]
        exact New.bl
      · intro H2 ys s2 hD2 hl nw
        have e1 : (List.range xs.length).map (fun m => Da.bl (isNum ((items d).getD m .non))) = ((items d).map isNum).map Da.bl := by
          rw [ln, range_getD (fun e => Da.bl (isNum e)) .non (items d), List.map_map]
          rfl
        rw [e1] at nw
        have is := nw.is
        cases is with
        | lst e hy =>
          rw [hD2] at e
          cases e
          have ey := isAll_bl hy
          subst ey
          have al : ((items d).map isNum).all id = isRow d := by
            rw [good, List.all_map]
            rfl
          refine ⟨D, (items d).map isNum, rfl, .inl (.inl hD2), _, rfl, ?_⟩
          rw [al]
          exact iteN (fun z => ⟨_, rfl, mk1 (((kk z).2 rfl).up (s1.trans s2))⟩) fun z => (kk z).1 rfl H2 (s1.trans s2)
    · exact ⟨_, rfl, iteT ⟨_, rfl, mk1 (((kk (b := false) (bad (by omega))).2 rfl).up s1)⟩⟩
theorem ok_value_at (T : Txt K mg) : FnOk P w K mg base (L2.CX P w) 5 T.a_value_at T.d_value_at ["row", "number"] (spVal T.c_BadNumber) := by
  have G_need_row := ok_need_row (P := P) (w := w) (base := base) T
  have G_need_number := ok_need_number (P := P) (w := w) (base := base) T
  have G_sum_of := ok_sum_of (P := P) (w := w) (base := base) T
  have G_product_of := ok_product_of (P := P) (w := w) (base := base) T
  refine T.F_value_at.okX sc_value_at (fun vs H Q E h => ?_) (fun cdv A outer s H vs Q E hr h => ?_)
  · obtain ⟨u, v, d, e, rfl, _⟩ := h
    rfl
  · obtain ⟨u, v, d, e, rfl, hu, hv, k1, k2, k⟩ := h
    refine ⟨_, (pss_cons (ps_expr (pe_call G_need_row (hr.mono (by decide)) (by rfl) T.m_need_row T.F_need_row.kp (b_need_row T) .nil (passes_call (takes_of rfl rfl rfl rfl) fun _ _ _ _ h => h) (pa_cons (pv 0) (pa_cons pe_str pa_nil))))
      (pss_cons (ps_expr (pe_call G_need_number (hr.mono (by decide)) (by rfl) T.m_need_number T.F_need_number.kp (b_need_number T) .nil (passes_call (takes_of rfl rfl rfl rfl) fun _ _ _ _ h => h) (pa_cons (pv 1) (pa_cons pe_str pa_nil))))
      (pss_cons (ps_set (i := 2) sc_value_at.nd rfl (Or.inl rfl) pe_int)
      (pss_cons (ps_for (passes_of rfl) rfl (RT.pi_revA (by rfl) T.z_reversed (pv 0)) (pg_name (i := 3) sc_value_at.nd rfl (Or.inl rfl)) (pss_one (ps_set (i := 2) sc_value_at.nd rfl (Or.inl rfl) (pe_call G_sum_of (hr.mono (by decide)) (by rfl) T.m_sum_of T.F_sum_of.kp (b_sum_of T) .nil pass0 (pa_cons (pe_call G_product_of (hr.mono (by decide)) (by rfl) T.m_product_of T.F_product_of.kp (b_product_of T) .nil pass0 (pa_cons (pv 2) (pa_cons (pv 1) pa_nil))) (pa_cons (pv 3) pa_nil))))))
      (pss_one (ps_ret (pv 2))))))), ?_⟩
    refine ⟨_, rfl, u, .str "row", d, rfl, hu, fun c1 H1 s1 => ?_, fun c => k1 c⟩
    refine ⟨_, rfl, v, .str "number", e, rfl, hv.up s1, fun c2 H2 s2 => ?_, fun c2 => (k2 c1 c2).up s1⟩
    obtain ⟨⟨s, t, s0, t0, hsz, tsz, fit⟩, kq⟩ := k c1 c2
    obtain ⟨sq, l1, l2, nums⟩ := row_of c1
    have s12 := s1.trans s2
    obtain ⟨a, xs, rfl, hs, hx⟩ := (hu.up s12).row (K := K) sq
    have ln := hx.length
    have ln2 : (rts d).length = xs.length := by rw [rts_len, ln]
    have hv2 := hv.up s12
    show tSeq (tAsg (tC (.int 0)) (gName 2)) (tSeq (tFor (RT.iRevA K (tVar 0)) _ _) _) _ _ _
    refine go_seq (go_asg (go_c (go_nm ?_)))
    show tSeq (tFor (RT.iRevA K (tVar 0)) _ _) _ _ _ _
    refine go_seq (go_for ?_)
    refine rev_iter rfl hs fun J G w hG => for_it w (fun i σ' H' => Same H2 H' ∧ ∃ (tv : V) (s3 : Option V), σ' = [some (.ref a), some v, some tv, s3] ∧ New H2 H' tv (ofR (hval ((rts d).drop (xs.length - i)) (rt e))) ∧ Sz (i * (s + t + 1) + 1) (hval ((rts d).drop (xs.length - i)) (rt e))) ?_ (fun i σ' H' _ p => hG H' p.1) ?_ ?_
    · refine ⟨Same.refl _, .int 0, none, rfl, ?_, ?_⟩
      · rw [Nat.sub_zero, ← ln2, List.drop_length, hval_nil, ofR_zero]
        exact New.int
      · rw [Nat.sub_zero, ← ln2, List.drop_length, hval_nil, Nat.zero_mul]
        exact sz_zero
    · rintro i x σ' H3 H3' hi ⟨s3, tv, sl, rfl, ht, hz⟩ ⟨rfl, hxi⟩
      obtain ⟨dx, ex, hix⟩ := hx.at hxi
      have nx := nums dx (List.mem_of_getElem? ex)
      have eq : (rts d)[xs.length - 1 - i]? = some (rt dx) := by
        unfold rts
        rw [List.getElem?_map, ex]
        rfl
      have more : (rts d).drop (xs.length - (i + 1)) = rt dx :: (rts d).drop (xs.length - i) := by
        have hlt := (List.getElem?_eq_some_iff.mp eq).1
        have e1 : xs.length - (i + 1) = xs.length - 1 - i := by omega
        rw [e1, List.drop_eq_getElem_cons hlt, (List.getElem?_eq_some_iff.mp eq).2]
        have e2 : xs.length - 1 - i + 1 = xs.length - i := by omega
        rw [e2]
      have szx : Sz s (rt dx) := hsz _ (List.mem_of_getElem? eq)
      generalize eT : hval ((rts d).drop (xs.length - i)) (rt e) = tot at ht hz
      have b1 : i * (s + t + 1) + (s + t + 1) ≤ xs.length * (s + t + 1) := by
        rw [← Nat.succ_mul]
        exact Nat.mul_le_mul_right _ hi
      rw [ln2] at fit
      refine ⟨_, rfl, _, rfl, tv, v, ofR tot, e, rfl, ht.is, hv2.up s3, ofR_num _, c2, ⟨i * (s + t + 1) + 1, t, by omega, t0, by omega, Sz.nb (ofR_num _) (by rw [rt_ofR]; exact hz), Sz.nb c2 tsz⟩, trivial, fun w1 r1 H4 s4 n4 l4 => ?_⟩
      have e4 := fProd_rt (ofR_num _) c2 l4
      rw [rt_ofR] at e4
      subst e4
      have z4 := hz.mul tsz
      refine ⟨_, rfl, w1, x, _, dx, rfl, n4.is, (hix.up s3).up s4, ofR_num _, nx, ⟨i * (s + t + 1) + 1 + t, s, by omega, s0, by omega, Sz.nb (ofR_num _) (by rw [rt_ofR]; exact z4), Sz.nb nx szx⟩, trivial, fun w2 r2 H5 s5 n5 l5 => ?_⟩
      have e5 := fSum_rt (ofR_num _) nx l5
      rw [rt_ofR] at e5
      subst e5
      refine ⟨(s3.trans s4).trans s5, w2, _, rfl, ?_, ?_⟩
      · rw [more, hval_cons, eT]
        exact n5.from (s3.trans s4)
      · rw [more, hval_cons, eT]
        have e6 : (i + 1) * (s + t + 1) + 1 = i * (s + t + 1) + 1 + t + s + 1 := by rw [Nat.succ_mul]; omega
        rw [e6]
        exact z4.add szx
    · rintro σ' H3 ⟨s3, tv, sl, rfl, ht, hz⟩
      rw [Nat.sub_self, List.drop_zero] at ht
      exact ⟨_, rfl, kq tv H3 (s12.trans s3) (ht.from s12)⟩
theorem ok_slope_row (T : Txt K mg) : FnOk P w K mg base (L2.CX P w) 5 T.a_slope_row T.d_slope_row ["row"] (spSlo T.c_BadNumber) := by
  have G_need_row := ok_need_row (P := P) (w := w) (base := base) T
  have G_product_of := ok_product_of (P := P) (w := w) (base := base) T
  refine T.F_slope_row.okX sc_slope_row (fun vs H Q E h => ?_) (fun cdv A outer s H vs Q E hr h => ?_)
  · obtain ⟨u, d, rfl, _⟩ := h
    rfl
  · obtain ⟨u, d, rfl, hu, k1, k⟩ := h
    refine ⟨_, (pss_cons (ps_expr (pe_call G_need_row (hr.mono (by decide)) (by rfl) T.m_need_row T.F_need_row.kp (b_need_row T) .nil (passes_call (takes_of rfl rfl rfl rfl) fun _ _ _ _ h => h) (pa_cons (pv 0) (pa_cons pe_str pa_nil))))
      (pss_cons (ps_if (pt_cmpR op_eq (pe_callB call_len_seq (by rfl) T.z_len PySem.boot_len (pa_cons (pv 0) pa_nil)) pe_int (nomark _)) (pss_one (ps_ret (pe_tup (pa_cons pe_int pa_nil)))) pss_nil)
      (pss_one (ps_ret (pe_callTy call_tuple_of (by rfl) T.z_tuple (by decide +kernel) (pa_cons (pe_lc (own := [("power", 1)]) (g := gName 1) rfl sc_slope_row.nd (pi_range2 (by rfl) T.z_range (pa_cons pe_int (pa_cons (pe_callB call_len_seq (by rfl) T.z_len PySem.boot_len (pa_cons (pv 0) pa_nil)) pa_nil))) (blkOk_by (N := N_slope_row) (sc := defScope s_slope_row) (by decide +kernel)) (fun _ _ _ _ _ => (pg_name (i := 1) sc_slope_row.nd rfl (Or.inl rfl))) (fun _ _ _ _ _ => pts_nil) (fun _ _ _ _ _ => (pe_call G_product_of (hr.mono (by decide)) (by rfl) T.m_product_of T.F_product_of.kp (b_product_of T) .nil pass0 (pa_cons (pv 1) (pa_cons (pe_ix (IxR.or (r := rIxL K) (r' := rIxT K) ix_list ix_tup) (pv 0) (pv 1) (fun _ _ => rfl)) pa_nil))))) pa_nil)))))), ?_⟩
    refine ⟨_, rfl, u, .str "row", d, rfl, hu, fun c1 H1 s1 => ?_, fun c => k1 c⟩
    obtain ⟨⟨s, s0, hsz, fit⟩, kq⟩ := k c1
    obtain ⟨sq, l1, l2, nums⟩ := row_of c1
    obtain ⟨a, xs, rfl, hs, hx⟩ := (hu.up s1).row (K := K) sq
    have ln := hx.length
    have ln2 : (rts d).length = xs.length := by rw [rts_len, ln]
    refine ⟨_, rfl, a, xs, rfl, both_now hs, rfl, _, rfl, iteD (fun c => ?_) fun c => ?_⟩
    · have c' := int_eq c
      have e1 : slope (rts d) = [0] := by
        match hr : rts d, ln2 with
        | [q], _ => rfl
        | [], z => simp at z; omega
        | _ :: _ :: _, z => simp at z; omega
      rw [e1] at kq
      refine ⟨(by decide : 1 ≤ sizeLine), fun p hp => kq _ _ (s1.trans (Same.new hp)) fun S l => .tup (mn_put (l.more s1) hp) (.cons ?_ .nil)⟩
      rw [ofR_zero]
      exact .int 0
    · have c' := int_ne c
      obtain ⟨q0, m, em⟩ : ∃ q0 m, rts d = q0 :: m := by
        match hr : rts d, ln2 with
        | q :: m, _ => exact ⟨q, m, rfl⟩
        | [], z => simp at z; omega
      have e1 : slope (rts d) = wsl 1 m := by
        rw [em]
        match m, em with
        | [], em => rw [em] at ln2; simp at ln2; omega
        | b :: m', _ => rfl
      have lm : m.length = xs.length - 1 := by rw [← ln2, em]; simp
      refine ⟨_, rfl, a, xs, rfl, both_now hs, _, _, rfl, ⟨by decide, by decide, by omega, by omega⟩, fun D hD => ?_⟩
      have en : ((xs.length : Int) - 1).toNat = m.length := by omega
      refine lc_map (n := m.length) (by rw [en]; exact walk_range) (fun i => ofR (((1 : Rat) + (i : Nat)) * m.getD i 0)) (by omega) hD (fun _ _ => trivial) ?_ ?_
      · rintro i x H2 H3 Q' N hi s2 ⟨rfl, rfl⟩ kk
        have hlt : i + 1 < xs.length := by omega
        obtain ⟨dx, ex, hix⟩ := hx.at (List.getElem?_eq_getElem hlt)
        have nx := nums dx (List.mem_of_getElem? ex)
        have eq : m[i]? = some (rt dx) := by
          have e2 : (rts d)[i + 1]? = some (rt dx) := by
            unfold rts
            rw [List.getElem?_map, ex]
            rfl
          rw [em] at e2
          exact e2
        refine ⟨rfl, _, rfl, _, rfl, _, rfl, both_ix hs s2 (atI_of (by omega) (n := i + 1) (by omega) (List.getElem?_eq_getElem hlt)) ?_⟩
        have szp : Sz 8 (rt (.int (1 + (i : Int)))) := sz_nb rfl ⟨by show (1 + (i : Int)).natAbs < 2 ^ 8; omega, by show (1 : Int).natAbs < 2 ^ 8; decide⟩
        refine ⟨.int (1 + (i : Int)), _, .int (1 + (i : Int)), dx, rfl, .int _, hix.up s2, rfl, nx, ⟨8, s, by decide, s0, by omega, Sz.nb rfl szp, Sz.nb nx (hsz _ (by rw [em]; exact List.mem_cons_of_mem _ (List.mem_of_getElem? eq)))⟩, trivial, fun w1 r1 H4 s4 n4 l4 => kk w1 H4 s4 ?_⟩
        have e4 := fProd_rt rfl nx l4
        have e5 : rt (.int (1 + (i : Int))) = (1 : Rat) + (i : Nat) := by
          rw [rt_int]
          push_cast
          rfl
        show New _ _ _ (ofR (((1 : Rat) + (i : Nat)) * m.getD i 0))
        rw [getD_at eq, ← e5, ← e4]
        exact n4
      · intro H2 ys s2 hD2 hl nw
        have e2 : (List.range m.length).map (fun i => ofR (((1 : Rat) + (i : Nat)) * m.getD i 0)) = (wsl 1 m).map ofR := by
          apply List.ext_getElem?
          intro i
          by_cases hi : i < m.length
          · rw [List.getElem?_map, List.getElem?_map, List.getElem?_range hi, wsl_at 1 m i m[i] (List.getElem?_eq_getElem hi)]
            simp [List.getD_eq_getElem?_getD, hi]
          · rw [List.getElem?_eq_none (by simp; omega), List.getElem?_eq_none (by simp [wsl_len]; omega)]
        rw [e2, ← e1] at nw
        refine ⟨D, ys, rfl, .inl ⟨.inl (.inl hD2), fun l hl => kq _ _ ((s1.trans s2).trans (Same.new hl)) fun S lv => ?_⟩⟩
        have lv2 := lv.more (s1.trans s2)
        have is := (nw S (lv.more s1)).up (Same.less (Same.new (o := .tup ys) hl))
        cases is with
        | lst e hy =>
          have e3 := (mn_of e).2
          rw [Same.new hl _ _ hD2] at e3
          cases e3
          exact .tup (mn_put lv2 hl) hy
theorem ok_row_product (T : Txt K mg) : FnOk P w K mg base (L2.CX P w) 5 T.a_row_product T.d_row_product ["one", "other"] (spPro T.c_BadNumber T.c_TooMany) := by
  have G_need_row := ok_need_row (P := P) (w := w) (base := base) T
  have G_sum_of := ok_sum_of (P := P) (w := w) (base := base) T
  have G_product_of := ok_product_of (P := P) (w := w) (base := base) T
  refine T.F_row_product.okX sc_row_product (fun vs H Q E h => ?_) (fun cdv A outer s H vs Q E hr h => ?_)
  · obtain ⟨u, v, d, e, rfl, _⟩ := h
    rfl
  · obtain ⟨u, v, d, e, rfl, hu, hv, k1, k2, k3, k⟩ := h
    refine ⟨_, (pss_cons (ps_expr (pe_call G_need_row (hr.mono (by decide)) (by rfl) T.m_need_row T.F_need_row.kp (b_need_row T) .nil (passes_call (takes_of rfl rfl rfl rfl) fun _ _ _ _ h => h) (pa_cons (pv 0) (pa_cons pe_str pa_nil))))
      (pss_cons (ps_expr (pe_call G_need_row (hr.mono (by decide)) (by rfl) T.m_need_row T.F_need_row.kp (b_need_row T) .nil (passes_call (takes_of rfl rfl rfl rfl) fun _ _ _ _ h => h) (pa_cons (pv 1) (pa_cons pe_str pa_nil))))
      (pss_cons (ps_set (i := 2) sc_row_product.nd rfl (Or.inl rfl) (pe_op op_sub (pe_op op_add (pe_callB call_len_seq (by rfl) T.z_len PySem.boot_len (pa_cons (pv 0) pa_nil)) (pe_callB call_len_seq (by rfl) T.z_len PySem.boot_len (pa_cons (pv 1) pa_nil))) pe_int))
      (pss_cons (ps_if (pt_cmpR op_gt (pv 2) (pe_glob (v := .int 25) (by rfl) T.m_MOST_NUMBERS ⟨_, rfl⟩) (nomark _)) (pss_one (ps_raise rfl (takes_of rfl rfl rfl rfl) (pmk_oex T.ox_TooMany T.fi_TooMany T.ti_TooMany (ini_TooMany (P := P) (w := w) (base := base) T) (hr.mono (by decide)) (bi_TooMany T) .nil pass0 (by rfl) T.m_TooMany (pa_cons pe_str (pa_cons (pe_glob (v := .int 25) (by rfl) T.m_MOST_NUMBERS ⟨_, rfl⟩) pa_nil))))) pss_nil)
      (pss_cons (ps_set (i := 3) sc_row_product.nd rfl (Or.inl rfl) (pe_op op_rep (pe_lst (pa_cons pe_int pa_nil)) (pv 2)))
      (pss_cons (ps_for (passes_of rfl) rfl (pi_or (pi_enum (by rfl) T.z_enumerate (pa_cons (pv 0) pa_nil)) (pi_enumT (by rfl) T.z_enumerate (pa_cons (pv 0) pa_nil))) (pg_tup rfl (pgs_cons (pg_name (i := 4) sc_row_product.nd rfl (Or.inl rfl)) (pgs_cons (pg_name (i := 5) sc_row_product.nd rfl (Or.inl rfl)) pgs_nil))) (pss_one (ps_for (passes_of rfl) rfl (pi_or (pi_enum (by rfl) T.z_enumerate (pa_cons (pv 1) pa_nil)) (pi_enumT (by rfl) T.z_enumerate (pa_cons (pv 1) pa_nil))) (pg_tup rfl (pgs_cons (pg_name (i := 6) sc_row_product.nd rfl (Or.inl rfl)) (pgs_cons (pg_name (i := 7) sc_row_product.nd rfl (Or.inl rfl)) pgs_nil))) (pss_one (ps_asg (pe_call G_sum_of (hr.mono (by decide)) (by rfl) T.m_sum_of T.F_sum_of.kp (b_sum_of T) .nil pass0 (pa_cons (pe_ix ix_list (pv 3) (pe_op op_add (pv 4) (pv 6)) (fun _ _ => rfl)) (pa_cons (pe_call G_product_of (hr.mono (by decide)) (by rfl) T.m_product_of T.F_product_of.kp (b_product_of T) .nil pass0 (pa_cons (pv 5) (pa_cons (pv 7) pa_nil))) pa_nil))) (pg_sub (pv 3) (pe_op op_add (pv 4) (pv 6)) set_list))))))
      (pss_one (ps_ret (pe_callTy call_tuple_of (by rfl) T.z_tuple (by decide +kernel) (pa_cons (pv 3) pa_nil)))))))))), ?_⟩
    refine ⟨_, rfl, u, .str "one", d, rfl, hu, fun c1 H1 s1 => ?_, fun c => k1 c⟩
    refine ⟨_, rfl, v, .str "other", e, rfl, hv.up s1, fun c2 H2 s2 => ?_, fun c2 => (k2 c1 c2).up s1⟩
    have s12 := s1.trans s2
    obtain ⟨sq, l1, l2, nums⟩ := row_of c1
    obtain ⟨sq2, l12, l22, nums2⟩ := row_of c2
    obtain ⟨a, xs, rfl, hs, hx⟩ := (hu.up s12).row (K := K) sq
    obtain ⟨b, ys, rfl, hs2, hy⟩ := (hv.up s12).row (K := K) sq2
    have ln := hx.length
    have lm := hy.length
    refine ⟨_, rfl, a, xs, rfl, both_now hs, _, rfl, b, ys, rfl, both_now hs2, _, _, rfl, rfl, _, _, rfl, rfl, ?_⟩
    refine ⟨_, rfl, _, _, rfl, rfl, _, rfl, iteD (fun c => ?_) fun c => ?_⟩
    · exact mk2 ((k3 c1 c2 (by omega)).up s12)
    obtain ⟨⟨s, t, s0, t0, hsz, hsz2, fit⟩, kq⟩ := k c1 c2 (by omega)
    rw [rts_len, ← ln] at fit
    refine ⟨(by decide : 1 ≤ sizeLine), fun l hl => ⟨_, rfl, l, _, [V.int 0], rfl, rfl, upd_same, by omega, by omega, ?_, fun D hD => ?_⟩⟩
    · have e1 : ([V.int 0] : List V).length = 1 := rfl
      rw [e1]
      exact Nat.le_trans (show 1 * ((xs.length : Int) + (ys.length : Int) - 1).toNat ≤ 100 by omega) (by decide)
    have hD2 : H2 D = none := by
      have nl : D ≠ l := fun z => by rw [z, upd_same] at hD; cases hD
      rwa [upd_ne nl] at hD
    have ez : (List.replicate ((xs.length : Int) + (ys.length : Int) - 1).toNat [V.int 0]).flatten = List.replicate (xs.length + ys.length - 1) (V.int 0) := by
      have e1 : ((xs.length : Int) + (ys.length : Int) - 1).toNat = xs.length + ys.length - 1 := by omega
      rw [e1]
      generalize xs.length + ys.length - 1 = n
      induction n with
      | zero => rfl
      | succ n ih => rw [List.replicate_succ, List.flatten_cons, ih]; rfl
    rw [ez]
    have p0 : (rts d).length = xs.length := by rw [rts_len, ln]
    have q0 : (rts e).length = ys.length := by rw [rts_len, lm]
    obtain ⟨Z, eZ⟩ : ∃ Z, Z = List.replicate ((rts d).length + (rts e).length - 1) (0 : Rat) := ⟨_, rfl⟩
    have lZ : Z.length = xs.length + ys.length - 1 := by rw [eZ, List.length_replicate, p0, q0]
    have I0 : FoundI H2 D Z (upd (upd H2 l (.lst [V.int 0])) D (.lst (List.replicate (xs.length + ys.length - 1) (V.int 0)))) := by
      refine ⟨(Same.new hl).trans (Same.new hD), hD2, _, upd_same, fun S lv => ?_⟩
      rw [eZ, p0, q0]
      generalize mn (wth S D) _ = G
      generalize xs.length + ys.length - 1 = n
      induction n with
      | zero => exact .nil
      | succ n ih =>
        rw [List.replicate_succ, List.replicate_succ, List.map_cons, ofR_zero]
        exact .cons (.int 0) ih
    have z0 : ∀ x ∈ Z, Sz 1 x := fun x hx => by
      rw [eZ] at hx
      rw [List.eq_of_mem_replicate hx]
      exact sz_zero
    generalize upd (upd H2 l (.lst [V.int 0])) D (.lst (List.replicate (xs.length + ys.length - 1) (V.int 0))) = H3 at I0
    refine go_nm (i := 3) ?_
    show tSeq (tFor (fun σ H R => iEnum K (tCons (tVar 0) tNil) σ H R ∨ iEnumT K (tCons (tVar 0) tNil) σ H R) _ _) _ _ _ _
    refine go_seq (go_for ?_)
    refine enum_at (a := a) rfl hs I0.1 fun J G w hG => for_it w (fun i σ' H' => FoundI H2 D (convOut (rts d) (rts e) Z i) H' ∧ Same H2 H' ∧ (∀ x ∈ convOut (rts d) (rts e) Z i, Sz (i * (s + t + 1) + 1) x) ∧ ∃ s4 s5 s6 s7 : Option V, σ' = [some (.ref a), some (.ref b), some (.int ((xs.length : Int) + (ys.length : Int) - 1)), some (.ref D), s4, s5, s6, s7]) ?_ (fun i σ' H' _ p => ?_) ?_ ?_
    · exact ⟨I0, I0.1, fun x hx => (z0 x hx).more (by omega), none, none, none, none, rfl⟩
    · exact hG H' p.2.1
    · rintro i x σ' H4 H5 hi ⟨F, s24, hz, s4, s5, s6, s7, rfl⟩ ⟨T, lowv, leftv, rfl, hT, rfl, e1, e2⟩
      cases e1
      obtain ⟨dx, ex, hix⟩ := hx.at e2
      have nx := nums dx (List.mem_of_getElem? ex)
      have eq : (rts d)[i]? = some (rt dx) := by
        unfold rts
        rw [List.getElem?_map, ex]
        rfl
      have szx : Sz s (rt dx) := hsz _ (List.mem_of_getElem? eq)
      have s25 : Same H2 (upd H4 T (.tup [.int (i : Nat), leftv])) := s24.trans (Same.new hT)
      refine ⟨T, _, rfl, .inl (.inl upd_same), rfl, _, _, rfl, _, _, rfl, rfl, ?_⟩
      have F5 := F.up (Same.new (o := .tup [.int (i : Nat), leftv]) hT)
      generalize upd H4 T (.tup [.int (i : Nat), leftv]) = H5 at s25 F5 ⊢
      have lL : (convOut (rts d) (rts e) Z i).length = xs.length + ys.length - 1 := by rw [convOut_len, lZ]
      have nxt := convOut_next (rts d) (rts e) Z i
      rw [getD_at eq] at nxt
      have bnd : (i + 1) * (s + t + 1) + (s + t + 1) ≤ (xs.length + 1) * (s + t + 1) := by
        rw [← Nat.succ_mul]
        exact Nat.mul_le_mul_right _ (by omega)
      have sm : (i + 1) * (s + t + 1) = i * (s + t + 1) + (s + t + 1) := Nat.succ_mul _ _
      generalize convOut (rts d) (rts e) Z i = L at F5 lL nxt hz
      show tFor (fun σ H R => iEnum K (tCons (tVar 1) tNil) σ H R ∨ iEnumT K (tCons (tVar 1) tNil) σ H R) _ _ _ _ _
      refine go_for ?_
      refine enum_at (a := b) rfl hs2 s25 fun J2 G2 w2 hG2 => for_it w2 (fun m σ' H' => FoundI H2 D (convIn (rt dx) i (rts e) L m) H' ∧ Same H2 H' ∧ (∀ k c, (convIn (rt dx) i (rts e) L m)[k]? = some c → Sz ((i + 1) * (s + t + 1) + 1) c ∧ (i + m ≤ k → Sz (i * (s + t + 1) + 1) c)) ∧ 
        ∃ s6 s7 : Option V, σ' = [some (.ref a), some (.ref b), some (.int ((xs.length : Int) + (ys.length : Int) - 1)), some (.ref D), some (.int (i : Nat)), some leftv, s6, s7]) ?_ (fun m σ' H' _ p => hG2 H' p.2.1) ?_ ?_
      · exact ⟨F5, s25, fun k c hk => ⟨(hz c (List.mem_of_getElem? hk)).more (by omega), fun _ => hz c (List.mem_of_getElem? hk)⟩, s6, s7, rfl⟩
      · rintro m x σ' H6 H7 hm ⟨F, s26, hz2, s6, s7, rfl⟩ ⟨T2, highv, rightv, rfl, hT2, rfl, e3, e4⟩
        cases e3
        obtain ⟨dy, ey, hiy⟩ := hy.at e4
        have ny := nums2 dy (List.mem_of_getElem? ey)
        have eqy : (rts e)[m]? = some (rt dy) := by
          unfold rts
          rw [List.getElem?_map, ey]
          rfl
        have szy : Sz t (rt dy) := hsz2 _ (List.mem_of_getElem? eqy)
        refine ⟨T2, _, rfl, .inl (.inl upd_same), rfl, _, _, rfl, _, _, rfl, rfl, ?_⟩
        have s27 : Same H2 (upd H6 T2 (.tup [.int (m : Nat), rightv])) := s26.trans (Same.new hT2)
        have F7 := F.up (Same.new (o := .tup [.int (m : Nat), rightv]) hT2)
        generalize upd H6 T2 (.tup [.int (m : Nat), rightv]) = H7 at s27 F7 ⊢
        have lC : (convIn (rt dx) i (rts e) L m).length = xs.length + ys.length - 1 := by rw [convIn_len, lL]
        have nxt2 := convIn_next (rt dx) i (rts e) L m
        rw [getD_at eqy] at nxt2
        generalize convIn (rt dx) i (rts e) L m = C at F7 lC nxt2 hz2
        have hlt : i + m < C.length := by omega
        obtain ⟨vals, hv, hl2, hall⟩ := F7.vals
        have ec : C[i + m]? = some C[i + m] := List.getElem?_eq_getElem hlt
        have ecm : (C.map ofR)[i + m]? = some (ofR C[i + m]) := by rw [List.getElem?_map, ec]; rfl
        obtain ⟨cv, ecv, hcv⟩ := hall.get ecm
        have szc := (hz2 _ _ ec).2 (Nat.le_refl _)
        have idx : ((i : Nat) : Int) + ((m : Nat) : Int) = ((i + m : Nat) : Int) := by omega
        have hivl : i + m < vals.length := by omega
        refine ⟨_, rfl, _, rfl, _, rfl, _, _, rfl, rfl, D, vals, _, cv, rfl, rfl, .inl (.inl hv), ?_, ?_⟩
        · show atI vals (((i : Nat) : Int) + ((m : Nat) : Int)) = some cv
          rw [idx]
          exact atI_nat ecv
        refine ⟨_, rfl, _, rfl, leftv, rightv, dx, dy, rfl, hix.up s27, hiy.up s27, nx, ny, ⟨s, t, s0, t0, by omega, Sz.nb nx szx, Sz.nb ny szy⟩, trivial, fun w1 r1 H8 s8 n8 l8 => ?_⟩
        have e8 := fProd_rt nx ny l8
        subst e8
        have z8 := szx.mul szy
        refine ⟨cv, w1, _, _, rfl, hcv.up s8, n8.is, ofR_num _, ofR_num _, ⟨i * (s + t + 1) + 1, s + t, by omega, by omega, by omega, Sz.nb (ofR_num _) (by rw [rt_ofR]; exact szc), Sz.nb (ofR_num _) (by rw [rt_ofR]; exact z8)⟩, trivial, fun w2 r2 H9 s9 n9 l9 => ?_⟩
        have e9 := fSum_rt (ofR_num _) (ofR_num _) l9
        rw [rt_ofR, rt_ofR] at e9
        subst e9
        have hv9 : H9 D = some (.lst vals) := s9 _ _ (s8 _ _ hv)
        have new : C.set (i + m) (C[i + m] + rt dx * rt dy) = convIn (rt dx) i (rts e) L (m + 1) := by
          rw [nxt2]
          unfold addAt
          rw [getD_at ec]
        refine ⟨_, rfl, _, rfl, _, rfl, _, _, rfl, rfl, D, vals, _, i + m, rfl, rfl, hv9, ?_, ?_⟩
        · show ixN vals.length (((i : Nat) : Int) + ((m : Nat) : Int)) = some (i + m)
          rw [idx]
          exact Evl.ixN_nat hivl
        have Fp := F7.put (k := i + m) hv (s8.trans s9) (n9.from s8)
        rw [new] at Fp
        refine ⟨Fp, Fp.1, fun k c hk => ?_, _, _, rfl⟩
        · rw [← new, List.getElem?_set] at hk
          by_cases ek : i + m = k
          · rw [if_pos ek, if_pos hlt] at hk
            cases hk
            refine ⟨?_, fun z => by omega⟩
            have e6 : (i + 1) * (s + t + 1) + 1 = i * (s + t + 1) + 1 + (s + t) + 1 := by omega
            rw [e6]
            exact szc.add z8
          · rw [if_neg ek] at hk
            have q := hz2 k c hk
            exact ⟨q.1, fun z => q.2 (by omega)⟩
      · rintro σ' H6 ⟨F, s26, hz2, s6, s7, rfl⟩
        rw [← q0] at F hz2
        rw [← nxt] at F hz2
        exact ⟨F, s26, fun x hx => by
          obtain ⟨k, hk⟩ := List.getElem?_of_mem hx
          exact (hz2 k x hk).1, _, _, _, _, rfl⟩
    · rintro σ' H4 ⟨F, s24, hz, s4, s5, s6, s7, rfl⟩
      have ec : convOut (rts d) (rts e) Z xs.length = conv (rts d) (rts e) := by
        unfold conv
        rw [p0, eZ, p0]
      rw [ec] at F
      obtain ⟨vals, hv, hl2, _⟩ := F.vals
      exact ⟨_, rfl, D, vals, rfl, .inl ⟨.inl (.inl hv), fun p hp => kq _ _ (s12.trans (s24.trans (Same.new hp))) ((F.tup hv hp).from s12)⟩⟩
end
end Ty

namespace Ty
open PySem PySem.Spec PyProof.Rows L2
section
variable {P : Program} {w : World} {K : PySem.W.Frag} {mg : Str → Option Value} {base : Heap}
theorem ok_law_vat (T : Txt K mg) : FnOk P w K mg base CX0 1 T.a_law_vat T.d_law_vat ["script"] (spSack K) := by
  refine T.F_law_vat.ok sc_law_vat (fun vs H Q E h => ?_) (fun cdv A outer s H vs Q E hr h => ?_)
  · obtain ⟨a, ns, rfl, _⟩ := h
    rfl
  · obtain ⟨a, ns, rfl, hS, hl, k⟩ := h
    refine ⟨_, (pss_one (ps_ret (pe_lst (pa_cons (pe_lc (own := [("cell", 1)]) (g := gName 1) rfl sc_law_vat.nd (pi_list (pe_slice sl_list (pv 0) po_none (po_some pe_int))) (blkOk_by (N := N_law_vat) (sc := defScope s_law_vat) (by decide +kernel)) (fun _ _ _ _ _ => (pg_name (i := 1) sc_law_vat.nd rfl (Or.inl rfl))) (fun _ _ _ _ _ => pts_nil) (fun _ _ _ _ _ => (pe_callTy call_int1 (by rfl) T.z_int (by decide +kernel) (pa_cons (pv 1) pa_nil)))) (pa_cons pe_int (pa_cons pe_int pa_nil)))))), ?_⟩
    obtain ⟨ms, e, hm⟩ := cut_ints ns none (some 60)
    refine ⟨_, rfl, _, rfl, a, _, rfl, hS, fun p hp => ?_⟩
    refine ⟨p, rfl, ⟨_, .inl (.inl upd_same)⟩, fun D hD => ?_⟩
    have hDp : D ≠ p := fun z => by rw [z, upd_same] at hD; cases hD
    have hD0 : H D = none := by rwa [upd_ne hDp] at hD
    refine lc_list (xs := cutV (ns.map V.int) none (some 60)) (fun i H' => Same H H' ∧ H' p = some (.lst (cutV (ns.map V.int) none (some 60))) ∧ H' D = some (.lst ((ms.take i).map V.int))) ?_ ?_ ?_ ?_
    · refine ⟨(Same.new hp).trans (Same.new hD), ?_, upd_same⟩
      rw [upd_ne hDp.symm]
      exact upd_same
    · intro i H' _ q
      exact .inl (.inl q.2.1)
    · intro i x H' hx q
      rw [e] at hx
      obtain ⟨z, hz, rfl⟩ : ∃ z, ms[i]? = some z ∧ x = V.int z := by
        rw [List.getElem?_map] at hx
        cases e : ms[i]? with
        | none => rw [e] at hx; cases hx
        | some z => rw [e] at hx; exact ⟨z, rfl, (Option.some.inj hx).symm⟩
      refine ⟨rfl, _, rfl, .inl ⟨z, rfl, _, q.2.2, ?_, Same.mut q.1 hD0, ?_, ?_⟩⟩
      · rw [List.length_map, List.length_take]
        exact Nat.lt_of_le_of_lt (Nat.min_le_right _ _) (Nat.lt_of_le_of_lt (Nat.le_trans hm hl) (by decide))
      · rw [upd_ne hDp.symm]
        exact q.2.1
      · rw [upd_same, List.take_add_one, hz, List.map_append]
        rfl
    · intro H' q
      have eD : H' D = some (.lst (ms.map V.int)) := by
        have q3 := q.2.2
        rwa [e, List.length_map, List.take_length] at q3
      refine ⟨(by decide : 3 ≤ sizeLine), fun j hj => k j D _ (q.1.trans (Same.new hj)) (q.1.free hj) hD0 ⟨ms, 0, 0, upd_same, ?_, ?_, by decide, by decide⟩⟩
      · rw [upd_ne (ne_of_none eD hj)]
        exact eD
      · exact ne_of_none eD hj
theorem ok_law_tap (T : Txt K mg) : FnOk P w K mg base CX0 1 T.a_law_tap T.d_law_tap ["vat", "many"] spReach := by
  refine T.F_law_tap.ok sc_law_tap (fun vs H Q E h => ?_) (fun cdv A outer s H vs Q E hr h => ?_)
  · obtain ⟨j, c, many, n, rfl, _⟩ := h
    rfl
  · obtain ⟨j, c, many, n, rfl, ⟨cells, at_, left, hj, hc, hcj, h0, hn⟩, hn2, hpos, hbig, k⟩ := h
    refine ⟨_, (pss_cons (ps_if (pt_cmpR op_gt (pe_ix ix_list (pv 0) pe_int (fun _ _ => rfl)) pe_int (nomark _)) (pss_cons (ps_set (i := 2) sc_law_tap.nd rfl (Or.inl rfl) (pe_callTy call_int1 (by rfl) T.z_int (by decide +kernel) (pa_cons (pe_ix ix_list (pv 0) pe_int (fun _ _ => rfl)) pa_nil)))
      (pss_cons (ps_asg (pe_op op_fdivW (pv 2) (pv 1)) (pg_sub (pv 0) pe_int set_list))
      (pss_one (ps_ret (pe_op op_mod (pe_callTy call_int1 (by rfl) T.z_int (by decide +kernel) (pa_cons (pv 2) pa_nil)) (pv 1)))))) pss_nil)
      (pss_cons (ps_set (i := 3) sc_law_tap.nd rfl (Or.inl rfl) (pe_ix ix_list (pv 0) pe_int (fun _ _ => rfl)))
      (pss_cons (ps_asg (pe_op op_add (pv 3) pe_int) (pg_sub (pv 0) pe_int set_list))
      (pss_cons (ps_set (i := 4) sc_law_tap.nd rfl (Or.inl rfl) (pe_op op_add (pe_op op_mul pe_int (pv 3)) pe_int))
      (Evl.pss_cut (ps_if (pt_cmpR (op_neE hr.units0) (pe_ix ix_list (pv 0) pe_int (fun _ _ => rfl)) (pe_lst pa_nil) (nomark _)) (pss_one (ps_set (i := 4) sc_law_tap.nd rfl (Or.inl rfl) (pe_ix ix_list (pe_ix ix_list (pv 0) pe_int (fun _ _ => rfl)) (pe_op op_mod (pe_callTy call_int1 (by rfl) T.z_int (by decide +kernel) (pa_cons (pv 3) pa_nil)) (pe_callB call_len_seq (by rfl) T.z_len PySem.boot_len (pa_cons (pe_ix ix_list (pv 0) pe_int (fun _ _ => rfl)) pa_nil))) (fun _ _ => rfl)))) pss_nil)
      (Evl.pss_cut (ps_if (PW.pt (pw_and (pt_cmpR op_lt (pv 3) (pe_callB call_len_seq (by rfl) T.z_len PySem.boot_len (pa_cons (pe_ix ix_list (pv 0) pe_int (fun _ _ => rfl)) pa_nil)) (nomark _)) (pw_and1 (pt_cmpR op_ge (pe_callB call_abs (by rfl) T.z_abs (by decide +kernel) (pa_cons (pv 4) pa_nil)) (pe_op op_pow pe_int pe_int) (nomark _))))) (pss_cons (ps_set (i := 2) sc_law_tap.nd rfl (Or.inl rfl) (pe_op op_add (pe_op op_mul pe_int (pe_op op_sub (pe_callB call_abs (by rfl) T.z_abs (by decide +kernel) (pa_cons (pv 4) pa_nil)) (pe_op op_pow pe_int pe_int))) (pe_callTy call_int1 (by rfl) T.z_int (by decide +kernel) (pa_cons (pe_cmpR op_lt (pv 4) pe_int (nomark _)) pa_nil))))
      (pss_cons (ps_asg (pe_op op_fdivW (pv 2) (pv 1)) (pg_sub (pv 0) pe_int set_list))
      (pss_one (ps_ret (pe_op op_mod (pe_callTy call_int1 (by rfl) T.z_int (by decide +kernel) (pa_cons (pv 2) pa_nil)) (pv 1)))))) pss_nil)
      (pss_cons (ps_set (i := 5) sc_law_tap.nd rfl (Or.inl rfl) (pe_op op_mod (pe_callTy call_int1 (by rfl) T.z_int (by decide +kernel) (pa_cons (pe_op op_pow (pe_op op_add (pe_op op_add (pe_op op_mod (pe_callTy call_int1 (by rfl) T.z_int (by decide +kernel) (pa_cons (pv 4) pa_nil)) pe_int) (pe_op op_mul pe_int (pv 3))) pe_int) pe_int) pa_nil)) pe_int))
      (pss_cons (ps_set (i := 5) sc_law_tap.nd rfl (Or.inl rfl) (pe_op op_mod (pe_callTy call_int1 (by rfl) T.z_int (by decide +kernel) (pa_cons (pe_op op_pow (pe_op op_add (pe_op op_add (pe_op op_mul (pv 5) (pe_op op_add (pe_op op_mul pe_int (pv 3)) pe_int)) (pe_op op_mul (pe_op op_mul pe_int (pv 3)) (pv 3))) pe_int) pe_int) pa_nil)) pe_int))
      (pss_one (ps_ret (pe_op op_mod (pe_callTy call_int1 (by rfl) T.z_int (by decide +kernel) (pa_cons (pe_op op_fdivW (pv 5) pe_int) pa_nil)) (pv 1)))))))))))), ?_⟩
    have cdiv : ∀ i : Int, CDivW i many := fun i => wide_div hpos hbig (by decide) (by decide)
    refine ⟨_, rfl, j, _, _, _, rfl, rfl, .inl (.inl hj), rfl, _, _, rfl, rfl, _, rfl, iteD (fun pos => ?_) fun _ => ?_⟩
    · refine ⟨_, rfl, j, _, _, _, rfl, rfl, .inl (.inl hj), rfl, .inl ⟨_, rfl, ?_⟩⟩
      refine ⟨_, rfl, _, rfl, _, _, rfl, rfl, cdiv _, _, rfl, j, _, _, _, rfl, rfl, hj, rfl, ?_⟩
      refine ⟨_, rfl, .inl ⟨_, rfl, _, rfl, _, _, rfl, rfl, hpos, k _ _ keep_upd ⟨cells, at_, _, upd_same, ?_, hcj, h0, by omega⟩ (mod_lt_of hpos).1 (mod_lt_of hpos).2⟩⟩
      rw [upd_ne hcj]
      exact hc
    refine ⟨_, rfl, j, _, _, _, rfl, rfl, .inl (.inl hj), rfl, ?_⟩
    refine ⟨_, rfl, _, _, rfl, rfl, _, rfl, j, _, _, _, rfl, rfl, hj, rfl, ?_⟩
    refine ⟨_, rfl, _, _, rfl, rfl, .inl ⟨by decide, by decide⟩, _, _, rfl, rfl, ?_⟩
    -- the cell
    have hj2 : upd H j (.lst ([V.ref c, .int at_, .int left].set (Int.toNat 1) ((fun i j => V.int (i + j)) at_ 1))) j = some (.lst [.ref c, .int (at_ + 1), .int left]) := upd_same
    have hc2 : upd H j (.lst ([V.ref c, .int at_, .int left].set (Int.toNat 1) ((fun i j => V.int (i + j)) at_ 1))) c = some (.lst (cells.map V.int)) := by
      rw [upd_ne hcj]
      exact hc
    have kp : Keep j H (upd H j (.lst ([V.ref c, .int at_, .int left].set (Int.toNat 1) ((fun i j => V.int (i + j)) at_ 1)))) := keep_upd
    generalize upd H j (.lst ([V.ref c, .int at_, .int left].set (Int.toNat 1) ((fun i j => V.int (i + j)) at_ 1))) = H1 at hj2 hc2 kp ⊢
    refine ⟨fun σ' H' => Same H1 H' ∧ ∃ z : Int, σ' = [some (.ref j), some (.int many), none, some (.int at_), some (.int z), none], ?_, ?_⟩
    · refine ⟨_, rfl, j, _, _, _, rfl, rfl, .inl (.inl hj2), rfl, Nat.zero_le _, fun l hl => ⟨c, l, _, rfl, rfl, .inl (.inl (Same.new hl _ _ hc2)), .inl (.inl upd_same), _, rfl, iteN (fun ne => ?_) fun _ => ?_⟩⟩
      · have hj3 := Same.new (o := .lst []) hl _ _ hj2
        have hc3 := Same.new (o := .lst []) hl _ _ hc2
        have pl : (0 : Int) < ((cells.map V.int).length : Int) := by
          cases cells with
          | nil => cases ne
          | cons _ _ => rw [List.length_map, List.length_cons]; omega
        have m := mod_lt_of (a := at_) pl
        have lt : (at_ % ((cells.map V.int).length : Int)).toNat < cells.length := by
          have m1 := m.1
          have m2 := m.2
          rw [List.length_map] at m1 m2 ⊢
          omega
        refine ⟨_, rfl, j, _, _, _, rfl, rfl, .inl (.inl hj3), rfl, _, rfl, .inl ⟨_, rfl, _, rfl, j, _, _, _, rfl, rfl, .inl (.inl hj3), rfl, c, _, rfl, .inl (.inl (.inl hc3)), _, _, rfl, rfl, pl, c, _, _, .int cells[(at_ % ((cells.map V.int).length : Int)).toNat], rfl, rfl, .inl (.inl hc3), ?_, Same.new hl, _, rfl⟩⟩
        refine atI_of m.1 rfl ?_
        rw [List.getElem?_map, List.getElem?_eq_getElem lt]
        rfl
      · exact ⟨Same.new hl, _, rfl⟩
    rintro σ' H2 ⟨s2, z, rfl⟩
    have hj3 := s2 _ _ hj2
    have hc3 := s2 _ _ hc2
    have kp2 : Keep j H H2 := kp.trans (Same.keep s2)
    have J2 : Jar j c H2 (n + 1) := ⟨cells, at_ + 1, left, hj3, hc3, hcj, by omega, by omega⟩
    refine ⟨fun σ' H' => σ' = [some (.ref j), some (.int many), none, some (.int at_), some (.int z), none] ∧ H' = H2, ?_, ?_⟩
    · have great : ∀ (w : Int), (upd H2 j (.lst ([V.ref c, .int (at_ + 1), .int left].set (Int.toNat 2) ((fun i j => V.int (i / j)) w many)))) c = some (.lst (cells.map V.int)) := fun w => by
        rw [upd_ne hcj]
        exact hc3
      refine ⟨_, rfl, _, rfl, j, _, _, _, rfl, rfl, .inl (.inl hj3), rfl, c, _, rfl, .inl (.inl (.inl hc3)), _, _, rfl, rfl, _, rfl, iteD (fun _ => ?_) fun _ => ⟨rfl, rfl⟩⟩
      refine ⟨_, rfl, _, rfl, _, _, rfl, rfl, ⟨by decide, by decide, by decide⟩, _, _, rfl, rfl, _, rfl, iteD (fun _ => ?_) fun _ => ⟨rfl, rfl⟩⟩
      refine ⟨_, rfl, _, rfl, _, _, rfl, rfl, ⟨by decide, by decide, by decide⟩, _, _, rfl, rfl, _, _, rfl, rfl, .inl ⟨by decide, by decide⟩, ?_⟩
      refine ⟨_, rfl, _, _, rfl, rfl, .inr ⟨_, rfl, _, _, rfl, rfl, ?_⟩⟩
      refine ⟨_, rfl, _, rfl, _, _, rfl, rfl, cdiv _, _, rfl, j, _, _, _, rfl, rfl, hj3, rfl, ?_⟩
      refine ⟨_, rfl, .inl ⟨_, rfl, _, rfl, _, _, rfl, rfl, hpos, k _ _ (kp2.trans keep_upd) ⟨cells, at_ + 1, _, upd_same, great _, hcj, by omega, by omega⟩ (mod_lt_of hpos).1 (mod_lt_of hpos).2⟩⟩
    rintro σ' H3 ⟨rfl, rfl⟩
    have m1 := mod_lt_of (a := z) (b := 2147483563) (by decide)
    refine ⟨_, rfl, .inl ⟨_, rfl, _, _, rfl, rfl, (by show (0 : Int) < 2147483563; decide), _, rfl, _, _, rfl, rfl, .inl ⟨by decide, by decide⟩, _, _, rfl, rfl, _, _, rfl, rfl, _, _, rfl, rfl, ⟨by decide, by decide, ?_⟩, .inl ⟨_, rfl, _, _, rfl, rfl, (by show (0 : Int) < 2147483549; decide), ?_⟩⟩⟩
    · show (z % 2147483563 + 72871 * at_ + 4703).natAbs < 2 ^ 64
      omega
    have m2 := mod_lt_of (a := (z % 2147483563 + 72871 * at_ + 4703) ^ (5 : Int).toNat) (b := 2147483549) (by decide)
    obtain ⟨y, hy⟩ : ∃ y : Int, (z % 2147483563 + 72871 * at_ + 4703) ^ (5 : Int).toNat % 2147483549 = y := ⟨_, rfl⟩
    rw [hy] at m2
    have b1 : 0 ≤ y * (2 * at_ + 3511) ∧ y * (2 * at_ + 3511) ≤ 2147483549 * 300000 := ⟨Int.mul_nonneg m2.1 (by omega), Int.mul_le_mul (by omega) (by omega) (by omega) (by decide)⟩
    have b2 : 0 ≤ 83311 * at_ * at_ ∧ 83311 * at_ * at_ ≤ 8331100000 * 100000 := ⟨Int.mul_nonneg (by omega) (by omega), Int.mul_le_mul (by omega) (by omega) (by omega) (by decide)⟩
    refine ⟨_, rfl, _, rfl, _, _, rfl, rfl, .inl ⟨by decide, by decide⟩, _, _, rfl, rfl, _, _, rfl, rfl, .inr ⟨by omega, by omega⟩, _, rfl, _, _, rfl, rfl, .inl ⟨by decide, by decide⟩, _, rfl, _, _, rfl, rfl, .inr ⟨by omega, by omega⟩, _, _, rfl, rfl, _, _, rfl, rfl, _, _, rfl, rfl, ⟨by decide, by decide, ?_⟩, .inl ⟨_, rfl, _, _, rfl, rfl, (by show (0 : Int) < 2147483497; decide), ?_⟩⟩
    · show ((z % 2147483563 + 72871 * at_ + 4703) ^ (5 : Int).toNat % 2147483549 * (2 * at_ + 3511) + 83311 * at_ * at_ + 72871).natAbs < 2 ^ 64
      rw [hy]
      omega
    refine ⟨_, rfl, _, _, rfl, rfl, ⟨by decide, by decide⟩, .inl ⟨_, rfl, _, rfl, _, _, rfl, rfl, hpos, k _ _ kp2 J2 (mod_lt_of hpos).1 (mod_lt_of hpos).2⟩⟩
theorem ok_law_one (T : Txt K mg) : FnOk P w K mg base CX0 2 T.a_law_one T.d_law_one ["vat", "some"] spPick := by
  have G_law_tap := ok_law_tap (P := P) (w := w) (base := base) T
  refine T.F_law_one.ok sc_law_one (fun vs H Q E h => ?_) (fun cdv A outer s H vs Q E hr h => ?_)
  · obtain ⟨j, bk, p, xs, n, rfl, _⟩ := h
    rfl
  · obtain ⟨j, bk, p, xs, n, rfl, hJ, hn, hp, hpj, hl0, hl, k⟩ := h
    refine ⟨_, (pss_one (ps_ret (pe_ix ix_list (pv 1) (pe_call G_law_tap (hr.mono (by decide)) (by rfl) T.m_law_tap T.F_law_tap.kp (b_law_tap T) .nil pass0 (pa_cons (pv 0) (pa_cons (pe_callB call_len_seq (by rfl) T.z_len PySem.boot_len (pa_cons (pv 1) pa_nil)) pa_nil))) (fun _ _ => rfl)))), ?_⟩
    have b : ((xs.length : Int)).natAbs < 2 ^ 8000 := Nat.lt_of_le_of_lt (show (xs.length : Int).natAbs ≤ 2 ^ 10 by omega) (Nat.pow_lt_pow_right (by decide) (by decide))
    refine ⟨_, rfl, _, rfl, _, rfl, p, xs, rfl, .inl (.inl (.inl hp)), j, bk, _, n, rfl, hJ, hn, by omega, b, fun r H' kp hJ' h0 h1 => ?_⟩
    have hp' : H' p = some (.lst xs) := kp p _ hpj hp
    have lt : r.toNat < xs.length := by omega
    exact ⟨p, xs, r, xs[r.toNat], rfl, rfl, .inl (.inl hp'), atI_of h0 rfl (List.getElem?_eq_getElem lt), k _ _ kp hJ' (List.getElem_mem lt)⟩
end
end Ty

namespace Ty
open PySem PySem.Spec PyProof.Rows L2
section
variable {P : Program} {w : World} {K : PySem.W.Frag} {mg : Str → Option Value} {base : Heap}
theorem ok_law_common (T : Txt K mg) : FnOk P w K mg base CX0 1 T.a_law_common T.d_law_common ["one", "other"] spCommon := by
  refine T.F_law_common.ok sc_law_common (fun vs H Q E h => ?_) (fun cdv A outer s H vs Q E hr h => ?_)
  · obtain ⟨a, b, rfl, _⟩ := h
    rfl
  · obtain ⟨a, b, rfl, k⟩ := h
    refine ⟨_, (pss_cons (ps_par (i := 0) (j := 1) rfl sc_law_common.nd rfl rfl (by decide) rfl rfl (pa_cons (pe_callB call_abs (by rfl) T.z_abs (by decide +kernel) (pa_cons (pv 0) pa_nil)) (pa_cons (pe_callB call_abs (by rfl) T.z_abs (by decide +kernel) (pa_cons (pv 1) pa_nil)) pa_nil)) (by rfl))
      (pss_cons (ps_while PassesOwn.never (pt_cmpR op_gt (pv 1) pe_int (nomark _)) (pss_one (ps_par (i := 0) (j := 1) rfl sc_law_common.nd rfl rfl (by decide) rfl rfl (pa_cons (pv 1) (pa_cons (pe_op op_mod (pe_callTy call_int1 (by rfl) T.z_int (by decide +kernel) (pa_cons (pv 0) pa_nil)) (pv 1)) pa_nil)) (by rfl))))
      (pss_one (ps_ret (pv 0))))), ?_⟩
    refine ⟨_, rfl, a, rfl, _, rfl, b, rfl, _, _, rfl, ?_⟩
    refine ⟨fun m σ' H' => ∃ p o : Int, σ' = [some (.int p), some (.int o)] ∧ H' = H ∧ m = o.toNat ∧ 0 ≤ o ∧ 0 ≤ p ∧ Nat.gcd p.natAbs o.natAbs = Nat.gcd a.natAbs b.natAbs, ⟨_, (if a < 0 then -a else a), (if b < 0 then -b else b), rfl, rfl, rfl, by split <;> omega, by split <;> omega, ?_⟩, ?_⟩
    · have e1 : (if a < 0 then -a else a).natAbs = a.natAbs := by split <;> omega
      have e2 : (if b < 0 then -b else b).natAbs = b.natAbs := by split <;> omega
      rw [e1, e2]
    rintro m σ' H' ⟨p, o, rfl, rfl, rfl, o0, p0, hg⟩
    refine ⟨_, rfl, _, _, rfl, rfl, _, rfl, iteD (fun pos => ?_) fun npos => ?_⟩
    · have q := mod_lt_of (a := p) pos
      refine ⟨fun σ2 H2 => σ2 = [some (.int o), some (.int (p % o))] ∧ H2 = H', ?_, ?_⟩
      · rintro σ2 H2 ⟨rfl, rfl⟩
        exact ⟨(p % o).toNat, by omega, o, p % o, rfl, rfl, rfl, q.1, o0, by rw [gcd_step p0 pos]; exact hg⟩
      · exact ⟨_, rfl, _, rfl, .inl ⟨_, rfl, _, rfl, _, _, rfl, rfl, pos, _, _, rfl, rfl, rfl⟩⟩
    · have z : o = 0 := by omega
      subst z
      have e : p = ((Nat.gcd a.natAbs b.natAbs : Nat) : Int) := by
        rw [← hg]
        show p = ((Nat.gcd p.natAbs 0 : Nat) : Int)
        rw [Nat.gcd_zero_right]
        omega
      refine ⟨_, rfl, ?_⟩
      rw [e]
      exact k
theorem ok_law_lowest (T : Txt K mg) : FnOk P w K mg base CX0 2 T.a_law_lowest T.d_law_lowest ["above", "under"] spLow := by
  have G_law_common := ok_law_common (P := P) (w := w) (base := base) T
  refine T.F_law_lowest.ok sc_law_lowest (fun vs H Q E h => ?_) (fun cdv A outer s H vs Q E hr h => ?_)
  · obtain ⟨a, b, rfl, _⟩ := h
    rfl
  · obtain ⟨a, b, rfl, hb, hs, k⟩ := h
    refine ⟨_, (pss_cons (ps_set (i := 2) sc_law_lowest.nd rfl (Or.inl rfl) (pe_call G_law_common (hr.mono (by decide)) (by rfl) T.m_law_common T.F_law_common.kp (b_law_common T) .nil pass0 (pa_cons (pv 0) (pa_cons (pv 1) pa_nil))))
      (pss_cons (ps_par (i := 0) (j := 1) rfl sc_law_lowest.nd rfl rfl (by decide) rfl rfl (pa_cons (pe_op op_fdivX (pe_callTy call_int1 (by rfl) T.z_int (by decide +kernel) (pa_cons (pv 0) pa_nil)) (pv 2)) (pa_cons (pe_op op_fdivX (pe_callTy call_int1 (by rfl) T.z_int (by decide +kernel) (pa_cons (pv 1) pa_nil)) (pv 2)) pa_nil)) (by rfl))
      (pss_one (ps_ret (pe_ifExp (pt_cmpR op_eq (pv 1) pe_int (nomark _)) (pv 0) (pe_tup (pa_cons (pv 0) (pa_cons (pv 1) pa_nil)))))))), ?_⟩
    refine ⟨_, rfl, _, rfl, a, b, rfl, ?_⟩
    obtain ⟨g0, gl, low⟩ := low_pos (a := a) hb
    have gs := Nat.lt_of_le_of_lt gl hs
    refine ⟨_, rfl, .inl ⟨_, rfl, _, rfl, _, _, rfl, rfl, divX g0 gs (by decide) (by decide), _, rfl, .inl ⟨_, rfl, _, rfl, _, _, rfl, rfl, divX g0 gs (by decide) (by decide), _, _, rfl, ?_⟩⟩⟩
    refine ⟨_, rfl, rfl, _, rfl, iteD (fun c => ?_) fun c => ?_⟩
    · refine ⟨_, rfl, k _ _ (Same.refl _) ?_⟩
      rw [← low, frac, if_pos (int_eq c)]
      exact New.int
    · refine ⟨_, rfl, _, rfl, (by decide : 2 ≤ sizeLine), fun p hp => k _ _ (Same.new hp) ?_⟩
      rw [← low, frac, if_neg (int_ne c)]
      exact New.tup2 hp upd_same New.int New.int
theorem ok_law_ends (T : Txt K mg) : FnOk P w K mg base CX0 1 T.a_law_ends T.d_law_ends ["number"] spHalves := by
  refine T.F_law_ends.ok sc_law_ends (fun vs H Q E h => ?_) (fun cdv A outer s H vs Q E hr h => ?_)
  · obtain ⟨v, d, rfl, _⟩ := h
    rfl
  · obtain ⟨v, d, rfl, h, hn, k⟩ := h
    refine ⟨_, (pss_one (ps_ret (pe_ifExp (pt_val (pe_callB call_isiInt (by rfl) T.z_isinstance (by decide +kernel) (pa_cons (pv 0) (pa_cons (pe_bltn (v := .ty "int") (by rfl) T.z_int (by decide +kernel) rfl) pa_nil)))) (pe_tup (pa_cons (pv 0) (pa_cons pe_int pa_nil))) (pe_tup (pa_cons (pe_ix (IxR.or (r := rIxL K) (r' := rIxT K) ix_list ix_tup) (pv 0) pe_int (fun _ _ => rfl)) (pa_cons (pe_ix (IxR.or (r := rIxL K) (r' := rIxT K) ix_list ix_tup) (pv 0) pe_int (fun _ _ => rfl)) pa_nil)))))), ?_⟩
    refine ⟨_, rfl, v, d, rfl, h, _, rfl, iteB (fun c => ?_) fun c => ?_⟩
    · rcases num_cases h hn with ⟨i, rfl, rfl⟩ | ⟨a, i, j, rfl, ⟨ha, rfl⟩ | ⟨ha, rfl⟩, _, _⟩
      · exact ⟨_, rfl, (by decide : 2 ≤ sizeLine), fun p hp => k _ p (Same.new hp) upd_same⟩
      · cases c
      · cases c
    · rcases num_cases h hn with ⟨i, rfl, rfl⟩ | ⟨a, i, j, rfl, ⟨ha, rfl⟩ | ⟨ha, rfl⟩, _, _⟩
      · cases c
      · exact ⟨_, rfl, .inr ⟨a, _, _, _, rfl, rfl, .inl (.inl ha), rfl, _, rfl, .inr ⟨a, _, _, _, rfl, rfl, .inl (.inl ha), rfl, (by decide : 2 ≤ sizeLine), fun p hp => k _ p (Same.new hp) upd_same⟩⟩⟩
      · exact ⟨_, rfl, .inl ⟨a, _, _, _, rfl, rfl, .inl (.inl ha), rfl, _, rfl, .inl ⟨a, _, _, _, rfl, rfl, .inl (.inl ha), rfl, (by decide : 2 ≤ sizeLine), fun p hp => k _ p (Same.new hp) upd_same⟩⟩⟩
theorem ok_law_plus (T : Txt K mg) : FnOk P w K mg base CX0 3 T.a_law_plus T.d_law_plus ["one", "other"] (spRat2 (· + ·)) := by
  have G_law_lowest := ok_law_lowest (P := P) (w := w) (base := base) T
  have G_law_ends := ok_law_ends (P := P) (w := w) (base := base) T
  refine T.F_law_plus.ok sc_law_plus (fun vs H Q E h => ?_) (fun cdv A outer s H vs Q E hr h => ?_)
  · obtain ⟨u, v, d, e, rfl, _⟩ := h
    rfl
  · obtain ⟨u, v, d, e, rfl, hu, hv, nd, ne, ⟨m, n, m0, n0, mn, bd, be⟩, k⟩ := h
    refine ⟨_, (pss_cons (ps_asg (pe_tup (pa_cons (pe_call G_law_ends (hr.mono (by decide)) (by rfl) T.m_law_ends T.F_law_ends.kp (b_law_ends T) .nil pass0 (pa_cons (pv 0) pa_nil)) (pa_cons (pe_call G_law_ends (hr.mono (by decide)) (by rfl) T.m_law_ends T.F_law_ends.kp (b_law_ends T) .nil pass0 (pa_cons (pv 1) pa_nil)) pa_nil))) (pg_tup rfl (pgs_cons (pg_tup rfl (pgs_cons (pg_name (i := 2) sc_law_plus.nd rfl (Or.inl rfl)) (pgs_cons (pg_name (i := 3) sc_law_plus.nd rfl (Or.inl rfl)) pgs_nil))) (pgs_cons (pg_tup rfl (pgs_cons (pg_name (i := 4) sc_law_plus.nd rfl (Or.inl rfl)) (pgs_cons (pg_name (i := 5) sc_law_plus.nd rfl (Or.inl rfl)) pgs_nil))) pgs_nil))))
      (pss_one (ps_ret (pe_call G_law_lowest (hr.mono (by decide)) (by rfl) T.m_law_lowest T.F_law_lowest.kp (b_law_lowest T) .nil pass0 (pa_cons (pe_op op_add (pe_op op_mulW (pv 2) (pv 5)) (pe_op op_mulW (pv 4) (pv 3))) (pa_cons (pe_op op_mulW (pv 3) (pv 5)) pa_nil)))))), ?_⟩
    have q1 := (num_parts nd).1
    have q2 := (num_parts ne).1
    have mm := wide_lt bd.2 be.2
    refine ⟨_, rfl, u, d, rfl, hu, nd, fun H1 p1 s1 hp1 => ⟨_, rfl, v, e, rfl, hv.up s1, ne, fun H2 p2 s2 hp2 => ⟨(by decide : 2 ≤ sizeLine), fun t ht => ?_⟩⟩⟩
    have n5 : (upd H2 t (.tup [.ref p1, .ref p2])) p1 = some (.tup [.int (above d), .int (below d)]) := Same.new ht _ _ (s2 _ _ hp1)
    have n6 : (upd H2 t (.tup [.ref p1, .ref p2])) p2 = some (.tup [.int (above e), .int (below e)]) := Same.new ht _ _ hp2
    refine ⟨t, _, rfl, .inl (.inl upd_same), rfl, .ref p1, _, rfl, ⟨p1, _, rfl, .inl (.inl n5), rfl, _, _, rfl, _, _, rfl, rfl, .ref p2, _, rfl, ⟨p2, _, rfl, .inl (.inl n6), rfl, _, _, rfl, _, _, rfl, rfl, rfl, ?_⟩⟩⟩
    have s3 : Same H (upd H2 t (.tup [.ref p1, .ref p2])) := (s1.trans s2).trans (Same.new ht)
    generalize upd H2 t (.tup [.ref p1, .ref p2]) = H3 at s3 ⊢
    refine ⟨_, rfl, _, rfl, _, _, rfl, rfl, wide_mul bd.1 be.2 m0 n0 (by omega), _, rfl, _, rfl, _, _, rfl, rfl, wide_mul be.1 bd.2 n0 m0 (by omega), _, _, rfl, rfl, _, rfl, _, rfl, _, _, rfl, rfl, wide_mul bd.2 be.2 m0 n0 (by omega), _, _, rfl, Int.mul_pos q1 q2, Nat.lt_of_lt_of_le mm (Nat.pow_le_pow_right (by decide) mn), fun w H4 s4 n4 => k w H4 (s3.trans s4) ?_⟩
    show New H H4 w (ofR (rt d + rt e))
    unfold rt
    rw [Rat.divInt_add_divInt _ _ (by omega) (by omega)]
    exact n4.from s3
theorem ok_law_times (T : Txt K mg) : FnOk P w K mg base CX0 3 T.a_law_times T.d_law_times ["one", "other"] (spRat2 (· * ·)) := by
  have G_law_lowest := ok_law_lowest (P := P) (w := w) (base := base) T
  have G_law_ends := ok_law_ends (P := P) (w := w) (base := base) T
  refine T.F_law_times.ok sc_law_times (fun vs H Q E h => ?_) (fun cdv A outer s H vs Q E hr h => ?_)
  · obtain ⟨u, v, d, e, rfl, _⟩ := h
    rfl
  · obtain ⟨u, v, d, e, rfl, hu, hv, nd, ne, ⟨m, n, m0, n0, mn, bd, be⟩, k⟩ := h
    refine ⟨_, (pss_cons (ps_asg (pe_tup (pa_cons (pe_call G_law_ends (hr.mono (by decide)) (by rfl) T.m_law_ends T.F_law_ends.kp (b_law_ends T) .nil pass0 (pa_cons (pv 0) pa_nil)) (pa_cons (pe_call G_law_ends (hr.mono (by decide)) (by rfl) T.m_law_ends T.F_law_ends.kp (b_law_ends T) .nil pass0 (pa_cons (pv 1) pa_nil)) pa_nil))) (pg_tup rfl (pgs_cons (pg_tup rfl (pgs_cons (pg_name (i := 2) sc_law_times.nd rfl (Or.inl rfl)) (pgs_cons (pg_name (i := 3) sc_law_times.nd rfl (Or.inl rfl)) pgs_nil))) (pgs_cons (pg_tup rfl (pgs_cons (pg_name (i := 4) sc_law_times.nd rfl (Or.inl rfl)) (pgs_cons (pg_name (i := 5) sc_law_times.nd rfl (Or.inl rfl)) pgs_nil))) pgs_nil))))
      (pss_one (ps_ret (pe_call G_law_lowest (hr.mono (by decide)) (by rfl) T.m_law_lowest T.F_law_lowest.kp (b_law_lowest T) .nil pass0 (pa_cons (pe_op op_mulW (pv 2) (pv 4)) (pa_cons (pe_op op_mulW (pv 3) (pv 5)) pa_nil)))))), ?_⟩
    have q1 := (num_parts nd).1
    have q2 := (num_parts ne).1
    have mm := wide_lt bd.2 be.2
    refine ⟨_, rfl, u, d, rfl, hu, nd, fun H1 p1 s1 hp1 => ⟨_, rfl, v, e, rfl, hv.up s1, ne, fun H2 p2 s2 hp2 => ⟨(by decide : 2 ≤ sizeLine), fun t ht => ?_⟩⟩⟩
    have n5 : (upd H2 t (.tup [.ref p1, .ref p2])) p1 = some (.tup [.int (above d), .int (below d)]) := Same.new ht _ _ (s2 _ _ hp1)
    have n6 : (upd H2 t (.tup [.ref p1, .ref p2])) p2 = some (.tup [.int (above e), .int (below e)]) := Same.new ht _ _ hp2
    refine ⟨t, _, rfl, .inl (.inl upd_same), rfl, .ref p1, _, rfl, ⟨p1, _, rfl, .inl (.inl n5), rfl, _, _, rfl, _, _, rfl, rfl, .ref p2, _, rfl, ⟨p2, _, rfl, .inl (.inl n6), rfl, _, _, rfl, _, _, rfl, rfl, rfl, ?_⟩⟩⟩
    have s3 : Same H (upd H2 t (.tup [.ref p1, .ref p2])) := (s1.trans s2).trans (Same.new ht)
    generalize upd H2 t (.tup [.ref p1, .ref p2]) = H3 at s3 ⊢
    refine ⟨_, rfl, _, rfl, _, _, rfl, rfl, wide_mul bd.1 be.1 m0 n0 (by omega), _, rfl, _, rfl, _, _, rfl, rfl, wide_mul bd.2 be.2 m0 n0 (by omega), _, _, rfl, Int.mul_pos q1 q2, Nat.lt_of_lt_of_le mm (Nat.pow_le_pow_right (by decide) mn), fun w H4 s4 n4 => k w H4 (s3.trans s4) ?_⟩
    show New H H4 w (ofR (rt d * rt e))
    unfold rt
    rw [Rat.divInt_mul_divInt]
    exact n4.from s3
theorem ok_law_number (T : Txt K mg) : FnOk P w K mg base CX0 3 T.a_law_number T.d_law_number ["vat"] spNumR := by
  have G_law_one := ok_law_one (P := P) (w := w) (base := base) T
  have G_law_lowest := ok_law_lowest (P := P) (w := w) (base := base) T
  have G_law_tap := ok_law_tap (P := P) (w := w) (base := base) T
  refine T.F_law_number.ok sc_law_number (fun vs H Q E h => ?_) (fun cdv A outer s H vs Q E hr h => ?_)
  · obtain ⟨S, j, bk, n, rfl, _⟩ := h
    rfl
  · obtain ⟨S, j, bk, n, rfl, hS, lv, J, hn, k⟩ := h
    refine ⟨_, (pss_cons (ps_set (i := 1) sc_law_number.nd rfl (Or.inl rfl) (pe_call G_law_one (hr.mono (by decide)) (by rfl) T.m_law_one T.F_law_one.kp (b_law_one T) .nil pass0 (pa_cons (pv 0) (pa_cons (pe_lst (pa_cons pe_int (pa_cons pe_int (pa_cons pe_int (pa_cons pe_int (pa_cons (pe_op op_pow pe_int pe_int) pa_nil)))))) pa_nil))))
      (pss_one (ps_ret (pe_call G_law_lowest (hr.mono (by decide)) (by rfl) T.m_law_lowest T.F_law_lowest.kp (b_law_lowest T) .nil pass0 (pa_cons (pe_op op_sub (pe_call G_law_tap (hr.mono (by decide)) (by rfl) T.m_law_tap T.F_law_tap.kp (b_law_tap T) .nil pass0 (pa_cons (pv 0) (pa_cons (pe_op op_add (pe_op op_mul pe_int (pv 1)) pe_int) pa_nil))) (pv 1)) (pa_cons (pe_op op_add pe_int (pe_call G_law_tap (hr.mono (by decide)) (by rfl) T.m_law_tap T.F_law_tap.kp (b_law_tap T) .nil pass0 (pa_cons (pv 0) (pa_cons (pe_call G_law_one (hr.mono (by decide)) (by rfl) T.m_law_one T.F_law_one.kp (b_law_one T) .nil pass0 (pa_cons (pv 0) (pa_cons (pe_lst (pa_cons pe_int (pa_cons pe_int (pa_cons pe_int (pa_cons (pe_op op_pow pe_int pe_int) pa_nil))))) pa_nil))) pa_nil)))) pa_nil)))))), ?_⟩
    refine dr_asg (dr_pickE hS rfl (drA_consE hS dr_int (drA_consE hS dr_int (drA_consE hS dr_int (drA_consE hS dr_int (drA_consE hS (dr_pow ⟨by decide, by decide, by decide⟩) drA_nil))))) (by decide) (by decide)) lv J (by omega) fun v d H1 k1 l1 J1 h1 p1 => ?_
    obtain ⟨z, rfl, z0, z1⟩ : ∃ z : Int, d = .int z ∧ 0 < z ∧ z ≤ 10 ^ 12 := by
      simp only [List.mem_cons, List.not_mem_nil, or_false] at p1
      rcases p1 with rfl | rfl | rfl | rfl | rfl <;> exact ⟨_, rfl, by decide, by decide⟩
    cases h1
    refine dr_ret (dr_lowR (Pa := fun a => a.natAbs ≤ 10 ^ 12) (Pb := fun b => 0 < b ∧ b ≤ 10 ^ 6)
      ((dr_op0 (dr_reachE rfl (dr_op0 (dr_op dr_cI (dr_vI rfl) fun a b ea eb => .inl ⟨by omega, by omega⟩) dr_cI) (fun m ⟨a, b, ⟨x, y, ex, ey, ea⟩, eb, em⟩ => by subst ex; subst ey; exact ⟨by omega, Nat.lt_of_le_of_lt (show m.natAbs ≤ 2 ^ 60 by omega) (Nat.pow_lt_pow_right (by decide) (by decide))⟩)) (dr_vI rfl)).imp fun d ⟨i, e, a, b, ⟨m, ⟨x, y, ⟨x1, y1, ex1, ey1, ex⟩, ey, em⟩, a0, a1⟩, eb, ei⟩ => ⟨i, e, by subst ex1; subst ey1; omega⟩)
      ((dr_op0 dr_cI (dr_reachE rfl ((dr_pickE hS rfl (drA_consE hS dr_int (drA_consE hS dr_int (drA_consE hS dr_int (drA_consE hS (dr_pow ⟨by decide, by decide, by decide⟩) drA_nil)))) (by decide) (by decide)).imp (P1 := fun d => ∃ m, d = .int m ∧ (0 < m ∧ m ≤ 10 ^ 6)) fun d hm => by
        simp only [List.mem_cons, List.not_mem_nil, or_false] at hm
        rcases hm with rfl | rfl | rfl | rfl <;> exact ⟨_, rfl, by decide, by decide⟩) fun m hm => ⟨hm.1, Nat.lt_of_le_of_lt (show m.natAbs ≤ 2 ^ 60 by omega) (Nat.pow_lt_pow_right (by decide) (by decide))⟩)).imp fun d ⟨i, e, a, b, ea, ⟨m, hm, b0, b1⟩, ei⟩ => ⟨i, e, by omega⟩)
      fun b hb => ⟨hb.1, Nat.lt_of_le_of_lt (show b.natAbs ≤ 2 ^ 60 by omega) (Nat.pow_lt_pow_right (by decide) (by decide))⟩) l1 J1 (by omega) fun v d H3 k3 l3 J3 h3 p3 => ?_
    obtain ⟨a, b, pa, ⟨b0, b1⟩, rfl⟩ := p3
    exact k v _ H3 (k1.trans k3) l3 (J3.le (by omega)) h3 (sz_low (by omega) (Nat.lt_of_le_of_lt pa (by decide)) (Nat.lt_of_le_of_lt (show b.natAbs ≤ 10 ^ 6 by omega) (by decide)))
end
end Ty

namespace Ty
open PySem PySem.Spec PyProof.Rows L2
section
variable {P : Program} {w : World} {K : PySem.W.Frag} {mg : Str → Option Value} {base : Heap}
theorem ok_law_row (T : Txt K mg) : FnOk P w K mg base CX0 4 T.a_law_row T.d_law_row ["vat", "most"] spRowR := by
  have G_law_tap := ok_law_tap (P := P) (w := w) (base := base) T
  have G_law_number := ok_law_number (P := P) (w := w) (base := base) T
  refine T.F_law_row.ok sc_law_row (fun vs H Q E h => ?_) (fun cdv A outer s H vs Q E hr h => ?_)
  · obtain ⟨S, j, bk, n, most, rfl, _⟩ := h
    rfl
  · obtain ⟨S, j, bk, n, most, rfl, hS, lv, J, m0, m1, hn, k⟩ := h
    refine ⟨_, (pss_cons (ps_set (i := 2) sc_law_row.nd rfl (Or.inl rfl) (pe_lst pa_nil))
      (pss_cons (ps_for PassesOwn.never rfl (pi_range1 (by rfl) T.z_range (pa_cons (pe_op op_add pe_int (pe_call G_law_tap (hr.mono (by decide)) (by rfl) T.m_law_tap T.F_law_tap.kp (b_law_tap T) .nil pass0 (pa_cons (pv 0) (pa_cons (pv 1) pa_nil)))) pa_nil)) (pg_name (i := 3) sc_law_row.nd rfl (Or.inl rfl)) (pss_one (ps_expr (pe_bm PySem.F.plainAttrs_list PySem.F.slot_list_append PySem.F.type_list_append mt_append (pv 2) (pa_cons (pe_ifExp (pt_cmpR op_gt (pe_call G_law_tap (hr.mono (by decide)) (by rfl) T.m_law_tap T.F_law_tap.kp (b_law_tap T) .nil pass0 (pa_cons (pv 0) (pa_cons pe_int pa_nil))) pe_int (nomark _)) (pe_call G_law_number (hr.mono (by decide)) (by rfl) T.m_law_number T.F_law_number.kp (b_law_number T) .nil pass0 (pa_cons (pv 0) pa_nil)) pe_int) pa_nil)))))
      (pss_one (ps_ret (pv 2))))), ?_⟩
    refine ⟨Nat.zero_le _, fun D hD => ?_⟩
    have SD : S D = false := by
      cases q : S D with
      | false => rfl
      | true => exact absurd hD (lv D q)
    have Dj : D ≠ j := J.new hD
    have Db : D ≠ bk := J.newB hD
    have s0 : Same H (upd H D (.lst [])) := Same.new hD
    have hD0 : upd H D (.lst []) D = some (.lst []) := upd_same
    have J0 := J.up s0
    have l0 := lv.more s0
    generalize upd H D (.lst []) = H0 at s0 hD0 J0 l0 ⊢
    refine ⟨_, rfl, _, rfl, j, bk, most, n, rfl, J0, by omega, m0, Nat.lt_of_le_of_lt (show most.natAbs ≤ 2 ^ 60 by omega) (Nat.pow_lt_pow_right (by decide) (by decide)), fun r H1 k1 J1 r0 r1 => ⟨_, _, rfl, rfl, 1 + r, rfl, by omega, by omega, ?_⟩⟩
    refine for_range (n := (1 + r).toNat) (fun i σ' H' => Keep j H H' ∧ Live S H' ∧ Jar j bk H' (n + 1 + 5 * i) ∧ (∃ (vals : List V) (qs : List Rat), H' D = some (.lst vals) ∧ IsAll (mn (wth S D) H') vals (qs.map ofR) ∧ qs.length = i ∧ ∀ q ∈ qs, Sz 41 q) ∧ ∃ s3 : Option V, σ' = [some (.ref j), some (.int most), some (.ref D), s3]) ?_ ?_ ?_
    · exact ⟨(Same.keep s0).trans k1, l0.up k1 J1, J1, ⟨[], [], k1 D _ Dj hD0, .nil, rfl, fun q hq => by cases hq⟩, none, rfl⟩
    · rintro i σ' H2 hi ⟨K2, L2', J2, ⟨vals, qs, hv, ha, hl, hz⟩, s3, rfl⟩
      have lW : Live (wth S D) H2 := wth_live L2' hv
      have hW : wth S D j = true := wth_sub hS
      have lv2 : vals.length = i := by rw [ha.length, List.length_map, hl]
      refine ⟨_, rfl, .inl ⟨rfl, _, .inl (.inl hv)⟩, ?_⟩
      refine dr_if (S := wth S D) (c2 := 4) (P := fun d => ∃ q, d = ofR q ∧ Sz 41 q) (drT_cmp (g := fun i j => decide (j < i)) (dr_reach rfl (by decide) (by decide)) dr_cI) (fun H3 k3 _ => dr_numR hW rfl) (fun H3 k3 _ => (dr_int.imp fun d e => ⟨0, by rw [e, ofR_zero], sz_zero.more (by decide)⟩).more (by decide)) H2 _ _ (Keep.refl _) lW J2 (by omega) fun v d H3 k3 l3 J3 h3 p3 => ?_
      obtain ⟨q, rfl, hq⟩ := p3
      have hv3 := k3 D _ Dj hv
      refine ⟨D, vals, v, rfl, rfl, hv3, by rw [lv2]; exact Nat.lt_of_lt_of_le (show i < 100 by omega) (by decide), ?_⟩
      refine ⟨fun b o bj hb => ?_, fun b hb => ?_, J3.put Dj Db, ⟨_, qs ++ [q], upd_same, ?_, by rw [List.length_append, hl]; rfl, fun x hx => ?_⟩, _, rfl⟩
      · have bD : b ≠ D := fun z => by rw [z, hD] at hb; cases hb
        rw [upd_ne bD]
        exact (K2.trans k3) b o bj hb
      · have bD : b ≠ D := fun z => by rw [z, SD] at hb; cases hb
        rw [upd_ne bD]
        exact l3 b (wth_sub hb)
      · rw [List.map_append]
        exact ((ha.up (k3.less hW)).snoc h3).up wth_put
      · rcases List.mem_append.mp hx with z | z
        · exact hz x z
        · rw [List.mem_singleton.mp z]
          exact hq
    · rintro σ' H2 ⟨K2, L2', J2, ⟨vals, qs, hv, ha, hl, hz⟩, s3, rfl⟩
      refine ⟨_, rfl, k (.ref D) qs H2 K2 L2' (J2.le (by omega)) (.lst (by rw [mn_at SD]; exact hv) (ha.up (mn_mono fun b hb => wth_sub hb))) (by omega) (by omega) hz⟩
theorem ok_law_value (T : Txt K mg) : FnOk P w K mg base CX0 4 T.a_law_value T.d_law_value ["row", "number"] spValR := by
  have G_law_plus := ok_law_plus (P := P) (w := w) (base := base) T
  have G_law_times := ok_law_times (P := P) (w := w) (base := base) T
  refine T.F_law_value.ok sc_law_value (fun vs H Q E h => ?_) (fun cdv A outer s H vs Q E hr h => ?_)
  · obtain ⟨u, v, qs, x, rfl, _⟩ := h
    rfl
  · obtain ⟨u, v, qs, x, rfl, hu, hv, ⟨s, t, s0, t0, hsz, tsz, fit⟩, hlen, k⟩ := h
    refine ⟨_, (pss_cons (ps_asg (pe_tup (pa_cons pe_int (pa_cons pe_int pa_nil))) (pg_tup rfl (pgs_cons (pg_name (i := 2) sc_law_value.nd rfl (Or.inl rfl)) (pgs_cons (pg_name (i := 3) sc_law_value.nd rfl (Or.inl rfl)) pgs_nil))))
      (pss_cons (ps_for PassesOwn.never rfl (pi_list (pv 0)) (pg_name (i := 4) sc_law_value.nd rfl (Or.inl rfl)) (pss_cons (ps_set (i := 2) sc_law_value.nd rfl (Or.inl rfl) (pe_call G_law_plus (hr.mono (by decide)) (by rfl) T.m_law_plus T.F_law_plus.kp (b_law_plus T) .nil pass0 (pa_cons (pv 2) (pa_cons (pe_call G_law_times (hr.mono (by decide)) (by rfl) T.m_law_times T.F_law_times.kp (b_law_times T) .nil pass0 (pa_cons (pv 4) (pa_cons (pv 3) pa_nil))) pa_nil))))
      (pss_one (ps_set (i := 3) sc_law_value.nd rfl (Or.inl rfl) (pe_call G_law_times (hr.mono (by decide)) (by rfl) T.m_law_times T.F_law_times.kp (b_law_times T) .nil pass0 (pa_cons (pv 3) (pa_cons (pv 1) pa_nil)))))))
      (pss_one (ps_ret (pv 2))))), ?_⟩
    obtain ⟨a, xs, rfl, ha, hl, hx⟩ := hu.rats
    refine ⟨(by decide : 2 ≤ sizeLine), fun pp hpp => ⟨pp, _, rfl, .inl (.inl upd_same), rfl, _, _, rfl, _, _, rfl, rfl, ?_⟩⟩
    have s00 : Same H (upd H pp (.tup [V.int 0, V.int 1])) := Same.new hpp
    generalize upd H pp (.tup [V.int 0, V.int 1]) = H00 at s00 ⊢
    have ha := s00 _ _ ha
    have hx := hx.up s00
    have hv := hv.up s00
    have k : ∀ w H', Same H00 H' → New H00 H' w (ofR (hval qs x)) → Q w H' := fun w H' s1 n1 => k w H' (s00.trans s1) (n1.from s00)
    refine ⟨_, rfl, a, rfl, ⟨_, .inl (.inl ha)⟩, for_list (K := K) (a := a) (xs := xs) (fun i σ' H' => Same H00 H' ∧ ∃ (f p : V) (s4 : Option V), σ' = [some (.ref a), some v, some f, some p, s4] ∧ New H00 H' f (ofR (hval (qs.take i) x)) ∧ New H00 H' p (ofR (x ^ i)) ∧ Sz (i * (s + qs.length * t + 2) + 1) (hval (qs.take i) x) ∧ Sz (i * t + 1) (x ^ i)) ?_ (fun i σ' H' _ p => .inl (.inl (p.1 _ _ ha))) ?_ ?_⟩
    · refine ⟨Same.refl _, _, _, none, rfl, ?_, ?_, ?_, ?_⟩
      · rw [List.take_zero, hval_nil, ofR_zero]
        exact New.int
      · rw [Rat.pow_zero, show (1 : Rat) = ((1 : Int) : Rat) from rfl, ofR_int]
        exact New.int
      · rw [List.take_zero, hval_nil, Nat.zero_mul]
        exact sz_zero
      · rw [Rat.pow_zero, Nat.zero_mul]
        exact sz_one
    · rintro i y σ' H1 hi ⟨s1, f, p, s4, rfl, nf, np, zf, zp⟩
      obtain ⟨q, eq, hq⟩ := rats_at hx hi
      have ilt := (List.getElem?_eq_some_iff.mp eq).1
      have szq := hsz q (List.mem_of_getElem? eq)
      have b1 : i * (s + qs.length * t + 2) + (s + qs.length * t + 2) ≤ qs.length * (s + qs.length * t + 2) := by
        rw [← Nat.succ_mul]
        exact Nat.mul_le_mul_right _ ilt
      have b2 : i * t + t ≤ qs.length * t := by
        rw [← Nat.succ_mul]
        exact Nat.mul_le_mul_right _ ilt
      have tk : hval (qs.take (i + 1)) x = hval (qs.take i) x + q * x ^ i := by
        rw [take_next qs i ilt, hval_snoc, List.length_take, Nat.min_eq_left (by omega), getD_at eq]
      refine ⟨_, rfl, _, rfl, _, rfl, y, p, ofR q, ofR (x ^ i), rfl, hq.up s1, np.is, ofR_num _, ofR_num _, fitR.fit ⟨s, i * t + 1, s0, by omega, by omega, szq, zp⟩, fun w1 H2 s2 n2 => ?_⟩
      rw [rt_ofR, rt_ofR] at n2
      have z2 := szq.mul zp
      refine ⟨f, w1, _, _, rfl, (nf.up s2).is, n2.is, ofR_num _, ofR_num _, fitR.fit ⟨_, _, by omega, by omega, by omega, zf, z2⟩, fun w2 H3 s3 n3 => ?_⟩
      rw [rt_ofR, rt_ofR] at n3
      refine ⟨_, rfl, _, rfl, p, v, _, _, rfl, ((np.up s2).up s3).is, hv.up ((s1.trans s2).trans s3), ofR_num _, ofR_num _, fitR.fit ⟨_, t, by omega, t0, by omega, zp, tsz⟩, fun w3 H4 s4 n4 => ?_⟩
      rw [rt_ofR, rt_ofR] at n4
      refine ⟨((s1.trans s2).trans s3).trans s4, w2, w3, _, rfl, ?_, ?_, ?_, ?_⟩
      · rw [tk]
        exact (n3.from (s1.trans s2)).up s4
      · rw [pow_next]
        exact n4.from ((s1.trans s2).trans s3)
      · rw [tk]
        have e6 : (i + 1) * (s + qs.length * t + 2) = i * (s + qs.length * t + 2) + (s + qs.length * t + 2) := Nat.succ_mul _ _
        exact (zf.add z2).more (by omega)
      · rw [pow_next]
        have e6 : (i + 1) * t = i * t + t := Nat.succ_mul _ _
        exact (zp.mul tsz).more (by omega)
    · rintro σ' H1 ⟨s1, f, p, s4, rfl, nf, np, zf, zp⟩
      rw [hl, List.take_length] at nf
      exact ⟨_, rfl, k f H1 s1 nf⟩
theorem ok_law_told (T : Txt K mg) : FnOk P w K mg base CX0 2 T.a_law_told T.d_law_told ["vat", "row"] spToldR := by
  have G_law_tap := ok_law_tap (P := P) (w := w) (base := base) T
  refine T.F_law_told.ok sc_law_told (fun vs H Q E h => ?_) (fun cdv A outer s H vs Q E hr h => ?_)
  · obtain ⟨S, j, bk, n, v, qs, rfl, _⟩ := h
    rfl
  · obtain ⟨S, j, bk, n, v, qs, rfl, hS, lv, J, hn, hv, hlen, k⟩ := h
    refine ⟨_, (pss_cons (ps_setLc (i := 2) (own := [("number", 3)]) (g := gName 3) rfl sc_law_told.nd rfl rfl (sw_true rfl rfl rfl (by decide +kernel)) (pi_list (pv 1)) (blkOk_by (N := N_law_told) (sc := defScope s_law_told) (by decide +kernel)) (fun _ _ _ _ _ => (pg_name (i := 3) sc_law_told.nd rfl (Or.inl rfl))) (fun _ _ _ _ _ => pts_nil) (fun _ _ _ _ _ => (pe_ifExp (PW.pt (pw_or (pt_val (pe_callB call_isiInt (by rfl) T.z_isinstance (by decide +kernel) (pa_cons (pv 3) (pa_cons (pe_bltn (v := .ty "int") (by rfl) T.z_int (by decide +kernel) rfl) pa_nil)))) (pw_or1 (pt_cmpR op_eq (pe_call G_law_tap (hr.mono (by decide)) (by rfl) T.m_law_tap T.F_law_tap.kp (b_law_tap T) .nil pass0 (pa_cons (pv 0) (pa_cons pe_int pa_nil))) pe_int (nomark _))))) (pv 3) (pe_lst (pa_cons (pe_ix (IxR.or (r := rIxL K) (r' := rIxT K) ix_list ix_tup) (pv 3) pe_int (fun _ _ => rfl)) (pa_cons (pe_ix (IxR.or (r := rIxL K) (r' := rIxT K) ix_list ix_tup) (pv 3) pe_int (fun _ _ => rfl)) pa_nil))))))
      (pss_one (ps_ret (pe_ifExp (pt_cmpR op_eq (pe_call G_law_tap (hr.mono (by decide)) (by rfl) T.m_law_tap T.F_law_tap.kp (b_law_tap T) .nil pass0 (pa_cons (pv 0) (pa_cons pe_int pa_nil))) pe_int (nomark _)) (pe_callTy call_tuple_of (by rfl) T.z_tuple (by decide +kernel) (pa_cons (pv 2) pa_nil)) (pv 2))))), ?_⟩
    obtain ⟨a, xs, rfl, ha, hl, hx⟩ := hv.rats
    have ha' := (mn_of ha).2
    have Sa := (mn_of ha).1
    have aj : a ≠ j := fun z => by rw [z, hS] at Sa; cases Sa
    refine ⟨_, rfl, a, rfl, ⟨_, .inl (.inl ha')⟩, fun D hD => ?_⟩
    have SD : S D = false := by
      cases q : S D with
      | false => rfl
      | true => exact absurd hD (lv D q)
    have Dj : D ≠ j := J.new hD
    have Db : D ≠ bk := J.newB hD
    have hW : wth S D j = true := wth_sub hS
    have s0 : Same H (upd H D (.lst [])) := Same.new hD
    refine lc_it walk_list (fun i H' => Keep j H H' ∧ Live S H' ∧ Jar j bk H' (n + i) ∧ ∃ (vals : List V) (es : List Da), H' D = some (.lst vals) ∧ IsAll (mn (wth S D) H') vals es ∧ es.length = i ∧ (∀ e ∈ es, isNum e = true) ∧ es.map rt = qs.take i) ?_ (fun i H' _ p => .inl (.inl (p.1 a _ aj ha'))) ?_ ?_
    · exact ⟨Same.keep s0, lv.more s0, J.up s0, [], [], upd_same, .nil, rfl, (fun e he => by cases he), rfl⟩
    · rintro i x H2 H2' hi ⟨K2, L2', J2, vals, es, hvals, ha2, hle, nums, hrt⟩ ⟨rfl, hxi⟩
      obtain ⟨q, eq, hq⟩ := rats_at hx hxi
      have ilt := (List.getElem?_eq_some_iff.mp eq).1
      have lW : Live (wth S D) H2' := wth_live L2' hvals
      have hqW : Is (mn (wth S D) H2') x (ofR q) := by
        refine hq.up fun b o hb => ?_
        obtain ⟨b1, b2⟩ := mn_of hb
        have bD : b ≠ D := fun z => by rw [z, hD] at b2; cases b2
        have bj : b ≠ j := fun z => by rw [z, hS] at b1; cases b1
        rw [mn_at]
        · exact K2 b o bj b2
        · unfold wth
          rw [b1, decide_eq_false bD]
          rfl
      have push : ∀ (y : V) (e : Da) (H4 : Hp), Keep j H2' H4 → Live (wth S D) H4 → Jar j bk H4 (n + i + 1) → Is (mn (wth S D) H4) y e → isNum e = true → rt e = q → ∃ acc, H4 D = some (.lst acc) ∧ acc.length < sizeLine ∧ (Keep j H (upd H4 D (.lst (acc ++ [y]))) ∧ Live S (upd H4 D (.lst (acc ++ [y]))) ∧ Jar j bk (upd H4 D (.lst (acc ++ [y]))) (n + (i + 1)) ∧ ∃ (vals : List V) (es : List Da), upd H4 D (.lst (acc ++ [y])) D = some (.lst vals) ∧ IsAll (mn (wth S D) (upd H4 D (.lst (acc ++ [y])))) vals es ∧ es.length = i + 1 ∧ (∀ e ∈ es, isNum e = true) ∧ es.map rt = qs.take (i + 1)) := by
        intro y e H4 k4 l4 J4 hy ne re
        refine ⟨vals, k4 D _ Dj hvals, by rw [ha2.length, hle]; exact Nat.lt_of_lt_of_le (show i < 100 by omega) (by decide), fun b o bj hb => ?_, fun b hb => ?_, J4.put Dj Db, _, es ++ [e], upd_same, ((ha2.up (k4.less hW)).snoc hy).up wth_put, by rw [List.length_append, hle]; rfl, fun z hz => ?_, ?_⟩
        · have bD : b ≠ D := fun z => by rw [z, hD] at hb; cases hb
          rw [upd_ne bD]
          exact (K2.trans k4) b o bj hb
        · have bD : b ≠ D := fun z => by rw [z, SD] at hb; cases hb
          rw [upd_ne bD]
          exact l4 b (wth_sub hb)
        · rcases List.mem_append.mp hz with z1 | z1
          · exact nums z z1
          · rw [List.mem_singleton.mp z1]
            exact ne
        · rw [List.map_append, hrt, take_next qs i ilt, getD_at eq]
          show _ ++ [rt e] = _
          rw [re]
      have nq := ofR_num q
      refine ⟨rfl, ?_⟩
      refine ⟨_, rfl, x, ofR q, rfl, hqW.up mn_same, _, rfl, iteB (fun c => ?_) fun c => ?_⟩
      · exact ⟨_, rfl, push x _ H2' (Keep.refl _) lW (J2.le (by omega)) hqW nq (rt_ofR q)⟩
      · refine ⟨_, rfl, j, bk, 2, n + i, rfl, J2, by omega, by decide, by decide, fun r H1 k1 J1 r0 r1 => ⟨rfl, _, rfl, iteD (fun z => ?_) fun z => ?_⟩⟩
        · exact ⟨_, rfl, push x _ H1 k1 (lW.up k1 J1) J1 (hqW.up (k1.less hW)) nq (rt_ofR q)⟩
        · have l1 := lW.up k1 J1
          have hv1 := (hqW.up (k1.less hW)).up mn_same
          have od := ofR_one q
          have rq := rt_ofR q
          generalize ofR q = dq at hv1 nq od rq c
          rcases num_cases hv1 nq with ⟨i', rfl, rfl⟩ | ⟨a', i', m', rfl, ⟨ha', rfl⟩ | ⟨ha', rfl⟩, h2, h3⟩
          · cases c
          · refine ⟨_, rfl, .inr ⟨a', _, _, _, rfl, rfl, .inl (.inl ha'), rfl, _, rfl, .inr ⟨a', _, _, _, rfl, rfl, .inl (.inl ha'), rfl, (by decide : 2 ≤ sizeLine), fun p hp => ?_⟩⟩⟩
            refine push (.ref p) (.lst [.int i', .int m']) _ (k1.trans (Same.keep (Same.new hp))) (l1.more (Same.new hp)) (J1.up (Same.new hp)) (.lst (mn_put l1 hp) (.cons (.int _) (.cons (.int _) .nil))) ?_ rq
            show (false || (true && (decide (2 ≤ m') && decide (Nat.gcd i'.natAbs m'.natAbs = 1)))) = true
            rw [decide_eq_true h2, decide_eq_true h3]
            rfl
          · cases od
    · rintro H2 ⟨K2, L2', J2, vals, es, hvals, ha2, hle, nums, hrt⟩
      have er : es.map rt = qs := by rw [hrt, hl, List.take_length]
      have fin : Is (mn S H2) (.ref D) (.lst es) := .lst (by rw [mn_at SD]; exact hvals) (ha2.up (mn_mono fun b hb => wth_sub hb))
      refine ⟨_, rfl, j, bk, 2, n + xs.length, rfl, J2, by omega, by decide, by decide, fun r H3 k3 J3 r0 r1 => ⟨rfl, _, rfl, iteD (fun z => ?_) fun z => ?_⟩⟩
      · have l3 := L2'.up k3 J3
        refine ⟨_, rfl, D, vals, rfl, .inl ⟨.inl (.inl (k3 D _ Dj hvals)), fun p hp => ?_⟩⟩
        exact k (.ref p) (.tup es) _ ((K2.trans k3).trans (Same.keep (Same.new hp))) (l3.more (Same.new hp)) ((J3.up (Same.new hp)).le (by omega)) (.tup (mn_put l3 hp) (((ha2.up (mn_mono fun b hb => wth_sub hb)).up (k3.less hS)).up (Same.less (Same.new hp)))) rfl nums er
      · exact ⟨_, rfl, k (.ref D) (.lst es) H3 (K2.trans k3) (L2'.up k3 J3) (J3.le (by omega)) (fin.up (k3.less hS)) rfl nums er⟩
theorem ok_law_slope (T : Txt K mg) : FnOk P w K mg base CX0 4 T.a_law_slope T.d_law_slope ["row"] spSlopeR := by
  have G_law_times := ok_law_times (P := P) (w := w) (base := base) T
  refine T.F_law_slope.ok sc_law_slope (fun vs H Q E h => ?_) (fun cdv A outer s H vs Q E hr h => ?_)
  · obtain ⟨u, qs, rfl, _⟩ := h
    rfl
  · obtain ⟨u, qs, rfl, hu, l1, l2, ⟨s, s0, hsz, fit⟩, k⟩ := h
    refine ⟨_, (pss_one (ps_ret (pe_ifExp (pt_cmpR op_gt (pe_callB call_len_seq (by rfl) T.z_len PySem.boot_len (pa_cons (pv 0) pa_nil)) pe_int (nomark _)) (pe_lc (own := [("at", 1), ("number", 2)]) (g := gTup K 2 (gCons (gName 1) (gCons (gName 2) (gNil)))) rfl sc_law_slope.nd (pi_enum (by rfl) T.z_enumerate (pa_cons (pv 0) pa_nil)) (blkOk_by (N := N_law_slope) (sc := defScope s_law_slope) (by decide +kernel)) (fun _ _ _ _ _ => by exact (pg_tup rfl (pgs_cons (pg_name (i := 1) sc_law_slope.nd rfl (Or.inl rfl)) (pgs_cons (pg_name (i := 2) sc_law_slope.nd rfl (Or.inl rfl)) pgs_nil)))) (fun _ _ _ _ _ => pts_one (pt_cmpR op_gt (pv 1) pe_int (nomark _))) (fun _ _ _ _ _ => (pe_call G_law_times (hr.mono (by decide)) (by rfl) T.m_law_times T.F_law_times.kp (b_law_times T) .nil pass0 (pa_cons (pv 1) (pa_cons (pv 2) pa_nil))))) (pe_lst (pa_cons pe_int pa_nil))))), ?_⟩
    obtain ⟨a, xs, rfl, ha, hl, hx⟩ := hu.rats
    refine ⟨_, rfl, a, xs, rfl, .inl (.inl (.inl ha)), _, _, rfl, rfl, _, rfl, iteD (fun c => ?_) fun c => ?_⟩
    · have c' : 1 < xs.length := by omega
      obtain ⟨q0, m, em⟩ : ∃ q0 m, qs = q0 :: m := by
        match qs, hl with
        | q :: m, _ => exact ⟨q, m, rfl⟩
        | [], z =>
          have z' : xs.length = 0 := z
          omega
      have e1 : slope qs = wsl 1 m := by
        rw [em]
        match m, em with
        | [], em =>
          rw [em] at hl
          have z' : xs.length = 1 := hl
          omega
        | b :: m', _ => rfl
      have lm : m.length = xs.length - 1 := by rw [hl, em]; simp
      refine ⟨_, rfl, a, xs, rfl, .inl (.inl ha), fun D hD => lc_it walk_enum (fun i H' => Same H H' ∧ ∃ acc, H' D = some (.lst acc) ∧ acc.length = i - 1 ∧ ∀ S, Live S H → IsAll (mn (wth S D) H') acc (((wsl 1 m).take (i - 1)).map ofR)) ?_ (fun i H' _ p => .inl (.inl (p.1 _ _ ha))) ?_ ?_⟩
      · exact ⟨Same.new hD, [], upd_same, rfl, fun _ _ => .nil⟩
      · rintro i x H2 H3 hi ⟨s2, acc, hacc, hal, hall⟩ ⟨T, atv, nv, rfl, hT, rfl, e2, e3⟩
        cases e2
        obtain ⟨q, eq, hq⟩ := rats_at hx e3
        have s3 : Same H2 (upd H2 T (.tup [.int (i : Nat), nv])) := Same.new hT
        refine ⟨T, _, rfl, .inl (.inl upd_same), rfl, _, _, rfl, _, _, rfl, rfl, rfl, ?_⟩
        generalize upd H2 T (.tup [.int (i : Nat), nv]) = H4 at s3 ⊢
        refine ⟨_, rfl, _, _, rfl, rfl, _, rfl, iteD (fun pos => ?_) fun npos => ?_⟩
        · have szp : Sz 8 (rt (.int (i : Nat))) := sz_nb rfl ⟨by show ((i : Nat) : Int).natAbs < 2 ^ 8; omega, by show (1 : Int).natAbs < 2 ^ 8; decide⟩
          have szq := hsz q (List.mem_of_getElem? eq)
          refine ⟨_, rfl, _, rfl, .int (i : Nat), nv, .int (i : Nat), ofR q, rfl, .int _, hq.up (s2.trans s3), rfl, ofR_num _, ⟨8, s, by decide, s0, by omega, Sz.nb rfl szp, Sz.nb (ofR_num _) (by rw [rt_ofR]; exact szq)⟩, fun w1 H5 s5 n5 => ?_⟩
          obtain ⟨i', rfl⟩ : ∃ i', i = i' + 1 := ⟨i - 1, by omega⟩
          have em2 : m[i']? = some q := by
            rw [em] at eq
            exact eq
          have wl : (wsl 1 m)[i']? = some ((1 + (i' : Nat)) * q) := wsl_at 1 m i' q em2
          have ilt := (List.getElem?_eq_some_iff.mp wl).1
          have er : rt (.int ((i' + 1 : Nat) : Int)) = 1 + (i' : Nat) := by
            rw [rt_int]
            push_cast
            grind
          rw [er, rt_ofR] at n5
          refine ⟨acc, s5 _ _ (s3 _ _ hacc), by rw [hal]; exact Nat.lt_of_lt_of_le (show i' + 1 - 1 < 100 by omega) (by decide), Same.mut ((s2.trans s3).trans s5) hD, _, upd_same, by rw [List.length_append, hal]; rfl, fun S l => ?_⟩
          have tk : (wsl 1 m).take (i' + 1 + 1 - 1) = (wsl 1 m).take (i' + 1 - 1) ++ [(1 + (i' : Nat)) * q] := by
            show (wsl 1 m).take (i' + 1) = (wsl 1 m).take i' ++ _
            rw [take_next _ _ ilt, getD_at wl]
          rw [tk, List.map_append]
          exact ((((hall S l).up (Same.less s3)).up (Same.less s5)).snoc ((n5.from s3) (wth S D) (wth_live (l.more s2) hacc))).up wth_put
        · have i0 : i = 0 := by omega
          subst i0
          exact ⟨s2.trans s3, acc, s3 _ _ hacc, hal, fun S l => (hall S l).up (Same.less s3)⟩
      · rintro H2 ⟨s2, acc, hacc, hal, hall⟩
        refine k (.ref D) H2 s2 fun S l => ?_
        have e : S D = false := by
          cases q : S D with
          | false => rfl
          | true => exact absurd hD (l D q)
        have q := hall S l
        rw [← lm, List.take_of_length_le (by rw [wsl_len]; omega)] at q
        rw [e1]
        exact .lst (by rw [mn_at e]; exact hacc) (q.up (mn_mono fun b hb => wth_sub hb))
    · have e1 : slope qs = [0] := by
        match qs, hl with
        | [q], _ => rfl
        | [], z => simp at l1
        | _ :: _ :: r, z =>
          have z' : xs.length = r.length + 1 + 1 := z
          omega
      rw [e1] at k
      refine ⟨(by decide : 1 ≤ sizeLine), fun p hp => k _ _ (Same.new hp) fun S l => .lst (mn_put l hp) (.cons ?_ .nil)⟩
      rw [ofR_zero]
      exact .int 0
theorem ok_law_product (T : Txt K mg) : FnOk P w K mg base CX0 4 T.a_law_product T.d_law_product ["one", "other"] spProdR := by
  have G_law_plus := ok_law_plus (P := P) (w := w) (base := base) T
  have G_law_times := ok_law_times (P := P) (w := w) (base := base) T
  refine T.F_law_product.ok sc_law_product (fun vs H Q E h => ?_) (fun cdv A outer s H vs Q E hr h => ?_)
  · obtain ⟨u, v, p, q, rfl, _⟩ := h
    rfl
  · obtain ⟨u, v, p, q, rfl, hu, hv, p1, p2, q1, q2, ⟨s, t, s0, t0, hsz, hsz2, fit⟩, k⟩ := h
    refine ⟨_, (pss_cons (ps_setLc (i := 2) (own := [("turn", 7)]) (g := gName 7) rfl sc_law_product.nd rfl rfl (sw_true rfl rfl rfl (by decide +kernel)) (pi_range1 (by rfl) T.z_range (pa_cons (pe_op op_sub (pe_op op_add (pe_callB call_len_seq (by rfl) T.z_len PySem.boot_len (pa_cons (pv 0) pa_nil)) (pe_callB call_len_seq (by rfl) T.z_len PySem.boot_len (pa_cons (pv 1) pa_nil))) pe_int) pa_nil)) (blkOk_by (N := N_law_product) (sc := defScope s_law_product) (by decide +kernel)) (fun _ _ _ _ _ => (pg_name (i := 7) sc_law_product.nd rfl (Or.inl rfl))) (fun _ _ _ _ _ => pts_nil) (fun _ _ _ _ _ => pe_int))
      (pss_cons (ps_for PassesOwn.never rfl (pi_enum (by rfl) T.z_enumerate (pa_cons (pv 0) pa_nil)) (pg_tup rfl (pgs_cons (pg_name (i := 3) sc_law_product.nd rfl (Or.inl rfl)) (pgs_cons (pg_name (i := 4) sc_law_product.nd rfl (Or.inl rfl)) pgs_nil))) (pss_one (ps_for PassesOwn.never rfl (pi_enum (by rfl) T.z_enumerate (pa_cons (pv 1) pa_nil)) (pg_tup rfl (pgs_cons (pg_name (i := 5) sc_law_product.nd rfl (Or.inl rfl)) (pgs_cons (pg_name (i := 6) sc_law_product.nd rfl (Or.inl rfl)) pgs_nil))) (pss_one (ps_asg (pe_call G_law_plus (hr.mono (by decide)) (by rfl) T.m_law_plus T.F_law_plus.kp (b_law_plus T) .nil pass0 (pa_cons (pe_ix ix_list (pv 2) (pe_op op_add (pv 3) (pv 5)) (fun _ _ => rfl)) (pa_cons (pe_call G_law_times (hr.mono (by decide)) (by rfl) T.m_law_times T.F_law_times.kp (b_law_times T) .nil pass0 (pa_cons (pv 4) (pa_cons (pv 6) pa_nil))) pa_nil))) (pg_sub (pv 2) (pe_op op_add (pv 3) (pv 5)) set_list))))))
      (pss_one (ps_ret (pv 2))))), ?_⟩
    obtain ⟨a, xs, rfl, ha, ln, hx⟩ := hu.rats
    obtain ⟨b, ys, rfl, hb, lm, hy⟩ := hv.rats
    rw [← ln] at fit
    refine ⟨_, rfl, a, xs, rfl, .inl (.inl (.inl ha)), _, rfl, b, ys, rfl, .inl (.inl (.inl hb)), _, _, rfl, rfl, _, _, rfl, rfl, (xs.length : Int) + (ys.length : Int) - 1, rfl, by omega, by omega, fun D hD => ?_⟩
    have en : ((xs.length : Int) + (ys.length : Int) - 1).toNat = xs.length + ys.length - 1 := by omega
    refine lc_map (n := xs.length + ys.length - 1) (by rw [en]; exact walk_range) (fun _ => .int 0) (by omega) hD (fun _ _ => trivial) ?_ ?_
    · rintro i x H1 H2 Q' N hi s1 ⟨rfl, rfl⟩ kk
      exact ⟨rfl, kk _ _ (Same.refl _) New.int⟩
    intro H3 vs0 s03 hD3 hl3 nw3
    obtain ⟨Z, eZ⟩ : ∃ Z, Z = List.replicate (p.length + q.length - 1) (0 : Rat) := ⟨_, rfl⟩
    have lZ : Z.length = xs.length + ys.length - 1 := by rw [eZ, List.length_replicate, ln, lm]
    have I0 : FoundI H D Z H3 := by
      refine ⟨s03, hD, vs0, hD3, fun S lv => ?_⟩
      have is := nw3 S lv
      have e1 : (List.range (xs.length + ys.length - 1)).map (fun _ => Da.int 0) = Z.map ofR := by
        rw [eZ, List.map_replicate, ofR_zero, ← ln, ← lm]
        refine List.eq_replicate_iff.mpr ⟨by rw [List.length_map, List.length_range], fun b hb => ?_⟩
        obtain ⟨_, _, h⟩ := List.mem_map.mp hb
        exact h.symm
      rw [e1] at is
      cases is with
      | lst e hy' =>
        have e3 := (mn_of e).2
        rw [hD3] at e3
        cases e3
        have nd : ∀ (l : List Rat) (vs : List V), IsAll (mn S H3) vs (l.map ofR) → (∀ x ∈ l, x = 0) → IsAll (mn (wth S D) H3) vs (l.map ofR) := by
          intro l
          induction l with
          | nil => intro vs h _; cases h; exact .nil
          | cons x l ih =>
            intro vs h hz
            have x0 := hz x List.mem_cons_self
            subst x0
            cases h with
            | cons h t =>
              rw [ofR_zero] at h
              cases h
              refine .cons ?_ (ih _ t fun y hy => hz y (List.mem_cons_of_mem _ hy))
              rw [ofR_zero]
              exact .int 0
        exact nd Z vs0 hy' fun x hx => by rw [eZ] at hx; exact List.eq_of_mem_replicate hx
    have z0 : ∀ x ∈ Z, Sz 1 x := fun x hx => by
      rw [eZ] at hx
      rw [List.eq_of_mem_replicate hx]
      exact sz_zero
    refine ⟨_, rfl, a, xs, rfl, .inl (.inl (I0.1 _ _ ha)), for_it walk_enum (fun i σ' H' => FoundI H D (convOut p q Z i) H' ∧ (∀ x ∈ convOut p q Z i, Sz (i * (s + t + 1) + 1) x) ∧ ∃ s3 s4 s5 s6 s7 : Option V, σ' = [some (.ref a), some (.ref b), some (.ref D), s3, s4, s5, s6, s7]) ?_ (fun i σ' H' _ p => .inl (.inl (p.1.1 _ _ ha))) ?_ ?_⟩
    · exact ⟨I0, fun x hx => (z0 x hx).more (by omega), none, none, none, none, none, rfl⟩
    · rintro i x σ' H4 H5 hi ⟨F, hz, s3, s4, s5, s6, s7, rfl⟩ ⟨T, lowv, leftv, rfl, hT, rfl, e1, e2⟩
      cases e1
      obtain ⟨pi, eq, hix⟩ := rats_at hx e2
      have szx : Sz s pi := hsz _ (List.mem_of_getElem? eq)
      refine ⟨T, _, rfl, .inl (.inl upd_same), rfl, _, _, rfl, _, _, rfl, rfl, ?_⟩
      have F5 := F.up (Same.new (o := .tup [.int (i : Nat), leftv]) hT)
      generalize upd H4 T (.tup [.int (i : Nat), leftv]) = H5 at F5 ⊢
      have s25 := F5.1
      have lL : (convOut p q Z i).length = xs.length + ys.length - 1 := by rw [convOut_len, lZ]
      have nxt := convOut_next p q Z i
      rw [getD_at eq] at nxt
      have bnd : (i + 1) * (s + t + 1) + (s + t + 1) ≤ (xs.length + 1) * (s + t + 1) := by
        rw [← Nat.succ_mul]
        exact Nat.mul_le_mul_right _ (by omega)
      have sm : (i + 1) * (s + t + 1) = i * (s + t + 1) + (s + t + 1) := Nat.succ_mul _ _
      generalize convOut p q Z i = L at F5 lL nxt hz
      refine ⟨_, rfl, b, ys, rfl, .inl (.inl (s25 _ _ hb)), for_it walk_enum (fun m σ' H' => FoundI H D (convIn pi i q L m) H' ∧ (∀ k c, (convIn pi i q L m)[k]? = some c → Sz ((i + 1) * (s + t + 1) + 1) c ∧ (i + m ≤ k → Sz (i * (s + t + 1) + 1) c)) ∧
        ∃ s5 s6 s7 : Option V, σ' = [some (.ref a), some (.ref b), some (.ref D), some (.int (i : Nat)), some leftv, s5, s6, s7]) ?_ (fun m σ' H' _ p => .inl (.inl (p.1.1 _ _ hb))) ?_ ?_⟩
      · exact ⟨F5, fun k c hk => ⟨(hz c (List.mem_of_getElem? hk)).more (by omega), fun _ => hz c (List.mem_of_getElem? hk)⟩, s5, s6, s7, rfl⟩
      · rintro m x σ' H6 H7 hm ⟨F, hz2, s5, s6, s7, rfl⟩ ⟨T2, highv, rightv, rfl, hT2, rfl, e3, e4⟩
        cases e3
        obtain ⟨qm, eqy, hiy⟩ := rats_at hy e4
        have szy : Sz t qm := hsz2 _ (List.mem_of_getElem? eqy)
        refine ⟨T2, _, rfl, .inl (.inl upd_same), rfl, _, _, rfl, _, _, rfl, rfl, ?_⟩
        have F7 := F.up (Same.new (o := .tup [.int (m : Nat), rightv]) hT2)
        generalize upd H6 T2 (.tup [.int (m : Nat), rightv]) = H7 at F7 ⊢
        have s27 := F7.1
        have lC : (convIn pi i q L m).length = xs.length + ys.length - 1 := by rw [convIn_len, lL]
        have nxt2 := convIn_next pi i q L m
        rw [getD_at eqy] at nxt2
        generalize convIn pi i q L m = C at F7 lC nxt2 hz2
        have hlt : i + m < C.length := by omega
        obtain ⟨vals, hv, hl2, hall⟩ := F7.vals
        have ec : C[i + m]? = some C[i + m] := List.getElem?_eq_getElem hlt
        have ecm : (C.map ofR)[i + m]? = some (ofR C[i + m]) := by rw [List.getElem?_map, ec]; rfl
        obtain ⟨cv, ecv, hcv⟩ := hall.get ecm
        have szc := (hz2 _ _ ec).2 (Nat.le_refl _)
        have idx : ((i : Nat) : Int) + ((m : Nat) : Int) = ((i + m : Nat) : Int) := by omega
        have hivl : i + m < vals.length := by omega
        refine ⟨_, rfl, _, rfl, _, rfl, _, _, rfl, rfl, D, vals, _, cv, rfl, rfl, .inl (.inl hv), ?_, ?_⟩
        · show atI vals (((i : Nat) : Int) + ((m : Nat) : Int)) = some cv
          rw [idx]
          exact atI_nat ecv
        refine ⟨_, rfl, _, rfl, leftv, rightv, ofR pi, ofR qm, rfl, hix.up s27, hiy.up s27, ofR_num _, ofR_num _, fitR.fit ⟨s, t, s0, t0, by omega, szx, szy⟩, fun w1 H8 s8 n8 => ?_⟩
        rw [rt_ofR, rt_ofR] at n8
        have z8 := szx.mul szy
        refine ⟨cv, w1, _, _, rfl, hcv.up s8, n8.is, ofR_num _, ofR_num _, fitR.fit ⟨i * (s + t + 1) + 1, s + t, by omega, by omega, by omega, szc, z8⟩, fun w2 H9 s9 n9 => ?_⟩
        rw [rt_ofR, rt_ofR] at n9
        have hv9 : H9 D = some (.lst vals) := s9 _ _ (s8 _ _ hv)
        have new : C.set (i + m) (C[i + m] + pi * qm) = convIn pi i q L (m + 1) := by
          rw [nxt2]
          unfold addAt
          rw [getD_at ec]
        refine ⟨_, rfl, _, rfl, _, rfl, _, _, rfl, rfl, D, vals, _, i + m, rfl, rfl, hv9, ?_, ?_⟩
        · show ixN vals.length (((i : Nat) : Int) + ((m : Nat) : Int)) = some (i + m)
          rw [idx]
          exact Evl.ixN_nat hivl
        have Fp := F7.put (k := i + m) hv (s8.trans s9) (n9.from s8)
        rw [new] at Fp
        refine ⟨Fp, fun k c hk => ?_, _, _, _, rfl⟩
        rw [← new, List.getElem?_set] at hk
        by_cases ek : i + m = k
        · rw [if_pos ek, if_pos hlt] at hk
          cases hk
          refine ⟨?_, fun z => by omega⟩
          have e6 : (i + 1) * (s + t + 1) + 1 = i * (s + t + 1) + 1 + (s + t) + 1 := by omega
          rw [e6]
          exact szc.add z8
        · rw [if_neg ek] at hk
          have q := hz2 k c hk
          exact ⟨q.1, fun z => q.2 (by omega)⟩
      · rintro σ' H6 ⟨F, hz2, s5, s6, s7, rfl⟩
        rw [lm, ← nxt] at F hz2
        exact ⟨F, fun x hx => by
          obtain ⟨k, hk⟩ := List.getElem?_of_mem hx
          exact (hz2 k x hk).1, _, _, _, _, _, rfl⟩
    · rintro σ' H4 ⟨F, hz, s3, s4, s5, s6, s7, rfl⟩
      have ec : convOut p q Z xs.length = conv p q := by
        unfold conv
        rw [ln, eZ]
      rw [ec] at F
      exact ⟨_, rfl, k _ _ F.1 F.lst⟩
end
end Ty

namespace Ty
open PySem PySem.Spec PyProof.Rows L2
section
variable {P : Program} {w : World} {K : PySem.W.Frag} {mg : Str → Option Value} {base : Heap}
theorem ok_law_ask (T : Txt K mg) : FnOk P w K mg base (L2.CX P w) 6 T.a_law_ask T.d_law_ask ["word", "one", "other"] (spAsk T.c_BadNumber T.c_TooMany) := by
  have G_row_product := ok_row_product (P := P) (w := w) (base := base) T
  have G_value_at := ok_value_at (P := P) (w := w) (base := base) T
  have G_slope_row := ok_slope_row (P := P) (w := w) (base := base) T
  refine T.F_law_ask.okX sc_law_ask (fun vs H Q E h => ?_) (fun cdv A outer s H vs Q E hr h => ?_)
  · obtain ⟨w, u, v, d, e, rfl, _⟩ := h
    rfl
  · obtain ⟨w, u, v, d, e, rfl, hu, hv, hh⟩ := h
    refine ⟨_, (pss_cons (ps_if (pt_cmpR op_eq (pv 0) pe_str (nomark _)) (pss_one (ps_ret (pe_call G_value_at (hr.mono (by decide)) (by rfl) T.m_value_at T.F_value_at.kp (b_value_at T) .nil (passes_call (takes_of rfl rfl rfl rfl) fun _ _ _ _ h => h) (pa_cons (pv 1) (pa_cons (pv 2) pa_nil))))) pss_nil)
      (pss_cons (ps_if (pt_cmpR op_eq (pv 0) pe_str (nomark _)) (pss_one (ps_ret (pe_callN0 G_slope_row (hr.mono (by decide)) (by rfl) T.m_slope_row T.F_slope_row.kp (kb_slope_row_0_row T) (passes_call (takes_of rfl rfl rfl rfl) fun _ _ _ _ h => h) (pk_cons (pv 1) pk_nil)))) pss_nil)
      (pss_one (ps_ret (pe_callN G_row_product (hr.mono (by decide)) (by rfl) T.m_row_product T.F_row_product.kp (kb_row_product_1_other T) (passes_call (takes_of rfl rfl rfl rfl) fun _ _ _ _ h => h) (pa_cons (pv 1) pa_nil) (pk_cons (pv 2) pk_nil)))))), ?_⟩
    have ne : ∀ {a b : Str} {A B : Prop}, a ≠ b → B → if decide (V.str a = V.str b) = true then A else B := fun h hB => by
      rw [if_neg (by rw [decide_eq_false (str_ne h)]; decide)]
      exact hB
    rcases hh with ⟨rfl, k1, k2, k⟩ | ⟨rfl, k1, k⟩ | ⟨rfl, k1, k2, k3, k⟩
    · refine ⟨_, rfl, rfl, _, rfl, iteD (fun _ => ?_) fun z => absurd rfl z⟩
      exact ⟨_, rfl, _, rfl, u, v, d, e, rfl, hu, hv, k1, k2, k⟩
    · refine ⟨_, rfl, rfl, _, rfl, ne (by decide) ⟨_, rfl, rfl, _, rfl, iteD (fun _ => ?_) fun z => absurd rfl z⟩⟩
      exact ⟨_, rfl, rfl, rfl, u, d, rfl, hu, k1, k⟩
    · refine ⟨_, rfl, rfl, _, rfl, ne (by decide) ⟨_, rfl, rfl, _, rfl, ne (by decide) ?_⟩⟩
      exact ⟨_, rfl, _, rfl, rfl, rfl, u, v, d, e, rfl, hu, hv, k1, k2, k3, k⟩
theorem ok_law_heard (T : Txt K mg) : FnOk P w K mg base CX0 7 T.a_law_heard T.d_law_heard ["word", "one", "other"] spHear := by
  have G_law_ask := ok_law_ask (P := P) (w := w) (base := base) T
  refine T.F_law_heard.ok sc_law_heard (fun vs H Q E h => ?_) (fun cdv A outer s H vs Q E hr h => ?_)
  · obtain ⟨w, u, v, d, e, rfl, _⟩ := h
    rfl
  · obtain ⟨w, u, v, d, e, rfl, hu, hv, hh⟩ := h
    refine ⟨_, (pss_cons (ps_set (i := 3) sc_law_heard.nd rfl (Or.inl rfl) pe_non)
      (pss_cons (ps_try_keep (i := 4) (l := 3) (c := .ref T.c_CurveError) rfl rfl rfl rfl sc_law_heard.nd rfl rfl ⟨rfl, by decide, .inl T.m_CurveError⟩ takes0 (fun W pn xe tk _ => (pss_one (ps_ret (pe_callS G_law_ask (hr.mono (by decide)) (by rfl) T.m_law_ask T.F_law_ask.kp (b_law_ask T) (fun σ => passAt tk σ) (pa_cons (pv 0) (pa_cons (pv 1) (pa_cons (pv 2) pa_nil))))))) (fun a oe cls d pn hz hf => pss_one (ps_set (i := 3) sc_law_heard.nd rfl (Or.inl rfl) (pv 4))))
      (pss_cons (ps_if (pt_val (pe_callB call_isX (by rfl) T.z_isinstance (by decide +kernel) (pa_cons (pv 3) (pa_cons (pe_glob (v := .ref T.c_TooMany) (by rfl) T.m_TooMany rfl) pa_nil)))) (pss_one (ps_ret (pe_tup (pa_cons pe_str (pa_cons (pe_xt (pv 3)) (pa_cons (pe_xt (pv 3)) pa_nil)))))) pss_nil)
      (pss_one (ps_ret (pe_ifExp (pt_val (pe_callB call_isX (by rfl) T.z_isinstance (by decide +kernel) (pa_cons (pv 3) (pa_cons (pe_glob (v := .ref T.c_BadNumber) (by rfl) T.m_BadNumber rfl) pa_nil)))) (pe_tup (pa_cons pe_str (pa_cons (pe_xt (pv 3)) pa_nil))) (pe_tup (pa_cons pe_str (pa_cons pe_str pa_nil))))))))), ?_⟩
    have num : ∀ (m : Str) (dd : Addr) (H1 : Hp) (a : Addr), Same H H1 → H1 dd = some (.xd [("part", .str m)]) → H1 a = none → (∀ x H2, Same H H2 → New H H2 x (numb m) → Q x H2) →
        tSeq (tIfS (tTest (tCB (rIsX K) (tCons (tVar 3) (tCons (tC (.ref T.c_TooMany)) tNil)))) (tRet (tTup (tCons (tC (.str "many")) (tCons (tXt K (tVar 3) "what") (tCons (tXt K (tVar 3) "most") tNil))))) tNext)
          (tRet (tIf (tTest (tCB (rIsX K) (tCons (tVar 3) (tCons (tC (.ref T.c_BadNumber)) tNil)))) (tTup (tCons (tC (.str "number")) (tCons (tXt K (tVar 3) "part") tNil))) (tTup (tCons (tC (.str "other")) (tCons (tC (.str "")) tNil)))))
          { nx := fun _ H' => Q .non H', rt := Q } [some (.str w), some u, some v, some (.ref a), none] (upd H1 a (ExT (.ref T.c_BadNumber) (some dd) a)) := by
      intro m dd H1 a s1 hd ha q
      have da : dd ≠ a := fun z => by rw [z, ha] at hd; cases hd
      have hd2 : (upd H1 a (ExT (.ref T.c_BadNumber) (some dd) a)) dd = some (.xd [("part", .str m)]) := by rw [upd_ne da]; exact hd
      refine ⟨_, rfl, a, _, dd, _, .ref T.c_TooMany, .ref T.c_TooMany, false, rfl, .own _, upd_same, hd2, T.xk_BadNumber, T.ki_BadNumber_TooMany, _, rfl, iteB (fun z => nomatch z) fun _ => ?_⟩
      refine ⟨_, rfl, a, _, dd, _, .ref T.c_BadNumber, .ref T.c_BadNumber, true, rfl, .own _, upd_same, hd2, T.xk_BadNumber, T.ki_BadNumber_BadNumber, _, rfl, iteB (fun _ => ?_) fun z => nomatch z⟩
      have s2 := s1.trans (Same.new ha (o := ExT (.ref T.c_BadNumber) (some dd) a))
      exact ⟨_, rfl, a, _, dd, _, .str m, rfl, upd_same, hd2, T.xk_BadNumber, T.no_BadNumber_part, rfl, (by decide : 2 ≤ sizeLine), fun p hp => q _ _ (s2.trans (Same.new hp)) fun S l => .tup (mn_put (l.more s2) hp) (.cons (.str _) (.cons (.str _) .nil))⟩
    have mny : ∀ (dd : Addr) (H1 : Hp) (a : Addr), Same H H1 → H1 dd = some (.xd [("most", .int 25), ("what", .str "numbers")]) → H1 a = none → (∀ x H2, Same H H2 → New H H2 x manyD → Q x H2) →
        tSeq (tIfS (tTest (tCB (rIsX K) (tCons (tVar 3) (tCons (tC (.ref T.c_TooMany)) tNil)))) (tRet (tTup (tCons (tC (.str "many")) (tCons (tXt K (tVar 3) "what") (tCons (tXt K (tVar 3) "most") tNil))))) tNext)
          (tRet (tIf (tTest (tCB (rIsX K) (tCons (tVar 3) (tCons (tC (.ref T.c_BadNumber)) tNil)))) (tTup (tCons (tC (.str "number")) (tCons (tXt K (tVar 3) "part") tNil))) (tTup (tCons (tC (.str "other")) (tCons (tC (.str "")) tNil)))))
          { nx := fun _ H' => Q .non H', rt := Q } [some (.str w), some u, some v, some (.ref a), none] (upd H1 a (ExT (.ref T.c_TooMany) (some dd) a)) := by
      intro dd H1 a s1 hd ha q
      have da : dd ≠ a := fun z => by rw [z, ha] at hd; cases hd
      have hd2 : (upd H1 a (ExT (.ref T.c_TooMany) (some dd) a)) dd = some (.xd [("most", .int 25), ("what", .str "numbers")]) := by rw [upd_ne da]; exact hd
      refine ⟨_, rfl, a, _, dd, _, .ref T.c_TooMany, .ref T.c_TooMany, true, rfl, .own _, upd_same, hd2, T.xk_TooMany, T.ki_TooMany_TooMany, _, rfl, iteB (fun _ => ?_) fun z => nomatch z⟩
      have s2 := s1.trans (Same.new ha (o := ExT (.ref T.c_TooMany) (some dd) a))
      exact ⟨_, rfl, a, _, dd, _, _, rfl, upd_same, hd2, T.xk_TooMany, T.no_TooMany_what, rfl, _, rfl, a, _, dd, _, _, rfl, upd_same, hd2, T.xk_TooMany, T.no_TooMany_most, rfl, (by decide : 3 ≤ sizeLine), fun p hp => q _ _ (s2.trans (Same.new hp)) fun S l => .tup (mn_put (l.more s2) hp) (.cons (.str _) (.cons (.str _) (.cons (.int _) .nil)))⟩
    refine ⟨_, rfl, _, rfl, _, rfl, w, u, v, d, e, rfl, hu, hv, ?_⟩
    rcases hh with ⟨rfl, k1, k2, k⟩ | ⟨rfl, k1, k⟩ | ⟨rfl, k1, k2, k3, k⟩
    · refine .inl ⟨rfl, fun c dd H1 s1 hd hx => ⟨true, T.em_BadNumber_CurveError, fun _ a ha => num _ dd H1 a s1 hx ha (k1 c), fun z => nomatch z⟩, fun c c2 dd H1 s1 hd hx => ⟨true, T.em_BadNumber_CurveError, fun _ a ha => num _ dd H1 a s1 hx ha (k2 c c2), fun z => nomatch z⟩, fun c c2 => k c c2⟩
    · refine .inr (.inl ⟨rfl, fun c dd H1 s1 hd hx => ⟨true, T.em_BadNumber_CurveError, fun _ a ha => num _ dd H1 a s1 hx ha (k1 c), fun z => nomatch z⟩, fun c => k c⟩)
    · refine .inr (.inr ⟨rfl, fun c dd H1 s1 hd hx => ⟨true, T.em_BadNumber_CurveError, fun _ a ha => num _ dd H1 a s1 hx ha (k1 c), fun z => nomatch z⟩, fun c c2 dd H1 s1 hd hx => ⟨true, T.em_BadNumber_CurveError, fun _ a ha => num _ dd H1 a s1 hx ha (k2 c c2), fun z => nomatch z⟩,
        fun c c2 c3 dd H1 s1 hd hx => ⟨true, T.em_TooMany_CurveError, fun _ a ha => mny dd H1 a s1 hx ha (k3 c c2 c3), fun z => nomatch z⟩, fun c c2 c3 => k c c2 c3⟩)
end
end Ty

namespace Ty
open PySem PySem.Spec PyProof.Rows L2
section
variable {P : Program} {w : World} {K : PySem.W.Frag} {mg : Str → Option Value} {base : Heap}
theorem ok_law_rows_right (T : Txt K mg) : FnG P w K mg base CX0 8 T.a_law_rows_right T.d_law_rows_right ["vat"] (spRightR 300) := by
  have G_row_product := ok_row_product (P := P) (w := w) (base := base) T
  have G_law_plus := ok_law_plus (P := P) (w := w) (base := base) T
  have G_law_row := ok_law_row (P := P) (w := w) (base := base) T
  have G_law_number := ok_law_number (P := P) (w := w) (base := base) T
  have G_law_told := ok_law_told (P := P) (w := w) (base := base) T
  have G_law_times := ok_law_times (P := P) (w := w) (base := base) T
  have G_law_value := ok_law_value (P := P) (w := w) (base := base) T
  have G_value_at := ok_value_at (P := P) (w := w) (base := base) T
  have G_law_heard := ok_law_heard (P := P) (w := w) (base := base) T
  have G_law_slope := ok_law_slope (P := P) (w := w) (base := base) T
  have G_law_product := ok_law_product (P := P) (w := w) (base := base) T
  have G_slope_row := ok_slope_row (P := P) (w := w) (base := base) T
  refine Ty.Fun.okG T.F_law_rows_right sc_law_rows_right (fun vs H Q E h => ?_) (fun cdv A outer s H vs Q E hgd hr h => ?_)
  · obtain ⟨S, j, bk, n, rfl, _⟩ := h
    rfl
  · obtain ⟨S, j, bk, n, rfl, hS, lv, J, hn, k⟩ := h
    refine ⟨_, (pss_cons (ps_par3 (i := 1) (j := 2) (l := 3) rfl sc_law_rows_right.nd rfl rfl rfl (by decide) (by decide) (by decide) rfl rfl rfl (pa_cons (pe_call G_law_row (hr.mono (by decide)) (by rfl) T.m_law_row T.F_law_row.kp (b_law_row T) .nil pass0 (pa_cons (pv 0) (pa_cons pe_int pa_nil))) (pa_cons (pe_call G_law_row (hr.mono (by decide)) (by rfl) T.m_law_row T.F_law_row.kp (b_law_row T) .nil pass0 (pa_cons (pv 0) (pa_cons pe_int pa_nil))) (pa_cons (pe_call G_law_number (hr.mono (by decide)) (by rfl) T.m_law_number T.F_law_number.kp (b_law_number T) .nil pass0 (pa_cons (pv 0) pa_nil)) pa_nil))) (by rfl))
      (pss_cons (ps_par3 (i := 4) (j := 5) (l := 6) rfl sc_law_rows_right.nd rfl rfl rfl (by decide) (by decide) (by decide) rfl rfl rfl (pa_cons (pe_call G_law_told (hr.mono (by decide)) (by rfl) T.m_law_told T.F_law_told.kp (b_law_told T) .nil pass0 (pa_cons (pv 0) (pa_cons (pv 1) pa_nil))) (pa_cons (pe_call G_law_told (hr.mono (by decide)) (by rfl) T.m_law_told T.F_law_told.kp (b_law_told T) .nil pass0 (pa_cons (pv 0) (pa_cons (pv 2) pa_nil))) (pa_cons (pe_ix (IxR.or (r := rIxL K) (r' := rIxT K) ix_list ix_tup) (pe_call G_law_told (hr.mono (by decide)) (by rfl) T.m_law_told T.F_law_told.kp (b_law_told T) .nil pass0 (pa_cons (pv 0) (pa_cons (pe_lst (pa_cons (pv 3) pa_nil)) pa_nil))) pe_int (fun _ _ => rfl)) pa_nil))) (by rfl))
      (pss_cons (ps_set (i := 7) sc_law_rows_right.nd rfl (Or.inl rfl) (pe_callB (call_reprD hr.units hgd) (by rfl) T.z_repr (by decide +kernel) (pa_cons (pe_lst (pa_cons (pv 4) (pa_cons (pv 5) (pa_cons (pv 6) pa_nil)))) pa_nil)))
      (pss_cons (ps_if (PW.pt (pw_or (pt_cmpR op_ne (pe_callB (call_reprD hr.units hgd) (by rfl) T.z_repr (by decide +kernel) (pa_cons (pe_callN0 G_value_at (hr.mono (by decide)) (by rfl) T.m_value_at T.F_value_at.kp (kb_value_at_0_row_number T) passL (pk_cons (pv 4) (pk_cons (pv 6) pk_nil))) pa_nil)) (pe_callB (call_reprD hr.units hgd) (by rfl) T.z_repr (by decide +kernel) (pa_cons (pe_call G_law_value (hr.mono (by decide)) (by rfl) T.m_law_value T.F_law_value.kp (b_law_value T) .nil pass0 (pa_cons (pv 1) (pa_cons (pv 3) pa_nil))) pa_nil)) (nomark _)) (pw_or1 (pt_cmpR op_ne (pe_callB (call_reprD hr.units hgd) (by rfl) T.z_repr (by decide +kernel) (pa_cons (pe_call G_law_heard (hr.mono (by decide)) (by rfl) T.m_law_heard T.F_law_heard.kp (b_law_heard T) .nil pass0 (pa_cons pe_str (pa_cons (pv 4) (pa_cons pe_non pa_nil)))) pa_nil)) (pe_callB (call_reprD hr.units hgd) (by rfl) T.z_repr (by decide +kernel) (pa_cons (pe_callTy call_tuple_of (by rfl) T.z_tuple (by decide +kernel) (pa_cons (pe_call G_law_slope (hr.mono (by decide)) (by rfl) T.m_law_slope T.F_law_slope.kp (b_law_slope T) .nil pass0 (pa_cons (pv 1) pa_nil)) pa_nil)) pa_nil)) (nomark _))))) (pss_one (ps_ret pe_bl)) pss_nil)
      (pss_cons (ps_set (i := 8) sc_law_rows_right.nd rfl (Or.inl rfl) (pe_call G_row_product (hr.mono (by decide)) (by rfl) T.m_row_product T.F_row_product.kp (b_row_product T) .nil passL (pa_cons (pv 4) (pa_cons (pv 5) pa_nil))))
      (pss_cons (ps_if (PW.pt (pw_or (pt_cmpR op_ne (pe_callB (call_reprD hr.units hgd) (by rfl) T.z_repr (by decide +kernel) (pa_cons (pv 8) pa_nil)) (pe_callB (call_reprD hr.units hgd) (by rfl) T.z_repr (by decide +kernel) (pa_cons (pe_callTy call_tuple_of (by rfl) T.z_tuple (by decide +kernel) (pa_cons (pe_call G_law_product (hr.mono (by decide)) (by rfl) T.m_law_product T.F_law_product.kp (b_law_product T) .nil pass0 (pa_cons (pv 1) (pa_cons (pv 2) pa_nil))) pa_nil)) pa_nil)) (nomark _)) (pw_or1 (pt_cmpR op_ne (pe_callB (call_reprD hr.units hgd) (by rfl) T.z_repr (by decide +kernel) (pa_cons (pe_call G_value_at (hr.mono (by decide)) (by rfl) T.m_value_at T.F_value_at.kp (b_value_at T) .nil passL (pa_cons (pv 8) (pa_cons (pv 6) pa_nil))) pa_nil)) (pe_callB (call_reprD hr.units hgd) (by rfl) T.z_repr (by decide +kernel) (pa_cons (pe_call G_law_times (hr.mono (by decide)) (by rfl) T.m_law_times T.F_law_times.kp (b_law_times T) .nil pass0 (pa_cons (pe_call G_law_value (hr.mono (by decide)) (by rfl) T.m_law_value T.F_law_value.kp (b_law_value T) .nil pass0 (pa_cons (pv 1) (pa_cons (pv 3) pa_nil))) (pa_cons (pe_call G_law_value (hr.mono (by decide)) (by rfl) T.m_law_value T.F_law_value.kp (b_law_value T) .nil pass0 (pa_cons (pv 2) (pa_cons (pv 3) pa_nil))) pa_nil))) pa_nil)) (nomark _))))) (pss_one (ps_ret pe_bl)) pss_nil)
      (pss_cons (ps_set (i := 9) sc_law_rows_right.nd rfl (Or.inl rfl) (pe_call G_law_plus (hr.mono (by decide)) (by rfl) T.m_law_plus T.F_law_plus.kp (b_law_plus T) .nil pass0 (pa_cons (pe_call G_law_times (hr.mono (by decide)) (by rfl) T.m_law_times T.F_law_times.kp (b_law_times T) .nil pass0 (pa_cons (pe_call G_law_value (hr.mono (by decide)) (by rfl) T.m_law_value T.F_law_value.kp (b_law_value T) .nil pass0 (pa_cons (pe_call G_law_slope (hr.mono (by decide)) (by rfl) T.m_law_slope T.F_law_slope.kp (b_law_slope T) .nil pass0 (pa_cons (pv 1) pa_nil)) (pa_cons (pv 3) pa_nil))) (pa_cons (pe_call G_law_value (hr.mono (by decide)) (by rfl) T.m_law_value T.F_law_value.kp (b_law_value T) .nil pass0 (pa_cons (pv 2) (pa_cons (pv 3) pa_nil))) pa_nil))) (pa_cons (pe_call G_law_times (hr.mono (by decide)) (by rfl) T.m_law_times T.F_law_times.kp (b_law_times T) .nil pass0 (pa_cons (pe_call G_law_value (hr.mono (by decide)) (by rfl) T.m_law_value T.F_law_value.kp (b_law_value T) .nil pass0 (pa_cons (pv 1) (pa_cons (pv 3) pa_nil))) (pa_cons (pe_call G_law_value (hr.mono (by decide)) (by rfl) T.m_law_value T.F_law_value.kp (b_law_value T) .nil pass0 (pa_cons (pe_call G_law_slope (hr.mono (by decide)) (by rfl) T.m_law_slope T.F_law_slope.kp (b_law_slope T) .nil pass0 (pa_cons (pv 2) pa_nil)) (pa_cons (pv 3) pa_nil))) pa_nil))) pa_nil))))
      (pss_one (ps_ret (pe_and (pe_cmpR op_eq (pe_callB (call_reprD hr.units hgd) (by rfl) T.z_repr (by decide +kernel) (pa_cons (pe_call G_value_at (hr.mono (by decide)) (by rfl) T.m_value_at T.F_value_at.kp (b_value_at T) .nil passL (pa_cons (pe_call G_slope_row (hr.mono (by decide)) (by rfl) T.m_slope_row T.F_slope_row.kp (b_slope_row T) .nil passL (pa_cons (pv 8) pa_nil)) (pa_cons (pv 6) pa_nil))) pa_nil)) (pe_callB (call_reprD hr.units hgd) (by rfl) T.z_repr (by decide +kernel) (pa_cons (pv 9) pa_nil)) (nomark _)) (pe_one (pe_cmpR op_eq (pe_callB (call_reprD hr.units hgd) (by rfl) T.z_repr (by decide +kernel) (pa_cons (pe_lst (pa_cons (pv 4) (pa_cons (pv 5) (pa_cons (pv 6) pa_nil)))) pa_nil)) (pv 7) (nomark _))))))))))))), ?_⟩
    refine dr_par3 hS (dr_rowR hS rfl (by decide) (by decide)) (dr_rowR hS rfl (by decide) (by decide)) (dr_numR hS rfl) lv J (by omega) fun v1 d1 v2 d2 v3 d3 H1 k1 l1 J1 h1 p1 h2 p2 h3 p3 => ?_
    obtain ⟨ps, rfl, pa, pb, psz⟩ := p1
    obtain ⟨qs, rfl, qa, qb, qsz⟩ := p2
    obtain ⟨x, rfl, xsz⟩ := p3
    refine dr_par3 hS (dr_toldR hS rfl rfl h1 (by omega)) (dr_toldR hS rfl rfl h2 (by omega)) (dr_firstR hS rfl rfl h3) l1 J1 (by omega) fun w1 f1 w2 f2 w3 f3 H2 k2 l2 J2 g1 r1 g2 r2 g3 r3 => ?_
    obtain ⟨s1, n1, e1⟩ := r1
    obtain ⟨s2, n2, e2⟩ := r2
    obtain ⟨n3, e3⟩ := r3
    have i1 := (h1.up (k2.less hS)).up mn_same
    have i2 := (h2.up (k2.less hS)).up mn_same
    have i3 := (h3.up (k2.less hS)).up mn_same
    have m1 := g1.up mn_same
    have m2 := g2.up mn_same
    have m3 := g3.up mn_same
    have len1 : (items f1).length = ps.length := by rw [← rts_len, e1]
    have len2 : (items f2).length = qs.length := by rw [← rts_len, e2]
    have R1 := isRow_of s1 n1 (by omega) (by omega)
    have R2 := isRow_of s2 n2 (by omega) (by omega)
    have no1 : ∀ {P : Prop}, isRow f1 = false → P := fun z => by rw [R1] at z; cases z
    have no2 : ∀ {P : Prop}, isRow f2 = false → P := fun z => by rw [R2] at z; cases z
    have no3 : ∀ {P : Prop}, isNum f3 = false → P := fun z => by rw [n3] at z; cases z
    have ok3 := okr3 s1 n1 (row_nb n1 (by rw [e1]; exact psz) (by decide)) (by omega) s2 n2 (row_nb n2 (by rw [e2]; exact qsz) (by decide)) (by omega) n3 (Sz.nb n3 (by rw [e3]; exact xsz.more (by decide)))
    have zp := hval_sz xsz ps psz
    have zq := hval_sz xsz qs qsz
    have zpc : Sz 500 (hval ps x) := zp.more (by omega)
    have zqc : Sz 416 (hval qs x) := zq.more (by omega)
    have lsp := slope_len pa
    have lsq := slope_len qa
    have ssp := slope_sz (by omega) psz
    have ssq := slope_sz (by omega) qsz
    have zdp : Sz 529 (hval (slope ps) x) := (hval_sz xsz _ ssp).more (by omega)
    have zdq : Sz 441 (hval (slope qs) x) := (hval_sz xsz _ ssq).more (by omega)
    have szc := conv_sz psz qsz (by omega)
    have szc2 : ∀ c ∈ conv ps qs, Sz 500 c := fun c hc => (szc c hc).more (by omega)
    have lc : (conv ps qs).length = ps.length + qs.length - 1 := conv_len ps qs
    obtain ⟨Rc, _, rc, _⟩ := isRow_rats (l := conv ps qs) (by omega) (by omega)
    have lsc := slope_len (l := conv ps qs) (by omega)
    have ssc := slope_sz (l := conv ps qs) (by omega) szc2
    obtain ⟨Rs, _, rs, _⟩ := isRow_rats (l := slope (conv ps qs)) (by omega) (by omega)
    have noC : ∀ {P : Prop}, isRow (.tup ((conv ps qs).map ofR)) = false → P := fun z => by rw [Rc] at z; cases z
    have noS : ∀ {P : Prop}, isRow (.tup ((slope (conv ps qs)).map ofR)) = false → P := fun z => by rw [Rs] at z; cases z
    have hc := hval_conv ps qs x (by omega)
    have hd : hval (slope (conv ps qs)) x = hval (slope ps) x * hval qs x + hval ps x * hval (slope qs) x := by
      rw [hval_slope, hval_slope, hval_slope, dval_conv ps qs x (by omega)]
    have okc : okr (ofR (hval ps x * hval qs x)) = true := rat_okr ((zpc.mul zqc).more (by decide))
    have okg : okr (ofR (hval (slope ps) x * hval qs x + hval ps x * hval (slope qs) x)) = true := rat_okr (((zdp.mul zqc).add (zpc.mul zdq)).more (by decide))
    have fitp : ∃ s t, 0 < s ∧ 0 < t ∧ (∀ q ∈ ps, Sz s q) ∧ Sz t x ∧ ps.length * (s + ps.length * t + 2) + s + ps.length * t + t + 3 ≤ 8900 := by
      refine ⟨41, 41, by decide, by decide, psz, xsz, ?_⟩
      have b : ps.length * (41 + ps.length * 41 + 2) ≤ 6 * (41 + 6 * 41 + 2) := Nat.mul_le_mul (by omega) (by omega)
      omega
    have fitq : ∃ s t, 0 < s ∧ 0 < t ∧ (∀ q ∈ qs, Sz s q) ∧ Sz t x ∧ qs.length * (s + qs.length * t + 2) + s + qs.length * t + t + 3 ≤ 8900 := by
      refine ⟨41, 41, by decide, by decide, qsz, xsz, ?_⟩
      have b : qs.length * (41 + qs.length * 41 + 2) ≤ 6 * (41 + 6 * 41 + 2) := Nat.mul_le_mul (by omega) (by omega)
      omega
    have fitsp : ∃ s t, 0 < s ∧ 0 < t ∧ (∀ q ∈ slope ps, Sz s q) ∧ Sz t x ∧ (slope ps).length * (s + (slope ps).length * t + 2) + s + (slope ps).length * t + t + 3 ≤ 8900 := by
      refine ⟨5 + 41, 41, by decide, by decide, ssp, xsz, ?_⟩
      have b : (slope ps).length * (5 + 41 + (slope ps).length * 41 + 2) ≤ 6 * (5 + 41 + 6 * 41 + 2) := Nat.mul_le_mul (by omega) (by omega)
      omega
    have fitsq : ∃ s t, 0 < s ∧ 0 < t ∧ (∀ q ∈ slope qs, Sz s q) ∧ Sz t x ∧ (slope qs).length * (s + (slope qs).length * t + 2) + s + (slope qs).length * t + t + 3 ≤ 8900 := by
      refine ⟨5 + 41, 41, by decide, by decide, ssq, xsz, ?_⟩
      have b : (slope qs).length * (5 + 41 + (slope qs).length * 41 + 2) ≤ 6 * (5 + 41 + 6 * 41 + 2) := Nat.mul_le_mul (by omega) (by omega)
      omega
    refine ⟨_, rfl, _, rfl, _, rfl, (by decide : 3 ≤ sizeLine), fun l hl => ⟨.ref l, .lst [f1, f2, f3], rfl, .lst upd_same (.cons (m1.up (Same.new hl)) (.cons (m2.up (Same.new hl)) (.cons (m3.up (Same.new hl)) .nil))), ok3, ?_⟩⟩
    obtain ⟨B, eB⟩ : ∃ B, B = (pd (.lst [f1, f2, f3])).shown := ⟨_, rfl⟩
    rw [← eB]
    have t3 : Same H2 (upd H2 l (.lst [w1, w2, w3])) := Same.new hl
    generalize upd H2 l (.lst [w1, w2, w3]) = H3 at t3 ⊢
    refine ⟨_, rfl, _, rfl, rfl, rfl, w1, w3, f1, f3, rfl, m1.up t3, m3.up t3, fun z => no1 z, fun _ z => no3 z, fun _ _ => ⟨⟨41, 41, by decide, by decide, by rw [e1]; exact psz, by rw [e3]; exact xsz, by rw [e1]; omega⟩, fun y4 H4 u4 y4n => ?_⟩⟩
    rw [e1, e3] at y4n
    refine ⟨y4, _, rfl, y4n.is, rat_okr (zpc.more (by decide)), ?_⟩
    have t4 := t3.trans u4
    refine ⟨_, rfl, _, rfl, v1, v3, ps, x, rfl, i1.up t4, i3.up t4, fitp, by omega, fun y5 H5 u5 y5n => ⟨y5, _, rfl, y5n.is, rat_okr (zpc.more (by decide)), rfl, _, rfl, iteE (fun z => absurd rfl z) fun _ => ?_⟩⟩
    have t5 := t4.trans u5
    refine ⟨_, rfl, "slope", w1, .non, f1, .non, rfl, m1.up t5, .non, .inr (.inl ⟨rfl, fun z => no1 z, fun _ => ⟨⟨41, by decide, by rw [e1]; exact psz, by decide⟩, fun y6 H6 u6 y6n => ?_⟩⟩)⟩
    rw [e1] at y6n
    have t6 := t5.trans u6
    have oks := rats_okr (l := slope ps) (by omega) fun q hq => (ssp q hq).more (by decide)
    refine ⟨y6, _, rfl, y6n.is, oks.1, ?_⟩
    refine ⟨_, rfl, v1, ps, rfl, i1.up t6, pa, by omega, ⟨41, by decide, psz, by decide⟩, fun y7 H7 u7 y7n => ?_⟩
    obtain ⟨a7, xs7, rfl, h7, len7, all7⟩ := y7n.is.rats
    refine ⟨a7, xs7, rfl, .inl ⟨.inl (.inl h7), fun l7 hl7 => ⟨.ref l7, .tup ((slope ps).map ofR), rfl, .tup upd_same (all7.up (Same.new hl7)), oks.1, rfl, _, rfl, iteE (fun z => absurd rfl z) fun _ => ?_⟩⟩⟩
    have t7 := (t6.trans u7).trans (Same.new hl7 (o := .tup xs7))
    generalize upd H7 l7 (.tup xs7) = H8 at t7 ⊢
    refine ⟨_, rfl, _, rfl, w1, w2, f1, f2, rfl, m1.up t7, m2.up t7, fun z => no1 z, fun _ z => no2 z, fun _ _ z => absurd z (by omega), fun _ _ _ => ⟨⟨41, 41, by decide, by decide, by rw [e1]; exact psz, by rw [e2]; exact qsz, by rw [e1]; omega⟩, fun made H9 u9 mn9 => ?_⟩⟩
    rw [e1, e2] at mn9
    have t9 := t7.trans u9
    have md := mn9.is
    have okm := rats_okr (l := conv ps qs) (by omega) fun q hq => (szc2 q hq).more (by decide)
    refine ⟨_, rfl, made, _, rfl, md, okm.1, ?_⟩
    refine ⟨_, rfl, _, rfl, v1, v2, ps, qs, rfl, i1.up t9, i2.up t9, pa, by omega, qa, by omega, ⟨41, 41, by decide, by decide, psz, qsz, by omega⟩, fun y10 H10 u10 y10n => ?_⟩
    obtain ⟨a10, xs10, rfl, h10, len10, all10⟩ := y10n.is.rats
    refine ⟨a10, xs10, rfl, .inl ⟨.inl (.inl h10), fun l11 hl11 => ⟨.ref l11, .tup ((conv ps qs).map ofR), rfl, .tup upd_same (all10.up (Same.new hl11)), okm.1, rfl, _, rfl, iteE (fun z => absurd rfl z) fun _ => ?_⟩⟩⟩
    have u11 := u10.trans (Same.new hl11 (o := .tup xs10))
    have t11 := t9.trans u11
    generalize upd H10 l11 (.tup xs10) = H11 at t11 u11 ⊢
    refine ⟨_, rfl, _, rfl, made, w3, _, f3, rfl, md.up u11, m3.up t11, fun z => noC z, fun _ z => no3 z, fun _ _ => ⟨⟨500, 41, by decide, by decide, by rw [rc]; exact szc2, by rw [e3]; exact xsz, by rw [rc]; omega⟩, fun y12 H12 u12 y12n => ?_⟩⟩
    rw [rc, e3, hc] at y12n
    have u13 := u11.trans u12
    have t12 := t11.trans u12
    refine ⟨y12, _, rfl, y12n.is, okc, ?_⟩
    refine ⟨_, rfl, _, rfl, v1, v3, ps, x, rfl, i1.up t12, i3.up t12, fitp, by omega, fun a1 H13 w13 a1n => ?_⟩
    have t13 := t12.trans w13
    refine ⟨_, rfl, _, rfl, v2, v3, qs, x, rfl, i2.up t13, i3.up t13, fitq, by omega, fun a2 H14 w14 a2n => ?_⟩
    have t14 := t13.trans w14
    refine ⟨a1, a2, _, _, rfl, (a1n.up w14).is, a2n.is, ofR_num _, ofR_num _, fitR.fit ⟨500, 416, by decide, by decide, by decide, zpc, zqc⟩, fun y15 H15 w15 y15n => ?_⟩
    rw [rt_ofR, rt_ofR] at y15n
    refine ⟨y15, _, rfl, y15n.is, okc, rfl, _, rfl, iteE (fun z => absurd rfl z) fun _ => ?_⟩
    have t15 := t14.trans w15
    have u15 := ((u13.trans w13).trans w14).trans w15
    -- grown
    refine ⟨_, rfl, v1, ps, rfl, i1.up t15, pa, by omega, ⟨41, by decide, psz, by decide⟩, fun b1 H16 w16 b1n => ?_⟩
    have t16 := t15.trans w16
    refine ⟨_, rfl, b1, v3, slope ps, x, rfl, b1n.is, i3.up t16, fitsp, by omega, fun b2 H17 w17 b2n => ?_⟩
    have t17 := t16.trans w17
    refine ⟨_, rfl, _, rfl, v2, v3, qs, x, rfl, i2.up t17, i3.up t17, fitq, by omega, fun b3 H18 w18 b3n => ?_⟩
    have t18 := t17.trans w18
    refine ⟨b2, b3, _, _, rfl, (b2n.up w18).is, b3n.is, ofR_num _, ofR_num _, fitR.fit ⟨529, 416, by decide, by decide, by decide, zdp, zqc⟩, fun b4 H19 w19 b4n => ?_⟩
    rw [rt_ofR, rt_ofR] at b4n
    have t19 := t18.trans w19
    refine ⟨_, rfl, _, rfl, v1, v3, ps, x, rfl, i1.up t19, i3.up t19, fitp, by omega, fun b5 H20 w20 b5n => ?_⟩
    have t20 := t19.trans w20
    refine ⟨_, rfl, v2, qs, rfl, i2.up t20, qa, by omega, ⟨41, by decide, qsz, by decide⟩, fun b6 H21 w21 b6n => ?_⟩
    have t21 := t20.trans w21
    refine ⟨_, rfl, b6, v3, slope qs, x, rfl, b6n.is, i3.up t21, fitsq, by omega, fun b7 H22 w22 b7n => ?_⟩
    have t22 := t21.trans w22
    refine ⟨b5, b7, _, _, rfl, ((b5n.up w21).up w22).is, b7n.is, ofR_num _, ofR_num _, fitR.fit ⟨500, 441, by decide, by decide, by decide, zpc, zdq⟩, fun b8 H23 w23 b8n => ?_⟩
    rw [rt_ofR, rt_ofR] at b8n
    refine ⟨b4, b8, _, _, rfl, ((((b4n.up w20).up w21).up w22).up w23).is, b8n.is, ofR_num _, ofR_num _, fitR.fit ⟨529 + 416, 500 + 441, by decide, by decide, by decide, zdp.mul zqc, zpc.mul zdq⟩, fun grown H24 w24 gn => ?_⟩
    rw [rt_ofR, rt_ofR] at gn
    have t24 := (t22.trans w23).trans w24
    have u24 := ((((((((u15.trans w16).trans w17).trans w18).trans w19).trans w20).trans w21).trans w22).trans w23).trans w24
    refine ⟨_, rfl, made, _, rfl, md.up u24, fun z => noC z, fun _ => ⟨⟨500, by decide, by rw [rc]; exact szc2, by decide⟩, fun sm H25 w25 smn => ?_⟩⟩
    rw [rc] at smn
    refine ⟨_, rfl, sm, w3, _, f3, rfl, smn.is, m3.up (t24.trans w25), fun z => noS z, fun _ z => no3 z, fun _ _ => ⟨⟨505, 41, by decide, by decide, by rw [rs]; exact ssc, by rw [e3]; exact xsz, by rw [rs]; omega⟩, fun y26 H26 w26 y26n => ?_⟩⟩
    rw [rs, e3, hd] at y26n
    have t26 := (t24.trans w25).trans w26
    refine ⟨y26, _, rfl, y26n.is, okg, _, rfl, grown, _, rfl, ((gn.up w25).up w26).is, okg, rfl, _, rfl, iteD (fun _ => ?_) fun z => absurd rfl z⟩
    refine ⟨_, rfl, _, rfl, _, rfl, (by decide : 3 ≤ sizeLine), fun l2' hl2 => ⟨.ref l2', .lst [f1, f2, f3], rfl, .lst upd_same (.cons ((m1.up t26).up (Same.new hl2)) (.cons ((m2.up t26).up (Same.new hl2)) (.cons ((m3.up t26).up (Same.new hl2)) .nil))), ok3, _, rfl, rfl, ?_⟩⟩
    rw [← eB, show decide (V.str B = V.str B) = true from decide_eq_true rfl]
    have t27 := t26.trans (Same.new hl2 (o := .lst [w1, w2, w3]))
    exact k _ ((k1.trans k2).trans (Same.keep t27)) (l2.more t27) ((J2.up t27).le (by omega))
end
end Ty

namespace Ty
open PySem PySem.Spec PyProof.Rows L2
section
variable {P : Program} {w : World} {K : PySem.W.Frag} {mg : Str → Option Value} {base : Heap}
theorem ok_law_refused_right (T : Txt K mg) : FnOk P w K mg base CX0 8 T.a_law_refused_right T.d_law_refused_right ["vat"] (spRightR 140) := by
  have G_law_row := ok_law_row (P := P) (w := w) (base := base) T
  have G_law_one := ok_law_one (P := P) (w := w) (base := base) T
  have G_law_heard := ok_law_heard (P := P) (w := w) (base := base) T
  have G_law_tap := ok_law_tap (P := P) (w := w) (base := base) T
  have G_law_product := ok_law_product (P := P) (w := w) (base := base) T
  refine T.F_law_refused_right.ok sc_law_refused_right (fun vs H Q E h => ?_) (fun cdv A outer s H vs Q E hr h => ?_)
  · obtain ⟨S, j, bk, n, rfl, _⟩ := h
    rfl
  · obtain ⟨S, j, bk, n, rfl, hS, lv, J, hn, k⟩ := h
    refine ⟨_, (pss_cons (ps_set (i := 1) sc_law_refused_right.nd rfl (Or.inl rfl) (pe_call G_law_row (hr.mono (by decide)) (by rfl) T.m_law_row T.F_law_row.kp (b_law_row T) .nil pass0 (pa_cons (pv 0) (pa_cons pe_int pa_nil))))
      (pss_cons (ps_set (i := 2) sc_law_refused_right.nd rfl (Or.inl rfl) (pe_call G_law_one (hr.mono (by decide)) (by rfl) T.m_law_one T.F_law_one.kp (b_law_one T) .nil pass0 (pa_cons (pv 0) (pa_cons (pe_lst (pa_cons pe_non (pa_cons (pe_lst pa_nil) (pa_cons (pe_tup pa_nil) (pa_cons pe_str (pa_cons pe_int (pa_cons (pe_lst (pa_cons pe_int (pa_cons pe_non pa_nil))) (pa_cons (pe_lst (pa_cons (pe_tup (pa_cons pe_int (pa_cons pe_int pa_nil))) pa_nil)) (pa_cons (pe_lst (pa_cons pe_bl pa_nil)) (pa_cons (pe_op op_rep (pe_lst (pa_cons pe_int pa_nil)) pe_int) (pa_cons (pe_tup (pa_cons (pe_lst pa_nil) pa_nil)) (pa_cons pe_dnewK (pa_cons (pe_lst (pa_cons pe_int (pa_cons pe_str pa_nil))) (pa_cons (pe_lst (pa_cons (pe_tup (pa_cons pe_int (pa_cons pe_int pa_nil))) pa_nil)) pa_nil)))))))))))))) pa_nil))))
      (pss_cons (ps_set (i := 3) sc_law_refused_right.nd rfl (Or.inl rfl) (pe_call G_law_one (hr.mono (by decide)) (by rfl) T.m_law_one T.F_law_one.kp (b_law_one T) .nil pass0 (pa_cons (pv 0) (pa_cons (pe_lst (pa_cons pe_non (pa_cons pe_str (pa_cons (pe_tup (pa_cons pe_int (pa_cons pe_int pa_nil))) (pa_cons pe_bl (pa_cons (pe_lst (pa_cons pe_int pa_nil)) (pa_cons (pe_lst pa_nil) (pa_cons (pv 2) pa_nil)))))))) pa_nil))))
      (pss_cons (ps_for PassesOwn.never rfl (pi_tup (pe_tup (pa_cons (pe_tup (pa_cons pe_str (pa_cons (pv 2) (pa_cons (pv 3) (pa_cons pe_str pa_nil))))) (pa_cons (pe_tup (pa_cons pe_str (pa_cons (pv 1) (pa_cons (pv 3) (pa_cons pe_str pa_nil))))) (pa_cons (pe_tup (pa_cons pe_str (pa_cons (pv 2) (pa_cons pe_non (pa_cons pe_str pa_nil))))) (pa_cons (pe_tup (pa_cons pe_str (pa_cons (pv 2) (pa_cons (pv 3) (pa_cons pe_str pa_nil))))) (pa_cons (pe_tup (pa_cons pe_str (pa_cons (pv 1) (pa_cons (pv 2) (pa_cons pe_str pa_nil))))) pa_nil))))))) (pg_tup rfl (pgs_cons (pg_name (i := 4) sc_law_refused_right.nd rfl (Or.inl rfl)) (pgs_cons (pg_name (i := 5) sc_law_refused_right.nd rfl (Or.inl rfl)) (pgs_cons (pg_name (i := 6) sc_law_refused_right.nd rfl (Or.inl rfl)) (pgs_cons (pg_name (i := 7) sc_law_refused_right.nd rfl (Or.inl rfl)) pgs_nil))))) (pss_cons (ps_set (i := 8) sc_law_refused_right.nd rfl (Or.inl rfl) (pe_call G_law_heard (hr.mono (by decide)) (by rfl) T.m_law_heard T.F_law_heard.kp (b_law_heard T) .nil pass0 (pa_cons (pv 4) (pa_cons (pv 5) (pa_cons (pv 6) pa_nil)))))
      (pss_one (ps_if (PW.pt (pw_and (pt_cmpR (op_neD hr.units) (pv 8) (pe_tup (pa_cons pe_str (pa_cons (pv 7) pa_nil))) (nomark _)) (pw_and1 (pt_not (PW.pt (pw_and (pt_cmpR op_eq (pv 4) pe_str (nomark _)) (pw_and (pt_cmpR (op_eqD hr.units) (pv 5) (pv 1) (nomark _)) (pw_and1 (pt_cmpR op_eq (pv 3) pe_int (nomark _)))))))))) (pss_one (ps_ret pe_bl)) pss_nil))))
      (pss_cons (ps_set (i := 9) sc_law_refused_right.nd rfl (Or.inl rfl) (pe_op op_add pe_int (pe_call G_law_tap (hr.mono (by decide)) (by rfl) T.m_law_tap T.F_law_tap.kp (b_law_tap T) .nil pass0 (pa_cons (pv 0) (pa_cons pe_int pa_nil)))))
      (pss_cons (ps_par (i := 10) (j := 11) rfl sc_law_refused_right.nd rfl rfl (by decide) rfl rfl (pa_cons (pe_op op_rep (pe_lst (pa_cons pe_int pa_nil)) (pv 9)) (pa_cons (pe_lc (own := [("turn", 12)]) (g := gName 12) rfl sc_law_refused_right.nd (pi_range1 (by rfl) T.z_range (pa_cons (pe_op op_sub pe_int (pv 9)) pa_nil)) (blkOk_by (N := N_law_refused_right) (sc := defScope s_law_refused_right) (by decide +kernel)) (fun _ _ _ _ _ => (pg_name (i := 12) sc_law_refused_right.nd rfl (Or.inl rfl))) (fun _ _ _ _ _ => pts_nil) (fun _ _ _ _ _ => (pe_call G_law_one (hr.mono (by decide)) (by rfl) T.m_law_one T.F_law_one.kp (b_law_one T) .nil pass0 (pa_cons (pv 0) (pa_cons (pe_lst (pa_cons pe_int (pa_cons pe_int (pa_cons (pe_un un_neg pe_int) pa_nil)))) pa_nil))))) pa_nil)) (by rfl))
      (pss_cons (ps_if (pt_cmpR (op_neD hr.units) (pe_call G_law_heard (hr.mono (by decide)) (by rfl) T.m_law_heard T.F_law_heard.kp (b_law_heard T) .nil pass0 (pa_cons pe_str (pa_cons (pv 10) (pa_cons (pv 11) pa_nil)))) (pe_callTy call_tuple_of (by rfl) T.z_tuple (by decide +kernel) (pa_cons (pe_call G_law_product (hr.mono (by decide)) (by rfl) T.m_law_product T.F_law_product.kp (b_law_product T) .nil pass0 (pa_cons (pv 10) (pa_cons (pv 11) pa_nil))) pa_nil)) (nomark _)) (pss_one (ps_ret pe_bl)) pss_nil)
      (pss_one (ps_ret (pe_ifExp (pt_cmpR op_eq (pv 9) pe_int (nomark _)) (pe_cmpR (op_eqD hr.units) (pe_call G_law_heard (hr.mono (by decide)) (by rfl) T.m_law_heard T.F_law_heard.kp (b_law_heard T) .nil pass0 (pa_cons pe_str (pa_cons (pe_op op_cat (pv 10) (pe_lst (pa_cons pe_int pa_nil))) (pa_cons (pe_op op_cat (pv 11) (pe_op op_rep (pe_lst (pa_cons pe_int pa_nil)) (pe_callTy call_int1 (by rfl) T.z_int (by decide +kernel) (pa_cons (pe_cmpR op_eq (pv 9) pe_int (nomark _)) pa_nil)))) pa_nil)))) (pe_tup (pa_cons pe_str (pa_cons pe_str pa_nil))) (nomark _)) (pe_cmpR (op_eqD hr.units) (pe_call G_law_heard (hr.mono (by decide)) (by rfl) T.m_law_heard T.F_law_heard.kp (b_law_heard T) .nil pass0 (pa_cons pe_str (pa_cons (pe_op op_cat (pv 10) (pe_lst (pa_cons pe_int pa_nil))) (pa_cons (pv 11) pa_nil)))) (pe_tup (pa_cons pe_str (pa_cons pe_str (pa_cons pe_int pa_nil)))) (nomark _)))))))))))), ?_⟩
    refine dr_asg (dr_rowR hS rfl (by decide) (by decide)) lv J (by omega) fun rowv dr H1 k1 l1 J1 h1 p1 => ?_
    obtain ⟨ps, rfl, pa, pb, psz⟩ := p1
    refine dr_asg (dr_pickE hS rfl (drA_consE hS dr_non (drA_consE hS (dr_lstE drA_nil (by show 0 ≤ 1000; decide)) (drA_consE hS (dr_tupE drA_nil (by show 0 ≤ 1000; decide)) (drA_consE hS dr_str (drA_consE hS dr_int (drA_consE hS (dr_lstE (drA_consE hS dr_int (drA_consE hS dr_non drA_nil)) (by show 2 ≤ 1000; decide)) (drA_consE hS (dr_lstE (drA_consE hS (dr_tupE (drA_consE hS dr_int (drA_consE hS dr_int drA_nil)) (by show 2 ≤ 1000; decide)) drA_nil) (by show 1 ≤ 1000; decide)) (drA_consE hS (dr_lstE (drA_consE hS dr_bl drA_nil) (by show 1 ≤ 1000; decide)) (drA_consE hS (dr_repE hS (dr_lstE (drA_consE hS dr_int drA_nil) (by show 1 ≤ 1000; decide)) dr_int (by decide) (by decide) (by show 1 ≤ 1000; decide)) (drA_consE hS (dr_tupE (drA_consE hS (dr_lstE drA_nil (by show 0 ≤ 1000; decide)) drA_nil) (by show 1 ≤ 1000; decide)) (drA_consE hS dr_dict (drA_consE hS (dr_lstE (drA_consE hS dr_int (drA_consE hS dr_str drA_nil)) (by show 2 ≤ 1000; decide)) (drA_consE hS (dr_lstE (drA_consE hS (dr_tupE (drA_consE hS dr_int (drA_consE hS dr_int drA_nil)) (by show 2 ≤ 1000; decide)) drA_nil) (by show 1 ≤ 1000; decide)) drA_nil))))))))))))) (by decide) (by decide)) l1 J1 (by omega) fun bentv db H2 k2 l2 J2 h2 p2 => ?_
    have rb : isRow db = false ∧ (isNum db = false ∨ db = .int 5) := by
      simp only [List.mem_cons, List.not_mem_nil, or_false] at p2
      rcases p2 with rfl | rfl | rfl | rfl | rfl | rfl | rfl | rfl | rfl | rfl | rfl | rfl | rfl
      all_goals first
        | exact ⟨by decide +kernel, .inl (by decide +kernel)⟩
        | exact ⟨by decide +kernel, .inr rfl⟩
    refine dr_asg (dr_pickE hS rfl (drA_consE hS dr_non (drA_consE hS dr_str (drA_consE hS (dr_tupE (drA_consE hS dr_int (drA_consE hS dr_int drA_nil)) (by show 2 ≤ 1000; decide)) (drA_consE hS dr_bl (drA_consE hS (dr_lstE (drA_consE hS dr_int drA_nil) (by show 1 ≤ 1000; decide)) (drA_consE hS (dr_lstE drA_nil (by show 0 ≤ 1000; decide)) (drA_consE hS (dr_var hS rfl h2) drA_nil))))))) (by show 0 < 7; decide) (by show 7 ≤ 1000; decide)) l2 J2 (by omega) fun oddv do_ H3 k3 l3 J3 h3 p3 => ?_
    have ro : isNum do_ = false ∨ do_ = .int 5 := by
      simp only [List.mem_cons, List.not_mem_nil, or_false] at p3
      rcases p3 with rfl | rfl | rfl | rfl | rfl | rfl | rfl
      all_goals first
        | exact rb.2
        | exact .inl (by decide +kernel)
    have i1 := (h1.up ((k2.trans k3).less hS)).up mn_same
    have i2 := (h2.up (k3.less hS)).up mn_same
    have i3 := h3.up mn_same
    obtain ⟨_, R1, _, e1⟩ := isRow_rats (l := ps) pa (by omega)
    have no1 : ∀ {P : Prop}, isRow (.lst (ps.map ofR)) = false → P := fun z => by rw [R1] at z; cases z
    have noB : ∀ {P : Prop}, isRow db = true → P := fun z => by rw [rb.1] at z; cases z
    refine ⟨_, rfl, _, rfl, (by decide : 4 ≤ sizeLine), fun q1 hq1 => ⟨_, rfl, _, rfl, (by decide : 4 ≤ sizeLine), fun q2 hq2 => ⟨_, rfl, (by decide : 4 ≤ sizeLine), fun q3 hq3 => ⟨_, rfl, _, rfl, (by decide : 4 ≤ sizeLine), fun q4 hq4 => ⟨_, rfl, _, rfl, (by decide : 4 ≤ sizeLine), fun q5 hq5 => ⟨(by decide : 5 ≤ sizeLine), fun q6 hq6 => ?_⟩⟩⟩⟩⟩⟩
    obtain ⟨G, eG⟩ : ∃ G, G = upd (upd (upd (upd (upd (upd H3 q1 (.tup [.str "value", bentv, oddv, .str "row"])) q2 (.tup [.str "value", rowv, oddv, .str "number"])) q3 (.tup [.str "slope", bentv, .non, .str "row"])) q4 (.tup [.str "product", bentv, oddv, .str "one"])) q5 (.tup [.str "product", rowv, bentv, .str "other"])) q6 (.tup [.ref q1, .ref q2, .ref q3, .ref q4, .ref q5]) := ⟨_, rfl⟩
    have f6 : G q6 = some (.tup [.ref q1, .ref q2, .ref q3, .ref q4, .ref q5]) := by rw [eG]; exact upd_same
    have f5 : G q5 = some (.tup [.str "product", rowv, bentv, .str "other"]) := by rw [eG]; exact Same.new hq6 _ _ upd_same
    have f4 : G q4 = some (.tup [.str "product", bentv, oddv, .str "one"]) := by rw [eG]; exact Same.new hq6 _ _ (Same.new hq5 _ _ upd_same)
    have f3 : G q3 = some (.tup [.str "slope", bentv, .non, .str "row"]) := by rw [eG]; exact Same.new hq6 _ _ (Same.new hq5 _ _ (Same.new hq4 _ _ upd_same))
    have f2 : G q2 = some (.tup [.str "value", rowv, oddv, .str "number"]) := by rw [eG]; exact Same.new hq6 _ _ (Same.new hq5 _ _ (Same.new hq4 _ _ (Same.new hq3 _ _ upd_same)))
    have f1 : G q1 = some (.tup [.str "value", bentv, oddv, .str "row"]) := by rw [eG]; exact Same.new hq6 _ _ (Same.new hq5 _ _ (Same.new hq4 _ _ (Same.new hq3 _ _ (Same.new hq2 _ _ upd_same))))
    have sG : Same H3 G := by rw [eG]; exact (((((Same.new hq1).trans (Same.new hq2)).trans (Same.new hq3)).trans (Same.new hq4)).trans (Same.new hq5)).trans (Same.new hq6)
    refine ⟨q6, rfl, ⟨_, .inl (.inl upd_same)⟩, ?_⟩
    show ∃ W : Nat → Nat → L2.St → Hp → Prop, (∃ m, W 0 m _ (upd (upd (upd (upd (upd (upd H3 q1 (.tup [.str "value", bentv, oddv, .str "row"])) q2 (.tup [.str "value", rowv, oddv, .str "number"])) q3 (.tup [.str "slope", bentv, .non, .str "row"])) q4 (.tup [.str "product", bentv, oddv, .str "one"])) q5 (.tup [.str "product", rowv, bentv, .str "other"])) q6 (.tup [.ref q1, .ref q2, .ref q3, .ref q4, .ref q5]))) ∧ _
    rw [← eG]
    refine for_tup (K := K) (a := q6) (xs := [.ref q1, .ref q2, .ref q3, .ref q4, .ref q5]) (fun i σ' H' => Same G H' ∧ ∃ s4 s5 s6 s7 s8 : Option V, σ' = [some (.ref j), some rowv, some bentv, some oddv, s4, s5, s6, s7, s8, none, none, none, none]) ⟨Same.refl _, none, none, none, none, none, rfl⟩ (fun i σ' H' _ p => Evl.ex_t p.1 (.inl (.inl f6))) ?_ ?_
    · rintro i y σ' H4 hy ⟨s4, t4, t5, t6, t7, t8, rfl⟩
      have u4 : Same H3 H4 := sG.trans s4
      -- the comparing of an error that is heard with what is due
      have cmp : ∀ (m : Str) (xv : V) (H5 : Hp), New H4 H5 xv (numb m) → SeqAt.shaped (pd (numb m)) = true → PyData.eqv (pd (numb m)) (pd (numb m)) = true → ∀ {Q : VK}, (∀ H6, Same H5 H6 → Q (.bl false) H6) → ∀ p, H5 p = none → rNeD K xv (.ref p) (upd H5 p (.tup [.str "number", .str m])) Q := by
        intro m xv H5 nv sh eq Q q p hp
        refine ⟨pd (numb m), pd (numb m), Is.dp (numb m) _ (nv.is.up (Same.new hp)) rfl, Is.dp (numb m) _ (.tup upd_same (.cons (.str _) (.cons (.str _) .nil))) rfl, sh, sh, ?_⟩
        rw [eq]
        exact q _ (Same.new hp)
      match i, hy with
      | 0, hy =>
        cases hy
        refine ⟨q1, _, rfl, .inl (.inl (s4 _ _ f1)), rfl, _, _, rfl, _, _, rfl, _, _, rfl, _, _, rfl, rfl, ?_⟩
        refine ⟨_, rfl, _, rfl, _, rfl, "value", bentv, oddv, db, do_, rfl, i2.up u4, i3.up u4, .inl ⟨rfl, fun _ xv H5 s5 nv => ?_, fun z => noB z, fun z => noB z⟩⟩
        refine ⟨_, rfl, _, rfl, (by decide : 2 ≤ sizeLine), fun p hp => cmp "row" xv H5 nv (by decide +kernel) (by decide +kernel) (fun H6 s6 => ⟨_, rfl, ?_⟩) p hp⟩
        exact ⟨(s4.trans s5).trans s6, _, _, _, _, _, rfl⟩
      | 1, hy =>
        cases hy
        refine ⟨q2, _, rfl, .inl (.inl (s4 _ _ f2)), rfl, _, _, rfl, _, _, rfl, _, _, rfl, _, _, rfl, rfl, ?_⟩
        refine ⟨_, rfl, _, rfl, _, rfl, "value", rowv, oddv, .lst (ps.map ofR), do_, rfl, i1.up u4, i3.up u4, .inl ⟨rfl, fun z => no1 z, fun _ _ xv H5 s5 nv => ?_, fun _ yes => ?_⟩⟩
        · refine ⟨_, rfl, _, rfl, (by decide : 2 ≤ sizeLine), fun p hp => cmp "number" xv H5 nv (by decide +kernel) (by decide +kernel) (fun H6 s6 => ⟨_, rfl, ?_⟩) p hp⟩
          exact ⟨(s4.trans s5).trans s6, _, _, _, _, _, rfl⟩
        · rcases ro with z | z
          · rw [z] at yes
            cases yes
          subst z
          cases i3
          refine ⟨⟨41, 41, by decide, by decide, by rw [e1]; exact psz, by rw [rt_int]; exact (sz_small (by decide)).more (by decide), by rw [e1]; omega⟩, fun xv H5 s5 nv => ?_⟩
          refine ⟨_, rfl, _, rfl, (by decide : 2 ≤ sizeLine), fun p hp => ?_⟩
          have nn := ofR_num (hval (rts (.lst (ps.map ofR))) (rt (.int 5)))
          have nsh := (num_okr nn)
          have s6 := Same.new (o := .tup [V.str "number", V.str "number"]) hp
          have okn : nums (ofR (hval (rts (.lst (ps.map ofR))) (rt (.int 5)))) = true := (num_show nn (Sz.nb nn (by rw [rt_ofR, e1]; exact (hval_sz (t := 41) (by rw [rt_int]; exact (sz_small (by decide)).more (by decide)) ps psz).more (by omega)))).1
          refine ⟨_, pd (numb "number"), Is.dp _ _ (nv.is.up s6) okn, Is.dp (numb "number") _ (.tup upd_same (.cons (.str _) (.cons (.str _) .nil))) rfl, shaped_num nn, by decide +kernel, _, rfl, iteB (fun _ => ?_) fun _ => ⟨(s4.trans s5).trans s6, _, _, _, _, _, rfl⟩⟩
          have u6 := (u4.trans s5).trans s6
          have sr := shaped_rats ps
          have okr' := (row_show (d := .lst (ps.map ofR)) rfl (fun e he => by
            obtain ⟨q, _, rfl⟩ := List.mem_map.mp he
            exact ofR_num q) (fun e he => by
            obtain ⟨q, hq, rfl⟩ := List.mem_map.mp he
            exact Sz.nb (ofR_num q) (by rw [rt_ofR]; exact (psz q hq).more (by decide)))).1
          refine ⟨_, rfl, rfl, _, rfl, iteD (fun _ => ?_) fun z => absurd rfl z⟩
          refine ⟨_, rfl, _, rfl, _, _, Is.dp _ _ (i1.up u6) okr', Is.dp _ _ (i1.up u6) okr', sr.2.1, sr.2.1, _, rfl, iteB (fun _ => ?_) fun z => nomatch (sr.2.2.2.symm.trans z)⟩
          exact ⟨_, rfl, rfl, _, rfl, iteE (fun z => absurd rfl z) fun _ => ⟨(s4.trans s5).trans s6, _, _, _, _, _, rfl⟩⟩
      | 2, hy =>
        cases hy
        refine ⟨q3, _, rfl, .inl (.inl (s4 _ _ f3)), rfl, _, _, rfl, _, _, rfl, _, _, rfl, _, _, rfl, rfl, ?_⟩
        refine ⟨_, rfl, _, rfl, _, rfl, "slope", bentv, .non, db, .non, rfl, i2.up u4, .non, .inr (.inl ⟨rfl, fun _ xv H5 s5 nv => ?_, fun z => noB z⟩)⟩
        refine ⟨_, rfl, _, rfl, (by decide : 2 ≤ sizeLine), fun p hp => cmp "row" xv H5 nv (by decide +kernel) (by decide +kernel) (fun H6 s6 => ⟨_, rfl, ?_⟩) p hp⟩
        exact ⟨(s4.trans s5).trans s6, _, _, _, _, _, rfl⟩
      | 3, hy =>
        cases hy
        refine ⟨q4, _, rfl, .inl (.inl (s4 _ _ f4)), rfl, _, _, rfl, _, _, rfl, _, _, rfl, _, _, rfl, rfl, ?_⟩
        refine ⟨_, rfl, _, rfl, _, rfl, "product", bentv, oddv, db, do_, rfl, i2.up u4, i3.up u4, .inr (.inr ⟨rfl, fun _ xv H5 s5 nv => ?_, fun z => noB z, fun z => noB z, fun z => noB z⟩)⟩
        refine ⟨_, rfl, _, rfl, (by decide : 2 ≤ sizeLine), fun p hp => cmp "one" xv H5 nv (by decide +kernel) (by decide +kernel) (fun H6 s6 => ⟨_, rfl, ?_⟩) p hp⟩
        exact ⟨(s4.trans s5).trans s6, _, _, _, _, _, rfl⟩
      | 4, hy =>
        cases hy
        refine ⟨q5, _, rfl, .inl (.inl (s4 _ _ f5)), rfl, _, _, rfl, _, _, rfl, _, _, rfl, _, _, rfl, rfl, ?_⟩
        refine ⟨_, rfl, _, rfl, _, rfl, "product", rowv, bentv, .lst (ps.map ofR), db, rfl, i1.up u4, i2.up u4, .inr (.inr ⟨rfl, fun z => no1 z, fun _ _ xv H5 s5 nv => ?_, fun _ z => noB z, fun _ z => noB z⟩)⟩
        refine ⟨_, rfl, _, rfl, (by decide : 2 ≤ sizeLine), fun p hp => cmp "other" xv H5 nv (by decide +kernel) (by decide +kernel) (fun H6 s6 => ⟨_, rfl, ?_⟩) p hp⟩
        exact ⟨(s4.trans s5).trans s6, _, _, _, _, _, rfl⟩
      | i + 5, hy => simp at hy
    · rintro σ' H4 ⟨s4, t4, t5, t6, t7, t8, rfl⟩
      have u4 : Same H3 H4 := sG.trans s4
      refine dr_asg (dr_op0 dr_cI (dr_reach rfl (by decide) (by decide))) (l3.more u4) (J3.up u4) (by omega) fun mv dm H5 k5 l5 J5 h5 p5 => ?_
      obtain ⟨many, rfl, a, b, rfl, ⟨b0, b1⟩, em⟩ := p5
      cases h5
      have m0 : 1 ≤ many := by omega
      have m1 : many ≤ 25 := by omega
      refine ⟨(by decide : 1 ≤ sizeLine), fun ql hql => ⟨_, rfl, ql, many, [.int 1], rfl, rfl, upd_same, by omega, by omega, ?_, fun D hD => ?_⟩⟩
      · exact Nat.le_trans (show 1 * many.toNat ≤ 100 by omega) (by decide)
      have kA : Keep j H H4 := ((k1.trans k2).trans k3).trans (Same.keep u4)
      have lql := l5.more (Same.new (o := .lst [V.int 1]) hql)
      have isL : Is (mn S (upd (upd H5 ql (.lst [V.int 1])) D (.lst (List.replicate many.toNat [V.int 1]).flatten))) (.ref D) (.lst ((List.replicate many.toNat (1 : Rat)).map ofR)) := by
        rw [← rep_one]
        exact .lst (mn_put lql hD) (isAll_rep (.cons (.int 1) .nil) _)
      have u6 : Same H5 (upd (upd H5 ql (.lst [V.int 1])) D (.lst (List.replicate many.toNat [V.int 1]).flatten)) := (Same.new hql).trans (Same.new hD)
      have l6 := l5.more u6
      have J6 := J5.up u6
      have k6 : Keep j H (upd (upd H5 ql (.lst [V.int 1])) D (.lst (List.replicate many.toNat [V.int 1]).flatten)) := (kA.trans k5).trans (Same.keep u6)
      generalize upd (upd H5 ql (.lst [V.int 1])) D (.lst (List.replicate many.toNat [V.int 1]).flatten) = H6 at isL u6 l6 J6 k6 ⊢
      refine ⟨_, rfl, _, _, rfl, rfl, 26 - many, rfl, by omega, by omega, fun D2 hD2 => ?_⟩
      have SD2 : S D2 = false := by
        cases q : S D2 with
        | false => rfl
        | true => exact absurd hD2 (l6 D2 q)
      have Dj : D2 ≠ j := J6.new hD2
      have Db : D2 ≠ bk := J6.newB hD2
      have hW : wth S D2 j = true := wth_sub hS
      have s0 : Same H6 (upd H6 D2 (.lst [])) := Same.new hD2
      refine lc_it walk_range (fun i H' => Keep j H6 H' ∧ Live S H' ∧ Jar j bk H' (n + 101 + 1 + 1 + 1 + i) ∧ ∃ (vals : List V) (qs : List Rat), H' D2 = some (.lst vals) ∧ IsAll (mn (wth S D2) H') vals (qs.map ofR) ∧ qs.length = i ∧ ∀ q ∈ qs, Sz 5 q) ?_ (fun _ _ _ _ => trivial) ?_ ?_
      · exact ⟨Same.keep s0, l6.more s0, (J6.up s0).le (by omega), [], [], upd_same, .nil, rfl, fun q hq => by cases hq⟩
      · rintro i y H7 H7' hi ⟨k7, l7, J7, vals, qs, hv, ha, hl, hz⟩ ⟨rfl, rfl⟩
        have lW : Live (wth S D2) H7' := wth_live l7 hv
        have il : i < 26 := by omega
        refine ⟨rfl, ?_⟩
        refine dr_pickE (S := wth S D2) (ds := [.int 1, .int 2, .int (-1)]) hW rfl (drA_consE hW dr_int (drA_consE hW dr_int (drA_consE hW dr_neg drA_nil))) (by decide) (by decide) H7' _ _ (Keep.refl _) lW J7 (by omega) fun v d H8 k8 l8 J8 h8 p8 => ?_
        obtain ⟨z, rfl, hz5⟩ : ∃ q, d = ofR q ∧ Sz 5 q := by
          simp only [List.mem_cons, List.not_mem_nil, or_false] at p8
          rcases p8 with rfl | rfl | rfl
          · exact ⟨((1 : Int) : Rat), (ofR_int _).symm, sz_small (by decide)⟩
          · exact ⟨((2 : Int) : Rat), (ofR_int _).symm, sz_small (by decide)⟩
          · exact ⟨((-1 : Int) : Rat), (ofR_int _).symm, sz_small (by decide)⟩
        refine ⟨vals, k8 D2 _ Dj hv, by rw [ha.length, List.length_map, hl]; exact Nat.lt_of_lt_of_le (show i < 100 by omega) (by decide), fun b o bj hb => ?_, fun b hb => ?_, (J8.put Dj Db).le (by omega), _, qs ++ [z], upd_same, ?_, by rw [List.length_append, hl]; rfl, fun x hx => ?_⟩
        · have bD : b ≠ D2 := fun z => by rw [z, hD2] at hb; cases hb
          rw [upd_ne bD]
          exact (k7.trans k8) b o bj hb
        · have bD : b ≠ D2 := fun z => by rw [z, SD2] at hb; cases hb
          rw [upd_ne bD]
          exact l8 b (wth_sub hb)
        · rw [List.map_append]
          exact ((ha.up (k8.less hW)).snoc h8).up wth_put
        · rcases List.mem_append.mp hx with w | w
          · exact hz x w
          · rw [List.mem_singleton.mp w]
            exact hz5
      · rintro H7 ⟨k7, l7, J7, vals, qs, hv, ha, hl, hz⟩
        have isM : Is (mn S H7) (.ref D2) (.lst (qs.map ofR)) := .lst (by rw [mn_at SD2]; exact hv) (ha.up (mn_mono fun b hb => wth_sub hb))
        have isL7 := (isL.up (k7.less hS)).up mn_same
        have isM7 := isM.up mn_same
        have kF : Keep j H H7 := k6.trans k7
        have JF : Jar j bk H7 (n + 140) := J7.le (by omega)
        obtain ⟨L, eL⟩ : ∃ L, L = List.replicate many.toNat (1 : Rat) := ⟨_, rfl⟩
        have lL : L.length = many.toNat := by rw [eL, List.length_replicate]
        have szL : ∀ x ∈ L, Sz 1 x := fun x hx => by
          rw [eL] at hx
          rw [List.eq_of_mem_replicate hx]
          exact sz_one
        rw [← eL] at isL7
        have lM : qs.length = 26 - many.toNat := by omega
        obtain ⟨_, RL, _, rL⟩ := isRow_rats (l := L) (by omega) (by omega)
        obtain ⟨_, RM, _, rM⟩ := isRow_rats (l := qs) (by omega) (by omega)
        have noL : ∀ {P : Prop}, isRow (.lst (L.map ofR)) = false → P := fun z => by rw [RL] at z; cases z
        have noM : ∀ {P : Prop}, isRow (.lst (qs.map ofR)) = false → P := fun z => by rw [RM] at z; cases z
        have iL : (items (.lst (L.map ofR))).length = many.toNat := by show (L.map ofR).length = _; rw [List.length_map, lL]
        have iM : (items (.lst (qs.map ofR))).length = 26 - many.toNat := by show (qs.map ofR).length = _; rw [List.length_map, lM]
        have fit : FitP L qs := ⟨1, 5, by decide, by decide, szL, hz, by rw [lL]; omega⟩
        have szC := conv_sz szL hz (by omega)
        have shC := shaped_rats (conv L qs)
        have nmC := (row_show (d := .tup ((conv L qs).map ofR)) rfl (fun e he => by
          obtain ⟨q, _, rfl⟩ := List.mem_map.mp he
          exact ofR_num q) (fun e he => by
          obtain ⟨q, hq, rfl⟩ := List.mem_map.mp he
          exact Sz.nb (ofR_num q) (by rw [rt_ofR]; exact (szC q hq).more (by rw [lL]; omega)))).1
        refine ⟨_, _, rfl, ?_⟩
        refine ⟨_, rfl, _, rfl, "product", .ref D, .ref D2, .lst (L.map ofR), .lst (qs.map ofR), rfl, isL7, isM7, .inr (.inr ⟨rfl, fun z => noL z, fun _ z => noM z, fun _ _ z => absurd z (by omega), fun _ _ _ => ⟨by rw [rL, rM]; exact fit, fun xv H8 s8 nv => ?_⟩⟩)⟩
        rw [rL, rM] at nv
        refine ⟨_, rfl, _, rfl, .ref D, .ref D2, L, qs, rfl, isL7.up s8, isM7.up s8, by omega, by omega, by omega, by omega, fit, fun yv H9 s9 n9 => ?_⟩
        obtain ⟨a9, xs9, rfl, h9, len9, all9⟩ := n9.is.rats
        refine ⟨a9, xs9, rfl, .inl ⟨.inl (.inl h9), fun r hr => ?_⟩⟩
        have s10 := (s8.trans s9).trans (Same.new hr (o := .tup xs9))
        refine ⟨_, _, Is.dp (.tup ((conv L qs).map ofR)) _ ((nv.up s9).is.up (Same.new hr)) nmC, Is.dp (.tup ((conv L qs).map ofR)) _ (.tup upd_same (all9.up (Same.new hr))) nmC, shC.1, shC.1, _, rfl, iteN (fun z => nomatch (shC.2.2.1.symm.trans z)) fun _ => ?_⟩
        generalize upd H9 r (.tup xs9) = H10 at s10 ⊢
        have isL10 := isL7.up s10
        have isM10 := isM7.up s10
        obtain ⟨_, xl, eD, hxl, lenl, alll⟩ := isL10.rats
        cases eD
        obtain ⟨_, xm, eD2, hxm, lenm, allm⟩ := isM10.rats
        cases eD2
        have z0 : IsAll H10 [V.int 0] ([(0 : Rat)].map ofR) := by
          show IsAll H10 [V.int 0] [ofR 0]
          rw [ofR_zero]
          exact .cons (.int 0) .nil
        refine ⟨_, rfl, rfl, _, rfl, iteD (fun c => ?_) fun c => ?_⟩
        · have c' := int_eq c
          subst c'
          refine ⟨_, rfl, (by decide : 1 ≤ sizeLine), fun r1 hr1 => ⟨D, r1, xl, [V.int 0], rfl, rfl, Same.new hr1 _ _ hxl, upd_same, by rw [lenl]; exact Nat.le_trans (show L.length + 1 ≤ 100 by omega) (by decide), fun r2 hr2 => ?_⟩⟩
          have u2 := (Same.new hr1 (o := .lst [V.int 0])).trans (Same.new hr2 (o := .lst (xl ++ [V.int 0])))
          have e2 : (upd (upd H10 r1 (.lst [V.int 0])) r2 (.lst (xl ++ [V.int 0]))) r2 = some (.lst (xl ++ [V.int 0])) := upd_same
          generalize upd (upd H10 r1 (.lst [V.int 0])) r2 (.lst (xl ++ [V.int 0])) = H12 at u2 e2 ⊢
          refine ⟨_, rfl, (by decide : 1 ≤ sizeLine), fun r3 hr3 => ⟨_, rfl, rfl, .inr ⟨_, rfl, r3, _, [V.int 0], rfl, rfl, upd_same, by decide, by decide, by decide, fun r4 hr4 => ?_⟩⟩⟩
          have u4 := (Same.new hr3 (o := .lst [V.int 0])).trans (Same.new hr4 (o := .lst (List.replicate (Int.toNat (if decide (V.int 25 = V.int 25) = true then 1 else 0)) [V.int 0]).flatten))
          refine ⟨D2, r4, xm, _, rfl, rfl, u4 _ _ (u2 _ _ hxm), upd_same, by rw [lenm]; exact Nat.le_trans (show qs.length + 1 ≤ 100 by omega) (by decide), fun r5 hr5 => ?_⟩
          have u5 := u4.trans (Same.new hr5 (o := .lst (xm ++ (List.replicate (Int.toNat (if decide (V.int 25 = V.int 25) = true then 1 else 0)) [V.int 0]).flatten)))
          refine ⟨"product", .ref r2, .ref r5, .lst (L.map ofR ++ [(0 : Rat)].map ofR), .lst (qs.map ofR ++ [(0 : Rat)].map ofR), rfl, .lst (u5 _ _ e2) (((isAll_app alll z0).up u2).up u5), .lst upd_same (((isAll_app allm z0).up u2).up u5), .inr (.inr ⟨rfl, fun _ xv H14 s14 nv14 => ?_, fun z => ?_, fun z => ?_, fun z => ?_⟩)⟩
          · refine ⟨(by decide : 2 ≤ sizeLine), fun p hp => ⟨pd (numb "one"), pd (numb "one"), Is.dp (numb "one") _ (nv14.is.up (Same.new hp)) rfl, Is.dp (numb "one") _ (.tup upd_same (.cons (.str _) (.cons (.str _) .nil))) rfl, by decide +kernel, by decide +kernel, ?_⟩⟩
            have ee : PyData.eqv (pd (numb "one")) (pd (numb "one")) = true := by decide +kernel
            rw [ee]
            have sF := (((s10.trans u2).trans u5).trans s14).trans (Same.new hp (o := .tup [V.str "number", V.str "one"]))
            exact k _ (kF.trans (Same.keep sF)) (l7.more sF) (JF.up sF)
          all_goals
            have big : (items (.lst (L.map ofR ++ [(0 : Rat)].map ofR))).length = 26 := by
              show (L.map ofR ++ [(0 : Rat)].map ofR).length = 26
              rw [List.length_append, List.length_map, lL]
              rfl
            have q := row_of z
            omega
        · have c' := int_ne c
          refine ⟨_, rfl, (by decide : 1 ≤ sizeLine), fun r1 hr1 => ⟨D, r1, xl, [V.int 0], rfl, rfl, Same.new hr1 _ _ hxl, upd_same, by rw [lenl]; exact Nat.le_trans (show L.length + 1 ≤ 100 by omega) (by decide), fun r2 hr2 => ?_⟩⟩
          have u2 := (Same.new hr1 (o := .lst [V.int 0])).trans (Same.new hr2 (o := .lst (xl ++ [V.int 0])))
          have e2 : (upd (upd H10 r1 (.lst [V.int 0])) r2 (.lst (xl ++ [V.int 0]))) r2 = some (.lst (xl ++ [V.int 0])) := upd_same
          generalize upd (upd H10 r1 (.lst [V.int 0])) r2 (.lst (xl ++ [V.int 0])) = H12 at u2 e2 ⊢
          have aL : L.map ofR ++ [(0 : Rat)].map ofR = (L ++ [0]).map ofR := by rw [List.map_append]
          have isX : Is H12 (.ref r2) (.lst ((L ++ [0]).map ofR)) := by
            rw [← aL]
            exact .lst e2 ((isAll_app alll z0).up u2)
          obtain ⟨_, RX, _, rX⟩ := isRow_rats (l := L ++ [0]) (by rw [List.length_append]; show 1 ≤ _ + 1; omega) (by rw [List.length_append, lL]; show many.toNat + 1 ≤ 25; omega)
          have iX : (items (.lst ((L ++ [0]).map ofR))).length = many.toNat + 1 := by show ((L ++ [0]).map ofR).length = _; rw [List.length_map, List.length_append, lL]; rfl
          refine ⟨_, rfl, "product", .ref r2, .ref D2, .lst ((L ++ [0]).map ofR), .lst (qs.map ofR), rfl, isX, isM10.up u2, .inr (.inr ⟨rfl, fun z => ?_, fun _ z => noM z, fun _ _ _ xv H14 s14 nv14 => ?_, fun _ _ z => absurd z (by omega)⟩)⟩
          · rw [RX] at z
            cases z
          · refine ⟨(by decide : 3 ≤ sizeLine), fun p hp => ⟨pd manyD, pd manyD, Is.dp manyD _ (nv14.is.up (Same.new hp)) (by decide +kernel), Is.dp manyD _ (.tup upd_same (.cons (.str _) (.cons (.str _) (.cons (.int _) .nil)))) (by decide +kernel), by decide +kernel, by decide +kernel, ?_⟩⟩
            have ee : PyData.eqv (pd manyD) (pd manyD) = true := by decide +kernel
            rw [ee]
            have sF := ((s10.trans u2).trans s14).trans (Same.new hp (o := .tup [V.str "many", V.str "numbers", V.int 25]))
            exact k _ (kF.trans (Same.keep sF)) (l7.more sF) (JF.up sF)
theorem ok_law (T : Txt K mg) : FnG P w K mg base CX0 9 T.a_law T.d_law ["script"] (spLaw K) := by
  have G_law_vat := ok_law_vat (P := P) (w := w) (base := base) T
  have G_law_rows_right := ok_law_rows_right (P := P) (w := w) (base := base) T
  have G_law_refused_right := ok_law_refused_right (P := P) (w := w) (base := base) T
  refine Ty.Fun.okG T.F_law sc_law (fun vs H Q E h => ?_) (fun cdv A outer s H vs Q E hgd hr h => ?_)
  · obtain ⟨a, ns, rfl, _⟩ := h
    rfl
  · obtain ⟨a, ns, rfl, hsq, hlen, k⟩ := h
    refine ⟨_, (pss_cons (ps_set (i := 1) sc_law.nd rfl (Or.inl rfl) (pe_call G_law_vat (hr.mono (by decide)) (by rfl) T.m_law_vat T.F_law_vat.kp (b_law_vat T) .nil pass0 (pa_cons (pv 0) pa_nil)))
      (pss_cons (ps_for PassesOwn.never rfl (pi_range1 (by rfl) T.z_range (pa_cons pe_int pa_nil)) (pg_name (i := 2) sc_law.nd rfl (Or.inl rfl)) (pss_one (ps_if (PW.pt (pw_or (pt_not (pt_val (pe_callG hgd G_law_rows_right (hr.mono (by decide)) (by rfl) T.m_law_rows_right T.F_law_rows_right.kp (b_law_rows_right T) .nil pass0 (pa_cons (pv 1) pa_nil)))) (pw_or1 (pt_not (pt_val (pe_call G_law_refused_right (hr.mono (by decide)) (by rfl) T.m_law_refused_right T.F_law_refused_right.kp (b_law_refused_right T) .nil pass0 (pa_cons (pv 1) pa_nil))))))) (pss_one (ps_ret pe_bl)) pss_nil)))
      (pss_one (ps_ret pe_bl)))), ?_⟩
    refine ⟨_, rfl, a, ns, rfl, hsq, by omega, fun j bk H1 s1 hj hb J1 => ?_⟩
    have hS : only j j = true := only_self
    refine ⟨3, rfl, by decide, by decide, for_range (n := 3) (fun i σ H' => Jar j bk H' (440 * i) ∧ ∃ s2 : Option V, σ = [some (.ref a), some (.ref j), s2]) ⟨J1, none, rfl⟩ ?_ ?_⟩
    · rintro i σ H2 hi ⟨J2, s2, rfl⟩
      refine ⟨_, rfl, only j, j, bk, 440 * i, rfl, hS, only_live J2, J2, by omega, fun H3 k3 l3 J3 => ⟨_, rfl, iteN (fun z => nomatch z) fun _ => ?_⟩⟩
      refine ⟨_, rfl, only j, j, bk, 440 * i + 300, rfl, hS, l3, J3, by omega, fun H4 k4 l4 J4 => ⟨_, rfl, iteN (fun z => nomatch z) fun _ => ?_⟩⟩
      exact ⟨J4.le (by omega), _, rfl⟩
    · rintro σ H2 ⟨J2, s2, rfl⟩
      exact k H2
end
end Ty

namespace Ty
open PySem PySem.Spec PyProof.Rows L2
/-! what the top has written, and the end -/
theorem all_mk {l : PySem.W.OpenLaw} {w : World} {K : PySem.W.Frag} {h : Heap} {mg : Str → Option Value} {fa : Addr} (X : K.In h) (G : h.Ns mainGlobals mg) (hfa : mg "law" = some (.ref fa))
  {a_parts_of : Addr} {oc_parts_of kV_parts_of dc_parts_of pm_parts_of cd_parts_of ct_parts_of : Value} {od_parts_of an_parts_of : Option Addr} {sl_parts_of : Array (Option Value)}
  {a_number_of : Addr} {oc_number_of kV_number_of dc_number_of pm_number_of cd_number_of ct_number_of : Value} {od_number_of an_number_of : Option Addr} {sl_number_of : Array (Option Value)}
  {a_sum_of : Addr} {oc_sum_of kV_sum_of dc_sum_of pm_sum_of cd_sum_of ct_sum_of : Value} {od_sum_of an_sum_of : Option Addr} {sl_sum_of : Array (Option Value)}
  {a_product_of : Addr} {oc_product_of kV_product_of dc_product_of pm_product_of cd_product_of ct_product_of : Value} {od_product_of an_product_of : Option Addr} {sl_product_of : Array (Option Value)}
  {a_is_list : Addr} {oc_is_list kV_is_list dc_is_list pm_is_list cd_is_list ct_is_list : Value} {od_is_list an_is_list : Option Addr} {sl_is_list : Array (Option Value)}
  {a_is_integer : Addr} {oc_is_integer kV_is_integer dc_is_integer pm_is_integer cd_is_integer ct_is_integer : Value} {od_is_integer an_is_integer : Option Addr} {sl_is_integer : Array (Option Value)}
  {a_is_within : Addr} {oc_is_within kV_is_within dc_is_within pm_is_within cd_is_within ct_is_within : Value} {od_is_within an_is_within : Option Addr} {sl_is_within : Array (Option Value)}
  {a_is_number : Addr} {oc_is_number kV_is_number dc_is_number pm_is_number cd_is_number ct_is_number : Value} {od_is_number an_is_number : Option Addr} {sl_is_number : Array (Option Value)}
  {a_need_number : Addr} {oc_need_number kV_need_number dc_need_number pm_need_number cd_need_number ct_need_number : Value} {od_need_number an_need_number : Option Addr} {sl_need_number : Array (Option Value)}
  {a_value_at : Addr} {oc_value_at kV_value_at dc_value_at pm_value_at cd_value_at ct_value_at : Value} {od_value_at an_value_at : Option Addr} {sl_value_at : Array (Option Value)}
  {a_slope_row : Addr} {oc_slope_row kV_slope_row dc_slope_row pm_slope_row cd_slope_row ct_slope_row : Value} {od_slope_row an_slope_row : Option Addr} {sl_slope_row : Array (Option Value)}
  {a_row_product : Addr} {oc_row_product kV_row_product dc_row_product pm_row_product cd_row_product ct_row_product : Value} {od_row_product an_row_product : Option Addr} {sl_row_product : Array (Option Value)}
  {a_need_row : Addr} {oc_need_row kV_need_row dc_need_row pm_need_row cd_need_row ct_need_row : Value} {od_need_row an_need_row : Option Addr} {sl_need_row : Array (Option Value)}
  {a_law_vat : Addr} {oc_law_vat kV_law_vat dc_law_vat pm_law_vat cd_law_vat ct_law_vat : Value} {od_law_vat an_law_vat : Option Addr} {sl_law_vat : Array (Option Value)}
  {a_law_tap : Addr} {oc_law_tap kV_law_tap dc_law_tap pm_law_tap cd_law_tap ct_law_tap : Value} {od_law_tap an_law_tap : Option Addr} {sl_law_tap : Array (Option Value)}
  {a_law_one : Addr} {oc_law_one kV_law_one dc_law_one pm_law_one cd_law_one ct_law_one : Value} {od_law_one an_law_one : Option Addr} {sl_law_one : Array (Option Value)}
  {a_law_common : Addr} {oc_law_common kV_law_common dc_law_common pm_law_common cd_law_common ct_law_common : Value} {od_law_common an_law_common : Option Addr} {sl_law_common : Array (Option Value)}
  {a_law_lowest : Addr} {oc_law_lowest kV_law_lowest dc_law_lowest pm_law_lowest cd_law_lowest ct_law_lowest : Value} {od_law_lowest an_law_lowest : Option Addr} {sl_law_lowest : Array (Option Value)}
  {a_law_ends : Addr} {oc_law_ends kV_law_ends dc_law_ends pm_law_ends cd_law_ends ct_law_ends : Value} {od_law_ends an_law_ends : Option Addr} {sl_law_ends : Array (Option Value)}
  {a_law_plus : Addr} {oc_law_plus kV_law_plus dc_law_plus pm_law_plus cd_law_plus ct_law_plus : Value} {od_law_plus an_law_plus : Option Addr} {sl_law_plus : Array (Option Value)}
  {a_law_times : Addr} {oc_law_times kV_law_times dc_law_times pm_law_times cd_law_times ct_law_times : Value} {od_law_times an_law_times : Option Addr} {sl_law_times : Array (Option Value)}
  {a_law_number : Addr} {oc_law_number kV_law_number dc_law_number pm_law_number cd_law_number ct_law_number : Value} {od_law_number an_law_number : Option Addr} {sl_law_number : Array (Option Value)}
  {a_law_row : Addr} {oc_law_row kV_law_row dc_law_row pm_law_row cd_law_row ct_law_row : Value} {od_law_row an_law_row : Option Addr} {sl_law_row : Array (Option Value)}
  {a_law_told : Addr} {oc_law_told kV_law_told dc_law_told pm_law_told cd_law_told ct_law_told : Value} {od_law_told an_law_told : Option Addr} {sl_law_told : Array (Option Value)}
  {a_law_value : Addr} {oc_law_value kV_law_value dc_law_value pm_law_value cd_law_value ct_law_value : Value} {od_law_value an_law_value : Option Addr} {sl_law_value : Array (Option Value)}
  {a_law_slope : Addr} {oc_law_slope kV_law_slope dc_law_slope pm_law_slope cd_law_slope ct_law_slope : Value} {od_law_slope an_law_slope : Option Addr} {sl_law_slope : Array (Option Value)}
  {a_law_product : Addr} {oc_law_product kV_law_product dc_law_product pm_law_product cd_law_product ct_law_product : Value} {od_law_product an_law_product : Option Addr} {sl_law_product : Array (Option Value)}
  {a_law_ask : Addr} {oc_law_ask kV_law_ask dc_law_ask pm_law_ask cd_law_ask ct_law_ask : Value} {od_law_ask an_law_ask : Option Addr} {sl_law_ask : Array (Option Value)}
  {a_law_heard : Addr} {oc_law_heard kV_law_heard dc_law_heard pm_law_heard cd_law_heard ct_law_heard : Value} {od_law_heard an_law_heard : Option Addr} {sl_law_heard : Array (Option Value)}
  {a_law_rows_right : Addr} {oc_law_rows_right kV_law_rows_right dc_law_rows_right pm_law_rows_right cd_law_rows_right ct_law_rows_right : Value} {od_law_rows_right an_law_rows_right : Option Addr} {sl_law_rows_right : Array (Option Value)}
  {a_law_refused_right : Addr} {oc_law_refused_right kV_law_refused_right dc_law_refused_right pm_law_refused_right cd_law_refused_right ct_law_refused_right : Value} {od_law_refused_right an_law_refused_right : Option Addr} {sl_law_refused_right : Array (Option Value)}
  {a_law : Addr} {oc_law kV_law dc_law pm_law cd_law ct_law : Value} {od_law an_law : Option Addr} {sl_law : Array (Option Value)}
  {t_MOST_NUMBERS : Tok}
  {c_CurveError : Addr}
  {c_BadNumber : Addr}
  {c_TooMany : Addr}
  {nm_BadNumber qn_BadNumber : Str} {NS_BadNumber i_BadNumber : Addr} {bs_BadNumber bm_BadNumber sb_BadNumber : List Value} {sn_BadNumber : List Str} {ab_BadNumber : Bool} {col_BadNumber : Option Bool} {dd_BadNumber : Option Addr} {k0_BadNumber k1_BadNumber k2_BadNumber k3_BadNumber k5_BadNumber : Option Value} {oc_iBadNumber kV_iBadNumber dc_iBadNumber pm_iBadNumber cd_iBadNumber ct_iBadNumber : Value} {od_iBadNumber an_iBadNumber : Option Addr} {sl_iBadNumber : Array (Option Value)}
  {nm_TooMany qn_TooMany : Str} {NS_TooMany i_TooMany : Addr} {bs_TooMany bm_TooMany sb_TooMany : List Value} {sn_TooMany : List Str} {ab_TooMany : Bool} {col_TooMany : Option Bool} {dd_TooMany : Option Addr} {k0_TooMany k1_TooMany k2_TooMany k3_TooMany k5_TooMany : Option Value} {oc_iTooMany kV_iTooMany dc_iTooMany pm_iTooMany cd_iTooMany ct_iTooMany : Value} {od_iTooMany an_iTooMany : Option Addr} {sl_iTooMany : Array (Option Value)}
  (n_parts_of : PySem.W.nsIn K mainGlobals "parts_of" = some (some (.ref a_parts_of)))
  (l_parts_of : K.lookup a_parts_of = some ⟨oc_parts_of, od_parts_of, .func (PySem.W.fnOf "parts_of" "parts_of" (defArgs s_parts_of) (defBody s_parts_of) (defScope s_parts_of) .none kV_parts_of dc_parts_of pm_parts_of an_parts_of cd_parts_of ct_parts_of), sl_parts_of⟩)
  (c_parts_of : PySem.W.codeIn K cd_parts_of "parts_of" = true)
  (k_parts_of : PySem.W.keepIn K (.ref a_parts_of) = true)
  (n_number_of : PySem.W.nsIn K mainGlobals "number_of" = some (some (.ref a_number_of)))
  (l_number_of : K.lookup a_number_of = some ⟨oc_number_of, od_number_of, .func (PySem.W.fnOf "number_of" "number_of" (defArgs s_number_of) (defBody s_number_of) (defScope s_number_of) .none kV_number_of dc_number_of pm_number_of an_number_of cd_number_of ct_number_of), sl_number_of⟩)
  (c_number_of : PySem.W.codeIn K cd_number_of "number_of" = true)
  (k_number_of : PySem.W.keepIn K (.ref a_number_of) = true)
  (n_sum_of : PySem.W.nsIn K mainGlobals "sum_of" = some (some (.ref a_sum_of)))
  (l_sum_of : K.lookup a_sum_of = some ⟨oc_sum_of, od_sum_of, .func (PySem.W.fnOf "sum_of" "sum_of" (defArgs s_sum_of) (defBody s_sum_of) (defScope s_sum_of) .none kV_sum_of dc_sum_of pm_sum_of an_sum_of cd_sum_of ct_sum_of), sl_sum_of⟩)
  (c_sum_of : PySem.W.codeIn K cd_sum_of "sum_of" = true)
  (k_sum_of : PySem.W.keepIn K (.ref a_sum_of) = true)
  (n_product_of : PySem.W.nsIn K mainGlobals "product_of" = some (some (.ref a_product_of)))
  (l_product_of : K.lookup a_product_of = some ⟨oc_product_of, od_product_of, .func (PySem.W.fnOf "product_of" "product_of" (defArgs s_product_of) (defBody s_product_of) (defScope s_product_of) .none kV_product_of dc_product_of pm_product_of an_product_of cd_product_of ct_product_of), sl_product_of⟩)
  (c_product_of : PySem.W.codeIn K cd_product_of "product_of" = true)
  (k_product_of : PySem.W.keepIn K (.ref a_product_of) = true)
  (n_is_list : PySem.W.nsIn K mainGlobals "is_list" = some (some (.ref a_is_list)))
  (l_is_list : K.lookup a_is_list = some ⟨oc_is_list, od_is_list, .func (PySem.W.fnOf "is_list" "is_list" (defArgs s_is_list) (defBody s_is_list) (defScope s_is_list) .none kV_is_list dc_is_list pm_is_list an_is_list cd_is_list ct_is_list), sl_is_list⟩)
  (c_is_list : PySem.W.codeIn K cd_is_list "is_list" = true)
  (k_is_list : PySem.W.keepIn K (.ref a_is_list) = true)
  (n_is_integer : PySem.W.nsIn K mainGlobals "is_integer" = some (some (.ref a_is_integer)))
  (l_is_integer : K.lookup a_is_integer = some ⟨oc_is_integer, od_is_integer, .func (PySem.W.fnOf "is_integer" "is_integer" (defArgs s_is_integer) (defBody s_is_integer) (defScope s_is_integer) .none kV_is_integer dc_is_integer pm_is_integer an_is_integer cd_is_integer ct_is_integer), sl_is_integer⟩)
  (c_is_integer : PySem.W.codeIn K cd_is_integer "is_integer" = true)
  (k_is_integer : PySem.W.keepIn K (.ref a_is_integer) = true)
  (n_is_within : PySem.W.nsIn K mainGlobals "is_within" = some (some (.ref a_is_within)))
  (l_is_within : K.lookup a_is_within = some ⟨oc_is_within, od_is_within, .func (PySem.W.fnOf "is_within" "is_within" (defArgs s_is_within) (defBody s_is_within) (defScope s_is_within) .none kV_is_within dc_is_within pm_is_within an_is_within cd_is_within ct_is_within), sl_is_within⟩)
  (c_is_within : PySem.W.codeIn K cd_is_within "is_within" = true)
  (k_is_within : PySem.W.keepIn K (.ref a_is_within) = true)
  (n_is_number : PySem.W.nsIn K mainGlobals "is_number" = some (some (.ref a_is_number)))
  (l_is_number : K.lookup a_is_number = some ⟨oc_is_number, od_is_number, .func (PySem.W.fnOf "is_number" "is_number" (defArgs s_is_number) (defBody s_is_number) (defScope s_is_number) .none kV_is_number dc_is_number pm_is_number an_is_number cd_is_number ct_is_number), sl_is_number⟩)
  (c_is_number : PySem.W.codeIn K cd_is_number "is_number" = true)
  (k_is_number : PySem.W.keepIn K (.ref a_is_number) = true)
  (n_need_number : PySem.W.nsIn K mainGlobals "need_number" = some (some (.ref a_need_number)))
  (l_need_number : K.lookup a_need_number = some ⟨oc_need_number, od_need_number, .func (PySem.W.fnOf "need_number" "need_number" (defArgs s_need_number) (defBody s_need_number) (defScope s_need_number) .none kV_need_number dc_need_number pm_need_number an_need_number cd_need_number ct_need_number), sl_need_number⟩)
  (c_need_number : PySem.W.codeIn K cd_need_number "need_number" = true)
  (k_need_number : PySem.W.keepIn K (.ref a_need_number) = true)
  (n_value_at : PySem.W.nsIn K mainGlobals "value_at" = some (some (.ref a_value_at)))
  (l_value_at : K.lookup a_value_at = some ⟨oc_value_at, od_value_at, .func (PySem.W.fnOf "value_at" "value_at" (defArgs s_value_at) (defBody s_value_at) (defScope s_value_at) .none kV_value_at dc_value_at pm_value_at an_value_at cd_value_at ct_value_at), sl_value_at⟩)
  (c_value_at : PySem.W.codeIn K cd_value_at "value_at" = true)
  (k_value_at : PySem.W.keepIn K (.ref a_value_at) = true)
  (n_slope_row : PySem.W.nsIn K mainGlobals "slope_row" = some (some (.ref a_slope_row)))
  (l_slope_row : K.lookup a_slope_row = some ⟨oc_slope_row, od_slope_row, .func (PySem.W.fnOf "slope_row" "slope_row" (defArgs s_slope_row) (defBody s_slope_row) (defScope s_slope_row) .none kV_slope_row dc_slope_row pm_slope_row an_slope_row cd_slope_row ct_slope_row), sl_slope_row⟩)
  (c_slope_row : PySem.W.codeIn K cd_slope_row "slope_row" = true)
  (k_slope_row : PySem.W.keepIn K (.ref a_slope_row) = true)
  (n_row_product : PySem.W.nsIn K mainGlobals "row_product" = some (some (.ref a_row_product)))
  (l_row_product : K.lookup a_row_product = some ⟨oc_row_product, od_row_product, .func (PySem.W.fnOf "row_product" "row_product" (defArgs s_row_product) (defBody s_row_product) (defScope s_row_product) .none kV_row_product dc_row_product pm_row_product an_row_product cd_row_product ct_row_product), sl_row_product⟩)
  (c_row_product : PySem.W.codeIn K cd_row_product "row_product" = true)
  (k_row_product : PySem.W.keepIn K (.ref a_row_product) = true)
  (n_need_row : PySem.W.nsIn K mainGlobals "_need_row" = some (some (.ref a_need_row)))
  (l_need_row : K.lookup a_need_row = some ⟨oc_need_row, od_need_row, .func (PySem.W.fnOf "_need_row" "_need_row" (defArgs s_need_row) (defBody s_need_row) (defScope s_need_row) .none kV_need_row dc_need_row pm_need_row an_need_row cd_need_row ct_need_row), sl_need_row⟩)
  (c_need_row : PySem.W.codeIn K cd_need_row "_need_row" = true)
  (k_need_row : PySem.W.keepIn K (.ref a_need_row) = true)
  (n_law_vat : PySem.W.nsIn K mainGlobals "_law_vat" = some (some (.ref a_law_vat)))
  (l_law_vat : K.lookup a_law_vat = some ⟨oc_law_vat, od_law_vat, .func (PySem.W.fnOf "_law_vat" "_law_vat" (defArgs s_law_vat) (defBody s_law_vat) (defScope s_law_vat) .none kV_law_vat dc_law_vat pm_law_vat an_law_vat cd_law_vat ct_law_vat), sl_law_vat⟩)
  (c_law_vat : PySem.W.codeIn K cd_law_vat "_law_vat" = true)
  (k_law_vat : PySem.W.keepIn K (.ref a_law_vat) = true)
  (n_law_tap : PySem.W.nsIn K mainGlobals "_law_tap" = some (some (.ref a_law_tap)))
  (l_law_tap : K.lookup a_law_tap = some ⟨oc_law_tap, od_law_tap, .func (PySem.W.fnOf "_law_tap" "_law_tap" (defArgs s_law_tap) (defBody s_law_tap) (defScope s_law_tap) .none kV_law_tap dc_law_tap pm_law_tap an_law_tap cd_law_tap ct_law_tap), sl_law_tap⟩)
  (c_law_tap : PySem.W.codeIn K cd_law_tap "_law_tap" = true)
  (k_law_tap : PySem.W.keepIn K (.ref a_law_tap) = true)
  (n_law_one : PySem.W.nsIn K mainGlobals "_law_one" = some (some (.ref a_law_one)))
  (l_law_one : K.lookup a_law_one = some ⟨oc_law_one, od_law_one, .func (PySem.W.fnOf "_law_one" "_law_one" (defArgs s_law_one) (defBody s_law_one) (defScope s_law_one) .none kV_law_one dc_law_one pm_law_one an_law_one cd_law_one ct_law_one), sl_law_one⟩)
  (c_law_one : PySem.W.codeIn K cd_law_one "_law_one" = true)
  (k_law_one : PySem.W.keepIn K (.ref a_law_one) = true)
  (n_law_common : PySem.W.nsIn K mainGlobals "_law_common" = some (some (.ref a_law_common)))
  (l_law_common : K.lookup a_law_common = some ⟨oc_law_common, od_law_common, .func (PySem.W.fnOf "_law_common" "_law_common" (defArgs s_law_common) (defBody s_law_common) (defScope s_law_common) .none kV_law_common dc_law_common pm_law_common an_law_common cd_law_common ct_law_common), sl_law_common⟩)
  (c_law_common : PySem.W.codeIn K cd_law_common "_law_common" = true)
  (k_law_common : PySem.W.keepIn K (.ref a_law_common) = true)
  (n_law_lowest : PySem.W.nsIn K mainGlobals "_law_lowest" = some (some (.ref a_law_lowest)))
  (l_law_lowest : K.lookup a_law_lowest = some ⟨oc_law_lowest, od_law_lowest, .func (PySem.W.fnOf "_law_lowest" "_law_lowest" (defArgs s_law_lowest) (defBody s_law_lowest) (defScope s_law_lowest) .none kV_law_lowest dc_law_lowest pm_law_lowest an_law_lowest cd_law_lowest ct_law_lowest), sl_law_lowest⟩)
  (c_law_lowest : PySem.W.codeIn K cd_law_lowest "_law_lowest" = true)
  (k_law_lowest : PySem.W.keepIn K (.ref a_law_lowest) = true)
  (n_law_ends : PySem.W.nsIn K mainGlobals "_law_ends" = some (some (.ref a_law_ends)))
  (l_law_ends : K.lookup a_law_ends = some ⟨oc_law_ends, od_law_ends, .func (PySem.W.fnOf "_law_ends" "_law_ends" (defArgs s_law_ends) (defBody s_law_ends) (defScope s_law_ends) .none kV_law_ends dc_law_ends pm_law_ends an_law_ends cd_law_ends ct_law_ends), sl_law_ends⟩)
  (c_law_ends : PySem.W.codeIn K cd_law_ends "_law_ends" = true)
  (k_law_ends : PySem.W.keepIn K (.ref a_law_ends) = true)
  (n_law_plus : PySem.W.nsIn K mainGlobals "_law_plus" = some (some (.ref a_law_plus)))
  (l_law_plus : K.lookup a_law_plus = some ⟨oc_law_plus, od_law_plus, .func (PySem.W.fnOf "_law_plus" "_law_plus" (defArgs s_law_plus) (defBody s_law_plus) (defScope s_law_plus) .none kV_law_plus dc_law_plus pm_law_plus an_law_plus cd_law_plus ct_law_plus), sl_law_plus⟩)
  (c_law_plus : PySem.W.codeIn K cd_law_plus "_law_plus" = true)
  (k_law_plus : PySem.W.keepIn K (.ref a_law_plus) = true)
  (n_law_times : PySem.W.nsIn K mainGlobals "_law_times" = some (some (.ref a_law_times)))
  (l_law_times : K.lookup a_law_times = some ⟨oc_law_times, od_law_times, .func (PySem.W.fnOf "_law_times" "_law_times" (defArgs s_law_times) (defBody s_law_times) (defScope s_law_times) .none kV_law_times dc_law_times pm_law_times an_law_times cd_law_times ct_law_times), sl_law_times⟩)
  (c_law_times : PySem.W.codeIn K cd_law_times "_law_times" = true)
  (k_law_times : PySem.W.keepIn K (.ref a_law_times) = true)
  (n_law_number : PySem.W.nsIn K mainGlobals "_law_number" = some (some (.ref a_law_number)))
  (l_law_number : K.lookup a_law_number = some ⟨oc_law_number, od_law_number, .func (PySem.W.fnOf "_law_number" "_law_number" (defArgs s_law_number) (defBody s_law_number) (defScope s_law_number) .none kV_law_number dc_law_number pm_law_number an_law_number cd_law_number ct_law_number), sl_law_number⟩)
  (c_law_number : PySem.W.codeIn K cd_law_number "_law_number" = true)
  (k_law_number : PySem.W.keepIn K (.ref a_law_number) = true)
  (n_law_row : PySem.W.nsIn K mainGlobals "_law_row" = some (some (.ref a_law_row)))
  (l_law_row : K.lookup a_law_row = some ⟨oc_law_row, od_law_row, .func (PySem.W.fnOf "_law_row" "_law_row" (defArgs s_law_row) (defBody s_law_row) (defScope s_law_row) .none kV_law_row dc_law_row pm_law_row an_law_row cd_law_row ct_law_row), sl_law_row⟩)
  (c_law_row : PySem.W.codeIn K cd_law_row "_law_row" = true)
  (k_law_row : PySem.W.keepIn K (.ref a_law_row) = true)
  (n_law_told : PySem.W.nsIn K mainGlobals "_law_told" = some (some (.ref a_law_told)))
  (l_law_told : K.lookup a_law_told = some ⟨oc_law_told, od_law_told, .func (PySem.W.fnOf "_law_told" "_law_told" (defArgs s_law_told) (defBody s_law_told) (defScope s_law_told) .none kV_law_told dc_law_told pm_law_told an_law_told cd_law_told ct_law_told), sl_law_told⟩)
  (c_law_told : PySem.W.codeIn K cd_law_told "_law_told" = true)
  (k_law_told : PySem.W.keepIn K (.ref a_law_told) = true)
  (n_law_value : PySem.W.nsIn K mainGlobals "_law_value" = some (some (.ref a_law_value)))
  (l_law_value : K.lookup a_law_value = some ⟨oc_law_value, od_law_value, .func (PySem.W.fnOf "_law_value" "_law_value" (defArgs s_law_value) (defBody s_law_value) (defScope s_law_value) .none kV_law_value dc_law_value pm_law_value an_law_value cd_law_value ct_law_value), sl_law_value⟩)
  (c_law_value : PySem.W.codeIn K cd_law_value "_law_value" = true)
  (k_law_value : PySem.W.keepIn K (.ref a_law_value) = true)
  (n_law_slope : PySem.W.nsIn K mainGlobals "_law_slope" = some (some (.ref a_law_slope)))
  (l_law_slope : K.lookup a_law_slope = some ⟨oc_law_slope, od_law_slope, .func (PySem.W.fnOf "_law_slope" "_law_slope" (defArgs s_law_slope) (defBody s_law_slope) (defScope s_law_slope) .none kV_law_slope dc_law_slope pm_law_slope an_law_slope cd_law_slope ct_law_slope), sl_law_slope⟩)
  (c_law_slope : PySem.W.codeIn K cd_law_slope "_law_slope" = true)
  (k_law_slope : PySem.W.keepIn K (.ref a_law_slope) = true)
  (n_law_product : PySem.W.nsIn K mainGlobals "_law_product" = some (some (.ref a_law_product)))
  (l_law_product : K.lookup a_law_product = some ⟨oc_law_product, od_law_product, .func (PySem.W.fnOf "_law_product" "_law_product" (defArgs s_law_product) (defBody s_law_product) (defScope s_law_product) .none kV_law_product dc_law_product pm_law_product an_law_product cd_law_product ct_law_product), sl_law_product⟩)
  (c_law_product : PySem.W.codeIn K cd_law_product "_law_product" = true)
  (k_law_product : PySem.W.keepIn K (.ref a_law_product) = true)
  (n_law_ask : PySem.W.nsIn K mainGlobals "_law_ask" = some (some (.ref a_law_ask)))
  (l_law_ask : K.lookup a_law_ask = some ⟨oc_law_ask, od_law_ask, .func (PySem.W.fnOf "_law_ask" "_law_ask" (defArgs s_law_ask) (defBody s_law_ask) (defScope s_law_ask) .none kV_law_ask dc_law_ask pm_law_ask an_law_ask cd_law_ask ct_law_ask), sl_law_ask⟩)
  (c_law_ask : PySem.W.codeIn K cd_law_ask "_law_ask" = true)
  (k_law_ask : PySem.W.keepIn K (.ref a_law_ask) = true)
  (n_law_heard : PySem.W.nsIn K mainGlobals "_law_heard" = some (some (.ref a_law_heard)))
  (l_law_heard : K.lookup a_law_heard = some ⟨oc_law_heard, od_law_heard, .func (PySem.W.fnOf "_law_heard" "_law_heard" (defArgs s_law_heard) (defBody s_law_heard) (defScope s_law_heard) .none kV_law_heard dc_law_heard pm_law_heard an_law_heard cd_law_heard ct_law_heard), sl_law_heard⟩)
  (c_law_heard : PySem.W.codeIn K cd_law_heard "_law_heard" = true)
  (k_law_heard : PySem.W.keepIn K (.ref a_law_heard) = true)
  (n_law_rows_right : PySem.W.nsIn K mainGlobals "_law_rows_right" = some (some (.ref a_law_rows_right)))
  (l_law_rows_right : K.lookup a_law_rows_right = some ⟨oc_law_rows_right, od_law_rows_right, .func (PySem.W.fnOf "_law_rows_right" "_law_rows_right" (defArgs s_law_rows_right) (defBody s_law_rows_right) (defScope s_law_rows_right) .none kV_law_rows_right dc_law_rows_right pm_law_rows_right an_law_rows_right cd_law_rows_right ct_law_rows_right), sl_law_rows_right⟩)
  (c_law_rows_right : PySem.W.codeIn K cd_law_rows_right "_law_rows_right" = true)
  (k_law_rows_right : PySem.W.keepIn K (.ref a_law_rows_right) = true)
  (n_law_refused_right : PySem.W.nsIn K mainGlobals "_law_refused_right" = some (some (.ref a_law_refused_right)))
  (l_law_refused_right : K.lookup a_law_refused_right = some ⟨oc_law_refused_right, od_law_refused_right, .func (PySem.W.fnOf "_law_refused_right" "_law_refused_right" (defArgs s_law_refused_right) (defBody s_law_refused_right) (defScope s_law_refused_right) .none kV_law_refused_right dc_law_refused_right pm_law_refused_right an_law_refused_right cd_law_refused_right ct_law_refused_right), sl_law_refused_right⟩)
  (c_law_refused_right : PySem.W.codeIn K cd_law_refused_right "_law_refused_right" = true)
  (k_law_refused_right : PySem.W.keepIn K (.ref a_law_refused_right) = true)
  (n_law : PySem.W.nsIn K mainGlobals "law" = some (some (.ref a_law)))
  (l_law : K.lookup a_law = some ⟨oc_law, od_law, .func (PySem.W.fnOf "law" "law" (defArgs s_law) (defBody s_law) (defScope s_law) .none kV_law dc_law pm_law an_law cd_law ct_law), sl_law⟩)
  (c_law : PySem.W.codeIn K cd_law "law" = true)
  (k_law : PySem.W.keepIn K (.ref a_law) = true)
  (n_MOST_NUMBERS : PySem.W.nsIn K mainGlobals "MOST_NUMBERS" = some (some (.int 25 t_MOST_NUMBERS)))
  (n_CurveError : PySem.W.nsIn K mainGlobals "CurveError" = some (some (.ref c_CurveError)))
  (n_BadNumber : PySem.W.nsIn K mainGlobals "BadNumber" = some (some (.ref c_BadNumber)))
  (n_TooMany : PySem.W.nsIn K mainGlobals "TooMany" = some (some (.ref c_TooMany)))
  (xL_BadNumber : K.lookup c_BadNumber = some (excClassObj nm_BadNumber qn_BadNumber c_BadNumber NS_BadNumber bs_BadNumber bm_BadNumber true sn_BadNumber sb_BadNumber ab_BadNumber col_BadNumber dd_BadNumber k0_BadNumber k1_BadNumber k2_BadNumber k3_BadNumber k5_BadNumber "ValueError.__new__"))
  (xr_BadNumber : PySem.HandSPX.refsVE bm_BadNumber = true)
  (sa_BadNumber : PySem.W.findIn K (.ref c_BadNumber) "__setattr__" = some (some (.builtin "object.__setattr__")))
  (ge_BadNumber : PySem.W.findIn K (.ref c_BadNumber) "__getattribute__" = some (some (.builtin "BaseException.__getattribute__")))
  (gg_BadNumber : PySem.W.findIn K (.ref c_BadNumber) "__getattr__" = some none)
  (fi_BadNumber : PySem.W.findIn K (.ref c_BadNumber) "__init__" = some (some (.ref i_BadNumber)))
  (ti_BadNumber : PySem.W.typeIn K (.ref i_BadNumber) = some (.type "function"))
  (kc_BadNumber : PySem.W.keepIn K (.ref c_BadNumber) = true)
  (ec_BadNumber : PySem.W.subIn K (.ref c_BadNumber) (.type "BaseException") = some true)
  (tc_BadNumber : PySem.W.typeIn K (.ref c_BadNumber) = some (.type "type"))
  (hd_BadNumber : PySem.W.hasDictIn K c_BadNumber = true)
  (ic_BadNumber : PySem.W.isClsIn K c_BadNumber = true)
  (kl_BadNumber : PySem.W.findIn K (.ref c_BadNumber) "__class__" = some (some (.builtin "object.__class__")))
  (mr_BadNumber : PySem.W.mroIn K c_BadNumber (.type "object") = some true)
  (li_BadNumber : K.lookup i_BadNumber = some ⟨oc_iBadNumber, od_iBadNumber, .func (PySem.W.fnOf "__init__" "BadNumber.__init__" (defArgs si_BadNumber) (defBody si_BadNumber) (defScope si_BadNumber) .none kV_iBadNumber dc_iBadNumber pm_iBadNumber an_iBadNumber cd_iBadNumber ct_iBadNumber), sl_iBadNumber⟩)
  (ci_BadNumber : PySem.W.codeIn K cd_iBadNumber "BadNumber.__init__" = true)
  (ki_BadNumber : PySem.W.keepIn K (.ref i_BadNumber) = true)
  (no_BadNumber_part : PySem.W.findIn K (.ref c_BadNumber) "part" = some none)
  (xL_TooMany : K.lookup c_TooMany = some (excClassObj nm_TooMany qn_TooMany c_TooMany NS_TooMany bs_TooMany bm_TooMany true sn_TooMany sb_TooMany ab_TooMany col_TooMany dd_TooMany k0_TooMany k1_TooMany k2_TooMany k3_TooMany k5_TooMany "ValueError.__new__"))
  (xr_TooMany : PySem.HandSPX.refsVE bm_TooMany = true)
  (sa_TooMany : PySem.W.findIn K (.ref c_TooMany) "__setattr__" = some (some (.builtin "object.__setattr__")))
  (ge_TooMany : PySem.W.findIn K (.ref c_TooMany) "__getattribute__" = some (some (.builtin "BaseException.__getattribute__")))
  (gg_TooMany : PySem.W.findIn K (.ref c_TooMany) "__getattr__" = some none)
  (fi_TooMany : PySem.W.findIn K (.ref c_TooMany) "__init__" = some (some (.ref i_TooMany)))
  (ti_TooMany : PySem.W.typeIn K (.ref i_TooMany) = some (.type "function"))
  (kc_TooMany : PySem.W.keepIn K (.ref c_TooMany) = true)
  (ec_TooMany : PySem.W.subIn K (.ref c_TooMany) (.type "BaseException") = some true)
  (tc_TooMany : PySem.W.typeIn K (.ref c_TooMany) = some (.type "type"))
  (hd_TooMany : PySem.W.hasDictIn K c_TooMany = true)
  (ic_TooMany : PySem.W.isClsIn K c_TooMany = true)
  (kl_TooMany : PySem.W.findIn K (.ref c_TooMany) "__class__" = some (some (.builtin "object.__class__")))
  (mr_TooMany : PySem.W.mroIn K c_TooMany (.type "object") = some true)
  (li_TooMany : K.lookup i_TooMany = some ⟨oc_iTooMany, od_iTooMany, .func (PySem.W.fnOf "__init__" "TooMany.__init__" (defArgs si_TooMany) (defBody si_TooMany) (defScope si_TooMany) .none kV_iTooMany dc_iTooMany pm_iTooMany an_iTooMany cd_iTooMany ct_iTooMany), sl_iTooMany⟩)
  (ci_TooMany : PySem.W.codeIn K cd_iTooMany "TooMany.__init__" = true)
  (ki_TooMany : PySem.W.keepIn K (.ref i_TooMany) = true)
  (no_TooMany_what : PySem.W.findIn K (.ref c_TooMany) "what" = some none)
  (no_TooMany_most : PySem.W.findIn K (.ref c_TooMany) "most" = some none)
  (hxs : PySem.W.specialIn K (.builtin "object.__class__") "__get__" = some (some (.builtin "getset_descriptor.__get__")))
  (hxt : PySem.W.takesIn K (.builtin "object.__class__") = some true)
  (ec_CurveError : PySem.W.subIn K (.ref c_CurveError) (.type "BaseException") = some true)
  (tc_CurveError : PySem.W.typeIn K (.ref c_CurveError) = some (.type "type"))
  (ic_CurveError : PySem.W.isClsIn K c_CurveError = true)
  (sb_BadNumber_CurveError : PySem.W.subIn K (.ref c_BadNumber) (.ref c_CurveError) = some true)
  (sb_BadNumber_BadNumber : PySem.W.subIn K (.ref c_BadNumber) (.ref c_BadNumber) = some true)
  (sb_BadNumber_TooMany : PySem.W.subIn K (.ref c_BadNumber) (.ref c_TooMany) = some false)
  (sb_TooMany_TooMany : PySem.W.subIn K (.ref c_TooMany) (.ref c_TooMany) = some true)
  (sb_TooMany_CurveError : PySem.W.subIn K (.ref c_TooMany) (.ref c_CurveError) = some true)
  (sb_TooMany_BadNumber : PySem.W.subIn K (.ref c_TooMany) (.ref c_BadNumber) = some false)
  (g_gcd : PySem.W.nsIn K mainGlobals "gcd" = some (some (.builtin "math.gcd")))
  (z_abs : PySem.W.nsIn K mainGlobals "abs" = some none)
  (z_all : PySem.W.nsIn K mainGlobals "all" = some none)
  (z_bool : PySem.W.nsIn K mainGlobals "bool" = some none)
  (z_enumerate : PySem.W.nsIn K mainGlobals "enumerate" = some none)
  (z_int : PySem.W.nsIn K mainGlobals "int" = some none)
  (z_isinstance : PySem.W.nsIn K mainGlobals "isinstance" = some none)
  (z_len : PySem.W.nsIn K mainGlobals "len" = some none)
  (z_list : PySem.W.nsIn K mainGlobals "list" = some none)
  (z_range : PySem.W.nsIn K mainGlobals "range" = some none)
  (z_repr : PySem.W.nsIn K mainGlobals "repr" = some none)
  (z_reversed : PySem.W.nsIn K mainGlobals "reversed" = some none)
  (z_tuple : PySem.W.nsIn K mainGlobals "tuple" = some none) :
    ∃ fd : FuncData, (∀ (s : Shared) (v : Value), BindsTo s fd ⟨[v], []⟩ [("script", v)]) ∧ ∀ base : Heap, K.In base → base.Ns mainGlobals mg → FnG l.prog w K mg base CX0 9 fa fd ["script"] (spLaw K) := by
  have e := hfa.symm.trans (PySem.W.mg_of X G n_law)
  cases e
  exact ⟨PySem.W.fnOf "law" "law" (defArgs s_law) (defBody s_law) (defScope s_law) .none kV_law dc_law pm_law an_law cd_law ct_law, fun s v => .of_eq rfl, fun base _ _ => ok_law (base := base) (w := w) (P := l.prog) { a_parts_of := a_parts_of, d_parts_of := _, m_parts_of := PySem.W.mg_of X G n_parts_of, F_parts_of := fun_mk (st := s_parts_of) l_parts_of c_parts_of k_parts_of, a_number_of := a_number_of, d_number_of := _, m_number_of := PySem.W.mg_of X G n_number_of, F_number_of := fun_mk (st := s_number_of) l_number_of c_number_of k_number_of, a_sum_of := a_sum_of, d_sum_of := _, m_sum_of := PySem.W.mg_of X G n_sum_of, F_sum_of := fun_mk (st := s_sum_of) l_sum_of c_sum_of k_sum_of, a_product_of := a_product_of, d_product_of := _, m_product_of := PySem.W.mg_of X G n_product_of, F_product_of := fun_mk (st := s_product_of) l_product_of c_product_of k_product_of, a_is_list := a_is_list, d_is_list := _, m_is_list := PySem.W.mg_of X G n_is_list, F_is_list := fun_mk (st := s_is_list) l_is_list c_is_list k_is_list, a_is_integer := a_is_integer, d_is_integer := _, m_is_integer := PySem.W.mg_of X G n_is_integer, F_is_integer := fun_mk (st := s_is_integer) l_is_integer c_is_integer k_is_integer, a_is_within := a_is_within, d_is_within := _, m_is_within := PySem.W.mg_of X G n_is_within, F_is_within := fun_mk (st := s_is_within) l_is_within c_is_within k_is_within, a_is_number := a_is_number, d_is_number := _, m_is_number := PySem.W.mg_of X G n_is_number, F_is_number := fun_mk (st := s_is_number) l_is_number c_is_number k_is_number, a_need_number := a_need_number, d_need_number := _, m_need_number := PySem.W.mg_of X G n_need_number, F_need_number := fun_mk (st := s_need_number) l_need_number c_need_number k_need_number, a_value_at := a_value_at, d_value_at := _, m_value_at := PySem.W.mg_of X G n_value_at, F_value_at := fun_mk (st := s_value_at) l_value_at c_value_at k_value_at, a_slope_row := a_slope_row, d_slope_row := _, m_slope_row := PySem.W.mg_of X G n_slope_row, F_slope_row := fun_mk (st := s_slope_row) l_slope_row c_slope_row k_slope_row, a_row_product := a_row_product, d_row_product := _, m_row_product := PySem.W.mg_of X G n_row_product, F_row_product := fun_mk (st := s_row_product) l_row_product c_row_product k_row_product, a_need_row := a_need_row, d_need_row := _, m_need_row := PySem.W.mg_of X G n_need_row, F_need_row := fun_mk (st := s_need_row) l_need_row c_need_row k_need_row, a_law_vat := a_law_vat, d_law_vat := _, m_law_vat := PySem.W.mg_of X G n_law_vat, F_law_vat := fun_mk (st := s_law_vat) l_law_vat c_law_vat k_law_vat, a_law_tap := a_law_tap, d_law_tap := _, m_law_tap := PySem.W.mg_of X G n_law_tap, F_law_tap := fun_mk (st := s_law_tap) l_law_tap c_law_tap k_law_tap, a_law_one := a_law_one, d_law_one := _, m_law_one := PySem.W.mg_of X G n_law_one, F_law_one := fun_mk (st := s_law_one) l_law_one c_law_one k_law_one, a_law_common := a_law_common, d_law_common := _, m_law_common := PySem.W.mg_of X G n_law_common, F_law_common := fun_mk (st := s_law_common) l_law_common c_law_common k_law_common, a_law_lowest := a_law_lowest, d_law_lowest := _, m_law_lowest := PySem.W.mg_of X G n_law_lowest, F_law_lowest := fun_mk (st := s_law_lowest) l_law_lowest c_law_lowest k_law_lowest, a_law_ends := a_law_ends, d_law_ends := _, m_law_ends := PySem.W.mg_of X G n_law_ends, F_law_ends := fun_mk (st := s_law_ends) l_law_ends c_law_ends k_law_ends, a_law_plus := a_law_plus, d_law_plus := _, m_law_plus := PySem.W.mg_of X G n_law_plus, F_law_plus := fun_mk (st := s_law_plus) l_law_plus c_law_plus k_law_plus, a_law_times := a_law_times, d_law_times := _, m_law_times := PySem.W.mg_of X G n_law_times, F_law_times := fun_mk (st := s_law_times) l_law_times c_law_times k_law_times, a_law_number := a_law_number, d_law_number := _, m_law_number := PySem.W.mg_of X G n_law_number, F_law_number := fun_mk (st := s_law_number) l_law_number c_law_number k_law_number, a_law_row := a_law_row, d_law_row := _, m_law_row := PySem.W.mg_of X G n_law_row, F_law_row := fun_mk (st := s_law_row) l_law_row c_law_row k_law_row, a_law_told := a_law_told, d_law_told := _, m_law_told := PySem.W.mg_of X G n_law_told, F_law_told := fun_mk (st := s_law_told) l_law_told c_law_told k_law_told, a_law_value := a_law_value, d_law_value := _, m_law_value := PySem.W.mg_of X G n_law_value, F_law_value := fun_mk (st := s_law_value) l_law_value c_law_value k_law_value, a_law_slope := a_law_slope, d_law_slope := _, m_law_slope := PySem.W.mg_of X G n_law_slope, F_law_slope := fun_mk (st := s_law_slope) l_law_slope c_law_slope k_law_slope, a_law_product := a_law_product, d_law_product := _, m_law_product := PySem.W.mg_of X G n_law_product, F_law_product := fun_mk (st := s_law_product) l_law_product c_law_product k_law_product, a_law_ask := a_law_ask, d_law_ask := _, m_law_ask := PySem.W.mg_of X G n_law_ask, F_law_ask := fun_mk (st := s_law_ask) l_law_ask c_law_ask k_law_ask, a_law_heard := a_law_heard, d_law_heard := _, m_law_heard := PySem.W.mg_of X G n_law_heard, F_law_heard := fun_mk (st := s_law_heard) l_law_heard c_law_heard k_law_heard, a_law_rows_right := a_law_rows_right, d_law_rows_right := _, m_law_rows_right := PySem.W.mg_of X G n_law_rows_right, F_law_rows_right := fun_mk (st := s_law_rows_right) l_law_rows_right c_law_rows_right k_law_rows_right, a_law_refused_right := a_law_refused_right, d_law_refused_right := _, m_law_refused_right := PySem.W.mg_of X G n_law_refused_right, F_law_refused_right := fun_mk (st := s_law_refused_right) l_law_refused_right c_law_refused_right k_law_refused_right, a_law := _, d_law := _, m_law := PySem.W.mg_of X G n_law, F_law := fun_mk (st := s_law) l_law c_law k_law, t_MOST_NUMBERS := t_MOST_NUMBERS, m_MOST_NUMBERS := PySem.W.mg_of X G n_MOST_NUMBERS, c_CurveError := c_CurveError, m_CurveError := PySem.W.mg_of X G n_CurveError, c_BadNumber := c_BadNumber, m_BadNumber := PySem.W.mg_of X G n_BadNumber, c_TooMany := c_TooMany, m_TooMany := PySem.W.mg_of X G n_TooMany, i_BadNumber := i_BadNumber, di_BadNumber := _, Fi_BadNumber := fun_mk (st := si_BadNumber) li_BadNumber ci_BadNumber ki_BadNumber, ox_BadNumber := ⟨⟨_, _, _, _, _, _, _, _, _, _, _, _, _, _, _, xL_BadNumber, xr_BadNumber⟩, sa_BadNumber, ec_BadNumber, tc_BadNumber, kc_BadNumber⟩, fi_BadNumber := fi_BadNumber, ti_BadNumber := ti_BadNumber, xk_BadNumber := ⟨ic_BadNumber, ge_BadNumber, gg_BadNumber, ec_BadNumber, hd_BadNumber, kl_BadNumber, hxs, hxt, mr_BadNumber⟩, no_BadNumber_part := no_BadNumber_part, i_TooMany := i_TooMany, di_TooMany := _, Fi_TooMany := fun_mk (st := si_TooMany) li_TooMany ci_TooMany ki_TooMany, ox_TooMany := ⟨⟨_, _, _, _, _, _, _, _, _, _, _, _, _, _, _, xL_TooMany, xr_TooMany⟩, sa_TooMany, ec_TooMany, tc_TooMany, kc_TooMany⟩, fi_TooMany := fi_TooMany, ti_TooMany := ti_TooMany, xk_TooMany := ⟨ic_TooMany, ge_TooMany, gg_TooMany, ec_TooMany, hd_TooMany, kl_TooMany, hxs, hxt, mr_TooMany⟩, no_TooMany_what := no_TooMany_what, no_TooMany_most := no_TooMany_most, em_BadNumber_CurveError := exm_is ec_CurveError ic_CurveError tc_CurveError sb_BadNumber_CurveError, ki_BadNumber_BadNumber := kit_isT ic_BadNumber tc_BadNumber sb_BadNumber_BadNumber, ki_BadNumber_TooMany := kit_isF ic_TooMany tc_TooMany sb_BadNumber_TooMany sb_TooMany_TooMany, em_TooMany_CurveError := exm_is ec_CurveError ic_CurveError tc_CurveError sb_TooMany_CurveError, ki_TooMany_BadNumber := kit_isF ic_BadNumber tc_BadNumber sb_TooMany_BadNumber sb_BadNumber_BadNumber, ki_TooMany_TooMany := kit_isT ic_TooMany tc_TooMany sb_TooMany_TooMany, m_gcd := PySem.W.mg_of X G g_gcd, z_abs := PySem.W.mg_none_of X G z_abs, z_all := PySem.W.mg_none_of X G z_all, z_bool := PySem.W.mg_none_of X G z_bool, z_enumerate := PySem.W.mg_none_of X G z_enumerate, z_int := PySem.W.mg_none_of X G z_int, z_isinstance := PySem.W.mg_none_of X G z_isinstance, z_len := PySem.W.mg_none_of X G z_len, z_list := PySem.W.mg_none_of X G z_list, z_range := PySem.W.mg_none_of X G z_range, z_repr := PySem.W.mg_none_of X G z_repr, z_reversed := PySem.W.mg_none_of X G z_reversed, z_tuple := PySem.W.mg_none_of X G z_tuple }⟩
theorem walk_law {l : PySem.W.OpenLaw} {q : Program} {loose : List Str} {XP : (Str → Option Value) → Heap → Prop} {YP : World → Heap → Prop} {d : DefRec} {K : Params → PySem.W.Frag} (hn : l.most = some 63) (hdf : d.params.defaults = [])
    (hY : ∀ (w : World) (h : Heap), YP w h → (K w.params).In h)
    (F : ∀ (w : World) (mg : Str → Option Value) (fa : Addr) (h : Heap), (K w.params).In h → h.Ns mainGlobals mg → mg d.name = some (.ref fa) →
      ∃ fd : FuncData, (∀ (s : Shared) (u : Value), BindsTo s fd ⟨[u], []⟩ [("script", u)]) ∧ ∀ base : Heap, (K w.params).In base → base.Ns mainGlobals mg → FnG l.prog w (K w.params) mg base CX0 9 fa fd ["script"] (spLaw (K w.params))) :
    PySem.W.WalkO q loose XP YP l.row.toRowW d [] (fun f vs => PySem.call f vs) :=
  walkG (n := 63) (k := 9) (x := "script") (CX := fun _ => CX0) (sp := fun w => spLaw (K w.params)) hn (by decide) hdf ⟨rfl, by decide, by decide⟩ hY F (fun _ _ a ns hl _ hS => ⟨a, ns, rfl, hS, hl, fun _ => rfl⟩) fun _ _ _ _ _ z => z
end Ty
open PySem PySem.W PyProof.Rows in
set_option maxRecDepth 100000 in
set_option maxHeartbeats 0 in
theorem PySem.Challenge.cw_typedcurve_k06_rows_valued_and_multiplie_holds : PySem.Challenge.rw_typedcurve_k06_rows_valued_and_multiplie.Holds := by
  w_on; o_law; k_head; (case hw => w_witness2)
  k_fill
  refine Ty.walk_law (l := PySem.Challenge.rw_typedcurve_k06_rows_valued_and_multiplie) rfl rfl (fun w h Y => PySem.W.kIn_of Y) ?F
  case F =>
    intro w mg fa h KX G hmg
    refine' Ty.all_mk KX G hmg ?n_parts_of ?l_parts_of ?c_parts_of ?k_parts_of ?n_number_of ?l_number_of ?c_number_of ?k_number_of ?n_sum_of ?l_sum_of ?c_sum_of ?k_sum_of ?n_product_of ?l_product_of ?c_product_of ?k_product_of ?n_is_list ?l_is_list ?c_is_list ?k_is_list ?n_is_integer ?l_is_integer ?c_is_integer ?k_is_integer ?n_is_within ?l_is_within ?c_is_within ?k_is_within ?n_is_number ?l_is_number ?c_is_number ?k_is_number ?n_need_number ?l_need_number ?c_need_number ?k_need_number ?n_value_at ?l_value_at ?c_value_at ?k_value_at ?n_slope_row ?l_slope_row ?c_slope_row ?k_slope_row ?n_row_product ?l_row_product ?c_row_product ?k_row_product ?n_need_row ?l_need_row ?c_need_row ?k_need_row ?n_law_vat ?l_law_vat ?c_law_vat ?k_law_vat ?n_law_tap ?l_law_tap ?c_law_tap ?k_law_tap ?n_law_one ?l_law_one ?c_law_one ?k_law_one ?n_law_common ?l_law_common ?c_law_common ?k_law_common ?n_law_lowest ?l_law_lowest ?c_law_lowest ?k_law_lowest ?n_law_ends ?l_law_ends ?c_law_ends ?k_law_ends ?n_law_plus ?l_law_plus ?c_law_plus ?k_law_plus ?n_law_times ?l_law_times ?c_law_times ?k_law_times ?n_law_number ?l_law_number ?c_law_number ?k_law_number ?n_law_row ?l_law_row ?c_law_row ?k_law_row ?n_law_told ?l_law_told ?c_law_told ?k_law_told ?n_law_value ?l_law_value ?c_law_value ?k_law_value ?n_law_slope ?l_law_slope ?c_law_slope ?k_law_slope ?n_law_product ?l_law_product ?c_law_product ?k_law_product ?n_law_ask ?l_law_ask ?c_law_ask ?k_law_ask ?n_law_heard ?l_law_heard ?c_law_heard ?k_law_heard ?n_law_rows_right ?l_law_rows_right ?c_law_rows_right ?k_law_rows_right ?n_law_refused_right ?l_law_refused_right ?c_law_refused_right ?k_law_refused_right ?n_law ?l_law ?c_law ?k_law ?n_MOST_NUMBERS ?n_CurveError ?n_BadNumber ?n_TooMany ?xL_BadNumber ?xr_BadNumber ?sa_BadNumber ?ge_BadNumber ?gg_BadNumber ?fi_BadNumber ?ti_BadNumber ?kc_BadNumber ?ec_BadNumber ?tc_BadNumber ?hd_BadNumber ?ic_BadNumber ?kl_BadNumber ?mr_BadNumber ?li_BadNumber ?ci_BadNumber ?ki_BadNumber ?no_BadNumber_part ?xL_TooMany ?xr_TooMany ?sa_TooMany ?ge_TooMany ?gg_TooMany ?fi_TooMany ?ti_TooMany ?kc_TooMany ?ec_TooMany ?tc_TooMany ?hd_TooMany ?ic_TooMany ?kl_TooMany ?mr_TooMany ?li_TooMany ?ci_TooMany ?ki_TooMany ?no_TooMany_what ?no_TooMany_most ?hxs ?hxt ?ec_CurveError ?tc_CurveError ?ic_CurveError ?sb_BadNumber_CurveError ?sb_BadNumber_BadNumber ?sb_BadNumber_TooMany ?sb_TooMany_TooMany ?sb_TooMany_CurveError ?sb_TooMany_BadNumber ?g_gcd ?z_abs ?z_all ?z_bool ?z_enumerate ?z_int ?z_isinstance ?z_len ?z_list ?z_range ?z_repr ?z_reversed ?z_tuple
    (case n_parts_of => k_is)
    (case l_parts_of => k_is)
    (case c_parts_of => k_is)
    (case k_parts_of => k_is)
    (case n_number_of => k_is)
    (case l_number_of => k_is)
    (case c_number_of => k_is)
    (case k_number_of => k_is)
    (case n_sum_of => k_is)
    (case l_sum_of => k_is)
    (case c_sum_of => k_is)
    (case k_sum_of => k_is)
    (case n_product_of => k_is)
    (case l_product_of => k_is)
    (case c_product_of => k_is)
    (case k_product_of => k_is)
    (case n_is_list => k_is)
    (case l_is_list => k_is)
    (case c_is_list => k_is)
    (case k_is_list => k_is)
    (case n_is_integer => k_is)
    (case l_is_integer => k_is)
    (case c_is_integer => k_is)
    (case k_is_integer => k_is)
    (case n_is_within => k_is)
    (case l_is_within => k_is)
    (case c_is_within => k_is)
    (case k_is_within => k_is)
    (case n_is_number => k_is)
    (case l_is_number => k_is)
    (case c_is_number => k_is)
    (case k_is_number => k_is)
    (case n_need_number => k_is)
    (case l_need_number => k_is)
    (case c_need_number => k_is)
    (case k_need_number => k_is)
    (case n_value_at => k_is)
    (case l_value_at => k_is)
    (case c_value_at => k_is)
    (case k_value_at => k_is)
    (case n_slope_row => k_is)
    (case l_slope_row => k_is)
    (case c_slope_row => k_is)
    (case k_slope_row => k_is)
    (case n_row_product => k_is)
    (case l_row_product => k_is)
    (case c_row_product => k_is)
    (case k_row_product => k_is)
    (case n_need_row => k_is)
    (case l_need_row => k_is)
    (case c_need_row => k_is)
    (case k_need_row => k_is)
    (case n_law_vat => k_is)
    (case l_law_vat => k_is)
    (case c_law_vat => k_is)
    (case k_law_vat => k_is)
    (case n_law_tap => k_is)
    (case l_law_tap => k_is)
    (case c_law_tap => k_is)
    (case k_law_tap => k_is)
    (case n_law_one => k_is)
    (case l_law_one => k_is)
    (case c_law_one => k_is)
    (case k_law_one => k_is)
    (case n_law_common => k_is)
    (case l_law_common => k_is)
    (case c_law_common => k_is)
    (case k_law_common => k_is)
    (case n_law_lowest => k_is)
    (case l_law_lowest => k_is)
    (case c_law_lowest => k_is)
    (case k_law_lowest => k_is)
    (case n_law_ends => k_is)
    (case l_law_ends => k_is)
    (case c_law_ends => k_is)
    (case k_law_ends => k_is)
    (case n_law_plus => k_is)
    (case l_law_plus => k_is)
    (case c_law_plus => k_is)
    (case k_law_plus => k_is)
    (case n_law_times => k_is)
    (case l_law_times => k_is)
    (case c_law_times => k_is)
    (case k_law_times => k_is)
    (case n_law_number => k_is)
    (case l_law_number => k_is)
    (case c_law_number => k_is)
    (case k_law_number => k_is)
    (case n_law_row => k_is)
    (case l_law_row => k_is)
    (case c_law_row => k_is)
    (case k_law_row => k_is)
    (case n_law_told => k_is)
    (case l_law_told => k_is)
    (case c_law_told => k_is)
    (case k_law_told => k_is)
    (case n_law_value => k_is)
    (case l_law_value => k_is)
    (case c_law_value => k_is)
    (case k_law_value => k_is)
    (case n_law_slope => k_is)
    (case l_law_slope => k_is)
    (case c_law_slope => k_is)
    (case k_law_slope => k_is)
    (case n_law_product => k_is)
    (case l_law_product => k_is)
    (case c_law_product => k_is)
    (case k_law_product => k_is)
    (case n_law_ask => k_is)
    (case l_law_ask => k_is)
    (case c_law_ask => k_is)
    (case k_law_ask => k_is)
    (case n_law_heard => k_is)
    (case l_law_heard => k_is)
    (case c_law_heard => k_is)
    (case k_law_heard => k_is)
    (case n_law_rows_right => k_is)
    (case l_law_rows_right => k_is)
    (case c_law_rows_right => k_is)
    (case k_law_rows_right => k_is)
    (case n_law_refused_right => k_is)
    (case l_law_refused_right => k_is)
    (case c_law_refused_right => k_is)
    (case k_law_refused_right => k_is)
    (case n_law => k_is)
    (case l_law => k_is)
    (case c_law => k_is)
    (case k_law => k_is)
    (case n_MOST_NUMBERS => k_is)
    (case n_CurveError => k_is)
    (case n_BadNumber => k_is)
    (case n_TooMany => k_is)
    (case xL_BadNumber => k_is)
    (case xr_BadNumber => decide +kernel)
    (case sa_BadNumber => k_is)
    (case ge_BadNumber => k_is)
    (case gg_BadNumber => k_is)
    (case fi_BadNumber => k_is)
    (case ti_BadNumber => k_is)
    (case kc_BadNumber => k_is)
    (case ec_BadNumber => k_is)
    (case tc_BadNumber => k_is)
    (case hd_BadNumber => k_is)
    (case ic_BadNumber => k_is)
    (case kl_BadNumber => k_is)
    (case mr_BadNumber => k_is)
    (case li_BadNumber => k_is)
    (case ci_BadNumber => k_is)
    (case ki_BadNumber => k_is)
    (case no_BadNumber_part => k_is)
    (case xL_TooMany => k_is)
    (case xr_TooMany => decide +kernel)
    (case sa_TooMany => k_is)
    (case ge_TooMany => k_is)
    (case gg_TooMany => k_is)
    (case fi_TooMany => k_is)
    (case ti_TooMany => k_is)
    (case kc_TooMany => k_is)
    (case ec_TooMany => k_is)
    (case tc_TooMany => k_is)
    (case hd_TooMany => k_is)
    (case ic_TooMany => k_is)
    (case kl_TooMany => k_is)
    (case mr_TooMany => k_is)
    (case li_TooMany => k_is)
    (case ci_TooMany => k_is)
    (case ki_TooMany => k_is)
    (case no_TooMany_what => k_is)
    (case no_TooMany_most => k_is)
    (case hxs => k_is)
    (case hxt => k_is)
    (case ec_CurveError => k_is)
    (case tc_CurveError => k_is)
    (case ic_CurveError => k_is)
    (case sb_BadNumber_CurveError => k_is)
    (case sb_BadNumber_BadNumber => k_is)
    (case sb_BadNumber_TooMany => k_is)
    (case sb_TooMany_TooMany => k_is)
    (case sb_TooMany_CurveError => k_is)
    (case sb_TooMany_BadNumber => k_is)
    (case g_gcd => k_is)
    (case z_abs => k_is)
    (case z_all => k_is)
    (case z_bool => k_is)
    (case z_enumerate => k_is)
    (case z_int => k_is)
    (case z_isinstance => k_is)
    (case z_len => k_is)
    (case z_list => k_is)
    (case z_range => k_is)
    (case z_repr => k_is)
    (case z_reversed => k_is)
    (case z_tuple => k_is)

