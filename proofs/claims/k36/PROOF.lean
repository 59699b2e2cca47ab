import PyProof.Rows.All
import Wide.All
import OpenK.AllK
import Wide.FinOn
import PyProof.ReprRoads
import HandS.ForMost
import HandS.ForExc
import HandS.Wide
import HandS.Gcd
import HandS.IsInst
import HandS.Defaults
import HandS.NoneIn
import HandS.Style
import HandS.Evl
import KE.KExcIs
import HandS.Exc
import HandS.ExcValue
import HandS.ExcInit
import HandS.ExcField
import HandS.ExcOwn
import HandS.WordsExc
import PyProof.Rows.RuleB_bool
import PyProof.FitsInt
import PyProof.ReprLen
import HandS.Walk
import HandS.Rev
import HandS.Zip0
import KE.GoesMore
import KE.GoesEnum
import HandS.TupLe
import HandS.Deep
import PySem.Challenge.RW_typedcurve_k36_whole_what_locks_let
set_option Elab.async false
set_option linter.all false
set_option maxRecDepth 100000
set_option maxHeartbeats 4000000
namespace Ty
open PySem PySem.Spec PyProof.Rows L2
section
variable {X : Cx}
/-- repr of data -/
def rRepr (K : PySem.W.Frag) : List V → Hp → VK → Prop := fun xs H Q => ∃ a d, xs = [.ref a] ∧ Dp K H (.ref a) d ∧ d.showable = true ∧ d.hasDict = false ∧ d.depth ≤ 60 ∧ d.shown.length ≤ sizeLine ∧ Q (.str d.shown) H
theorem call_repr (hu : X.A.units + 64 < cLine) (hg : X.A.guards = some []) : CallR X (.builtin "repr") (rRepr X.K) := by
  intro pins s σ H xs us Q I r h
  obtain ⟨a, d, rfl, hd, h1, h2, h3, h4, q⟩ := h
  cases r with
  | cons rv rn =>
    cases rn
    cases (show _ = Value.ref a from rv)
    obtain ⟨as, rr⟩ := Dp.reads I d _ _ hd rfl
    refine repr_of_reads' rr h1 (fun z => by rw [h2] at z; cases z) hg (by omega) (fun _ _ e => e) (fun h' u tk hk => ?_) h4
    exact ⟨.str d.shown, H, I.kept hk, ⟨u, rfl⟩, q⟩
/-- a target of several names: a list or a tuple -/
theorem pg_or {tg : Expr} {g g' : TG} (h : PG X tg g) (h' : PG X tg g') : PG X tg (fun v σ H Q => g v σ H Q ∨ g' v σ H Q) := by
  refine ⟨fun pins s σ H v u Q I r hw => ?_⟩
  rcases hw with hw | hw
  · exact h.run pins s σ H v u Q I r hw
  · exact h'.run pins s σ H v u Q I r hw
variable {CX : CXT} {k : Nat} {f : Addr} {fd : FuncData} {ps ks : List Str} {sp : Sp} {E : XK} {x : Str} {p pos : Pos} {kws : List Keyword} {t tk : TA} {g : List Value → List Value → List Value} {gV : List V → List V → List V}
/-- f(k = v, ..) -/
theorem pe_callN0 (F : FnOk X.prog X.w X.K X.mg X.base CX k f fd ps sp) (hr : Room k X.A) (hg : Gl X x) (hm : X.mg x = some (.ref f)) (hk : PySem.W.keepIn X.K (.ref f) = true) (hb : KBn X.K fd ps 0 ks g gV) (hx : Passes CX X E)
    (hkw : PK X kws tk) (hall : (backToKw pos (keywordEach kws X.env)).all (·.1.isSome) = true := by rfl) (hks : (backToKw pos (keywordEach kws X.env)).filterMap (·.1) = ks := by rfl)
    (hdb : (x == ("__debug__" : Str)) = false := by decide)
    (hpl : ((backTo pos (starEach [] X.env)).any (·.1) || (backToKw pos (keywordEach kws X.env)).any (·.1.isNone)) = false := by rfl) :
    PE X (.Call (.Name x p) [] kws pos) (tCallN 0 ks.length sp gV E tNil tk) := by
  refine ⟨fun pins s σ H Q I h => ?_⟩
  refine wpAny_Call_Name_kw (ld_glob I hg hm ?_ hdb)
  refine PySem.W.callWith_KW0 (h₀ := X.base) I.ok.mod.kin hk hall (thn (hkw.run pos pins s σ H _ I h) fun ws s2 hh => ?_) hpl
  obtain ⟨zs, H2, I2, rz, l1, l2, q2⟩ := hh
  refine ⟨I2.kIn, ?_⟩
  rw [hks]
  exact run_fnN F hr hb hx I2 .nil rz l1 l2 q2
end
/-- how a call with keywords binds, no defaults -/
theorem kbn_of {K : PySem.W.Frag} {y qual : Str} {st : Stmt} {f : Addr} {fd : FuncData} {ps : List Str} {n : Nat} {ks : List Str} {g : List Value → List Value → List Value} {gV : List V → List V → List V} (F : Fun K y qual st f fd)
    (h : ∀ (kV doc pm : Value) (an : Option Addr) (cdv ct : Value) (us ws : List Value), us.length = n → ws.length = ks.length → bindArgs (PySem.W.fnOf y qual (defArgs st) (defBody st) (defScope st) .none kV doc pm an cdv ct) ⟨us, ks.zip ws⟩ = pure (ps.zip (g us ws)))
    (hrel : ∀ {vs : List V} {us : List Value} {zs : List V} {ws : List Value}, Vals vs us → Vals zs ws → Vals (gV vs zs) (g us ws)) : KBn K fd ps n ks g gV := by
  obtain ⟨oc, od, kV, doc, pm, an, cdv, ct, osl, rfl, lk, hcd⟩ := F.ex
  exact ⟨fun s us ws _ h1 h2 => .of_eq (h kV doc pm an cdv ct us ws h1 h2), hrel⟩
end Ty

namespace Ty
open PySem PySem.Spec PyProof.Rows L2
theorem Same.new {H : Hp} {p : Addr} {o : HO} (h : H p = none) : Same H (upd H p o) := fun a u e => by
  rw [upd_ne (ne_of_none e h)]
  exact e
/-! ### operators -/
def CPowW (i j : Int) : Prop := 0 ≤ j ∧ j ≤ 100 ∧ i.natAbs.log2 < 1000000
theorem op_powW {X : Cx} : OpR X (binaryOp .Pow) (rI CPowW fun i j => .int (i ^ j.toNat)) := opI fun i j _ _ _ _ _ hc q => by
  refine pow_int hc.1 ?_ q
  have b : Builtin.Int.intBits i ≤ i.natAbs.log2 + 1 := by
    unfold Builtin.Int.intBits
    split <;> omega
  have h1 := hc.1
  have h2 := hc.2.1
  have h3 := hc.2.2
  have h4 : (Builtin.Int.intBits i : Int) ≤ 1000000 := by omega
  have h5 : (Builtin.Int.intBits i : Int) * j ≤ 1000000 * 100 := Int.mul_le_mul h4 h2 h1 (by decide)
  exact Int.le_trans h5 (by decide)
/-- == and != of a list and an empty one -/
def rEqE (K : PySem.W.Frag) : R2 := fun x y H Q => ∃ a b xs, x = .ref a ∧ y = .ref b ∧ SqL K H a xs ∧ SqL K H b [] ∧ Q (.bl xs.isEmpty) H
def rNeE (K : PySem.W.Frag) : R2 := fun x y H Q => ∃ a b xs, x = .ref a ∧ y = .ref b ∧ SqL K H a xs ∧ SqL K H b [] ∧ Q (.bl (!xs.isEmpty)) H
theorem op_eqE {X : Cx} (hu : X.A.units < cLine) : OpR X (compareOp .Eq) (rEqE X.K) := by
  intro pins s σ H x y v u Q I rx ry h
  obtain ⟨a, b, xs, rfl, rfl, ha, hb, q⟩ := h
  cases (show v = Value.ref a from rx)
  cases (show u = Value.ref b from ry)
  obtain ⟨us, r1, p1, _⟩ := I.list ha
  obtain ⟨ws, r2, p2, _⟩ := I.list hb
  cases r2
  cases xs with
  | nil =>
    cases r1
    refine SeqAt.eq_listAt (e := fun _ => true) p1.isList p2.isList rfl hu (fun j h1 _ => absurd h1 (Nat.not_lt_zero _)) ?_
    exact ⟨.bl true, H, I, rfl, q⟩
  | cons z zs =>
    refine SeqAt.eq_list_lengthsAt p1.isList p2.isList ?_ hu ⟨.bl false, H, I, rfl, q⟩
    have e := r1.length
    rw [List.length_cons] at e
    rw [List.size_toArray, ← e]
    rfl
theorem op_neE {X : Cx} (hu : X.A.units < cLine) : OpR X (compareOp .NotEq) (rNeE X.K) := by
  intro pins s σ H x y v u Q I rx ry h
  obtain ⟨a, b, xs, rfl, rfl, ha, hb, q⟩ := h
  cases (show v = Value.ref a from rx)
  cases (show u = Value.ref b from ry)
  obtain ⟨us, r1, p1, _⟩ := I.list ha
  obtain ⟨ws, r2, p2, _⟩ := I.list hb
  cases r2
  cases xs with
  | nil =>
    cases r1
    refine SeqAt.RcNeAt.lists (e := fun _ => true) p1.isList p2.isList rfl hu (fun j h1 _ => absurd h1 (Nat.not_lt_zero _)) _ _ _ _ ?_
    exact ⟨.bl false, H, I, rfl, q⟩
  | cons z zs =>
    refine SeqAt.RcNeAt.lists_lengths p1.isList p2.isList ?_ hu _ _ _ _ ⟨.bl true, H, I, rfl, q⟩
    have e := r1.length
    rw [List.length_cons] at e
    rw [List.size_toArray, ← e]
    rfl
/-! ### any value -/
inductive Da where
  | non
  | bl (b : Bool)
  | int (i : Int)
  | str (x : Str)
  | tup (l : List Da)
  | lst (l : List Da)
  | dic
mutual
inductive Is (H : Hp) : V → Da → Prop
  | non : Is H .non .non
  | bl (b : Bool) : Is H (.bl b) (.bl b)
  | int (i : Int) : Is H (.int i) (.int i)
  | str (x : Str) : Is H (.str x) (.str x)
  | tup {a : Addr} {xs : List V} {ds : List Da} : H a = some (.tup xs) → IsAll H xs ds → Is H (.ref a) (.tup ds)
  | lst {a : Addr} {xs : List V} {ds : List Da} : H a = some (.lst xs) → IsAll H xs ds → Is H (.ref a) (.lst ds)
  | dic {a : Addr} : H a = some (.dK []) → Is H (.ref a) .dic
inductive IsAll (H : Hp) : List V → List Da → Prop
  | nil : IsAll H [] []
  | cons {v : V} {vs : List V} {d : Da} {ds : List Da} : Is H v d → IsAll H vs ds → IsAll H (v :: vs) (d :: ds)
end
mutual
theorem Is.mono {H H' : Hp} (s : Same H H') : ∀ (d : Da) (v : V), Is H v d → Is H' v d
  | .non, _, h => by cases h; exact .non
  | .bl _, _, h => by cases h; exact .bl _
  | .int _, _, h => by cases h; exact .int _
  | .str _, _, h => by cases h; exact .str _
  | .tup ds, _, h => by
    cases h with
    | tup e h => exact .tup (s _ _ e) (IsAll.mono s ds _ h)
  | .lst ds, _, h => by
    cases h with
    | lst e h => exact .lst (s _ _ e) (IsAll.mono s ds _ h)
  | .dic, _, h => by
    cases h with
    | dic e => exact .dic (s _ _ e)
theorem IsAll.mono {H H' : Hp} (s : Same H H') : ∀ (ds : List Da) (vs : List V), IsAll H vs ds → IsAll H' vs ds
  | [], _, h => by cases h; exact .nil
  | d :: ds, _, h => by
    cases h with
    | cons h t => exact .cons (Is.mono s d _ h) (IsAll.mono s ds _ t)
end
theorem Is.up {H H' : Hp} {v : V} {d : Da} (h : Is H v d) (s : Same H H') : Is H' v d := Is.mono s d v h
theorem IsAll.up {H H' : Hp} {v : List V} {d : List Da} (h : IsAll H v d) (s : Same H H') : IsAll H' v d := IsAll.mono s d v h
theorem IsAll.length {H : Hp} : ∀ {vs : List V} {ds : List Da}, IsAll H vs ds → vs.length = ds.length
  | _, [], h => by cases h; rfl
  | _, d :: ds, h => by
    cases h with
    | cons _ t => rw [List.length_cons, List.length_cons, IsAll.length t]
theorem IsAll.at {H : Hp} : ∀ {vs : List V} {ds : List Da} {i : Nat} {v : V}, IsAll H vs ds → vs[i]? = some v → ∃ d, ds[i]? = some d ∧ Is H v d
  | _, [], _, _, h, e => by cases h; simp at e
  | _, d :: ds, 0, _, h, e => by
    cases h with
    | cons h _ =>
      cases (Option.some.inj e)
      exact ⟨d, rfl, h⟩
  | _, d :: ds, i + 1, _, h, e => by
    cases h with
    | @cons _ vs _ _ _ t =>
      have e' : vs[i]? = some _ := e
      obtain ⟨d', h1, h2⟩ := IsAll.at t e'
      exact ⟨d', h1, h2⟩
/-! ### what kind a value is of -/
def kd : Da → String
  | .non => "NoneType" | .bl _ => "bool" | .int _ => "int" | .str _ => "str" | .tup _ => "tuple" | .lst _ => "list" | .dic => "dict"
def isI : Da → Bool
  | .int _ => true | .bl _ => true | _ => false
def isB : Da → Bool
  | .bl _ => true | _ => false
def isN : Da → Bool
  | .int _ => true | _ => false
def isS : Da → Bool
  | .tup _ => true | .lst _ => true | _ => false
def items : Da → List Da
  | .tup l => l | .lst l => l | _ => []
theorem Is.ty {K : PySem.W.Frag} {H : Hp} {v : V} {d : Da} (h : Is H v d) : TyX K H v (.type (kd d)) := by
  cases h with
  | non => exact .base .non
  | bl b => exact .base (.bl b)
  | int i => exact .base (.int i)
  | str x => exact .base (.str x)
  | tup e _ => exact .base (.tup e)
  | lst e _ => exact .base (.lst e)
  | dic e => exact .base (.dK e)
theorem kit_int : ∀ d : Da, kitB (kd d) "int" = some (isI d)
  | .non => show kitB "NoneType" "int" = some false by decide +kernel
  | .bl _ => show kitB "bool" "int" = some true by decide +kernel
  | .int _ => show kitB "int" "int" = some true by decide +kernel
  | .str _ => show kitB "str" "int" = some false by decide +kernel
  | .tup _ => show kitB "tuple" "int" = some false by decide +kernel
  | .lst _ => show kitB "list" "int" = some false by decide +kernel
  | .dic => show kitB "dict" "int" = some false by decide +kernel
theorem kit_bool : ∀ d : Da, kitB (kd d) "bool" = some (isB d)
  | .non => show kitB "NoneType" "bool" = some false by decide +kernel
  | .bl _ => show kitB "bool" "bool" = some true by decide +kernel
  | .int _ => show kitB "int" "bool" = some false by decide +kernel
  | .str _ => show kitB "str" "bool" = some false by decide +kernel
  | .tup _ => show kitB "tuple" "bool" = some false by decide +kernel
  | .lst _ => show kitB "list" "bool" = some false by decide +kernel
  | .dic => show kitB "dict" "bool" = some false by decide +kernel
def isL : Da → Bool
  | .lst _ => true | _ => false
def isT : Da → Bool
  | .tup _ => true | _ => false
theorem kit_list : ∀ d : Da, kitB (kd d) "list" = some (isL d)
  | .non => show kitB "NoneType" "list" = some false by decide +kernel
  | .bl _ => show kitB "bool" "list" = some false by decide +kernel
  | .int _ => show kitB "int" "list" = some false by decide +kernel
  | .str _ => show kitB "str" "list" = some false by decide +kernel
  | .tup _ => show kitB "tuple" "list" = some false by decide +kernel
  | .lst _ => show kitB "list" "list" = some true by decide +kernel
  | .dic => show kitB "dict" "list" = some false by decide +kernel
theorem kit_tuple : ∀ d : Da, kitB (kd d) "tuple" = some (isT d)
  | .non => show kitB "NoneType" "tuple" = some false by decide +kernel
  | .bl _ => show kitB "bool" "tuple" = some false by decide +kernel
  | .int _ => show kitB "int" "tuple" = some false by decide +kernel
  | .str _ => show kitB "str" "tuple" = some false by decide +kernel
  | .tup _ => show kitB "tuple" "tuple" = some true by decide +kernel
  | .lst _ => show kitB "list" "tuple" = some false by decide +kernel
  | .dic => show kitB "dict" "tuple" = some false by decide +kernel
theorem kit_seq {K : PySem.W.Frag} (d : Da) : PySem.W.kitAny K (.type (kd d)) [.type "list", .type "tuple"] = some (isS d) := by
  refine kitAny_cons (kit_ty (kit_list d)) (fun h => kitAny_cons (kit_ty (kit_tuple d)) (fun h2 => ?_) fun h2 => ?_) fun h => ?_
  · rw [kitAny_nil]
    cases d with
    | lst _ => cases h
    | tup _ => cases h2
    | _ => rfl
  · cases d with
    | tup _ => rfl
    | _ => cases h2
  · cases d with
    | lst _ => rfl
    | _ => cases h
section
variable {K : PySem.W.Frag} {H : Hp} {v : V} {d : Da} {Q : VK}
theorem isi_int (h : Is H v d) (q : Q (.bl (isI d)) H) : rIsi K [v, .ty "int"] H Q := ⟨v, .ty "int", _, _, _, rfl, .ty "int", h.ty, kit_ty (kit_int d), q⟩
theorem isi_bool (h : Is H v d) (q : Q (.bl (isB d)) H) : rIsi K [v, .ty "bool"] H Q := ⟨v, .ty "bool", _, _, _, rfl, .ty "bool", h.ty, kit_ty (kit_bool d), q⟩
theorem isi_tuple (h : Is H v d) (q : Q (.bl (isT d)) H) : rIsi K [v, .ty "tuple"] H Q := ⟨v, .ty "tuple", _, _, _, rfl, .ty "tuple", h.ty, kit_ty (kit_tuple d), q⟩
theorem isi_list (h : Is H v d) (q : Q (.bl (isL d)) H) : rIsi K [v, .ty "list"] H Q := ⟨v, .ty "list", _, _, _, rfl, .ty "list", h.ty, kit_ty (kit_list d), q⟩
theorem isi_seq {p : Addr} (h : Is H v d) (hp : H p = some (.tup [.ty "list", .ty "tuple"])) (q : Q (.bl (isS d)) H) : rIsiT K [v, .ref p] H Q :=
  ⟨v, p, _, _, [.type "list", .type "tuple"], _, rfl, hp, .cons (.ty "list") (.cons (.ty "tuple") .nil), h.ty, kit_seq d, q⟩
end
section
variable {X : Cx}
theorem call_isiInt : CallR X (.builtin "isinstance") (fun xs H Q => ∃ x d, xs = [x, .ty "int"] ∧ Is H x d ∧ Q (.bl (isI d)) H) := by
  intro pins s σ H xs us Q I r h
  obtain ⟨x, d, rfl, h, q⟩ := h
  exact call_isi pins s σ H _ us Q I r (isi_int h q)
theorem call_isiBool : CallR X (.builtin "isinstance") (fun xs H Q => ∃ x d, xs = [x, .ty "bool"] ∧ Is H x d ∧ Q (.bl (isB d)) H) := by
  intro pins s σ H xs us Q I r h
  obtain ⟨x, d, rfl, h, q⟩ := h
  exact call_isi pins s σ H _ us Q I r (isi_bool h q)
theorem call_isiList : CallR X (.builtin "isinstance") (fun xs H Q => ∃ x d, xs = [x, .ty "list"] ∧ Is H x d ∧ Q (.bl (isL d)) H) := by
  intro pins s σ H xs us Q I r h
  obtain ⟨x, d, rfl, h, q⟩ := h
  exact call_isi pins s σ H _ us Q I r (isi_list h q)
theorem call_isiTuple : CallR X (.builtin "isinstance") (fun xs H Q => ∃ x d, xs = [x, .ty "tuple"] ∧ Is H x d ∧ Q (.bl (isT d)) H) := by
  intro pins s σ H xs us Q I r h
  obtain ⟨x, d, rfl, h, q⟩ := h
  exact call_isi pins s σ H _ us Q I r (isi_tuple h q)
/-- isinstance(x, (list, tuple)) -/
theorem call_isiSeq : CallR X (.builtin "isinstance") (fun xs H Q => ∃ x d p, xs = [x, .ref p] ∧ H p = some (.tup [.ty "list", .ty "tuple"]) ∧ Is H x d ∧ Q (.bl (isS d)) H) := by
  intro pins s σ H xs us Q I r h
  obtain ⟨x, d, p, rfl, hp, h, q⟩ := h
  exact call_isiT pins s σ H _ us Q I r (isi_seq h hp q)
end
/-- what a sequence holds -/
theorem Is.seq {K : PySem.W.Frag} {H : Hp} {v : V} {d : Da} (h : Is H v d) (s : isS d = true) : ∃ a xs, v = .ref a ∧ (SqL K H a xs ∨ SqT K H a xs) ∧ IsAll H xs (items d) := by
  cases h with
  | tup e h => exact ⟨_, _, rfl, .inr (.inl (.inl e)), h⟩
  | lst e h => exact ⟨_, _, rfl, .inl (.inl (.inl e)), h⟩
  | _ => cases s
end Ty

namespace Ty
open PySem PySem.Spec PyProof.Rows L2
/-- a def's promise where nothing is being shown (repr) around the call -/
structure FnG (P : Program) (w : World) (K : PySem.W.Frag) (mg : Str → Option Value) (base : Heap) (CX : CXT) (k : Nat) (f : Addr) (fd : FuncData) (ps : List Str) (sp : Sp) : Prop where
  len : ∀ vs H Q E, sp vs H Q E → vs.length = ps.length
  run : ∀ (A : Around), A.guards = some [] → ∀ (outer : List Env) (s : Shared) (H : Hp) (args : Args) (us : List Value) (vs : List V) (Q : VK) (E : XK), Room k A → Env0 P w K mg base A outer s H → BindsTo s fd args (ps.zip us) → Vals vs us → sp vs H Q E →
    codeAny (model P w) A (.call (.ref f) args) (CR CX outer P w H s Q E) s
section
variable {P : Program} {w : World} {K : PySem.W.Frag} {mg : Str → Option Value} {base : Heap}
theorem FnG.of {CX : CXT} {k : Nat} {f : Addr} {fd : FuncData} {ps : List Str} {sp : Sp} (F : FnOk P w K mg base CX k f fd ps sp) : FnG P w K mg base CX k f fd ps sp :=
  ⟨F.len, fun A _ outer s H args us vs Q E => F.run A outer s H args us vs Q E⟩
theorem Fun.okX {CX : CXT} {y qual : Str} {st : Stmt} {f : Addr} {fd : FuncData} {N ps : List Str} {k : Nat} {sp : Sp} (F : Fun K y qual st f fd) (S : FnScope N ps (defScope st)) (len : ∀ vs H Q E, sp vs H Q E → vs.length = ps.length)
    (body : ∀ (cdv : Value) (A : Around) (outer : List Env) (s : Shared) (H : Hp) (vs : List V) (Q : VK) (E : XK), A.guards = some [] → Room k (A.deeper (envOfC qual (defScope st) s.heap.objs.size f cdv)) → sp vs H Q E →
      ∃ t, PSs (cxOf CX P w K mg base N qual (defScope st) f cdv A outer s H E) (defBody st) t ∧ t { nx := fun _ H' => Q .non H', rt := Q } (start N vs) H) : FnG P w K mg base CX (k + 1) f fd ps sp := by
  obtain ⟨oc, od, kV, doc, pm, an, cdv, ct, osl, rfl, lk, hcd⟩ := F.ex
  constructor
  · exact len
  intro A hgd outer s H args us vs Q E hr e0 hb r hsp
  obtain ⟨t, ht, hq⟩ := body cdv A outer s H vs Q E hgd (hr.deeper _) hsp
  have up : ∀ b o, base.get? b = some o → s.heap.get? b = some o := fun b o e => (e0.bs b o e).1
  have KX : K.In s.heap := e0.mod.kin.keeps up
  refine codeAny_call_function hr.depth (KX _ _ lk) rfl S.co S.gen rfl (PySem.W.codeRec_of KX hcd) (hb _ _ _ _ (wpAny_newFunctionEnv_cells S.kind ?_ ?_))
  · rintro ⟨n, v⟩ hy
    rcases S.par n (List.of_mem_zip hy).1 with q | q
    · exact Or.inl q
    · exact Or.inr ⟨q, PySem.W.cellsFrom_some _ _ _ (Or.inl q)⟩
  · intro env he s1 x
    subst he
    refine ⟨(e0.mod.nolimit.keeps up).keeps x.toInCall.keep, codeAny_func ?_⟩
    refine wpAny_mono (ht.run [] s1 (start N vs) H _ (inv_start S hr.hd e0 (len _ _ _ _ hsp) r x) hq) ?_ fun _ _ h => h
    intro fl s' hs
    cases fl with
    | ret u => obtain ⟨v, σ', H', J, rv, q⟩ := hs; exact ⟨v, H', J.os, J.bare, J.base, J.hok, rv, q⟩
    | next => obtain ⟨σ', H', J, q⟩ := hs; exact ⟨V.non, H', J.os, J.bare, J.base, J.hok, rfl, q⟩
    | brk => obtain ⟨_, _, _, q⟩ := hs; cases q
    | cont => obtain ⟨_, _, _, q⟩ := hs; cases q
theorem Fun.okG {y qual : Str} {st : Stmt} {f : Addr} {fd : FuncData} {N ps : List Str} {k : Nat} {sp : Sp} (F : Fun K y qual st f fd) (S : FnScope N ps (defScope st)) (len : ∀ vs H Q E, sp vs H Q E → vs.length = ps.length)
    (body : ∀ (cdv : Value) (A : Around) (outer : List Env) (s : Shared) (H : Hp) (vs : List V) (Q : VK) (E : XK), A.guards = some [] → Room k (A.deeper (envOfC qual (defScope st) s.heap.objs.size f cdv)) → sp vs H Q E →
      ∃ t, PSs (cxOf CX0 P w K mg base N qual (defScope st) f cdv A outer s H E).nox (defBody st) t ∧ t { nx := fun _ H' => Q .non H', rt := Q } (start N vs) H) : FnG P w K mg base CX0 (k + 1) f fd ps sp := by
  refine Ty.Fun.okX F S len ?_
  intro cdv A outer s H vs Q E h1 h2 h3
  obtain ⟨t, h4, h5⟩ := body cdv A outer s H vs Q E h1 h2 h3
  exact ⟨t, h4.nox, h5⟩
end
section
variable {X : Cx} {CX : CXT} {k n : Nat} {f : Addr} {fd : FuncData} {ps ks : List Str} {sp : Sp} {E : XK} {x : Str} {p pos : Pos} {e : Expr} {es : List Expr} {t : TA} {dvs : List V} {ds : List Value}
/-- f(e, ..) of such a def -/
theorem pe_callG (hgd : X.A.guards = some []) (F : FnG X.prog X.w X.K X.mg X.base CX k f fd ps sp) (hr : Room k X.A) (hg : Gl X x) (hm : X.mg x = some (.ref f)) (hk : PySem.W.keepIn X.K (.ref f) = true) (hb : Binds X.K fd ps ds) (hd : Vals dvs ds) (hx : Passes CX X E)
    (ha : PA X (e :: es) t) (hdb : (x == ("__debug__" : Str)) = false := by decide) (he : starEach (e :: es) X.env = (false, eval e X.env) :: starEach es X.env := by rfl) (hpl : (backTo pos (starEach es X.env)).any (·.1) = false := by rfl) :
    PE X (.Call (.Name x p) (e :: es) [] pos) (tCall sp dvs E t) := by
  constructor
  intro pins s σ H Q I h
  refine wpAny_Call_Name_kw (ld_glob I hg hm (PySem.W.callWith_K (h₀ := X.base) I.ok.mod.kin hk (thn (ha.run pos pins s σ H _ I h) ?_) he hpl) hdb)
  rintro us s1 ⟨vs, H1, I1, r, q⟩
  have r2 : Vals (vs ++ dvs) (us ++ ds) := r.append hd
  refine ⟨I1.kIn, wpAny_call (codeAny_mono (F.run X.A hgd X.stack s1 H1 ⟨us, []⟩ (us ++ ds) (vs ++ dvs) Q E hr I1.env0 (hb s1 us I1.kIn (r2.length.symm.trans (F.len _ _ _ _ q))) r2 q) ?_)⟩
  intro r s' hq
  cases r with
  | error e => exact hx pins σ H1 s1 e s' I1 hq
  | ok fl =>
    cases fl with
    | ret u => exact I1.after hq
    | _ => cases hq
end
/-- the law's call, where the law's def is promised so -/
theorem lawG {P : Program} {w : World} {K : PySem.W.Frag} {mg mb : Str → Option Value} {CX : CXT} {k : Nat} {fa a : Addr} {fd : FuncData} {x : Str} {sp : Sp} {s1 : Shared} {vs : List Value} {ns : List Int}
    (KX : K.In s1.heap) (hns : s1.heap.Ns mainGlobals mg) (hb : s1.heap.Ns builtinsNs mb) (hbb : ∀ x : Str, x ≠ "__name__" → mb x = bootBuiltins x) (hlim : s1.heap.NoLimit) (hg : s1.gens = #[])
    (ha : s1.heap.get? a = some { cls := .type "list", data := .seq vs.toArray }) (hi : IntsAre vs ns) (hl : ns.length ≤ sizeLine) (hr : Room k callerA)
    (F : ∀ base : Heap, K.In base → base.Ns mainGlobals mg → FnG P w K mg base CX k fa fd [x] sp) (hbind : ∀ (s : Shared) (u : Value), BindsTo s fd ⟨[u], []⟩ [(x, u)])
    (hsp : ∀ H : Hp, Only H → SqL K H a (ns.map V.int) → sp [.ref a] H (fun v _ => v = .bl true) fun _ _ _ => False)
    (hCX : ∀ H e s', CX [] H s1 (fun _ _ _ => False) e s' → False) :
    codeAny (model P w) callerA (.call (.ref fa) ⟨[.ref a], []⟩) (fun r s' => r = .ok (.ret (.bool true)) ∧ OldK s1.heap s'.heap ∧ s'.os = s1.os ∧ AllBare s'.gens) s1 := by
  have rv := vals_ints hi
  suffices main : ∃ H : Hp, Only H ∧ SqL K H a (ns.map V.int) ∧ HOk P w H s1.heap ∧ (∀ b, H b ≠ none → b = a) ∧ (H a ≠ none → K.lookup a = none) by
    obtain ⟨H, hO, hS, hok, hA, hK⟩ := main
    have free : ∀ {b : Addr}, b ≠ a → H b = none := fun {b} z => by
      cases q : H b with
      | none => rfl
      | some _ => exact absurd (hA b (by rw [q]; exact nofun)) z
    have dictFree : ∀ {b : Addr} {o : Obj} {es : Array DictEntry} {ep : Nat}, s1.heap.get? b = some o → o.data = .dict es ep → H b = none := fun {b o es ep} e d => by
      refine free fun z => ?_
      rw [z, ha] at e
      cases e
      cases (show Data.seq vs.toArray _ = Data.dict es ep from d)
    have keepNs : ∀ {b : Addr} {m : Str → Option Value}, s1.heap.Ns b m → (hidT s1.heap H).Ns b m := by
      rintro b m ⟨o, es, ep, e, d, r⟩
      exact ⟨o, es, ep, hidT_get e (dictFree e d), d, r⟩
    have KB : K.In (hidT s1.heap H) := fun b o e => by
      refine hidT_get (KX b o e) ?_
      by_cases z : b = a
      · cases q : H b with
        | none => rfl
        | some _ =>
          have z2 := hK (by rw [← z, q]; exact nofun)
          rw [← z, e] at z2
          cases z2
      · exact free z
    have M : Mod K mg (hidT s1.heap H) := by
      obtain ⟨mc, h1, h2⟩ := hlim
      exact ⟨KB, keepNs hns, ⟨mb, keepNs hb, hbb⟩, ⟨mc, keepNs h1, h2⟩⟩
    have e0 : Env0 P w K mg (hidT s1.heap H) callerA [] s1 H := by
      refine ⟨rfl, M, fun b o e => of_hidT e, Nat.le_of_eq (hidT_size _ _), trivial, ?_, hok, .of_eq hg⟩
      intro b hb
      cases hb
    refine codeAny_mono ((F _ KB (keepNs hns)).run callerA rfl [] s1 H ⟨[.ref a], []⟩ [.ref a] [.ref a] _ _ hr e0 (hbind s1 (.ref a)) (.cons rfl .nil) (hsp H hO hS)) ?_
    intro r s' h
    cases r with
    | error e => exact (hCX H e s' h).elim
    | ok fl =>
      cases fl with
      | ret u =>
        obtain ⟨v, H', os, bare, un, hok', r', q⟩ := h
        subst q
        obtain rfl : u = Value.bool true := r'
        refine ⟨rfl, OldK.of_keep ?_, os, bare⟩
        intro b o e
        cases q : H b with
        | none => exact un.keep b o e q (fun z => by cases z) (by simp)
        | some u =>
          rcases hO b with z | ⟨ob, xs, z⟩
          · rw [q] at z
            cases z
          · obtain ⟨e1, _⟩ := hok b _ z
            obtain ⟨e2, _⟩ := hok' b _ (un.frzs b ob _ z)
            rw [e] at e1
            cases e1
            exact e2
      | _ => cases h
  cases hk : K.lookup a with
  | some o =>
    have e := KX a o hk
    rw [ha] at e
    cases e
    have hz : vs.toArray.size ≤ sizeLine := by
      rw [List.size_toArray, hi.length]
      exact hl
    exact ⟨fun _ => none, fun _ => .inl rfl, .inr ⟨_, vs.toArray, _, hk, rfl, rfl, rfl, hz, by simpa using rv⟩, fun b u z => (nomatch z), fun b z => absurd rfl z, fun z => absurd rfl z⟩
  | none =>
    refine ⟨upd (fun _ => none) a (.frz { cls := .type "list", data := .seq vs.toArray } (.lst (ns.map V.int))), fun b => ?_, .inl (.inr ⟨_, upd_same⟩), fun b u z => ?_, fun b z => ?_, fun _ => rfl⟩
    · by_cases q : b = a
      · subst q
        exact .inr ⟨_, _, upd_same⟩
      · exact .inl (upd_ne q)
    · by_cases q : b = a
      · subst q
        rw [upd_same] at z
        cases z
        exact ⟨ha, by rw [List.length_map]; exact hl, vs, _, rv, ha⟩
      · rw [upd_ne q] at z
        cases z
    · by_cases q : b = a
      · exact q
      · exact absurd (upd_ne q) z
theorem walkG {l : PySem.W.OpenLaw} {n k : Nat} {q : Program} {loose : List Str} {XP : (Str → Option Value) → Heap → Prop} {YP : World → Heap → Prop} {d : DefRec} {K : Params → PySem.W.Frag} {CX : World → CXT} {sp : World → Sp} {x : Str}
    (hn : l.most = some n) (hn2 : n ≤ sizeLine) (hdf : d.params.defaults = []) (hr : Room k callerA)
    (hY : ∀ (w : World) (h : Heap), YP w h → (K w.params).In h)
    (F : ∀ (w : World) (mg : Str → Option Value) (fa : Addr) (h : Heap), (K w.params).In h → h.Ns mainGlobals mg → mg d.name = some (.ref fa) →
      ∃ fd : FuncData, (∀ (s : Shared) (u : Value), BindsTo s fd ⟨[u], []⟩ [(x, u)]) ∧
        ∀ base : Heap, (K w.params).In base → base.Ns mainGlobals mg → FnG l.prog w (K w.params) mg base (CX w) k fa fd [x] (sp w))
    (hsp : ∀ (w : World) (H : Hp) (a : Addr) (ns : List Int), ns.length ≤ n → Only H → SqL (K w.params) H a (ns.map V.int) → sp w [.ref a] H (fun v _ => v = .bl true) fun _ _ _ => False)
    (hCX : ∀ (w : World) (H : Hp) (s : Shared) (e : Value) (s' : Shared), CX w [] H s (fun _ _ _ => False) e s' → False) :
    PySem.W.WalkO q loose XP YP l.row.toRowW d [] (fun f vs => PySem.call f vs) := by
  refine Att.attach_call hn hdf ?_
  intro w s0 s1 mg mb fa o pm cd doc a vs ns G Y ho hd hcd hmg hobj hints hlen hg
  obtain ⟨fd, hb, hF⟩ := F w mg fa _ (hY w _ Y) G.T.g hmg
  refine lawG (hY w _ Y) G.T.g G.T.b G.T.builtins G.T.nolimit hg hobj hints (Nat.le_trans hlen hn2) hr hF hb (hsp w · a ns hlen) ?_
  exact fun H e s' => hCX w H s1 e s'
end Ty
namespace Ty
open PySem PySem.Spec PyProof.Rows L2
/-- the values in the parameters' order -/
def perm {α : Type} (is : List Nat) (l : List α) : List α := is.filterMap fun i => l[i]?
theorem Vals.perm {vs : List V} {us : List Value} (r : Vals vs us) : ∀ is : List Nat, Vals (Ty.perm is vs) (Ty.perm is us)
  | [] => .nil
  | i :: is => by
    have ih := Vals.perm r is
    cases e : vs[i]? with
    | none =>
      have e2 : us[i]? = none := by
        rw [List.getElem?_eq_none_iff] at e ⊢
        rw [← r.length]
        exact e
      have h1 : Ty.perm (i :: is) vs = Ty.perm is vs := by
        unfold Ty.perm
        rw [List.filterMap_cons, e]
      have h2 : Ty.perm (i :: is) us = Ty.perm is us := by
        unfold Ty.perm
        rw [List.filterMap_cons, e2]
      rw [h1, h2]
      exact ih
    | some v =>
      obtain ⟨u, e2, ru⟩ := r.get e
      have h1 : Ty.perm (i :: is) vs = v :: Ty.perm is vs := by
        unfold Ty.perm
        rw [List.filterMap_cons, e]
      have h2 : Ty.perm (i :: is) us = u :: Ty.perm is us := by
        unfold Ty.perm
        rw [List.filterMap_cons, e2]
      rw [h1, h2]
      exact .cons ru ih
/-- what a for or a comprehension walks: a list or a tuple -/
theorem pi_or {X : Cx} {tg l : Expr} {w w' : TI} (h : PI X tg l w) (h' : PI X tg l w') : PI X tg l (fun σ H R => w σ H R ∨ w' σ H R) := by
  refine ⟨?_⟩
  intro pins s σ H R I hw
  rcases hw with hw | hw
  · exact h.run pins s σ H R I hw
  · exact h'.run pins s σ H R I hw
end Ty

namespace Ty
open PySem PySem.Spec PyProof.Rows L2
/-! ### tests -/
section
variable {b : Bool} {c A B : Prop}
theorem iteN (h1 : b = false → A) (h2 : b = true → B) : if (!b) = true then A else B := by
  cases b with
  | false => rw [if_pos (by rfl)]; exact h1 rfl
  | true => rw [if_neg (by decide)]; exact h2 rfl
theorem iteB (h1 : b = true → A) (h2 : b = false → B) : if b = true then A else B := by
  cases b with
  | false => rw [if_neg (by decide)]; exact h2 rfl
  | true => rw [if_pos rfl]; exact h1 rfl
theorem iteD [Decidable c] (h1 : c → A) (h2 : ¬ c → B) : if decide c = true then A else B := by
  by_cases h : c
  · rw [if_pos (decide_eq_true h)]; exact h1 h
  · rw [if_neg (by rw [decide_eq_false h]; decide)]; exact h2 h
theorem iteE [Decidable c] (h1 : ¬ c → A) (h2 : c → B) : if (!decide c) = true then A else B := by
  by_cases h : c
  · rw [if_neg (by rw [decide_eq_true h]; decide)]; exact h2 h
  · rw [if_pos (by rw [decide_eq_false h]; rfl)]; exact h1 h
end
theorem int_ne {i j : Int} (h : ¬ V.int i = V.int j) : i ≠ j := fun e => h (congrArg V.int e)
theorem int_eq {i j : Int} (h : V.int i = V.int j) : i = j := by injection h
/-! ### numbers, points, turns among all values -/
def coprime (a b : Int) : Bool := decide (Nat.gcd a.natAbs b.natAbs = 1)
def isPair : List Da → Bool
  | [.int a, .int b] => decide (2 ≤ b) && coprime a b
  | _ => false
theorem isPair_len : ∀ l : List Da, l.length ≠ 2 → isPair l = false := by
  intro l h
  unfold isPair
  split
  · exact absurd rfl h
  · rfl
def isNum (d : Da) : Bool := isN d || (isS d && isPair (items d))
def isTwo : List Da → Bool
  | [a, b] => isNum a && isNum b
  | _ => false
def isPt (d : Da) : Bool := isS d && isTwo (items d)
/-- above and below the line -/
def above : Da → Int
  | .int i => i
  | .tup [.int a, _] => a
  | .lst [.int a, _] => a
  | _ => 0
def below : Da → Int
  | .int _ => 1
  | .tup [_, .int b] => b
  | .lst [_, .int b] => b
  | _ => 1
def onRing : List Da → Bool
  | [x, y] => decide ((above x * below y) ^ 2 + (above y * below x) ^ 2 = (below x * below y) ^ 2)
  | _ => false
def isTurn (d : Da) : Bool := isPt d && onRing (items d)
def optV : Option Int → V
  | none => .non
  | some i => .int i
def okLo (i : Int) : Option Int → Bool
  | none => true
  | some l => decide (l ≤ i)
def okHi (i : Int) : Option Int → Bool
  | none => true
  | some m => decide (i ≤ m)
def within (d : Da) (lo hi : Option Int) : Bool := match d with
  | .int i => okLo i lo && okHi i hi
  | _ => false
/-! ### promises -/
def spD (f : Da → Bool) : Sp := fun vs H Q _ => ∃ v d, vs = [v] ∧ Is H v d ∧ ∀ H', Same H H' → Q (.bl (f d)) H'
def spW : Sp := fun vs H Q _ => ∃ v d lo hi, vs = [v, optV lo, optV hi] ∧ Is H v d ∧ ∀ H', Same H H' → Q (.bl (within d lo hi)) H'
theorem isN_of {H : Hp} {v : V} {d : Da} (h : Is H v d) (e : isN d = true) : ∃ i, v = .int i ∧ d = .int i := by
  cases h with
  | int i => exact ⟨i, rfl, rfl⟩
  | _ => cases e
/-- the integers of a value are below 2 ^ n -/
def smallA (n : Nat) : List Da → Bool
  | [] => true
  | .int i :: l => decide (i.natAbs < 2 ^ n) && smallA n l
  | _ :: l => smallA n l
def small2 (n : Nat) : Da → Bool
  | .int i => decide (i.natAbs < 2 ^ n)
  | .tup l => smallA n l
  | .lst l => smallA n l
  | _ => true
def small3 (n : Nat) (d : Da) : Bool := (items d).all (small2 n)
/-- more bits than any integer has here -/
def huge : Nat := 200000
def spT : Sp := fun vs H Q _ => ∃ v d, vs = [v] ∧ Is H v d ∧ small3 huge d = true ∧ ∀ H', Same H H' → Q (.bl (isTurn d)) H'
/-- above and below of a number that stands there -/
theorem num_cases {H : Hp} {v : V} {d : Da} (h : Is H v d) (e : isNum d = true) : (∃ i, v = .int i ∧ d = .int i) ∨
    ∃ a i j, v = .ref a ∧ (H a = some (.tup [.int i, .int j]) ∧ d = .tup [.int i, .int j] ∨ H a = some (.lst [.int i, .int j]) ∧ d = .lst [.int i, .int j]) ∧ 2 ≤ j ∧ Nat.gcd i.natAbs j.natAbs = 1 := by
  have two : ∀ {xs : List V} {ds : List Da}, IsAll H xs ds → isPair ds = true → ∃ i j, xs = [.int i, .int j] ∧ ds = [.int i, .int j] ∧ 2 ≤ j ∧ Nat.gcd i.natAbs j.natAbs = 1 := by
    intro xs ds hx hp
    match ds, hp with
    | [.int a, .int b], hp =>
      have hp' : (decide (2 ≤ b) && coprime a b) = true := hp
      rw [Bool.and_eq_true] at hp'
      cases hx with
      | cons h1 hx =>
        cases hx with
        | cons h2 hx =>
          cases hx
          cases h1
          cases h2
          exact ⟨a, b, rfl, rfl, of_decide_eq_true hp'.1, of_decide_eq_true hp'.2⟩
  cases h with
  | int i => exact .inl ⟨i, rfl, rfl⟩
  | tup ha hx =>
    obtain ⟨i, j, rfl, rfl, h2, h3⟩ := two hx (by simpa [isNum, isN, isS, items] using e)
    exact .inr ⟨_, i, j, rfl, .inl ⟨ha, rfl⟩, h2, h3⟩
  | lst ha hx =>
    obtain ⟨i, j, rfl, rfl, h2, h3⟩ := two hx (by simpa [isNum, isN, isS, items] using e)
    exact .inr ⟨_, i, j, rfl, .inr ⟨ha, rfl⟩, h2, h3⟩
  | _ => cases e
/-- a number's two parts, given as a pair: a tuple, or the list itself -/
def spParts : Sp := fun vs H Q _ => ∃ v d, vs = [v] ∧ Is H v d ∧ isNum d = true ∧ ∀ H' p, Same H H' → (H' p = some (.tup [.int (above d), .int (below d)]) ∨ H' p = some (.lst [.int (above d), .int (below d)])) → Q (.ref p) H'
end Ty
namespace Ty
open PySem PySem.Spec PyProof.Rows L2
theorem dec_int (i j : Int) : decide (V.int i = V.int j) = decide (i = j) := by
  by_cases h : i = j
  · rw [decide_eq_true h]
    exact decide_eq_true (by rw [h])
  · rw [decide_eq_false h]
    exact decide_eq_false fun z => h (int_eq z)
/-- a number's two parts as a pair -/
def PtP (H : Hp) (u : V) (d : Da) : Prop := ∃ p, u = .ref p ∧ (H p = some (.tup [.int (above d), .int (below d)]) ∨ H p = some (.lst [.int (above d), .int (below d)]))
theorem PtP.up {H H' : Hp} {u : V} {d : Da} (h : PtP H u d) (s : Same H H') : PtP H' u d := by
  obtain ⟨p, rfl, h | h⟩ := h
  · exact ⟨p, rfl, .inl (s _ _ h)⟩
  · exact ⟨p, rfl, .inr (s _ _ h)⟩
theorem PtP.upd {H : Hp} {u : V} {d : Da} {D : Addr} {o : HO} {acc : List V} (h : PtP H u d) (hD : H D = some (.lst acc)) (hl : acc.length ≠ 2) : PtP (L2.upd H D o) u d := by
  obtain ⟨p, rfl, h | h⟩ := h
  · refine ⟨p, rfl, .inl ?_⟩
    rw [upd_ne (ne_of h hD (by intro z; cases z))]
    exact h
  · refine ⟨p, rfl, .inr ?_⟩
    rw [upd_ne (fun z => by
      rw [z, hD] at h
      injection h with h
      injection h with h
      exact hl (by rw [h]; rfl))]
    exact h
theorem un2 {K : PySem.W.Frag} {H : Hp} {u : V} {d : Da} {i j : Nat} {σ : L2.St} {Q : L2.St → Hp → Prop} (h : PtP H u d) (q : Q ((σ.set i (some (.int (above d)))).set j (some (.int (below d)))) H) :
    gUnl K 2 (gCons (gName i) (gCons (gName j) gNil)) u σ H Q ∨ gTup K 2 (gCons (gName i) (gCons (gName j) gNil)) u σ H Q := by
  obtain ⟨p, rfl, h | h⟩ := h
  · exact .inr ⟨p, _, rfl, .inl (.inl h), rfl, _, _, rfl, _, _, rfl, rfl, q⟩
  · exact .inl ⟨p, _, rfl, .inl (.inl h), rfl, _, _, rfl, _, _, rfl, rfl, q⟩
theorem parts_small {n : Nat} {d : Da} (h0 : 0 < n) (h : isNum d = true) (hs : small2 n d = true) : (above d).natAbs < 2 ^ n ∧ (below d).natAbs < 2 ^ n := by
  have one : (1 : Int).natAbs < 2 ^ n := Nat.one_lt_two_pow (by omega)
  match d, h, hs with
  | .int i, _, hs => exact ⟨of_decide_eq_true hs, one⟩
  | .tup [.int a, .int b], _, hs =>
    have hs' : (decide (a.natAbs < 2 ^ n) && (decide (b.natAbs < 2 ^ n) && true)) = true := hs
    rw [Bool.and_eq_true, Bool.and_eq_true] at hs'
    exact ⟨of_decide_eq_true hs'.1, of_decide_eq_true hs'.2.1⟩
  | .lst [.int a, .int b], _, hs =>
    have hs' : (decide (a.natAbs < 2 ^ n) && (decide (b.natAbs < 2 ^ n) && true)) = true := hs
    rw [Bool.and_eq_true, Bool.and_eq_true] at hs'
    exact ⟨of_decide_eq_true hs'.1, of_decide_eq_true hs'.2.1⟩
theorem pow_ok {i : Int} {a : Nat} (h : i.natAbs < 2 ^ a) (h0 : 0 < a) (ha : a ≤ 1000000) : CPowW i 2 :=
  ⟨by decide, by decide, Nat.lt_of_lt_of_le (PySem.Flt.log2_lt_of h0 h) ha⟩
theorem Same.mut {H H' : Hp} {p : Addr} {o : HO} (e : Same H H') (h : H p = none) : Same H (upd H' p o) := fun a u ha => by
  rw [upd_ne (ne_of_none ha h)]
  exact e a u ha
theorem isPt_of {d : Da} (h : isPt d = true) : isS d = true ∧ ∃ x y, items d = [x, y] ∧ isNum x = true ∧ isNum y = true := by
  have h' : (isS d && isTwo (items d)) = true := h
  rw [Bool.and_eq_true] at h'
  refine ⟨h'.1, ?_⟩
  have h2 := h'.2
  match items d, h2 with
  | [x, y], h2 =>
    have h3 : (isNum x && isNum y) = true := h2
    rw [Bool.and_eq_true] at h3
    exact ⟨x, y, rfl, h3.1, h3.2⟩
theorem IsAll.two {H : Hp} {xs : List V} {x y : Da} (h : IsAll H xs [x, y]) : ∃ u v, xs = [u, v] ∧ Is H u x ∧ Is H v y := by
  cases h with
  | cons h1 h =>
    cases h with
    | cons h2 h =>
      cases h
      exact ⟨_, _, rfl, h1, h2⟩
end Ty

namespace Ty
open PySem PySem.Spec PyProof.Rows L2
/-! ### what is drawn from: one list that changes, all else stays -/
/-- the heap without some addresses -/
def mn (S : Addr → Bool) (H : Hp) : Hp := fun b => if S b = true then none else H b
theorem mn_at {S : Addr → Bool} {H : Hp} {b : Addr} (h : S b = false) : mn S H b = H b := if_neg (by rw [h]; decide)
theorem mn_of {S : Addr → Bool} {H : Hp} {b : Addr} {o : HO} (h : mn S H b = some o) : S b = false ∧ H b = some o := by
  cases e : S b with
  | true =>
    have z : mn S H b = none := if_pos e
    rw [z] at h
    cases h
  | false => exact ⟨rfl, (mn_at e).symm.trans h⟩
theorem mn_same {S : Addr → Bool} {H : Hp} : Same (mn S H) H := fun _ _ h => (mn_of h).2
/-- they all stand -/
def Live (S : Addr → Bool) (H : Hp) : Prop := ∀ b, S b = true → H b ≠ none
theorem mn_put {S : Addr → Bool} {H : Hp} {p : Addr} {o : HO} (l : Live S H) (h : H p = none) : mn S (upd H p o) p = some o := by
  have e : S p = false := by
    cases e : S p with
    | false => rfl
    | true => exact absurd h (l p e)
  rw [mn_at e]
  exact upd_same
theorem Same.less {S : Addr → Bool} {H H' : Hp} (s : Same H H') : Same (mn S H) (mn S H') := fun b o h => by
  obtain ⟨h1, h2⟩ := mn_of h
  rw [mn_at h1]
  exact s _ _ h2
/-- what is not the list at j stays -/
def Keep (j : Addr) (H H' : Hp) : Prop := ∀ b o, b ≠ j → H b = some o → H' b = some o
theorem Keep.refl {j : Addr} (H : Hp) : Keep j H H := fun _ _ _ h => h
theorem Keep.trans {j : Addr} {H H1 H2 : Hp} (a : Keep j H H1) (b : Keep j H1 H2) : Keep j H H2 := fun c o h e => b c o h (a c o h e)
theorem Same.keep {j : Addr} {H H' : Hp} (s : Same H H') : Keep j H H' := fun b o _ h => s b o h
theorem keep_upd {H : Hp} {j : Addr} {o : HO} : Keep j H (upd H j o) := fun b u h e => by
  rw [upd_ne h]
  exact e
theorem Keep.less {S : Addr → Bool} {j : Addr} {H H' : Hp} (k : Keep j H H') (hj : S j = true) : Same (mn S H) (mn S H') := fun b o h => by
  obtain ⟨h1, h2⟩ := mn_of h
  rw [mn_at h1]
  exact k b o (fun z => by rw [z, hj] at h1; cases h1) h2
/-- the list at j: the cells, how many were begun (n at most), what is left of a great one -/
def Jar (j b : Addr) (H : Hp) (n : Nat) : Prop := ∃ (cells : List Int) (at_ left : Int), H j = some (.lst [.ref b, .int at_, .int left]) ∧ H b = some (.lst (cells.map V.int)) ∧ b ≠ j ∧ 0 ≤ at_ ∧ at_ ≤ (n : Int)
theorem Jar.up {j bk : Addr} {H H' : Hp} {n : Nat} (h : Jar j bk H n) (s : Same H H') : Jar j bk H' n := by
  obtain ⟨cells, a, l, h1, h2, h3, h4⟩ := h
  exact ⟨cells, a, l, s _ _ h1, s _ _ h2, h3, h4⟩
theorem Live.up {S : Addr → Bool} {j bk : Addr} {H H' : Hp} {n : Nat} (l : Live S H) (k : Keep j H H') (J : Jar j bk H' n) : Live S H' := fun b hb => by
  by_cases e : b = j
  · subst e
    obtain ⟨cells, a, lf, h1, _⟩ := J
    rw [h1]
    exact nofun
  · cases q : H b with
    | none => exact absurd q (l b hb)
    | some o =>
      rw [k b o e q]
      exact nofun
theorem Jar.put {j bk a : Addr} {H : Hp} {n : Nat} {o : HO} (h : Jar j bk H n) (h1 : a ≠ j) (h2 : a ≠ bk) : Jar j bk (upd H a o) n := by
  obtain ⟨cells, at_, l, e1, e2, e3⟩ := h
  refine ⟨cells, at_, l, ?_, ?_, e3⟩
  · rw [upd_ne h1.symm]
    exact e1
  · rw [upd_ne h2.symm]
    exact e2
theorem Jar.newB {j bk p : Addr} {H : Hp} {n : Nat} (h : Jar j bk H n) (hp : H p = none) : p ≠ bk := by
  obtain ⟨cells, at_, l, _, h1, _⟩ := h
  exact fun e => by rw [e, h1] at hp; cases hp
theorem Jar.le {j bk : Addr} {H : Hp} {n m : Nat} (h : Jar j bk H n) (s : n ≤ m) : Jar j bk H m := by
  obtain ⟨cells, a, l, h1, h2, h3, h4, h5⟩ := h
  exact ⟨cells, a, l, h1, h2, h3, h4, by omega⟩
theorem Jar.new {j bk p : Addr} {H : Hp} {n : Nat} (h : Jar j bk H n) (hp : H p = none) : p ≠ j := by
  obtain ⟨cells, a, l, h1, _⟩ := h
  exact fun e => by rw [e, h1] at hp; cases hp
/-- an integer from 0 below many -/
def spReach : Sp := fun vs H Q _ => ∃ (j bk : Addr) (many : Int) (n : Nat), vs = [.ref j, .int many] ∧ Jar j bk H n ∧ n ≤ 100000 ∧ 0 < many ∧ many.natAbs < 2 ^ 8000 ∧
  ∀ (r : Int) (H' : Hp), Keep j H H' → Jar j bk H' (n + 1) → 0 ≤ r → r < many → Q (.int r) H'
/-- one of some things -/
def spPick : Sp := fun vs H Q _ => ∃ (j bk p : Addr) (xs : List V) (n : Nat), vs = [.ref j, .ref p] ∧ Jar j bk H n ∧ n ≤ 100000 ∧ H p = some (.lst xs) ∧ p ≠ j ∧ 0 < xs.length ∧ xs.length ≤ 1000 ∧
  ∀ (v : V) (H' : Hp), Keep j H H' → Jar j bk H' (n + 1) → v ∈ xs → Q v H'
/-- what draws, made of the script -/
def spSack (K : PySem.W.Frag) : Sp := fun vs H Q _ => ∃ (a : Addr) (ns : List Int), vs = [.ref a] ∧ SqL K H a (ns.map V.int) ∧ ns.length ≤ 1000 ∧
  ∀ (j bk : Addr) (H' : Hp), Same H H' → H j = none → H bk = none → Jar j bk H' 0 → Q (.ref j) H'
theorem mod_lt_of {a b : Int} (h : 0 < b) : 0 ≤ a % b ∧ a % b < b := ⟨Int.emod_nonneg _ (by omega), Int.emod_lt_of_pos _ h⟩
theorem atI_of {xs : List V} {i : Int} {v : V} {n : Nat} (h0 : 0 ≤ i) (hn : i.toNat = n) (h : xs[n]? = some v) : atI xs i = some v := by
  have e : i = ((n : Nat) : Int) := by omega
  rw [e]
  exact atI_nat h
theorem cut_ints (ns : List Int) (lo hi : Option Int) : ∃ ms : List Int, cutV (ns.map V.int) lo hi = ms.map V.int ∧ ms.length ≤ ns.length := by
  refine ⟨(ns.drop (HT.sIx (ns.map V.int).length 0 lo)).take (HT.sIx (ns.map V.int).length (ns.map V.int).length hi - HT.sIx (ns.map V.int).length 0 lo), ?_, ?_⟩
  · unfold cutV
    rw [List.map_take, List.map_drop]
  · rw [List.length_take, List.length_drop]
    omega
end Ty

namespace Ty
open PySem PySem.Spec PyProof.Rows L2
/-! ### drawing: an expression that may draw from the list at j; S: what is out of the data (j is) -/
/-- from any heap behind H0 the expression gives a value of which P holds; c draws at most -/
def Dr (S : Addr → Bool) (j bk : Addr) (H0 : Hp) (c : Nat) (σ : L2.St) (te : TE) (P : Da → Prop) : Prop := ∀ (H : Hp) (n : Nat) (Q : VK), Keep j H0 H → Live S H → Jar j bk H n → n + c ≤ 100000 →
  (∀ v d H', Keep j H H' → Live S H' → Jar j bk H' (n + c) → Is (mn S H') v d → P d → Q v H') → te σ H Q
def DrA (S : Addr → Bool) (j bk : Addr) (H0 : Hp) (c : Nat) (σ : L2.St) (ta : TA) (P : List Da → Prop) : Prop := ∀ (H : Hp) (n : Nat) (Q : List V → Hp → Prop), Keep j H0 H → Live S H → Jar j bk H n → n + c ≤ 100000 →
  (∀ vs ds H', Keep j H H' → Live S H' → Jar j bk H' (n + c) → IsAll (mn S H') vs ds → P ds → Q vs H') → ta σ H Q
/-- a test -/
def DrT (S : Addr → Bool) (j bk : Addr) (H0 : Hp) (c : Nat) (σ : L2.St) (tt : TT) (P : Bool → Prop) : Prop := ∀ (H : Hp) (n : Nat) (Q : Bool → Hp → Prop), Keep j H0 H → Live S H → Jar j bk H n → n + c ≤ 100000 →
  (∀ b H', Keep j H H' → Live S H' → Jar j bk H' (n + c) → P b → Q b H') → tt σ H Q
theorem Live.more {S : Addr → Bool} {H H' : Hp} (l : Live S H) (s : Same H H') : Live S H' := fun b hb z => by
  cases q : H b with
  | none => exact l b hb q
  | some o =>
    rw [s b o q] at z
    cases z
section
variable {S : Addr → Bool} {j bk : Addr} {H0 H : Hp} {c c1 c2 n : Nat} {σ : L2.St} {te ta tb : TE} {tr : TA} {tt : TT} {P P1 P2 : Da → Prop} {K : PySem.W.Frag}
theorem Dr.imp (h : Dr S j bk H0 c σ te P) (g : ∀ d, P d → P1 d) : Dr S j bk H0 c σ te P1 := fun H n Q kp lv J hn k => h H n Q kp lv J hn fun v d H' kp' lv' J' hi hp => k v d H' kp' lv' J' hi (g d hp)
theorem Dr.later (h : Dr S j bk H0 c σ te P) (kp : Keep j H0 H) : Dr S j bk H c σ te P := fun H1 n Q kp1 lv J hn k => h H1 n Q (kp.trans kp1) lv J hn k
theorem Dr.more (h : Dr S j bk H0 c σ te P) (hc : c ≤ c1) : Dr S j bk H0 c1 σ te P := fun H n Q kp lv J hn k => h H n Q kp lv J (by omega) fun v d H' kp' lv' J' hi hp => k v d H' kp' lv' (J'.le (by omega)) hi hp
theorem dr_non : Dr S j bk H0 0 σ (tC .non) (· = .non) := fun H n Q kp lv J hn k => k _ _ H (Keep.refl _) lv J .non rfl
theorem dr_bl {b : Bool} : Dr S j bk H0 0 σ (tC (.bl b)) (· = .bl b) := fun H n Q kp lv J hn k => k _ _ H (Keep.refl _) lv J (.bl b) rfl
theorem dr_int {i : Int} : Dr S j bk H0 0 σ (tC (.int i)) (· = .int i) := fun H n Q kp lv J hn k => k _ _ H (Keep.refl _) lv J (.int i) rfl
theorem dr_str {x : Str} : Dr S j bk H0 0 σ (tC (.str x)) (· = .str x) := fun H n Q kp lv J hn k => k _ _ H (Keep.refl _) lv J (.str x) rfl
theorem dr_var {i : Nat} {v : V} {d : Da} (hj : S j = true) (h : σ[i]? = some (some v)) (hv : Is (mn S H0) v d) : Dr S j bk H0 0 σ (tVar i) (· = d) := fun H n Q kp lv J hn k => ⟨v, h, k _ _ H (Keep.refl _) lv J (hv.up (kp.less hj)) rfl⟩
theorem dr_varI {i : Nat} {z : Int} (h : σ[i]? = some (some (.int z))) : Dr S j bk H0 0 σ (tVar i) (· = .int z) := fun H n Q kp lv J hn k => ⟨_, h, k _ _ H (Keep.refl _) lv J (.int z) rfl⟩
theorem drA_nil : DrA S j bk H0 0 σ tNil (· = []) := fun H n Q kp lv J hn k => k _ _ H (Keep.refl _) lv J .nil rfl
theorem drA_cons {P2 : List Da → Prop} (hj : S j = true) (h : Dr S j bk H0 c1 σ te P) (hr : DrA S j bk H0 c2 σ tr P2) : DrA S j bk H0 (c1 + c2) σ (tCons te tr) (fun ds => ∃ d r, ds = d :: r ∧ P d ∧ P2 r) := fun H n Q kp lv J hn k =>
  h H n _ kp lv J (by omega) fun v d H1 k1 l1 J1 h1 p1 => hr H1 (n + c1) _ (kp.trans k1) l1 J1 (by omega) fun vs ds H2 k2 l2 J2 h2 p2 => k _ _ H2 (k1.trans k2) l2 (by rwa [Nat.add_assoc] at J2) (.cons (h1.up (k2.less hj)) h2) ⟨d, ds, rfl, p1, p2⟩
theorem dr_tup {P2 : List Da → Prop} (h : DrA S j bk H0 c σ tr P2) (hl : ∀ ds, P2 ds → ds.length ≤ 1000) : Dr S j bk H0 c σ (tTup tr) (fun d => ∃ ds, d = .tup ds ∧ P2 ds) := fun H n Q kp lv J hn k =>
  h H n _ kp lv J hn fun vs ds H1 k1 l1 J1 h1 p1 => ⟨by rw [h1.length]; exact Nat.le_trans (hl ds p1) (by decide), fun p hp =>
    k _ _ _ (k1.trans (Same.keep (Same.new hp))) (l1.more (Same.new hp)) (J1.up (Same.new hp)) (.tup (mn_put l1 hp) (h1.up (Same.less (Same.new hp)))) ⟨ds, rfl, p1⟩⟩
theorem dr_lst {P2 : List Da → Prop} (h : DrA S j bk H0 c σ tr P2) (hl : ∀ ds, P2 ds → ds.length ≤ 1000) : Dr S j bk H0 c σ (tLst tr) (fun d => ∃ ds, d = .lst ds ∧ P2 ds) := fun H n Q kp lv J hn k =>
  h H n _ kp lv J hn fun vs ds H1 k1 l1 J1 h1 p1 => ⟨by rw [h1.length]; exact Nat.le_trans (hl ds p1) (by decide), fun p hp =>
    k _ _ _ (k1.trans (Same.keep (Same.new hp))) (l1.more (Same.new hp)) (J1.up (Same.new hp)) (.lst (mn_put l1 hp) (h1.up (Same.less (Same.new hp)))) ⟨ds, rfl, p1⟩⟩
theorem dr_dict : Dr S j bk H0 0 σ tDNewK (· = .dic) := fun H n Q kp lv J hn k p hp =>
  k _ _ _ (Same.keep (Same.new hp)) (lv.more (Same.new hp)) (J.up (Same.new hp)) (.dic (mn_put lv hp)) rfl
/-- an operation on two integers -/
theorem dr_op {C : Int → Int → Prop} {g : Int → Int → Int} {Pa Pb : Int → Prop} (ha : Dr S j bk H0 c1 σ ta (fun d => ∃ i, d = .int i ∧ Pa i)) (hb : Dr S j bk H0 c2 σ tb (fun d => ∃ i, d = .int i ∧ Pb i)) (hc : ∀ a b, Pa a → Pb b → C a b) :
    Dr S j bk H0 (c1 + c2) σ (tOp (rI C fun i j => .int (g i j)) ta tb) (fun d => ∃ i, d = .int i ∧ ∃ a b, Pa a ∧ Pb b ∧ i = g a b) := fun H n Q kp lv J hn k =>
  ha H n _ kp lv J (by omega) fun v d H1 k1 l1 J1 h1 p1 => hb H1 (n + c1) _ (kp.trans k1) l1 J1 (by omega) fun u e H2 k2 l2 J2 h2 p2 => by
    obtain ⟨a, rfl, pa⟩ := p1
    obtain ⟨b, rfl, pb⟩ := p2
    cases h1
    cases h2
    exact ⟨a, b, rfl, rfl, hc a b pa pb, k _ _ H2 (k1.trans k2) l2 (by rwa [Nat.add_assoc] at J2) (.int _) ⟨_, rfl, a, b, pa, pb, rfl⟩⟩
theorem dr_op0 {g : Int → Int → Int} {Pa Pb : Int → Prop} (ha : Dr S j bk H0 c1 σ ta (fun d => ∃ i, d = .int i ∧ Pa i)) (hb : Dr S j bk H0 c2 σ tb (fun d => ∃ i, d = .int i ∧ Pb i)) :
    Dr S j bk H0 (c1 + c2) σ (tOp (rI0 fun i j => .int (g i j)) ta tb) (fun d => ∃ i, d = .int i ∧ ∃ a b, Pa a ∧ Pb b ∧ i = g a b) := fun H n Q kp lv J hn k =>
  ha H n _ kp lv J (by omega) fun v d H1 k1 l1 J1 h1 p1 => hb H1 (n + c1) _ (kp.trans k1) l1 J1 (by omega) fun u e H2 k2 l2 J2 h2 p2 => by
    obtain ⟨a, rfl, pa⟩ := p1
    obtain ⟨b, rfl, pb⟩ := p2
    cases h1
    cases h2
    exact ⟨a, b, rfl, rfl, k _ _ H2 (k1.trans k2) l2 (by rwa [Nat.add_assoc] at J2) (.int _) ⟨_, rfl, a, b, pa, pb, rfl⟩⟩
theorem dr_neg {i : Int} : Dr S j bk H0 0 σ (tUn (rU fun i => .int (-i)) (tC (.int i))) (· = .int (-i)) := fun H n Q kp lv J hn k => ⟨i, rfl, k _ _ H (Keep.refl _) lv J (.int _) rfl⟩
theorem dr_pow {a b : Int} (h : CPow a b) : Dr S j bk H0 0 σ (tOp (rI CPow fun i j => .int (i ^ j.toNat)) (tC (.int a)) (tC (.int b))) (· = .int (a ^ b.toNat)) := fun H n Q kp lv J hn k => ⟨a, b, rfl, rfl, h, k _ _ H (Keep.refl _) lv J (.int _) rfl⟩
theorem dr_cI {i : Int} : Dr S j bk H0 0 σ (tC (.int i)) (fun d => ∃ z, d = .int z ∧ z = i) := dr_int.imp fun d h => ⟨i, h, rfl⟩
theorem dr_vI {i : Nat} {z : Int} (h : σ[i]? = some (some (.int z))) : Dr S j bk H0 0 σ (tVar i) (fun d => ∃ y, d = .int y ∧ y = z) := (dr_varI h).imp fun d h => ⟨z, h, rfl⟩
/-- a draw: f(jar, many) -/
theorem dr_reach {i : Nat} {many : Int} (h : σ[i]? = some (some (.ref j))) (hp : 0 < many) (hb : many.natAbs < 2 ^ 8000) : Dr S j bk H0 1 σ (tCall spReach [] E0 (tCons (tVar i) (tCons (tC (.int many)) tNil))) (fun d => ∃ r, d = .int r ∧ 0 ≤ r ∧ r < many) := fun H n Q kp lv J hn k =>
  ⟨_, h, j, bk, many, n, rfl, J, by omega, hp, hb, fun r H' k1 J1 h0 h1 => k _ _ H' k1 (lv.up k1 J1) J1 (.int r) ⟨r, rfl, h0, h1⟩⟩
/-- one of some things -/
theorem dr_pick {i : Nat} {P2 : List Da → Prop} (hj : S j = true) (h : σ[i]? = some (some (.ref j))) (hr : DrA S j bk H0 c σ tr P2) (hl : ∀ ds, P2 ds → 0 < ds.length ∧ ds.length ≤ 1000) :
    Dr S j bk H0 (c + 1) σ (tCall spPick [] E0 (tCons (tVar i) (tCons (tLst tr) tNil))) (fun d => ∃ ds, P2 ds ∧ d ∈ ds) := fun H n Q kp lv J hn k =>
  ⟨_, h, hr H n _ kp lv J (by omega) fun vs ds H1 k1 l1 J1 h1 p1 => ⟨by rw [h1.length]; exact Nat.le_trans (hl ds p1).2 (by decide), fun p hp => by
    have hpj := J1.new hp
    have s1 : Same H1 (upd H1 p (.lst vs)) := Same.new hp
    have hl1 := hl ds p1
    have hl2 := h1.length
    refine ⟨j, bk, p, vs, n + c, rfl, J1.up s1, by omega, upd_same, hpj, by omega, by omega, fun v H' k2 J2 hv => ?_⟩
    obtain ⟨i, hi⟩ := List.getElem?_of_mem hv
    obtain ⟨d, hd, hi2⟩ := h1.at hi
    have k3 : Keep j H1 H' := (Same.keep s1).trans k2
    exact k v d H' (k1.trans k3) (l1.up k3 J2) (by rwa [Nat.add_assoc] at J2) (hi2.up (k3.less hj)) ⟨ds, p1, List.mem_of_getElem? hd⟩⟩⟩
/-- if, between two expressions -/
theorem dr_if {PT : Bool → Prop} (h : DrT S j bk H0 c1 σ tt PT) (ha : ∀ H1, Keep j H0 H1 → PT true → Dr S j bk H1 c2 σ ta P) (hb : ∀ H1, Keep j H0 H1 → PT false → Dr S j bk H1 c2 σ tb P) : Dr S j bk H0 (c1 + c2) σ (tIf tt ta tb) P := fun H n Q kp lv J hn k =>
  h H n _ kp lv J (by omega) fun b H1 k1 l1 J1 p1 => by
    have fin : ∀ v d H', Keep j H1 H' → Live S H' → Jar j bk H' (n + c1 + c2) → Is (mn S H') v d → P d → Q v H' := fun v d H' k2 l2 J2 h2 p2 => k v d H' (k1.trans k2) l2 (by rwa [Nat.add_assoc] at J2) h2 p2
    cases b with
    | true => exact ha H1 (kp.trans k1) p1 H1 (n + c1) Q (Keep.refl _) l1 J1 (by omega) fin
    | false => exact hb H1 (kp.trans k1) p1 H1 (n + c1) Q (Keep.refl _) l1 J1 (by omega) fin
/-- a comparison of two integers -/
theorem drT_cmp {g : Int → Int → Bool} {Pa Pb : Int → Prop} (ha : Dr S j bk H0 c1 σ ta (fun d => ∃ i, d = .int i ∧ Pa i)) (hb : Dr S j bk H0 c2 σ tb (fun d => ∃ i, d = .int i ∧ Pb i)) :
    DrT S j bk H0 (c1 + c2) σ (tTest (tOp (rI0 fun i j => .bl (g i j)) ta tb)) (fun k => ∃ a b, Pa a ∧ Pb b ∧ k = g a b) := fun H n Q kp lv J hn k =>
  ha H n _ kp lv J (by omega) fun v d H1 k1 l1 J1 h1 p1 => hb H1 (n + c1) _ (kp.trans k1) l1 J1 (by omega) fun u e H2 k2 l2 J2 h2 p2 => by
    obtain ⟨a, rfl, pa⟩ := p1
    obtain ⟨b, rfl, pb⟩ := p2
    cases h1
    cases h2
    exact ⟨a, b, rfl, rfl, _, rfl, k _ H2 (k1.trans k2) l2 (by rwa [Nat.add_assoc] at J2) ⟨a, b, pa, pb, rfl⟩⟩
theorem drT_eq {Pa Pb : Int → Prop} (ha : Dr S j bk H0 c1 σ ta (fun d => ∃ i, d = .int i ∧ Pa i)) (hb : Dr S j bk H0 c2 σ tb (fun d => ∃ i, d = .int i ∧ Pb i)) :
    DrT S j bk H0 (c1 + c2) σ (tTest (tOp rEq ta tb)) (fun k => ∃ a b, Pa a ∧ Pb b ∧ k = decide (a = b)) := fun H n Q kp lv J hn k =>
  ha H n _ kp lv J (by omega) fun v d H1 k1 l1 J1 h1 p1 => hb H1 (n + c1) _ (kp.trans k1) l1 J1 (by omega) fun u e H2 k2 l2 J2 h2 p2 => by
    obtain ⟨a, rfl, pa⟩ := p1
    obtain ⟨b, rfl, pb⟩ := p2
    cases h1
    cases h2
    exact ⟨rfl, _, rfl, k _ H2 (k1.trans k2) l2 (by rwa [Nat.add_assoc] at J2) ⟨a, b, pa, pb, dec_int a b⟩⟩
/-- list(pair): a new list of a tuple's items -/
theorem dr_listOf {i : Nat} {v : V} {ds : List Da} (hj : S j = true) (h : σ[i]? = some (some v)) (hv : Is (mn S H0) v (.tup ds)) :
    Dr S j bk H0 0 σ (tCB (fun xs H Q => ∃ p ys, xs = [.ref p] ∧ (SqL K H p ys ∨ SqT K H p ys) ∧ ∀ l, H l = none → Q (.ref l) (upd H l (.lst ys))) (tCons (tVar i) tNil)) (· = .lst ds) := fun H n Q kp lv J hn k => by
  have hv' := hv.up (kp.less hj)
  cases hv' with
  | tup e hx =>
    refine ⟨_, h, _, _, rfl, .inr (.inl (.inl (mn_same _ _ e))), fun l hl => ?_⟩
    exact k _ _ _ (Same.keep (Same.new hl)) (lv.more (Same.new hl)) (J.up (Same.new hl)) (.lst (mn_put lv hl) (hx.up (Same.less (Same.new hl)))) rfl
/-! statements -/
theorem dr_asg {i : Nat} {tz : TS} {D : Ends} (h : Dr S j bk H c σ te P) (lv : Live S H) (J : Jar j bk H n) (hn : n + c ≤ 100000) (k : ∀ v d H', Keep j H H' → Live S H' → Jar j bk H' (n + c) → Is (mn S H') v d → P d → tz D (σ.set i (some v)) H') : tSeq (tAsg te (gName i)) tz D σ H :=
  h H n _ (Keep.refl _) lv J hn k
theorem dr_ret {D : Ends} (h : Dr S j bk H c σ te P) (lv : Live S H) (J : Jar j bk H n) (hn : n + c ≤ 100000) (k : ∀ v d H', Keep j H H' → Live S H' → Jar j bk H' (n + c) → Is (mn S H') v d → P d → D.rt v H') : tRet te D σ H :=
  h H n _ (Keep.refl _) lv J hn k
theorem dr_par {i l : Nat} {tz : TS} {D : Ends} {Pa Pb : Da → Prop} (hj : S j = true) (ha : Dr S j bk H c1 σ ta Pa) (hb : Dr S j bk H c2 σ tb Pb) (lv : Live S H) (J : Jar j bk H n) (hn : n + (c1 + c2) ≤ 100000)
    (k : ∀ v d u e H', Keep j H H' → Live S H' → Jar j bk H' (n + (c1 + c2)) → Is (mn S H') v d → Pa d → Is (mn S H') u e → Pb e → tz D ((σ.set i (some v)).set l (some u)) H') : tSeq (tPar i l (tCons ta (tCons tb tNil))) tz D σ H :=
  ha H n _ (Keep.refl _) lv J (by omega) fun v d H1 k1 l1 J1 h1 p1 => hb H1 (n + c1) _ k1 l1 J1 (by omega) fun u e H2 k2 l2 J2 h2 p2 => ⟨v, u, rfl, k v d u e H2 (k1.trans k2) l2 (by rwa [Nat.add_assoc] at J2) (h1.up (k2.less hj)) p1 h2 p2⟩
/-- an if whose test draws -/
theorem dr_ifS {PT : Bool → Prop} {tu tw : TS} {D : Ends} (h : DrT S j bk H c σ tt PT) (lv : Live S H) (J : Jar j bk H n) (hn : n + c ≤ 100000) (h1 : ∀ H', Keep j H H' → Live S H' → Jar j bk H' (n + c) → PT true → tu D σ H') (h2 : ∀ H', Keep j H H' → Live S H' → Jar j bk H' (n + c) → PT false → tw D σ H') : tIfS tt tu tw D σ H :=
  h H n _ (Keep.refl _) lv J hn fun b H' k' l' J' p => by
    cases b with
    | true => exact h1 H' k' l' J' p
    | false => exact h2 H' k' l' J' p
theorem dr_when {PT : Bool → Prop} {tu tz : TS} {D : Ends} (h : DrT S j bk H c σ tt PT) (lv : Live S H) (J : Jar j bk H n) (hn : n + c ≤ 100000) (h1 : ∀ H', Keep j H H' → Live S H' → Jar j bk H' (n + c) → PT true → tu { D with nx := tz D } σ H') (h2 : ∀ H', Keep j H H' → Live S H' → Jar j bk H' (n + c) → PT false → tz D σ H') : tSeq (tIfS tt tu tNext) tz D σ H :=
  dr_ifS h lv J hn h1 h2
end
/-- what is out of the data, j alone -/
def only (j : Addr) : Addr → Bool := fun b => decide (b = j)
theorem only_self {j : Addr} : only j j = true := decide_eq_true rfl
theorem only_live {j bk : Addr} {H : Hp} {n : Nat} (J : Jar j bk H n) : Live (only j) H := fun b hb => by
  have e : b = j := of_decide_eq_true hb
  subst e
  obtain ⟨cells, a, l, h, _⟩ := J
  rw [h]
  exact nofun
end Ty
namespace Ty
open PySem PySem.Spec PyProof.Rows L2
section
variable {S : Addr → Bool} {j bk : Addr} {H0 H : Hp} {c c1 c2 n : Nat} {σ : L2.St} {te ta tb : TE} {tr : TA} {d : Da} {ds : List Da}
theorem drA_consE (hj : S j = true) (h : Dr S j bk H0 0 σ te (· = d)) (hr : DrA S j bk H0 0 σ tr (· = ds)) : DrA S j bk H0 0 σ (tCons te tr) (· = d :: ds) := fun H n Q kp lv J hn k =>
  drA_cons hj h hr H n Q kp lv J hn fun vs es H' k' l' J' h' p' => by
    obtain ⟨_, _, rfl, rfl, rfl⟩ := p'
    exact k vs _ H' k' l' J' h' rfl
theorem dr_tupE (h : DrA S j bk H0 0 σ tr (· = ds)) (hl : ds.length ≤ 1000) : Dr S j bk H0 0 σ (tTup tr) (· = .tup ds) := (dr_tup h fun _ e => by rw [e]; exact hl).imp fun d ⟨_, e1, e2⟩ => by rw [e1, e2]
theorem dr_lstE (h : DrA S j bk H0 0 σ tr (· = ds)) (hl : ds.length ≤ 1000) : Dr S j bk H0 0 σ (tLst tr) (· = .lst ds) := (dr_lst h fun _ e => by rw [e]; exact hl).imp fun d ⟨_, e1, e2⟩ => by rw [e1, e2]
/-- one of written things -/
theorem dr_pickE {i : Nat} (hj : S j = true) (h : σ[i]? = some (some (.ref j))) (hr : DrA S j bk H0 0 σ tr (· = ds)) (hl : 0 < ds.length) (hl2 : ds.length ≤ 1000) :
    Dr S j bk H0 1 σ (tCall spPick [] E0 (tCons (tVar i) (tCons (tLst tr) tNil))) (· ∈ ds) := (dr_pick hj h hr fun _ e => by rw [e]; exact ⟨hl, hl2⟩).imp fun d ⟨_, e1, e2⟩ => by rwa [← e1]
theorem dr_opE {C : Int → Int → Prop} {g : Int → Int → Int} {a b : Int} (ha : Dr S j bk H0 c1 σ ta (· = .int a)) (hb : Dr S j bk H0 c2 σ tb (· = .int b)) (hc : C a b) :
    Dr S j bk H0 (c1 + c2) σ (tOp (rI C fun i j => .int (g i j)) ta tb) (· = .int (g a b)) :=
  (dr_op (Pa := (· = a)) (Pb := (· = b)) (ha.imp fun d e => ⟨a, e, rfl⟩) (hb.imp fun d e => ⟨b, e, rfl⟩) fun _ _ e1 e2 => by rw [e1, e2]; exact hc).imp fun d ⟨i, e, _, _, e1, e2, e3⟩ => by rw [e, e3, e1, e2]
theorem dr_op0E {g : Int → Int → Int} {a b : Int} (ha : Dr S j bk H0 c1 σ ta (· = .int a)) (hb : Dr S j bk H0 c2 σ tb (· = .int b)) :
    Dr S j bk H0 (c1 + c2) σ (tOp (rI0 fun i j => .int (g i j)) ta tb) (· = .int (g a b)) :=
  (dr_op0 (Pa := (· = a)) (Pb := (· = b)) (ha.imp fun d e => ⟨a, e, rfl⟩) (hb.imp fun d e => ⟨b, e, rfl⟩)).imp fun d ⟨i, e, _, _, e1, e2, e3⟩ => by rw [e, e3, e1, e2]
end
end Ty

namespace Ty
open PySem PySem.Spec PyProof.Rows L2
/-- [x for x in xs if test]: whether anything is in it -/
theorem r_filter {K : PySem.W.Frag} {l i : Nat} {tt : TT} {σ : L2.St} {H : Hp} {Q : VK} {a : Addr} {xs : List V} {ds : List Da} (t : Da → Bool) (hv : σ[l]? = some (some (.ref a))) (hs : SqL K H a xs ∨ SqT K H a xs) (hx : IsAll H xs ds) (hlen : xs.length ≤ 1000)
    (hw : ∀ x, wipe ((wipe σ [i]).set i (some x)) [i] = wipe σ [i]) (hi : ∀ x : V, ((wipe σ [i]).set i (some x))[i]? = some (some x))
    (ht : ∀ (x : V) (dx : Da) (H' : Hp) (Q' : Bool → Hp → Prop), Same H H' → Is H' x dx → dx ∈ ds → (∀ H'', Same H' H'' → Q' (t dx) H'') → tt ((wipe σ [i]).set i (some x)) H' Q')
    (k : ∀ (D : Addr) (H' : Hp) (acc : List V), Same H H' → H D = none → H' D = some (.lst acc) → acc.isEmpty = (ds.all fun d => !t d) → Q (.ref D) H') :
    tLc (fun σ H R => iList K (tVar l) σ H R ∨ iTup K (tVar l) σ H R) (gName i) tt (tVar i) [i] σ H Q := by
  have turn : ∀ (D : Addr) (m : Nat) (x : V) (H' : Hp), H D = none → xs[m]? = some x → (Same H H' ∧ ∃ acc, H' D = some (.lst acc) ∧ acc.length ≤ m ∧ acc.isEmpty = ((ds.take m).all fun d => !t d)) →
      gName i x (wipe σ [i]) H' fun σ2 H2 => wipe σ2 [i] = wipe σ [i] ∧ tt σ2 H2 fun b H3 => if b = true then tVar i σ2 H3 fun y H4 => ∃ acc, H4 D = some (.lst acc) ∧ acc.length < sizeLine ∧ (Same H (upd H4 D (.lst (acc ++ [y]))) ∧ ∃ acc', (upd H4 D (.lst (acc ++ [y]))) D = some (.lst acc') ∧ acc'.length ≤ m + 1 ∧ acc'.isEmpty = ((ds.take (m + 1)).all fun d => !t d))
        else (Same H H3 ∧ ∃ acc', H3 D = some (.lst acc') ∧ acc'.length ≤ m + 1 ∧ acc'.isEmpty = ((ds.take (m + 1)).all fun d => !t d)) := by
    rintro D m x H' hD hm ⟨s1, acc, hacc, hl, he⟩
    obtain ⟨dx, hdx, hix⟩ := hx.at hm
    have more : ((ds.take (m + 1)).all fun d => !t d) = (((ds.take m).all fun d => !t d) && !t dx) := by
      rw [List.take_add_one, hdx, List.all_append]
      simp
    have mlt := (List.getElem?_eq_some_iff.mp hm).1
    refine ⟨hw x, ht x dx H' _ s1 (hix.up s1) (List.mem_of_getElem? hdx) fun H3 s3 => iteB (fun c => ?_) fun c => ?_⟩
    · refine ⟨x, hi x, acc, s3 _ _ hacc, Nat.lt_of_le_of_lt (show acc.length ≤ 1000 by omega) (by decide), Same.mut (s1.trans s3) hD, _, upd_same, by rw [List.length_append]; simp; omega, ?_⟩
      rw [more, c]
      simp
    · refine ⟨s1.trans s3, acc, s3 _ _ hacc, by omega, ?_⟩
      rw [more, c, he]
      simp
  have fin : ∀ (D : Addr) (H' : Hp), H D = none → (Same H H' ∧ ∃ acc, H' D = some (.lst acc) ∧ acc.length ≤ xs.length ∧ acc.isEmpty = ((ds.take xs.length).all fun d => !t d)) → Q (.ref D) H' := by
    rintro D H' hD ⟨s1, acc, hacc, _, he⟩
    refine k D H' acc s1 hD hacc ?_
    rwa [hx.length, List.take_length] at he
  rcases hs with hs | hs
  · exact .inl ⟨_, hv, a, rfl, ⟨_, hs⟩, fun D hD => lc_list (xs := xs) (fun m H' => Same H H' ∧ ∃ acc, H' D = some (.lst acc) ∧ acc.length ≤ m ∧ acc.isEmpty = ((ds.take m).all fun d => !t d))
      ⟨Same.new hD, [], upd_same, Nat.le_refl _, by simp⟩ (fun m H' _ p => p.1.seq hs) (fun m x H' hm p => turn D m x H' hD hm p) (fun H' p => fin D H' hD p)⟩
  · exact .inr ⟨_, hv, a, rfl, ⟨_, hs⟩, fun D hD => lc_tup (xs := xs) (fun m H' => Same H H' ∧ ∃ acc, H' D = some (.lst acc) ∧ acc.length ≤ m ∧ acc.isEmpty = ((ds.take m).all fun d => !t d))
      ⟨Same.new hD, [], upd_same, Nat.le_refl _, by simp⟩ (fun m H' _ p => Evl.ex_t p.1 hs) (fun m x H' hm p => turn D m x H' hD hm p) (fun H' p => fin D H' hD p)⟩
/-! ### no divisor -/
def noDiv (a b : Int) (n : Nat) : Bool := (List.range n).all fun k => !(decide (a % (2 + (k : Int)) = 0) && decide (b % (2 + (k : Int)) = 0))
theorem noDiv_gcd {a b : Int} (h2 : 2 ≤ b) {n : Nat} (hn : (n : Int) = b + 1 - 2) : noDiv a b n = coprime a b := by
  unfold noDiv coprime
  by_cases g : Nat.gcd a.natAbs b.natAbs = 1
  · rw [decide_eq_true g, List.all_eq_true]
    intro k hk
    rw [Bool.not_eq_true', Bool.and_eq_false_iff]
    by_cases h1 : a % (2 + (k : Int)) = 0
    · right
      refine decide_eq_false fun h3 => ?_
      have d1 : (2 + k) ∣ a.natAbs := Int.ofNat_dvd_left.mp (by have := Int.dvd_of_emod_eq_zero h1; push_cast; exact this)
      have d2 : (2 + k) ∣ b.natAbs := Int.ofNat_dvd_left.mp (by have := Int.dvd_of_emod_eq_zero h3; push_cast; exact this)
      have d3 := Nat.dvd_gcd d1 d2
      rw [g] at d3
      have := Nat.le_of_dvd (by decide) d3
      omega
    · left
      exact decide_eq_false h1
  · rw [decide_eq_false g, List.all_eq_false]
    have pos : 0 < Nat.gcd a.natAbs b.natAbs := Nat.gcd_pos_of_pos_right _ (by omega)
    have le : Nat.gcd a.natAbs b.natAbs ≤ b.natAbs := Nat.le_of_dvd (by omega) (Nat.gcd_dvd_right _ _)
    refine ⟨Nat.gcd a.natAbs b.natAbs - 2, List.mem_range.mpr (by omega), ?_⟩
    have e : (2 + ((Nat.gcd a.natAbs b.natAbs - 2 : Nat) : Int)) = ((Nat.gcd a.natAbs b.natAbs : Nat) : Int) := by omega
    rw [e]
    have d1 : a % ((Nat.gcd a.natAbs b.natAbs : Nat) : Int) = 0 := Int.emod_eq_zero_of_dvd (Int.ofNat_dvd_left.mpr (Nat.gcd_dvd_left _ _))
    have d2 : b % ((Nat.gcd a.natAbs b.natAbs : Nat) : Int) = 0 := Int.emod_eq_zero_of_dvd (Int.ofNat_dvd_left.mpr (Nat.gcd_dvd_right _ _))
    rw [decide_eq_true d1, decide_eq_true d2]
    decide
def okPair : List Da → Bool
  | [.int _, .int b] => decide (b ≤ 400)
  | _ => true
/-- of a value with such a pair -/
def spForm : Sp := fun vs H Q _ => ∃ v d, vs = [v] ∧ Is H v d ∧ okPair (items d) = true ∧ (items d).length ≤ 1000 ∧ ∀ H', Same H H' → Q (.bl (isNum d)) H'
end Ty
namespace Ty
open PySem PySem.Spec PyProof.Rows L2
section
variable {σ : L2.St} {H : Hp} {D : Ends} {t u : TS} {c c' : TT} {te ta tb : TE} {tr : TA} {Q : VK} {QT : Bool → Hp → Prop} {QA : List V → Hp → Prop} {r : R2} {f : List V → Hp → VK → Prop} {g : TG}
theorem go_next (h : D.nx σ H) : tNext D σ H := h
theorem go_seq (h : t { D with nx := u D } σ H) : tSeq t u D σ H := h
theorem go_if (h : c σ H fun b H1 => if b = true then t D σ H1 else u D σ H1) : tIfS c t u D σ H := h
theorem go_asg (h : te σ H fun x H1 => g x σ H1 D.nx) : tAsg te g D σ H := h
theorem go_ret (h : te σ H D.rt) : tRet te D σ H := h
theorem go_or (h : c σ H fun b H1 => if b = true then QT true H1 else c' σ H1 QT) : tOr c c' σ H QT := h
theorem go_and (h : c σ H fun b H1 => if b = true then c' σ H1 QT else QT false H1) : tAnd c c' σ H QT := h
theorem go_not (h : c σ H fun b H1 => QT (!b) H1) : tNot c σ H QT := h
theorem go_test (h : te σ H fun x H1 => ∃ k, x = .bl k ∧ QT k H1) : tTest te σ H QT := h
theorem go_B (h : te σ H fun x H1 => ∃ k, x = .bl k ∧ QT k H1) : tB te σ H QT := h
theorem go_op (h : ta σ H fun x H1 => tb σ H1 fun y H2 => r x y H2 Q) : tOp r ta tb σ H Q := h
theorem go_cb (h : tr σ H fun vs H1 => f vs H1 Q) : tCB f tr σ H Q := h
theorem go_cons (h : te σ H fun x H1 => tr σ H1 fun xs H2 => QA (x :: xs) H2) : tCons te tr σ H QA := h
end
end Ty
namespace Ty
open PySem PySem.Spec PyProof.Rows L2
def good1 (d : Da) : Bool := okPair (items d) && decide ((items d).length ≤ 1000) && small2 huge d
def good (d : Da) : Bool := good1 d && (items d).all good1
theorem small_big {i : Int} (h : i.natAbs < 2 ^ 200) : decide (i.natAbs < 2 ^ huge) = true := decide_eq_true (Nat.lt_of_lt_of_le h (Nat.pow_le_pow_right (by decide) (by decide)))
theorem good1_int {i : Int} (h : i.natAbs < 2 ^ 200) : good1 (.int i) = true := by
  show (true && true && decide (i.natAbs < 2 ^ huge)) = true
  rw [small_big h]
  decide
theorem good_int {i : Int} (h : i.natAbs < 2 ^ 200) : good (.int i) = true := by
  show (good1 (.int i) && true) = true
  rw [good1_int h]
  decide
theorem good1_pair {a b : Int} (ha : a.natAbs < 2 ^ 200) (hb : b.natAbs < 2 ^ 200) (h4 : b ≤ 400) : good1 (.tup [.int a, .int b]) = true ∧ good1 (.lst [.int a, .int b]) = true := by
  constructor
  · show (decide (b ≤ 400) && true && (decide (a.natAbs < 2 ^ huge) && (decide (b.natAbs < 2 ^ huge) && true))) = true
    rw [small_big ha, small_big hb, decide_eq_true h4]
    decide
  · show (decide (b ≤ 400) && true && (decide (a.natAbs < 2 ^ huge) && (decide (b.natAbs < 2 ^ huge) && true))) = true
    rw [small_big ha, small_big hb, decide_eq_true h4]
    decide
theorem good_pair {a b : Int} (ha : a.natAbs < 2 ^ 200) (hb : b.natAbs < 2 ^ 200) (h4 : b ≤ 400) : good (.tup [.int a, .int b]) = true ∧ good (.lst [.int a, .int b]) = true := by
  have e := good1_pair ha hb h4
  constructor
  · show (good1 (.tup [.int a, .int b]) && (good1 (.int a) && (good1 (.int b) && true))) = true
    rw [e.1, good1_int ha, good1_int hb]
    decide
  · show (good1 (.lst [.int a, .int b]) && (good1 (.int a) && (good1 (.int b) && true))) = true
    rw [e.2, good1_int ha, good1_int hb]
    decide
def spValue : Sp := fun vs H Q _ => ∃ (S : Addr → Bool) (j bk : Addr) (n : Nat), vs = [.ref j] ∧ S j = true ∧ Live S H ∧ Jar j bk H n ∧ n + 3 ≤ 100000 ∧
  ∀ v d H', Keep j H H' → Live S H' → Jar j bk H' (n + 3) → Is (mn S H') v d → good d = true → Q v H'
def spHalves : Sp := fun vs H Q _ => ∃ v d, vs = [v] ∧ Is H v d ∧ isNum d = true ∧ ∀ H' p, Same H H' → H' p = some (.tup [.int (above d), .int (below d)]) → Q (.ref p) H'
def okEach (d : Da) : Bool := decide ((items d).length ≤ 1000) && (items d).all fun e => okPair (items e) && decide ((items e).length ≤ 1000)
def spRound : Sp := fun vs H Q _ => ∃ v d, vs = [v] ∧ Is H v d ∧ okEach d = true ∧ small3 huge d = true ∧ ∀ H', Same H H' → Q (.bl (isTurn d)) H'
def spPair : Sp := fun vs H Q _ => ∃ v d, vs = [v] ∧ Is H v d ∧ okEach d = true ∧ ∀ H', Same H H' → Q (.bl (isPt d)) H'
def spFrac : Sp := fun vs H Q _ => ∃ a b : Int, vs = [.int a, .int b] ∧ 0 < b ∧ a.natAbs < 2 ^ 31 ∧ b < 2 ^ 31 ∧ (∀ i : Int, i.natAbs ≤ a.natAbs → Q (.int i) H) ∧
  ∀ (i m : Int) (p : Addr) (H' : Hp), Same H H' → H p = none → H' p = some (.tup [.int i, .int m]) → i.natAbs ≤ a.natAbs → 0 ≤ m → m ≤ b → Q (.ref p) H'
end Ty
namespace Ty
open PySem PySem.Spec PyProof.Rows L2
theorem ediv_abs {a p : Int} (hp : 0 < p) : (a / p).natAbs ≤ a.natAbs := by
  by_cases h : 0 ≤ a
  · have h1 := Int.ediv_nonneg h (Int.le_of_lt hp)
    have h2 := Int.ediv_le_self p h
    omega
  · have h1 : a / p < 0 := Int.ediv_neg_of_neg_of_pos (by omega) hp
    have h2 : a ≤ a / p := by
      have h3 := Int.lt_ediv_add_one_mul_self a hp
      have h4 : a / p * p ≤ a / p * 1 := Int.mul_le_mul_of_nonpos_left (by omega) (by omega)
      have h5 : (a / p + 1) * p = a / p * p + p := by rw [Int.add_mul, Int.one_mul]
      by_cases h6 : a ≤ a / p
      · exact h6
      · exfalso
        have h7 : a / p + 1 ≤ a := by omega
        have h8 : (a / p + 1) * p ≤ (a / p + 1) * 1 := Int.mul_le_mul_of_nonpos_left (by omega) (by omega)
        omega
    omega
/-- a fraction made of two integers -/
def FracOf (a b : Int) (d : Da) : Prop := (∃ i, d = .int i ∧ i.natAbs ≤ a.natAbs) ∨ ∃ i m, d = .tup [.int i, .int m] ∧ i.natAbs ≤ a.natAbs ∧ 0 ≤ m ∧ m ≤ b
theorem dr_frac {S : Addr → Bool} {j bk : Addr} {H0 : Hp} {σ : L2.St} {ta tb : TE} {a b : Int} (ha : Dr S j bk H0 0 σ ta (· = .int a)) (hb : Dr S j bk H0 0 σ tb (· = .int b)) (h0 : 0 < b) (h1 : a.natAbs < 2 ^ 31) (h2 : b < 2 ^ 31) :
    Dr S j bk H0 0 σ (tCall spFrac [] E0 (tCons ta (tCons tb tNil))) (FracOf a b) := fun H n Q kp lv J hn k =>
  ha H n _ kp lv J hn fun v d H1 k1 l1 J1 i1 p1 => hb H1 n _ (kp.trans k1) l1 J1 hn fun u e H2 k2 l2 J2 i2 p2 => by
    subst p1
    subst p2
    cases i1
    cases i2
    exact ⟨a, b, rfl, h0, h1, h2, fun i hi => k _ _ H2 (k1.trans k2) l2 J2 (.int i) (.inl ⟨i, rfl, hi⟩), fun i m p H' s hp hp' hi hm0 hm1 => by
      have Sp : S p = false := by
        cases e : S p with
        | false => rfl
        | true => exact absurd hp (l2 p e)
      refine k _ _ H' ((k1.trans k2).trans (Same.keep s)) (l2.more s) (J2.up s) (.tup ?_ (.cons (.int i) (.cons (.int m) .nil))) (.inr ⟨i, m, rfl, hi, hm0, hm1⟩)
      rw [mn_at Sp]
      exact hp'⟩
theorem FracOf.good {a b : Int} {d : Da} (h : FracOf a b d) (ha : a.natAbs < 2 ^ 31) (hb : b ≤ 400) : good1 d = true := by
  rcases h with ⟨i, rfl, hi⟩ | ⟨i, m, rfl, hi, hm0, hm1⟩
  · exact good1_int (Nat.lt_of_le_of_lt hi (Nat.lt_trans ha (by decide)))
  · exact (good1_pair (Nat.lt_of_le_of_lt hi (Nat.lt_trans ha (by decide))) (Nat.lt_of_le_of_lt (show m.natAbs ≤ 400 by omega) (by decide)) (by omega)).1
/-- such a value is no list -/
theorem FracOf.off {S S' : Addr → Bool} {H : Hp} {a b : Int} {d : Da} {v : V} {p : Addr} {xs : List V} (h : FracOf a b d) (hv : Is (mn S H) v d) (hp : H p = some (.lst xs)) (hS : ∀ q, S' q = true → S q = true ∨ q = p) : Is (mn S' H) v d := by
  rcases h with ⟨i, rfl, hi⟩ | ⟨i, m, rfl, hi, hm0, hm1⟩
  · cases hv
    exact .int i
  · cases hv with
    | tup e hx =>
      obtain ⟨e1, e2⟩ := mn_of e
      rename_i q ys
      have off : S' q = false := by
        cases z : S' q with
        | false => rfl
        | true =>
          rcases hS q z with w | w
          · rw [w] at e1
            cases e1
          · subst w
            rw [e2] at hp
            cases hp
      have e3 : mn S' H q = some (.tup ys) := by
        rw [mn_at off]
        exact e2
      cases hx with
      | cons x1 hx =>
        cases x1
        cases hx with
        | cons x2 hx =>
          cases x2
          cases hx
          exact .tup e3 (.cons (.int _) (.cons (.int _) .nil))
def spTurn : Sp := fun vs H Q _ => ∃ (S : Addr → Bool) (j bk : Addr) (n : Nat), vs = [.ref j] ∧ S j = true ∧ Live S H ∧ Jar j bk H n ∧ n + 8 ≤ 100000 ∧
  ∀ v d H', Keep j H H' → Live S H' → Jar j bk H' (n + 8) → Is (mn S H') v d → okEach d = true → small3 huge d = true → Q v H'
theorem good1_small {d : Da} (h : good1 d = true) : small2 huge d = true := by
  unfold good1 at h
  rw [Bool.and_eq_true] at h
  exact h.2
theorem good1_ok {d : Da} (h : good1 d = true) : (okPair (items d) && decide ((items d).length ≤ 1000)) = true := by
  unfold good1 at h
  rw [Bool.and_eq_true] at h
  exact h.1
theorem two_ok {x y : Da} (h1 : good1 x = true) (h2 : good1 y = true) : okEach (.lst [x, y]) = true ∧ okEach (.tup [x, y]) = true ∧ small3 huge (.lst [x, y]) = true ∧ small3 huge (.tup [x, y]) = true := by
  have e1 : okEach (.lst [x, y]) = true := by
    show (true && ((okPair (items x) && decide ((items x).length ≤ 1000)) && ((okPair (items y) && decide ((items y).length ≤ 1000)) && true))) = true
    rw [good1_ok h1, good1_ok h2]
    decide
  have e2 : small3 huge (.lst [x, y]) = true := by
    show (small2 huge x && (small2 huge y && true)) = true
    rw [good1_small h1, good1_small h2]
    decide
  exact ⟨e1, e1, e2, e2⟩
theorem good_good1 {d : Da} (h : good d = true) : good1 d = true := by
  unfold good at h
  rw [Bool.and_eq_true] at h
  exact h.1
end Ty
namespace Ty
open PySem PySem.Spec PyProof.Rows L2
theorem sq_bounds {p : Int} (h1 : -7 ≤ p) (h2 : p ≤ 7) : 0 ≤ p * p ∧ p * p ≤ 49 := by
  have e := Int.natAbs_mul_self (a := p)
  have h3 : p.natAbs * p.natAbs ≤ 7 * 7 := Nat.mul_le_mul (by omega) (by omega)
  omega
theorem prod_bounds {p q : Int} (h1 : -7 ≤ p) (h2 : p ≤ 7) (h3 : -7 ≤ q) (h4 : q ≤ 7) : (2 * p * q).natAbs ≤ 98 := by
  rw [Int.natAbs_mul, Int.natAbs_mul]
  have h5 : (2 : Int).natAbs * p.natAbs ≤ 2 * 7 := Nat.mul_le_mul (by decide) (by omega)
  exact Nat.le_trans (Nat.mul_le_mul h5 (show q.natAbs ≤ 7 by omega)) (by decide)
theorem Is.wide {S S' : Addr → Bool} {H : Hp} {v : V} {d : Da} (h : Is (mn S H) v d) (hs : ∀ b, S' b = true → S b = true) : Is (mn S' H) v d := h.up fun b o e => by
  obtain ⟨h1, h2⟩ := mn_of e
  rw [mn_at]
  · exact h2
  · cases z : S' b with
    | false => rfl
    | true =>
      rw [hs b z] at h1
      cases h1
end Ty

namespace Ty
open PySem PySem.Spec PyProof.Rows L2
/-- a caught exception that a name holds: its class, its dict -/
def ExT (cls : Value) (d : Option Addr) (a : Addr) : HO := .ext fun h => ∃ (oe : Obj) (vs : Array Value), h.get? a = some oe ∧ Zc cls d oe ∧ oe.data = .fields vs
theorem exT_ok {P : Program} {w : World} {H : Hp} {h : Heap} {a : Addr} {cls : Value} {d : Option Addr} {oe : Obj} {vs : Array Value} (e : h.get? a = some oe) (z : Zc cls d oe) (dd : oe.data = .fields vs) : ObjOk P w H h a (ExT cls d a) :=
  ⟨⟨oe, vs, e, z, dd⟩, ⟨oe, e⟩, fun _ _ ⟨o, v, q, r⟩ k => ⟨o, v, k o q, r⟩⟩
section
variable {X : Cx} {pins : List (Addr × Obj)} {σ : L2.St} {H : Hp} {s : Shared}
/-- an object that stands, made since the entry and not tracked, is tracked from now on -/
theorem Inv.track {a : Addr} {oe : Obj} {o : HO} (I : Inv X pins σ H s) (ha : s.heap.get? a = some oe) (hn : H a = none) (h0 : X.s_0.heap.get? a = none) (nL : a ≠ X.env.locals) (nC : ∀ v, oe.data ≠ .cell v) (np : ∀ p ∈ X.pn ++ pins, p.1 ≠ a)
    (new : ObjOk X.prog X.w (upd H a o) s.heap a o) : Inv X pins σ (upd H a o) s := by
  have ne0 : ∀ {b : Addr} {u : Obj}, X.s_0.heap.get? b = some u → b ≠ a := fun {b u} e z => by
    rw [z, h0] at e
    cases e
  have neC : ∀ x c, X.env.cells.lookup x = some c → c ≠ a := fun x c e z => by
    obtain ⟨v, oc, ho, hd⟩ := I.cell x c e
    rw [z, ha] at ho
    cases ho
    exact nC v hd
  constructor
  · exact I.ok
  · exact I.os
  · exact I.bare
  · refine ⟨I.base.keep, I.base.slot, ?_, I.base.there, ?_, ?_, ?_⟩
    · intro b u e n hx
      rw [upd_ne (ne0 e)]
      exact I.base.free b u e n hx
    · intro b xs e
      have q := I.base.tups b xs e
      rw [upd_ne (ne_of_none q hn)]
      exact q
    · intro b u v e
      have q := I.base.frzs b u v e
      rw [upd_ne (ne_of_none q hn)]
      exact q
    · intro b ps e
      obtain ⟨m, q⟩ := I.base.tbls b ps e
      refine ⟨m, ?_⟩
      rw [upd_ne (ne_of_none q hn)]
      exact q
  · exact I.loc
  · exact I.cell
  · rw [upd_ne nL.symm]
    exact I.free
  · intro x c e
    rw [upd_ne (neC x c e)]
    exact I.freeC x c e
  · intro p hp
    obtain ⟨h1, h2, h3⟩ := I.pin p hp
    refine ⟨h1, ?_, h3⟩
    rw [upd_ne (np p hp)]
    exact h2
  · exact I.hok.laidN (fun _ _ e => e) hn new
  · exact I.len
end
/-- what the clause «except x as n: m = n» wishes: slot i is n's, slot l is m's; behind it the exception is tracked -/
def wKeep (K : PySem.W.Frag) (c : Value) (i l : Nat) (Wout : WX) (D : Ends) : WX := fun cls d σ H =>
  ∃ b, PySem.W.exmOne K cls c = some b ∧ (b = true → ∀ a, H a = none → D.nx ((((σ.set i (some (.ref a))).set l (some (.ref a)))).set i none) (upd H a (ExT cls d a))) ∧ (b = false → Wout cls d σ H)
section
variable {X : Cx} {x n : Str} {c : Value} {i l : Nat} {body : List Stmt} {st : Stmt} {np pos pos' : Pos} {tb : WX → TS} {Wout : WX}
theorem ps_try_keep (hex : X.ex = []) (hpn : X.pn = []) (hs : X.stack = X.env :: X.outer) (hf : X.env.frame = some X.env.locals) (hN : X.N.Nodup) (hi : X.N[i]? = some n) (hln : X.env.kindOf n = some .local) (hc : Names X x c) (tk : Takes X Wout)
    (hb : ∀ (W : WX) (pn : List (Addr × Obj)) (xe : Value → Shared → Prop), Takes (X.tr pn xe) W → PassesOwn (model X.prog X.w) X.A X.env xe → PSs (X.tr pn xe) body (tb W))
    (hsu : ∀ (a : Addr) (oe : Obj) (cls : Value) (d : Option Addr) (pn : List (Addr × Obj)), Zc cls d oe → (∃ vs, oe.data = .fields vs) → PSs (X.suite a ((a, oe) :: pn)) [st] (tAsg (tVar i) (gName l))) :
    PS X (.Try body [.ExceptHandler (some (.Name x np)) (some n) [st] pos'] [] [] pos) (fun D σ H => tb (wKeep X.K c i l Wout D) D σ H) := by
  constructor
  intro pins s σ H D I h
  have ok := I.ok
  have hfr : X.A.frames = some (X.env :: X.outer) := by rw [ok.frames, hs]
  refine wpAny_Try_except (wpAny_mono ((hb (wKeep X.K c i l Wout D) (X.pn ++ pins) (fun e s1 => wpAny (model X.prog X.w) X.A (noteFrame e X.env) (fun _ s2 => wpAny (model X.prog X.w) X.A (setFlight e none) (fun _ s3 =>
    wpAny (model X.prog X.w) X.A (handleBy e X.env [.ExceptHandler (some (.Name x np)) (some n) [st] pos']) (SP X pins D) X.xe s3) X.xe s2) X.xe s1) ?_ PassesOwn.looking).run [] s σ H D (I.toTry _) h) ?_ fun e s1 he => he)
  · rintro u s' ⟨a, B, sI, pins', σ', H', cls, d, rfl, J', nb, up, sky, na, os, ag, b, hb1, hyes, hno⟩
    have J : Inv X pins σ' H' sI := J'.ofTry ok
    rw [hs] at sky
    show wpAny (model X.prog X.w) X.A (noteFrame (.ref a) X.env) _ _ _
    refine Sky.land Zc.steady hfr hf sky ?_
    intro h3 fl3 up3
    have J3 : Inv X pins σ' H' { s' with heap := h3 } := J.landed nb fl3.1 (up.trans up3) os ag
    obtain ⟨oe3, vs3, he3, hz3, hd3⟩ := fl3.there
    have nfr : a ∉ frs (X.env :: X.outer) := fun hm => by
      obtain ⟨_, o', e', hnf⟩ := fl3.2.2.1.mem hm
      rw [he3] at e'
      cases e'
      exact hnf _ hd3
    have nL : a ≠ X.env.locals := fun z => nfr (List.mem_filterMap.mpr ⟨X.env, List.mem_cons_self, by rw [hf, z]⟩)
    have nF : a ∉ X.fs := fun hm => by
      obtain ⟨e, he, q⟩ := List.mem_filterMap.mp hm
      exact nfr (List.mem_filterMap.mpr ⟨e, List.mem_cons_of_mem _ he, q⟩)
    have new0 : X.s_0.heap.get? a = none := by
      cases e : X.s_0.heap.get? a with
      | none => rfl
      | some o =>
        obtain ⟨o', e1⟩ := J.base.there a o e (by rw [hex]; exact nofun)
        have e2 := nb a o' e1 (by rw [hs]; exact nfr)
        rw [fl3.2.1] at e2
        cases e2
    have S3 := J3.suite he3 hd3 na nL nF
    have LM := PySem.W.exm_one (M := model X.prog X.w) J3.kIn (fun A Q E s k q => wpAny_typeOf_ref (k _ _ he3) (by rw [hz3.1]; exact q)) hb1
    refine wpAny_handleBy_cons (codeAny_handlers_test ?_) (by intro q; cases q)
    have test : ∀ {Q : Value → Shared → Prop} {E : Value → Shared → Prop}, Q c { s' with heap := h3 } → wpAny (model X.prog X.w) (X.A.mark (some (.ref a))) (eval (.Name x np) X.env) Q E { s' with heap := h3 } := by
      intro Q E q
      obtain ⟨hg, hdbg, hm | ⟨hm, hv, hnn⟩⟩ := hc
      · exact ld_glob (X := X.suite a ((a, oe3) :: (X.pn ++ pins))) S3 hg hm q hdbg
      · exact ld_blt (X := X.suite a ((a, oe3) :: (X.pn ++ pins))) S3 hg hm hv q hnn hdbg
    refine test (LM.here ?_)
    cases b with
    | true =>
      refine codeAny_handlers_suite_as (HandSPX.lands_againZ fl3 ?_)
      intro h4 fl4 up4
      have J4 : Inv X pins σ' H' { s' with heap := h4 } := J.landed nb fl4.1 ((up.trans up3).trans up4) os ag
      obtain ⟨oe4, vs4, he4, hz4, hd4⟩ := fl4.there
      refine store_ok (X := X.suite a ((a, oe4) :: (X.pn ++ pins))) (v := .ref a) (J4.suite he4 hd4 na nL nF) hN hi (.inl hln) rfl ?_ (.inr hln)
      intro s5 S5
      have ilt : i < σ'.length := by
        rw [J.len]
        exact (List.getElem?_eq_some_iff.mp hi).1
      refine wpAny_mono ((hsu a oe4 cls d (X.pn ++ pins) hz4 ⟨_, hd4⟩).run [] s5 _ H' { nx := fun σ6 H6 => σ6 = ((σ'.set i (some (.ref a))).set l (some (.ref a))) ∧ H6 = H', rt := fun _ _ => False, bk := fun _ _ => False, ct := fun _ _ => False } S5 ⟨.ref a, List.getElem?_set_self ilt, rfl, rfl⟩) ?_ fun _ _ z => False.elim z
      intro f s6 hsp
      cases f with
      | next =>
        obtain ⟨σ6, H6, S6, rfl, rfl⟩ := hsp
        have S7 : Inv X ((a, oe4) :: pins) ((σ'.set i (some (.ref a))).set l (some (.ref a))) H6 s6 := (S6.unsuite ok).pins_of fun p hp => by
          rcases List.mem_cons.mp hp with e | hp
          · rw [e]
            exact S6.pin (a, oe4) (List.mem_append_left _ List.mem_cons_self)
          · exact S6.pin p (List.mem_append_left _ (List.mem_cons_of_mem _ (List.mem_append_right _ hp)))
        refine gone_ok S7 hN hi hln ?_
        intro s7 J7
        obtain ⟨g1, g2, g3, g4, g5⟩ := J7.pin (a, oe4) (List.mem_append_right _ List.mem_cons_self)
        have J8 : Inv X [] (((σ'.set i (some (.ref a))).set l (some (.ref a))).set i none) H6 s7 := J7.pins_of fun p hp => by cases hp
        have J9 := Inv.track (o := ExT cls d a) J8 g1 g2 new0 g3 g5 (fun p hp => by rw [hpn] at hp; cases hp) (exT_ok g1 hz4 hd4)
        have J10 : Inv X pins (((σ'.set i (some (.ref a))).set l (some (.ref a))).set i none) (upd H6 a (ExT cls d a)) s7 := J9.pins_of fun p hp => by
          obtain ⟨k1, k2, k3⟩ := J7.pin p (List.mem_append_right _ (List.mem_cons_of_mem _ hp))
          have kp := J4.pin p (List.mem_append_right _ hp)
          refine ⟨k1, ?_, k3⟩
          by_cases e : p.1 = a
          · -- a pinned object was there before the exception
            exfalso
            have e1 := (I.pin p (List.mem_append_right _ hp)).1
            have e2 := (J.pin p (List.mem_append_right _ hp)).1
            rw [e] at e2
            have e3 := nb a _ e2 (by rw [hs]; exact nfr)
            rw [fl3.2.1] at e3
            cases e3
          · rw [upd_ne e]
            exact k2
        exact ⟨_, _, J10, hyes rfl a na⟩
      | brk => obtain ⟨_, _, _, q⟩ := hsp; cases q
      | cont => obtain ⟨_, _, _, q⟩ := hsp; cases q
      | ret u => obtain ⟨_, _, _, _, _, q⟩ := hsp; cases q
    | false =>
      show wpAny _ X.A (handleBy (.ref a) X.env []) _ _ _
      refine wpAny_handleBy_nil ?_
      obtain ⟨k1, k2, k3, oe, vs, T, oT, ts', he, hz, hd, h1, hr⟩ := id fl3
      unfold PySem.passOn
      refine wpAny_bind (wpAny_field he hd h1 ?_)
      rw [if_neg (show ¬ ((Value.ref T == Value.none) = true) from by simp)]
      have fin : wpAny (model X.prog X.w) X.A (setFlight (.ref a) X.env.frame) (fun _ s4 => wpAny (model X.prog X.w) X.A (throw (.ref a) : Sem Flow) (SP X pins D) X.xe s4) X.xe { s' with heap := h3 } := by
        rw [hf]
        exact HandSPX.setFlight_upZ fl3 fun h4 hh4 up4 => wpAny_throw (tk _ _ ⟨a, B, sI, pins, σ', H', cls, d, rfl, J, nb, (up.trans up3).trans up4, .inr (.inr (by rw [hs]; exact hh4)), na, os, ag, hno rfl⟩)
      first
        | exact wpAny_bind (wpAny_pure (wpAny_bind fin))
        | exact wpAny_bind fin
  · intro f s1 hsp
    cases f with
    | next => obtain ⟨σ', H', J', q⟩ := hsp; exact wpAny_execs_nil ⟨σ', H', J'.ofTry ok, q⟩
    | brk => obtain ⟨σ', H', J', q⟩ := hsp; exact ⟨σ', H', J'.ofTry ok, q⟩
    | cont => obtain ⟨σ', H', J', q⟩ := hsp; exact ⟨σ', H', J'.ofTry ok, q⟩
    | ret u => obtain ⟨v, σ', H', J', r, q⟩ := hsp; exact ⟨v, σ', H', J'.ofTry ok, r, q⟩
end
/-! ### a caught exception that a name holds -/
/-- what its class must say -/
structure ExcK (K : PySem.W.Frag) (D : Addr) : Prop where
  cl : (PySem.W.clsIn K D).isSome = true
  ga : PySem.W.findIn K (.ref D) "__getattribute__" = some (some (.builtin "BaseException.__getattribute__"))
  gg : PySem.W.findIn K (.ref D) "__getattr__" = some none
  sb : PySem.W.subIn K (.ref D) (.type "BaseException") = some true
  hd : PySem.W.hasDictIn K D = true
  kl : PySem.W.findIn K (.ref D) "__class__" = some (some (.builtin "object.__class__"))
  sp : PySem.W.specialIn K (.builtin "object.__class__") "__get__" = some (some (.builtin "getset_descriptor.__get__"))
  tk : PySem.W.takesIn K (.builtin "object.__class__") = some true
  mr : PySem.W.mroIn K D (.type "object") = some true
section
variable {X : Cx}
/-- isinstance(e, C) of such -/
def rIsX (K : PySem.W.Frag) : List V → Hp → VK → Prop := fun xs H Q => ∃ (a D : Addr) (d : Addr) (fs : List (Str × V)) (c : V) (u : Value) (b : Bool), xs = [.ref a, c] ∧ ClsV c u ∧ H a = some (ExT (.ref D) (some d) a) ∧ H d = some (.xd fs) ∧ ExcK K D ∧ PySem.W.kitOne K (.ref D) u = some b ∧ Q (.bl b) H
theorem inst_of {pins : List (Addr × Obj)} {σ : L2.St} {H : Hp} {s : Shared} {a D d : Addr} {fs : List (Str × V)} (I : Inv X pins σ H s) (ha : H a = some (ExT (.ref D) (some d) a)) (hd : H d = some (.xd fs)) :
    ∃ (oe od : Obj) (mA : Str → Option Value), PySem.W.InstAt s.heap a oe D (some od) ∧ (∀ f, RelO (fs.lookup f) (mA f)) ∧ ∀ n, PySem.W.lookIn n od = some (mA n) := by
  obtain ⟨⟨oe, vs, h1, h2, h3⟩, _⟩ := I.hok a _ ha
  obtain ⟨mA, hns, hr⟩ := (show ObjOk X.prog X.w H s.heap d (.xd fs) from I.hok d _ hd)
  obtain ⟨od, ho, hl⟩ := lookIn_ns hns
  refine ⟨oe, od, mA, ⟨h1, h2.1, ?_, ?_⟩, hr, hl⟩
  · unfold PySem.W.notCls
    rw [h3]
  · rw [h2.2]
    exact ho
theorem call_isX : CallR X (.builtin "isinstance") (rIsX X.K) := by
  intro pins s σ H xs us Q I r h
  obtain ⟨a, D, d, fs, c, u, b, rfl, hc, ha, hd, k, e, q⟩ := h
  obtain ⟨u1, u2, rfl, r1, r2⟩ := vals2 r
  cases (show u1 = Value.ref a from r1)
  have e2 := hc.eq r2
  subst e2
  obtain ⟨oe, od, mA, J, _, _⟩ := inst_of I ha hd
  exact PySem.W.kia_one (PySem.W.kitx_exc k.cl k.ga k.gg k.sb k.kl k.sp k.tk k.mr) I.kIn J e (fun z => nomatch z) fun tk => ⟨.bl b, H, I.tok tk, rfl, q⟩
/-- e.f -/
def tXt (K : PySem.W.Frag) (te : TE) (f : Str) : TE := fun σ H Q => te σ H fun x H1 => ∃ (a D d : Addr) (fs : List (Str × V)) (v : V), x = .ref a ∧ H1 a = some (ExT (.ref D) (some d) a) ∧ H1 d = some (.xd fs) ∧ ExcK K D ∧ PySem.W.findIn K (.ref D) f = some none ∧ fs.lookup f = some v ∧ Q v H1
theorem pe_xt {e : Expr} {te : TE} {pos : Pos} {f : Str} (he : PE X e te) (hb : attributeBase e f X.env (eval e X.env) = eval e X.env := by rfl) : PE X (.Attribute e f pos) (tXt X.K te f) := by
  constructor
  intro pins s σ H Q I h
  refine attr_of hb (thn (he.run pins s σ H _ I h) ?_)
  rintro u s1 ⟨x, H1, I1, rx, a, D, d, fs, v, rfl, ha, hd, k, hno, hl, q⟩
  cases (show u = Value.ref a from rx)
  obtain ⟨oe, od, mA, J, hr, hlk⟩ := inst_of I1 ha hd
  obtain ⟨u, hu, ru⟩ := RelO.some_of (v := v) (o := mA f) (by rw [← hl]; exact hr f)
  exact HandSPX.exc_get I1.kIn J k.ga k.gg k.sb (PySem.W.findObj_own k.hd hno rfl (by rw [hlk, hu])) (handed_of ru) ⟨v, H1, I1.tok _, ru, q⟩
end
end Ty

/-! ### an own exception's __init__ of one field, of two -/
namespace Ty
open PySem PySem.Spec PyProof.Rows L2
def spIni1 (C : Addr) (fs : List Str) : Sp := fun vs H Q _ => ∃ (a : Addr) (v : V) (f : Str), vs = [.ref a, v] ∧ fs = [f] ∧ H a = some (exo a C none) ∧ ∀ d, H d = none → d ≠ a → Q .non (upd (upd H d (exd d [(f, v)])) a (exo a C (some d)))
def spIni2 (C : Addr) (fs : List Str) : Sp := fun vs H Q _ => ∃ (a : Addr) (v u : V) (f g : Str), vs = [.ref a, v, u] ∧ fs = [f, g] ∧ H a = some (exo a C none) ∧
  ∀ d, H d = none → d ≠ a → Q .non (upd (upd (upd H d (exd d [(f, v)])) a (exo a C (some d))) d (exd d [(g, u), (f, v)]))
theorem spIni1_len {C : Addr} {fs : List Str} {x y : Str} {vs : List V} {H : Hp} {Q : VK} {E : XK} (h : spIni1 C fs vs H Q E) : vs.length = [x, y].length := by
  obtain ⟨_, _, _, rfl, _⟩ := h
  rfl
theorem spIni2_len {C : Addr} {fs : List Str} {x y z : Str} {vs : List V} {H : Hp} {Q : VK} {E : XK} (h : spIni2 C fs vs H Q E) : vs.length = [x, y, z].length := by
  obtain ⟨_, _, _, _, _, rfl, _⟩ := h
  rfl
theorem r_ini1 {K : PySem.W.Frag} {C : Addr} {f x y : Str} {vs : List V} {H : Hp} {Q : VK} {E : XK} (T : OexC K C) (no : PySem.W.findIn K (.ref C) f = some none) (h : spIni1 C [f] vs H Q E) :
    tOst K f (tVar 0) (tVar 1) { nx := fun _ H' => Q .non H', rt := Q } (start [x, y] vs) H := by
  obtain ⟨a, v, f', rfl, e, ha, k⟩ := h
  cases e
  exact ⟨v, rfl, .ref a, rfl, a, C, rfl, T, no, .inl ⟨ha, fun dx hd hn => k dx hd hn⟩⟩
theorem r_ini2 {K : PySem.W.Frag} {C : Addr} {f g x y z : Str} {vs : List V} {H : Hp} {Q : VK} {E : XK} (T : OexC K C) (no : PySem.W.findIn K (.ref C) f = some none) (no2 : PySem.W.findIn K (.ref C) g = some none) (h : spIni2 C [f, g] vs H Q E) :
    tSeq (tOst K f (tVar 0) (tVar 1)) (tOst K g (tVar 0) (tVar 2)) { nx := fun _ H' => Q .non H', rt := Q } (start [x, y, z] vs) H := by
  obtain ⟨a, v, u, f', g', rfl, e, ha, k⟩ := h
  cases e
  refine ⟨v, rfl, .ref a, rfl, a, C, rfl, T, no, .inl ⟨ha, fun dx hd hn => ?_⟩⟩
  refine ⟨u, rfl, .ref a, rfl, a, C, rfl, T, no2, .inr ⟨dx, [(f, v)], upd_same, ?_, by show 1 ≤ 900; decide, k dx hd hn⟩⟩
  rw [upd_ne hn]
  exact upd_same
/-- what stands behind C(v): the exception's dict -/
theorem mk1 {C : Addr} {f : Str} {v : V} {H1 : Hp} {Q : XK} (h : ∀ d H', Same H1 H' → H1 d = none → H' d = some (.xd [(f, v)]) → Q (.ref C) (some d) H') :
    [v].length ≤ 1000 ∧ ∀ a, H1 a = none → spIni1 C [f] (.ref a :: ([v] ++ [])) (upd H1 a (exo a C none))
      (fun u H2 => u = .non ∧ ∃ (d : Addr) (fs : List (Str × V)), H2 a = some (exo a C (some d)) ∧ H2 d = some (exd d fs) ∧ H1 d = none ∧ Q (.ref C) (some d) (upd (del H2 a) d (.xd fs))) (fun _ _ _ => False) := by
  refine ⟨by show 1 ≤ 1000; decide, fun a ha => ⟨a, v, f, rfl, rfl, upd_same, fun d hd hn => ⟨rfl, d, _, upd_same, by rw [upd_ne hn]; exact upd_same, by rwa [upd_ne hn] at hd, ?_⟩⟩⟩
  have hd0 : H1 d = none := by rwa [upd_ne hn] at hd
  refine h d _ (fun b o e => ?_) hd0 upd_same
  have ba := ne_of_none e ha
  rw [upd_ne (ne_of_none e hd0), del_ne ba, upd_ne ba, upd_ne (ne_of_none e hd0), upd_ne ba]
  exact e
theorem mk2 {C : Addr} {f g : Str} {v u : V} {H1 : Hp} {Q : XK} (h : ∀ d H', Same H1 H' → H1 d = none → H' d = some (.xd [(g, u), (f, v)]) → Q (.ref C) (some d) H') :
    [v, u].length ≤ 1000 ∧ ∀ a, H1 a = none → spIni2 C [f, g] (.ref a :: ([v, u] ++ [])) (upd H1 a (exo a C none))
      (fun x H2 => x = .non ∧ ∃ (d : Addr) (fs : List (Str × V)), H2 a = some (exo a C (some d)) ∧ H2 d = some (exd d fs) ∧ H1 d = none ∧ Q (.ref C) (some d) (upd (del H2 a) d (.xd fs))) (fun _ _ _ => False) := by
  refine ⟨by show 2 ≤ 1000; decide, fun a ha => ⟨a, v, u, f, g, rfl, rfl, upd_same, fun d hd hn => ⟨rfl, d, _, by rw [upd_ne hn.symm]; exact upd_same, upd_same, by rwa [upd_ne hn] at hd, ?_⟩⟩⟩
  have hd0 : H1 d = none := by rwa [upd_ne hn] at hd
  refine h d _ (fun b o e => ?_) hd0 upd_same
  have ba := ne_of_none e ha
  have bd := ne_of_none e hd0
  rw [upd_ne bd, del_ne ba, upd_ne bd, upd_ne ba, upd_ne bd, upd_ne ba]
  exact e
/-- what a def that raises an error of one field lets out: the error's dict, all else stays -/
def Out1 (C : Addr) (f : Str) (v : V) (H : Hp) (E : XK) : Prop := ∀ d H', Same H H' → H d = none → H' d = some (.xd [(f, v)]) → E (.ref C) (some d) H'
theorem Out1.up {C : Addr} {f : Str} {v : V} {H H1 : Hp} {E : XK} (h : Out1 C f v H E) (s : Same H H1) : Out1 C f v H1 E := fun d H' s' hd hx => h d H' (s.trans s') (by
  cases e : H d with
  | none => rfl
  | some o => rw [s _ _ e] at hd; cases hd) hx
end Ty
namespace Ty
open PySem PySem.Spec PyProof.Rows L2
section
variable {K : PySem.W.Frag} {C D : Addr} {b : Bool}
theorem cls_here (i : PySem.W.isClsIn K D = true) (t : PySem.W.typeIn K (.ref D) = some (.type "type")) (s : PySem.W.subIn K (.ref C) (.ref D) = some b) : PySem.W.kitCls K (.ref C) (.ref D) = some b := by
  have i' : (PySem.W.clsIn K D).isSome = true := i
  have e : ((PySem.W.clsIn K D).isSome && PySem.W.typeIn K (.ref D) == some (.type "type")) = true := by rw [i', t]; rfl
  show (if _ = true then PySem.W.subIn K (.ref C) (.ref D) else none) = some b
  rw [if_pos e]
  exact s
theorem exm_is (x : PySem.W.subIn K (.ref D) (.type "BaseException") = some true) (i : PySem.W.isClsIn K D = true) (t : PySem.W.typeIn K (.ref D) = some (.type "type")) (s : PySem.W.subIn K (.ref C) (.ref D) = some b) : PySem.W.exmOne K (.ref C) (.ref D) = some b := by
  have e : (PySem.W.subIn K (.ref D) (.type "BaseException") == some true) = true := by rw [x]; rfl
  show (if _ = true then PySem.W.kitCls K (.ref C) (.ref D) else none) = some b
  rw [if_pos e]
  exact cls_here i t s
theorem kit_isT (i : PySem.W.isClsIn K D = true) (t : PySem.W.typeIn K (.ref D) = some (.type "type")) (s : PySem.W.subIn K (.ref C) (.ref D) = some true) : PySem.W.kitOne K (.ref C) (.ref D) = some true := by
  unfold PySem.W.kitOne
  split
  · rfl
  · exact cls_here i t s
theorem kit_isF (i : PySem.W.isClsIn K D = true) (t : PySem.W.typeIn K (.ref D) = some (.type "type")) (s : PySem.W.subIn K (.ref C) (.ref D) = some false) (s2 : PySem.W.subIn K (.ref D) (.ref D) = some true) : PySem.W.kitOne K (.ref C) (.ref D) = some false := by
  unfold PySem.W.kitOne
  split
  · rename_i h
    have e : (Value.ref C) = (Value.ref D) := by simpa using h
    rw [e, s2] at s
    cases s
  · exact cls_here i t s
end
end Ty

namespace Ty
open PySem PySem.Spec PyProof.Rows L2
/-! ### operators -/
def CDivX (_ j : Int) : Prop := j ≠ 0 ∧ j.natAbs.log2 < 9000
theorem op_fdivX {X : Cx} : OpR X (binaryOp .FloorDiv) (rI CDivX fun i j => .int (i.fdiv j)) := opI fun i j _ _ _ _ _ hc q => floordiv_int hc.1 q (.inl (PyProof.noPylong_of_log2 hc.2))
theorem divX {i j : Int} {b : Nat} (h : j ≠ 0) (hb : j.natAbs < 2 ^ b) (h0 : 0 < b) (h9 : b ≤ 9000) : CDivX i j := ⟨h, Nat.lt_of_lt_of_le (PySem.Flt.log2_lt_of h0 hb) h9⟩
theorem op_subBl {X : Cx} : OpR X (binaryOp .Sub) (fun x y H Q => ∃ p q, x = .bl p ∧ y = .bl q ∧ Q (.int ((if p = true then (1 : Int) else 0) - if q = true then (1 : Int) else 0)) H) := by
  intro pins s σ H x y v u Q I rx ry h
  obtain ⟨p, q, rfl, rfl, k⟩ := h
  cases rx
  cases ry
  exact PyProof.Rows.sub_bool ⟨.int _, H, I.tok _, ⟨_, rfl⟩, k⟩
/-! ### the one form of a fraction -/
def frac (a b : Int) : Da := if b = 1 then .int a else .tup [.int a, .int b]
/-- d is the number a / b in its one form -/
def Low (a b : Int) (d : Da) : Prop := ∃ p q g : Int, g ≠ 0 ∧ a = p * g ∧ b = q * g ∧ 0 < q ∧ Nat.gcd p.natAbs q.natAbs = 1 ∧ d = frac p q
theorem frac_above {a b : Int} : above (frac a b) = a := by
  unfold frac
  split <;> rfl
theorem frac_below {a b : Int} : below (frac a b) = b := by
  unfold frac
  split
  · rename_i h
    rw [h]
    rfl
  · rfl
theorem frac_num {a b : Int} (h : 0 < b) (g : Nat.gcd a.natAbs b.natAbs = 1) : isNum (frac a b) = true := by
  unfold frac
  split
  · rfl
  · rename_i n
    show (false || (true && (decide (2 ≤ b) && decide (Nat.gcd a.natAbs b.natAbs = 1)))) = true
    rw [decide_eq_true (by omega : 2 ≤ b), decide_eq_true g]
    rfl
theorem co_dvd {p q p' q' : Int} (g : Nat.gcd p.natAbs q.natAbs = 1) (h : p * q' = p' * q) : q.natAbs ∣ q'.natAbs := by
  have h1 : q ∣ p * q' := ⟨p', by rw [h, Int.mul_comm]⟩
  have h2 : q.natAbs ∣ p.natAbs * q'.natAbs := by
    rw [← Int.natAbs_mul]
    exact Int.natAbs_dvd_natAbs.mpr h1
  exact (Nat.Coprime.symm (show Nat.Coprime p.natAbs q.natAbs from g)).dvd_of_dvd_mul_left h2
theorem co_eq {p q p' q' : Int} (g : Nat.gcd p.natAbs q.natAbs = 1) (g' : Nat.gcd p'.natAbs q'.natAbs = 1) (hq : 0 < q) (hq' : 0 < q') (h : p * q' = p' * q) : p = p' ∧ q = q' := by
  have d1 := co_dvd g h
  have d2 := co_dvd g' h.symm
  have e := Nat.dvd_antisymm d1 d2
  have eq : q = q' := by omega
  subst eq
  exact ⟨Int.eq_of_mul_eq_mul_right (by omega) h, rfl⟩
theorem Low.uniq {a b a' b' : Int} {d d' : Da} (h : Low a b d) (h' : Low a' b' d') (e : a * b' = a' * b) : d = d' := by
  obtain ⟨p, q, g, g0, rfl, rfl, q0, co, rfl⟩ := h
  obtain ⟨p', q', g', g0', rfl, rfl, q0', co', rfl⟩ := h'
  have e2 : (p * q') * (g * g') = (p' * q) * (g * g') := by
    have e3 : p * g * (q' * g') = (p * q') * (g * g') := by rw [Int.mul_assoc, Int.mul_left_comm g, ← Int.mul_assoc p]
    have e4 : p' * g' * (q * g) = (p' * q) * (g * g') := by rw [Int.mul_assoc, Int.mul_left_comm g', ← Int.mul_assoc p', Int.mul_comm g']
    rw [← e3, ← e4, e]
  have e3 := Int.eq_of_mul_eq_mul_right (Int.mul_ne_zero g0 g0') e2
  obtain ⟨rfl, rfl⟩ := co_eq co co' q0 q0' e3
  rfl
theorem Low.at (a b : Int) (h : b ≠ 0) : ∃ d, Low a b d := by
  have gp : 0 < Nat.gcd a.natAbs b.natAbs := Nat.gcd_pos_of_pos_right _ (by omega)
  have d1 : ((Nat.gcd a.natAbs b.natAbs : Nat) : Int) ∣ a := Int.ofNat_dvd_left.mpr (Nat.gcd_dvd_left _ _)
  have d2 : ((Nat.gcd a.natAbs b.natAbs : Nat) : Int) ∣ b := Int.ofNat_dvd_left.mpr (Nat.gcd_dvd_right _ _)
  have co := Nat.coprime_div_gcd_div_gcd gp
  obtain ⟨p, hp⟩ := d1
  obtain ⟨q, hq⟩ := d2
  generalize hg : Nat.gcd a.natAbs b.natAbs = g at *
  have cop : Nat.gcd p.natAbs q.natAbs = 1 := by
    have e1 : a.natAbs / g = p.natAbs := by rw [hp, Int.natAbs_mul, Int.natAbs_natCast, Nat.mul_div_cancel_left _ gp]
    have e2 : b.natAbs / g = q.natAbs := by rw [hq, Int.natAbs_mul, Int.natAbs_natCast, Nat.mul_div_cancel_left _ gp]
    rw [e1, e2] at co
    exact co
  by_cases hb : 0 < b
  · refine ⟨frac p q, p, q, g, by omega, by rw [hp, Int.mul_comm], by rw [hq, Int.mul_comm], ?_, cop, rfl⟩
    rw [hq] at hb
    exact Int.pos_of_mul_pos_right hb (by omega)
  · refine ⟨frac (-p) (-q), -p, -q, -g, by omega, by rw [hp, Int.neg_mul_neg, Int.mul_comm], by rw [hq, Int.neg_mul_neg, Int.mul_comm], ?_, by rw [Int.natAbs_neg, Int.natAbs_neg]; exact cop, rfl⟩
    have hb' : q * (g : Int) < 0 := by rw [Int.mul_comm]; omega
    have := Int.neg_of_mul_neg_left hb' (by omega)
    omega
theorem Low.num {a b : Int} {d : Da} (h : Low a b d) : isNum d = true ∧ 0 < below d ∧ above d * b = a * below d ∧ (above d).natAbs ≤ a.natAbs ∧ (below d).natAbs ≤ b.natAbs := by
  obtain ⟨p, q, g, g0, rfl, rfl, q0, co, rfl⟩ := h
  rw [frac_above, frac_below]
  have g1 : 1 ≤ g.natAbs := by omega
  refine ⟨frac_num q0 co, q0, by rw [Int.mul_assoc, Int.mul_comm g, ← Int.mul_assoc], ?_, ?_⟩
  · rw [Int.natAbs_mul]
    exact Nat.le_mul_of_pos_right _ g1
  · rw [Int.natAbs_mul]
    exact Nat.le_mul_of_pos_right _ g1
/-- a number's parts share no divisor -/
theorem num_parts {d : Da} (h : isNum d = true) : 0 < below d ∧ Nat.gcd (above d).natAbs (below d).natAbs = 1 := by
  have two : ∀ l, isPair l = true → ∃ a b : Int, l = [.int a, .int b] ∧ 2 ≤ b ∧ Nat.gcd a.natAbs b.natAbs = 1 := fun l hl => by
    match l, hl with
    | [.int a, .int b], hl =>
      have hl' : (decide (2 ≤ b) && decide (Nat.gcd a.natAbs b.natAbs = 1)) = true := hl
      rw [Bool.and_eq_true] at hl'
      exact ⟨a, b, rfl, of_decide_eq_true hl'.1, of_decide_eq_true hl'.2⟩
  cases d with
  | int i => exact ⟨by show (0 : Int) < 1; decide, Nat.gcd_one_right _⟩
  | tup l =>
    obtain ⟨a, b, rfl, h2, h3⟩ := two l (by simpa [isNum, isN, isS, items] using h)
    exact ⟨by show 0 < b; omega, h3⟩
  | lst l =>
    obtain ⟨a, b, rfl, h2, h3⟩ := two l (by simpa [isNum, isN, isS, items] using h)
    exact ⟨by show 0 < b; omega, h3⟩
  | _ => cases h
/-- a number's one form -/
theorem Low.self {d : Da} (h : isNum d = true) : Low (above d) (below d) (frac (above d) (below d)) := by
  obtain ⟨h1, h2⟩ := num_parts h
  exact ⟨_, _, 1, by decide, (Int.mul_one _).symm, (Int.mul_one _).symm, h1, h2, rfl⟩
/-- is it in the one form -/
def isOne : Da → Bool
  | .int _ => true
  | .tup l => isPair l
  | _ => false
theorem isOne_num {d : Da} (h : isOne d = true) : isNum d = true := by
  cases d with
  | int i => rfl
  | tup l =>
    have h' : isPair l = true := h
    simpa [isNum, isN, isS, items] using h'
  | _ => cases h
theorem isOne_frac {d : Da} (h : isOne d = true) : d = frac (above d) (below d) := by
  cases d with
  | int i => rfl
  | tup l =>
    match l, h with
    | [.int a, .int b], h =>
      have hl' : (decide (2 ≤ b) && decide (Nat.gcd a.natAbs b.natAbs = 1)) = true := h
      rw [Bool.and_eq_true] at hl'
      have h2 := of_decide_eq_true hl'.1
      show Da.tup [.int a, .int b] = if b = 1 then .int a else .tup [.int a, .int b]
      rw [if_neg (by omega)]
  | _ => cases h
theorem Low.one {a b : Int} {d : Da} (h : Low a b d) : isOne d = true := by
  obtain ⟨p, q, g, g0, rfl, rfl, q0, co, rfl⟩ := h
  have e := frac_num q0 co
  unfold frac at e ⊢
  split
  · rfl
  · rename_i n
    rw [if_neg n] at e
    rw [isOne]
    simpa [isNum, isN, isS, items] using e
/-- the values that a program makes of it -/
theorem low_quot {a b g : Int} (hg : g ≠ 0) (ha : g ∣ a) (hb : g ∣ b) : a = a.fdiv g * g ∧ b = b.fdiv g * g := by
  rw [Int.fdiv_eq_ediv_of_dvd ha, Int.fdiv_eq_ediv_of_dvd hb]
  exact ⟨(Int.ediv_mul_cancel ha).symm, (Int.ediv_mul_cancel hb).symm⟩
/-- the number that the two quotients by the signed divisor make -/
theorem low_of {a b g : Int} (hb : b ≠ 0) (hg : g = if b < 0 then -((Nat.gcd a.natAbs b.natAbs : Nat) : Int) else ((Nat.gcd a.natAbs b.natAbs : Nat) : Int)) :
    g ≠ 0 ∧ 0 < b.fdiv g ∧ Low a b (frac (a.fdiv g) (b.fdiv g)) ∧ (b = g ↔ b.fdiv g = 1) ∧ g.natAbs ≤ b.natAbs := by
  have gp : 0 < Nat.gcd a.natAbs b.natAbs := Nat.gcd_pos_of_pos_right _ (by omega)
  have gn : g.natAbs = Nat.gcd a.natAbs b.natAbs := by
    rw [hg]
    split
    · rw [Int.natAbs_neg, Int.natAbs_natCast]
    · rw [Int.natAbs_natCast]
  have g0 : g ≠ 0 := by omega
  have d1 : g ∣ a := Int.natAbs_dvd_natAbs.mp (by rw [gn]; exact Nat.gcd_dvd_left _ _)
  have d2 : g ∣ b := Int.natAbs_dvd_natAbs.mp (by rw [gn]; exact Nat.gcd_dvd_right _ _)
  obtain ⟨e1, e2⟩ := low_quot g0 d1 d2
  have co : Nat.gcd (a.fdiv g).natAbs (b.fdiv g).natAbs = 1 := by
    have c := Nat.coprime_div_gcd_div_gcd gp
    have f1 : a.natAbs / Nat.gcd a.natAbs b.natAbs = (a.fdiv g).natAbs := by
      have : a.natAbs = (a.fdiv g).natAbs * g.natAbs := by rw [← Int.natAbs_mul, ← e1]
      rw [← gn, this, Nat.mul_div_cancel _ (by omega)]
    have f2 : b.natAbs / Nat.gcd a.natAbs b.natAbs = (b.fdiv g).natAbs := by
      have : b.natAbs = (b.fdiv g).natAbs * g.natAbs := by rw [← Int.natAbs_mul, ← e2]
      rw [← gn, this, Nat.mul_div_cancel _ (by omega)]
    rw [f1, f2] at c
    exact c
  have qp : 0 < b.fdiv g := by
    by_cases hb2 : b < 0
    · have gneg : g < 0 := by rw [hg, if_pos hb2]; omega
      generalize b.fdiv g = q at e2
      rw [e2] at hb2
      by_cases z : 0 < q
      · exact z
      · exact absurd (Int.mul_nonneg_of_nonpos_of_nonpos (by omega : q ≤ 0) (by omega : g ≤ 0)) (by omega)
    · have gpos : 0 < g := by rw [hg, if_neg hb2]; omega
      generalize b.fdiv g = q at e2
      have hb3 : 0 < q * g := by rw [← e2]; omega
      exact Int.pos_of_mul_pos_left hb3 gpos
  refine ⟨g0, qp, ⟨_, _, g, g0, e1, e2, qp, co, rfl⟩, ⟨fun e => ?_, fun e => ?_⟩, ?_⟩
  · have e3 : g = b.fdiv g * g := by rw [← e2, e]
    have e4 : 1 * g = b.fdiv g * g := by rw [Int.one_mul]; exact e3
    exact (Int.eq_of_mul_eq_mul_right g0 e4).symm
  · rw [e, Int.one_mul] at e2
    exact e2
  · rw [gn]
    exact Nat.gcd_le_right _ (by omega)
end Ty

namespace Ty
open PySem PySem.Spec PyProof.Rows L2
/-! ### repr of any value without a dict -/
mutual
def pd : Da → PyData
  | .non => .none
  | .bl b => .bool b
  | .int i => .int i
  | .str x => .str x
  | .tup l => .tuple (pdA l)
  | .lst l => .list (pdA l)
  | .dic => .dict []
def pdA : List Da → List PyData
  | [] => []
  | d :: l => pd d :: pdA l
end
mutual
/-- more than the text is long -/
def wt : Da → Nat
  | .int _ => 1930
  | .str x => (reprText x).length
  | .tup l => wtA l + 10
  | .lst l => wtA l + 10
  | _ => 10
def wtA : List Da → Nat
  | [] => 0
  | d :: l => wt d + 2 + wtA l
end
mutual
/-- its integers have less than 1920 bits, there is no dict -/
def nums : Da → Bool
  | .int i => decide (i.natAbs.log2 < 1920)
  | .tup l => numsA l
  | .lst l => numsA l
  | .dic => false
  | _ => true
def numsA : List Da → Bool
  | [] => true
  | d :: l => nums d && numsA l
end
mutual
def dp : Da → Nat
  | .tup l => dpA l + 1
  | .lst l => dpA l + 1
  | .dic => 1
  | _ => 0
def dpA : List Da → Nat
  | [] => 0
  | d :: l => max (dp d) (dpA l)
end
mutual
theorem nums_show : ∀ d : Da, nums d = true → (pd d).showable = true ∧ (pd d).hasDict = false
  | .non, _ => ⟨rfl, rfl⟩
  | .bl _, _ => ⟨rfl, rfl⟩
  | .int i, h => ⟨h, rfl⟩
  | .str _, _ => ⟨rfl, rfl⟩
  | .tup l, h => numsA_show l h
  | .lst l, h => numsA_show l h
  | .dic, h => by cases h
theorem numsA_show : ∀ l : List Da, numsA l = true → PyData.showableAll (pdA l) = true ∧ PyData.hasDictAll (pdA l) = false
  | [], _ => ⟨rfl, rfl⟩
  | d :: l, h => by
    have h' : (nums d && numsA l) = true := h
    rw [Bool.and_eq_true] at h'
    obtain ⟨a1, a2⟩ := nums_show d h'.1
    obtain ⟨b1, b2⟩ := numsA_show l h'.2
    constructor
    · show (PyData.showable (pd d) && PyData.showableAll (pdA l)) = true
      rw [a1, b1]
      rfl
    · show (PyData.hasDict (pd d) || PyData.hasDictAll (pdA l)) = false
      rw [a2, b2]
      rfl
end
mutual
theorem dp_eq : ∀ d : Da, PyData.depth (pd d) = dp d
  | .non => rfl
  | .bl _ => rfl
  | .int _ => rfl
  | .str _ => rfl
  | .tup l => by
    show PyData.depthAll (pdA l) + 1 = dpA l + 1
    rw [dpA_eq l]
  | .lst l => by
    show PyData.depthAll (pdA l) + 1 = dpA l + 1
    rw [dpA_eq l]
  | .dic => rfl
theorem dpA_eq : ∀ l : List Da, PyData.depthAll (pdA l) = dpA l
  | [] => rfl
  | d :: l => by
    show max (PyData.depth (pd d)) (PyData.depthAll (pdA l)) = max (dp d) (dpA l)
    rw [dp_eq d, dpA_eq l]
end
theorem wtA_sum : ∀ l : List Da, (∀ d ∈ l, (PyData.shown (pd d)).length ≤ wt d) → ((PyData.shownAll (pdA l)).map (·.length)).sum + 2 * (PyData.shownAll (pdA l)).length ≤ wtA l
  | [], _ => Nat.le_refl _
  | d :: l, h => by
    have h1 := h d List.mem_cons_self
    have h2 := wtA_sum l fun e he => h e (List.mem_cons_of_mem _ he)
    show ((PyData.shown (pd d) :: PyData.shownAll (pdA l)).map (·.length)).sum + 2 * (PyData.shown (pd d) :: PyData.shownAll (pdA l)).length ≤ wt d + 2 + wtA l
    rw [List.map_cons, List.sum_cons, List.length_cons]
    omega
mutual
theorem shown_wt : ∀ d : Da, nums d = true → (PyData.shown (pd d)).length ≤ wt d
  | .non, _ => by show (PyData.shown .none).length ≤ 10; decide +kernel
  | .bl b, _ => by
    cases b
    · show (PyData.shown (.bool false)).length ≤ 10; decide +kernel
    · show (PyData.shown (.bool true)).length ≤ 10; decide +kernel
  | .int i, h => by
    have h1 := PySem.int_text_length_le (a := i) (k := 1920) (by decide) (of_decide_eq_true h)
    show (PySem.Str.ofString (toString i)).length ≤ 1930
    rw [PySem.ofString_length]
    omega
  | .str x, _ => Nat.le_refl _
  | .tup l, h => by
    have h1 := wtA_sum l (shown_wtA l h)
    have h2 := tupleText_len_le (PyData.shownAll (pdA l))
    show (tupleText (PyData.shownAll (pdA l))).length ≤ wtA l + 10
    omega
  | .lst l, h => by
    have h1 := wtA_sum l (shown_wtA l h)
    have h2 := listText_len_le (PyData.shownAll (pdA l))
    show (listText (PyData.shownAll (pdA l))).length ≤ wtA l + 10
    omega
  | .dic, h => by cases h
theorem shown_wtA : ∀ l : List Da, numsA l = true → ∀ d ∈ l, (PyData.shown (pd d)).length ≤ wt d
  | [], _, d, hd => by cases hd
  | e :: l, h, d, hd => by
    have h' : (nums e && numsA l) = true := h
    rw [Bool.and_eq_true] at h'
    cases hd with
    | head => exact shown_wt e h'.1
    | tail _ hd => exact shown_wtA l h'.2 d hd
end
def okr (d : Da) : Bool := nums d && (decide (dp d ≤ 60) && decide (wt d ≤ 16000000))
mutual
theorem Is.dp {K : PySem.W.Frag} {H : Hp} : ∀ (d : Da) (v : V), Is H v d → nums d = true → Dp K H v (pd d)
  | .non, _, h, _ => by cases h; exact .non
  | .bl b, _, h, _ => by cases h; exact .bl b
  | .int i, _, h, _ => by cases h; exact .int i
  | .str x, _, h, _ => by cases h; exact .str x
  | .tup l, _, h, n => by
    cases h with
    | tup e h => exact .tup (.inl (.inl e)) (IsAll.dp l _ h n)
  | .lst l, _, h, n => by
    cases h with
    | lst e h => exact .lst (.inl (.inl e)) (IsAll.dp l _ h n)
  | .dic, _, _, n => by cases n
theorem IsAll.dp {K : PySem.W.Frag} {H : Hp} : ∀ (l : List Da) (vs : List V), IsAll H vs l → numsA l = true → DpAll K H vs (pdA l)
  | [], _, h, _ => by cases h; exact .nil
  | d :: l, _, h, n => by
    have h' : (nums d && numsA l) = true := n
    rw [Bool.and_eq_true] at h'
    cases h with
    | cons h t => exact .cons (Is.dp d _ h h'.1) (IsAll.dp l _ t h'.2)
end
section
variable {X : Cx}
/-- repr(x) -/
theorem call_reprD (hu : X.A.units + 64 < cLine) (hg : X.A.guards = some []) : CallR X (.builtin "repr") (fun xs H Q => ∃ v d, xs = [v] ∧ Is H v d ∧ okr d = true ∧ Q (.str (pd d).shown) H) := by
  intro pins s σ H xs us Q I r h
  obtain ⟨v, d, rfl, hd, ok, q⟩ := h
  obtain ⟨u, rfl, ru⟩ := vals1 r
  unfold okr at ok
  rw [Bool.and_eq_true, Bool.and_eq_true] at ok
  have h1 := ok.1
  have h2 := of_decide_eq_true ok.2.1
  have h3 := of_decide_eq_true ok.2.2
  obtain ⟨s1, s2⟩ := nums_show d h1
  have sz := shown_wt d h1
  have line : (PyData.shown (pd d)).length ≤ sizeLine := Nat.le_trans sz (Nat.le_trans h3 (by decide))
  have fin : ∀ {t : Tok} {s' : Shared}, Inv X pins σ H s' → EP X pins σ Q (.str (pd d).shown t) s' := fun {t s'} I' => ⟨.str (pd d).shown, H, I', ⟨t, rfl⟩, q⟩
  have rr : ∀ {a : Addr}, u = .ref a → Dp X.K H v (pd d) → wpAny (model X.prog X.w) X.A (PySem.call (.builtin "repr") [u]) (EP X pins σ Q) X.xe s := fun {a} e D => by
    subst e
    obtain ⟨as, rr⟩ := Dp.reads I (pd d) _ _ D ru
    refine repr_of_reads' rr s1 (fun z => by rw [s2] at z; cases z) hg (by rw [dp_eq]; omega) (fun _ _ e => e) (fun h' u tk hk => ?_) line
    exact fin (I.kept hk)
  have D := Is.dp (K := X.K) d v hd h1
  cases hd with
  | non =>
    cases ru
    exact PySem.P.repr_of_none (fin (I.tok _))
  | bl b =>
    cases ru
    exact PySem.P.repr_of_bool (fin (I.tok _))
  | int i =>
    obtain ⟨t, rfl⟩ := ru
    exact PySem.P.repr_of_int (of_decide_eq_true h1) (fin (I.tok _))
  | str x =>
    obtain ⟨t, rfl⟩ := ru
    exact PySem.P.repr_of_str (fin (I.tok _)) line
  | tup e hx => exact rr (show u = _ from ru) D
  | lst e hx => exact rr (show u = _ from ru) D
  | dic e => cases h1
end
/-! ### what is new -/
/-- all that v is made of has been made since H -/
def New (H H' : Hp) (v : V) (d : Da) : Prop := ∀ S, Live S H → Is (mn S H') v d
section
variable {H H1 H2 : Hp} {v : V} {d : Da}
theorem New.is (h : New H H1 v d) : Is H1 v d := (h (fun _ => false) (fun _ z => by cases z)).up mn_same
theorem New.up (h : New H H1 v d) (s : Same H1 H2) : New H H2 v d := fun S l => (h S l).up (Same.less s)
theorem New.from (h : New H1 H2 v d) (s : Same H H1) : New H H2 v d := fun S l => h S (l.more s)
theorem New.int {i : Int} : New H H1 (.int i) (.int i) := fun _ _ => .int i
theorem New.bl {b : Bool} : New H H1 (.bl b) (.bl b) := fun _ _ => .bl b
theorem New.str {x : Str} : New H H1 (.str x) (.str x) := fun _ _ => .str x
theorem New.tup2 {p : Addr} {v w : V} {d e : Da} (hp : H p = none) (e1 : H1 p = some (.tup [v, w])) (a : New H H1 v d) (b : New H H1 w e) : New H H1 (.ref p) (.tup [d, e]) := fun S l => by
  refine .tup ?_ (.cons (a S l) (.cons (b S l) .nil))
  rw [mn_at]
  · exact e1
  · cases q : S p with
    | false => rfl
    | true => exact absurd hp (l p q)
end
/-! ### drawing, more -/
section
variable {S : Addr → Bool} {j bk : Addr} {H0 H : Hp} {c c1 c2 n : Nat} {σ : L2.St} {te ta tb : TE}
/-- f(jar, e) -/
theorem dr_reachE {i : Nat} {P : Int → Prop} (h : σ[i]? = some (some (.ref j))) (hm : Dr S j bk H0 c σ te (fun d => ∃ m, d = .int m ∧ P m)) (hP : ∀ m, P m → 0 < m ∧ m.natAbs < 2 ^ 8000) :
    Dr S j bk H0 (c + 1) σ (tCall spReach [] E0 (tCons (tVar i) (tCons te tNil))) (fun d => ∃ r, d = .int r ∧ ∃ m, P m ∧ 0 ≤ r ∧ r < m) := fun H n Q kp lv J hn k =>
  ⟨_, h, hm H n _ kp lv J (by omega) fun v d H1 k1 l1 J1 i1 p1 => by
    obtain ⟨m, rfl, pm⟩ := p1
    cases i1
    exact ⟨j, bk, m, n + c, rfl, J1, by omega, (hP m pm).1, (hP m pm).2, fun r H' k2 J2 h0 h1 => k _ _ H' (k1.trans k2) (l1.up k2 J2) (by rwa [Nat.add_assoc] at J2) (.int r) ⟨r, rfl, m, pm, h0, h1⟩⟩⟩
end
/-! ### numbers -/
def bitsN : Nat := 4000
/-- the parts of a number have less than so many bits -/
def NB (n : Nat) (d : Da) : Prop := (above d).natAbs < 2 ^ n ∧ (below d).natAbs < 2 ^ n
theorem NB.more {n m : Nat} {d : Da} (h : NB n d) (l : n ≤ m) : NB m d := ⟨Nat.lt_of_lt_of_le h.1 (Nat.pow_le_pow_right (by decide) l), Nat.lt_of_lt_of_le h.2 (Nat.pow_le_pow_right (by decide) l)⟩
/-- two numbers that can be reckoned together -/
def Fit (d e : Da) : Prop := ∃ m n, 0 < m ∧ 0 < n ∧ m + n ≤ 8900 ∧ NB m d ∧ NB n e
theorem fit_of {d e : Da} (h : NB bitsN d ∧ NB bitsN e) : Fit d e := ⟨bitsN, bitsN, by decide, by decide, by decide, h.1, h.2⟩
/-- a / b in its one form, made new -/
def spNo : Sp := fun vs H Q _ => ∃ a b : Int, vs = [.int a, .int b] ∧ b ≠ 0 ∧ b.natAbs < 2 ^ 8900 ∧ ∀ v d H', Same H H' → New H H' v d → Low a b d → Q v H'
/-- what a def of numbers gives -/
def spOn (F : Da → Da → Prop) : Sp := fun vs H Q _ => ∃ v d, vs = [v] ∧ Is H v d ∧ isNum d = true ∧ NB 8900 d ∧ ∀ w r H', Same H H' → New H H' w r → F d r → Q w H'
def spOn2 (C : Da → Da → Prop) (F : Da → Da → Da → Prop) : Sp := fun vs H Q _ => ∃ u v d e, vs = [u, v] ∧ Is H u d ∧ Is H v e ∧ isNum d = true ∧ isNum e = true ∧ Fit d e ∧ C d e ∧ ∀ w r H', Same H H' → New H H' w r → F d e r → Q w H'
def CT (_ _ : Da) : Prop := True
def fSum (d e r : Da) : Prop := Low (above d * below e + above e * below d) (below d * below e) r
def fDiff (d e r : Da) : Prop := Low (above d * below e - above e * below d) (below d * below e) r
def fProd (d e r : Da) : Prop := Low (above d * above e) (below d * below e) r
def fQuot (d e r : Da) : Prop := Low (above d * below e) (below d * above e) r
def fLess (d e r : Da) : Prop := r = .bl (decide (above d * below e < above e * below d))
def fNeg (d r : Da) : Prop := Low (-above d) (below d) r
def sgn (i : Int) : Int := (if decide (0 < i) = true then (1 : Int) else 0) - if decide (i < 0) = true then (1 : Int) else 0
def fSign (d r : Da) : Prop := r = .int (sgn (above d))
theorem Low.nb {a b : Int} {d : Da} {n : Nat} (h : Low a b d) (ha : a.natAbs < 2 ^ n) (hb : b.natAbs < 2 ^ n) : NB n d := ⟨Nat.lt_of_le_of_lt h.num.2.2.2.1 ha, Nat.lt_of_le_of_lt h.num.2.2.2.2 hb⟩
/-- the number that comes of a number that stands for a fraction -/
theorem quot_of {a b p q u v : Int} {f r : Da} (h : Low p q f) (hr : Low (a * above f) (b * below f) r) (hb : b ≠ 0) (hq : q ≠ 0) (hu : u = a * p) (hv : v = b * q) : Low u v r := by
  obtain ⟨d, hd⟩ := Low.at u v (by rw [hv]; exact Int.mul_ne_zero hb hq)
  have e : r = d := hr.uniq hd (by
    rw [hu, hv]
    have e1 := h.num.2.2.1
    calc a * above f * (b * q) = a * b * (above f * q) := by rw [Int.mul_assoc, Int.mul_left_comm (above f) b q, ← Int.mul_assoc a]
      _ = a * b * (p * below f) := by rw [e1]
      _ = a * p * (b * below f) := by rw [Int.mul_assoc, Int.mul_left_comm b p, ← Int.mul_assoc a])
  rw [e]
  exact hd
theorem diff_of {a b c e : Int} {f r : Da} (h : Low (-c) e f) (hr : Low (a * below f + above f * b) (b * below f) r) (hb : b ≠ 0) (he : e ≠ 0) : Low (a * e - c * b) (b * e) r := by
  obtain ⟨d, hd⟩ := Low.at (a * e - c * b) (b * e) (Int.mul_ne_zero hb he)
  have q : r = d := hr.uniq hd (by
    have e1 := h.num.2.2.1
    have e2 : (a * below f + above f * b) * (b * e) = a * below f * (b * e) + above f * e * (b * b) := by
      rw [Int.add_mul]
      congr 1
      rw [Int.mul_assoc, Int.mul_assoc, Int.mul_left_comm b b e, Int.mul_comm e, Int.mul_comm (b * b) e]
      simp only [Int.mul_assoc, Int.mul_comm, Int.mul_left_comm]
    rw [e2, e1, Int.sub_mul]
    simp only [Int.mul_assoc, Int.mul_comm, Int.mul_left_comm, Int.neg_mul, Int.mul_neg, Int.sub_eq_add_neg])
  rw [q]
  exact hd
end Ty
namespace Ty
open PySem PySem.Spec PyProof.Rows L2
/-- a demand on a value -/
def spNeed (f : Da → Bool) (C : Addr) : Sp := fun vs H Q E => ∃ v p d, vs = [v, p] ∧ Is H v d ∧ (f d = true → ∀ H', Same H H' → Q .non H') ∧ (f d = false → Out1 C "part" p H E)
def spBoth (C : Addr) : Sp := fun vs H Q E => ∃ u v d e, vs = [u, v] ∧ Is H u d ∧ Is H v e ∧ (isNum d = false → Out1 C "part" (.str "one") H E) ∧ (isNum d = true → isNum e = false → Out1 C "part" (.str "other") H E) ∧
  (isNum d = true → isNum e = true → ∀ H', Same H H' → Q .non H')
/-- two numbers reckoned -/
def spBin (C : Addr) (G : Da → Da → Prop) (F : Da → Da → Da → Prop) : Sp := fun vs H Q E => ∃ u v d e, vs = [u, v] ∧ Is H u d ∧ Is H v e ∧ (isNum d = true → isNum e = true → Fit d e) ∧
  (isNum d = false → Out1 C "part" (.str "one") H E) ∧ (isNum d = true → isNum e = false → Out1 C "part" (.str "other") H E) ∧
  (isNum d = true → isNum e = true → G d e → ∀ w r H', Same H H' → New H H' w r → F d e r → Q w H')
def spQuo (C C2 : Addr) : Sp := fun vs H Q E => ∃ u v d e, vs = [u, v] ∧ Is H u d ∧ Is H v e ∧ (isNum d = true → isNum e = true → Fit d e) ∧
  (isNum d = false → Out1 C "part" (.str "one") H E) ∧ (isNum d = true → isNum e = false → Out1 C "part" (.str "other") H E) ∧ (isNum d = true → isNum e = true → above e = 0 → Out1 C2 "part" (.str "other") H E) ∧
  (isNum d = true → isNum e = true → above e ≠ 0 → ∀ w r H', Same H H' → New H H' w r → fQuot d e r → Q w H')
def spSgn (C : Addr) : Sp := fun vs H Q E => ∃ v d, vs = [v] ∧ Is H v d ∧ (isNum d = true → NB 8900 d) ∧ (isNum d = false → Out1 C "part" (.str "number") H E) ∧ (isNum d = true → ∀ w r H', Same H H' → New H H' w r → fSign d r → Q w H')
theorem sgn_zero {i : Int} : sgn i = 0 ↔ i = 0 := by
  unfold sgn
  by_cases h1 : 0 < i
  · rw [decide_eq_true h1, decide_eq_false (by omega : ¬ i < 0)]
    constructor
    · intro z; cases z
    · intro z; omega
  · by_cases h2 : i < 0
    · rw [decide_eq_false h1, decide_eq_true h2]
      constructor
      · intro z; cases z
      · intro z; omega
    · rw [decide_eq_false h1, decide_eq_false h2]
      constructor
      · intro z; omega
      · intro z; rfl
end Ty

namespace Ty
open PySem PySem.Spec PyProof.Rows L2
section
variable {S : Addr → Bool} {j bk : Addr} {H0 H : Hp} {c c1 c2 c3 n : Nat} {σ : L2.St} {te ta tb tc : TE}
/-- a / b in its one form -/
theorem dr_low {Pa Pb : Int → Prop} (ha : Dr S j bk H0 c1 σ ta (fun d => ∃ i, d = .int i ∧ Pa i)) (hb : Dr S j bk H0 c2 σ tb (fun d => ∃ i, d = .int i ∧ Pb i)) (hp : ∀ b, Pb b → b ≠ 0 ∧ b.natAbs < 2 ^ 8900) :
    Dr S j bk H0 (c1 + c2) σ (tCall spNo [] E0 (tCons ta (tCons tb tNil))) (fun d => ∃ a b, Pa a ∧ Pb b ∧ Low a b d) := fun H n Q kp lv J hn k =>
  ha H n _ kp lv J (by omega) fun v d H1 k1 l1 J1 h1 p1 => hb H1 (n + c1) _ (kp.trans k1) l1 J1 (by omega) fun u e H2 k2 l2 J2 h2 p2 => by
    obtain ⟨a, rfl, pa⟩ := p1
    obtain ⟨b, rfl, pb⟩ := p2
    cases h1
    cases h2
    exact ⟨a, b, rfl, (hp b pb).1, (hp b pb).2, fun w r H3 s3 n3 l3 => k w r H3 ((k1.trans k2).trans (Same.keep s3)) (l2.more s3) ((by rwa [Nat.add_assoc] at J2 : Jar j bk H2 (n + (c1 + c2))).up s3) (n3 S l2) ⟨a, b, pa, pb, l3⟩⟩
/-- one of a list that is made -/
theorem dr_pickV {i : Nat} {P2 : List Da → Prop} (hj : S j = true) (h : σ[i]? = some (some (.ref j))) (hl : Dr S j bk H0 c σ te (fun d => ∃ ds, d = .lst ds ∧ P2 ds)) (hp : ∀ ds, P2 ds → 0 < ds.length ∧ ds.length ≤ 1000) :
    Dr S j bk H0 (c + 1) σ (tCall spPick [] E0 (tCons (tVar i) (tCons te tNil))) (fun d => ∃ ds, P2 ds ∧ d ∈ ds) := fun H n Q kp lv J hn k =>
  ⟨_, h, hl H n _ kp lv J (by omega) fun v d H1 k1 l1 J1 h1 p1 => by
    obtain ⟨ds, rfl, p2⟩ := p1
    cases h1 with
    | @lst a xs _ e hx =>
      obtain ⟨e1, e2⟩ := mn_of e
      have aj : a ≠ j := fun z => by rw [z, hj] at e1; cases e1
      have hl := hp ds p2
      have hl2 := hx.length
      refine ⟨j, bk, a, xs, n + c, rfl, J1, by omega, e2, aj, by omega, by omega, fun v H' k2 J2 hv => ?_⟩
      obtain ⟨i, hi⟩ := List.getElem?_of_mem hv
      obtain ⟨d, hd, hi2⟩ := hx.at hi
      exact k v d H' (k1.trans k2) (l1.up k2 J2) (by rwa [Nat.add_assoc] at J2) (hi2.up (k2.less hj)) ⟨ds, p2, List.mem_of_getElem? hd⟩⟩
theorem dr_cat {d1 d2 : List Da} (hj : S j = true) (ha : Dr S j bk H0 0 σ ta (· = .lst d1)) (hb : Dr S j bk H0 0 σ tb (· = .lst d2)) (hl : d1.length + d2.length ≤ 1000) : Dr S j bk H0 0 σ (tOp rCat ta tb) (· = .lst (d1 ++ d2)) := fun H n Q kp lv J hn k =>
  ha H n _ kp lv J hn fun v d H1 k1 l1 J1 h1 p1 => hb H1 n _ (kp.trans k1) l1 J1 hn fun u e H2 k2 l2 J2 h2 p2 => by
    subst p1
    subst p2
    have h1' := h1.up (k2.less hj)
    cases h1' with
    | @lst a xs _ e1 x1 =>
      cases h2 with
      | @lst b ys _ e2 x2 =>
        refine ⟨a, b, xs, ys, rfl, rfl, (mn_of e1).2, (mn_of e2).2, ?_, fun p hp => ?_⟩
        · rw [x1.length, x2.length]
          exact Nat.le_trans hl (by decide)
        · refine k _ _ _ ((k1.trans k2).trans (Same.keep (Same.new hp))) (l2.more (Same.new hp)) (J2.up (Same.new hp)) (.lst (mn_put l2 hp) ?_) rfl
          have app : ∀ {xs ys : List V} {d1 d2 : List Da} {G : Hp}, IsAll G xs d1 → IsAll G ys d2 → IsAll G (xs ++ ys) (d1 ++ d2) := by
            intro xs ys d1
            induction d1 generalizing xs with
            | nil => intro d2 G q1 q2; cases q1; exact q2
            | cons d ds ih => intro d2 G q1 q2; cases q1 with | cons q1 q3 => exact .cons q1 (ih q3 q2)
          exact app (x1.up (Same.less (Same.new hp))) (x2.up (Same.less (Same.new hp)))
/-- three at once -/
theorem dr_par3 {i l m : Nat} {tz : TS} {D : Ends} {Pa Pb Pc : Da → Prop} (hj : S j = true) (ha : Dr S j bk H c1 σ ta Pa) (hb : Dr S j bk H c2 σ tb Pb) (hc : Dr S j bk H c3 σ tc Pc) (lv : Live S H) (J : Jar j bk H n) (hn : n + (c1 + c2 + c3) ≤ 100000)
    (k : ∀ v d u e w f H', Keep j H H' → Live S H' → Jar j bk H' (n + (c1 + c2 + c3)) → Is (mn S H') v d → Pa d → Is (mn S H') u e → Pb e → Is (mn S H') w f → Pc f → tz D (((σ.set i (some v)).set l (some u)).set m (some w)) H') : tSeq (tPar3 i l m (tCons ta (tCons tb (tCons tc tNil)))) tz D σ H :=
  ha H n _ (Keep.refl _) lv J (by omega) fun v d H1 k1 l1 J1 h1 p1 => hb H1 (n + c1) _ k1 l1 J1 (by omega) fun u e H2 k2 l2 J2 h2 p2 => hc H2 (n + c1 + c2) _ (k1.trans k2) l2 J2 (by omega) fun w f H3 k3 l3 J3 h3 p3 =>
    ⟨v, u, w, rfl, k v d u e w f H3 ((k1.trans k2).trans k3) l3 (by rwa [Nat.add_assoc, Nat.add_assoc, ← Nat.add_assoc c1] at J3) (h1.up ((k2.trans k3).less hj)) p1 (h2.up (k3.less hj)) p2 h3 p3⟩
end
/-- a number of not too many digits can be shown -/
theorem log2_lt_nat {i : Int} {n : Nat} (h : i.natAbs < 2 ^ n) (h0 : 0 < n) : i.natAbs.log2 < n := PySem.Flt.log2_lt_of h0 h
theorem num_show {d : Da} (h : isNum d = true) (b : NB 1900 d) : nums d = true ∧ dp d ≤ 1 ∧ wt d ≤ 4000 := by
  have two : ∀ l, isPair l = true → ∃ a b : Int, l = [.int a, .int b] := fun l hl => by
    match l, hl with
    | [.int a, .int b], hl => exact ⟨a, b, rfl⟩
  have lg : ∀ {i : Int}, i.natAbs < 2 ^ 1900 → nums (.int i) = true := fun {i} h => decide_eq_true (Nat.lt_of_lt_of_le (log2_lt_nat h (by decide)) (by decide))
  cases d with
  | int i => exact ⟨lg b.1, by show 0 ≤ 1; decide, by show 1930 ≤ 4000; decide⟩
  | tup l =>
    obtain ⟨x, y, rfl⟩ := two l (by simpa [isNum, isN, isS, items] using h)
    refine ⟨?_, by show 1 ≤ 1; decide, by show 1930 + 2 + (1930 + 2 + 0) + 10 ≤ 4000; decide⟩
    show (nums (.int x) && (nums (.int y) && true)) = true
    rw [(lg b.1 : nums (.int x) = true), (lg b.2 : nums (.int y) = true)]
    rfl
  | lst l =>
    obtain ⟨x, y, rfl⟩ := two l (by simpa [isNum, isN, isS, items] using h)
    refine ⟨?_, by show 1 ≤ 1; decide, by show 1930 + 2 + (1930 + 2 + 0) + 10 ≤ 4000; decide⟩
    show (nums (.int x) && (nums (.int y) && true)) = true
    rw [(lg b.1 : nums (.int x) = true), (lg b.2 : nums (.int y) = true)]
    rfl
  | _ => cases h
theorem num_okr {d : Da} (h : isNum d = true) (b : NB 1900 d) : okr d = true := by
  obtain ⟨h1, h2, h3⟩ := num_show h b
  unfold okr
  rw [h1, decide_eq_true (by omega : dp d ≤ 60), decide_eq_true (by omega : wt d ≤ 16000000)]
  rfl
theorem num_okr2 {d e : Da} (h : isNum d = true) (b : NB 1900 d) (h' : isNum e = true) (b' : NB 1900 e) : okr (.lst [d, e]) = true ∧ okr (.tup [d, e]) = true := by
  obtain ⟨h1, h2, h3⟩ := num_show h b
  obtain ⟨h4, h5, h6⟩ := num_show h' b'
  have e1 : nums (.lst [d, e]) = true := by
    show (nums d && (nums e && true)) = true
    rw [h1, h4]
    rfl
  have e2 : dp (.lst [d, e]) ≤ 60 := by
    show max (dp d) (max (dp e) 0) + 1 ≤ 60
    omega
  have e3 : wt (.lst [d, e]) ≤ 16000000 := by
    show wt d + 2 + (wt e + 2 + 0) + 10 ≤ 16000000
    omega
  constructor
  · unfold okr
    rw [e1, decide_eq_true e2, decide_eq_true e3]
    rfl
  · have q1 : nums (.tup [d, e]) = true := e1
    have q2 : dp (.tup [d, e]) ≤ 60 := e2
    have q3 : wt (.tup [d, e]) ≤ 16000000 := e3
    unfold okr
    rw [q1, decide_eq_true q2, decide_eq_true q3]
    rfl
/-- gcd by rests -/
theorem gcd_step {p o : Int} (p0 : 0 ≤ p) (o0 : 0 < o) : Nat.gcd o.natAbs (p % o).natAbs = Nat.gcd p.natAbs o.natAbs := by
  obtain ⟨p', rfl⟩ := Int.eq_ofNat_of_zero_le p0
  obtain ⟨o', rfl⟩ := Int.eq_ofNat_of_zero_le (Int.le_of_lt o0)
  have e : ((p' : Int) % (o' : Int)).natAbs = p' % o' := by rw [← Int.natCast_emod, Int.natAbs_natCast]
  rw [e, Int.natAbs_natCast, Int.natAbs_natCast, Nat.gcd_comm, ← Nat.gcd_rec, Nat.gcd_comm]
def spCommon : Sp := fun vs H Q _ => ∃ a b : Int, vs = [.int a, .int b] ∧ Q (.int ((Nat.gcd a.natAbs b.natAbs : Nat) : Int)) H
/-- the five words, and what comes -/
def res (w : Str) (a b c e : Int) (r : Da) : Prop :=
  (w = "plus" ∧ Low (a * e + c * b) (b * e) r) ∨ (w = "minus" ∧ Low (a * e - c * b) (b * e) r) ∨ (w = "times" ∧ Low (a * c) (b * e) r) ∨ (w = "below" ∧ r = .bl (decide (a * e < c * b))) ∨
  (w = "quotient" ∧ c ≠ 0 ∧ Low (a * e) (b * c) r) ∨ (w = "quotient" ∧ c = 0 ∧ r = .tup [.str "misfit", .str "other"])
theorem res.uniq {w : Str} {a b c e : Int} {r r' : Da} (h : res w a b c e r) (h' : res w a b c e r') : r = r' := by
  rcases h with ⟨rfl, h⟩ | ⟨rfl, h⟩ | ⟨rfl, h⟩ | ⟨rfl, h⟩ | ⟨rfl, hc, h⟩ | ⟨rfl, hc, h⟩ <;> rcases h' with ⟨e', h'⟩ | ⟨e', h'⟩ | ⟨e', h'⟩ | ⟨e', h'⟩ | ⟨e', hc', h'⟩ | ⟨e', hc', h'⟩ <;>
    first
      | exact h.uniq h' rfl
      | exact h.trans h'.symm
      | exact absurd e' (by decide)
      | exact absurd hc hc'
      | exact absurd hc' hc
theorem res.okr {w : Str} {a b c e : Int} {r : Da} {n : Nat} (h : res w a b c e r) (hn : n + n + 1 ≤ 1900) (ha : a.natAbs < 2 ^ n) (hb : b.natAbs < 2 ^ n) (hc : c.natAbs < 2 ^ n) (he : e.natAbs < 2 ^ n) : okr r = true := by
  have m : ∀ {x y : Int}, x.natAbs < 2 ^ n → y.natAbs < 2 ^ n → (x * y).natAbs < 2 ^ (n + n) := fun h1 h2 => wide_lt h1 h2
  have up : ∀ {x : Int}, x.natAbs < 2 ^ (n + n) → x.natAbs < 2 ^ 1900 := fun h => Nat.lt_of_lt_of_le h (Nat.pow_le_pow_right (by decide) (by omega))
  have two : (2 : Nat) ^ (n + n) + 2 ^ (n + n) ≤ 2 ^ 1900 := by
    rw [← Nat.two_mul, ← Nat.pow_succ']
    exact Nat.pow_le_pow_right (by decide) hn
  rcases h with ⟨rfl, h⟩ | ⟨rfl, h⟩ | ⟨rfl, h⟩ | ⟨rfl, rfl⟩ | ⟨rfl, _, h⟩ | ⟨rfl, _, rfl⟩
  · have h1 := m ha he
    have h2 := m hc hb
    exact num_okr h.num.1 (h.nb (by omega) (up (m hb he)))
  · have h1 := m ha he
    have h2 := m hc hb
    exact num_okr h.num.1 (h.nb (by omega) (up (m hb he)))
  · exact num_okr h.num.1 (h.nb (up (m ha hc)) (up (m hb he)))
  · generalize decide (a * e < c * b) = k
    cases k <;> decide
  · exact num_okr h.num.1 (h.nb (up (m ha he)) (up (m hb hc)))
  · decide +kernel
def W5 : List Str := ["plus", "minus", "times", "below", "quotient"]
end Ty
namespace Ty
open PySem PySem.Spec PyProof.Rows L2
def spNumber : Sp := fun vs H Q _ => ∃ (S : Addr → Bool) (j bk : Addr) (n : Nat), vs = [.ref j] ∧ S j = true ∧ Live S H ∧ Jar j bk H n ∧ n + 5 ≤ 100000 ∧
  ∀ v d H', Keep j H H' → Live S H' → Jar j bk H' (n + 5) → Is (mn S H') v d → isOne d = true → NB 140 d → Q v H'
def spTold : Sp := fun vs H Q _ => ∃ (S : Addr → Bool) (j bk : Addr) (n : Nat) (v : V) (d : Da), vs = [.ref j, v] ∧ S j = true ∧ Live S H ∧ Jar j bk H n ∧ n + 1 ≤ 100000 ∧ Is (mn S H) v d ∧ isOne d = true ∧
  ∀ w f H', Keep j H H' → Live S H' → Jar j bk H' (n + 1) → Is (mn S H') w f → isNum f = true → above f = above d → below f = below d → Q w H'
end Ty
namespace Ty
open PySem PySem.Spec PyProof.Rows L2
def spPairN : Sp := fun vs H Q _ => ∃ (S : Addr → Bool) (j bk : Addr) (n : Nat), vs = [.ref j] ∧ S j = true ∧ Live S H ∧ Jar j bk H n ∧ n + 12 ≤ 100000 ∧
  ∀ p v u d e H', Keep j H H' → Live S H' → Jar j bk H' (n + 12) → H' p = some (.tup [v, u]) → Is (mn S H') v d → Is (mn S H') u e → isOne d = true → isOne e = true → NB 140 d → NB 140 e → Q (.ref p) H'
/-- within the pair's making -/
def PairI (S : Addr → Bool) (j bk : Addr) (H : Hp) (v : V) (d : Da) (way : Int) (m : Nat) : L2.St → Hp → Prop := fun σ' H' => ∃ u e, σ' = [some (.ref j), some v, some u, some (.int way), some (.int (above d)), some (.int (below d))] ∧
  Keep j H H' ∧ Live S H' ∧ Jar j bk H' m ∧ Is (mn S H') v d ∧ Is (mn S H') u e ∧ isOne e = true ∧ NB 140 e
def spDone (C C2 : Addr) : Sp := fun vs H Q E => ∃ w u v d e, vs = [.str w, u, v] ∧ w ∈ W5 ∧ Is H u d ∧ Is H v e ∧ (isNum d = true → isNum e = true → NB bitsN d ∧ NB bitsN e) ∧
  (isNum d = false → Out1 C "part" (.str "one") H E) ∧ (isNum d = true → isNum e = false → Out1 C "part" (.str "other") H E) ∧ (isNum d = true → isNum e = true → w = "quotient" → above e = 0 → Out1 C2 "part" (.str "other") H E) ∧
  (isNum d = true → isNum e = true → ∀ x r H', Same H H' → New H H' x r → res w (above d) (below d) (above e) (below e) r → Q x H')
def spHeard : Sp := fun vs H Q _ => ∃ w u v d e, vs = [.str w, u, v] ∧ w ∈ W5 ∧ Is H u d ∧ Is H v e ∧ (isNum d = true → isNum e = true → NB bitsN d ∧ NB bitsN e) ∧
  (isNum d = false → ∀ x H', Same H H' → Is H' x (.tup [.str "number", .str "one"]) → Q x H') ∧ (isNum d = true → isNum e = false → ∀ x H', Same H H' → Is H' x (.tup [.str "number", .str "other"]) → Q x H') ∧
  (isNum d = true → isNum e = true → ∀ x r H', Same H H' → Is H' x r → res w (above d) (below d) (above e) (below e) r → Q x H')
def spDue : Sp := fun vs H Q _ => ∃ w u v d e, vs = [.str w, u, v] ∧ w ∈ W5 ∧ Is H u d ∧ Is H v e ∧ isNum d = true ∧ isNum e = true ∧ NB bitsN d ∧ NB bitsN e ∧
  ∀ x r H', Same H H' → Is H' x r → res w (above d) (below d) (above e) (below e) r → Q x H'
def spOdd : Sp := fun vs H Q _ => ∃ (S : Addr → Bool) (j bk : Addr) (n : Nat) (v : V) (d : Da), vs = [.ref j, v] ∧ S j = true ∧ Live S H ∧ Jar j bk H n ∧ n + 2 ≤ 100000 ∧ Is (mn S H) v d ∧ isOne d = true ∧ NB 140 d ∧
  ∀ w f H', Keep j H H' → Live S H' → Jar j bk H' (n + 2) → Is (mn S H') w f → isNum f = false → Q w H'
theorem str_ne {a b : Str} (h : a ≠ b) : ¬ V.str a = V.str b := fun z => h (by injection z)
section
variable {S : Addr → Bool} {j bk : Addr} {H0 H : Hp} {c c1 n : Nat} {σ : L2.St} {te : TE}
theorem dr_number {i : Nat} (hS : S j = true) (h : σ[i]? = some (some (.ref j))) : Dr S j bk H0 5 σ (tCall spNumber [] E0 (tCons (tVar i) tNil)) (fun d => isOne d = true ∧ NB 140 d) := fun H n Q kp lv J hn k =>
  ⟨_, h, S, j, bk, n, rfl, hS, lv, J, hn, fun v d H' k' l' J' h' g1 g2 => k v d H' k' l' J' h' ⟨g1, g2⟩⟩
theorem dr_told {i l : Nat} {v : V} {d : Da} (hS : S j = true) (h : σ[i]? = some (some (.ref j))) (h2 : σ[l]? = some (some v)) (hv : Is (mn S H0) v d) (od : isOne d = true) :
    Dr S j bk H0 1 σ (tCall spTold [] E0 (tCons (tVar i) (tCons (tVar l) tNil))) (fun f => isNum f = true ∧ above f = above d ∧ below f = below d) := fun H n Q kp lv J hn k =>
  ⟨_, h, _, h2, S, j, bk, n, v, d, rfl, hS, lv, J, hn, hv.up (kp.less hS), od, fun w f H' k' l' J' h' g1 g2 g3 => k w f H' k' l' J' h' ⟨g1, g2, g3⟩⟩
theorem dr_odd {i l : Nat} {v : V} {d : Da} (hS : S j = true) (h : σ[i]? = some (some (.ref j))) (h2 : σ[l]? = some (some v)) (hv : Is (mn S H0) v d) (od : isOne d = true) (bd : NB 140 d) :
    Dr S j bk H0 2 σ (tCall spOdd [] E0 (tCons (tVar i) (tCons (tVar l) tNil))) (fun f => isNum f = false) := fun H n Q kp lv J hn k =>
  ⟨_, h, _, h2, S, j, bk, n, v, d, rfl, hS, lv, J, hn, hv.up (kp.less hS), od, bd, fun w f H' k' l' J' h' g1 => k w f H' k' l' J' h' g1⟩
theorem dr_negE {i : Int} (h : Dr S j bk H0 c σ te (· = .int i)) : Dr S j bk H0 c σ (tUn (rU fun i => .int (-i)) te) (· = .int (-i)) := fun H n Q kp lv J hn k =>
  h H n _ kp lv J hn fun v d H1 k1 l1 J1 h1 p1 => by
    subst p1
    cases h1
    exact ⟨i, rfl, k _ _ H1 k1 l1 J1 (.int _) rfl⟩
end
theorem pair_not {a b : Int} {t : Int} (ht : 2 ≤ t) : isNum (.tup [.int (a * t), .int (b * t)]) = false := by
  show (false || (true && (decide (2 ≤ b * t) && decide (Nat.gcd (a * t).natAbs (b * t).natAbs = 1)))) = false
  have e : Nat.gcd (a * t).natAbs (b * t).natAbs ≠ 1 := by
    rw [Int.natAbs_mul, Int.natAbs_mul, Nat.gcd_mul_right]
    intro z
    have := Nat.eq_one_of_mul_eq_one_left z
    omega
  rw [decide_eq_false e]
  cases decide (2 ≤ b * t) <;> rfl
theorem low_not {a b : Int} (hb : b < 2) : isNum (.tup [.int a, .int b]) = false := by
  show (false || (true && (decide (2 ≤ b) && decide (Nat.gcd a.natAbs b.natAbs = 1)))) = false
  rw [decide_eq_false (by omega)]
  rfl
end Ty
namespace Ty
open PySem PySem.Spec PyProof.Rows L2
/-- whether all is right with two numbers -/
def spRight2 : Sp := fun vs H Q _ => ∃ (S : Addr → Bool) (j bk : Addr) (n : Nat) (u v : V) (d e : Da), vs = [.ref j, u, v] ∧ S j = true ∧ Live S H ∧ Jar j bk H n ∧ n + 2 ≤ 100000 ∧ Is (mn S H) u d ∧ Is (mn S H) v e ∧ isOne d = true ∧ isOne e = true ∧ NB 140 d ∧ NB 140 e ∧
  ∀ H', Keep j H H' → Live S H' → Jar j bk H' (n + 2) → Q (.bl true) H'
def spRight1 : Sp := fun vs H Q _ => ∃ (S : Addr → Bool) (j bk : Addr) (n : Nat) (u : V) (d : Da), vs = [.ref j, u] ∧ S j = true ∧ Live S H ∧ Jar j bk H n ∧ n + 4 ≤ 100000 ∧ Is (mn S H) u d ∧ isOne d = true ∧ NB 140 d ∧
  ∀ H', Keep j H H' → Live S H' → Jar j bk H' (n + 4) → Q (.bl true) H'
def spLaw (K : PySem.W.Frag) : Sp := fun vs H Q _ => ∃ (a : Addr) (ns : List Int), vs = [.ref a] ∧ SqL K H a (ns.map V.int) ∧ ns.length ≤ 63 ∧ ∀ H', Q (.bl true) H'
/-- the words, walked -/
def W5v : List V := [.str "plus", .str "minus", .str "times", .str "below", .str "quotient"]
theorem W5_at {i : Nat} {x : V} (h : W5v[i]? = some x) : ∃ w, x = .str w ∧ w ∈ W5 := by
  have m := List.mem_of_getElem? h
  simp only [W5v, List.mem_cons, List.not_mem_nil, or_false] at m
  rcases m with rfl | rfl | rfl | rfl | rfl <;> exact ⟨_, rfl, by simp [W5]⟩
end Ty

namespace Ty
open PySem PySem.Spec PyProof.Rows L2
/-! ### enumerate of a tuple -/
set_option maxHeartbeats 1000000 in
theorem enumT_new (t : Addr) (items : Array Value) : Meets (Builtin.«enumerate.__new__» ⟨[.type "enumerate", .ref t], []⟩) (fun _ R s => s.heap.IsTuple t items ∧
    R (.ok (.ret (.ref (s.heap.push { cls := .type "tuple_iterator", data := .fields #[.ref t, .int 0 0] }).objs.size))) { s with heap := (s.heap.push { cls := .type "tuple_iterator", data := .fields #[.ref t, .int 0 0] }).push { cls := .type "enumerate", data := .fields #[.none, .bool false, .ref s.heap.objs.size, rawInt 0, .none, .none] } }) :=
  .of_wp fun prog w A R s h => by
    obtain ⟨hp, g, d, tk, os⟩ := s
    obtain ⟨h1, h⟩ := h
    have hsub := sub_enumerate
    have q1 : ∀ {A' : Around} {E : Value → Shared → Prop} {Q : Value → Shared → Prop}, Q (.ref hp.objs.size) ⟨hp.push { cls := .type "tuple_iterator", data := .fields #[.ref t, .int 0 0] }, g, d, tk, os⟩ → wpAny (model prog w) A' (pyIter (.ref t)) Q E ⟨hp, g, d, tk, os⟩ :=
      fun q => wpAny_pyIter_tuple h1 q
    wp_walk using q1
    refine wpAny_stack_any fun st => wpAny_pure ?_
    split
    · rename_i c _ _ _ _ _
      cases (c == Value.type "enumerate")
      · wp_walk using q1
        exact ⟨_, rfl, h⟩
      · wp_walk using q1
        exact ⟨_, rfl, h⟩
    · wp_walk using q1
      exact ⟨_, rfl, h⟩
section
variable {prog : Program} {w : World} {A : Around} {E : Value → Shared → Prop} {s : Shared}
theorem call_enumT {t : Addr} {items : Array Value} {Q : Value → Shared → Prop} (hT : s.heap.IsTuple t items)
    (h : ∀ h', IsEnum h' (s.heap.objs.size + 1) s.heap.objs.size 0 .none → h'.IsTupleIter s.heap.objs.size t 0 → (∀ b o, s.heap.get? b = some o → h'.get? b = some o) → Q (.ref (s.heap.objs.size + 1)) { s with heap := h' }) :
    wpAny (model prog w) A (PySem.call (.type "enumerate") [.ref t]) Q E s := by
  refine callType_new F.called_enumerate (by decide) (F.typeCall_enumerate_1 _) (F.newCall_enumerate_1 _) (fun obj => F.args_object_init_2 obj _) F.entry_enumerate_new (enumT_new t items) ⟨hT, ?_⟩
  have hz : (s.heap.push { cls := .type "tuple_iterator", data := .fields #[.ref t, .int 0 0] }).objs.size = s.heap.objs.size + 1 := Heap.size_push ..
  show _ ∧ _
  rw [hz]
  have he : IsEnum ((s.heap.push { cls := .type "tuple_iterator", data := .fields #[.ref t, .int 0 0] }).push { cls := .type "enumerate", data := .fields #[.none, .bool false, .ref s.heap.objs.size, rawInt 0, .none, .none] }) (s.heap.objs.size + 1) s.heap.objs.size 0 .none := by
    have q := Heap.get?_push_size (s.heap.push { cls := .type "tuple_iterator", data := .fields #[.ref t, .int 0 0] }) (o := { cls := .type "enumerate", data := .fields #[.none, .bool false, .ref s.heap.objs.size, rawInt 0, .none, .none] }) rfl
    rw [hz] at q
    exact q
  exact ⟨⟨_, he, rfl⟩, h _ he ⟨_, Heap.get?_push_of_some _ (Heap.get?_push_size _ rfl), rfl, rfl⟩ fun b o x => Heap.get?_push_of_some _ (Heap.get?_push_of_some _ x)⟩
end
theorem drawsT {prog : Program} {w : World} {A : Around} (hh : A.handled = none) (it t : Addr) (hne : t ≠ it) (items : Array Value) :
    Draws prog w A it [it, t] items.size (fun i v => items[i]? = some v) (fun i h => h.IsTupleIter it t i ∧ h.IsTuple t items) where
  live := fun _ _ st => let ⟨o, ho, _⟩ := st.1; ⟨o, ho⟩
  frame := fun _ _ _ st hk => ⟨st.1.at fun o e => hk it (by simp) o e, by
    obtain ⟨o, ho, r⟩ := st.2
    exact ⟨o, hk t (by simp) o ho, r⟩⟩
  item := fun i s Q E hi st hQ => by
    refine RZ.nextOf_tuple_item st.1 st.2 (x := items[i]) (by simp [hi]) fun h' hit' hs' => ?_
    refine hQ _ h' s.toks (by simp [hi]) ⟨hit', ?_⟩ hs'
    obtain ⟨o, ho, r⟩ := st.2
    exact ⟨o, (hs'.2 t hne).trans ho, r⟩
  done := fun s Q E st hE => RZ.nextOf_tuple_end hh st.1 st.2 (by simp) hE
/-- the tuple at a, each item in a new pair -/
def IteT (K : PySem.W.Frag) (a : Addr) : It :=
  ⟨fun i H => ∃ (xs : List V) (x : V), SqT K H a xs ∧ xs[i]? = some x, fun i H v H' => ∃ T x, v = .ref T ∧ H T = none ∧ H' = upd H T (.tup [.int (i : Nat), x]) ∧ ∀ xs, SqT K H a xs → xs[i]? = some x, fun i H => ∃ xs : List V, SqT K H a xs ∧ xs.length = i⟩
end Ty
namespace Ty
open PySem PySem.Spec PyProof.Rows L2
theorem turn_enumT {P : Program} {w : World} {K : PySem.W.Frag} {elts : List Expr} {kk : Nat} {tpos : Pos} (a e it : Addr) :
    Turn P w K (.Tuple elts kk tpos) (IteT K a) [e, it] e (fun i h => (∃ old, IsEnum h e it ((i : Nat) : Int) old) ∧ h.IsTupleIter it a i ∧ e ≠ it) where
  mem := by simp
  obj := fun i h st b hb => by
    obtain ⟨⟨old, he⟩, ⟨o, ho, hc, hd⟩, _⟩ := st
    rcases (by simpa using hb : b = e ∨ b = it) with z | z
    · rw [z]; exact ⟨_, he, fun v q => nomatch q⟩
    · rw [z]; exact ⟨o, ho, fun v q => by rw [hd] at q; cases q⟩
  keep := fun i h h' st k => let ⟨⟨old, he⟩, hi, hne⟩ := st; ⟨⟨old, k e (by simp) _ he⟩, hi.at fun o q => k it (by simp) o q, hne⟩
  item := by
    intro X hP hw hK hc i pins s σ H E I hf st hg
    subst hP hw hK
    obtain ⟨⟨old, he⟩, hit, hne⟩ := st
    obtain ⟨xs, x, hq, hx⟩ := hg
    obtain ⟨its, rv, p, hz⟩ := I.tuple hq
    obtain ⟨u, hu, ru⟩ := rv.get hx
    have hel : e < s.heap.objs.size := Heap.lt_size he
    have hil : it < s.heap.objs.size := by obtain ⟨_, q, _⟩ := hit; exact Heap.lt_size q
    have p' : s.heap.IsTuple a its.toArray := p
    have ae : e ≠ a := fun z => by
      obtain ⟨o, ho, hc, _⟩ := p'
      rw [← z, he] at ho
      cases ho
      simp at hc
    have ai : a ≠ it := fun z => by
      obtain ⟨o, ho, hc, _⟩ := p'
      obtain ⟨o2, ho2, hc2, _⟩ := hit
      rw [z, ho2] at ho
      cases ho
      rw [hc] at hc2
      simp at hc2
    have hlt : i < its.toArray.size := by
      have := (List.getElem?_eq_some_iff.mp hu).1
      simpa using this
    refine wpAny_pyNext_enum_itemD (drawsT (A := X.A.in1) (I.ok.hd hc) it a ai its.toArray) he ⟨hit, p'⟩ hlt hne (by simp [hne, ae]) fun x' h' tk hx' ho hst' hT hsz hk => ?_
    obtain ⟨hit', _⟩ := hst'
    have ex : x' = u := by
      have q : its[i]? = some x' := by simpa using hx'
      rw [hu] at q
      exact (Option.some.inj q).symm
    subst ex
    refine ⟨_, rfl, wpAny_letOwnedTupleGo_enum (s := { s with heap := h', toks := tk + 1 }) ho fun h'' he' sb => ?_⟩
    have hT2 : h''.get? s.heap.objs.size = some { cls := .type "tuple", data := .seq #[.int i tk, x'] } := (sb.2 _ (Nat.ne_of_gt hel)).trans hT
    have new : ObjOk X.prog X.w (upd H s.heap.objs.size (.tup [.int (i : Nat), x])) h'' s.heap.objs.size (.tup [.int (i : Nat), x]) :=
      ⟨by show 2 ≤ sizeLine; decide, [.int i tk, x'], .cons ⟨_, rfl⟩ (.cons ru .nil), ⟨_, hT2, rfl, _, rfl⟩⟩
    have I1 : Inv X pins σ (upd H s.heap.objs.size (.tup [.int (i : Nat), x])) { s with heap := h'', toks := tk + 1 } :=
      I.turnedNew (ch := [e, it]) (fun b ob hb q => (sb.2 b (fun z => hb (by simp [z]))).trans (hk b ob (fun z => hb (by simp [z])) (fun z => hb (by simp [z])) q)) hf (Nat.le_refl _) new
    refine ⟨.ref s.heap.objs.size, _, I1, rfl, ⟨_, x, rfl, I.hok.fresh (Nat.le_refl _), rfl, fun ys hy => by rw [I.tuple_inj hy hq]; exact hx⟩, ⟨⟨x', ?_⟩, hit'.at fun o q => (sb.2 it (Ne.symm hne)).trans q, hne⟩, fun b hb => ?_⟩
    · have e1 : ((i + 1 : Nat) : Int) = (i : Int) + 1 := by omega
      rw [e1]; exact he'
    · have hb' : b < s.heap.objs.size := by
        rcases (by simpa using hb : b = e ∨ b = it) with z | z
        · rw [z]; exact hel
        · rw [z]; exact hil
      rw [upd_ne (Nat.ne_of_lt hb')]
      exact (hf b hb).1
  done := by
    intro X hP hw hK hc i pins s σ H E I hf st hg
    subst hP hw hK
    obtain ⟨⟨old, he⟩, hit, hne⟩ := st
    obtain ⟨xs, hq, hx⟩ := hg
    obtain ⟨its, rv, p, hz⟩ := I.tuple hq
    obtain ⟨f0, f1, f2, f3, f4, f5⟩ := hf it (by simp)
    have hl := rv.length
    have p' : s.heap.IsTuple a its.toArray := p
    have ai : a ≠ it := fun z => by
      obtain ⟨o, ho, hc, _⟩ := p'
      obtain ⟨o2, ho2, hc2, _⟩ := hit
      rw [z, ho2] at ho
      cases ho
      rw [hc] at hc2
      simp at hc2
    have en : its.toArray.size = i := by simp; omega
    refine wpAny_pyNext_enum_endD (drawsT (A := X.A.in1) (I.ok.hd hc) it a ai its.toArray) he ⟨by rw [en]; exact hit, p'⟩ fun h' eb => ⟨rfl, I.turned (t' := s.toks) (fun b o hb q => eb b o hb q) f0 f1 f3 f4 f5⟩
  self := fun A i s Q E st h => let ⟨⟨_, he⟩, _⟩ := st; wpAny_pyIter_enum he h
def iEnumT (K : PySem.W.Frag) (ta : TA) : TI := fun σ H R => ta σ H fun vs H1 => ∃ a xs, vs = [.ref a] ∧ SqT K H1 a xs ∧ R (IteT K a) H1
theorem pi_enumT {X : Cx} {e : Expr} {ta : TA} {p pos tpos : Pos} {elts : List Expr} {kk : Nat} (hg : Gl X "enumerate") (hm : X.mg "enumerate" = none) (ha : PA X [e] ta) (hs : starEach [e] X.env = [(false, eval e X.env)] := by rfl) :
    PI X (.Tuple elts kk tpos) (.Call (.Name "enumerate" p) [e] [] pos) (iEnumT X.K ta) := by
  refine ⟨fun pins s σ H R I h => ?_⟩
  refine Call_ (ld_blt I hg hm boot_enumerate (PyProof.Rows.callWith_type1 (thn (ha.run pos pins s σ H _ I h) fun us s1 hh => ?_) hs rfl))
  obtain ⟨vs, H1, I1, r1, a, xs, ex, hq, q⟩ := hh
  subst ex
  cases r1 with
  | cons r rr =>
    cases rr
    cases r
    obtain ⟨its, rv, p', hz⟩ := I1.tuple hq
    refine call_enumT p' fun h' he hit hk => wpAny_pyIter_enum he ?_
    have I2 : Inv X pins σ H1 { s1 with heap := h' } := I1.kept (t' := s1.toks) hk
    refine ⟨s1.heap.objs.size + 1, [s1.heap.objs.size + 1, s1.heap.objs.size], _, _, H1, rfl, I2, turn_enumT a (s1.heap.objs.size + 1) s1.heap.objs.size, ⟨⟨.none, he⟩, hit, Nat.succ_ne_self _⟩, fun b hb => ?_, q⟩
    have hle : s1.heap.objs.size ≤ b := by
      rcases (by simpa using hb : b = s1.heap.objs.size + 1 ∨ b = s1.heap.objs.size) with z | z
      · rw [z]; exact Nat.le_add_right _ _
      · rw [z]; exact Nat.le_refl _
    exact I1.fpOk hle (I1.hok.fresh hle)
section
variable {K : PySem.W.Frag} {a : Addr} {xs : List V}
theorem walk_enumT : Walk (IteT K a) xs.length (fun H => SqT K H a xs) (YPair (fun i => some (.int (i : Nat))) (fun i => xs[i]?)) := by
  refine ⟨fun i H hi h => ⟨xs, xs[i], h, by simp [hi]⟩, fun H h => ⟨xs, h, rfl⟩, ?_⟩
  rintro i H x H' hi h ⟨T, y, e1, e2, e3, e4⟩
  exact ⟨T, .int (i : Nat), y, e1, e2, e3, rfl, e4 xs h⟩
theorem walk_revT : Walk (RT.ItvT K a xs.length) xs.length (fun H => SqT K H a xs) (fun i H x H' => H' = H ∧ xs[xs.length - 1 - i]? = some x) := by
  refine ⟨fun i H hi h => ⟨hi, xs, xs[xs.length - 1 - i], h, List.getElem?_eq_getElem (by omega)⟩, fun H h => Nat.le_refl _, ?_⟩
  rintro i H x H' hi h ⟨e1, e2⟩
  exact ⟨e1, e2 xs h⟩
end
end Ty

namespace Ty
open PySem PySem.Spec PyProof.Rows L2
/-! ### numbers as rationals -/
def rt (d : Da) : Rat := Rat.divInt (above d) (below d)
def ofR (q : Rat) : Da := frac q.num (q.den : Int)
theorem ofR_low (q : Rat) : Low q.num (q.den : Int) (ofR q) := ⟨q.num, q.den, 1, by decide, (Int.mul_one _).symm, (Int.mul_one _).symm, by have := q.den_pos; omega, by rw [Int.natAbs_natCast]; exact q.reduced, rfl⟩
theorem ofR_one (q : Rat) : isOne (ofR q) = true := (ofR_low q).one
theorem ofR_num (q : Rat) : isNum (ofR q) = true := isOne_num (ofR_one q)
theorem ofR_above (q : Rat) : above (ofR q) = q.num := frac_above
theorem ofR_below (q : Rat) : below (ofR q) = (q.den : Int) := frac_below
theorem rt_ofR (q : Rat) : rt (ofR q) = q := by
  unfold rt
  rw [ofR_above, ofR_below]
  exact Rat.num_divInt_den q
theorem low_ofR {a b : Int} {d : Da} (hb : b ≠ 0) (h : Low a b d) : d = ofR (Rat.divInt a b) := by
  refine h.uniq (ofR_low (Rat.divInt a b)) ?_
  have e := Rat.num_divInt_den (Rat.divInt a b)
  have d0 : (((Rat.divInt a b).den : Nat) : Int) ≠ 0 := by have := (Rat.divInt a b).den_pos; omega
  have q := (Rat.divInt_eq_divInt_iff d0 hb).mp e
  exact q.symm
theorem rt_low {a b : Int} {d : Da} (hb : b ≠ 0) (h : Low a b d) : rt d = Rat.divInt a b := by rw [low_ofR hb h, rt_ofR]
theorem ofR_rt {d : Da} (h : isOne d = true) : ofR (rt d) = d := by
  have n := num_parts (isOne_num h)
  have l := Low.self (isOne_num h)
  rw [← isOne_frac h] at l
  exact (low_ofR (by omega) l).symm
theorem num_is {d : Da} (h : isNum d = true) : above d = (rt d).num ∧ below d = ((rt d).den : Int) := by
  have n := num_parts h
  have e := low_ofR (by omega) (Low.self h)
  have e1 : above (frac (above d) (below d)) = (rt d).num := by rw [e, ofR_above]; rfl
  have e2 : below (frac (above d) (below d)) = ((rt d).den : Int) := by rw [e, ofR_below]; rfl
  rw [frac_above] at e1
  rw [frac_below] at e2
  exact ⟨e1, e2⟩
section
variable {d e r : Da}
theorem fSum_rt (h1 : isNum d = true) (h2 : isNum e = true) (h : fSum d e r) : r = ofR (rt d + rt e) := by
  have a := (num_parts h1).1
  have b := (num_parts h2).1
  rw [low_ofR (Int.mul_ne_zero (by omega) (by omega)) h]
  unfold rt
  rw [Rat.divInt_add_divInt _ _ (by omega) (by omega)]
theorem fDiff_rt (h1 : isNum d = true) (h2 : isNum e = true) (h : fDiff d e r) : r = ofR (rt d - rt e) := by
  have a := (num_parts h1).1
  have b := (num_parts h2).1
  rw [low_ofR (Int.mul_ne_zero (by omega) (by omega)) h]
  unfold rt
  rw [Rat.divInt_sub_divInt _ _ (by omega) (by omega)]
theorem fProd_rt (h1 : isNum d = true) (h2 : isNum e = true) (h : fProd d e r) : r = ofR (rt d * rt e) := by
  have a := (num_parts h1).1
  have b := (num_parts h2).1
  rw [low_ofR (Int.mul_ne_zero (by omega) (by omega)) h]
  unfold rt
  rw [Rat.divInt_mul_divInt]
end
/-- the parts of a rational have less than n bits -/
def Sz (n : Nat) (q : Rat) : Prop := q.num.natAbs < 2 ^ n ∧ q.den < 2 ^ n
theorem Sz.more {n m : Nat} {q : Rat} (h : Sz n q) (l : n ≤ m) : Sz m q := ⟨Nat.lt_of_lt_of_le h.1 (Nat.pow_le_pow_right (by decide) l), Nat.lt_of_lt_of_le h.2 (Nat.pow_le_pow_right (by decide) l)⟩
theorem Sz.nb {n : Nat} {d : Da} (h : isNum d = true) (s : Sz n (rt d)) : NB n d := by
  obtain ⟨e1, e2⟩ := num_is h
  unfold NB
  rw [e1, e2]
  exact ⟨s.1, by rw [Int.natAbs_natCast]; exact s.2⟩
theorem sz_nb {n : Nat} {d : Da} (h : isNum d = true) (s : NB n d) : Sz n (rt d) := by
  obtain ⟨e1, e2⟩ := num_is h
  unfold NB at s
  rw [e1, e2] at s
  exact ⟨s.1, by have := s.2; rwa [Int.natAbs_natCast] at this⟩
theorem sz_low {n : Nat} {a b : Int} (hb : b ≠ 0) (h1 : a.natAbs < 2 ^ n) (h2 : b.natAbs < 2 ^ n) : Sz n (Rat.divInt a b) := by
  obtain ⟨d, hd⟩ := Low.at a b hb
  rw [← rt_low hb hd]
  exact sz_nb hd.num.1 (hd.nb h1 h2)
theorem Sz.add {a b : Nat} {p q : Rat} (h1 : Sz a p) (h2 : Sz b q) : Sz (a + b + 1) (p + q) := by
  have e : p + q = Rat.divInt (p.num * q.den + q.num * p.den) ((p.den : Int) * q.den) := by
    have d1 : ((p.den : Nat) : Int) ≠ 0 := by have := p.den_pos; omega
    have d2 : ((q.den : Nat) : Int) ≠ 0 := by have := q.den_pos; omega
    rw [← Rat.divInt_add_divInt _ _ d1 d2, Rat.num_divInt_den, Rat.num_divInt_den]
  rw [e]
  have x1 : (p.num * (q.den : Int)).natAbs < 2 ^ (a + b) := wide_lt h1.1 (by rw [Int.natAbs_natCast]; exact h2.2)
  have x2 : (q.num * (p.den : Int)).natAbs < 2 ^ (b + a) := wide_lt h2.1 (by rw [Int.natAbs_natCast]; exact h1.2)
  have x3 : ((p.den : Int) * (q.den : Int)).natAbs < 2 ^ (a + b) := wide_lt (by rw [Int.natAbs_natCast]; exact h1.2) (by rw [Int.natAbs_natCast]; exact h2.2)
  rw [Nat.add_comm b a] at x2
  have two : 2 ^ (a + b + 1) = 2 ^ (a + b) + 2 ^ (a + b) := by rw [Nat.pow_succ]; omega
  refine sz_low (Int.mul_ne_zero (by have := p.den_pos; omega) (by have := q.den_pos; omega)) (by omega) (by omega)
theorem Sz.mul {a b : Nat} {p q : Rat} (h1 : Sz a p) (h2 : Sz b q) : Sz (a + b) (p * q) := by
  have e : p * q = Rat.divInt (p.num * q.num) ((p.den : Int) * q.den) := by
    rw [← Rat.divInt_mul_divInt, Rat.num_divInt_den, Rat.num_divInt_den]
  rw [e]
  exact sz_low (Int.mul_ne_zero (by have := p.den_pos; omega) (by have := q.den_pos; omega)) (wide_lt h1.1 h2.1) (wide_lt (by rw [Int.natAbs_natCast]; exact h1.2) (by rw [Int.natAbs_natCast]; exact h2.2))
theorem sz_zero : Sz 1 0 := ⟨by decide, by decide⟩
theorem sz_one : Sz 1 1 := ⟨by decide, by decide⟩
end Ty
/-! ### rows: the mathematics -/
namespace Ty
/-- Horner -/
def hval (l : List Rat) (x : Rat) : Rat := l.foldr (fun c t => t * x + c) 0
theorem hval_nil (x : Rat) : hval [] x = 0 := rfl
theorem hval_cons (c : Rat) (l : List Rat) (x : Rat) : hval (c :: l) x = hval l x * x + c := rfl
/-- the slope's value -/
def dval : List Rat → Rat → Rat
  | [], _ => 0
  | _ :: l, x => hval l x + x * dval l x
/-- k c0, (k + 1) c1, .. -/
def wsl : Rat → List Rat → List Rat
  | _, [] => []
  | k, c :: l => k * c :: wsl (k + 1) l
def slope : List Rat → List Rat
  | [] => []
  | [_] => [0]
  | _ :: l => wsl 1 l
theorem wsl_len : ∀ (k : Rat) (l : List Rat), (wsl k l).length = l.length
  | _, [] => rfl
  | k, c :: l => by
    show (wsl (k + 1) l).length + 1 = l.length + 1
    rw [wsl_len]
theorem wsl_at : ∀ (k : Rat) (l : List Rat) (i : Nat) (c : Rat), l[i]? = some c → (wsl k l)[i]? = some ((k + (i : Nat)) * c)
  | k, a :: l, 0, c, h => by
    cases h
    show some (k * a) = some ((k + ((0 : Nat) : Rat)) * a)
    have e : k + ((0 : Nat) : Rat) = k := by simp [Rat.add_zero]
    rw [e]
  | k, a :: l, i + 1, c, h => by
    have h' : l[i]? = some c := h
    show (wsl (k + 1) l)[i]? = _
    rw [wsl_at (k + 1) l i c h']
    congr 2
    have : ((i + 1 : Nat) : Rat) = (i : Rat) + 1 := by push_cast; rfl
    grind
theorem hval_wsl : ∀ (k : Rat) (l : List Rat) (x : Rat), hval (wsl k l) x = k * hval l x + x * dval l x
  | k, [], x => by
    show (0 : Rat) = k * 0 + x * 0
    grind
  | k, a :: l, x => by
    show hval (wsl (k + 1) l) x * x + k * a = k * (hval l x * x + a) + x * (hval l x + x * dval l x)
    rw [hval_wsl]
    grind
theorem hval_slope : ∀ (l : List Rat) (x : Rat), hval (slope l) x = dval l x
  | [], _ => rfl
  | [a], x => by
    show (0 : Rat) * x + 0 = 0 + x * 0
    grind
  | a :: b :: l, x => by
    show hval (wsl 1 (b :: l)) x = hval (b :: l) x + x * dval (b :: l) x
    rw [hval_wsl]
    grind
/-- k x^(k-1) -/
def ee : Nat → Rat → Rat
  | 0, _ => 0
  | k + 1, x => x ^ k + x * ee k x
theorem pow_next (x : Rat) (k : Nat) : x ^ (k + 1) = x ^ k * x := Rat.pow_succ x k
theorem pow_sum (x : Rat) (i : Nat) : ∀ j, x ^ (i + j) = x ^ i * x ^ j
  | 0 => by
    rw [Nat.add_zero, Rat.pow_zero]
    grind
  | j + 1 => by
    rw [← Nat.add_assoc, pow_next, pow_next, pow_sum x i j]
    grind
theorem ee_add : ∀ (i j : Nat) (x : Rat), ee (i + j) x = ee i x * x ^ j + x ^ i * ee j x
  | 0, j, x => by
    rw [Nat.zero_add]
    show ee j x = 0 * x ^ j + x ^ 0 * ee j x
    rw [Rat.pow_zero]
    grind
  | i + 1, j, x => by
    have e : i + 1 + j = (i + j) + 1 := by omega
    rw [e]
    show x ^ (i + j) + x * ee (i + j) x = (x ^ i + x * ee i x) * x ^ j + x ^ (i + 1) * ee j x
    rw [ee_add i j x, pow_next, pow_sum]
    grind
def addAt (l : List Rat) (i : Nat) (c : Rat) : List Rat := l.set i (l.getD i 0 + c)
theorem addAt_len (l : List Rat) (i : Nat) (c : Rat) : (addAt l i c).length = l.length := List.length_set
theorem hval_addAt : ∀ (l : List Rat) (k : Nat) (c x : Rat), k < l.length → hval (addAt l k c) x = hval l x + c * x ^ k
  | a :: l, 0, c, x, _ => by
    show hval l x * x + (a + c) = hval l x * x + a + c * x ^ 0
    rw [Rat.pow_zero]
    grind
  | a :: l, k + 1, c, x, h => by
    have h' : k < l.length := by simpa using h
    show hval (addAt l k c) x * x + a = hval l x * x + a + c * x ^ (k + 1)
    rw [hval_addAt l k c x h', pow_next]
    grind
theorem dval_addAt : ∀ (l : List Rat) (k : Nat) (c x : Rat), k < l.length → dval (addAt l k c) x = dval l x + c * ee k x
  | a :: l, 0, c, x, _ => by
    show hval l x + x * dval l x = hval l x + x * dval l x + c * 0
    grind
  | a :: l, k + 1, c, x, h => by
    have h' : k < l.length := by simpa using h
    show hval (addAt l k c) x + x * dval (addAt l k c) x = hval l x + x * dval l x + c * (x ^ k + x * ee k x)
    rw [hval_addAt l k c x h', dval_addAt l k c x h']
    grind
theorem hval_snoc : ∀ (l : List Rat) (c x : Rat), hval (l ++ [c]) x = hval l x + c * x ^ l.length
  | [], c, x => by
    show (0 : Rat) * x + c = 0 + c * x ^ 0
    rw [Rat.pow_zero]
    grind
  | a :: l, c, x => by
    show hval (l ++ [c]) x * x + a = hval l x * x + a + c * x ^ (l.length + 1)
    rw [hval_snoc, pow_next]
    grind
theorem dval_snoc : ∀ (l : List Rat) (c x : Rat), dval (l ++ [c]) x = dval l x + c * ee l.length x
  | [], c, x => by
    show (0 : Rat) + x * 0 = 0 + c * 0
    grind
  | a :: l, c, x => by
    show hval (l ++ [c]) x + x * dval (l ++ [c]) x = hval l x + x * dval l x + c * (x ^ l.length + x * ee l.length x)
    rw [hval_snoc, dval_snoc]
    grind
/-- the row of a product, as both loops make it -/
def convIn (p : Rat) (i : Nat) (q l : List Rat) (m : Nat) : List Rat := (List.range m).foldl (fun l j => addAt l (i + j) (p * q.getD j 0)) l
def convOut (p q l : List Rat) (m : Nat) : List Rat := (List.range m).foldl (fun l i => convIn (p.getD i 0) i q l q.length) l
def conv (p q : List Rat) : List Rat := convOut p q (List.replicate (p.length + q.length - 1) 0) p.length
theorem convIn_next (p : Rat) (i : Nat) (q l : List Rat) (m : Nat) : convIn p i q l (m + 1) = addAt (convIn p i q l m) (i + m) (p * q.getD m 0) := by
  unfold convIn
  rw [List.range_succ, List.foldl_append]
  rfl
theorem convOut_next (p q l : List Rat) (m : Nat) : convOut p q l (m + 1) = convIn (p.getD m 0) m q (convOut p q l m) q.length := by
  unfold convOut
  rw [List.range_succ, List.foldl_append]
  rfl
theorem convIn_len (p : Rat) (i : Nat) (q l : List Rat) : ∀ m, (convIn p i q l m).length = l.length
  | 0 => rfl
  | m + 1 => by rw [convIn_next, addAt_len, convIn_len p i q l m]
theorem convOut_len (p q l : List Rat) : ∀ m, (convOut p q l m).length = l.length
  | 0 => rfl
  | m + 1 => by rw [convOut_next, convIn_len, convOut_len p q l m]
theorem conv_len (p q : List Rat) : (conv p q).length = p.length + q.length - 1 := by
  unfold conv
  rw [convOut_len, List.length_replicate]
theorem take_next (q : List Rat) (m : Nat) (h : m < q.length) : q.take (m + 1) = q.take m ++ [q.getD m 0] := by
  rw [List.take_add_one, List.getElem?_eq_getElem h]
  simp [List.getD_eq_getElem?_getD, List.getElem?_eq_getElem h]
theorem hval_convIn (p : Rat) (i : Nat) (q l : List Rat) (x : Rat) (hl : i + q.length ≤ l.length) : ∀ m, m ≤ q.length → hval (convIn p i q l m) x = hval l x + p * x ^ i * hval (q.take m) x
  | 0, _ => by
    show hval l x = hval l x + p * x ^ i * 0
    grind
  | m + 1, h => by
    rw [convIn_next, hval_addAt _ _ _ _ (by rw [convIn_len]; omega), hval_convIn p i q l x hl m (by omega), take_next q m (by omega), hval_snoc, List.length_take, Nat.min_eq_left (by omega), pow_sum]
    grind
theorem dval_convIn (p : Rat) (i : Nat) (q l : List Rat) (x : Rat) (hl : i + q.length ≤ l.length) : ∀ m, m ≤ q.length → dval (convIn p i q l m) x = dval l x + p * (ee i x * hval (q.take m) x + x ^ i * dval (q.take m) x)
  | 0, _ => by
    show dval l x = dval l x + p * (ee i x * 0 + x ^ i * 0)
    grind
  | m + 1, h => by
    rw [convIn_next, dval_addAt _ _ _ _ (by rw [convIn_len]; omega), dval_convIn p i q l x hl m (by omega), take_next q m (by omega), hval_snoc, dval_snoc, List.length_take, Nat.min_eq_left (by omega), ee_add]
    grind
theorem hval_convOut (p q l : List Rat) (x : Rat) (hl : p.length + q.length ≤ l.length + 1) : ∀ m, m ≤ p.length → hval (convOut p q l m) x = hval l x + hval (p.take m) x * hval q x
  | 0, _ => by
    show hval l x = hval l x + 0 * hval q x
    grind
  | m + 1, h => by
    rw [convOut_next, hval_convIn _ _ _ _ _ (by rw [convOut_len]; omega) _ (Nat.le_refl _), hval_convOut p q l x hl m (by omega), take_next p m (by omega), hval_snoc, List.length_take, Nat.min_eq_left (by omega), List.take_length]
    grind
theorem dval_convOut (p q l : List Rat) (x : Rat) (hl : p.length + q.length ≤ l.length + 1) : ∀ m, m ≤ p.length → dval (convOut p q l m) x = dval l x + (dval (p.take m) x * hval q x + hval (p.take m) x * dval q x)
  | 0, _ => by
    show dval l x = dval l x + (0 * hval q x + 0 * dval q x)
    grind
  | m + 1, h => by
    rw [convOut_next, dval_convIn _ _ _ _ _ (by rw [convOut_len]; omega) _ (Nat.le_refl _), dval_convOut p q l x hl m (by omega), take_next p m (by omega), hval_snoc, dval_snoc, List.length_take, Nat.min_eq_left (by omega), List.take_length]
    grind
theorem hval_zeros (x : Rat) : ∀ n, hval (List.replicate n 0) x = 0
  | 0 => rfl
  | n + 1 => by
    show hval (List.replicate n 0) x * x + 0 = 0
    rw [hval_zeros x n]
    grind
theorem dval_zeros (x : Rat) : ∀ n, dval (List.replicate n 0) x = 0
  | 0 => rfl
  | n + 1 => by
    show hval (List.replicate n 0) x + x * dval (List.replicate n 0) x = 0
    rw [hval_zeros x n, dval_zeros x n]
    grind
theorem hval_conv (p q : List Rat) (x : Rat) (hp : 0 < p.length) : hval (conv p q) x = hval p x * hval q x := by
  unfold conv
  rw [hval_convOut _ _ _ _ (by rw [List.length_replicate]; omega) _ (Nat.le_refl _), hval_zeros, List.take_length]
  grind
theorem dval_conv (p q : List Rat) (x : Rat) (hp : 0 < p.length) : dval (conv p q) x = dval p x * hval q x + hval p x * dval q x := by
  unfold conv
  rw [dval_convOut _ _ _ _ (by rw [List.length_replicate]; omega) _ (Nat.le_refl _), dval_zeros, List.take_length]
  grind
end Ty
namespace Ty
open PySem PySem.Spec PyProof.Rows L2
/-! ### rows as data -/
def isRow (d : Da) : Bool := isS d && (decide (1 ≤ (items d).length ∧ (items d).length ≤ 25) && (items d).all isNum)
def rts (d : Da) : List Rat := (items d).map rt
end Ty

namespace Ty
open PySem PySem.Spec PyProof.Rows L2
/-- S and the address D -/
def wth (S : Addr → Bool) (D : Addr) : Addr → Bool := fun b => S b || decide (b = D)
theorem wth_self {S : Addr → Bool} {D : Addr} : wth S D D = true := by
  unfold wth
  rw [decide_eq_true rfl, Bool.or_true]
theorem wth_sub {S : Addr → Bool} {D b : Addr} (h : S b = true) : wth S D b = true := by
  unfold wth
  rw [h, Bool.true_or]
theorem wth_cases {S : Addr → Bool} {D b : Addr} (h : wth S D b = true) : S b = true ∨ b = D := by
  unfold wth at h
  rw [Bool.or_eq_true] at h
  exact h.imp_right of_decide_eq_true
theorem wth_live {S : Addr → Bool} {D : Addr} {H : Hp} {o : HO} (l : Live S H) (h : H D = some o) : Live (wth S D) H := fun b hb => by
  rcases wth_cases hb with z | z
  · exact l b z
  · rw [z, h]
    exact nofun
theorem wth_put {S : Addr → Bool} {D : Addr} {H : Hp} {o : HO} : Same (mn (wth S D) H) (mn (wth S D) (upd H D o)) := fun b u e => by
  obtain ⟨e1, e2⟩ := mn_of e
  have bd : b ≠ D := fun z => by rw [z, wth_self] at e1; cases e1
  rw [mn_at e1, upd_ne bd]
  exact e2
theorem mn_mono {S S' : Addr → Bool} {H : Hp} (h : ∀ b, S b = true → S' b = true) : Same (mn S' H) (mn S H) := fun b u e => by
  obtain ⟨e1, e2⟩ := mn_of e
  rw [mn_at]
  · exact e2
  · cases q : S b with
    | false => rfl
    | true => rw [h b q] at e1; cases e1
theorem IsAll.snoc {H : Hp} {v : V} {d : Da} : ∀ {vs : List V} {ds : List Da}, IsAll H vs ds → Is H v d → IsAll H (vs ++ [v]) (ds ++ [d])
  | _, [], h, k => by cases h; exact .cons k .nil
  | _, e :: ds, h, k => by
    cases h with
    | cons h t => exact .cons h (IsAll.snoc t k)
section
variable {J : It} {n : Nat} {G : Hp → Prop} {Y : Nat → Hp → V → Hp → Prop}
/-- [f(x) for x in ..]: each item made new of what stood before -/
theorem lc_map (w : Walk J n G Y) {g : TG} {tt : TT} {te : TE} {vs : List Nat} {σ : L2.St} {H : Hp} {D : Addr} {Qd : Hp → Prop} (f : Nat → Da) (hn : n ≤ 1000) (hD : H D = none) (hG : ∀ H', Same H H' → G H')
    (hs : ∀ m x H1 H2 (Q' : VK) (N : Hp → Prop), m < n → Same H H1 → Y m H1 x H2 → (∀ y H4, Same H1 H4 → New H1 H4 y (f m) → Q' y H4) →
      g x (wipe σ vs) H2 fun σ2 H3 => wipe σ2 vs = wipe σ vs ∧ tt σ2 H3 fun b H4 => if b = true then te σ2 H4 Q' else N H4)
    (k : ∀ H' ys, Same H H' → H' D = some (.lst ys) → ys.length = n → New H H' (.ref D) (.lst ((List.range n).map f)) → Qd H') :
    ∃ W : Nat → Nat → Hp → Prop, (∃ m, W 0 m (upd H D (.lst []))) ∧ ∀ i m H, W i m H →
      (J.stop i H ∧ Qd H) ∨ (J.go i H ∧ ∃ Nx : Hp → Prop, (∀ H', Nx H' → ∃ m', m' < m ∧ W (i + 1) m' H') ∧ ∀ x H', J.yld i H x H' → g x (wipe σ vs) H' fun σ2 H2 => wipe σ2 vs = wipe σ vs ∧ tt σ2 H2 fun b H3 =>
        if b = true then te σ2 H3 fun y H4 => ∃ acc, H4 D = some (.lst acc) ∧ acc.length < sizeLine ∧ Nx (upd H4 D (.lst (acc ++ [y]))) else Nx H3) := by
  refine lc_it w (fun i H' => Same H H' ∧ ∃ acc, H' D = some (.lst acc) ∧ acc.length = i ∧ ∀ S, Live S H → IsAll (mn (wth S D) H') acc ((List.range i).map f)) ⟨Same.new hD, [], upd_same, rfl, fun _ _ => .nil⟩ (fun i H' _ p => hG H' p.1) ?_ ?_
  · rintro i x H1 H2 hi ⟨s1, acc, ha, hl, hall⟩ y
    refine hs i x H1 H2 _ _ hi s1 y fun v H4 s4 nv => ⟨acc, s4 _ _ ha, by rw [hl]; exact Nat.lt_of_lt_of_le (show i < 1001 by omega) (by decide), Same.mut (s1.trans s4) hD, _, upd_same, by rw [List.length_append, hl]; rfl, fun S l => ?_⟩
    rw [List.range_succ, List.map_append]
    exact ((((hall S l).up (Same.less s4)).snoc (nv (wth S D) (wth_live (l.more s1) ha)))).up wth_put
  · rintro H' ⟨s1, acc, ha, hl, hall⟩
    refine k H' acc s1 ha hl fun S l => ?_
    have e : S D = false := by
      cases q : S D with
      | false => rfl
      | true => exact absurd hD (l D q)
    exact .lst (by rw [mn_at e]; exact ha) ((hall S l).up (mn_mono fun b hb => wth_sub hb))
end
/-- the items of a list or a tuple, and how they are walked -/
theorem Is.row {K : PySem.W.Frag} {H : Hp} {v : V} {d : Da} (h : Is H v d) (s : isS d = true) : ∃ a xs, v = .ref a ∧ ((∀ H', Same H H' → SqL K H' a xs) ∨ (∀ H', Same H H' → SqT K H' a xs)) ∧ IsAll H xs (items d) := by
  cases h with
  | tup e h => exact ⟨_, _, rfl, .inr fun H' s' => .inl (.inl (s' _ _ e)), h⟩
  | lst e h => exact ⟨_, _, rfl, .inl fun H' s' => .inl (.inl (s' _ _ e)), h⟩
  | _ => cases s
end Ty
namespace Ty
open PySem PySem.Spec PyProof.Rows L2
theorem range_getD {α β : Type} (f : α → β) (z : α) (l : List α) : ((List.range l.length).map fun m => f (l.getD m z)) = l.map f := by
  apply List.ext_getElem?
  intro i
  by_cases h : i < l.length
  · simp [h, List.getD_eq_getElem?_getD]
  · rw [List.getElem?_eq_none (by simp; omega), List.getElem?_eq_none (by simp; omega)]
theorem isAll_bl {H : Hp} : ∀ {ys : List V} {bs : List Bool}, IsAll H ys (bs.map Da.bl) → ys = bs.map V.bl
  | _, [], h => by cases h; rfl
  | _, b :: bs, h => by
    cases h with
    | cons h t =>
      cases h
      rw [isAll_bl t]
      rfl
theorem IsAll.get {H : Hp} : ∀ {vs : List V} {ds : List Da} {i : Nat} {d : Da}, IsAll H vs ds → ds[i]? = some d → ∃ v, vs[i]? = some v ∧ Is H v d
  | _, [], _, _, _, e => by simp at e
  | _, d :: ds, 0, _, h, e => by
    cases h with
    | cons h _ =>
      cases (Option.some.inj e)
      exact ⟨_, rfl, h⟩
  | _, d :: ds, i + 1, _, h, e => by
    cases h with
    | cons _ t =>
      have e' : ds[i]? = some _ := e
      obtain ⟨w, h1, h2⟩ := IsAll.get t e'
      exact ⟨w, h1, h2⟩
theorem IsAll.set {H : Hp} {v : V} {d : Da} : ∀ {vs : List V} {ds : List Da} (i : Nat), IsAll H vs ds → Is H v d → IsAll H (vs.set i v) (ds.set i d)
  | _, [], i, h, _ => by cases h; cases i <;> exact .nil
  | _, e :: ds, 0, h, k => by
    cases h with
    | cons _ t => exact .cons k t
  | _, e :: ds, i + 1, h, k => by
    cases h with
    | cons h t => exact .cons h (IsAll.set i t k)
/-- a number's text is the int -/
theorem ofR_int (i : Int) : ofR (i : Rat) = .int i := by
  unfold ofR frac
  rw [if_pos (by rfl)]
  rfl
theorem ofR_zero : ofR 0 = .int 0 := ofR_int 0
theorem rt_int (i : Int) : rt (.int i) = (i : Rat) := by rw [← ofR_int, rt_ofR]
/-! ### promises of rows -/
/-- an error of two fields -/
def Out2 (C : Addr) (f : Str) (v : V) (g : Str) (u : V) (H : Hp) (E : XK) : Prop := ∀ d H', Same H H' → H d = none → H' d = some (.xd [(g, u), (f, v)]) → E (.ref C) (some d) H'
theorem Out2.up {C : Addr} {f g : Str} {v u : V} {H H1 : Hp} {E : XK} (h : Out2 C f v g u H E) (s : Same H H1) : Out2 C f v g u H1 E := fun d H' s' hd hx => h d H' (s.trans s') (by
  cases e : H d with
  | none => rfl
  | some o => rw [s _ _ e] at hd; cases hd) hx
/-- a row whose value can be reckoned at x -/
def FitV (l : List Rat) (x : Rat) : Prop := ∃ s t, 0 < s ∧ 0 < t ∧ (∀ q ∈ l, Sz s q) ∧ Sz t x ∧ l.length * (s + t + 1) + s + t + 2 ≤ 8900
/-- rows whose product can be -/
def FitP (p q : List Rat) : Prop := ∃ s t, 0 < s ∧ 0 < t ∧ (∀ x ∈ p, Sz s x) ∧ (∀ x ∈ q, Sz t x) ∧ (p.length + 1) * (s + t + 1) + s + t + 2 ≤ 8900
def FitS (l : List Rat) : Prop := ∃ s, 0 < s ∧ (∀ q ∈ l, Sz s q) ∧ s + 10 ≤ 8900
def spVal (C : Addr) : Sp := fun vs H Q E => ∃ u v d e, vs = [u, v] ∧ Is H u d ∧ Is H v e ∧ (isRow d = false → Out1 C "part" (.str "row") H E) ∧ (isRow d = true → isNum e = false → Out1 C "part" (.str "number") H E) ∧
  (isRow d = true → isNum e = true → FitV (rts d) (rt e) ∧ ∀ w H', Same H H' → New H H' w (ofR (hval (rts d) (rt e))) → Q w H')
def spSlo (C : Addr) : Sp := fun vs H Q E => ∃ u d, vs = [u] ∧ Is H u d ∧ (isRow d = false → Out1 C "part" (.str "row") H E) ∧
  (isRow d = true → FitS (rts d) ∧ ∀ w H', Same H H' → New H H' w (.tup ((slope (rts d)).map ofR)) → Q w H')
def spPro (C C2 : Addr) : Sp := fun vs H Q E => ∃ u v d e, vs = [u, v] ∧ Is H u d ∧ Is H v e ∧ (isRow d = false → Out1 C "part" (.str "one") H E) ∧ (isRow d = true → isRow e = false → Out1 C "part" (.str "other") H E) ∧
  (isRow d = true → isRow e = true → 26 < (items d).length + (items e).length → Out2 C2 "what" (.str "numbers") "most" (.int 25) H E) ∧
  (isRow d = true → isRow e = true → (items d).length + (items e).length ≤ 26 → FitP (rts d) (rts e) ∧ ∀ w H', Same H H' → New H H' w (.tup ((conv (rts d) (rts e)).map ofR)) → Q w H')
theorem row_of {d : Da} (h : isRow d = true) : isS d = true ∧ 1 ≤ (items d).length ∧ (items d).length ≤ 25 ∧ ∀ e ∈ items d, isNum e = true := by
  unfold isRow at h
  rw [Bool.and_eq_true, Bool.and_eq_true, List.all_eq_true] at h
  have q := of_decide_eq_true h.2.1
  exact ⟨h.1, q.1, q.2, h.2.2⟩
theorem rts_len {d : Da} : (rts d).length = (items d).length := List.length_map _
end Ty
namespace Ty
open PySem PySem.Spec PyProof.Rows L2
section
variable {K : PySem.W.Frag} {σ : L2.St} {H : Hp} {l : Nat} {a : Addr} {xs : List V} {R : It → Hp → Prop}
/-- both kinds of a row -/
abbrev Both (K : PySem.W.Frag) (H : Hp) (a : Addr) (xs : List V) : Prop := (∀ H', Same H H' → SqL K H' a xs) ∨ (∀ H', Same H H' → SqT K H' a xs)
theorem both_up {H1 : Hp} (h : Both K H a xs) (s : Same H H1) : Both K H1 a xs := h.imp (fun h H' s' => h H' (s.trans s')) fun h H' s' => h H' (s.trans s')
theorem both_now (h : Both K H a xs) : SqL K H a xs ∨ SqT K H a xs := h.imp (fun h => h _ (Same.refl _)) fun h => h _ (Same.refl _)
theorem seq_iter (hv : σ[l]? = some (some (.ref a))) (hs : Both K H a xs) (k : ∀ J G, Walk J xs.length G (YAt xs) → (∀ H', Same H H' → G H') → R J H) : iList K (tVar l) σ H R ∨ iTup K (tVar l) σ H R := by
  rcases hs with hs | hs
  · exact .inl ⟨_, hv, a, rfl, ⟨_, hs _ (Same.refl _)⟩, k _ _ walk_list hs⟩
  · exact .inr ⟨_, hv, a, rfl, ⟨_, hs _ (Same.refl _)⟩, k _ _ walk_tup hs⟩
theorem rev_iter (hv : σ[l]? = some (some (.ref a))) (hs : Both K H a xs) (k : ∀ J G, Walk J xs.length G (fun i H x H' => H' = H ∧ xs[xs.length - 1 - i]? = some x) → (∀ H', Same H H' → G H') → R J H) : RT.iRevA K (tVar l) σ H R := by
  rcases hs with hs | hs
  · exact ⟨_, hv, a, xs, rfl, .inl ⟨hs _ (Same.refl _), k _ _ walk_rev hs⟩⟩
  · exact ⟨_, hv, a, xs, rfl, .inr ⟨hs _ (Same.refl _), k _ _ walk_revT hs⟩⟩
theorem enum_iter (hv : σ[l]? = some (some (.ref a))) (hs : Both K H a xs) (k : ∀ J G, Walk J xs.length G (YPair (fun i => some (.int (i : Nat))) (fun i => xs[i]?)) → (∀ H', Same H H' → G H') → R J H) :
    iEnum K (tCons (tVar l) tNil) σ H R ∨ iEnumT K (tCons (tVar l) tNil) σ H R := by
  rcases hs with hs | hs
  · exact .inl ⟨_, hv, a, xs, rfl, hs _ (Same.refl _), k _ _ walk_enum hs⟩
  · exact .inr ⟨_, hv, a, xs, rfl, hs _ (Same.refl _), k _ _ walk_enumT hs⟩
/-- an item of it -/
theorem both_ix {H' : Hp} {i : Int} {u : V} {Q : VK} (hs : Both K H a xs) (s : Same H H') (e : atI xs i = some u) (q : Q u H') : rIxL K (.ref a) (.int i) H' Q ∨ rIxT K (.ref a) (.int i) H' Q := by
  rcases hs with hs | hs
  · exact .inl ⟨a, _, i, u, rfl, rfl, hs _ s, e, q⟩
  · exact .inr ⟨a, _, i, u, rfl, rfl, hs _ s, e, q⟩
end
theorem getD_at {α : Type} {l : List α} {i : Nat} {x z : α} (h : l[i]? = some x) : l.getD i z = x := by
  rw [List.getD_eq_getElem?_getD, h]
  rfl
end Ty
namespace Ty
open PySem PySem.Spec PyProof.Rows L2
section
variable {σ : L2.St} {H : Hp} {D : Ends} {wi : TI} {g : TG} {tb : TS} {x : V} {i : Nat} {Q : VK} {R : L2.St → Hp → Prop}
theorem go_for (h : wi σ H fun J H1 => ∃ W : Nat → Nat → L2.St → Hp → Prop, (∃ m, W 0 m σ H1) ∧ ∀ i m σ H, W i m σ H →
  (J.stop i H ∧ D.nx σ H) ∨ (J.go i H ∧ ∃ N : L2.St → Hp → Prop, (∀ σ' H', N σ' H' → ∃ m', m' < m ∧ W (i + 1) m' σ' H') ∧ ∀ x H', J.yld i H x H' → g x σ H' fun σ2 H2 => tb { D with nx := N, ct := N, bk := D.nx } σ2 H2)) : tFor wi g tb D σ H := h
theorem go_c (h : Q x H) : tC x σ H Q := h
theorem go_nm (h : R (σ.set i (some x)) H) : gName i x σ H R := h
end
end Ty
namespace Ty
open PySem PySem.Spec PyProof.Rows L2
/-- the list at D, made since H2: these rationals -/
def FoundI (H2 : Hp) (D : Addr) (l : List Rat) (H' : Hp) : Prop := Same H2 H' ∧ H2 D = none ∧ ∃ vals, H' D = some (.lst vals) ∧ ∀ S, Live S H2 → IsAll (mn (wth S D) H') vals (l.map ofR)
section
variable {H2 H' H3 : Hp} {D : Addr} {l : List Rat}
theorem FoundI.up (h : FoundI H2 D l H') (s : Same H' H3) : FoundI H2 D l H3 := by
  obtain ⟨h1, h2, vals, h3, h4⟩ := h
  exact ⟨h1.trans s, h2, vals, s _ _ h3, fun S lv => (h4 S lv).up (Same.less s)⟩
theorem FoundI.vals (h : FoundI H2 D l H') : ∃ vals, H' D = some (.lst vals) ∧ vals.length = l.length ∧ IsAll H' vals (l.map ofR) := by
  obtain ⟨h1, h2, vals, h3, h4⟩ := h
  have q := (h4 (fun _ => false) (fun _ z => by cases z)).up mn_same
  exact ⟨vals, h3, by rw [q.length, List.length_map], q⟩
theorem FoundI.put {vals : List V} {w : V} {k : Nat} {x : Rat} (h : FoundI H2 D l H') (hv : H' D = some (.lst vals)) (s : Same H' H3) (n : New H' H3 w (ofR x)) : FoundI H2 D (l.set k x) (upd H3 D (.lst (vals.set k w))) := by
  obtain ⟨h1, h2, vals', h3, h4⟩ := h
  rw [hv] at h3
  cases h3
  refine ⟨Same.mut (h1.trans s) h2, h2, _, upd_same, fun S lv => ?_⟩
  rw [List.map_set]
  exact (((h4 S lv).up (Same.less s)).set k (n (wth S D) (wth_live (lv.more h1) hv))).up wth_put
theorem FoundI.tup {p : Addr} {vals : List V} (h : FoundI H2 D l H') (hv : H' D = some (.lst vals)) (hp : H' p = none) : New H2 (upd H' p (.tup vals)) (.ref p) (.tup (l.map ofR)) := fun S lv => by
  obtain ⟨h1, h2, vals', h3, h4⟩ := h
  rw [hv] at h3
  cases h3
  exact .tup (mn_put (lv.more h1) hp) (((h4 S lv).up (mn_mono fun b hb => wth_sub hb)).up (Same.less (Same.new hp)))
end
theorem addAt_at (l : List Rat) (m k : Nat) (c : Rat) (h : m < l.length) : (addAt l m c)[k]? = if k = m then some (l.getD m 0 + c) else l[k]? := by
  unfold addAt
  rw [List.getElem?_set]
  by_cases e : m = k
  · subst e
    rw [if_pos rfl, if_pos h, if_pos rfl]
  · rw [if_neg e, if_neg (fun z => e z.symm)]
end Ty
namespace Ty
open PySem PySem.Spec PyProof.Rows L2
/-- walked at a later heap, told of the first -/
theorem enum_at {K : PySem.W.Frag} {σ : L2.St} {H H0 : Hp} {l : Nat} {a : Addr} {xs : List V} {R : It → Hp → Prop} (hv : σ[l]? = some (some (.ref a))) (hs : Both K H0 a xs) (s : Same H0 H)
    (k : ∀ J G, Walk J xs.length G (YPair (fun i => some (.int (i : Nat))) (fun i => xs[i]?)) → (∀ H', Same H0 H' → G H') → R J H) : iEnum K (tCons (tVar l) tNil) σ H R ∨ iEnumT K (tCons (tVar l) tNil) σ H R := by
  rcases hs with hs | hs
  · exact .inl ⟨_, hv, a, xs, rfl, hs _ s, k _ _ walk_enum hs⟩
  · exact .inr ⟨_, hv, a, xs, rfl, hs _ s, k _ _ walk_enumT hs⟩
end Ty

namespace Ty
open PySem PySem.Spec PyProof.Rows L2
/-! ### what laws reckon themselves, and rows that are drawn -/
/-- a / b in its one form, b above 0 -/
def spLow : Sp := fun vs H Q _ => ∃ a b : Int, vs = [.int a, .int b] ∧ 0 < b ∧ b.natAbs < 2 ^ 8900 ∧ ∀ v H', Same H H' → New H H' v (ofR (Rat.divInt a b)) → Q v H'
/-- two numbers -/
def spRat2 (f : Rat → Rat → Rat) : Sp := fun vs H Q _ => ∃ u v d e, vs = [u, v] ∧ Is H u d ∧ Is H v e ∧ isNum d = true ∧ isNum e = true ∧ Fit d e ∧ ∀ w H', Same H H' → New H H' w (ofR (f (rt d) (rt e))) → Q w H'
def fitR (p q : Rat) : Prop := ∃ m n, 0 < m ∧ 0 < n ∧ m + n ≤ 8900 ∧ Sz m p ∧ Sz n q
theorem fitR.fit {p q : Rat} (h : fitR p q) : Fit (ofR p) (ofR q) := by
  obtain ⟨m, n, h1, h2, h3, h4, h5⟩ := h
  exact ⟨m, n, h1, h2, h3, Sz.nb (ofR_num _) (by rw [rt_ofR]; exact h4), Sz.nb (ofR_num _) (by rw [rt_ofR]; exact h5)⟩
/-- a number that is drawn -/
def spNumR : Sp := fun vs H Q _ => ∃ (S : Addr → Bool) (j bk : Addr) (n : Nat), vs = [.ref j] ∧ S j = true ∧ Live S H ∧ Jar j bk H n ∧ n + 4 ≤ 100000 ∧
  ∀ v q H', Keep j H H' → Live S H' → Jar j bk H' (n + 4) → Is (mn S H') v (ofR q) → Sz 41 q → Q v H'
/-- a row that is drawn -/
def spRowR : Sp := fun vs H Q _ => ∃ (S : Addr → Bool) (j bk : Addr) (n : Nat) (most : Int), vs = [.ref j, .int most] ∧ S j = true ∧ Live S H ∧ Jar j bk H n ∧ 0 < most ∧ most ≤ 20 ∧ n + 101 ≤ 100000 ∧
  ∀ (v : V) (qs : List Rat) (H' : Hp), Keep j H H' → Live S H' → Jar j bk H' (n + 101) → Is (mn S H') v (.lst (qs.map ofR)) → 1 ≤ qs.length → (qs.length : Int) ≤ most → (∀ q ∈ qs, Sz 41 q) → Q v H'
section
variable {S : Addr → Bool} {j bk : Addr} {H0 H : Hp} {c c1 c2 n : Nat} {σ : L2.St} {te ta tb : TE}
theorem dr_lowR {Pa Pb : Int → Prop} (ha : Dr S j bk H0 c1 σ ta (fun d => ∃ i, d = .int i ∧ Pa i)) (hb : Dr S j bk H0 c2 σ tb (fun d => ∃ i, d = .int i ∧ Pb i)) (hp : ∀ b, Pb b → 0 < b ∧ b.natAbs < 2 ^ 8900) :
    Dr S j bk H0 (c1 + c2) σ (tCall spLow [] E0 (tCons ta (tCons tb tNil))) (fun d => ∃ a b, Pa a ∧ Pb b ∧ d = ofR (Rat.divInt a b)) := fun H n Q kp lv J hn k =>
  ha H n _ kp lv J (by omega) fun v d H1 k1 l1 J1 h1 p1 => hb H1 (n + c1) _ (kp.trans k1) l1 J1 (by omega) fun u e H2 k2 l2 J2 h2 p2 => by
    obtain ⟨a, rfl, pa⟩ := p1
    obtain ⟨b, rfl, pb⟩ := p2
    cases h1
    cases h2
    exact ⟨a, b, rfl, (hp b pb).1, (hp b pb).2, fun w H3 s3 n3 => k w _ H3 ((k1.trans k2).trans (Same.keep s3)) (l2.more s3) ((by rwa [Nat.add_assoc] at J2 : Jar j bk H2 (n + (c1 + c2))).up s3) (n3 S l2) ⟨a, b, pa, pb, rfl⟩⟩
theorem dr_numR {i : Nat} (hS : S j = true) (h : σ[i]? = some (some (.ref j))) : Dr S j bk H0 4 σ (tCall spNumR [] E0 (tCons (tVar i) tNil)) (fun d => ∃ q, d = ofR q ∧ Sz 41 q) := fun H n Q kp lv J hn k =>
  ⟨_, h, S, j, bk, n, rfl, hS, lv, J, hn, fun v q H' k' l' J' h' g => k v _ H' k' l' J' h' ⟨q, rfl, g⟩⟩
theorem dr_rowR {i : Nat} {most : Int} (hS : S j = true) (h : σ[i]? = some (some (.ref j))) (h0 : 0 < most) (h1 : most ≤ 20) : Dr S j bk H0 101 σ (tCall spRowR [] E0 (tCons (tVar i) (tCons (tC (.int most)) tNil)))
    (fun d => ∃ qs : List Rat, d = .lst (qs.map ofR) ∧ 1 ≤ qs.length ∧ (qs.length : Int) ≤ most ∧ ∀ q ∈ qs, Sz 41 q) := fun H n Q kp lv J hn k =>
  ⟨_, h, S, j, bk, n, most, rfl, hS, lv, J, h0, h1, hn, fun v qs H' k' l' J' h' g1 g2 g3 => k v _ H' k' l' J' h' ⟨qs, rfl, g1, g2, g3⟩⟩
end
/-- gcd of a positive divisor -/
theorem low_pos {a b : Int} (hb : 0 < b) : ((Nat.gcd a.natAbs b.natAbs : Nat) : Int) ≠ 0 ∧ ((Nat.gcd a.natAbs b.natAbs : Nat) : Int).natAbs ≤ b.natAbs ∧ frac (a.fdiv ((Nat.gcd a.natAbs b.natAbs : Nat) : Int)) (b.fdiv ((Nat.gcd a.natAbs b.natAbs : Nat) : Int)) = ofR (Rat.divInt a b) := by
  obtain ⟨g0, qp, low, one, gl⟩ := low_of (a := a) (b := b) (g := ((Nat.gcd a.natAbs b.natAbs : Nat) : Int)) (by omega) (by rw [if_neg (by omega)])
  exact ⟨g0, gl, low_ofR (by omega) low⟩
end Ty
namespace Ty
open PySem PySem.Spec PyProof.Rows L2
/-- a row told by lists and tuples -/
def spToldR : Sp := fun vs H Q _ => ∃ (S : Addr → Bool) (j bk : Addr) (n : Nat) (v : V) (qs : List Rat), vs = [.ref j, v] ∧ S j = true ∧ Live S H ∧ Jar j bk H n ∧ n + 30 ≤ 100000 ∧ Is (mn S H) v (.lst (qs.map ofR)) ∧ qs.length ≤ 25 ∧
  ∀ (w : V) (f : Da) (H' : Hp), Keep j H H' → Live S H' → Jar j bk H' (n + 30) → Is (mn S H') w f → isS f = true → (∀ e ∈ items f, isNum e = true) → rts f = qs → Q w H'
def spValR : Sp := fun vs H Q _ => ∃ (u v : V) (qs : List Rat) (x : Rat), vs = [u, v] ∧ Is H u (.lst (qs.map ofR)) ∧ Is H v (ofR x) ∧
  (∃ s t, 0 < s ∧ 0 < t ∧ (∀ q ∈ qs, Sz s q) ∧ Sz t x ∧ qs.length * (s + qs.length * t + 2) + s + qs.length * t + t + 3 ≤ 8900) ∧ qs.length ≤ 100 ∧ ∀ w H', Same H H' → New H H' w (ofR (hval qs x)) → Q w H'
def spSlopeR : Sp := fun vs H Q _ => ∃ (u : V) (qs : List Rat), vs = [u] ∧ Is H u (.lst (qs.map ofR)) ∧ 1 ≤ qs.length ∧ qs.length ≤ 25 ∧ FitS qs ∧ ∀ w H', Same H H' → New H H' w (.lst ((slope qs).map ofR)) → Q w H'
def spProdR : Sp := fun vs H Q _ => ∃ (u v : V) (p q : List Rat), vs = [u, v] ∧ Is H u (.lst (p.map ofR)) ∧ Is H v (.lst (q.map ofR)) ∧ 1 ≤ p.length ∧ p.length ≤ 26 ∧ 1 ≤ q.length ∧ q.length ≤ 26 ∧ FitP p q ∧ ∀ w H', Same H H' → New H H' w (.lst ((conv p q).map ofR)) → Q w H'
theorem FoundI.lst {H2 H' : Hp} {D : Addr} {l : List Rat} (h : FoundI H2 D l H') : New H2 H' (.ref D) (.lst (l.map ofR)) := fun S lv => by
  obtain ⟨h1, h2, vals, h3, h4⟩ := h
  have e : S D = false := by
    cases q : S D with
    | false => rfl
    | true => exact absurd h2 (lv D q)
  exact .lst (by rw [mn_at e]; exact h3) ((h4 S lv).up (mn_mono fun b hb => wth_sub hb))
/-- the items of a list of rationals -/
theorem Is.rats {H : Hp} {v : V} {qs : List Rat} (h : Is H v (.lst (qs.map ofR))) : ∃ a xs, v = .ref a ∧ H a = some (.lst xs) ∧ xs.length = qs.length ∧ IsAll H xs (qs.map ofR) := by
  cases h with
  | lst e hx => exact ⟨_, _, rfl, e, by rw [hx.length, List.length_map], hx⟩
theorem rats_at {H : Hp} {xs : List V} {qs : List Rat} {i : Nat} {x : V} (h : IsAll H xs (qs.map ofR)) (e : xs[i]? = some x) : ∃ q, qs[i]? = some q ∧ Is H x (ofR q) := by
  obtain ⟨d, e1, e2⟩ := h.at e
  rw [List.getElem?_map] at e1
  cases eq : qs[i]? with
  | none => rw [eq] at e1; cases e1
  | some q =>
    rw [eq] at e1
    cases e1
    exact ⟨q, rfl, e2⟩
end Ty

namespace Ty
open PySem PySem.Spec PyProof.Rows L2
/-! ### sizes of what rows give -/
theorem hval_sz {s t : Nat} {x : Rat} (hx : Sz t x) : ∀ (l : List Rat), (∀ q ∈ l, Sz s q) → Sz (l.length * (s + t + 1) + 1) (hval l x)
  | [], _ => sz_zero.more (by omega)
  | c :: l, h => by
    have ih := hval_sz hx l fun q hq => h q (List.mem_cons_of_mem _ hq)
    have e : (c :: l).length * (s + t + 1) + 1 = l.length * (s + t + 1) + 1 + t + s + 1 := by
      rw [List.length_cons, Nat.succ_mul]
      omega
    rw [hval_cons, e]
    exact (ih.mul hx).add (h c List.mem_cons_self)
theorem wsl_sz {s : Nat} : ∀ (l : List Rat) (k : Nat), k + l.length ≤ 30 → (∀ q ∈ l, Sz s q) → ∀ c ∈ wsl (k : Rat) l, Sz (5 + s) c
  | [], k, _, _, c, hc => by cases hc
  | a :: l, k, hk, h, c, hc => by
    have hl : (a :: l).length = l.length + 1 := rfl
    rcases List.mem_cons.mp hc with z | z
    · rw [z]
      have sk : Sz 5 ((k : Nat) : Rat) := ⟨by
        have : ((k : Nat) : Rat).num = (k : Int) := rfl
        rw [this, Int.natAbs_natCast]
        omega, by
        have : ((k : Nat) : Rat).den = 1 := rfl
        rw [this]
        decide⟩
      exact sk.mul (h a List.mem_cons_self)
    · have e : ((k : Nat) : Rat) + 1 = ((k + 1 : Nat) : Rat) := by push_cast; rfl
      rw [e] at z
      exact wsl_sz l (k + 1) (by omega) (fun q hq => h q (List.mem_cons_of_mem _ hq)) c z
theorem slope_sz {s : Nat} {l : List Rat} (hl : l.length ≤ 28) (h : ∀ q ∈ l, Sz s q) : ∀ c ∈ slope l, Sz (5 + s) c := by
  match l, hl, h with
  | [], _, _ => intro c hc; cases hc
  | [a], _, _ =>
    intro c hc
    rw [List.mem_singleton.mp hc]
    exact sz_zero.more (by omega)
  | a :: b :: m, hl, h =>
    intro c hc
    have hl' : m.length + 1 + 1 ≤ 28 := hl
    have e : (1 : Rat) = ((1 : Nat) : Rat) := rfl
    have hc' : c ∈ wsl 1 (b :: m) := hc
    rw [e] at hc'
    exact wsl_sz (b :: m) 1 (by show 1 + (m.length + 1) ≤ 30; omega) (fun q hq => h q (List.mem_cons_of_mem _ hq)) c hc'
theorem slope_len {l : List Rat} (h : 1 ≤ l.length) : 1 ≤ (slope l).length ∧ (slope l).length ≤ l.length := by
  match l, h with
  | [a], _ => exact ⟨Nat.le_refl _, Nat.le_refl _⟩
  | a :: b :: m, _ =>
    have e : (slope (a :: b :: m)).length = (b :: m).length := wsl_len 1 (b :: m)
    rw [e]
    exact ⟨by show 1 ≤ m.length + 1; omega, by show m.length + 1 ≤ m.length + 1 + 1; omega⟩
theorem convIn_sz {s t b : Nat} {p : Rat} {q : List Rat} (hp : Sz s p) (hq : ∀ x ∈ q, Sz t x) {i : Nat} {l : List Rat} (hl : i + q.length ≤ l.length) (h : ∀ x ∈ l, Sz b x) :
    ∀ m, m ≤ q.length → ∀ k c, (convIn p i q l m)[k]? = some c → Sz (b + (s + t) + 1) c ∧ (i + m ≤ k → Sz b c)
  | 0, _, k, c, hk => ⟨(h c (List.mem_of_getElem? hk)).more (by omega), fun _ => h c (List.mem_of_getElem? hk)⟩
  | m + 1, hm, k, c, hk => by
    have ih := convIn_sz hp hq hl h m (by omega)
    have len := convIn_len p i q l m
    have lt : i + m < (convIn p i q l m).length := by omega
    rw [convIn_next, addAt_at _ _ _ _ lt] at hk
    by_cases e : k = i + m
    · rw [if_pos e] at hk
      cases hk
      have g := List.getElem?_eq_getElem lt
      rw [getD_at g]
      have gq : q[m]? = some q[m] := List.getElem?_eq_getElem (by omega)
      rw [getD_at gq]
      exact ⟨((ih _ _ g).2 (Nat.le_refl _)).add (hp.mul (hq _ (List.mem_of_getElem? gq))), fun z => by omega⟩
    · rw [if_neg e] at hk
      have r := ih k c hk
      exact ⟨r.1, fun z => r.2 (by omega)⟩
theorem convOut_sz {s t : Nat} {p q l : List Rat} (hp : ∀ x ∈ p, Sz s x) (hq : ∀ x ∈ q, Sz t x) (hl : p.length + q.length ≤ l.length + 1) (h : ∀ x ∈ l, Sz 1 x) : ∀ m, m ≤ p.length → ∀ c ∈ convOut p q l m, Sz (m * (s + t + 1) + 1) c
  | 0, _, c, hc => (h c hc).more (by omega)
  | m + 1, hm, c, hc => by
    have ih := convOut_sz hp hq hl h m (by omega)
    have gp : p[m]? = some p[m] := List.getElem?_eq_getElem (by omega)
    rw [convOut_next, getD_at gp] at hc
    obtain ⟨k, hk⟩ := List.getElem?_of_mem hc
    have r := (convIn_sz (hp _ (List.mem_of_getElem? gp)) hq (by rw [convOut_len]; omega) ih q.length (Nat.le_refl _) k c hk).1
    have e : (m + 1) * (s + t + 1) + 1 = m * (s + t + 1) + 1 + (s + t) + 1 := by
      rw [Nat.succ_mul]
      omega
    rw [e]
    exact r
theorem conv_sz {s t : Nat} {p q : List Rat} (hp : ∀ x ∈ p, Sz s x) (hq : ∀ x ∈ q, Sz t x) (h0 : 0 < p.length) : ∀ c ∈ conv p q, Sz (p.length * (s + t + 1) + 1) c :=
  convOut_sz hp hq (by rw [List.length_replicate]; omega) (fun x hx => by rw [List.eq_of_mem_replicate hx]; exact sz_zero) p.length (Nat.le_refl _)
/-! ### rows can be shown -/
theorem items_show : ∀ (l : List Da), (∀ e ∈ l, isNum e = true) → (∀ e ∈ l, NB 1900 e) → numsA l = true ∧ dpA l ≤ 1 ∧ wtA l ≤ l.length * 4002
  | [], _, _ => ⟨rfl, Nat.zero_le _, Nat.zero_le _⟩
  | d :: l, hn, hb => by
    obtain ⟨a1, a2, a3⟩ := num_show (hn d List.mem_cons_self) (hb d List.mem_cons_self)
    obtain ⟨b1, b2, b3⟩ := items_show l (fun e he => hn e (List.mem_cons_of_mem _ he)) (fun e he => hb e (List.mem_cons_of_mem _ he))
    refine ⟨?_, ?_, ?_⟩
    · show (nums d && numsA l) = true
      rw [a1, b1]
      rfl
    · show max (dp d) (dpA l) ≤ 1
      omega
    · show wt d + 2 + wtA l ≤ (l.length + 1) * 4002
      omega
theorem row_show {d : Da} (s : isS d = true) (hn : ∀ e ∈ items d, isNum e = true) (hb : ∀ e ∈ items d, NB 1900 e) : nums d = true ∧ dp d ≤ 2 ∧ wt d ≤ (items d).length * 4002 + 10 := by
  obtain ⟨a1, a2, a3⟩ := items_show (items d) hn hb
  cases d with
  | tup l =>
    have a2' : dpA l ≤ 1 := a2
    have a3' : wtA l ≤ l.length * 4002 := a3
    exact ⟨a1, by show dpA l + 1 ≤ 2; omega, by show wtA l + 10 ≤ l.length * 4002 + 10; omega⟩
  | lst l =>
    have a2' : dpA l ≤ 1 := a2
    have a3' : wtA l ≤ l.length * 4002 := a3
    exact ⟨a1, by show dpA l + 1 ≤ 2; omega, by show wtA l + 10 ≤ l.length * 4002 + 10; omega⟩
  | _ => cases s
theorem row_okr {d : Da} (s : isS d = true) (hl : (items d).length ≤ 100) (hn : ∀ e ∈ items d, isNum e = true) (hb : ∀ e ∈ items d, NB 1900 e) : okr d = true := by
  obtain ⟨a1, a2, a3⟩ := row_show s hn hb
  unfold okr
  rw [a1, decide_eq_true (by omega : dp d ≤ 60), decide_eq_true (by omega : wt d ≤ 16000000)]
  rfl
theorem rats_okr {l : List Rat} (hl : l.length ≤ 100) (h : ∀ q ∈ l, Sz 1900 q) : okr (.tup (l.map ofR)) = true ∧ okr (.lst (l.map ofR)) = true := by
  have hn : ∀ e ∈ l.map ofR, isNum e = true := fun e he => by
    obtain ⟨q, _, rfl⟩ := List.mem_map.mp he
    exact ofR_num q
  have hb : ∀ e ∈ l.map ofR, NB 1900 e := fun e he => by
    obtain ⟨q, hq, rfl⟩ := List.mem_map.mp he
    exact Sz.nb (ofR_num q) (by rw [rt_ofR]; exact h q hq)
  exact ⟨row_okr (d := .tup (l.map ofR)) rfl (by show (l.map ofR).length ≤ 100; rw [List.length_map]; exact hl) hn hb, row_okr (d := .lst (l.map ofR)) rfl (by show (l.map ofR).length ≤ 100; rw [List.length_map]; exact hl) hn hb⟩
theorem rat_okr {q : Rat} (h : Sz 1900 q) : okr (ofR q) = true := num_okr (ofR_num q) (Sz.nb (ofR_num q) (by rw [rt_ofR]; exact h))
/-- what holds rationals is a row -/
theorem isRow_rats {l : List Rat} (h1 : 1 ≤ l.length) (h2 : l.length ≤ 25) : isRow (.tup (l.map ofR)) = true ∧ isRow (.lst (l.map ofR)) = true ∧ rts (.tup (l.map ofR)) = l ∧ rts (.lst (l.map ofR)) = l := by
  have e1 : (l.map ofR).all isNum = true := by
    rw [List.all_eq_true]
    intro e he
    obtain ⟨q, _, rfl⟩ := List.mem_map.mp he
    exact ofR_num q
  have e2 : (l.map ofR).map rt = l := by
    rw [List.map_map]
    conv => rhs; rw [← List.map_id l]
    exact List.map_congr_left fun q _ => rt_ofR q
  have e3 : decide (1 ≤ (l.map ofR).length ∧ (l.map ofR).length ≤ 25) = true := decide_eq_true (by rw [List.length_map]; exact ⟨h1, h2⟩)
  refine ⟨?_, ?_, e2, e2⟩
  · show (true && (decide (1 ≤ (l.map ofR).length ∧ (l.map ofR).length ≤ 25) && (l.map ofR).all isNum)) = true
    rw [e1, e3]
    rfl
  · show (true && (decide (1 ≤ (l.map ofR).length ∧ (l.map ofR).length ≤ 25) && (l.map ofR).all isNum)) = true
    rw [e1, e3]
    rfl
/-! ### data compared -/
mutual
/-- no text, no dict -/
def plain : Da → Bool
  | .str _ => false
  | .dic => false
  | .tup l => plainA l
  | .lst l => plainA l
  | _ => true
def plainA : List Da → Bool
  | [] => true
  | d :: l => plain d && plainA l
end
mutual
theorem eqv_refl : ∀ d : Da, plain d = true → PyData.eqv (pd d) (pd d) = true ∧ PyData.canLay0 (pd d) = true
  | .non, _ => ⟨rfl, rfl⟩
  | .bl b, _ => by cases b <;> exact ⟨rfl, rfl⟩
  | .int i, _ => ⟨by show (i == i) = true; simp, rfl⟩
  | .str _, h => by cases h
  | .dic, h => by cases h
  | .tup l, h => eqvA_refl l h
  | .lst l, h => eqvA_refl l h
theorem eqvA_refl : ∀ l : List Da, plainA l = true → PyData.eqvAll (pdA l) (pdA l) = true ∧ PyData.canLayAll0 (pdA l) = true
  | [], _ => ⟨rfl, rfl⟩
  | d :: l, h => by
    have h' : (plain d && plainA l) = true := h
    rw [Bool.and_eq_true] at h'
    obtain ⟨a1, a2⟩ := eqv_refl d h'.1
    obtain ⟨b1, b2⟩ := eqvA_refl l h'.2
    constructor
    · show (PyData.eqv (pd d) (pd d) && PyData.eqvAll (pdA l) (pdA l)) = true
      rw [a1, b1]
      rfl
    · show (PyData.canLay0 (pd d) && PyData.canLayAll0 (pdA l)) = true
      rw [a2, b2]
      rfl
end
theorem plain_num {d : Da} (h : isNum d = true) : plain d = true ∧ dp d ≤ 1 := by
  have two : ∀ l, isPair l = true → ∃ a b : Int, l = [.int a, .int b] := fun l hl => by
    match l, hl with
    | [.int a, .int b], hl => exact ⟨a, b, rfl⟩
  cases d with
  | int i => exact ⟨rfl, by show 0 ≤ 1; decide⟩
  | tup l =>
    obtain ⟨x, y, rfl⟩ := two l (by simpa [isNum, isN, isS, items] using h)
    exact ⟨rfl, by show 1 ≤ 1; decide⟩
  | lst l =>
    obtain ⟨x, y, rfl⟩ := two l (by simpa [isNum, isN, isS, items] using h)
    exact ⟨rfl, by show 1 ≤ 1; decide⟩
  | _ => cases h
theorem plain_rats : ∀ l : List Rat, plainA (l.map ofR) = true ∧ dpA (l.map ofR) ≤ 1
  | [] => ⟨rfl, Nat.zero_le _⟩
  | q :: l => by
    obtain ⟨a1, a2⟩ := plain_num (ofR_num q)
    obtain ⟨b1, b2⟩ := plain_rats l
    constructor
    · show (plain (ofR q) && plainA (l.map ofR)) = true
      rw [a1, b1]
      rfl
    · show max (dp (ofR q)) (dpA (l.map ofR)) ≤ 1
      omega
theorem shaped_rats (l : List Rat) : SeqAt.shaped (pd (.tup (l.map ofR))) = true ∧ SeqAt.shaped (pd (.lst (l.map ofR))) = true ∧ PyData.eqv (pd (.tup (l.map ofR))) (pd (.tup (l.map ofR))) = true ∧ PyData.eqv (pd (.lst (l.map ofR))) (pd (.lst (l.map ofR))) = true := by
  obtain ⟨a1, a2⟩ := plain_rats l
  obtain ⟨b1, b2⟩ := eqvA_refl _ a1
  have e1 : PyData.depth (pd (.tup (l.map ofR))) ≤ 64 := by
    rw [dp_eq]
    show dpA (l.map ofR) + 1 ≤ 64
    omega
  have e2 : PyData.depth (pd (.lst (l.map ofR))) ≤ 64 := e1
  have c1 : PyData.canLay0 (pd (.tup (l.map ofR))) = true := b2
  have c2 : PyData.canLay0 (pd (.lst (l.map ofR))) = true := b2
  refine ⟨?_, ?_, b1, b1⟩
  · unfold SeqAt.shaped
    rw [c1, decide_eq_true e1]
    rfl
  · unfold SeqAt.shaped
    rw [c2, decide_eq_true e2]
    rfl
theorem shaped_num {d : Da} (h : isNum d = true) : SeqAt.shaped (pd d) = true := by
  obtain ⟨a1, a2⟩ := plain_num h
  obtain ⟨b1, b2⟩ := eqv_refl _ a1
  unfold SeqAt.shaped
  rw [b2, decide_eq_true (by rw [dp_eq]; omega)]
  rfl
/-! ### what is asked of rows -/
def numb (m : Str) : Da := .tup [.str "number", .str m]
def manyD : Da := .tup [.str "many", .str "numbers", .int 25]
def spAsk (C C2 : Addr) : Sp := fun vs H Q E => ∃ w u v d e, vs = [.str w, u, v] ∧ Is H u d ∧ Is H v e ∧
  ((w = "value" ∧ (isRow d = false → Out1 C "part" (.str "row") H E) ∧ (isRow d = true → isNum e = false → Out1 C "part" (.str "number") H E) ∧
      (isRow d = true → isNum e = true → FitV (rts d) (rt e) ∧ ∀ x H', Same H H' → New H H' x (ofR (hval (rts d) (rt e))) → Q x H')) ∨
   (w = "slope" ∧ (isRow d = false → Out1 C "part" (.str "row") H E) ∧ (isRow d = true → FitS (rts d) ∧ ∀ x H', Same H H' → New H H' x (.tup ((slope (rts d)).map ofR)) → Q x H')) ∨
   (w = "product" ∧ (isRow d = false → Out1 C "part" (.str "one") H E) ∧ (isRow d = true → isRow e = false → Out1 C "part" (.str "other") H E) ∧
      (isRow d = true → isRow e = true → 26 < (items d).length + (items e).length → Out2 C2 "what" (.str "numbers") "most" (.int 25) H E) ∧
      (isRow d = true → isRow e = true → (items d).length + (items e).length ≤ 26 → FitP (rts d) (rts e) ∧ ∀ x H', Same H H' → New H H' x (.tup ((conv (rts d) (rts e)).map ofR)) → Q x H')))
def spHear : Sp := fun vs H Q _ => ∃ w u v d e, vs = [.str w, u, v] ∧ Is H u d ∧ Is H v e ∧
  ((w = "value" ∧ (isRow d = false → ∀ x H', Same H H' → New H H' x (numb "row") → Q x H') ∧ (isRow d = true → isNum e = false → ∀ x H', Same H H' → New H H' x (numb "number") → Q x H') ∧
      (isRow d = true → isNum e = true → FitV (rts d) (rt e) ∧ ∀ x H', Same H H' → New H H' x (ofR (hval (rts d) (rt e))) → Q x H')) ∨
   (w = "slope" ∧ (isRow d = false → ∀ x H', Same H H' → New H H' x (numb "row") → Q x H') ∧ (isRow d = true → FitS (rts d) ∧ ∀ x H', Same H H' → New H H' x (.tup ((slope (rts d)).map ofR)) → Q x H')) ∨
   (w = "product" ∧ (isRow d = false → ∀ x H', Same H H' → New H H' x (numb "one") → Q x H') ∧ (isRow d = true → isRow e = false → ∀ x H', Same H H' → New H H' x (numb "other") → Q x H') ∧
      (isRow d = true → isRow e = true → 26 < (items d).length + (items e).length → ∀ x H', Same H H' → New H H' x manyD → Q x H') ∧
      (isRow d = true → isRow e = true → (items d).length + (items e).length ≤ 26 → FitP (rts d) (rts e) ∧ ∀ x H', Same H H' → New H H' x (.tup ((conv (rts d) (rts e)).map ofR)) → Q x H')))
end Ty
namespace Ty
open PySem PySem.Spec PyProof.Rows L2
def spRightR (c : Nat) : Sp := fun vs H Q _ => ∃ (S : Addr → Bool) (j bk : Addr) (n : Nat), vs = [.ref j] ∧ S j = true ∧ Live S H ∧ Jar j bk H n ∧ n + c ≤ 100000 ∧ ∀ H', Keep j H H' → Live S H' → Jar j bk H' (n + c) → Q (.bl true) H'
section
variable {K : PySem.W.Frag} {S : Addr → Bool} {j bk : Addr} {H0 H : Hp} {c c1 c2 n : Nat} {σ : L2.St} {te ta tb : TE}
theorem dr_toldR {i l : Nat} {v : V} {qs : List Rat} (hS : S j = true) (h : σ[i]? = some (some (.ref j))) (h2 : σ[l]? = some (some v)) (hv : Is (mn S H0) v (.lst (qs.map ofR))) (hl : qs.length ≤ 25) :
    Dr S j bk H0 30 σ (tCall spToldR [] E0 (tCons (tVar i) (tCons (tVar l) tNil))) (fun f => isS f = true ∧ (∀ e ∈ items f, isNum e = true) ∧ rts f = qs) := fun H n Q kp lv J hn k =>
  ⟨_, h, _, h2, S, j, bk, n, v, qs, rfl, hS, lv, J, hn, hv.up (kp.less hS), hl, fun w f H' k' l' J' h' g1 g2 g3 => k w f H' k' l' J' h' ⟨g1, g2, g3⟩⟩
/-- told([x])[0] -/
theorem dr_firstR {i l : Nat} {v : V} {x : Rat} (hS : S j = true) (h : σ[i]? = some (some (.ref j))) (h2 : σ[l]? = some (some v)) (hv : Is (mn S H0) v (ofR x)) :
    Dr S j bk H0 30 σ (tOp (fun x y H Q => rIxL K x y H Q ∨ rIxT K x y H Q) (tCall spToldR [] E0 (tCons (tVar i) (tCons (tLst (tCons (tVar l) tNil)) tNil))) (tC (.int 0))) (fun e => isNum e = true ∧ rt e = x) := fun H n Q kp lv J hn k =>
  ⟨_, h, _, h2, (by decide : 1 ≤ sizeLine), fun p hp => ⟨S, j, bk, n, .ref p, [x], rfl, hS, lv.more (Same.new hp), J.up (Same.new hp), hn, .lst (mn_put lv hp) (.cons ((hv.up (kp.less hS)).up (Same.less (Same.new hp))) .nil), by show 1 ≤ 25; decide, fun w f H' k' l' J' h' g1 g2 g3 => by
    have lenf : (items f).length = 1 := by rw [← rts_len, g3]; rfl
    obtain ⟨e, ef⟩ : ∃ e, items f = [e] := by
      match items f, lenf with
      | [e], _ => exact ⟨e, rfl⟩
    have ne := g2 e (by rw [ef]; exact List.mem_singleton.mpr rfl)
    have re : rt e = x := by
      have q : (items f).map rt = [x] := g3
      rw [ef] at q
      exact List.head_eq_of_cons_eq q
    have s1 : Same H (upd H p (.lst [v])) := Same.new hp
    cases h' with
    | tup e1 hx =>
      have hx' := hx
      rw [show items (Da.tup _) = _ from rfl] at ef
      subst ef
      cases hx with
      | cons hv1 t =>
        cases t
        exact .inr ⟨_, _, 0, _, rfl, rfl, .inl (.inl (mn_of e1).2), rfl, k _ e H' ((Same.keep s1).trans k') l' J' hv1 ⟨ne, re⟩⟩
    | lst e1 hx =>
      rw [show items (Da.lst _) = _ from rfl] at ef
      subst ef
      cases hx with
      | cons hv1 t =>
        cases t
        exact .inl ⟨_, _, 0, _, rfl, rfl, .inl (.inl (mn_of e1).2), rfl, k _ e H' ((Same.keep s1).trans k') l' J' hv1 ⟨ne, re⟩⟩
    | _ => cases g1⟩⟩
end
theorem row_nb {d : Da} {s : Nat} (hn : ∀ e ∈ items d, isNum e = true) (h : ∀ q ∈ rts d, Sz s q) (l : s ≤ 1900) : ∀ e ∈ items d, NB 1900 e := fun e he => Sz.nb (hn e he) ((h (rt e) (List.mem_map.mpr ⟨e, he, rfl⟩)).more l)
theorem isRow_of {d : Da} (s : isS d = true) (hn : ∀ e ∈ items d, isNum e = true) (h1 : 1 ≤ (items d).length) (h2 : (items d).length ≤ 25) : isRow d = true := by
  unfold isRow
  rw [s, decide_eq_true ⟨h1, h2⟩, List.all_eq_true.mpr hn]
  rfl
theorem okr3 {f g e : Da} (s1 : isS f = true) (n1 : ∀ e ∈ items f, isNum e = true) (b1 : ∀ e ∈ items f, NB 1900 e) (l1 : (items f).length ≤ 100) (s2 : isS g = true) (n2 : ∀ e ∈ items g, isNum e = true) (b2 : ∀ e ∈ items g, NB 1900 e) (l2 : (items g).length ≤ 100)
    (n3 : isNum e = true) (b3 : NB 1900 e) : okr (.lst [f, g, e]) = true := by
  obtain ⟨x1, x2, x3⟩ := row_show s1 n1 b1
  obtain ⟨y1, y2, y3⟩ := row_show s2 n2 b2
  obtain ⟨z1, z2, z3⟩ := num_show n3 b3
  have e1 : nums (.lst [f, g, e]) = true := by
    show (nums f && (nums g && (nums e && true))) = true
    rw [x1, y1, z1]
    rfl
  have e2 : dp (.lst [f, g, e]) ≤ 60 := by
    show max (dp f) (max (dp g) (max (dp e) 0)) + 1 ≤ 60
    omega
  have e3 : wt (.lst [f, g, e]) ≤ 16000000 := by
    show wt f + 2 + (wt g + 2 + (wt e + 2 + 0)) + 10 ≤ 16000000
    omega
  unfold okr
  rw [e1, decide_eq_true e2, decide_eq_true e3]
  rfl
end Ty
namespace Ty
open PySem PySem.Spec PyProof.Rows L2
theorem isAll_app {G : Hp} : ∀ {d1 : List Da} {xs ys : List V} {d2 : List Da}, IsAll G xs d1 → IsAll G ys d2 → IsAll G (xs ++ ys) (d1 ++ d2)
  | [], _, _, _, h, k => by cases h; exact k
  | _ :: _, _, _, _, h, k => by
    cases h with
    | cons h t => exact .cons h (isAll_app t k)
theorem isAll_rep {G : Hp} {xs : List V} {ds : List Da} (h : IsAll G xs ds) : ∀ n : Nat, IsAll G (List.replicate n xs).flatten (List.replicate n ds).flatten
  | 0 => .nil
  | n + 1 => by
    rw [List.replicate_succ, List.replicate_succ, List.flatten_cons, List.flatten_cons]
    exact isAll_app h (isAll_rep h n)
theorem dr_repE {S : Addr → Bool} {j bk : Addr} {H0 : Hp} {σ : L2.St} {ta tb : TE} {ds : List Da} {k : Int} (hj : S j = true) (ha : Dr S j bk H0 0 σ ta (· = .lst ds)) (hb : Dr S j bk H0 0 σ tb (· = .int k)) (k0 : 0 ≤ k) (k1 : k ≤ 1000) (hl : ds.length ≤ 1000) :
    Dr S j bk H0 0 σ (tOp rRep ta tb) (· = .lst (List.replicate k.toNat ds).flatten) := fun H n Q kp lv J hn kk =>
  ha H n _ kp lv J hn fun v d H1 k1' l1 J1 h1 p1 => hb H1 n _ (kp.trans k1') l1 J1 hn fun u e H2 k2 l2 J2 h2 p2 => by
    subst p1
    subst p2
    have h1' := h1.up (k2.less hj)
    cases h2
    cases h1' with
    | @lst a xs _ e1 x1 =>
      refine ⟨a, k, xs, rfl, rfl, (mn_of e1).2, by omega, by omega, ?_, fun p hp => ?_⟩
      · rw [x1.length]
        exact Nat.le_trans (Nat.mul_le_mul hl (show k.toNat ≤ 1000 by omega)) (by decide)
      · exact kk _ _ _ ((k1'.trans k2).trans (Same.keep (Same.new hp))) (l2.more (Same.new hp)) (J2.up (Same.new hp)) (.lst (mn_put l2 hp) ((isAll_rep x1 _).up (Same.less (Same.new hp)))) rfl
theorem rep_one (n : Nat) : (List.replicate n [Da.int 1]).flatten = (List.replicate n (1 : Rat)).map ofR := by
  induction n with
  | zero => rfl
  | succ n ih =>
    rw [List.replicate_succ, List.replicate_succ, List.flatten_cons, List.map_cons, ih, show (1 : Rat) = ((1 : Int) : Rat) from rfl, ofR_int]
    rfl
theorem sz_small {i : Int} (h : i.natAbs < 2 ^ 5) : Sz 5 (i : Rat) := by
  rw [← rt_int]
  exact sz_nb rfl ⟨h, by show (1 : Int).natAbs < 2 ^ 5; decide⟩
end Ty

namespace Ty
open PySem PySem.Spec PyProof.Rows L2
/-! ### points and their promises -/
/-- an item of data by its place -/
theorem ix_of {K : PySem.W.Frag} {H : Hp} {v : V} {d e : Da} {i : Int} {n : Nat} {Q : VK} (h : Is H v d) (s : isS d = true) (hi : i = (n : Int)) (he : (items d)[n]? = some e) (k : ∀ w, Is H w e → Q w H) : rIxL K v (.int i) H Q ∨ rIxT K v (.int i) H Q := by
  subst hi
  obtain ⟨a, xs, rfl, hs, hx⟩ := h.seq (K := K) s
  obtain ⟨w, hw, hi⟩ := hx.get he
  rcases hs with hs | hs
  · exact .inl ⟨a, xs, _, w, rfl, rfl, hs, atI_nat hw, k w hi⟩
  · exact .inr ⟨a, xs, _, w, rfl, rfl, hs, atI_nat hw, k w hi⟩
/-- d is a point with these two numbers -/
def Pt (d : Da) (x y : Rat) : Prop := isS d = true ∧ ∃ a b, items d = [a, b] ∧ isNum a = true ∧ isNum b = true ∧ rt a = x ∧ rt b = y
/-- the point in its one form -/
def pt (x y : Rat) : Da := .tup [ofR x, ofR y]
theorem pt_pt {x y : Rat} : Pt (pt x y) x y := ⟨rfl, _, _, rfl, ofR_num _, ofR_num _, rt_ofR _, rt_ofR _⟩
theorem Pt.ok {d : Da} {x y : Rat} (h : Pt d x y) : isPt d = true := by
  obtain ⟨s, a, b, e, h1, h2, _⟩ := h
  show (isS d && isTwo (items d)) = true
  rw [s, e]
  show (true && (isNum a && isNum b)) = true
  rw [h1, h2]
  rfl
theorem New.ptOf {H H1 : Hp} {p : Addr} {v w : V} {x y : Rat} (hp : H p = none) (e1 : H1 p = some (.tup [v, w])) (a : New H H1 v (ofR x)) (b : New H H1 w (ofR y)) : New H H1 (.ref p) (Ty.pt x y) := New.tup2 hp e1 a b
theorem New.pt2 {H H1 : Hp} {p : Addr} {v w : V} {x y : Rat} (s : Same H H1) (hp : H1 p = none) (a : New H H1 v (ofR x)) (b : New H H1 w (ofR y)) : New H (upd H1 p (.tup [v, w])) (.ref p) (Ty.pt x y) := New.ptOf (by
  cases e : H p with
  | none => rfl
  | some o => rw [s p o e] at hp; cases hp) upd_same (a.up (Same.new hp)) (b.up (Same.new hp))
/-! sizes -/
theorem Sz.neg {n : Nat} {q : Rat} (h : Sz n q) : Sz n (-q) := by
  unfold Sz at h ⊢
  rw [Rat.neg_num, Rat.neg_den, Int.natAbs_neg]
  exact h
theorem Sz.sub {a b : Nat} {p q : Rat} (h1 : Sz a p) (h2 : Sz b q) : Sz (a + b + 1) (p - q) := by
  rw [Rat.sub_eq_add_neg]
  exact h1.add h2.neg
theorem Sz.inv {n : Nat} {q : Rat} (h : Sz n q) (h0 : q ≠ 0) : Sz n q⁻¹ := by
  rw [Rat.inv_def]
  have e : q.num ≠ 0 := fun z => h0 (Rat.num_eq_zero.mp z)
  exact sz_low e (by rw [Int.natAbs_natCast]; exact h.2) h.1
theorem Sz.div {a b : Nat} {p q : Rat} (h1 : Sz a p) (h2 : Sz b q) (h0 : q ≠ 0) : Sz (a + b) (p / q) := by
  rw [Rat.div_def]
  exact h1.mul (h2.inv h0)
theorem sz_int {n : Nat} {i : Int} (h : i.natAbs < 2 ^ n) (hn : 1 ≤ n) : Sz n (i : Rat) := ⟨h, Nat.lt_of_lt_of_le (show 1 < 2 ^ 1 by decide) (Nat.pow_le_pow_right (by decide) hn)⟩
theorem fQuot_rt {d e r : Da} (h1 : isNum d = true) (h2 : isNum e = true) (h0 : rt e ≠ 0) (h : fQuot d e r) : r = ofR (rt d / rt e) := by
  have a := (num_parts h1).1
  have b := (num_parts h2).1
  have c : above e ≠ 0 := fun z => h0 (by unfold rt; rw [z, Rat.zero_divInt])
  rw [low_ofR (Int.mul_ne_zero (by omega) c) h]
  unfold rt
  rw [Rat.div_def, Rat.inv_divInt, Rat.divInt_mul_divInt]
theorem above_ne {e : Da} (h2 : isNum e = true) (h0 : rt e ≠ 0) : above e ≠ 0 := fun z => h0 (by unfold rt; rw [z, Rat.zero_divInt])
theorem fNeg_rt {d r : Da} (h1 : isNum d = true) (h : fNeg d r) : r = ofR (- rt d) := by
  have a := (num_parts h1).1
  rw [low_ofR (by omega) h]
  unfold rt
  rw [Rat.neg_divInt]

/-! calls -/
section
variable {H : Hp} {Q : VK} {E : XK} {u v : V} {d e : Da} {m n : Nat} {x z : Rat}
/-- two numbers that can be reckoned together -/
def FitQ (p q : Rat) : Prop := ∃ m n, 0 < m ∧ 0 < n ∧ m + n ≤ 8900 ∧ Sz m p ∧ Sz n q
theorem FitQ.fit (h : FitQ (rt d) (rt e)) (h1 : isNum d = true) (h2 : isNum e = true) : Fit d e := by
  obtain ⟨m, n, a, b, c, s, t⟩ := h
  exact ⟨m, n, a, b, c, Sz.nb h1 s, Sz.nb h2 t⟩
/-- v is the number x -/
def Nm (H : Hp) (v : V) (x : Rat) : Prop := ∃ d, Is H v d ∧ isNum d = true ∧ rt d = x
theorem Nm.up {H H' : Hp} (h : Nm H v x) (s : Same H H') : Nm H' v x := by
  obtain ⟨d, h1, h2, h3⟩ := h
  exact ⟨d, h1.up s, h2, h3⟩
theorem New.nm {H H' : Hp} (h : New H H' v (ofR x)) : Nm H' v x := ⟨_, h.is, ofR_num x, rt_ofR x⟩
theorem Is.nm (h : Is H v (ofR x)) : Nm H v x := ⟨_, h, ofR_num x, rt_ofR x⟩
theorem nm_int {i : Int} : Nm H (.int i) (i : Rat) := ⟨.int i, .int i, rfl, rt_int i⟩
theorem on_sum (hu : Nm H u x) (hv : Nm H v z) (f : FitQ x z) (k : ∀ w H', Same H H' → New H H' w (ofR (x + z)) → Q w H') : spOn2 CT fSum [u, v] H Q E0 := by
  obtain ⟨d, hu, h1, rfl⟩ := hu
  obtain ⟨e, hv, h2, rfl⟩ := hv
  exact ⟨u, v, d, e, rfl, hu, hv, h1, h2, f.fit h1 h2, trivial, fun w r H' s n l => k w H' s (fSum_rt h1 h2 l ▸ n)⟩
theorem on_diff (hu : Nm H u x) (hv : Nm H v z) (f : FitQ x z) (k : ∀ w H', Same H H' → New H H' w (ofR (x - z)) → Q w H') : spOn2 CT fDiff [u, v] H Q E0 := by
  obtain ⟨d, hu, h1, rfl⟩ := hu
  obtain ⟨e, hv, h2, rfl⟩ := hv
  exact ⟨u, v, d, e, rfl, hu, hv, h1, h2, f.fit h1 h2, trivial, fun w r H' s n l => k w H' s (fDiff_rt h1 h2 l ▸ n)⟩
theorem on_prod (hu : Nm H u x) (hv : Nm H v z) (f : FitQ x z) (k : ∀ w H', Same H H' → New H H' w (ofR (x * z)) → Q w H') : spOn2 CT fProd [u, v] H Q E0 := by
  obtain ⟨d, hu, h1, rfl⟩ := hu
  obtain ⟨e, hv, h2, rfl⟩ := hv
  exact ⟨u, v, d, e, rfl, hu, hv, h1, h2, f.fit h1 h2, trivial, fun w r H' s n l => k w H' s (fProd_rt h1 h2 l ▸ n)⟩
theorem on_quot (hu : Nm H u x) (hv : Nm H v z) (f : FitQ x z) (h0 : z ≠ 0) (k : ∀ w H', Same H H' → New H H' w (ofR (x / z)) → Q w H') : spOn2 (fun _ e => above e ≠ 0) fQuot [u, v] H Q E0 := by
  obtain ⟨d, hu, h1, rfl⟩ := hu
  obtain ⟨e, hv, h2, rfl⟩ := hv
  exact ⟨u, v, d, e, rfl, hu, hv, h1, h2, f.fit h1 h2, above_ne h2 h0, fun w r H' s n l => k w H' s (fQuot_rt h1 h2 h0 l ▸ n)⟩
theorem on_neg (hu : Nm H u x) (hb : Sz 8900 x) (k : ∀ w H', Same H H' → New H H' w (ofR (- x)) → Q w H') : spOn fNeg [u] H Q E0 := by
  obtain ⟨d, hu, h1, rfl⟩ := hu
  exact ⟨u, d, rfl, hu, h1, Sz.nb h1 hb, fun w r H' s n l => k w H' s (fNeg_rt h1 l ▸ n)⟩
theorem on_rat2 {f : Rat → Rat → Rat} (hu : Nm H u x) (hv : Nm H v z) (g : FitQ x z) (k : ∀ w H', Same H H' → New H H' w (ofR (f x z)) → Q w H') : spRat2 f [u, v] H Q E0 := by
  obtain ⟨d, hu, h1, rfl⟩ := hu
  obtain ⟨e, hv, h2, rfl⟩ := hv
  exact ⟨u, v, d, e, rfl, hu, hv, h1, h2, g.fit h1 h2, k⟩
theorem on_less (hu : Nm H u x) (hv : Nm H v z) (f : FitQ x z) (k : ∀ H', Same H H' → Q (.bl (decide (x < z))) H') : spOn2 CT fLess [u, v] H Q E0 := by
  obtain ⟨d, hu, h1, rfl⟩ := hu
  obtain ⟨e, hv, h2, rfl⟩ := hv
  refine ⟨u, v, d, e, rfl, hu, hv, h1, h2, f.fit h1 h2, trivial, fun w r H' s n l => ?_⟩
  cases l
  cases n.is
  have a := (num_parts h1).1
  have b := (num_parts h2).1
  have q : decide (above d * below e < above e * below d) = decide (rt d < rt e) := by
    have q1 : (rt d < rt e) ↔ above d * below e < above e * below d := by
      rw [Rat.lt_iff, ← (num_is h1).1, ← (num_is h1).2, ← (num_is h2).1, ← (num_is h2).2]
    exact decide_eq_decide.mpr q1.symm
  rw [q]
  exact k H' s
/-- the first number, the second one -/
theorem Pt.fst {K : PySem.W.Frag} {y : Rat} (p : Pt d x y) (h : Is H v d) (k : ∀ w, Nm H w x → Q w H) : rIxL K v (.int 0) H Q ∨ rIxT K v (.int 0) H Q := by
  obtain ⟨s, a, b, e, h1, h2, h3, h4⟩ := p
  exact ix_of (n := 0) h s rfl (by rw [e]; rfl) fun w hw => k w ⟨a, hw, h1, h3⟩
theorem Pt.snd {K : PySem.W.Frag} {y : Rat} (p : Pt d x y) (h : Is H v d) (k : ∀ w, Nm H w y → Q w H) : rIxL K v (.int 1) H Q ∨ rIxT K v (.int 1) H Q := by
  obtain ⟨s, a, b, e, h1, h2, h3, h4⟩ := p
  exact ix_of (n := 1) h s rfl (by rw [e]; rfl) fun w hw => k w ⟨b, hw, h2, h4⟩
end
/-! promises -/
/-- two points give a point; the first one's numbers have m bits, the second one's n -/
def spPP (f g : Rat → Rat → Rat → Rat → Rat) : Sp := fun vs H Q _ => ∃ u v d e x y z w m n, vs = [u, v] ∧ Is H u d ∧ Is H v e ∧ Pt d x y ∧ Pt e z w ∧ (0 < m ∧ 0 < n ∧ m + n ≤ 8900 ∧ Sz m x ∧ Sz m y ∧ Sz n z ∧ Sz n w) ∧
  ∀ r H', Same H H' → New H H' r (pt (f x y z w) (g x y z w)) → Q r H'
/-- two points give a number -/
def spPN (f : Rat → Rat → Rat → Rat → Rat) : Sp := fun vs H Q _ => ∃ u v d e x y z w m n, vs = [u, v] ∧ Is H u d ∧ Is H v e ∧ Pt d x y ∧ Pt e z w ∧ (0 < m ∧ 0 < n ∧ 2 * (m + n) ≤ 8900 ∧ Sz m x ∧ Sz m y ∧ Sz n z ∧ Sz n w) ∧
  ∀ r H', Same H H' → New H H' r (ofR (f x y z w)) → Q r H'
/-- the square of the distance -/
def far2 (x y z w : Rat) : Rat := (z - x) * (z - x) + (w - y) * (w - y)
def spFar : Sp := fun vs H Q _ => ∃ u v d e x y z w m n, vs = [u, v] ∧ Is H u d ∧ Is H v e ∧ Pt d x y ∧ Pt e z w ∧ (0 < m ∧ 0 < n ∧ 4 * (m + n + 1) ≤ 8900 ∧ Sz m x ∧ Sz m y ∧ Sz n z ∧ Sz n w) ∧
  ∀ r H', Same H H' → New H H' r (ofR (far2 x y z w)) → Q r H'
/-- a point so many times -/
def spPTimes : Sp := fun vs H Q _ => ∃ u v d e x y m n, vs = [u, v] ∧ Is H u d ∧ Is H v e ∧ Pt d x y ∧ isNum e = true ∧ (0 < m ∧ 0 < n ∧ m + n ≤ 8900 ∧ Sz m x ∧ Sz m y ∧ Sz n (rt e)) ∧
  ∀ r H', Same H H' → New H H' r (pt (rt e * x) (rt e * y)) → Q r H'
/-- one gone on by share of the way to other -/
def spGoneOn : Sp := fun vs H Q _ => ∃ u v t d e f x y z w m n l, vs = [u, v, t] ∧ Is H u d ∧ Is H v e ∧ Is H t f ∧ Pt d x y ∧ Pt e z w ∧ isNum f = true ∧ (0 < m ∧ 0 < n ∧ 0 < l ∧ 2 * m + n + l + 2 ≤ 8900 ∧ Sz m x ∧ Sz m y ∧ Sz n z ∧ Sz n w ∧ Sz l (rt f)) ∧
  ∀ r H', Same H H' → New H H' r (pt (x + rt f * (z - x)) (y + rt f * (w - y))) → Q r H'
/-- a point gone on by share of a row -/
def spGoneR : Sp := fun vs H Q _ => ∃ u v t d e f x y z w m n l, vs = [u, v, t] ∧ Is H u d ∧ Is H v e ∧ Is H t f ∧ Pt d x y ∧ Pt e z w ∧ isNum f = true ∧ (0 < m ∧ 0 < n ∧ 0 < l ∧ m + n + l ≤ 8900 ∧ Sz m x ∧ Sz m y ∧ Sz n z ∧ Sz n w ∧ Sz l (rt f)) ∧
  ∀ r H', Same H H' → New H H' r (pt (x + rt f * z) (y + rt f * w)) → Q r H'
/-! numbers and points compared -/
mutual
theorem Is.dpP {K : PySem.W.Frag} {H : Hp} : ∀ (d : Da) (v : V), Is H v d → plain d = true → Dp K H v (pd d)
  | .non, _, h, _ => by cases h; exact .non
  | .bl b, _, h, _ => by cases h; exact .bl b
  | .int i, _, h, _ => by cases h; exact .int i
  | .str x, _, _, n => by cases n
  | .tup l, _, h, n => by
    cases h with
    | tup e h => exact .tup (.inl (.inl e)) (IsAll.dpP l _ h n)
  | .lst l, _, h, n => by
    cases h with
    | lst e h => exact .lst (.inl (.inl e)) (IsAll.dpP l _ h n)
  | .dic, _, _, n => by cases n
theorem IsAll.dpP {K : PySem.W.Frag} {H : Hp} : ∀ (l : List Da) (vs : List V), IsAll H vs l → plainA l = true → DpAll K H vs (pdA l)
  | [], _, h, _ => by cases h; exact .nil
  | d :: l, _, h, n => by
    have h' : (plain d && plainA l) = true := n
    rw [Bool.and_eq_true] at h'
    cases h with
    | cons h t => exact .cons (Is.dpP d _ h h'.1) (IsAll.dpP l _ t h'.2)
end
theorem int_beq (i j : Int) : (i == j) = decide (i = j) := by
  by_cases h : i = j
  · rw [h]; simp
  · rw [decide_eq_false h]; simpa using h
theorem eqv_frac {a b c d : Int} : PyData.eqv (pd (frac a b)) (pd (frac c d)) = decide (a = c ∧ b = d) := by
  unfold frac
  by_cases h1 : b = 1
  · by_cases h2 : d = 1
    · rw [if_pos h1, if_pos h2]
      show (a == c) = _
      rw [int_beq]
      exact decide_eq_decide.mpr ⟨fun e => ⟨e, by rw [h1, h2]⟩, fun e => e.1⟩
    · rw [if_pos h1, if_neg h2]
      show false = _
      rw [decide_eq_false (fun e => h2 (by rw [← e.2, h1]))]
  · by_cases h2 : d = 1
    · rw [if_neg h1, if_pos h2]
      show false = _
      rw [decide_eq_false (fun e => h1 (by rw [e.2, h2]))]
    · rw [if_neg h1, if_neg h2]
      show ((a == c) && ((b == d) && true)) = _
      rw [int_beq, int_beq, Bool.and_true, ← Bool.decide_and]
theorem eqv_ofR {x z : Rat} : PyData.eqv (pd (ofR x)) (pd (ofR z)) = decide (x = z) := by
  unfold ofR
  rw [eqv_frac]
  exact decide_eq_decide.mpr ⟨fun e => Rat.ext e.1 (by have := e.2; omega), fun e => by rw [e]; exact ⟨rfl, rfl⟩⟩
theorem eqv_pt {x y z w : Rat} : PyData.eqv (pd (pt x y)) (pd (pt z w)) = decide (x = z ∧ y = w) := by
  show (PyData.eqv (pd (ofR x)) (pd (ofR z)) && (PyData.eqv (pd (ofR y)) (pd (ofR w)) && true)) = _
  rw [eqv_ofR, eqv_ofR, Bool.and_true, ← Bool.decide_and]
theorem plain_pt {x y : Rat} : plain (pt x y) = true ∧ dp (pt x y) ≤ 2 := by
  obtain ⟨a1, a2⟩ := plain_num (ofR_num x)
  obtain ⟨b1, b2⟩ := plain_num (ofR_num y)
  constructor
  · show (plain (ofR x) && (plain (ofR y) && true)) = true
    rw [a1, b1]
    rfl
  · show max (dp (ofR x)) (max (dp (ofR y)) 0) + 1 ≤ 2
    omega
theorem shaped_plain {d : Da} (h : plain d = true) (l : dp d ≤ 60) : SeqAt.shaped (pd d) = true := by
  obtain ⟨b1, b2⟩ := eqv_refl _ h
  unfold SeqAt.shaped
  rw [b2, decide_eq_true (by rw [dp_eq]; omega)]
  rfl
section
variable {K : PySem.W.Frag} {H : Hp} {u v : V} {d e : Da} {x y z w : Rat} {Q : VK}
theorem eq_pl (hu : Is H u d) (hv : Is H v e) (h1 : plain d = true) (h2 : plain e = true) (l1 : dp d ≤ 60) (l2 : dp e ≤ 60) (k : Q (.bl (PyData.eqv (pd d) (pd e))) H) : rEqD K u v H Q :=
  ⟨pd d, pd e, Is.dpP d u hu h1, Is.dpP e v hv h2, shaped_plain h1 l1, shaped_plain h2 l2, k⟩
theorem ne_pl (hu : Is H u d) (hv : Is H v e) (h1 : plain d = true) (h2 : plain e = true) (l1 : dp d ≤ 60) (l2 : dp e ≤ 60) (k : Q (.bl (!PyData.eqv (pd d) (pd e))) H) : rNeD K u v H Q :=
  ⟨pd d, pd e, Is.dpP d u hu h1, Is.dpP e v hv h2, shaped_plain h1 l1, shaped_plain h2 l2, k⟩
theorem eq_nm (hu : Is H u (ofR x)) (hv : Is H v (ofR z)) (k : Q (.bl (decide (x = z))) H) : rEqD K u v H Q := by
  obtain ⟨a1, a2⟩ := plain_num (ofR_num x)
  obtain ⟨b1, b2⟩ := plain_num (ofR_num z)
  exact eq_pl hu hv a1 b1 (by omega) (by omega) (by rw [eqv_ofR]; exact k)
theorem ne_nm (hu : Is H u (ofR x)) (hv : Is H v (ofR z)) (k : Q (.bl (!decide (x = z))) H) : rNeD K u v H Q := by
  obtain ⟨a1, a2⟩ := plain_num (ofR_num x)
  obtain ⟨b1, b2⟩ := plain_num (ofR_num z)
  exact ne_pl hu hv a1 b1 (by omega) (by omega) (by rw [eqv_ofR]; exact k)
theorem eq_pt (hu : Is H u (pt x y)) (hv : Is H v (pt z w)) (k : Q (.bl (decide (x = z ∧ y = w))) H) : rEqD K u v H Q := by
  obtain ⟨a1, a2⟩ := plain_pt (x := x) (y := y)
  obtain ⟨b1, b2⟩ := plain_pt (x := z) (y := w)
  exact eq_pl hu hv a1 b1 (by omega) (by omega) (by rw [eqv_pt]; exact k)
theorem ne_pt (hu : Is H u (pt x y)) (hv : Is H v (pt z w)) (k : Q (.bl (!decide (x = z ∧ y = w))) H) : rNeD K u v H Q := by
  obtain ⟨a1, a2⟩ := plain_pt (x := x) (y := y)
  obtain ⟨b1, b2⟩ := plain_pt (x := z) (y := w)
  exact ne_pl hu hv a1 b1 (by omega) (by omega) (by rw [eqv_pt]; exact k)
theorem Is.zero : Is H (.int 0) (ofR 0) := by rw [ofR_zero]; exact .int 0
theorem Is.pt0 {p : Addr} (h : H p = some (.tup [.int 0, .int 0])) : Is H (.ref p) (pt 0 0) := .tup h (.cons Is.zero (.cons Is.zero .nil))
end
/-! what is above 0 -/
def posD (d : Da) : Bool := isNum d && decide (0 < above d)
theorem posD_of {d : Da} (h : isNum d = true) (p : 0 < rt d) : posD d = true := by
  unfold posD
  rw [h, decide_eq_true]
  · rfl
  · rw [(num_is h).1]
    have h := (Rat.lt_iff 0 (rt d)).mp p
    simpa using h
def spNeedS (f : Da → Bool) (C : Addr) : Sp := fun vs H Q E => ∃ v p d, vs = [v, p] ∧ Is H v d ∧ (isNum d = true → NB 8900 d) ∧ (f d = true → ∀ H', Same H H' → Q .non H') ∧ (f d = false → Out1 C "part" p H E)
/-! lists made tuples -/
mutual
def fx : Da → Da
  | .tup l => .tup (fxA l)
  | .lst l => .tup (fxA l)
  | d => d
def fxA : List Da → List Da
  | [] => []
  | d :: l => fx d :: fxA l
end
theorem fxA_map : ∀ l : List Da, fxA l = l.map fx
  | [] => rfl
  | d :: l => by
    show fx d :: fxA l = fx d :: l.map fx
    rw [fxA_map l]
theorem dpA_mem : ∀ (l : List Da) (d : Da), d ∈ l → dp d ≤ dpA l
  | e :: l, d, h => by
    cases h with
    | head => exact Nat.le_max_left _ _
    | tail _ h => exact Nat.le_trans (dpA_mem l d h) (Nat.le_max_right _ _)
/-- no dict, no list or tuple of more than 1000 -/
def slim : Da → Bool
  | .tup l => decide (l.length ≤ 1000) && slimA l
  | .lst l => decide (l.length ≤ 1000) && slimA l
  | .dic => false
  | _ => true
where slimA : List Da → Bool
  | [] => true
  | d :: l => slim d && slimA l
def spFix (n : Nat) : Sp := fun vs H Q _ => ∃ v d, vs = [v] ∧ Is H v d ∧ dp d < n ∧ slim d = true ∧ ∀ w H', Same H H' → New H H' w (fx d) → Q w H'
theorem slimA_mem : ∀ (l : List Da) (d : Da), d ∈ l → slim.slimA l = true → slim d = true
  | e :: l, d, h, s => by
    have s' : (slim e && slim.slimA l) = true := s
    rw [Bool.and_eq_true] at s'
    cases h with
    | head => exact s'.1
    | tail _ h => exact slimA_mem l d h s'.2
theorem slim_num {d : Da} (h : isNum d = true) : slim d = true := by
  have two : ∀ l, isPair l = true → ∃ a b : Int, l = [.int a, .int b] := fun l hl => by
    match l, hl with
    | [.int a, .int b], hl => exact ⟨a, b, rfl⟩
  cases d with
  | int i => rfl
  | tup l =>
    obtain ⟨x, y, rfl⟩ := two l (by simpa [isNum, isN, isS, items] using h)
    rfl
  | lst l =>
    obtain ⟨x, y, rfl⟩ := two l (by simpa [isNum, isN, isS, items] using h)
    rfl
  | _ => cases h
theorem fx_ofR {q : Rat} : fx (ofR q) = ofR q := by
  unfold ofR frac
  split <;> rfl
theorem fx_pt {x y : Rat} : fx (pt x y) = pt x y := by
  show Da.tup [fx (ofR x), fx (ofR y)] = _
  rw [fx_ofR, fx_ofR]
  rfl
theorem slim_pt {x y : Rat} : slim (pt x y) = true := by
  show (true && (slim (ofR x) && (slim (ofR y) && true))) = true
  rw [slim_num (ofR_num x), slim_num (ofR_num y)]
  rfl
/-- a point made new: its items -/
theorem New.two {H H1 : Hp} {v : V} {x y : Rat} (h : New H H1 v (Ty.pt x y)) : ∃ p a b, v = .ref p ∧ H1 p = some (.tup [a, b]) ∧ New H H1 a (ofR x) ∧ New H H1 b (ofR y) := by
  have h0 := h.is
  cases h0 with
  | @tup p xs _ e hx =>
    cases hx with
    | @cons a _ _ _ ha hx =>
      cases hx with
      | @cons b _ _ _ hb hx =>
        cases hx
        refine ⟨p, a, b, rfl, e, fun S l => ?_, fun S l => ?_⟩
        all_goals
          have q := h S l
          cases q with
          | tup e2 hy =>
            have e3 := (mn_of e2).2
            rw [e] at e3
            cases e3
            cases hy with
            | cons h1 hy =>
              cases hy with
              | cons h2 hy => first | exact h1 | exact h2
/-- a point gives a point -/
def spPQ (f g : Rat → Rat → Rat) : Sp := fun vs H Q _ => ∃ v x y n, vs = [v] ∧ Is H v (pt x y) ∧ (0 < n ∧ n ≤ 8000 ∧ Sz n x ∧ Sz n y) ∧ ∀ w H', Same H H' → New H H' w (pt (f x y) (g x y)) → Q w H'
end Ty

namespace Ty
open PySem PySem.Spec PyProof.Rows L2
/-! ### mirrored points, frames: the mathematics -/
theorem sq_nonneg (x : Rat) : 0 ≤ x * x := by
  rcases Rat.le_total (a := 0) (b := x) with h | h
  · exact Rat.mul_nonneg h h
  · have h2 : 0 ≤ -x := by grind
    have := Rat.mul_nonneg h2 h2
    grind
theorem sq_two {x y : Rat} (h : x * x + y * y = 0) : x = 0 ∧ y = 0 := by
  have h1 := sq_nonneg x
  have h2 := sq_nonneg y
  have e1 : x * x = 0 := by grind
  have e2 : y * y = 0 := by grind
  exact ⟨(Rat.mul_eq_zero.mp e1).elim id id, (Rat.mul_eq_zero.mp e2).elim id id⟩
theorem far2_ne {a b c d : Rat} (h : a ≠ c ∨ b ≠ d) : far2 a b c d ≠ 0 := fun z => by
  obtain ⟨h1, h2⟩ := sq_two z
  rcases h with h | h
  · exact h (by grind)
  · exact h (by grind)
/-- the share of the foot of (x, y) on the line from (a, b) to (c, d) -/
def shr (a b c d x y : Rat) : Rat := ((x - a) * (c - a) + (y - b) * (d - b)) / far2 a b c d
def mir1 (x y a b c d : Rat) : Rat := x + 2 * ((a + shr a b c d x y * (c - a)) - x)
def mir2 (x y a b c d : Rat) : Rat := y + 2 * ((b + shr a b c d x y * (d - b)) - y)
theorem shr_eq {a b c d x y : Rat} (h : a ≠ c ∨ b ≠ d) : shr a b c d x y * ((c - a) * (c - a) + (d - b) * (d - b)) = (x - a) * (c - a) + (y - b) * (d - b) := Rat.div_mul_cancel (far2_ne h)
section
variable {x y a b c d : Rat}
theorem mir_far1 (h : a ≠ c ∨ b ≠ d) : far2 (mir1 x y a b c d) (mir2 x y a b c d) a b = far2 x y a b := by
  have e := shr_eq (x := x) (y := y) h
  unfold mir1 mir2 far2
  generalize shr a b c d x y = s at e ⊢
  grind
theorem mir_far2 (h : a ≠ c ∨ b ≠ d) : far2 (mir1 x y a b c d) (mir2 x y a b c d) c d = far2 x y c d := by
  have e := shr_eq (x := x) (y := y) h
  unfold mir1 mir2 far2
  generalize shr a b c d x y = s at e ⊢
  grind
theorem mir_dot (h : a ≠ c ∨ b ≠ d) : (c - a) * (mir1 x y a b c d - x) + (d - b) * (mir2 x y a b c d - y) = 0 := by
  have e := shr_eq (x := x) (y := y) h
  unfold mir1 mir2
  generalize shr a b c d x y = s at e ⊢
  grind
theorem mir_cross : (c - a) * ((y + Rat.divInt 1 2 * (mir2 x y a b c d - y)) - b) - (d - b) * ((x + Rat.divInt 1 2 * (mir1 x y a b c d - x)) - a) = 0 := by
  have h2 : Rat.divInt 1 2 = 1 / 2 := by rw [Rat.divInt_eq_div]; rfl
  rw [h2]
  unfold mir1 mir2
  generalize shr a b c d x y = s
  grind
theorem mir_on (h : a ≠ c ∨ b ≠ d) (k : (c - a) * (y - b) - (d - b) * (x - a) = 0) : mir1 x y a b c d = x ∧ mir2 x y a b c d = y := by
  have e := shr_eq (x := x) (y := y) h
  have f := far2_ne h
  unfold mir1 mir2
  unfold far2 at f
  generalize shr a b c d x y = s at e ⊢
  have q1 : ((c - a) * (c - a) + (d - b) * (d - b)) * ((a + s * (c - a)) - x) = 0 := by grind
  have q2 : ((c - a) * (c - a) + (d - b) * (d - b)) * ((b + s * (d - b)) - y) = 0 := by grind
  have r1 := (Rat.mul_eq_zero.mp q1).resolve_left f
  have r2 := (Rat.mul_eq_zero.mp q2).resolve_left f
  rw [r1, r2]
  constructor <;> grind
theorem mir_back (h : a ≠ c ∨ b ≠ d) : mir1 (mir1 x y a b c d) (mir2 x y a b c d) c d a b = x ∧ mir2 (mir1 x y a b c d) (mir2 x y a b c d) c d a b = y := by
  have h' : c ≠ a ∨ d ≠ b := h.imp Ne.symm Ne.symm
  have e := shr_eq (x := x) (y := y) h
  have e2 := shr_eq (x := mir1 x y a b c d) (y := mir2 x y a b c d) h'
  have f := far2_ne h
  unfold far2 at f
  have q : shr c d a b (mir1 x y a b c d) (mir2 x y a b c d) = 1 - shr a b c d x y := by
    have z : ((c - a) * (c - a) + (d - b) * (d - b)) * (shr c d a b (mir1 x y a b c d) (mir2 x y a b c d) - (1 - shr a b c d x y)) = 0 := by
      generalize shr c d a b (mir1 x y a b c d) (mir2 x y a b c d) = t at e2 ⊢
      unfold mir1 mir2 at e2
      generalize shr a b c d x y = s at e e2 ⊢
      grind
    have := (Rat.mul_eq_zero.mp z).resolve_left f
    grind
  have m1 : mir1 (mir1 x y a b c d) (mir2 x y a b c d) c d a b = mir1 x y a b c d + 2 * ((c + shr c d a b (mir1 x y a b c d) (mir2 x y a b c d) * (a - c)) - mir1 x y a b c d) := rfl
  have m2 : mir2 (mir1 x y a b c d) (mir2 x y a b c d) c d a b = mir2 x y a b c d + 2 * ((d + shr c d a b (mir1 x y a b c d) (mir2 x y a b c d) * (b - d)) - mir2 x y a b c d) := rfl
  rw [m1, m2, q]
  unfold mir1 mir2
  generalize shr a b c d x y = s at e ⊢
  constructor <;> grind
end
/-- a frame's lengths, and its first corners -/
structure Frame (s t o p a b c d : Rat) : Prop where
  pos : 0 < s
  less : s < t
  one : far2 o p a b = s * s
  other : far2 o p c d = t * t
section
variable {s t o p a b c d : Rat}
theorem Frame.sq (f : Frame s t o p a b c d) : s * s < t * t := by
  have h1 := f.pos
  have h2 := f.less
  have h3 : 0 < (t - s) * (t + s) := Rat.mul_pos (by grind) (by grind)
  grind
theorem Frame.apart (f : Frame s t o p a b c d) : a ≠ c ∨ b ≠ d := by
  refine Classical.byContradiction fun z => ?_
  have z1 : a = c := Classical.byContradiction fun w => z (.inl w)
  have z2 : b = d := Classical.byContradiction fun w => z (.inr w)
  have e1 := f.one
  have e2 := f.other
  subst z1
  subst z2
  have := f.sq
  grind
theorem Frame.long (f : Frame s t o p a b c d) : o ≠ c ∨ p ≠ d := by
  refine Classical.byContradiction fun z => ?_
  have z1 : o = c := Classical.byContradiction fun w => z (.inl w)
  have z2 : p = d := Classical.byContradiction fun w => z (.inr w)
  have e2 := f.other
  subst z1
  subst z2
  unfold far2 at e2
  have := f.sq
  have := Rat.mul_pos f.pos f.pos
  grind
theorem Frame.par1 (f : Frame s t o p a b c d) : far2 (a + (c - o)) (b + (d - p)) c d = s * s := by
  rw [← f.one]; unfold far2; grind
theorem Frame.par2 (f : Frame s t o p a b c d) : far2 (a + (c - o)) (b + (d - p)) a b = t * t := by
  rw [← f.other]; unfold far2; grind
theorem mir_off (h : (a - o) * (d - p) - (b - p) * (c - o) ≠ 0) : ¬ (mir1 (a + (c - o)) (b + (d - p)) a b c d = a + (c - o) ∧ mir2 (a + (c - o)) (b + (d - p)) a b c d = b + (d - p)) := fun z => by
  have e := mir_cross (x := a + (c - o)) (y := b + (d - p)) (a := a) (b := b) (c := c) (d := d)
  rw [z.1, z.2] at e
  apply h
  have h2 : Rat.divInt 1 2 = 1 / 2 := by rw [Rat.divInt_eq_div]; rfl
  rw [h2] at e
  grind
end

/-- the third corner where the frame is parallel, and the other one -/
def flatQ (o p a b c d : Rat) : Rat := -(d - p) * (a - o) + (c - o) * (b - p)
theorem flat_cross {o p a b c d : Rat} : ((a - o) * (d - p) - (b - p) * (c - o) = 0) = (flatQ o p a b c d = 0) := by
  unfold flatQ
  apply propext
  constructor <;> intro h <;> grind
theorem flat_one {o p c d : Rat} : flatQ o p o p c d = 0 := by unfold flatQ; grind
theorem flat_two {o p c d : Rat} : flatQ o p c d c d = 0 := by unfold flatQ; grind
/-- the turn of a half -/
theorem half_unit (q : Rat) : (1 + q * q) ≠ 0 ∧ ((1 - q * q) / (1 + q * q)) * ((1 - q * q) / (1 + q * q)) + ((2 * q) / (1 + q * q)) * ((2 * q) / (1 + q * q)) = 1 := by
  have h := sq_nonneg q
  have u0 : (1 + q * q) ≠ 0 := by grind
  refine ⟨u0, ?_⟩
  have e1 : (1 - q * q) / (1 + q * q) * (1 + q * q) = 1 - q * q := Rat.div_mul_cancel u0
  have e2 : (2 * q) / (1 + q * q) * (1 + q * q) = 2 * q := Rat.div_mul_cancel u0
  generalize (1 - q * q) / (1 + q * q) = c at e1 ⊢
  generalize (2 * q) / (1 + q * q) = s at e2 ⊢
  have z : ((1 + q * q) * (1 + q * q)) * (c * c + s * s - 1) = 0 := by
    have f1 : (c * (1 + q * q)) * (c * (1 + q * q)) = (1 - q * q) * (1 - q * q) := by rw [e1]
    have f2 : (s * (1 + q * q)) * (s * (1 + q * q)) = (2 * q) * (2 * q) := by rw [e2]
    grind
  have u1 : (1 + q * q) * (1 + q * q) ≠ 0 := fun w => (Rat.mul_eq_zero.mp w).elim u0 u0
  have := (Rat.mul_eq_zero.mp z).resolve_left u1
  grind
theorem divInt_pos' {a b : Int} (ha : 0 < a) (hb : 0 < b) : 0 < Rat.divInt a b := by
  rw [Rat.divInt_eq_div, Rat.div_def]
  exact Rat.mul_pos (Rat.intCast_pos.mpr ha) (Rat.inv_pos.mpr (Rat.intCast_pos.mpr hb))
/-- a frame at turns -/
theorem frame_of {s t o p c e c' e' : Rat} (s0 : 0 < s) (st : s < t) (h1 : c * c + e * e = 1) (h2 : c' * c' + e' * e' = 1) : Frame s t o p (o + s * c) (p + s * e) (o + t * c') (p + t * e') := by
  refine ⟨s0, st, ?_, ?_⟩
  · unfold far2
    have : (s * c) * (s * c) + (s * e) * (s * e) = s * s * (c * c + e * e) := by grind
    grind
  · unfold far2
    have : (t * c') * (t * c') + (t * e') * (t * e') = t * t * (c' * c' + e' * e') := by grind
    grind
theorem on_line {a b u v k l : Rat} : ((a + k * u) - a) * ((b + l * v) - b) - ((b + k * v) - b) * ((a + l * u) - a) = 0 := by grind
theorem moved_off {a b u v k : Rat} (h : u * u + v * v = 1) (k0 : 0 < k) : a ≠ a + k * u ∨ b ≠ b + k * v := by
  refine Classical.byContradiction fun z => ?_
  have z1 : a = a + k * u := Classical.byContradiction fun w => z (.inl w)
  have z2 : b = b + k * v := Classical.byContradiction fun w => z (.inr w)
  have y1 : k * u = 0 := by grind
  have y2 : k * v = 0 := by grind
  have kk : k ≠ 0 := by grind
  have x1 := (Rat.mul_eq_zero.mp y1).resolve_left kk
  have x2 := (Rat.mul_eq_zero.mp y2).resolve_left kk
  rw [x1, x2] at h
  grind
end Ty
namespace Ty
open PySem PySem.Spec PyProof.Rows L2
/-! ### what a value is: a number or a point, of so many bits -/
/-- v is the number x, of m bits -/
def Nz (H : Hp) (v : V) (m : Nat) (x : Rat) : Prop := 0 < m ∧ (∃ d, Is H v d ∧ isNum d = true ∧ rt d = x) ∧ Sz m x
/-- v is the point x, y, of m bits -/
def Pm (H : Hp) (v : V) (m : Nat) (x y : Rat) : Prop := 0 < m ∧ (∃ d, Is H v d ∧ Pt d x y) ∧ Sz m x ∧ Sz m y
section
variable {H H' H1 : Hp} {Q : VK} {E : XK} {u v t q : V} {m n l : Nat} {x y z w r : Rat}
theorem Nz.up (h : Nz H v m x) (s : Same H H') : Nz H' v m x := by
  obtain ⟨h1, ⟨d, h2, h3, h4⟩, h5⟩ := h
  exact ⟨h1, ⟨d, h2.up s, h3, h4⟩, h5⟩
theorem Pm.up (h : Pm H v m x y) (s : Same H H') : Pm H' v m x y := by
  obtain ⟨h1, ⟨d, h2, h3⟩, h5⟩ := h
  exact ⟨h1, ⟨d, h2.up s, h3⟩, h5⟩
theorem Nz.more (h : Nz H v m x) (l : m ≤ n) : Nz H v n x := ⟨Nat.lt_of_lt_of_le h.1 l, h.2.1, h.2.2.more l⟩
theorem Pm.more (h : Pm H v m x y) (l : m ≤ n) : Pm H v n x y := ⟨Nat.lt_of_lt_of_le h.1 l, h.2.1, h.2.2.1.more l, h.2.2.2.more l⟩
theorem Nz.nm (h : Nz H v m x) : Nm H v x := h.2.1
theorem Is.nz (h : Is H v (ofR x)) (m0 : 0 < m) (s : Sz m x) : Nz H v m x := ⟨m0, h.nm, s⟩
theorem Is.pm (h : Is H v (pt x y)) (m0 : 0 < m) (s1 : Sz m x) (s2 : Sz m y) : Pm H v m x y := ⟨m0, ⟨_, h, pt_pt⟩, s1, s2⟩
theorem nz_int {i : Int} (m0 : 0 < m) (h : i.natAbs < 2 ^ m) : Nz H (.int i) m (i : Rat) := ⟨m0, ⟨.int i, .int i, rfl, rt_int i⟩, sz_int h m0⟩
theorem nz_one : Nz H (.int 1) 1 1 := nz_int (i := 1) (by decide) (by decide)
theorem nz_two : Nz H (.int 2) 2 2 := nz_int (i := 2) (by decide) (by decide)
theorem nz_neg1 : Nz H (.int (-1)) 1 (-1) := nz_int (i := -1) (by decide) (by decide)
theorem nz_half {p : Addr} (h : H p = some (.tup [.int 1, .int 2])) : Nz H (.ref p) 2 (Rat.divInt 1 2) := ⟨by decide, ⟨.tup [.int 1, .int 2], .tup h (.cons (.int 1) (.cons (.int 2) .nil)), by decide, rfl⟩, sz_low (by decide) (by decide) (by decide)⟩
theorem New.nz {H H1 : Hp} (h : New H H1 v (ofR x)) (m0 : 0 < m) (s : Sz m x) : Nz H1 v m x := h.is.nz m0 s
theorem New.pm {H H1 : Hp} (h : New H H1 v (Ty.pt x y)) (m0 : 0 < m) (s1 : Sz m x) (s2 : Sz m y) : Pm H1 v m x y := h.is.pm m0 s1 s2
theorem New.tup1' {p : Addr} {d : Da} (s : Same H H1) (hp : H1 p = none) (a : New H H1 v d) : New H (upd H1 p (.tup [v])) (.ref p) (.tup [d]) := fun S l =>
  .tup (mn_put (l.more s) hp) (.cons ((a S l).up (Same.less (Same.new hp))) .nil)
theorem New.tup2' {p : Addr} {d e : Da} (s : Same H H1) (hp : H1 p = none) (a : New H H1 v d) (b : New H H1 u e) : New H (upd H1 p (.tup [v, u])) (.ref p) (.tup [d, e]) := fun S l =>
  .tup (mn_put (l.more s) hp) (.cons ((a S l).up (Same.less (Same.new hp))) (.cons ((b S l).up (Same.less (Same.new hp))) .nil))
/-- an item of a point -/
theorem Pm.fst {K : PySem.W.Frag} (p : Pm H v m x y) (k : ∀ w, Nz H w m x → Q w H) : rIxL K v (.int 0) H Q ∨ rIxT K v (.int 0) H Q := by
  obtain ⟨m0, ⟨d, hd, pd⟩, s1, s2⟩ := p
  exact pd.fst hd fun w hw => k w ⟨m0, hw, s1⟩
theorem Pm.snd {K : PySem.W.Frag} (p : Pm H v m x y) (k : ∀ w, Nz H w m y → Q w H) : rIxL K v (.int 1) H Q ∨ rIxT K v (.int 1) H Q := by
  obtain ⟨m0, ⟨d, hd, pd⟩, s1, s2⟩ := p
  exact pd.snd hd fun w hw => k w ⟨m0, hw, s2⟩
/-! calls of the package's defs -/
theorem on_need {p : V} {C : Addr} {R : Hp → Prop} (h : Pm H v m x y) (k : ∀ H', Same H H' → R H') : ∃ v' p' d, [v, p] = [v', p'] ∧ Is H v' d ∧ (isPt d = true → ∀ H', Same H H' → R H') ∧ (isPt d = false → Out1 C "part" p' H E) := by
  obtain ⟨m0, ⟨d, hd, pd⟩, s1, s2⟩ := h
  exact ⟨v, p, d, rfl, hd, fun _ => k, fun z => by rw [pd.ok] at z; cases z⟩
theorem on_needS {p : V} {C : Addr} {R : Hp → Prop} (h : Nz H v m x) (b : m ≤ 8900) (p0 : 0 < x) (k : ∀ H', Same H H' → R H') : ∃ v' p' d, [v, p] = [v', p'] ∧ Is H v' d ∧ (isNum d = true → NB 8900 d) ∧ (posD d = true → ∀ H', Same H H' → R H') ∧ (posD d = false → Out1 C "part" p' H E) := by
  obtain ⟨m0, ⟨d, hd, nd, rfl⟩, s1⟩ := h
  exact ⟨v, p, d, rfl, hd, fun _ => Sz.nb nd (s1.more b), fun _ => k, fun z => by rw [posD_of nd p0] at z; cases z⟩
theorem on_way (hu : Pm H u m x y) (hv : Pm H v n z w) (b : m + n ≤ 8900) (k : ∀ r H', Same H H' → New H H' r (pt (z - x) (w - y)) → Pm H' r (m + n + 1) (z - x) (w - y) → Q r H') : spPP (fun x y z w => z - x) (fun x y z w => w - y) [u, v] H Q E0 := by
  obtain ⟨m0, ⟨d, hd, pd⟩, s1, s2⟩ := hu
  obtain ⟨n0, ⟨e, he, pe⟩, t1, t2⟩ := hv
  exact ⟨u, v, d, e, x, y, z, w, m, n, rfl, hd, he, pd, pe, ⟨m0, n0, by omega, s1, s2, t1, t2⟩, fun r H' s nw => k r H' s nw (nw.pm (by omega) ((t1.sub s1).more (by omega)) ((t2.sub s2).more (by omega)))⟩
theorem on_plus (hu : Pm H u m x y) (hv : Pm H v n z w) (b : m + n ≤ 8900) (k : ∀ r H', Same H H' → New H H' r (pt (x + z) (y + w)) → Pm H' r (m + n + 1) (x + z) (y + w) → Q r H') : spPP (fun x y z w => x + z) (fun x y z w => y + w) [u, v] H Q E0 := by
  obtain ⟨m0, ⟨d, hd, pd⟩, s1, s2⟩ := hu
  obtain ⟨n0, ⟨e, he, pe⟩, t1, t2⟩ := hv
  exact ⟨u, v, d, e, x, y, z, w, m, n, rfl, hd, he, pd, pe, ⟨m0, n0, by omega, s1, s2, t1, t2⟩, fun r H' s nw => k r H' s nw (nw.pm (by omega) (s1.add t1) (s2.add t2))⟩
theorem on_dot (hu : Pm H u m x y) (hv : Pm H v n z w) (b : 2 * (m + n) ≤ 8900) (k : ∀ r H', Same H H' → New H H' r (ofR (x * z + y * w)) → Nz H' r (2 * (m + n) + 1) (x * z + y * w) → Q r H') : spPN (fun x y z w => x * z + y * w) [u, v] H Q E0 := by
  obtain ⟨m0, ⟨d, hd, pd⟩, s1, s2⟩ := hu
  obtain ⟨n0, ⟨e, he, pe⟩, t1, t2⟩ := hv
  exact ⟨u, v, d, e, x, y, z, w, m, n, rfl, hd, he, pd, pe, ⟨m0, n0, by omega, s1, s2, t1, t2⟩, fun r H' s nw => k r H' s nw (nw.nz (by omega) (((s1.mul t1).add (s2.mul t2)).more (by omega)))⟩
theorem on_cross (hu : Pm H u m x y) (hv : Pm H v n z w) (b : 2 * (m + n) ≤ 8900) (k : ∀ r H', Same H H' → New H H' r (ofR (x * w - y * z)) → Nz H' r (2 * (m + n) + 1) (x * w - y * z) → Q r H') : spPN (fun x y z w => x * w - y * z) [u, v] H Q E0 := by
  obtain ⟨m0, ⟨d, hd, pd⟩, s1, s2⟩ := hu
  obtain ⟨n0, ⟨e, he, pe⟩, t1, t2⟩ := hv
  exact ⟨u, v, d, e, x, y, z, w, m, n, rfl, hd, he, pd, pe, ⟨m0, n0, by omega, s1, s2, t1, t2⟩, fun r H' s nw => k r H' s nw (nw.nz (by omega) (((s1.mul t2).sub (s2.mul t1)).more (by omega)))⟩
theorem on_far (hu : Pm H u m x y) (hv : Pm H v n z w) (b : 4 * (m + n + 1) ≤ 8900) (k : ∀ r H', Same H H' → New H H' r (ofR (far2 x y z w)) → Nz H' r (4 * (m + n + 1) + 1) (far2 x y z w) → Q r H') : spFar [u, v] H Q E0 := by
  obtain ⟨m0, ⟨d, hd, pd⟩, s1, s2⟩ := hu
  obtain ⟨n0, ⟨e, he, pe⟩, t1, t2⟩ := hv
  refine ⟨u, v, d, e, x, y, z, w, m, n, rfl, hd, he, pd, pe, ⟨m0, n0, by omega, s1, s2, t1, t2⟩, fun r H' s nw => k r H' s nw (nw.nz (by omega) ?_)⟩
  have a1 : Sz (m + n + 1) (z - x) := (t1.sub s1).more (by omega)
  have a2 : Sz (m + n + 1) (w - y) := (t2.sub s2).more (by omega)
  exact ((a1.mul a1).add (a2.mul a2)).more (by omega)
theorem on_goneon (hu : Pm H u m x y) (hv : Pm H v n z w) (ht : Nz H t l r) (b : 2 * m + n + l + 2 ≤ 8900) (k : ∀ q H', Same H H' → New H H' q (pt (x + r * (z - x)) (y + r * (w - y))) → Pm H' q (2 * m + n + l + 2) (x + r * (z - x)) (y + r * (w - y)) → Q q H') : spGoneOn [u, v, t] H Q E0 := by
  obtain ⟨m0, ⟨d, hd, pd⟩, s1, s2⟩ := hu
  obtain ⟨n0, ⟨e, he, pe⟩, t1, t2⟩ := hv
  obtain ⟨l0, ⟨f, hf, nf, rfl⟩, f1⟩ := ht
  exact ⟨u, v, t, d, e, f, x, y, z, w, m, n, l, rfl, hd, he, hf, pd, pe, nf, ⟨m0, n0, l0, b, s1, s2, t1, t2, f1⟩, fun q H' s nw => k q H' s nw (nw.pm (by omega) ((s1.add (f1.mul (t1.sub s1))).more (by omega)) ((s2.add (f1.mul (t2.sub s2))).more (by omega)))⟩
theorem on_goneR (hu : Pm H u m x y) (hv : Pm H v n z w) (ht : Nz H t l r) (b : m + n + l ≤ 8900) (k : ∀ q H', Same H H' → New H H' q (pt (x + r * z) (y + r * w)) → Pm H' q (m + n + l + 1) (x + r * z) (y + r * w) → Q q H') : spGoneR [u, v, t] H Q E0 := by
  obtain ⟨m0, ⟨d, hd, pd⟩, s1, s2⟩ := hu
  obtain ⟨n0, ⟨e, he, pe⟩, t1, t2⟩ := hv
  obtain ⟨l0, ⟨f, hf, nf, rfl⟩, f1⟩ := ht
  exact ⟨u, v, t, d, e, f, x, y, z, w, m, n, l, rfl, hd, he, hf, pd, pe, nf, ⟨m0, n0, l0, by omega, s1, s2, t1, t2, f1⟩, fun q H' s nw => k q H' s nw (nw.pm (by omega) ((s1.add (f1.mul t1)).more (by omega)) ((s2.add (f1.mul t2)).more (by omega)))⟩
theorem Nz.fit (hu : Nz H u m x) (hv : Nz H v n z) (b : m + n ≤ 8900) : FitQ x z := ⟨m, n, hu.1, hv.1, b, hu.2.2, hv.2.2⟩
theorem on_quotN (hu : Nz H u m x) (hv : Nz H v n z) (b : m + n ≤ 8900) (h0 : z ≠ 0) (k : ∀ w H', Same H H' → New H H' w (ofR (x / z)) → Nz H' w (m + n) (x / z) → Q w H') : spOn2 (fun _ e => above e ≠ 0) fQuot [u, v] H Q E0 :=
  on_quot hu.nm hv.nm (hu.fit hv b) h0 fun w H' s nw => k w H' s nw (nw.nz (by have := hu.1; omega) (hu.2.2.div hv.2.2 h0))
theorem on_prodN (hu : Nz H u m x) (hv : Nz H v n z) (b : m + n ≤ 8900) (k : ∀ w H', Same H H' → New H H' w (ofR (x * z)) → Nz H' w (m + n) (x * z) → Q w H') : spOn2 CT fProd [u, v] H Q E0 :=
  on_prod hu.nm hv.nm (hu.fit hv b) fun w H' s nw => k w H' s nw (nw.nz (by have := hu.1; omega) (hu.2.2.mul hv.2.2))
theorem on_lessN (hu : Nz H u m x) (hv : Nz H v n z) (b : m + n ≤ 8900) (k : ∀ H', Same H H' → Q (.bl (decide (x < z))) H') : spOn2 CT fLess [u, v] H Q E0 := on_less hu.nm hv.nm (hu.fit hv b) k
theorem on_left (hu : Is H u (pt x y)) (m0 : 0 < m) (b : m ≤ 8000) (s1 : Sz m x) (s2 : Sz m y) (k : ∀ r H', Same H H' → New H H' r (pt (-y) x) → Pm H' r m (-y) x → Q r H') : spPQ (fun x y => -y) (fun x y => x) [u] H Q E0 :=
  ⟨u, x, y, m, rfl, hu, ⟨m0, b, s1, s2⟩, fun r H' s nw => k r H' s nw (nw.pm m0 s2.neg s1)⟩
/-! calls of the law's own defs -/
theorem on_radd (hu : Nz H u m x) (hv : Nz H v n z) (b : m + n ≤ 8900) (k : ∀ w H', Same H H' → New H H' w (ofR (x + z)) → Nz H' w (m + n + 1) (x + z) → Q w H') : spRat2 (· + ·) [u, v] H Q E0 :=
  on_rat2 (f := (· + ·)) hu.nm hv.nm (hu.fit hv b) fun w H' s nw => k w H' s nw (nw.nz (by omega) (hu.2.2.add hv.2.2))
theorem on_rsub (hu : Nz H u m x) (hv : Nz H v n z) (b : m + n ≤ 8900) (k : ∀ w H', Same H H' → New H H' w (ofR (x - z)) → Nz H' w (m + n + 1) (x - z) → Q w H') : spRat2 (· - ·) [u, v] H Q E0 :=
  on_rat2 (f := (· - ·)) hu.nm hv.nm (hu.fit hv b) fun w H' s nw => k w H' s nw (nw.nz (by omega) (hu.2.2.sub hv.2.2))
theorem on_rmul (hu : Nz H u m x) (hv : Nz H v n z) (b : m + n ≤ 8900) (k : ∀ w H', Same H H' → New H H' w (ofR (x * z)) → Nz H' w (m + n) (x * z) → Q w H') : spRat2 (· * ·) [u, v] H Q E0 :=
  on_rat2 (f := (· * ·)) hu.nm hv.nm (hu.fit hv b) fun w H' s nw => k w H' s nw (nw.nz (by have := hu.1; omega) (hu.2.2.mul hv.2.2))
end
/-- one number divided by another one -/
def spPartR : Sp := fun vs H Q _ => ∃ u v d e, vs = [u, v] ∧ Is H u d ∧ Is H v e ∧ isNum d = true ∧ isNum e = true ∧ Fit d e ∧ rt e ≠ 0 ∧ ∀ w H', Same H H' → New H H' w (ofR (rt d / rt e)) → Q w H'
/-- a / b in its one form, b not 0 -/
def spFormR : Sp := fun vs H Q _ => ∃ a b : Int, vs = [.int a, .int b] ∧ b ≠ 0 ∧ b.natAbs < 2 ^ 8900 ∧ ∀ v H', Same H H' → New H H' v (ofR (Rat.divInt a b)) → Q v H'
theorem on_rpart {H : Hp} {Q : VK} {u v : V} {m n : Nat} {x z : Rat} (hu : Nz H u m x) (hv : Nz H v n z) (b : m + n ≤ 8900) (h0 : z ≠ 0) (k : ∀ w H', Same H H' → New H H' w (ofR (x / z)) → Nz H' w (m + n) (x / z) → Q w H') : spPartR [u, v] H Q E0 := by
  have f := hu.fit hv b
  obtain ⟨m0, ⟨d, hd, nd, rfl⟩, s1⟩ := hu
  obtain ⟨n0, ⟨e, he, ne, rfl⟩, s2⟩ := hv
  exact ⟨u, v, d, e, rfl, hd, he, nd, ne, f.fit nd ne, h0, fun w H' s nw => k w H' s nw (nw.nz (by omega) (s1.div s2 h0))⟩
/-- by the common divisor, whatever the sign below -/
theorem form_pos {a b : Int} (hb : b ≠ 0) : ((Nat.gcd a.natAbs b.natAbs : Nat) : Int) ≠ 0 ∧ ((Nat.gcd a.natAbs b.natAbs : Nat) : Int).natAbs ≤ b.natAbs ∧
    ((0 < b.fdiv ((Nat.gcd a.natAbs b.natAbs : Nat) : Int) ∧ frac (a.fdiv ((Nat.gcd a.natAbs b.natAbs : Nat) : Int)) (b.fdiv ((Nat.gcd a.natAbs b.natAbs : Nat) : Int)) = ofR (Rat.divInt a b)) ∨
     (b.fdiv ((Nat.gcd a.natAbs b.natAbs : Nat) : Int) < 0 ∧ frac (-(a.fdiv ((Nat.gcd a.natAbs b.natAbs : Nat) : Int))) (-(b.fdiv ((Nat.gcd a.natAbs b.natAbs : Nat) : Int))) = ofR (Rat.divInt a b))) := by
  have dv : ∀ (i : Int) (g : Int), g ≠ 0 → g ∣ i → (-i).fdiv g = -(i.fdiv g) := fun i g g0 ⟨k, hk⟩ => by
    rw [hk, ← Int.mul_neg, Int.mul_fdiv_cancel_left _ g0, Int.mul_fdiv_cancel_left _ g0]
  have ga : ((Nat.gcd a.natAbs b.natAbs : Nat) : Int) ∣ a := Int.ofNat_dvd_left.mpr (Nat.gcd_dvd_left _ _)
  have gb : ((Nat.gcd a.natAbs b.natAbs : Nat) : Int) ∣ b := Int.ofNat_dvd_left.mpr (Nat.gcd_dvd_right _ _)
  have gp : (0 : Int) < ((Nat.gcd a.natAbs b.natAbs : Nat) : Int) := by
    have := Nat.gcd_pos_of_pos_right a.natAbs (show 0 < b.natAbs by omega)
    omega
  by_cases h : 0 < b
  · obtain ⟨h1, h2, h3⟩ := low_pos (a := a) h
    refine ⟨h1, h2, .inl ⟨?_, h3⟩⟩
    obtain ⟨k, hk⟩ := gb
    generalize ((Nat.gcd a.natAbs b.natAbs : Nat) : Int) = g at *
    rw [hk, Int.mul_fdiv_cancel_left _ h1]
    rw [hk] at h
    exact Int.pos_of_mul_pos_right h (by omega)
  · have h' : 0 < -b := by omega
    obtain ⟨h1, h2, h3⟩ := low_pos (a := -a) h'
    rw [Int.natAbs_neg, Int.natAbs_neg] at h1 h2 h3
    rw [dv a _ h1 ga, dv b _ h1 gb, show Rat.divInt (-a) (-b) = Rat.divInt a b from Rat.neg_divInt_neg a b] at h3
    refine ⟨h1, h2, .inr ⟨?_, h3⟩⟩
    obtain ⟨k, hk⟩ := gb
    generalize ((Nat.gcd a.natAbs b.natAbs : Nat) : Int) = g at *
    rw [hk, Int.mul_fdiv_cancel_left _ h1]
    rw [hk, ← Int.mul_neg] at h'
    have := Int.pos_of_mul_pos_right h' (by omega)
    omega
/-! promises of frames -/
def spMirror : Sp := fun vs H Q _ => ∃ u v t x y a b c d m n, vs = [u, v, t] ∧ Pm H u m x y ∧ Pm H v n a b ∧ Pm H t n c d ∧ (a ≠ c ∨ b ≠ d) ∧ 4 * m + 17 * n + 16 ≤ 8900 ∧
  ∀ r H', Same H H' → New H H' r (pt (mir1 x y a b c d) (mir2 x y a b c d)) → Pm H' r (4 * m + 17 * n + 16) (mir1 x y a b c d) (mir2 x y a b c d) → Q r H'
def spPar : Sp := fun vs H Q _ => ∃ u v t o p a b c d n, vs = [u, v, t] ∧ Pm H u n o p ∧ Pm H v n a b ∧ Pm H t n c d ∧ 3 * n + 2 ≤ 8900 ∧
  ∀ r H', Same H H' → New H H' r (pt (a + (c - o)) (b + (d - p))) → Pm H' r (3 * n + 2) (a + (c - o)) (b + (d - p)) → Q r H'
def spFlat : Sp := fun vs H Q _ => ∃ u v t o p a b c d n, vs = [u, v, t] ∧ Pm H u n o p ∧ Pm H v n a b ∧ Pm H t n c d ∧ (o ≠ c ∨ p ≠ d) ∧ 8 * n + 5 ≤ 8000 ∧
  ∀ H', Same H H' → Q (.bl (decide (flatQ o p a b c d = 0))) H'
/-- the corners -/
def crn (o p a b c d : Rat) : Da := if decide (flatQ o p a b c d = 0) = true then .tup [pt (a + (c - o)) (b + (d - p))] else
  .tup [pt (a + (c - o)) (b + (d - p)), pt (mir1 (a + (c - o)) (b + (d - p)) a b c d) (mir2 (a + (c - o)) (b + (d - p)) a b c d)]
def spCorners : Sp := fun vs H Q _ => ∃ us ut u v w s t o p a b c d n, vs = [us, ut, u, v, w] ∧ Nz H us n s ∧ Nz H ut n t ∧ Pm H u n o p ∧ Pm H v n a b ∧ Pm H w n c d ∧ Frame s t o p a b c d ∧ 29 * n + 24 ≤ 8900 ∧
  ∀ r H', Same H H' → New H H' r (crn o p a b c d) → Q r H'
/-- whether one point is told to be another one mirrored -/
def spIsMir : Sp := fun vs H Q _ => ∃ u q v t x y a b c d m l n, vs = [u, q, v, t] ∧ Pm H u m x y ∧ Pm H q l (mir1 x y a b c d) (mir2 x y a b c d) ∧ Pm H v n a b ∧ Pm H t n c d ∧ (a ≠ c ∨ b ≠ d) ∧ 6 * n + 4 * m + 2 * l + 13 ≤ 8900 ∧
  ∀ H', Same H H' → Q (.bl true) H'
/-! ### drawing -/
def spDraw (c : Nat) (P : Da → Prop) : Sp := fun vs H Q _ => ∃ (S : Addr → Bool) (j bk : Addr) (n : Nat), vs = [.ref j] ∧ S j = true ∧ Live S H ∧ Jar j bk H n ∧ n + c ≤ 100000 ∧
  ∀ v d H', Keep j H H' → Live S H' → Jar j bk H' (n + c) → Is (mn S H') v d → P d → Q v H'
/-- a point with lists or without -/
def spListed : Sp := fun vs H Q _ => ∃ (S : Addr → Bool) (j bk : Addr) (n : Nat) (v : V) (x y : Rat), vs = [.ref j, v] ∧ S j = true ∧ Live S H ∧ Jar j bk H n ∧ n + 1 ≤ 100000 ∧ Is (mn S H) v (pt x y) ∧
  ∀ w f H', Keep j H H' → Live S H' → Jar j bk H' (n + 1) → Is (mn S H') w f → Pt f x y → Q w H'
section
variable {S : Addr → Bool} {j bk : Addr} {H0 H : Hp} {c c1 c2 n : Nat} {σ : L2.St} {te ta tb : TE}
theorem dr_formR {Pa Pb : Int → Prop} (ha : Dr S j bk H0 c1 σ ta (fun d => ∃ i, d = .int i ∧ Pa i)) (hb : Dr S j bk H0 c2 σ tb (fun d => ∃ i, d = .int i ∧ Pb i)) (hp : ∀ b, Pb b → b ≠ 0 ∧ b.natAbs < 2 ^ 8900) :
    Dr S j bk H0 (c1 + c2) σ (tCall spFormR [] E0 (tCons ta (tCons tb tNil))) (fun d => ∃ a b, Pa a ∧ Pb b ∧ d = ofR (Rat.divInt a b)) := fun H n Q kp lv J hn k =>
  ha H n _ kp lv J (by omega) fun v d H1 k1 l1 J1 h1 p1 => hb H1 (n + c1) _ (kp.trans k1) l1 J1 (by omega) fun u e H2 k2 l2 J2 h2 p2 => by
    obtain ⟨a, rfl, pa⟩ := p1
    obtain ⟨b, rfl, pb⟩ := p2
    cases h1
    cases h2
    exact ⟨a, b, rfl, (hp b pb).1, (hp b pb).2, fun w H3 s3 n3 => k w _ H3 ((k1.trans k2).trans (Same.keep s3)) (l2.more s3) ((by rwa [Nat.add_assoc] at J2 : Jar j bk H2 (n + (c1 + c2))).up s3) (n3 S l2) ⟨a, b, pa, pb, rfl⟩⟩
theorem dr_draw {i : Nat} {P : Da → Prop} (hS : S j = true) (h : σ[i]? = some (some (.ref j))) : Dr S j bk H0 c σ (tCall (spDraw c P) [] E0 (tCons (tVar i) tNil)) P := fun H n Q kp lv J hn k =>
  ⟨_, h, S, j, bk, n, rfl, hS, lv, J, hn, k⟩
theorem dr_listed {i l : Nat} {v : V} {x y : Rat} (hS : S j = true) (h : σ[i]? = some (some (.ref j))) (h2 : σ[l]? = some (some v)) (hv : Is (mn S H0) v (pt x y)) : Dr S j bk H0 1 σ (tCall spListed [] E0 (tCons (tVar i) (tCons (tVar l) tNil))) (fun f => Pt f x y) := fun H n Q kp lv J hn k =>
  ⟨_, h, _, h2, S, j, bk, n, v, x, y, rfl, hS, lv, J, hn, hv.up (kp.less hS), k⟩
/-- what does not draw -/
theorem dr_of {d : Da} (h : ∀ H Q, Keep j H0 H → Live S H → (∀ w H', Same H H' → New H H' w d → Q w H') → te σ H Q) : Dr S j bk H0 0 σ te (· = d) := fun H n Q kp lv J hn k =>
  h H Q kp lv fun w H' s nw => k w d H' (Same.keep s) (lv.more s) (J.up s) (nw S lv) rfl
end
/-- what is drawn -/
def numP (d : Da) : Prop := ∃ q, d = ofR q ∧ Sz 3 q
def turnP (d : Da) : Prop := ∃ c s, d = pt c s ∧ c * c + s * s = 1 ∧ Sz 16 c ∧ Sz 16 s
def pointP (d : Da) : Prop := ∃ x y, d = pt x y ∧ Sz 3 x ∧ Sz 3 y
def openP (d : Da) : Prop := ∃ s t o p a b c e, d = .tup [ofR s, ofR t, pt o p, pt a b, pt c e] ∧ Frame s t o p a b c e ∧ (Sz 28 s ∧ Sz 28 t ∧ Sz 28 o ∧ Sz 28 p ∧ Sz 28 a ∧ Sz 28 b ∧ Sz 28 c ∧ Sz 28 e)
theorem pt_ints {a b : Int} : Da.tup [.int a, .int b] = pt (a : Rat) (b : Rat) := by
  unfold pt
  rw [ofR_int, ofR_int]
/-- a point told by lists or tuples: its two numbers -/
def ptOf (d : Da) : Rat × Rat := (rt ((items d).getD 0 .non), rt ((items d).getD 1 .non))
theorem Pt.of {d : Da} {x y : Rat} (h : Pt d x y) : ptOf d = (x, y) := by
  obtain ⟨s, a, b, e, h1, h2, h3, h4⟩ := h
  unfold ptOf
  rw [e]
  show (rt a, rt b) = (x, y)
  rw [h3, h4]
theorem Pt.at {d : Da} (h : isPt d = true) : Pt d (ptOf d).1 (ptOf d).2 := by
  have h' : (isS d && isTwo (items d)) = true := h
  rw [Bool.and_eq_true] at h'
  obtain ⟨a, b, e, ha, hb⟩ : ∃ a b, items d = [a, b] ∧ isNum a = true ∧ isNum b = true := by
    generalize items d = l at h'
    match l, h'.2 with
    | [a, b], z =>
      have z' : (isNum a && isNum b) = true := z
      rw [Bool.and_eq_true] at z'
      exact ⟨a, b, rfl, z'.1, z'.2⟩
  refine ⟨h'.1, a, b, e, ha, hb, ?_, ?_⟩
  · unfold ptOf; rw [e]; rfl
  · unfold ptOf; rw [e]; rfl
/-- points can be shown -/
theorem pt_show {d : Da} {x y : Rat} (h : Pt d x y) (s1 : Sz 1900 x) (s2 : Sz 1900 y) : nums d = true ∧ dp d ≤ 2 ∧ wt d ≤ 8014 := by
  obtain ⟨s, a, b, e, h1, h2, h3, h4⟩ := h
  have hn : ∀ e ∈ items d, isNum e = true := fun f hf => by
    rw [e] at hf
    rcases List.mem_cons.mp hf with rfl | hf
    · exact h1
    · rw [List.mem_singleton.mp hf]; exact h2
  have hb : ∀ e ∈ items d, NB 1900 e := fun f hf => by
    rw [e] at hf
    rcases List.mem_cons.mp hf with rfl | hf
    · exact Sz.nb h1 (h3 ▸ s1)
    · rw [List.mem_singleton.mp hf]; exact Sz.nb h2 (h4 ▸ s2)
  obtain ⟨a1, a2, a3⟩ := row_show s hn hb
  rw [e] at a3
  exact ⟨a1, a2, a3⟩
theorem pt_okr {d : Da} {x y : Rat} (h : Pt d x y) (s1 : Sz 1900 x) (s2 : Sz 1900 y) : okr d = true := by
  obtain ⟨h1, h2, h3⟩ := pt_show h s1 s2
  unfold okr
  rw [h1, decide_eq_true (by omega : dp d ≤ 60), decide_eq_true (by omega : wt d ≤ 16000000)]
  rfl
theorem pts_okr {d e f : Da} {x y z w u v : Rat} (h : Pt d x y) (s1 : Sz 1900 x) (s2 : Sz 1900 y) (h' : Pt e z w) (t1 : Sz 1900 z) (t2 : Sz 1900 w) (h'' : Pt f u v) (r1 : Sz 1900 u) (r2 : Sz 1900 v) : okr (.lst [d, e, f]) = true := by
  obtain ⟨a1, a2, a3⟩ := pt_show h s1 s2
  obtain ⟨b1, b2, b3⟩ := pt_show h' t1 t2
  obtain ⟨c1, c2, c3⟩ := pt_show h'' r1 r2
  have e1 : nums (.lst [d, e, f]) = true := by
    show (nums d && (nums e && (nums f && true))) = true
    rw [a1, b1, c1]
    rfl
  have e2 : dp (.lst [d, e, f]) ≤ 60 := by
    show max (dp d) (max (dp e) (max (dp f) 0)) + 1 ≤ 60
    omega
  have e3 : wt (.lst [d, e, f]) ≤ 16000000 := by
    show wt d + 2 + (wt e + 2 + (wt f + 2 + 0)) + 10 ≤ 16000000
    omega
  unfold okr
  rw [e1, decide_eq_true e2, decide_eq_true e3]
  rfl
theorem told_okr {d : Da} {x y : Rat} {i : Int} {b b' : Bool} (h : Pt d x y) (s1 : Sz 1900 x) (s2 : Sz 1900 y) (hi : i.natAbs < 2 ^ 1900) : okr (.lst [d, .int i, .bl b, .bl b']) = true := by
  obtain ⟨a1, a2, a3⟩ := pt_show h s1 s2
  obtain ⟨b1, b2, b3⟩ := num_show (d := .int i) rfl ⟨hi, by show (1 : Int).natAbs < 2 ^ 1900; exact Nat.one_lt_two_pow (by decide)⟩
  have e1 : nums (.lst [d, .int i, .bl b, .bl b']) = true := by
    show (nums d && (nums (.int i) && true)) = true
    rw [a1, b1]
    rfl
  have e2 : dp (.lst [d, .int i, .bl b, .bl b']) ≤ 60 := by
    show max (dp d) (max (dp (.int i)) (max 0 (max 0 0))) + 1 ≤ 60
    omega
  have e3 : wt (.lst [d, .int i, .bl b, .bl b']) ≤ 16000000 := by
    show wt d + 2 + (wt (.int i) + 2 + (10 + 2 + (10 + 2 + 0))) + 10 ≤ 16000000
    omega
  unfold okr
  rw [e1, decide_eq_true e2, decide_eq_true e3]
  rfl
/-! what is compared, in parts -/
section
variable {K : PySem.W.Frag} {H : Hp} {u v : V} {d e : Da} {x y z w : Rat}
theorem eq_num (hu : Is H u (ofR x)) (hv : Is H v (ofR z)) : ∃ d e, Dp K H u d ∧ Dp K H v e ∧ SeqAt.shaped d = true ∧ SeqAt.shaped e = true ∧ PyData.eqv d e = decide (x = z) := by
  obtain ⟨a1, a2⟩ := plain_num (ofR_num x)
  obtain ⟨b1, b2⟩ := plain_num (ofR_num z)
  exact ⟨_, _, Is.dpP _ u hu a1, Is.dpP _ v hv b1, shaped_plain a1 (by omega), shaped_plain b1 (by omega), eqv_ofR⟩
theorem eq_pnt (hu : Is H u (pt x y)) (hv : Is H v (pt z w)) : ∃ d e, Dp K H u d ∧ Dp K H v e ∧ SeqAt.shaped d = true ∧ SeqAt.shaped e = true ∧ PyData.eqv d e = decide (x = z ∧ y = w) := by
  obtain ⟨a1, a2⟩ := plain_pt (x := x) (y := y)
  obtain ⟨b1, b2⟩ := plain_pt (x := z) (y := w)
  exact ⟨_, _, Is.dpP _ u hu a1, Is.dpP _ v hv b1, shaped_plain a1 (by omega), shaped_plain b1 (by omega), eqv_pt⟩
theorem eq_same (hu : Is H u d) (hv : Is H v d) (h1 : plain d = true) (l1 : dp d ≤ 60) : ∃ d e, Dp K H u d ∧ Dp K H v e ∧ SeqAt.shaped d = true ∧ SeqAt.shaped e = true ∧ PyData.eqv d e = true :=
  ⟨_, _, Is.dpP _ u hu h1, Is.dpP _ v hv h1, shaped_plain h1 l1, shaped_plain h1 l1, (eqv_refl _ h1).1⟩
end
theorem plain_crn {o p a b c d : Rat} : plain (crn o p a b c d) = true ∧ dp (crn o p a b c d) ≤ 60 := by
  obtain ⟨a1, a2⟩ := plain_pt (x := a + (c - o)) (y := b + (d - p))
  obtain ⟨b1, b2⟩ := plain_pt (x := mir1 (a + (c - o)) (b + (d - p)) a b c d) (y := mir2 (a + (c - o)) (b + (d - p)) a b c d)
  unfold crn
  generalize pt (a + (c - o)) (b + (d - p)) = f at *
  generalize pt (mir1 (a + (c - o)) (b + (d - p)) a b c d) (mir2 (a + (c - o)) (b + (d - p)) a b c d) = g at *
  split
  · exact ⟨by show (plain f && true) = true; rw [a1]; rfl, by show max (dp f) 0 + 1 ≤ 60; omega⟩
  · exact ⟨by show (plain f && (plain g && true)) = true; rw [a1, b1]; rfl, by show max (dp f) (max (dp g) 0) + 1 ≤ 60; omega⟩
/-! a point's numbers as lists -/
def lsd : Da → Da
  | .tup l => .lst l
  | d => d
theorem lsd_num {q : Rat} : isNum (lsd (ofR q)) = true ∧ rt (lsd (ofR q)) = q := by
  have h := ofR_num q
  have r := rt_ofR q
  unfold ofR frac at h r ⊢
  split at h <;> split at r <;> first | (rename_i h1 h2; exact absurd h1 h2) | (rename_i h1 h2; exact absurd h2 h1) | skip
  · rename_i h1 h2
    rw [if_pos h1]
    exact ⟨h, r⟩
  · rename_i h1 h2
    rw [if_neg h1]
    exact ⟨h, r⟩
theorem pt_lsd {x y : Rat} : Pt (.lst ((List.range 2).map fun m => lsd ([ofR x, ofR y].getD m .non))) x y :=
  ⟨rfl, _, _, rfl, (lsd_num (q := x)).1, (lsd_num (q := y)).1, (lsd_num (q := x)).2, (lsd_num (q := y)).2⟩
/-- list(x), told without the place where it is called -/
def rListOf (K : PySem.W.Frag) : List V → Hp → VK → Prop := fun xs H Q => ∃ p ys, xs = [.ref p] ∧ (SqL K H p ys ∨ SqT K H p ys) ∧ ∀ l, H l = none → Q (.ref l) (upd H l (.lst ys))
theorem call_list_ofK {X : Cx} {K : PySem.W.Frag} (h : X.K = K) : CallR X (.type "list") (rListOf K) := by
  subst h
  exact call_list_of
/-! what corners are made of -/
theorem sz_mir {m n : Nat} {x y a b c d : Rat} (zx : Sz m x) (zy : Sz m y) (za : Sz n a) (zb : Sz n b) (zc : Sz n c) (zd : Sz n d) (ne : a ≠ c ∨ b ≠ d) : Sz (4 * m + 17 * n + 16) (mir1 x y a b c d) ∧ Sz (4 * m + 17 * n + 16) (mir2 x y a b c d) := by
  have a1 : Sz (m + n + 1) (x - a) := zx.sub za
  have b1 : Sz (m + n + 1) (y - b) := zy.sub zb
  have a2 : Sz (2 * n + 1) (c - a) := (zc.sub za).more (by omega)
  have b2 : Sz (2 * n + 1) (d - b) := (zd.sub zb).more (by omega)
  have num := (a1.mul a2).add (b1.mul b2)
  have den : Sz _ (far2 a b c d) := (a2.mul a2).add (b2.mul b2)
  have l : Sz (2 * m + 14 * n + 10) (shr a b c d x y) := (num.div den (far2_ne ne)).more (by omega)
  have two : Sz 2 (2 : Rat) := sz_int (i := 2) (by decide) (by decide)
  exact ⟨(zx.add (two.mul ((za.add (l.mul a2)).sub zx))).more (by omega), (zy.add (two.mul ((zb.add (l.mul b2)).sub zy))).more (by omega)⟩
section
variable {H : Hp} {v : V} {s t o p a b c d : Rat} {n : Nat}
theorem crn_tup : ∃ l, crn o p a b c d = .tup l := by
  unfold crn
  split
  · exact ⟨_, rfl⟩
  · exact ⟨_, rfl⟩
theorem crn_parts (h : Is H v (crn o p a b c d)) (fr : Frame s t o p a b c d) (n0 : 0 < n) (zo : Sz n o) (zp : Sz n p) (za : Sz n a) (zb : Sz n b) (zc : Sz n c) (zd : Sz n d) :
    ∃ (q : Addr) (ws : List V) (w1 : V), v = .ref q ∧ H q = some (.tup ws) ∧ ws[0]? = some w1 ∧ Is H w1 (pt (a + (c - o)) (b + (d - p))) ∧ (ws.length : Int) = 2 - (if decide (flatQ o p a b c d = 0) = true then 1 else 0) ∧
      (∀ (i : Nat) x, ws[i]? = some x → ∃ X Y, Pm H x (29 * n + 24) X Y ∧ far2 X Y c d = s * s ∧ far2 X Y a b = t * t) ∧
      (decide (flatQ o p a b c d = 0) = false → ∃ w2, ws[1]? = some w2 ∧ Is H w2 (pt (mir1 (a + (c - o)) (b + (d - p)) a b c d) (mir2 (a + (c - o)) (b + (d - p)) a b c d))) := by
  have z1 : Sz (3 * n + 2) (a + (c - o)) := (za.add (zc.sub zo)).more (by omega)
  have z2 : Sz (3 * n + 2) (b + (d - p)) := (zb.add (zd.sub zp)).more (by omega)
  obtain ⟨m1, m2⟩ := sz_mir z1 z2 za zb zc zd fr.apart
  have m1' : Sz (29 * n + 24) (mir1 (a + (c - o)) (b + (d - p)) a b c d) := m1.more (by omega)
  have m2' : Sz (29 * n + 24) (mir2 (a + (c - o)) (b + (d - p)) a b c d) := m2.more (by omega)
  have f1 := fr.par1
  have f2 := fr.par2
  have g1 := (mir_far2 (x := a + (c - o)) (y := b + (d - p)) fr.apart).trans f1
  have g2 := (mir_far1 (x := a + (c - o)) (y := b + (d - p)) fr.apart).trans f2
  unfold crn at h
  cases fl : decide (flatQ o p a b c d = 0) with
  | true =>
    rw [fl, if_pos rfl] at h
    cases h with
    | @tup q xs _ e hx =>
      cases hx with
      | @cons w1 _ _ _ h1 hx =>
        cases hx
        refine ⟨q, _, w1, rfl, e, rfl, h1, rfl, fun i x hi => ?_, fun z => by cases z⟩
        match i, hi with
        | 0, hi => cases hi; exact ⟨_, _, h1.pm (by omega) (z1.more (by omega)) (z2.more (by omega)), f1, f2⟩
  | false =>
    rw [fl, if_neg Bool.false_ne_true] at h
    cases h with
    | @tup q xs _ e hx =>
      cases hx with
      | @cons w1 _ _ _ h1 hx =>
        cases hx with
        | @cons w2 _ _ _ h2 hx =>
          cases hx
          refine ⟨q, _, w1, rfl, e, rfl, h1, rfl, fun i x hi => ?_, fun _ => ⟨w2, rfl, h2⟩⟩
          match i, hi with
          | 0, hi => cases hi; exact ⟨_, _, h1.pm (by omega) (z1.more (by omega)) (z2.more (by omega)), f1, f2⟩
          | 1, hi => cases hi; exact ⟨_, _, h2.pm (by omega) m1' m2', g1, g2⟩
end
end Ty

namespace Ty
open PySem PySem.Spec PyProof.Rows L2
/-! ### numbers that the top has written -/
/-- at a the top has written the pair i, j -/
def KTup (K : PySem.W.Frag) (a : Addr) (i j : Int) : Prop := ∃ (o : Obj) (its : Array Value) (n : Nat), K.lookup a = some o ∧ o.cls = .type "tuple" ∧ o.data = .seq its n ∧ its.size ≤ sizeLine ∧ Vals [.int i, .int j] its.toList
theorem ktup_of {K : PySem.W.Frag} {a : Addr} {i j : Int} {od : Option Addr} {t1 t2 : Tok} {n : Nat} {sl : Array (Option Value)} (h : K.lookup a = some ⟨.type "tuple", od, .seq #[.int i t1, .int j t2] n, sl⟩) : KTup K a i j :=
  ⟨_, _, _, h, rfl, rfl, by show 2 ≤ sizeLine; decide, .cons ⟨t1, rfl⟩ (.cons ⟨t2, rfl⟩ .nil)⟩
theorem KTup.sq {K : PySem.W.Frag} {a : Addr} {i j : Int} {H : Hp} (h : KTup K a i j) : SqT K H a [.int i, .int j] := by
  obtain ⟨o, its, n, h1, h2, h3, h4, h5⟩ := h
  exact .inr ⟨o, its, n, h1, h2, h3, h4, h5⟩
/-- v is d, made by the program or written by the top -/
def IsK (K : PySem.W.Frag) (H : Hp) (v : V) (d : Da) : Prop := Is H v d ∨ ∃ a i j, v = .ref a ∧ KTup K a i j ∧ d = .tup [.int i, .int j]
theorem IsK.up {K : PySem.W.Frag} {H H' : Hp} {v : V} {d : Da} (h : IsK K H v d) (s : Same H H') : IsK K H' v d := h.imp (fun h => h.up s) id
theorem call_isiIntK {X : Cx} {K : PySem.W.Frag} (hK : X.K = K) : CallR X (.builtin "isinstance") (fun xs H Q => ∃ x d, xs = [x, .ty "int"] ∧ IsK K H x d ∧ Q (.bl (isI d)) H) := by
  subst hK
  intro pins s σ H xs us Q I r h
  obtain ⟨x, d, rfl, h, q⟩ := h
  rcases h with h | ⟨a, i, j, rfl, ⟨o, its, n, h1, h2, h3, h4, h5⟩, rfl⟩
  · exact call_isi pins s σ H _ us Q I r (isi_int h q)
  · exact call_isi pins s σ H _ us Q I r ⟨.ref a, .ty "int", _, _, _, rfl, .ty "int", .kTuple h1 h2, kit_ty (kit_int (.tup [.int i, .int j])), q⟩
/-- a number made by the program or written by the top -/
theorem numK_cases {K : PySem.W.Frag} {H : Hp} {v : V} {d : Da} (h : IsK K H v d) (hn : isNum d = true) :
    (∃ i, v = .int i ∧ d = .int i) ∨ (∃ a i j, v = .ref a ∧ (SqT K H a [.int i, .int j] ∧ d = .tup [.int i, .int j] ∨ SqL K H a [.int i, .int j] ∧ d = .lst [.int i, .int j])) := by
  rcases h with h | ⟨a, i, j, rfl, h, rfl⟩
  · rcases num_cases h hn with ⟨i, rfl, rfl⟩ | ⟨a, i, j, rfl, ⟨ha, rfl⟩ | ⟨ha, rfl⟩, _, _⟩
    · exact .inl ⟨i, rfl, rfl⟩
    · exact .inr ⟨a, i, j, rfl, .inl ⟨.inl (.inl ha), rfl⟩⟩
    · exact .inr ⟨a, i, j, rfl, .inr ⟨.inl (.inl ha), rfl⟩⟩
  · exact .inr ⟨a, i, j, rfl, .inl ⟨h.sq, rfl⟩⟩
def spHalvesK (K : PySem.W.Frag) : Sp := fun vs H Q _ => ∃ v d, vs = [v] ∧ IsK K H v d ∧ isNum d = true ∧ ∀ H' p, Same H H' → H' p = some (.tup [.int (above d), .int (below d)]) → Q (.ref p) H'
/-- two numbers, the first one maybe written by the top -/
def spOnK (K : PySem.W.Frag) (C : Da → Da → Prop) (F : Da → Da → Da → Prop) : Sp := fun vs H Q _ => ∃ u v d e, vs = [u, v] ∧ IsK K H u d ∧ Is H v e ∧ isNum d = true ∧ isNum e = true ∧ Fit d e ∧ C d e ∧ ∀ w r H', Same H H' → New H H' w r → F d e r → Q w H'
def spPTimesK (K : PySem.W.Frag) : Sp := fun vs H Q _ => ∃ u v d e x y m n, vs = [u, v] ∧ Is H u d ∧ IsK K H v e ∧ Pt d x y ∧ isNum e = true ∧ (0 < m ∧ 0 < n ∧ m + n ≤ 8900 ∧ Sz m x ∧ Sz m y ∧ Sz n (rt e)) ∧
  ∀ r H', Same H H' → New H H' r (pt (rt e * x) (rt e * y)) → Q r H'
def spGoneOnK (K : PySem.W.Frag) : Sp := fun vs H Q _ => ∃ u v t d e f x y z w m n l, vs = [u, v, t] ∧ Is H u d ∧ Is H v e ∧ IsK K H t f ∧ Pt d x y ∧ Pt e z w ∧ isNum f = true ∧ (0 < m ∧ 0 < n ∧ 0 < l ∧ 2 * m + n + l + 2 ≤ 8900 ∧ Sz m x ∧ Sz m y ∧ Sz n z ∧ Sz n w ∧ Sz l (rt f)) ∧
  ∀ r H', Same H H' → New H H' r (pt (x + rt f * (z - x)) (y + rt f * (w - y))) → Q r H'
/-- v is the number x, of m bits, made or written -/
def NzK (K : PySem.W.Frag) (H : Hp) (v : V) (m : Nat) (x : Rat) : Prop := 0 < m ∧ (∃ d, IsK K H v d ∧ isNum d = true ∧ rt d = x) ∧ Sz m x
section
variable {K : PySem.W.Frag} {H H' H1 : Hp} {Q : VK} {u v t q : V} {m n l : Nat} {x y z w r : Rat}
theorem NzK.up (h : NzK K H v m x) (s : Same H H') : NzK K H' v m x := by
  obtain ⟨h1, ⟨d, h2, h3, h4⟩, h5⟩ := h
  exact ⟨h1, ⟨d, h2.up s, h3, h4⟩, h5⟩
theorem Nz.k (h : Nz H v m x) : NzK K H v m x := by
  obtain ⟨h1, ⟨d, h2, h3, h4⟩, h5⟩ := h
  exact ⟨h1, ⟨d, .inl h2, h3, h4⟩, h5⟩
theorem nzK_half {a : Addr} (h : KTup K a 1 2) : NzK K H (.ref a) 2 (Rat.divInt 1 2) := ⟨by decide, ⟨.tup [.int 1, .int 2], .inr ⟨a, 1, 2, rfl, h, rfl⟩, by decide, rfl⟩, sz_low (by decide) (by decide) (by decide)⟩
theorem nzK_quarter {a : Addr} (h : KTup K a 1 4) : NzK K H (.ref a) 3 (Rat.divInt 1 4) := ⟨by decide, ⟨.tup [.int 1, .int 4], .inr ⟨a, 1, 4, rfl, h, rfl⟩, by decide, rfl⟩, sz_low (by decide) (by decide) (by decide)⟩
theorem on_prodK (hu : NzK K H u m x) (hv : Nz H v n z) (b : m + n ≤ 8900) (k : ∀ w H', Same H H' → New H H' w (ofR (x * z)) → Nz H' w (m + n) (x * z) → Q w H') : spOnK K CT fProd [u, v] H Q E0 := by
  obtain ⟨m0, ⟨d, hd, nd, rfl⟩, s1⟩ := hu
  obtain ⟨n0, ⟨e, he, ne, rfl⟩, s2⟩ := hv
  refine ⟨u, v, d, e, rfl, hd, he, nd, ne, (FitQ.fit ⟨m, n, m0, n0, b, s1, s2⟩ nd ne), trivial, fun w r H' s nw l => ?_⟩
  have nw' := fProd_rt nd ne l ▸ nw
  exact k w H' s nw' (nw'.nz (by omega) (s1.mul s2))
theorem on_goneonK (hu : Pm H u m x y) (hv : Pm H v n z w) (ht : NzK K H t l r) (b : 2 * m + n + l + 2 ≤ 8900) (k : ∀ q H', Same H H' → New H H' q (pt (x + r * (z - x)) (y + r * (w - y))) → Pm H' q (2 * m + n + l + 2) (x + r * (z - x)) (y + r * (w - y)) → Q q H') : spGoneOnK K [u, v, t] H Q E0 := by
  obtain ⟨m0, ⟨d, hd, pd⟩, s1, s2⟩ := hu
  obtain ⟨n0, ⟨e, he, pe⟩, t1, t2⟩ := hv
  obtain ⟨l0, ⟨f, hf, nf, rfl⟩, f1⟩ := ht
  exact ⟨u, v, t, d, e, f, x, y, z, w, m, n, l, rfl, hd, he, hf, pd, pe, nf, ⟨m0, n0, l0, b, s1, s2, t1, t2, f1⟩, fun q H' s nw => k q H' s nw (nw.pm (by omega) ((s1.add (f1.mul (t1.sub s1))).more (by omega)) ((s2.add (f1.mul (t2.sub s2))).more (by omega)))⟩
end
def NmK (K : PySem.W.Frag) (H : Hp) (v : V) (x : Rat) : Prop := ∃ d, IsK K H v d ∧ isNum d = true ∧ rt d = x
section
variable {K : PySem.W.Frag} {H H' : Hp} {Q : VK} {u v : V} {x z : Rat}
theorem NmK.up (h : NmK K H v x) (s : Same H H') : NmK K H' v x := by
  obtain ⟨d, h1, h2, h3⟩ := h
  exact ⟨d, h1.up s, h2, h3⟩
theorem Nm.k (h : Nm H v x) : NmK K H v x := by
  obtain ⟨d, h1, h2, h3⟩ := h
  exact ⟨d, .inl h1, h2, h3⟩
theorem on_prodM (hu : NmK K H u x) (hv : Nm H v z) (f : FitQ x z) (k : ∀ w H', Same H H' → New H H' w (ofR (x * z)) → Q w H') : spOnK K CT fProd [u, v] H Q E0 := by
  obtain ⟨d, hu, h1, rfl⟩ := hu
  obtain ⟨e, hv, h2, rfl⟩ := hv
  exact ⟨u, v, d, e, rfl, hu, hv, h1, h2, f.fit h1 h2, trivial, fun w r H' s n l => k w H' s (fProd_rt h1 h2 l ▸ n)⟩
end
end Ty

namespace Ty
open PySem PySem.Spec PyProof.Rows L2
/-! ### midpoints -/
def hf (x z : Rat) : Rat := (x + z) / 2
theorem hf_eq {x z : Rat} : x + Rat.divInt 1 2 * (z - x) = hf x z := by
  have h2 : Rat.divInt 1 2 = 1 / 2 := by rw [Rat.divInt_eq_div]; rfl
  rw [h2]
  unfold hf
  grind
theorem quarter_eq {x : Rat} : Rat.divInt 1 4 * x = x / 4 := by
  have h2 : Rat.divInt 1 4 = 1 / 4 := by rw [Rat.divInt_eq_div]; rfl
  rw [h2]
  grind
def wd (o p a b x y c d : Rat) : Rat := far2 (hf o a) (hf p b) (hf x c) (hf y d) / 4
def hg (o p a b x y c d : Rat) : Rat := far2 (hf a x) (hf b y) (hf c o) (hf d p) / 4
section
variable {s t o p a b c d x y : Rat}
theorem half_half : hf (hf o a) (hf x c) = hf (hf a x) (hf c o) := by unfold hf; grind
theorem wd_hg (fr : Frame s t o p a b c d) (h1 : far2 x y c d = s * s) (h2 : far2 x y a b = t * t) : wd o p a b x y c d - hg o p a b x y c d = (t * t - s * s) / 4 := by
  have e1 := fr.one
  have e2 := fr.other
  unfold far2 at h1 h2 e1 e2
  unfold wd hg hf far2
  grind
/-- the cross product of both rows of midpoints -/
def crs (o p a b x y c d : Rat) : Rat := (hf x c - hf o a) * (hf d p - hf b y) - (hf y d - hf p b) * (hf c o - hf a x)
theorem crs_par : crs o p a b (a + (c - o)) (b + (d - p)) c d = - flatQ o p a b c d := by unfold crs hf flatQ; grind
theorem wd_par (fr : Frame s t o p a b c d) : wd o p a b (a + (c - o)) (b + (d - p)) c d = t * t / 4 ∧ hg o p a b (a + (c - o)) (b + (d - p)) c d = s * s / 4 := by
  have e1 := fr.one
  have e2 := fr.other
  unfold far2 at e1 e2
  constructor
  · unfold wd hf far2; grind
  · unfold hg hf far2; grind
/-- the mirrored corner by its share -/
theorem mir_par (ne : a ≠ c ∨ b ≠ d) : ∃ l, l * far2 a b c d = (c - o) * (c - a) + (d - p) * (d - b) ∧ mir1 (a + (c - o)) (b + (d - p)) a b c d = o + (2 * l - 1) * (c - a) ∧ mir2 (a + (c - o)) (b + (d - p)) a b c d = p + (2 * l - 1) * (d - b) := by
  have e := shr_eq (x := a + (c - o)) (y := b + (d - p)) ne
  refine ⟨shr a b c d (a + (c - o)) (b + (d - p)), ?_, ?_, ?_⟩
  · unfold far2; grind
  · unfold mir1; grind
  · unfold mir2; grind
theorem crs_mir (ne : a ≠ c ∨ b ≠ d) : crs o p a b (mir1 (a + (c - o)) (b + (d - p)) a b c d) (mir2 (a + (c - o)) (b + (d - p)) a b c d) c d = 0 := by
  obtain ⟨l, h1, h2, h3⟩ := mir_par (o := o) (p := p) ne
  rw [h2, h3]
  unfold crs hf
  grind
theorem wd_mir (ne : a ≠ c ∨ b ≠ d) : wd o p a b (mir1 (a + (c - o)) (b + (d - p)) a b c d) (mir2 (a + (c - o)) (b + (d - p)) a b c d) c d = (((c - o) * (c - a) + (d - p) * (d - b)) * ((c - o) * (c - a) + (d - p) * (d - b))) / (4 * far2 a b c d) := by
  obtain ⟨l, h1, h2, h3⟩ := mir_par (o := o) (p := p) ne
  have f0 := far2_ne ne
  rw [h2, h3, ← h1]
  have f4 : 4 * far2 a b c d ≠ 0 := fun z => f0 (by grind)
  have q : (l * far2 a b c d * (l * far2 a b c d)) / (4 * far2 a b c d) = l * l * far2 a b c d / 4 := by
    have e1 : (l * far2 a b c d * (l * far2 a b c d)) / (4 * far2 a b c d) * (4 * far2 a b c d) = l * far2 a b c d * (l * far2 a b c d) := Rat.div_mul_cancel f4
    have z : (4 * far2 a b c d) * ((l * far2 a b c d * (l * far2 a b c d)) / (4 * far2 a b c d) - l * l * far2 a b c d / 4) = 0 := by grind
    have := (Rat.mul_eq_zero.mp z).resolve_left f4
    grind
  rw [q]
  unfold wd hf far2
  grind
theorem wd_less (fr : Frame s t o p a b c d) (nf : flatQ o p a b c d ≠ 0) : wd o p a b (mir1 (a + (c - o)) (b + (d - p)) a b c d) (mir2 (a + (c - o)) (b + (d - p)) a b c d) c d < t * t / 4 := by
  have f0 := far2_ne fr.apart
  obtain ⟨l, h1, h2, h3⟩ := mir_par (o := o) (p := p) fr.apart
  have e2 := fr.other
  have w : wd o p a b (mir1 (a + (c - o)) (b + (d - p)) a b c d) (mir2 (a + (c - o)) (b + (d - p)) a b c d) c d = l * l * far2 a b c d / 4 := by
    rw [h2, h3]
    unfold wd hf far2
    grind
  rw [w]
  have fp : 0 < far2 a b c d := by
    have g1 := sq_nonneg (c - a)
    have g2 := sq_nonneg (d - b)
    have : 0 ≤ far2 a b c d := by unfold far2; grind
    grind
  -- t t |p|^2 - (l |p|^2)^2 is the square of the cross product
  have key : (t * t - l * l * far2 a b c d) * far2 a b c d = flatQ o p a b c d * flatQ o p a b c d := by
    have k1 : (t * t - l * l * far2 a b c d) * far2 a b c d = t * t * far2 a b c d - (l * far2 a b c d) * (l * far2 a b c d) := by grind
    rw [k1, h1, ← e2]
    unfold far2 flatQ
    grind
  have cp : 0 < flatQ o p a b c d * flatQ o p a b c d := by
    have g := sq_nonneg (flatQ o p a b c d)
    have : flatQ o p a b c d * flatQ o p a b c d ≠ 0 := fun z => (Rat.mul_eq_zero.mp z).elim nf nf
    grind
  have pos : 0 < t * t - l * l * far2 a b c d := by
    refine Classical.byContradiction fun z => ?_
    have z' : 0 ≤ -(t * t - l * l * far2 a b c d) := by grind
    have := Rat.mul_nonneg z' (Rat.le_of_lt fp)
    grind
  grind
theorem hg_nonneg : 0 ≤ hg o p a b x y c d := by
  have g1 := sq_nonneg (hf c o - hf a x)
  have g2 := sq_nonneg (hf d p - hf b y)
  unfold hg far2
  grind
/-- what holds of the last corner -/
def LastC (s t o p a b c d x y : Rat) : Prop := (c - a) * (y - p) - (d - b) * (x - o) = 0 ∧ 0 < (c - a) * (x - o) + (d - b) * (y - p) ∧
  ((c - a) * (c - a) + (d - b) * (d - b)) * ((x - o) * (x - o) + (y - p) * (y - p)) = 16 * ((t * t - s * s) / 4 * ((t * t - s * s) / 4))
theorem last_of (fr : Frame s t o p a b c d) (h1 : (c - a) * (y - p) - (d - b) * (x - o) = 0) (h2 : (c - a) * (x - o) + (d - b) * (y - p) = t * t - s * s) : LastC s t o p a b c d x y := by
  have sq := fr.sq
  refine ⟨h1, by rw [h2]; grind, ?_⟩
  have e : ((c - a) * (c - a) + (d - b) * (d - b)) * ((x - o) * (x - o) + (y - p) * (y - p)) = ((c - a) * (x - o) + (d - b) * (y - p)) * ((c - a) * (x - o) + (d - b) * (y - p)) + ((c - a) * (y - p) - (d - b) * (x - o)) * ((c - a) * (y - p) - (d - b) * (x - o)) := by grind
  rw [e, h1, h2]
  grind
theorem last_par (fr : Frame s t o p a b c d) (f : flatQ o p a b c d = 0) : LastC s t o p a b c d (a + (c - o)) (b + (d - p)) := by
  have e1 := fr.one
  have e2 := fr.other
  unfold far2 at e1 e2
  unfold flatQ at f
  exact last_of fr (by grind) (by grind)
theorem last_mir (fr : Frame s t o p a b c d) : LastC s t o p a b c d (mir1 (a + (c - o)) (b + (d - p)) a b c d) (mir2 (a + (c - o)) (b + (d - p)) a b c d) := by
  obtain ⟨l, h1, h2, h3⟩ := mir_par (o := o) (p := p) fr.apart
  have e1 := fr.one
  have e2 := fr.other
  rw [h2, h3]
  unfold far2 at e1 e2 h1
  exact last_of fr (by grind) (by grind)
end
theorem sz_two : Sz 2 (2 : Rat) := sz_int (i := 2) (by decide) (by decide)
theorem sz_four : Sz 3 (4 : Rat) := sz_int (i := 4) (by decide) (by decide)
theorem sz_hf {m n : Nat} {x z : Rat} (h1 : Sz m x) (h2 : Sz n z) : Sz (m + n + 3) (hf x z) := (h1.add h2).div sz_two (by decide +kernel)
theorem sz_far {m n : Nat} {x y z w : Rat} (h1 : Sz m x) (h2 : Sz m y) (h3 : Sz n z) (h4 : Sz n w) : Sz (4 * (m + n + 1) + 1) (far2 x y z w) := by
  have a1 : Sz (m + n + 1) (z - x) := (h3.sub h1).more (by omega)
  have a2 : Sz (m + n + 1) (w - y) := (h4.sub h2).more (by omega)
  exact ((a1.mul a1).add (a2.mul a2)).more (by omega)
theorem sz_quart {n : Nat} {s t : Rat} (h1 : Sz n s) (h2 : Sz n t) : Sz (4 * n + 4) ((t * t - s * s) / 4) := (((h2.mul h2).sub (h1.mul h1)).div sz_four (by decide +kernel)).more (by omega)
theorem sz_sq4 {n : Nat} {s : Rat} (h1 : Sz n s) : Sz (2 * n + 3) (s * s / 4) := ((h1.mul h1).div sz_four (by decide +kernel)).more (by omega)
theorem sz_wd_mir {n : Nat} {o p a b c d : Rat} (zo : Sz n o) (zp : Sz n p) (za : Sz n a) (zb : Sz n b) (zc : Sz n c) (zd : Sz n d) (ne : a ≠ c ∨ b ≠ d) :
    Sz (24 * n + 18) (wd o p a b (mir1 (a + (c - o)) (b + (d - p)) a b c d) (mir2 (a + (c - o)) (b + (d - p)) a b c d) c d) := by
  rw [wd_mir ne]
  have c1 : Sz (2 * n + 1) (c - o) := (zc.sub zo).more (by omega)
  have c2 : Sz (2 * n + 1) (c - a) := (zc.sub za).more (by omega)
  have d1 : Sz (2 * n + 1) (d - p) := (zd.sub zp).more (by omega)
  have d2 : Sz (2 * n + 1) (d - b) := (zd.sub zb).more (by omega)
  have k := (c1.mul c2).add (d1.mul d2)
  have f0 := far2_ne ne
  have f : Sz (8 * n + 5) (far2 a b c d) := (sz_far za zb zc zd).more (by omega)
  exact ((k.mul k).div (sz_four.mul f) (fun z => f0 (by grind))).more (by omega)
theorem sz_hg_mir {n : Nat} {s t o p a b c d : Rat} (fr : Frame s t o p a b c d) (zs : Sz n s) (zt : Sz n t) (zo : Sz n o) (zp : Sz n p) (za : Sz n a) (zb : Sz n b) (zc : Sz n c) (zd : Sz n d) :
    Sz (28 * n + 23) (hg o p a b (mir1 (a + (c - o)) (b + (d - p)) a b c d) (mir2 (a + (c - o)) (b + (d - p)) a b c d) c d) := by
  have h := wd_hg fr ((mir_far2 (x := a + (c - o)) (y := b + (d - p)) fr.apart).trans fr.par1) ((mir_far1 (x := a + (c - o)) (y := b + (d - p)) fr.apart).trans fr.par2)
  have e : hg o p a b (mir1 (a + (c - o)) (b + (d - p)) a b c d) (mir2 (a + (c - o)) (b + (d - p)) a b c d) c d = wd o p a b (mir1 (a + (c - o)) (b + (d - p)) a b c d) (mir2 (a + (c - o)) (b + (d - p)) a b c d) c d - (t * t - s * s) / 4 := by grind
  rw [e]
  exact ((sz_wd_mir zo zp za zb zc zd fr.apart).sub (sz_quart zs zt)).more (by omega)
/-- what holds of the corner at i, of so many -/
structure CornerAt (i len : Nat) (s t o p a b c d x y : Rat) : Prop where
  diff : wd o p a b x y c d - hg o p a b x y c d = (t * t - s * s) / 4
  cross : decide (crs o p a b x y c d = 0) = decide ((i : Int) = (len : Int) - 1)
  one : i = 0 → wd o p a b x y c d = t * t / 4 ∧ hg o p a b x y c d = s * s / 4
  two : i = 1 → wd o p a b x y c d < t * t / 4 ∧ ¬ wd o p a b x y c d < (t * t - s * s) / 4
theorem corner_par {s t o p a b c d : Rat} {len : Nat} (fr : Frame s t o p a b c d) (h : (len : Int) = 2 - (if decide (flatQ o p a b c d = 0) = true then 1 else 0)) : CornerAt 0 len s t o p a b c d (a + (c - o)) (b + (d - p)) := by
  refine ⟨wd_hg fr fr.par1 fr.par2, ?_, fun _ => wd_par fr, fun z => absurd z (by decide)⟩
  rw [crs_par]
  by_cases f : flatQ o p a b c d = 0
  · rw [decide_eq_true f, if_pos rfl] at h
    rw [decide_eq_true (by grind : - flatQ o p a b c d = 0), decide_eq_true (by omega)]
  · rw [decide_eq_false f, if_neg Bool.false_ne_true] at h
    rw [decide_eq_false (by grind : ¬ - flatQ o p a b c d = 0), decide_eq_false (by omega)]
theorem corner_mir {s t o p a b c d : Rat} {len : Nat} (fr : Frame s t o p a b c d) (nf : flatQ o p a b c d ≠ 0) (h : len = 2) : CornerAt 1 len s t o p a b c d (mir1 (a + (c - o)) (b + (d - p)) a b c d) (mir2 (a + (c - o)) (b + (d - p)) a b c d) := by
  have w := wd_hg fr ((mir_far2 (x := a + (c - o)) (y := b + (d - p)) fr.apart).trans fr.par1) ((mir_far1 (x := a + (c - o)) (y := b + (d - p)) fr.apart).trans fr.par2)
  refine ⟨w, ?_, (fun z => absurd z (by decide)), fun _ => ⟨wd_less fr nf, ?_⟩⟩
  · rw [crs_mir fr.apart, decide_eq_true rfl, decide_eq_true (by omega)]
  · have g := hg_nonneg (o := o) (p := p) (a := a) (b := b) (c := c) (d := d) (x := mir1 (a + (c - o)) (b + (d - p)) a b c d) (y := mir2 (a + (c - o)) (b + (d - p)) a b c d)
    grind
/-! ### promises of midpoints -/
def spNeed4 : Sp := fun vs H Q _ => ∃ u v w t m1 m2 m3 m4 a1 b1 a2 b2 a3 b3 a4 b4, vs = [u, v, w, t] ∧ Pm H u m1 a1 b1 ∧ Pm H v m2 a2 b2 ∧ Pm H w m3 a3 b3 ∧ Pm H t m4 a4 b4 ∧ ∀ H', Same H H' → Q .non H'
def spHalf : Sp := fun vs H Q _ => ∃ u v x y z w m n, vs = [u, v] ∧ Pm H u m x y ∧ Pm H v n z w ∧ 2 * m + n + 4 ≤ 8900 ∧ ∀ r H', Same H H' → New H H' r (pt (hf x z) (hf y w)) → Pm H' r (m + n + 3) (hf x z) (hf y w) → Q r H'
def mids (o p a b x y c d : Rat) : Da := .tup [pt (hf o a) (hf p b), pt (hf a x) (hf b y), pt (hf x c) (hf y d), pt (hf c o) (hf d p)]
def spMid : Sp := fun vs H Q _ => ∃ u v w t o p a b x y c d n m, vs = [u, v, w, t] ∧ Pm H u n o p ∧ Pm H v n a b ∧ Pm H w m x y ∧ Pm H t n c d ∧ 3 * n + 2 * m + 4 ≤ 8900 ∧ ∀ r H', Same H H' → New H H' r (mids o p a b x y c d) → Q r H'
def spSpread : Sp := fun vs H Q _ => ∃ u v w t o p a b x y c d n m, vs = [u, v, w, t] ∧ Pm H u n o p ∧ Pm H v n a b ∧ Pm H w m x y ∧ Pm H t n c d ∧ 12 * n + 4 * m + 32 ≤ 8900 ∧ ∀ r H', Same H H' → New H H' r (pt (wd o p a b x y c d) (hg o p a b x y c d)) → Q r H'
/-- four points, each told; their midpoints, and the squares of half of both distances -/
def spPoints : Sp := fun vs H Q _ => ∃ u v w t o p a b x y c d n m, vs = [u, v, w, t] ∧ Pm H u n o p ∧ Pm H v n a b ∧ Pm H w m x y ∧ Pm H t n c d ∧ (12 * n + 4 * m + 32 ≤ 8900 ∧ n + m + 3 ≤ 1900 ∧ 2 * n + 3 ≤ 1900) ∧ Sz 1900 (wd o p a b x y c d) ∧ Sz 1900 (hg o p a b x y c d) ∧
  ∀ r H', Same H H' → New H H' r (.tup [mids o p a b x y c d, ofR (wd o p a b x y c d), ofR (hg o p a b x y c d)]) → Q r H'
section
variable {K : PySem.W.Frag} {H H' H1 : Hp} {Q : VK} {u v q : V} {m n l : Nat} {x y z w : Rat}
theorem on_half (hu : Pm H u m x y) (hv : Pm H v n z w) (b : 2 * m + n + 4 ≤ 8900) (k : ∀ r H', Same H H' → New H H' r (pt (hf x z) (hf y w)) → Pm H' r (m + n + 3) (hf x z) (hf y w) → Q r H') : spHalf [u, v] H Q E0 :=
  ⟨u, v, x, y, z, w, m, n, rfl, hu, hv, b, k⟩
theorem New.tup4' {p : Addr} {v1 v2 v3 v4 : V} {d1 d2 d3 d4 : Da} (s : Same H H1) (hp : H1 p = none) (a : New H H1 v1 d1) (b : New H H1 v2 d2) (c : New H H1 v3 d3) (d : New H H1 v4 d4) : New H (upd H1 p (.tup [v1, v2, v3, v4])) (.ref p) (.tup [d1, d2, d3, d4]) := fun S l =>
  have up := Same.less (S := S) (Same.new hp (o := .tup [v1, v2, v3, v4]))
  .tup (mn_put (l.more s) hp) (.cons ((a S l).up up) (.cons ((b S l).up up) (.cons ((c S l).up up) (.cons ((d S l).up up) .nil))))
theorem New.tup3' {p : Addr} {v1 v2 v3 : V} {d1 d2 d3 : Da} (s : Same H H1) (hp : H1 p = none) (a : New H H1 v1 d1) (b : New H H1 v2 d2) (c : New H H1 v3 d3) : New H (upd H1 p (.tup [v1, v2, v3])) (.ref p) (.tup [d1, d2, d3]) := fun S l =>
  have up := Same.less (S := S) (Same.new hp (o := .tup [v1, v2, v3]))
  .tup (mn_put (l.more s) hp) (.cons ((a S l).up up) (.cons ((b S l).up up) (.cons ((c S l).up up) .nil)))
theorem mids_items {o p a b c d : Rat} (h : Is H q (mids o p a b x y c d)) : ∃ (r : Addr) (v1 v2 v3 v4 : V), q = .ref r ∧ H r = some (.tup [v1, v2, v3, v4]) ∧ Is H v1 (pt (hf o a) (hf p b)) ∧ Is H v2 (pt (hf a x) (hf b y)) ∧ Is H v3 (pt (hf x c) (hf y d)) ∧ Is H v4 (pt (hf c o) (hf d p)) := by
  cases h with
  | @tup r xs _ e hx =>
  cases hx with
  | @cons v1 _ _ _ h1 hx =>
  cases hx with
  | @cons v2 _ _ _ h2 hx =>
  cases hx with
  | @cons v3 _ _ _ h3 hx =>
  cases hx with
  | @cons v4 _ _ _ h4 hx =>
  cases hx
  exact ⟨r, v1, v2, v3, v4, rfl, e, h1, h2, h3, h4⟩
/-- list(point) -/
theorem Pm.list (h : Pm H v m x y) : ∃ p ys, v = .ref p ∧ (SqL K H p ys ∨ SqT K H p ys) ∧ ∀ l, H l = none → Pm (upd H l (.lst ys)) (.ref l) m x y := by
  obtain ⟨m0, ⟨d, hd, s, a, b, e, na, nb, ra, rb⟩, s1, s2⟩ := h
  obtain ⟨p, ys, rfl, hs, hx⟩ := hd.seq (K := K) s
  refine ⟨p, ys, rfl, hs, fun l hl => ⟨m0, ⟨.lst [a, b], ?_, rfl, a, b, rfl, na, nb, ra, rb⟩, s1, s2⟩⟩
  rw [e] at hx
  exact .lst upd_same (hx.up (Same.new hl))
end
/-! these can be shown -/
theorem mids_show {o p a b x y c d : Rat} {n m : Nat} (zo : Sz n o) (zp : Sz n p) (za : Sz n a) (zb : Sz n b) (zx : Sz m x) (zy : Sz m y) (zc : Sz n c) (zd : Sz n d) (b1 : n + m + 3 ≤ 1900) (b2 : 2 * n + 3 ≤ 1900) :
    nums (mids o p a b x y c d) = true ∧ dp (mids o p a b x y c d) ≤ 3 ∧ wt (mids o p a b x y c d) ≤ 40000 := by
  obtain ⟨a1, a2, a3⟩ := pt_show (pt_pt (x := hf o a) (y := hf p b)) ((sz_hf zo za).more (by omega)) ((sz_hf zp zb).more (by omega))
  obtain ⟨c1, c2, c3⟩ := pt_show (pt_pt (x := hf a x) (y := hf b y)) ((sz_hf za zx).more (by omega)) ((sz_hf zb zy).more (by omega))
  obtain ⟨d1, d2, d3⟩ := pt_show (pt_pt (x := hf x c) (y := hf y d)) ((sz_hf zx zc).more (by omega)) ((sz_hf zy zd).more (by omega))
  obtain ⟨e1, e2, e3⟩ := pt_show (pt_pt (x := hf c o) (y := hf d p)) ((sz_hf zc zo).more (by omega)) ((sz_hf zd zp).more (by omega))
  unfold mids
  generalize pt (hf o a) (hf p b) = f1 at *
  generalize pt (hf a x) (hf b y) = f2 at *
  generalize pt (hf x c) (hf y d) = f3 at *
  generalize pt (hf c o) (hf d p) = f4 at *
  refine ⟨?_, ?_, ?_⟩
  · show (nums f1 && (nums f2 && (nums f3 && (nums f4 && true)))) = true
    rw [a1, c1, d1, e1]
    rfl
  · show max (dp f1) (max (dp f2) (max (dp f3) (max (dp f4) 0))) + 1 ≤ 3
    omega
  · show wt f1 + 2 + (wt f2 + 2 + (wt f3 + 2 + (wt f4 + 2 + 0))) + 10 ≤ 40000
    omega
theorem told4_okr {M : Da} {w h : Rat} (h1 : nums M = true) (h2 : dp M ≤ 3) (h3 : wt M ≤ 40000) (zw : Sz 1900 w) (zh : Sz 1900 h) : okr (.lst [M, M, pt w h, pt w h]) = true := by
  obtain ⟨a1, a2, a3⟩ := pt_show (pt_pt (x := w) (y := h)) zw zh
  generalize pt w h = f at *
  have e1 : nums (.lst [M, M, f, f]) = true := by
    show (nums M && (nums M && (nums f && (nums f && true)))) = true
    rw [a1, h1]
    rfl
  have e2 : dp (.lst [M, M, f, f]) ≤ 60 := by
    show max (dp M) (max (dp M) (max (dp f) (max (dp f) 0))) + 1 ≤ 60
    omega
  have e3 : wt (.lst [M, M, f, f]) ≤ 16000000 := by
    show wt M + 2 + (wt M + 2 + (wt f + 2 + (wt f + 2 + 0))) + 10 ≤ 16000000
    omega
  unfold okr
  rw [e1, decide_eq_true e2, decide_eq_true e3]
  rfl
section
variable {H : Hp}
theorem nz_four : Nz H (.int 4) 3 4 := nz_int (i := 4) (by decide) (by decide)
theorem nz_16 : Nz H (.int 16) 5 16 := nz_int (i := 16) (by decide) (by decide)
theorem nz_zero : Nz H (.int 0) 1 0 := nz_int (i := 0) (by decide) (by decide)
end
/-! what holds of the corners that are told -/
section
variable {H : Hp} {v : V} {s t o p a b c d : Rat}
theorem crn_all (h : Is H v (crn o p a b c d)) (fr : Frame s t o p a b c d) (zs : Sz 28 s) (zt : Sz 28 t) (zo : Sz 28 o) (zp : Sz 28 p) (za : Sz 28 a) (zb : Sz 28 b) (zc : Sz 28 c) (zd : Sz 28 d) :
    ∃ (q : Addr) (ws : List V), v = .ref q ∧ H q = some (.tup ws) ∧ ws.length ≤ 2 ∧
      (∀ (i : Nat) x, ws[i]? = some x → ∃ X Y, Pm H x 836 X Y ∧ CornerAt i ws.length s t o p a b c d X Y ∧ Sz 1900 (wd o p a b X Y c d) ∧ Sz 1900 (hg o p a b X Y c d)) ∧
      ∃ w X Y, atI ws (-1) = some w ∧ Pm H w 836 X Y ∧ LastC s t o p a b c d X Y := by
  have z1 : Sz 86 (a + (c - o)) := za.add (zc.sub zo)
  have z2 : Sz 86 (b + (d - p)) := zb.add (zd.sub zp)
  obtain ⟨m1, m2⟩ := sz_mir z1 z2 za zb zc zd fr.apart
  have m1' : Sz 836 (mir1 (a + (c - o)) (b + (d - p)) a b c d) := m1
  have m2' : Sz 836 (mir2 (a + (c - o)) (b + (d - p)) a b c d) := m2
  have wp := wd_par fr
  have zw : Sz 1900 (wd o p a b (a + (c - o)) (b + (d - p)) c d) := by rw [wp.1]; exact (sz_sq4 zt).more (by decide)
  have zh : Sz 1900 (hg o p a b (a + (c - o)) (b + (d - p)) c d) := by rw [wp.2]; exact (sz_sq4 zs).more (by decide)
  unfold crn at h
  cases fl : decide (flatQ o p a b c d = 0) with
  | true =>
    rw [fl, if_pos rfl] at h
    cases h with
    | @tup q xs _ e hx =>
      cases hx with
      | @cons w1 _ _ _ h1 hx =>
        cases hx
        refine ⟨q, _, rfl, e, by show 1 ≤ 2; decide, fun i x hi => ?_, w1, _, _, rfl, h1.pm (by decide) (z1.more (by decide)) (z2.more (by decide)), last_par fr (of_decide_eq_true fl)⟩
        match i, hi with
        | 0, hi =>
          cases hi
          exact ⟨_, _, h1.pm (by decide) (z1.more (by decide)) (z2.more (by decide)), corner_par fr (by rw [fl, if_pos rfl]; rfl), zw, zh⟩
  | false =>
    rw [fl, if_neg Bool.false_ne_true] at h
    have nf : flatQ o p a b c d ≠ 0 := of_decide_eq_false fl
    cases h with
    | @tup q xs _ e hx =>
      cases hx with
      | @cons w1 _ _ _ h1 hx =>
        cases hx with
        | @cons w2 _ _ _ h2 hx =>
          cases hx
          refine ⟨q, _, rfl, e, by show 2 ≤ 2; decide, fun i x hi => ?_, w2, _, _, rfl, h2.pm (by decide) m1' m2', last_mir fr⟩
          match i, hi with
          | 0, hi =>
            cases hi
            exact ⟨_, _, h1.pm (by decide) (z1.more (by decide)) (z2.more (by decide)), corner_par fr (by rw [fl, if_neg Bool.false_ne_true]; rfl), zw, zh⟩
          | 1, hi =>
            cases hi
            exact ⟨_, _, h2.pm (by decide) m1' m2', corner_mir fr nf rfl, (sz_wd_mir zo zp za zb zc zd fr.apart).more (by decide), (sz_hg_mir fr zs zt zo zp za zb zc zd).more (by decide)⟩
/-- what the four points' reckoning gives: its items -/
theorem points_items {x y : Rat} (h : Is H v (.tup [mids o p a b x y c d, ofR (wd o p a b x y c d), ofR (hg o p a b x y c d)])) :
    ∃ (q r : Addr) (v1 v2 v3 v4 w1 w2 : V), v = .ref q ∧ H q = some (.tup [.ref r, w1, w2]) ∧ H r = some (.tup [v1, v2, v3, v4]) ∧ Is H v1 (pt (hf o a) (hf p b)) ∧ Is H v2 (pt (hf a x) (hf b y)) ∧ Is H v3 (pt (hf x c) (hf y d)) ∧ Is H v4 (pt (hf c o) (hf d p)) ∧
      Is H w1 (ofR (wd o p a b x y c d)) ∧ Is H w2 (ofR (hg o p a b x y c d)) := by
  cases h with
  | @tup q xs _ e hx =>
  cases hx with
  | @cons u1 _ _ _ h1 hx =>
  cases hx with
  | @cons u2 _ _ _ h2 hx =>
  cases hx with
  | @cons u3 _ _ _ h3 hx =>
  cases hx
  obtain ⟨r, v1, v2, v3, v4, rfl, er, i1, i2, i3, i4⟩ := mids_items h1
  exact ⟨q, r, v1, v2, v3, v4, u2, u3, rfl, e, er, i1, i2, i3, i4, h2, h3⟩
end
end Ty

namespace Ty
open PySem PySem.Spec PyProof.Rows L2
/-! ### locks -/
/-- what a lock lets, in a word -/
def kindOf (s t m n : Rat) : Str := if decide (m * m - n * n = (t * t - s * s) / 4) = true then (if decide (t / 2 < m) = true then "crossed" else if decide (m < t / 2) = true then "part" else "both") else "none"
/-- all corners -/
def crnL (o p a b c d : Rat) : List (Rat × Rat) := if decide (flatQ o p a b c d = 0) = true then [(a + (c - o), b + (d - p))] else
  [(a + (c - o), b + (d - p)), (mir1 (a + (c - o)) (b + (d - p)) a b c d, mir2 (a + (c - o)) (b + (d - p)) a b c d)]
/-- the law's own look -/
def rm (m n o p a b c d : Rat) (z : Rat × Rat) : Bool := decide (m * m - wd o p a b z.1 z.2 c d = n * n - hg o p a b z.1 z.2 c d) && (!decide (m * m - wd o p a b z.1 z.2 c d < 0) && (decide (m * m - wd o p a b z.1 z.2 c d = 0) || decide (crs o p a b z.1 z.2 c d = 0)))
/-- the program's -/
def pkRoom (q o p a b c d x y : Rat) : Bool := if (decide (x = a + (c - o) ∧ y = b + (d - p)) && !decide (flatQ o p a b c d = 0)) = true then decide (q = wd o p a b x y c d) else !decide (q < wd o p a b x y c d)
section
variable {s t o p a b c d m n : Rat}
theorem sq_lt {x y : Rat} (hx : 0 ≤ x) (h : x < y) : x * x < y * y := by
  have h3 : 0 < (y - x) * (y + x) := Rat.mul_pos (by grind) (by grind)
  grind
/-- the two kinds of corners -/
theorem crnL_cases (fr : Frame s t o p a b c d) {z : Rat × Rat} (h : z ∈ crnL o p a b c d) :
    (z = (a + (c - o), b + (d - p)) ∧ wd o p a b z.1 z.2 c d = t * t / 4 ∧ wd o p a b z.1 z.2 c d - hg o p a b z.1 z.2 c d = (t * t - s * s) / 4 ∧ crs o p a b z.1 z.2 c d = - flatQ o p a b c d) ∨
    (flatQ o p a b c d ≠ 0 ∧ z ≠ (a + (c - o), b + (d - p)) ∧ wd o p a b z.1 z.2 c d < t * t / 4 ∧ wd o p a b z.1 z.2 c d - hg o p a b z.1 z.2 c d = (t * t - s * s) / 4 ∧ crs o p a b z.1 z.2 c d = 0) := by
  have par : ∀ w, w = (a + (c - o), b + (d - p)) → w = (a + (c - o), b + (d - p)) ∧ wd o p a b w.1 w.2 c d = t * t / 4 ∧ wd o p a b w.1 w.2 c d - hg o p a b w.1 w.2 c d = (t * t - s * s) / 4 ∧ crs o p a b w.1 w.2 c d = - flatQ o p a b c d := by
    rintro _ rfl
    exact ⟨rfl, (wd_par fr).1, wd_hg fr fr.par1 fr.par2, crs_par⟩
  unfold crnL at h
  split at h
  · exact .inl (par z (List.mem_singleton.mp h))
  · rename_i nf
    have nf' : flatQ o p a b c d ≠ 0 := fun w => nf (decide_eq_true w)
    rcases List.mem_cons.mp h with h | h
    · exact .inl (par z h)
    · rw [List.mem_singleton.mp h]
      refine .inr ⟨nf', fun w => mir_off (fun w => nf' (flat_cross.mp w)) ⟨congrArg Prod.fst w, congrArg Prod.snd w⟩, wd_less fr nf', wd_hg fr ((mir_far2 fr.apart).trans fr.par1) ((mir_far1 fr.apart).trans fr.par2), crs_mir fr.apart⟩
theorem rm_none (fr : Frame s t o p a b c d) (nl : m * m - n * n ≠ (t * t - s * s) / 4) {z : Rat × Rat} (h : z ∈ crnL o p a b c d) : rm m n o p a b c d z = false := by
  unfold rm
  rw [decide_eq_false]
  · rfl
  · rcases crnL_cases fr h with ⟨_, _, e, _⟩ | ⟨_, _, _, e, _⟩ <;> intro w <;> exact nl (by grind)
theorem rm_lock (fr : Frame s t o p a b c d) (l : m * m - n * n = (t * t - s * s) / 4) {z : Rat × Rat} (h : z ∈ crnL o p a b c d) : rm m n o p a b c d z = pkRoom (m * m) o p a b c d z.1 z.2 := by
  obtain ⟨x, y⟩ := z
  rcases crnL_cases fr h with ⟨e0, _, e1, e2⟩ | ⟨nf, e0, _, e1, e2⟩
  · unfold rm pkRoom
    rw [e2, decide_eq_true (show m * m - wd o p a b x y c d = n * n - hg o p a b x y c d by have e1' : wd o p a b x y c d - hg o p a b x y c d = (t * t - s * s) / 4 := e1; grind)]
    have q1 := congrArg Prod.fst e0
    have q2 := congrArg Prod.snd e0
    rw [decide_eq_true (show (x, y).1 = a + (c - o) ∧ (x, y).2 = b + (d - p) from ⟨q1, q2⟩)]
    by_cases f : flatQ o p a b c d = 0
    · rw [decide_eq_true f, decide_eq_true (show - flatQ o p a b c d = 0 by grind), Bool.or_true, Bool.and_true, Bool.true_and]
      show _ = !decide (m * m < wd o p a b x y c d)
      rw [decide_eq_decide.mpr (show m * m - wd o p a b x y c d < 0 ↔ m * m < wd o p a b x y c d by constructor <;> intro <;> grind)]
    · rw [decide_eq_false f, decide_eq_false (show ¬ - flatQ o p a b c d = 0 by grind), Bool.or_false, Bool.true_and]
      show _ = decide (m * m = wd o p a b x y c d)
      by_cases g : m * m = wd o p a b x y c d
      · rw [decide_eq_true g, decide_eq_true (show m * m - wd o p a b x y c d = 0 by grind), decide_eq_false (show ¬ m * m - wd o p a b x y c d < 0 by grind)]
        rfl
      · rw [decide_eq_false g, decide_eq_false (show ¬ m * m - wd o p a b x y c d = 0 by grind), Bool.and_false]
  · unfold rm pkRoom
    rw [e2, decide_eq_true (show m * m - wd o p a b x y c d = n * n - hg o p a b x y c d by have e1' : wd o p a b x y c d - hg o p a b x y c d = (t * t - s * s) / 4 := e1; grind)]
    rw [decide_eq_false (show ¬ ((x, y).1 = a + (c - o) ∧ (x, y).2 = b + (d - p)) from fun w => e0 (Prod.ext w.1 w.2))]
    rw [decide_eq_true rfl, Bool.or_true, Bool.and_true, Bool.true_and, Bool.false_and]
    show _ = !decide (m * m < wd o p a b x y c d)
    rw [decide_eq_decide.mpr (show m * m - wd o p a b x y c d < 0 ↔ m * m < wd o p a b x y c d by constructor <;> intro <;> grind)]
/-- what goes with a word -/
def goesWith (kind : Str) (isc flat room : Bool) (wide high : Rat) : Bool := if kind = "none" then !room else if kind = "both" then room else if kind = "crossed" then decide (room = isc) else decide (room = (isc && (!flat && !decide (high < wide))))
theorem goes_all (fr : Frame s t o p a b c d) (m0 : 0 < m) {z : Rat × Rat} (h : z ∈ crnL o p a b c d) :
    goesWith (kindOf s t m n) (decide (flatQ o p a b c d = 0) || !decide (z.1 = a + (c - o) ∧ z.2 = b + (d - p))) (decide (flatQ o p a b c d = 0)) (rm m n o p a b c d z) (wd o p a b z.1 z.2 c d) (m * m) = true := by
  by_cases l : m * m - n * n = (t * t - s * s) / 4
  · rw [rm_lock fr l h]
    obtain ⟨x, y⟩ := z
    have t0 : 0 < t := by have := fr.pos; have := fr.less; grind
    have big : t / 2 < m → t * t / 4 < m * m := fun w => by
      have := sq_lt (x := t / 2) (by grind) w
      grind
    have low : m < t / 2 → m * m < t * t / 4 := fun w => by
      have := sq_lt (x := m) (by grind) w
      grind
    unfold kindOf pkRoom
    rw [decide_eq_true l, if_pos rfl]
    rcases crnL_cases fr h with ⟨e0, e3, e1, e2⟩ | ⟨nf, e0, e3, e1, e2⟩
    · have q1 : (x, y).1 = a + (c - o) := congrArg Prod.fst e0
      have q2 : (x, y).2 = b + (d - p) := congrArg Prod.snd e0
      rw [e3, decide_eq_true (show (x, y).1 = a + (c - o) ∧ (x, y).2 = b + (d - p) from ⟨q1, q2⟩)]
      by_cases f : flatQ o p a b c d = 0
      · rw [decide_eq_true f]
        by_cases g1 : t / 2 < m
        · have := big g1
          rw [decide_eq_true g1, decide_eq_false (show ¬ m * m < t * t / 4 by grind)]
          rfl
        · by_cases g2 : m < t / 2
          · have := low g2
            rw [decide_eq_false g1, decide_eq_true g2, decide_eq_true this]
            rfl
          · have e : m = t / 2 := by grind
            rw [decide_eq_false g1, decide_eq_false g2, decide_eq_false (show ¬ m * m < t * t / 4 by subst e; grind)]
            rfl
      · rw [decide_eq_false f]
        by_cases g1 : t / 2 < m
        · have := big g1
          rw [decide_eq_true g1, decide_eq_false (show ¬ m * m = t * t / 4 by grind)]
          rfl
        · by_cases g2 : m < t / 2
          · have := low g2
            rw [decide_eq_false g1, decide_eq_true g2, decide_eq_false (show ¬ m * m = t * t / 4 by grind)]
            rfl
          · have e : m = t / 2 := by grind
            rw [decide_eq_false g1, decide_eq_false g2, decide_eq_true (show m * m = t * t / 4 by subst e; grind)]
            rfl
    · have e3' : wd o p a b x y c d < t * t / 4 := e3
      rw [decide_eq_false nf, decide_eq_false (show ¬ ((x, y).1 = a + (c - o) ∧ (x, y).2 = b + (d - p)) from fun w => e0 (Prod.ext w.1 w.2))]
      by_cases g1 : t / 2 < m
      · have := big g1
        rw [decide_eq_true g1]
        show goesWith "crossed" _ _ (!decide (m * m < wd o p a b x y c d)) _ _ = true
        rw [decide_eq_false (show ¬ m * m < wd o p a b x y c d by grind)]
        rfl
      · by_cases g2 : m < t / 2
        · rw [decide_eq_false g1, decide_eq_true g2]
          show decide ((!decide (m * m < wd o p a b x y c d)) = (true && (true && !decide (m * m < wd o p a b x y c d)))) = true
          cases decide (m * m < wd o p a b x y c d) <;> rfl
        · have e : m = t / 2 := by grind
          rw [decide_eq_false g1, decide_eq_false g2]
          show goesWith "both" _ _ (!decide (m * m < wd o p a b x y c d)) _ _ = true
          rw [decide_eq_false (show ¬ m * m < wd o p a b x y c d by subst e; grind)]
          rfl
  · rw [rm_none fr l h]
    unfold kindOf
    rw [decide_eq_false l]
    rfl
end
/-- the law's own locks -/
theorem kind_own {s t : Rat} (s0 : 0 < s) : kindOf s t (t / 2) (s / 2) = "both" := by
  unfold kindOf
  rw [decide_eq_true (show t / 2 * (t / 2) - s / 2 * (s / 2) = (t * t - s * s) / 4 by grind), if_pos rfl, decide_eq_false (show ¬ t / 2 < t / 2 by grind)]
  rfl
theorem kind_built {s t : Rat} (s0 : 0 < s) (st : s < t) : kindOf s t ((5 * t + 3 * s) / 8) ((3 * t + 5 * s) / 8) = "crossed" := by
  unfold kindOf
  rw [decide_eq_true (show (5 * t + 3 * s) / 8 * ((5 * t + 3 * s) / 8) - (3 * t + 5 * s) / 8 * ((3 * t + 5 * s) / 8) = (t * t - s * s) / 4 by grind), if_pos rfl, decide_eq_true (show t / 2 < (5 * t + 3 * s) / 8 by grind)]
  rfl
/-- a lock of d: both + d, both - d, halved -/
theorem lock_d {s t d : Rat} (s0 : 0 < s) (st : s < t) (d0 : 0 < d) (dd : d * d < (t - s) / 2 * ((s + t) / 2)) :
    0 < ((t - s) / 2 * ((s + t) / 2) / d + d) / 2 ∧ 0 < ((t - s) / 2 * ((s + t) / 2) / d - d) / 2 ∧
    ((t - s) / 2 * ((s + t) / 2) / d + d) / 2 * (((t - s) / 2 * ((s + t) / 2) / d + d) / 2) - ((t - s) / 2 * ((s + t) / 2) / d - d) / 2 * (((t - s) / 2 * ((s + t) / 2) / d - d) / 2) = (t * t - s * s) / 4 := by
  have nd : d ≠ 0 := by grind
  have e : (t - s) / 2 * ((s + t) / 2) / d * d = (t - s) / 2 * ((s + t) / 2) := Rat.div_mul_cancel nd
  generalize (t - s) / 2 * ((s + t) / 2) / d = w at e ⊢
  have wd0 : d < w := by
    refine Classical.byContradiction fun z => ?_
    have := Rat.mul_nonneg (show 0 ≤ d - w by grind) (Rat.le_of_lt d0)
    grind
  exact ⟨by grind, by grind, by grind⟩
theorem lock_part {s t k : Rat} (s0 : 0 < s) (st : s < t) (k0 : 0 < k) (k1 : k ≤ 1) : let d := (t - s) / 2 * (1 + k * (s / t)); 0 < d ∧ d * d < (t - s) / 2 * ((s + t) / 2) ∧ (d - (t - s) / 2) * (d - (s + t) / 2) < 0 := by
  have t0 : 0 < t := by grind
  have nt : t ≠ 0 := by grind
  have e : s / t * t = s := Rat.div_mul_cancel nt
  have r0 : 0 < s / t := by rw [Rat.div_def]; exact Rat.mul_pos s0 (Rat.inv_pos.mpr t0)
  generalize s / t = r at e r0 ⊢
  -- s = r t, r below 1
  subst e
  have r1 : r < 1 := by
    refine Classical.byContradiction fun z => ?_
    have := Rat.mul_nonneg (show 0 ≤ r - 1 by grind) (Rat.le_of_lt t0)
    grind
  have kr : 0 < k * r := Rat.mul_pos k0 r0
  have kr1 : k * r ≤ r := by
    have := Rat.mul_nonneg (show 0 ≤ 1 - k by grind) (Rat.le_of_lt r0)
    grind
  have tt : 0 < t * t := Rat.mul_pos t0 t0
  intro d
  generalize hj : k * r = j at kr kr1
  have ed : d = (t - r * t) / 2 * (1 + j) := by show (t - r * t) / 2 * (1 + k * r) = _; rw [hj]
  clear_value d
  subst ed
  have f0 : 0 < (t - r * t) / 2 := by
    have := Rat.mul_pos t0 (show 0 < 1 - r by grind)
    grind
  refine ⟨Rat.mul_pos f0 (by grind), ?_, ?_⟩
  · -- (1 - r)^2 (1 + j)^2 < (1 - r)(1 + r)
    have a1 : 0 < (1 - r) * (1 + r) - (1 - r) * (1 - r) * ((1 + j) * (1 + j)) := by
      have b1 : (1 + j) * (1 + j) ≤ (1 + r) * (1 + r) := by
        have := Rat.mul_nonneg (show 0 ≤ r - j by grind) (show 0 ≤ 2 + r + j by grind)
        grind
      have b2 : 0 ≤ (1 - r) * (1 - r) * ((1 + r) * (1 + r) - (1 + j) * (1 + j)) := Rat.mul_nonneg (Rat.mul_nonneg (by grind) (by grind)) (by grind)
      have b3 : 0 < (1 - r) * (1 + r) * (1 - (1 - r) * (1 + r)) := Rat.mul_pos (Rat.mul_pos (by grind) (by grind)) (by have := Rat.mul_pos r0 r0; grind)
      grind
    have := Rat.mul_pos tt a1
    grind
  · have a2 : 0 < ((1 - r) * j) * ((1 + r) - (1 - r) * (1 + j)) := by
      refine Rat.mul_pos (Rat.mul_pos (by grind) kr) ?_
      have := Rat.mul_pos r0 (show 0 < 1 by decide)
      have := Rat.mul_nonneg (show 0 ≤ 1 - r by grind) (show 0 ≤ r - j by grind)
      have := Rat.mul_pos r0 r0
      grind
    have := Rat.mul_pos tt a2
    grind
theorem lock_far {s t k : Rat} (s0 : 0 < s) (st : s < t) (k0 : 0 < k) (k1 : k < 1) : let d := (t - s) / 2 * k; 0 < d ∧ d * d < (t - s) / 2 * ((s + t) / 2) ∧ 0 < (d - (t - s) / 2) * (d - (s + t) / 2) := by
  intro d
  have f0 : 0 < (t - s) / 2 := by grind
  have d0 : 0 < d := Rat.mul_pos f0 k0
  have d1 : d < (t - s) / 2 := by
    have := Rat.mul_pos f0 (show 0 < 1 - k by grind)
    show (t - s) / 2 * k < _
    grind
  clear_value d
  refine ⟨d0, ?_, ?_⟩
  · have := Rat.mul_pos f0 (show 0 < (s + t) / 2 - d by grind)
    have := Rat.mul_pos d0 (show 0 < (t - s) / 2 - d by grind)
    grind
  · have := Rat.mul_pos (show 0 < (t - s) / 2 - d by grind) (show 0 < (s + t) / 2 - d by grind)
    grind
theorem kind_d {s t d : Rat} (s0 : 0 < s) (st : s < t) (d0 : 0 < d) (dd : d * d < (t - s) / 2 * ((s + t) / 2)) :
    ((d - (t - s) / 2) * (d - (s + t) / 2) < 0 → kindOf s t (((t - s) / 2 * ((s + t) / 2) / d + d) / 2) (((t - s) / 2 * ((s + t) / 2) / d - d) / 2) = "part") ∧
    (0 < (d - (t - s) / 2) * (d - (s + t) / 2) → kindOf s t (((t - s) / 2 * ((s + t) / 2) / d + d) / 2) (((t - s) / 2 * ((s + t) / 2) / d - d) / 2) = "crossed") := by
  obtain ⟨_, _, l⟩ := lock_d s0 st d0 dd
  have nd : d ≠ 0 := by grind
  have e : (t - s) / 2 * ((s + t) / 2) / d * d = (t - s) / 2 * ((s + t) / 2) := Rat.div_mul_cancel nd
  generalize (t - s) / 2 * ((s + t) / 2) / d = w at e l ⊢
  have key : (w + d - t) * d = (d - (t - s) / 2) * (d - (s + t) / 2) := by grind
  constructor
  · intro h
    have g2 : (w + d) / 2 < t / 2 := by
      refine Classical.byContradiction fun z => ?_
      have := Rat.mul_nonneg (show 0 ≤ w + d - t by grind) (Rat.le_of_lt d0)
      grind
    unfold kindOf
    rw [decide_eq_true l, if_pos rfl, decide_eq_false (show ¬ t / 2 < (w + d) / 2 by grind), decide_eq_true g2]
    rfl
  · intro h
    have g2 : t / 2 < (w + d) / 2 := by
      refine Classical.byContradiction fun z => ?_
      have := Rat.mul_nonneg (show 0 ≤ t - w - d by grind) (Rat.le_of_lt d0)
      grind
    unfold kindOf
    rw [decide_eq_true l, if_pos rfl, decide_eq_true g2]
    rfl
theorem kind_any {s t m n : Rat} : (m * m - n * n ≠ (t * t - s * s) / 4 → kindOf s t m n = "none") ∧ (m * m - n * n = (t * t - s * s) / 4 → kindOf s t m n = if decide (m = t / 2) = true then "both" else if decide (m < t / 2) = true then "part" else "crossed") := by
  constructor
  · intro h
    unfold kindOf
    rw [decide_eq_false h]
    rfl
  · intro h
    unfold kindOf
    rw [decide_eq_true h, if_pos rfl]
    by_cases g1 : t / 2 < m
    · rw [decide_eq_true g1, decide_eq_false (show ¬ m = t / 2 by grind), decide_eq_false (show ¬ m < t / 2 by grind)]
      rfl
    · by_cases g2 : m < t / 2
      · rw [decide_eq_false g1, decide_eq_true g2, decide_eq_false (show ¬ m = t / 2 by grind)]
        rfl
      · rw [decide_eq_false g1, decide_eq_false g2, decide_eq_true (show m = t / 2 by grind)]
        rfl
end Ty
namespace Ty
open PySem PySem.Spec PyProof.Rows L2
section
variable {J : It} {G : Hp → Prop} {xs : List V}
/-- [x for x in .. if f(x)]: the items as they are -/
theorem lc_filter (w : Walk J xs.length G (YAt xs)) {g : TG} {tt : TT} {te : TE} {vs : List Nat} {σ : L2.St} {H : Hp} {D : Addr} {Qd : Hp → Prop} {ds : List Da} (f : Da → Bool) (hx : IsAll H xs ds) (hn : xs.length ≤ 1000) (hD : H D = none) (hG : ∀ H', Same H H' → G H')
    (hs : ∀ (i : Nat) x d H1 (Q' : VK) (N : Hp → Prop), xs[i]? = some x → ds[i]? = some d → Same H H1 → (∀ H2, Same H1 H2 → if f d = true then Q' x H2 else N H2) →
      g x (wipe σ vs) H1 fun σ2 H3 => wipe σ2 vs = wipe σ vs ∧ tt σ2 H3 fun b H4 => if b = true then te σ2 H4 Q' else N H4)
    (k : ∀ H' ys, Same H H' → H' D = some (.lst ys) → IsAll H ys (ds.filter f) → Qd H') :
    ∃ W : Nat → Nat → Hp → Prop, (∃ m, W 0 m (upd H D (.lst []))) ∧ ∀ i m H, W i m H →
      (J.stop i H ∧ Qd H) ∨ (J.go i H ∧ ∃ Nx : Hp → Prop, (∀ H', Nx H' → ∃ m', m' < m ∧ W (i + 1) m' H') ∧ ∀ x H', J.yld i H x H' → g x (wipe σ vs) H' fun σ2 H2 => wipe σ2 vs = wipe σ vs ∧ tt σ2 H2 fun b H3 =>
        if b = true then te σ2 H3 fun y H4 => ∃ acc, H4 D = some (.lst acc) ∧ acc.length < sizeLine ∧ Nx (upd H4 D (.lst (acc ++ [y]))) else Nx H3) := by
  have len := hx.length
  refine lc_it w (fun i H' => Same H H' ∧ ∃ acc, H' D = some (.lst acc) ∧ acc.length ≤ i ∧ IsAll H acc ((ds.take i).filter f)) ⟨Same.new hD, [], upd_same, Nat.le_refl _, .nil⟩ (fun i H' _ p => hG H' p.1) ?_ ?_
  · rintro i x H1 H2 hi ⟨s1, acc, ha, hl, hall⟩ ⟨rfl, hxi⟩
    obtain ⟨d, hd, hi2⟩ := hx.at hxi
    refine hs i x d H2 _ _ hxi hd s1 fun H3 s3 => ?_
    have tk : (ds.take (i + 1)).filter f = (ds.take i).filter f ++ (if f d = true then [d] else []) := by
      rw [List.take_add_one, hd, List.filter_append]
      show _ ++ List.filter f [d] = _
      rw [List.filter_cons]
      rfl
    split
    · rename_i fd
      refine ⟨acc, s3 _ _ ha, Nat.lt_of_le_of_lt hl (Nat.lt_of_lt_of_le (show i < 1000 by omega) (by decide)), Same.mut (s1.trans s3) hD, _, upd_same, by rw [List.length_append]; show acc.length + 1 ≤ i + 1; omega, ?_⟩
      rw [tk, if_pos fd]
      exact hall.snoc hi2
    · rename_i fd
      refine ⟨s1.trans s3, acc, s3 _ _ ha, by omega, ?_⟩
      rw [tk, if_neg fd, List.append_nil]
      exact hall
  · rintro H' ⟨s1, acc, ha, hl, hall⟩
    rw [len, List.take_length] at hall
    exact k H' acc s1 ha hall
end
/-! ### promises of locks -/
def ptP (z : Rat × Rat) : Da := pt z.1 z.2
theorem crn_eq {o p a b c d : Rat} : crn o p a b c d = .tup ((crnL o p a b c d).map ptP) := by
  unfold crn crnL
  split <;> rfl
def spLockFor : Sp := fun vs H Q _ => ∃ u v s t n, vs = [u, v] ∧ Nz H u n s ∧ Nz H v n t ∧ 0 < s ∧ s < t ∧ 2 * n + 12 ≤ 8900 ∧ ∀ r H', Same H H' → New H H' r (pt ((5 * t + 3 * s) / 8) ((3 * t + 5 * s) / 8)) → Q r H'
def spNeedLen : Sp := fun vs H Q _ => ∃ u v w x k1 k2 k3 k4 s t m n, vs = [u, v, w, x] ∧ Nz H u k1 s ∧ Nz H v k2 t ∧ Nz H w k3 m ∧ Nz H x k4 n ∧ (k1 ≤ 8900 ∧ k2 ≤ 8900 ∧ k3 ≤ 8900 ∧ k4 ≤ 8900) ∧ 0 < s ∧ 0 < t ∧ 0 < m ∧ 0 < n ∧ ∀ H', Same H H' → Q .non H'
def spNeedLess : Sp := fun vs H Q _ => ∃ u v s t n, vs = [u, v] ∧ Nz H u n s ∧ Nz H v n t ∧ s < t ∧ n + n ≤ 8900 ∧ ∀ H', Same H H' → Q .non H'
def spApart : Sp := fun vs H Q _ => ∃ u v x z m, vs = [u, v] ∧ Nz H u m x ∧ Nz H v m z ∧ 2 * m + 4 ≤ 8900 ∧ ∀ r H', Same H H' → New H H' r (ofR ((z - x) / 4)) → Q r H'
/-- four numbers of a lock -/
def Lk (H : Hp) (us ut um un : V) (k l : Nat) (s t m n : Rat) : Prop := Nz H us k s ∧ Nz H ut k t ∧ Nz H um l m ∧ Nz H un l n
theorem Lk.up {H H' : Hp} {us ut um un : V} {k l : Nat} {s t m n : Rat} (h : Lk H us ut um un k l s t m n) (s' : Same H H') : Lk H' us ut um un k l s t m n := ⟨h.1.up s', h.2.1.up s', h.2.2.1.up s', h.2.2.2.up s'⟩
def spIsCL : Sp := fun vs H Q _ => ∃ us ut um un s t m n k l, vs = [us, ut, um, un] ∧ Lk H us ut um un k l s t m n ∧ 4 * k + 4 * l + 20 ≤ 8900 ∧ ∀ H', Same H H' → Q (.bl (decide (m * m - n * n = (t * t - s * s) / 4))) H'
def spKind : Sp := fun vs H Q _ => ∃ us ut um un s t m n k l, vs = [us, ut, um, un] ∧ Lk H us ut um un k l s t m n ∧ 4 * k + 4 * l + 20 ≤ 8900 ∧ 0 < s ∧ s < t ∧ 0 < m ∧ 0 < n ∧ ∀ H', Same H H' → Q (.str (kindOf s t m n)) H'
def spRoom : Sp := fun vs H Q _ => ∃ vo va vc vb vq o p a b x y c d q k l n, vs = [vo, va, vc, vb, vq] ∧ Pm H vo n o p ∧ Pm H va n a b ∧ Is H vc (pt x y) ∧ Pm H vc l x y ∧ Pm H vb n c d ∧ Nz H vq k q ∧ Is H vq (ofR q) ∧ (o ≠ c ∨ p ≠ d) ∧ (12 * n + 4 * l + 32 ≤ 8900 ∧ 8 * n + 5 ≤ 8000 ∧ k + 1900 ≤ 8900) ∧ Sz 1900 (wd o p a b x y c d) ∧
  ∀ H', Same H H' → Q (.bl (pkRoom q o p a b c d x y)) H'
/-- the corners that a lock lets -/
def letD (m n o p a b c d : Rat) : List Da := ((crnL o p a b c d).filter (rm m n o p a b c d)).map ptP
def spLocked : Sp := fun vs H Q _ => ∃ us ut um un vo va vb s t m n o p a b c d, vs = [us, ut, um, un, vo, va, vb] ∧ Lk H us ut um un 28 400 s t m n ∧ Pm H vo 28 o p ∧ Pm H va 28 a b ∧ Pm H vb 28 c d ∧ Frame s t o p a b c d ∧ 0 < m ∧ 0 < n ∧
  ∀ r H', Same H H' → Is H' r (.tup (letD m n o p a b c d)) → Q r H'
section
variable {H : Hp}
theorem nz_three : Nz H (.int 3) 2 3 := nz_int (i := 3) (by decide) (by decide)
theorem nz_five : Nz H (.int 5) 3 5 := nz_int (i := 5) (by decide) (by decide)
theorem nz_eight : Nz H (.int 8) 4 8 := nz_int (i := 8) (by decide) (by decide)
theorem nzK_eighth {K : PySem.W.Frag} {a : Addr} (h : KTup K a 1 8) : NzK K H (.ref a) 4 (Rat.divInt 1 8) := ⟨by decide, ⟨.tup [.int 1, .int 8], .inr ⟨a, 1, 8, rfl, h, rfl⟩, by decide, rfl⟩, sz_low (by decide) (by decide) (by decide)⟩
end
theorem eighth_eq {x : Rat} : Rat.divInt 1 8 * x = x / 8 := by
  have h2 : Rat.divInt 1 8 = 1 / 8 := by rw [Rat.divInt_eq_div]; rfl
  rw [h2]
  grind
theorem half_eq {x : Rat} : Rat.divInt 1 2 * x = x / 2 := by
  have h2 : Rat.divInt 1 2 = 1 / 2 := by rw [Rat.divInt_eq_div]; rfl
  rw [h2]
  grind
/-- sizes of what corners give -/
theorem crnL_sz {s t o p a b c d : Rat} (fr : Frame s t o p a b c d) (zt : Sz 28 t) (zo : Sz 28 o) (zp : Sz 28 p) (za : Sz 28 a) (zb : Sz 28 b) (zc : Sz 28 c) (zd : Sz 28 d) {z : Rat × Rat} (h : z ∈ crnL o p a b c d) :
    Sz 836 z.1 ∧ Sz 836 z.2 ∧ Sz 1900 (wd o p a b z.1 z.2 c d) := by
  have z1 : Sz 86 (a + (c - o)) := za.add (zc.sub zo)
  have z2 : Sz 86 (b + (d - p)) := zb.add (zd.sub zp)
  obtain ⟨m1, m2⟩ := sz_mir z1 z2 za zb zc zd fr.apart
  have par : ∀ w, w = (a + (c - o), b + (d - p)) → Sz 836 w.1 ∧ Sz 836 w.2 ∧ Sz 1900 (wd o p a b w.1 w.2 c d) := by
    rintro _ rfl
    exact ⟨z1.more (by decide), z2.more (by decide), by show Sz 1900 (wd o p a b (a + (c - o)) (b + (d - p)) c d); rw [(wd_par fr).1]; exact (sz_sq4 zt).more (by decide)⟩
  unfold crnL at h
  split at h
  · exact par z (List.mem_singleton.mp h)
  · rcases List.mem_cons.mp h with h | h
    · exact par z h
    · rw [List.mem_singleton.mp h]
      exact ⟨m1, m2, (sz_wd_mir zo zp za zb zc zd fr.apart).more (by decide)⟩
/-! promises of what the law reckons itself -/
def spCrnL : Sp := fun vs H Q _ => ∃ u v t o p a b c d n, vs = [u, v, t] ∧ Pm H u n o p ∧ Pm H v n a b ∧ Pm H t n c d ∧ (a ≠ c ∨ b ≠ d) ∧ 29 * n + 24 ≤ 8900 ∧ ∀ r H', Same H H' → New H H' r (.lst ((crnL o p a b c d).map ptP)) → Q r H'
def spOwnRoom : Sp := fun vs H Q _ => ∃ vo va vc vb vm vn o p a b x y c d m n, vs = [vo, va, vc, vb, vm, vn] ∧ Pm H vo 28 o p ∧ Pm H va 28 a b ∧ Pm H vc 836 x y ∧ Pm H vb 28 c d ∧ Nz H vm 400 m ∧ Nz H vn 400 n ∧ ∀ H', Same H H' → Q (.bl (rm m n o p a b c d (x, y))) H'
def spGoes : Sp := fun vs H Q _ => ∃ kind isc flat room vw vh wide high k l, vs = [.str kind, .bl isc, .bl flat, .bl room, vw, vh] ∧ Nz H vw k wide ∧ Nz H vh l high ∧ l + k ≤ 8900 ∧ ∀ H', Same H H' → Q (.bl (goesWith kind isc flat room wide high)) H'
section
variable {H H1 : Hp} {u v : V} {d e : Da}
theorem New.lst1' {p : Addr} (s : Same H H1) (hp : H1 p = none) (a : New H H1 v d) : New H (upd H1 p (.lst [v])) (.ref p) (.lst [d]) := fun S l =>
  .lst (mn_put (l.more s) hp) (.cons ((a S l).up (Same.less (Same.new hp))) .nil)
theorem New.lst2' {p : Addr} (s : Same H H1) (hp : H1 p = none) (a : New H H1 v d) (b : New H H1 u e) : New H (upd H1 p (.lst [v, u])) (.ref p) (.lst [d, e]) := fun S l =>
  .lst (mn_put (l.more s) hp) (.cons ((a S l).up (Same.less (Same.new hp))) (.cons ((b S l).up (Same.less (Same.new hp))) .nil))
end
/-! a list made beside a jar -/
theorem mn_wth {S : Addr → Bool} {D : Addr} {H : Hp} (h : H D = none) : Same (mn S H) (mn (wth S D) H) := fun b o e => by
  obtain ⟨e1, e2⟩ := mn_of e
  have bD : b ≠ D := fun z => by rw [z, h] at e2; cases e2
  rw [mn_at]
  · exact e2
  · unfold wth
    rw [e1, decide_eq_false bD]
    rfl
section
variable {J : It} {n : Nat} {G : Hp → Prop} {Y : Nat → Hp → V → Hp → Prop} {S : Addr → Bool}
theorem lc_mapS (w : Walk J n G Y) {g : TG} {tt : TT} {te : TE} {vs : List Nat} {σ : L2.St} {H : Hp} {D : Addr} {Qd : Hp → Prop} (f : Nat → Da) (hn : n ≤ 1000) (hD : H D = none) (hG : ∀ H', Same H H' → G H')
    (hs : ∀ m x H1 H2 (Q' : VK) (N : Hp → Prop), m < n → Same H H1 → H1 D ≠ none → Y m H1 x H2 → (∀ y H4, Same H1 H4 → Is (mn (wth S D) H4) y (f m) → Q' y H4) →
      g x (wipe σ vs) H2 fun σ2 H3 => wipe σ2 vs = wipe σ vs ∧ tt σ2 H3 fun b H4 => if b = true then te σ2 H4 Q' else N H4)
    (k : ∀ H' ys, Same H H' → H' D = some (.lst ys) → ys.length = n → IsAll (mn (wth S D) H') ys ((List.range n).map f) → Qd H') :
    ∃ W : Nat → Nat → Hp → Prop, (∃ m, W 0 m (upd H D (.lst []))) ∧ ∀ i m H, W i m H →
      (J.stop i H ∧ Qd H) ∨ (J.go i H ∧ ∃ Nx : Hp → Prop, (∀ H', Nx H' → ∃ m', m' < m ∧ W (i + 1) m' H') ∧ ∀ x H', J.yld i H x H' → g x (wipe σ vs) H' fun σ2 H2 => wipe σ2 vs = wipe σ vs ∧ tt σ2 H2 fun b H3 =>
        if b = true then te σ2 H3 fun y H4 => ∃ acc, H4 D = some (.lst acc) ∧ acc.length < sizeLine ∧ Nx (upd H4 D (.lst (acc ++ [y]))) else Nx H3) := by
  refine lc_it w (fun i H' => Same H H' ∧ ∃ acc, H' D = some (.lst acc) ∧ acc.length = i ∧ IsAll (mn (wth S D) H') acc ((List.range i).map f)) ⟨Same.new hD, [], upd_same, rfl, .nil⟩ (fun i H' _ p => hG H' p.1) ?_ ?_
  · rintro i x H1 H2 hi ⟨s1, acc, ha, hl, hall⟩ y
    refine hs i x H1 H2 _ _ hi s1 (by rw [ha]; exact nofun) y fun v H4 s4 nv => ⟨acc, s4 _ _ ha, by rw [hl]; exact Nat.lt_of_lt_of_le (show i < 1001 by omega) (by decide), Same.mut (s1.trans s4) hD, _, upd_same, by rw [List.length_append, hl]; rfl, ?_⟩
    rw [List.range_succ, List.map_append]
    exact (((hall.up (Same.less s4)).snoc nv)).up wth_put
  · rintro H' ⟨s1, acc, ha, hl, hall⟩
    exact k H' acc s1 ha hl hall
end
def spLockR : Sp := fun vs H Q _ => ∃ (S : Addr → Bool) (j bk : Addr) (i : Nat) (u v : V) (s t : Rat), vs = [.ref j, u, v] ∧ S j = true ∧ Live S H ∧ Jar j bk H i ∧ i + 5 ≤ 100000 ∧ Is (mn S H) u (ofR s) ∧ Is (mn S H) v (ofR t) ∧ 0 < s ∧ s < t ∧ Sz 28 s ∧ Sz 28 t ∧
  ∀ w m n H', Keep j H H' → Live S H' → Jar j bk H' (i + 5) → Is (mn S H') w (.tup [ofR m, ofR n, .str (kindOf s t m n)]) → 0 < m → 0 < n → Sz 400 m → Sz 400 n → Q w H'
/-- the number itself where it is above 0, else 1 less it -/
def posR (x : Rat) : Rat := if decide (0 < x) = true then x else 1 - x
theorem posR_pos {x : Rat} : 0 < posR x := by
  unfold posR
  split
  · rename_i h; exact of_decide_eq_true h
  · rename_i h
    have h' : ¬ 0 < x := fun z => h (decide_eq_true z)
    grind
theorem posR_sz {x : Rat} (h : Sz 3 x) : Sz 5 (posR x) := by
  unfold posR
  split
  · exact h.more (by decide)
  · exact sz_one.sub h
/-! what is shown and compared -/
theorem kind_okr {s t m n : Rat} : okr (.lst [.str (kindOf s t m n), .str (kindOf s t m n)]) = true := by
  unfold kindOf
  split
  · split
    · decide +kernel
    · split <;> decide +kernel
  · decide +kernel
theorem pts_show : ∀ (l : List (Rat × Rat)), (∀ z ∈ l, Sz 836 z.1 ∧ Sz 836 z.2) → numsA (l.map ptP) = true ∧ dpA (l.map ptP) ≤ 2 ∧ wtA (l.map ptP) ≤ l.length * 8016
  | [], _ => ⟨rfl, Nat.zero_le _, Nat.zero_le _⟩
  | z :: l, h => by
    obtain ⟨z1, z2⟩ := h z List.mem_cons_self
    obtain ⟨a1, a2, a3⟩ := pt_show (pt_pt (x := z.1) (y := z.2)) (z1.more (by decide)) (z2.more (by decide))
    obtain ⟨b1, b2, b3⟩ := pts_show l fun w hw => h w (List.mem_cons_of_mem _ hw)
    refine ⟨?_, ?_, ?_⟩
    · show (nums (pt z.1 z.2) && numsA (l.map ptP)) = true
      rw [a1, b1]
      rfl
    · show max (dp (pt z.1 z.2)) (dpA (l.map ptP)) ≤ 2
      omega
    · show wt (pt z.1 z.2) + 2 + wtA (l.map ptP) ≤ (l.length + 1) * 8016
      omega
theorem crnL_len {o p a b c d : Rat} : (crnL o p a b c d).length ≤ 2 := by
  unfold crnL
  split
  · show 1 ≤ 2; decide
  · show 2 ≤ 2; decide
theorem let_okr {m n o p a b c d : Rat} (h : ∀ z ∈ crnL o p a b c d, Sz 836 z.1 ∧ Sz 836 z.2) : okr (.lst [.tup (letD m n o p a b c d), .tup (letD m n o p a b c d)]) = true := by
  obtain ⟨a1, a2, a3⟩ := pts_show ((crnL o p a b c d).filter (rm m n o p a b c d)) fun z hz => h z (List.mem_filter.mp hz).1
  have ln : ((crnL o p a b c d).filter (rm m n o p a b c d)).length ≤ 2 := Nat.le_trans (List.length_filter_le _ _) crnL_len
  have a3' : wtA (letD m n o p a b c d) ≤ 16032 := Nat.le_trans a3 (Nat.mul_le_mul_right 8016 ln)
  have a1' : numsA (letD m n o p a b c d) = true := a1
  have a2' : dpA (letD m n o p a b c d) ≤ 2 := a2
  generalize letD m n o p a b c d = l at *
  have e1 : nums (.lst [.tup l, .tup l]) = true := by
    show (numsA l && (numsA l && true)) = true
    rw [a1']
    rfl
  have e2 : dp (.lst [.tup l, .tup l]) ≤ 60 := by
    show max (dpA l + 1) (max (dpA l + 1) 0) + 1 ≤ 60
    omega
  have e3 : wt (.lst [.tup l, .tup l]) ≤ 16000000 := by
    show wtA l + 10 + 2 + (wtA l + 10 + 2 + 0) + 10 ≤ 16000000
    omega
  unfold okr
  rw [e1, decide_eq_true e2, decide_eq_true e3]
  rfl
theorem pts_plain : ∀ (l : List (Rat × Rat)), plainA (l.map ptP) = true ∧ dpA (l.map ptP) ≤ 2
  | [] => ⟨rfl, Nat.zero_le _⟩
  | z :: l => by
    obtain ⟨a1, a2⟩ := plain_pt (x := z.1) (y := z.2)
    obtain ⟨b1, b2⟩ := pts_plain l
    constructor
    · show (plain (pt z.1 z.2) && plainA (l.map ptP)) = true
      rw [a1, b1]
      rfl
    · show max (dp (pt z.1 z.2)) (dpA (l.map ptP)) ≤ 2
      omega
theorem any_pts (z : Rat × Rat) : ∀ (l : List (Rat × Rat)), (pdA (l.map ptP)).any (fun w => PyData.eqv w (pd (ptP z))) = decide (z ∈ l)
  | [] => by rw [decide_eq_false List.not_mem_nil]; rfl
  | y :: l => by
    show (PyData.eqv (pd (pt y.1 y.2)) (pd (pt z.1 z.2)) || (pdA (l.map ptP)).any fun w => PyData.eqv w (pd (ptP z))) = _
    rw [any_pts z l, eqv_pt]
    by_cases h : z = y
    · subst h
      rw [decide_eq_true ⟨rfl, rfl⟩, decide_eq_true List.mem_cons_self]
      rfl
    · rw [decide_eq_false (fun w => h (Prod.ext w.1.symm w.2.symm)), Bool.false_or]
      exact decide_eq_decide.mpr ⟨fun w => List.mem_cons_of_mem _ w, fun w => (List.mem_cons.mp w).resolve_left h⟩
theorem any_in {m n o p a b c d : Rat} {z : Rat × Rat} (h : z ∈ crnL o p a b c d) : (pdA (letD m n o p a b c d)).any (fun w => PyData.eqv w (pd (ptP z))) = rm m n o p a b c d z := by
  unfold letD
  rw [any_pts]
  cases e : rm m n o p a b c d z with
  | true => exact decide_eq_true (List.mem_filter.mpr ⟨h, e⟩)
  | false => exact decide_eq_false fun w => by rw [(List.mem_filter.mp w).2] at e; cases e
/-- in due: the parts -/
theorem in_let {K : PySem.W.Frag} {H : Hp} {u v : V} {m n o p a b c d : Rat} {z : Rat × Rat} (h : z ∈ crnL o p a b c d) (hu : Is H u (ptP z)) (hv : Is H v (.lst (letD m n o p a b c d))) :
    ∃ d' ds, Dp K H u d' ∧ Dp K H v (.list ds) ∧ SeqAt.shaped d' = true ∧ SeqAt.shaped (.list ds) = true ∧ (ds.any fun w => PyData.eqv w d') = rm m n o p a b c d z := by
  obtain ⟨a1, a2⟩ := plain_pt (x := z.1) (y := z.2)
  obtain ⟨b1, b2⟩ := pts_plain ((crnL o p a b c d).filter (rm m n o p a b c d))
  have pl : plain (.lst (letD m n o p a b c d)) = true := b1
  have dl : dp (.lst (letD m n o p a b c d)) ≤ 60 := by
    show dpA (letD m n o p a b c d) + 1 ≤ 60
    have : dpA (letD m n o p a b c d) ≤ 2 := b2
    omega
  exact ⟨_, _, Is.dpP _ u hu a1, Is.dpP _ v hv pl, shaped_plain a1 (by show dp (pt z.1 z.2) ≤ 60; omega), shaped_plain pl dl, any_in h⟩
/-- an opening, sizes told closer -/
def openQ (d : Da) : Prop := ∃ s t o p a b c e, d = .tup [ofR s, ofR t, pt o p, pt a b, pt c e] ∧ Frame s t o p a b c e ∧ (Sz 3 s ∧ Sz 7 t ∧ Sz 3 o ∧ Sz 3 p ∧ Sz 28 a ∧ Sz 28 b ∧ Sz 28 c ∧ Sz 28 e)
theorem units65 {k : Nat} {A : Around} (r : Room k A) : A.units + 65 < cLine := by have := r.un; omega
end Ty

namespace Ty
open PySem PySem.Spec PyProof.Rows L2
def top (i : Nat) : Stmt := PySem.Challenge.pw_typedcurve_k36_whole_what_locks_let.main.body.getD i (.Pass ⟨0, 0, 0, 0⟩)
abbrev s_is_list : Stmt := top 2
abbrev N_is_list : List Str := ["value"]
theorem sc_is_list : FnScope N_is_list ["value"] (defScope s_is_list) := ⟨rfl, rfl, rfl, by decide +kernel, rfl, by decide +kernel, by decide +kernel⟩
abbrev s_is_integer : Stmt := top 3
abbrev N_is_integer : List Str := ["value"]
theorem sc_is_integer : FnScope N_is_integer ["value"] (defScope s_is_integer) := ⟨rfl, rfl, rfl, by decide +kernel, rfl, by decide +kernel, by decide +kernel⟩
abbrev s_is_within : Stmt := top 4
abbrev N_is_within : List Str := ["value", "least", "most"]
theorem sc_is_within : FnScope N_is_within ["value", "least", "most"] (defScope s_is_within) := ⟨rfl, rfl, rfl, by decide +kernel, rfl, by decide +kernel, by decide +kernel⟩
abbrev s_is_number : Stmt := top 5
abbrev N_is_number : List Str := ["value", "above", "below"]
theorem sc_is_number : FnScope N_is_number ["value"] (defScope s_is_number) := ⟨rfl, rfl, rfl, by decide +kernel, rfl, by decide +kernel, by decide +kernel⟩
abbrev s_is_point : Stmt := top 6
abbrev N_is_point : List Str := ["value"]
theorem sc_is_point : FnScope N_is_point ["value"] (defScope s_is_point) := ⟨rfl, rfl, rfl, by decide +kernel, rfl, by decide +kernel, by decide +kernel⟩
abbrev s_parts_of : Stmt := top 15
abbrev N_parts_of : List Str := ["number", "above", "below"]
theorem sc_parts_of : FnScope N_parts_of ["number"] (defScope s_parts_of) := ⟨rfl, rfl, rfl, by decide +kernel, rfl, by decide +kernel, by decide +kernel⟩
abbrev s_number_of : Stmt := top 16
abbrev N_number_of : List Str := ["above", "below", "shared"]
theorem sc_number_of : FnScope N_number_of ["above", "below"] (defScope s_number_of) := ⟨rfl, rfl, rfl, by decide +kernel, rfl, by decide +kernel, by decide +kernel⟩
abbrev s_sum_of : Stmt := top 17
abbrev N_sum_of : List Str := ["one", "other", "one_above", "one_below", "other_above", "other_below"]
theorem sc_sum_of : FnScope N_sum_of ["one", "other"] (defScope s_sum_of) := ⟨rfl, rfl, rfl, by decide +kernel, rfl, by decide +kernel, by decide +kernel⟩
abbrev s_negative_of : Stmt := top 18
abbrev N_negative_of : List Str := ["number", "above", "below"]
theorem sc_negative_of : FnScope N_negative_of ["number"] (defScope s_negative_of) := ⟨rfl, rfl, rfl, by decide +kernel, rfl, by decide +kernel, by decide +kernel⟩
abbrev s_difference_of : Stmt := top 19
abbrev N_difference_of : List Str := ["one", "other"]
theorem sc_difference_of : FnScope N_difference_of ["one", "other"] (defScope s_difference_of) := ⟨rfl, rfl, rfl, by decide +kernel, rfl, by decide +kernel, by decide +kernel⟩
abbrev s_product_of : Stmt := top 20
abbrev N_product_of : List Str := ["one", "other", "one_above", "one_below", "other_above", "other_below"]
theorem sc_product_of : FnScope N_product_of ["one", "other"] (defScope s_product_of) := ⟨rfl, rfl, rfl, by decide +kernel, rfl, by decide +kernel, by decide +kernel⟩
abbrev s_quotient_of : Stmt := top 21
abbrev N_quotient_of : List Str := ["one", "other", "other_above", "other_below"]
theorem sc_quotient_of : FnScope N_quotient_of ["one", "other"] (defScope s_quotient_of) := ⟨rfl, rfl, rfl, by decide +kernel, rfl, by decide +kernel, by decide +kernel⟩
abbrev s_sign_in : Stmt := top 22
abbrev N_sign_in : List Str := ["number", "above", "_"]
theorem sc_sign_in : FnScope N_sign_in ["number"] (defScope s_sign_in) := ⟨rfl, rfl, rfl, by decide +kernel, rfl, by decide +kernel, by decide +kernel⟩
abbrev s_is_less : Stmt := top 23
abbrev N_is_less : List Str := ["one", "other", "one_above", "one_below", "other_above", "other_below"]
theorem sc_is_less : FnScope N_is_less ["one", "other"] (defScope s_is_less) := ⟨rfl, rfl, rfl, by decide +kernel, rfl, by decide +kernel, by decide +kernel⟩
abbrev s_need_above_nothing : Stmt := top 25
abbrev N_need_above_nothing : List Str := ["value", "part"]
theorem sc_need_above_nothing : FnScope N_need_above_nothing ["value", "part"] (defScope s_need_above_nothing) := ⟨rfl, rfl, rfl, by decide +kernel, rfl, by decide +kernel, by decide +kernel⟩
abbrev s_need_point : Stmt := top 26
abbrev N_need_point : List Str := ["value", "part"]
theorem sc_need_point : FnScope N_need_point ["value", "part"] (defScope s_need_point) := ⟨rfl, rfl, rfl, by decide +kernel, rfl, by decide +kernel, by decide +kernel⟩
abbrev s_fixed : Stmt := top 28
abbrev N_fixed : List Str := ["value", "item"]
theorem sc_fixed : FnScope N_fixed ["value"] (defScope s_fixed) := ⟨rfl, rfl, rfl, by decide +kernel, rfl, by decide +kernel, by decide +kernel⟩
abbrev s_point_sum : Stmt := top 30
abbrev N_point_sum : List Str := ["one", "other"]
theorem sc_point_sum : FnScope N_point_sum ["one", "other"] (defScope s_point_sum) := ⟨rfl, rfl, rfl, by decide +kernel, rfl, by decide +kernel, by decide +kernel⟩
abbrev s_way_from : Stmt := top 31
abbrev N_way_from : List Str := ["one", "other"]
theorem sc_way_from : FnScope N_way_from ["one", "other"] (defScope s_way_from) := ⟨rfl, rfl, rfl, by decide +kernel, rfl, by decide +kernel, by decide +kernel⟩
abbrev s_point_times : Stmt := top 32
abbrev N_point_times : List Str := ["point", "number"]
theorem sc_point_times : FnScope N_point_times ["point", "number"] (defScope s_point_times) := ⟨rfl, rfl, rfl, by decide +kernel, rfl, by decide +kernel, by decide +kernel⟩
abbrev s_gone_on : Stmt := top 33
abbrev N_gone_on : List Str := ["one", "other", "share"]
theorem sc_gone_on : FnScope N_gone_on ["one", "other", "share"] (defScope s_gone_on) := ⟨rfl, rfl, rfl, by decide +kernel, rfl, by decide +kernel, by decide +kernel⟩
abbrev s_halfway : Stmt := top 34
abbrev N_halfway : List Str := ["one", "other"]
theorem sc_halfway : FnScope N_halfway ["one", "other"] (defScope s_halfway) := ⟨rfl, rfl, rfl, by decide +kernel, rfl, by decide +kernel, by decide +kernel⟩
abbrev s_leftward : Stmt := top 35
abbrev N_leftward : List Str := ["point", "x", "y"]
theorem sc_leftward : FnScope N_leftward ["point"] (defScope s_leftward) := ⟨rfl, rfl, rfl, by decide +kernel, rfl, by decide +kernel, by decide +kernel⟩
abbrev s_dot : Stmt := top 36
abbrev N_dot : List Str := ["one", "other"]
theorem sc_dot : FnScope N_dot ["one", "other"] (defScope s_dot) := ⟨rfl, rfl, rfl, by decide +kernel, rfl, by decide +kernel, by decide +kernel⟩
abbrev s_square_off : Stmt := top 37
abbrev N_square_off : List Str := ["one", "other", "way"]
theorem sc_square_off : FnScope N_square_off ["one", "other"] (defScope s_square_off) := ⟨rfl, rfl, rfl, by decide +kernel, rfl, by decide +kernel, by decide +kernel⟩
abbrev s_mirrored : Stmt := top 39
abbrev N_mirrored : List Str := ["point", "one", "other", "along", "share"]
theorem sc_mirrored : FnScope N_mirrored ["point", "one", "other"] (defScope s_mirrored) := ⟨rfl, rfl, rfl, by decide +kernel, rfl, by decide +kernel, by decide +kernel⟩
abbrev s_corners : Stmt := top 40
abbrev N_corners : List Str := ["s", "t", "o", "a", "b", "parallel"]
theorem sc_corners : FnScope N_corners ["s", "t", "o", "a", "b"] (defScope s_corners) := ⟨rfl, rfl, rfl, by decide +kernel, rfl, by decide +kernel, by decide +kernel⟩
abbrev s_is_flat : Stmt := top 41
abbrev N_is_flat : List Str := ["o", "a", "b", "along"]
theorem sc_is_flat : FnScope N_is_flat ["o", "a", "b"] (defScope s_is_flat) := ⟨rfl, rfl, rfl, by decide +kernel, rfl, by decide +kernel, by decide +kernel⟩
abbrev s_midpoints : Stmt := top 42
abbrev N_midpoints : List Str := ["o", "a", "c", "b"]
theorem sc_midpoints : FnScope N_midpoints ["o", "a", "c", "b"] (defScope s_midpoints) := ⟨rfl, rfl, rfl, by decide +kernel, rfl, by decide +kernel, by decide +kernel⟩
abbrev s_spread : Stmt := top 43
abbrev N_spread : List Str := ["o", "a", "c", "b", "first", "second", "third", "fourth"]
theorem sc_spread : FnScope N_spread ["o", "a", "c", "b"] (defScope s_spread) := ⟨rfl, rfl, rfl, by decide +kernel, rfl, by decide +kernel, by decide +kernel⟩
abbrev s_need_four : Stmt := top 44
abbrev N_need_four : List Str := ["o", "a", "c", "b"]
theorem sc_need_four : FnScope N_need_four ["o", "a", "c", "b"] (defScope s_need_four) := ⟨rfl, rfl, rfl, by decide +kernel, rfl, by decide +kernel, by decide +kernel⟩
abbrev s_parallel_corner : Stmt := top 45
abbrev N_parallel_corner : List Str := ["o", "a", "b"]
theorem sc_parallel_corner : FnScope N_parallel_corner ["o", "a", "b"] (defScope s_parallel_corner) := ⟨rfl, rfl, rfl, by decide +kernel, rfl, by decide +kernel, by decide +kernel⟩
abbrev s_lock_for : Stmt := top 48
abbrev N_lock_for : List Str := ["s", "t"]
theorem sc_lock_for : FnScope N_lock_for ["s", "t"] (defScope s_lock_for) := ⟨rfl, rfl, rfl, by decide +kernel, rfl, by decide +kernel, by decide +kernel⟩
abbrev s_lock_kind : Stmt := top 49
abbrev N_lock_kind : List Str := ["s", "t", "m", "n", "half"]
theorem sc_lock_kind : FnScope N_lock_kind ["s", "t", "m", "n"] (defScope s_lock_kind) := ⟨rfl, rfl, rfl, by decide +kernel, rfl, by decide +kernel, by decide +kernel⟩
abbrev s_locked_corners : Stmt := top 50
abbrev N_locked_corners : List Str := ["s", "t", "m", "n", "o", "a", "b", "found", "square", "c"]
theorem sc_locked_corners : FnScope N_locked_corners ["s", "t", "m", "n", "o", "a", "b"] (defScope s_locked_corners) := ⟨rfl, rfl, rfl, by decide +kernel, rfl, by decide +kernel, by decide +kernel⟩
abbrev s_need_lengths : Stmt := top 51
abbrev N_need_lengths : List Str := ["s", "t", "m", "n"]
theorem sc_need_lengths : FnScope N_need_lengths ["s", "t", "m", "n"] (defScope s_need_lengths) := ⟨rfl, rfl, rfl, by decide +kernel, rfl, by decide +kernel, by decide +kernel⟩
abbrev s_need_less : Stmt := top 52
abbrev N_need_less : List Str := ["s", "t"]
theorem sc_need_less : FnScope N_need_less ["s", "t"] (defScope s_need_less) := ⟨rfl, rfl, rfl, by decide +kernel, rfl, by decide +kernel, by decide +kernel⟩
abbrev s_apart : Stmt := top 53
abbrev N_apart : List Str := ["lesser", "greater"]
theorem sc_apart : FnScope N_apart ["lesser", "greater"] (defScope s_apart) := ⟨rfl, rfl, rfl, by decide +kernel, rfl, by decide +kernel, by decide +kernel⟩
abbrev s_is_crossed_lock : Stmt := top 54
abbrev N_is_crossed_lock : List Str := ["s", "t", "m", "n", "lock"]
theorem sc_is_crossed_lock : FnScope N_is_crossed_lock ["s", "t", "m", "n"] (defScope s_is_crossed_lock) := ⟨rfl, rfl, rfl, by decide +kernel, rfl, by decide +kernel, by decide +kernel⟩
abbrev s_has_room : Stmt := top 55
abbrev N_has_room : List Str := ["o", "a", "c", "b", "square", "x_square", "_"]
theorem sc_has_room : FnScope N_has_room ["o", "a", "c", "b", "square"] (defScope s_has_room) := ⟨rfl, rfl, rfl, by decide +kernel, rfl, by decide +kernel, by decide +kernel⟩
abbrev s_law_latch : Stmt := top 57
abbrev N_law_latch : List Str := ["script", "cell"]
theorem sc_law_latch : FnScope N_law_latch ["script"] (defScope s_law_latch) := ⟨rfl, rfl, rfl, by decide +kernel, rfl, by decide +kernel, by decide +kernel⟩
abbrev s_law_click : Stmt := top 58
abbrev N_law_click : List Str := ["latch", "many", "left", "turn", "cell", "mixed"]
theorem sc_law_click : FnScope N_law_click ["latch", "many"] (defScope s_law_click) := ⟨rfl, rfl, rfl, by decide +kernel, rfl, by decide +kernel, by decide +kernel⟩
abbrev s_law_pick : Stmt := top 59
abbrev N_law_pick : List Str := ["latch", "some"]
theorem sc_law_pick : FnScope N_law_pick ["latch", "some"] (defScope s_law_pick) := ⟨rfl, rfl, rfl, by decide +kernel, rfl, by decide +kernel, by decide +kernel⟩
abbrev s_law_form : Stmt := top 60
abbrev N_law_form : List Str := ["above", "below", "one", "other"]
theorem sc_law_form : FnScope N_law_form ["above", "below"] (defScope s_law_form) := ⟨rfl, rfl, rfl, by decide +kernel, rfl, by decide +kernel, by decide +kernel⟩
abbrev s_law_halves : Stmt := top 61
abbrev N_law_halves : List Str := ["number"]
theorem sc_law_halves : FnScope N_law_halves ["number"] (defScope s_law_halves) := ⟨rfl, rfl, rfl, by decide +kernel, rfl, by decide +kernel, by decide +kernel⟩
abbrev s_law_add : Stmt := top 62
abbrev N_law_add : List Str := ["one", "other", "a", "b", "c", "d"]
theorem sc_law_add : FnScope N_law_add ["one", "other"] (defScope s_law_add) := ⟨rfl, rfl, rfl, by decide +kernel, rfl, by decide +kernel, by decide +kernel⟩
abbrev s_law_less : Stmt := top 63
abbrev N_law_less : List Str := ["one", "other", "a", "b", "c", "d"]
theorem sc_law_less : FnScope N_law_less ["one", "other"] (defScope s_law_less) := ⟨rfl, rfl, rfl, by decide +kernel, rfl, by decide +kernel, by decide +kernel⟩
abbrev s_law_mul : Stmt := top 64
abbrev N_law_mul : List Str := ["one", "other", "a", "b", "c", "d"]
theorem sc_law_mul : FnScope N_law_mul ["one", "other"] (defScope s_law_mul) := ⟨rfl, rfl, rfl, by decide +kernel, rfl, by decide +kernel, by decide +kernel⟩
abbrev s_law_part : Stmt := top 65
abbrev N_law_part : List Str := ["one", "other", "a", "b", "c", "d"]
theorem sc_law_part : FnScope N_law_part ["one", "other"] (defScope s_law_part) := ⟨rfl, rfl, rfl, by decide +kernel, rfl, by decide +kernel, by decide +kernel⟩
abbrev s_law_under : Stmt := top 66
abbrev N_law_under : List Str := ["one", "other", "a", "b", "c", "d"]
theorem sc_law_under : FnScope N_law_under ["one", "other"] (defScope s_law_under) := ⟨rfl, rfl, rfl, by decide +kernel, rfl, by decide +kernel, by decide +kernel⟩
abbrev s_law_row : Stmt := top 67
abbrev N_law_row : List Str := ["one", "other"]
theorem sc_law_row : FnScope N_law_row ["one", "other"] (defScope s_law_row) := ⟨rfl, rfl, rfl, by decide +kernel, rfl, by decide +kernel, by decide +kernel⟩
abbrev s_law_gone : Stmt := top 68
abbrev N_law_gone : List Str := ["point", "row", "share"]
theorem sc_law_gone : FnScope N_law_gone ["point", "row", "share"] (defScope s_law_gone) := ⟨rfl, rfl, rfl, by decide +kernel, rfl, by decide +kernel, by decide +kernel⟩
abbrev s_law_dot : Stmt := top 69
abbrev N_law_dot : List Str := ["row", "other"]
theorem sc_law_dot : FnScope N_law_dot ["row", "other"] (defScope s_law_dot) := ⟨rfl, rfl, rfl, by decide +kernel, rfl, by decide +kernel, by decide +kernel⟩
abbrev s_law_cross : Stmt := top 70
abbrev N_law_cross : List Str := ["row", "other"]
theorem sc_law_cross : FnScope N_law_cross ["row", "other"] (defScope s_law_cross) := ⟨rfl, rfl, rfl, by decide +kernel, rfl, by decide +kernel, by decide +kernel⟩
abbrev s_law_far : Stmt := top 71
abbrev N_law_far : List Str := ["one", "other", "row"]
theorem sc_law_far : FnScope N_law_far ["one", "other"] (defScope s_law_far) := ⟨rfl, rfl, rfl, by decide +kernel, rfl, by decide +kernel, by decide +kernel⟩
abbrev s_law_number : Stmt := top 72
abbrev N_law_number : List Str := ["latch"]
theorem sc_law_number : FnScope N_law_number ["latch"] (defScope s_law_number) := ⟨rfl, rfl, rfl, by decide +kernel, rfl, by decide +kernel, by decide +kernel⟩
abbrev s_law_turn : Stmt := top 73
abbrev N_law_turn : List Str := ["latch", "n", "under"]
theorem sc_law_turn : FnScope N_law_turn ["latch"] (defScope s_law_turn) := ⟨rfl, rfl, rfl, by decide +kernel, rfl, by decide +kernel, by decide +kernel⟩
abbrev s_law_point : Stmt := top 74
abbrev N_law_point : List Str := ["latch"]
theorem sc_law_point : FnScope N_law_point ["latch"] (defScope s_law_point) := ⟨rfl, rfl, rfl, by decide +kernel, rfl, by decide +kernel, by decide +kernel⟩
abbrev s_law_opening : Stmt := top 75
abbrev N_law_opening : List Str := ["latch", "s", "t", "o", "one", "other"]
theorem sc_law_opening : FnScope N_law_opening ["latch"] (defScope s_law_opening) := ⟨rfl, rfl, rfl, by decide +kernel, rfl, by decide +kernel, by decide +kernel⟩
abbrev s_law_parallel : Stmt := top 76
abbrev N_law_parallel : List Str := ["o", "a", "b"]
theorem sc_law_parallel : FnScope N_law_parallel ["o", "a", "b"] (defScope s_law_parallel) := ⟨rfl, rfl, rfl, by decide +kernel, rfl, by decide +kernel, by decide +kernel⟩
abbrev s_law_mirrored : Stmt := top 77
abbrev N_law_mirrored : List Str := ["point", "one", "other", "row", "foot"]
theorem sc_law_mirrored : FnScope N_law_mirrored ["point", "one", "other"] (defScope s_law_mirrored) := ⟨rfl, rfl, rfl, by decide +kernel, rfl, by decide +kernel, by decide +kernel⟩
abbrev s_law_corners : Stmt := top 78
abbrev N_law_corners : List Str := ["o", "a", "b", "first"]
theorem sc_law_corners : FnScope N_law_corners ["o", "a", "b"] (defScope s_law_corners) := ⟨rfl, rfl, rfl, by decide +kernel, rfl, by decide +kernel, by decide +kernel⟩
abbrev s_law_half : Stmt := top 79
abbrev N_law_half : List Str := ["one", "other"]
theorem sc_law_half : FnScope N_law_half ["one", "other"] (defScope s_law_half) := ⟨rfl, rfl, rfl, by decide +kernel, rfl, by decide +kernel, by decide +kernel⟩
abbrev s_law_has_room : Stmt := top 80
abbrev N_law_has_room : List Str := ["o", "a", "c", "b", "m", "n", "points", "rows", "high", "low"]
theorem sc_law_has_room : FnScope N_law_has_room ["o", "a", "c", "b", "m", "n"] (defScope s_law_has_room) := ⟨rfl, rfl, rfl, by decide +kernel, rfl, by decide +kernel, by decide +kernel⟩
abbrev s_law_lock : Stmt := top 81
abbrev N_law_lock : List Str := ["latch", "s", "t", "way", "half", "m", "n", "quarter", "first", "up", "d", "both", "each"]
theorem sc_law_lock : FnScope N_law_lock ["latch", "s", "t"] (defScope s_law_lock) := ⟨rfl, rfl, rfl, by decide +kernel, rfl, by decide +kernel, by decide +kernel⟩
abbrev s_law_goes_with : Stmt := top 82
abbrev N_law_goes_with : List Str := ["kind", "is_crossed", "is_flat_v", "room", "wide", "high"]
theorem sc_law_goes_with : FnScope N_law_goes_with ["kind", "is_crossed", "is_flat_v", "room", "wide", "high"] (defScope s_law_goes_with) := ⟨rfl, rfl, rfl, by decide +kernel, rfl, by decide +kernel, by decide +kernel⟩
abbrev s_law_lock_right : Stmt := top 83
abbrev N_law_lock_right : List Str := ["latch", "s", "t", "o", "a", "b", "m", "n", "kind", "turn", "some", "flat", "due", "c", "wide", "one", "other"]
theorem sc_law_lock_right : FnScope N_law_lock_right ["latch"] (defScope s_law_lock_right) := ⟨rfl, rfl, rfl, by decide +kernel, rfl, by decide +kernel, by decide +kernel⟩
abbrev s_law_own_right : Stmt := top 84
abbrev N_law_own_right : List Str := ["latch", "s", "t", "o", "a", "b", "m", "n"]
theorem sc_law_own_right : FnScope N_law_own_right ["latch"] (defScope s_law_own_right) := ⟨rfl, rfl, rfl, by decide +kernel, rfl, by decide +kernel, by decide +kernel⟩
abbrev s_law : Stmt := top 85
abbrev N_law : List Str := ["script", "latch", "turn"]
theorem sc_law : FnScope N_law ["script"] (defScope s_law) := ⟨rfl, rfl, rfl, by decide +kernel, rfl, by decide +kernel, by decide +kernel⟩
abbrev si_BadNumber : Stmt := inClass (top 9) 0
abbrev Ni_BadNumber : List Str := ["self", "part"]
theorem sci_BadNumber : FnScope Ni_BadNumber Ni_BadNumber (defScope si_BadNumber) := ⟨rfl, rfl, rfl, by decide +kernel, rfl, by decide +kernel, by decide +kernel⟩
abbrev si_BadPoint : Stmt := inClass (top 10) 0
abbrev Ni_BadPoint : List Str := ["self", "part"]
theorem sci_BadPoint : FnScope Ni_BadPoint Ni_BadPoint (defScope si_BadPoint) := ⟨rfl, rfl, rfl, by decide +kernel, rfl, by decide +kernel, by decide +kernel⟩
abbrev si_Misfit : Stmt := inClass (top 11) 0
abbrev Ni_Misfit : List Str := ["self", "part"]
theorem sci_Misfit : FnScope Ni_Misfit Ni_Misfit (defScope si_Misfit) := ⟨rfl, rfl, rfl, by decide +kernel, rfl, by decide +kernel, by decide +kernel⟩
structure Txt (K : PySem.W.Frag) (mg : Str → Option Value) where
  a_is_list : Addr
  d_is_list : FuncData
  m_is_list : mg "is_list" = some (.ref a_is_list)
  F_is_list : Fun K "is_list" "is_list" s_is_list a_is_list d_is_list
  a_is_integer : Addr
  d_is_integer : FuncData
  m_is_integer : mg "is_integer" = some (.ref a_is_integer)
  F_is_integer : Fun K "is_integer" "is_integer" s_is_integer a_is_integer d_is_integer
  a_is_within : Addr
  d_is_within : FuncData
  m_is_within : mg "is_within" = some (.ref a_is_within)
  F_is_within : Fun K "is_within" "is_within" s_is_within a_is_within d_is_within
  a_is_number : Addr
  d_is_number : FuncData
  m_is_number : mg "is_number" = some (.ref a_is_number)
  F_is_number : Fun K "is_number" "is_number" s_is_number a_is_number d_is_number
  a_is_point : Addr
  d_is_point : FuncData
  m_is_point : mg "is_point" = some (.ref a_is_point)
  F_is_point : Fun K "is_point" "is_point" s_is_point a_is_point d_is_point
  a_parts_of : Addr
  d_parts_of : FuncData
  m_parts_of : mg "parts_of" = some (.ref a_parts_of)
  F_parts_of : Fun K "parts_of" "parts_of" s_parts_of a_parts_of d_parts_of
  a_number_of : Addr
  d_number_of : FuncData
  m_number_of : mg "number_of" = some (.ref a_number_of)
  F_number_of : Fun K "number_of" "number_of" s_number_of a_number_of d_number_of
  a_sum_of : Addr
  d_sum_of : FuncData
  m_sum_of : mg "sum_of" = some (.ref a_sum_of)
  F_sum_of : Fun K "sum_of" "sum_of" s_sum_of a_sum_of d_sum_of
  a_negative_of : Addr
  d_negative_of : FuncData
  m_negative_of : mg "negative_of" = some (.ref a_negative_of)
  F_negative_of : Fun K "negative_of" "negative_of" s_negative_of a_negative_of d_negative_of
  a_difference_of : Addr
  d_difference_of : FuncData
  m_difference_of : mg "difference_of" = some (.ref a_difference_of)
  F_difference_of : Fun K "difference_of" "difference_of" s_difference_of a_difference_of d_difference_of
  a_product_of : Addr
  d_product_of : FuncData
  m_product_of : mg "product_of" = some (.ref a_product_of)
  F_product_of : Fun K "product_of" "product_of" s_product_of a_product_of d_product_of
  a_quotient_of : Addr
  d_quotient_of : FuncData
  m_quotient_of : mg "quotient_of" = some (.ref a_quotient_of)
  F_quotient_of : Fun K "quotient_of" "quotient_of" s_quotient_of a_quotient_of d_quotient_of
  a_sign_in : Addr
  d_sign_in : FuncData
  m_sign_in : mg "sign_in" = some (.ref a_sign_in)
  F_sign_in : Fun K "sign_in" "sign_in" s_sign_in a_sign_in d_sign_in
  a_is_less : Addr
  d_is_less : FuncData
  m_is_less : mg "is_less" = some (.ref a_is_less)
  F_is_less : Fun K "is_less" "is_less" s_is_less a_is_less d_is_less
  a_need_above_nothing : Addr
  d_need_above_nothing : FuncData
  m_need_above_nothing : mg "need_above_nothing" = some (.ref a_need_above_nothing)
  F_need_above_nothing : Fun K "need_above_nothing" "need_above_nothing" s_need_above_nothing a_need_above_nothing d_need_above_nothing
  a_need_point : Addr
  d_need_point : FuncData
  m_need_point : mg "need_point" = some (.ref a_need_point)
  F_need_point : Fun K "need_point" "need_point" s_need_point a_need_point d_need_point
  a_fixed : Addr
  d_fixed : FuncData
  m_fixed : mg "fixed" = some (.ref a_fixed)
  F_fixed : Fun K "fixed" "fixed" s_fixed a_fixed d_fixed
  a_point_sum : Addr
  d_point_sum : FuncData
  m_point_sum : mg "point_sum" = some (.ref a_point_sum)
  F_point_sum : Fun K "point_sum" "point_sum" s_point_sum a_point_sum d_point_sum
  a_way_from : Addr
  d_way_from : FuncData
  m_way_from : mg "way_from" = some (.ref a_way_from)
  F_way_from : Fun K "way_from" "way_from" s_way_from a_way_from d_way_from
  a_point_times : Addr
  d_point_times : FuncData
  m_point_times : mg "point_times" = some (.ref a_point_times)
  F_point_times : Fun K "point_times" "point_times" s_point_times a_point_times d_point_times
  a_gone_on : Addr
  d_gone_on : FuncData
  m_gone_on : mg "gone_on" = some (.ref a_gone_on)
  F_gone_on : Fun K "gone_on" "gone_on" s_gone_on a_gone_on d_gone_on
  a_halfway : Addr
  d_halfway : FuncData
  m_halfway : mg "halfway" = some (.ref a_halfway)
  F_halfway : Fun K "halfway" "halfway" s_halfway a_halfway d_halfway
  a_leftward : Addr
  d_leftward : FuncData
  m_leftward : mg "leftward" = some (.ref a_leftward)
  F_leftward : Fun K "leftward" "leftward" s_leftward a_leftward d_leftward
  a_dot : Addr
  d_dot : FuncData
  m_dot : mg "dot" = some (.ref a_dot)
  F_dot : Fun K "dot" "dot" s_dot a_dot d_dot
  a_square_off : Addr
  d_square_off : FuncData
  m_square_off : mg "square_off" = some (.ref a_square_off)
  F_square_off : Fun K "square_off" "square_off" s_square_off a_square_off d_square_off
  a_mirrored : Addr
  d_mirrored : FuncData
  m_mirrored : mg "mirrored" = some (.ref a_mirrored)
  F_mirrored : Fun K "mirrored" "mirrored" s_mirrored a_mirrored d_mirrored
  a_corners : Addr
  d_corners : FuncData
  m_corners : mg "corners" = some (.ref a_corners)
  F_corners : Fun K "corners" "corners" s_corners a_corners d_corners
  a_is_flat : Addr
  d_is_flat : FuncData
  m_is_flat : mg "is_flat" = some (.ref a_is_flat)
  F_is_flat : Fun K "is_flat" "is_flat" s_is_flat a_is_flat d_is_flat
  a_midpoints : Addr
  d_midpoints : FuncData
  m_midpoints : mg "midpoints" = some (.ref a_midpoints)
  F_midpoints : Fun K "midpoints" "midpoints" s_midpoints a_midpoints d_midpoints
  a_spread : Addr
  d_spread : FuncData
  m_spread : mg "spread" = some (.ref a_spread)
  F_spread : Fun K "spread" "spread" s_spread a_spread d_spread
  a_need_four : Addr
  d_need_four : FuncData
  m_need_four : mg "need_four" = some (.ref a_need_four)
  F_need_four : Fun K "need_four" "need_four" s_need_four a_need_four d_need_four
  a_parallel_corner : Addr
  d_parallel_corner : FuncData
  m_parallel_corner : mg "parallel_corner" = some (.ref a_parallel_corner)
  F_parallel_corner : Fun K "parallel_corner" "parallel_corner" s_parallel_corner a_parallel_corner d_parallel_corner
  a_lock_for : Addr
  d_lock_for : FuncData
  m_lock_for : mg "lock_for" = some (.ref a_lock_for)
  F_lock_for : Fun K "lock_for" "lock_for" s_lock_for a_lock_for d_lock_for
  a_lock_kind : Addr
  d_lock_kind : FuncData
  m_lock_kind : mg "lock_kind" = some (.ref a_lock_kind)
  F_lock_kind : Fun K "lock_kind" "lock_kind" s_lock_kind a_lock_kind d_lock_kind
  a_locked_corners : Addr
  d_locked_corners : FuncData
  m_locked_corners : mg "locked_corners" = some (.ref a_locked_corners)
  F_locked_corners : Fun K "locked_corners" "locked_corners" s_locked_corners a_locked_corners d_locked_corners
  a_need_lengths : Addr
  d_need_lengths : FuncData
  m_need_lengths : mg "_need_lengths" = some (.ref a_need_lengths)
  F_need_lengths : Fun K "_need_lengths" "_need_lengths" s_need_lengths a_need_lengths d_need_lengths
  a_need_less : Addr
  d_need_less : FuncData
  m_need_less : mg "_need_less" = some (.ref a_need_less)
  F_need_less : Fun K "_need_less" "_need_less" s_need_less a_need_less d_need_less
  a_apart : Addr
  d_apart : FuncData
  m_apart : mg "_apart" = some (.ref a_apart)
  F_apart : Fun K "_apart" "_apart" s_apart a_apart d_apart
  a_is_crossed_lock : Addr
  d_is_crossed_lock : FuncData
  m_is_crossed_lock : mg "_is_crossed_lock" = some (.ref a_is_crossed_lock)
  F_is_crossed_lock : Fun K "_is_crossed_lock" "_is_crossed_lock" s_is_crossed_lock a_is_crossed_lock d_is_crossed_lock
  a_has_room : Addr
  d_has_room : FuncData
  m_has_room : mg "_has_room" = some (.ref a_has_room)
  F_has_room : Fun K "_has_room" "_has_room" s_has_room a_has_room d_has_room
  a_law_latch : Addr
  d_law_latch : FuncData
  m_law_latch : mg "_law_latch" = some (.ref a_law_latch)
  F_law_latch : Fun K "_law_latch" "_law_latch" s_law_latch a_law_latch d_law_latch
  a_law_click : Addr
  d_law_click : FuncData
  m_law_click : mg "_law_click" = some (.ref a_law_click)
  F_law_click : Fun K "_law_click" "_law_click" s_law_click a_law_click d_law_click
  a_law_pick : Addr
  d_law_pick : FuncData
  m_law_pick : mg "_law_pick" = some (.ref a_law_pick)
  F_law_pick : Fun K "_law_pick" "_law_pick" s_law_pick a_law_pick d_law_pick
  a_law_form : Addr
  d_law_form : FuncData
  m_law_form : mg "_law_form" = some (.ref a_law_form)
  F_law_form : Fun K "_law_form" "_law_form" s_law_form a_law_form d_law_form
  a_law_halves : Addr
  d_law_halves : FuncData
  m_law_halves : mg "_law_halves" = some (.ref a_law_halves)
  F_law_halves : Fun K "_law_halves" "_law_halves" s_law_halves a_law_halves d_law_halves
  a_law_add : Addr
  d_law_add : FuncData
  m_law_add : mg "_law_add" = some (.ref a_law_add)
  F_law_add : Fun K "_law_add" "_law_add" s_law_add a_law_add d_law_add
  a_law_less : Addr
  d_law_less : FuncData
  m_law_less : mg "_law_less" = some (.ref a_law_less)
  F_law_less : Fun K "_law_less" "_law_less" s_law_less a_law_less d_law_less
  a_law_mul : Addr
  d_law_mul : FuncData
  m_law_mul : mg "_law_mul" = some (.ref a_law_mul)
  F_law_mul : Fun K "_law_mul" "_law_mul" s_law_mul a_law_mul d_law_mul
  a_law_part : Addr
  d_law_part : FuncData
  m_law_part : mg "_law_part" = some (.ref a_law_part)
  F_law_part : Fun K "_law_part" "_law_part" s_law_part a_law_part d_law_part
  a_law_under : Addr
  d_law_under : FuncData
  m_law_under : mg "_law_under" = some (.ref a_law_under)
  F_law_under : Fun K "_law_under" "_law_under" s_law_under a_law_under d_law_under
  a_law_row : Addr
  d_law_row : FuncData
  m_law_row : mg "_law_row" = some (.ref a_law_row)
  F_law_row : Fun K "_law_row" "_law_row" s_law_row a_law_row d_law_row
  a_law_gone : Addr
  d_law_gone : FuncData
  m_law_gone : mg "_law_gone" = some (.ref a_law_gone)
  F_law_gone : Fun K "_law_gone" "_law_gone" s_law_gone a_law_gone d_law_gone
  a_law_dot : Addr
  d_law_dot : FuncData
  m_law_dot : mg "_law_dot" = some (.ref a_law_dot)
  F_law_dot : Fun K "_law_dot" "_law_dot" s_law_dot a_law_dot d_law_dot
  a_law_cross : Addr
  d_law_cross : FuncData
  m_law_cross : mg "_law_cross" = some (.ref a_law_cross)
  F_law_cross : Fun K "_law_cross" "_law_cross" s_law_cross a_law_cross d_law_cross
  a_law_far : Addr
  d_law_far : FuncData
  m_law_far : mg "_law_far" = some (.ref a_law_far)
  F_law_far : Fun K "_law_far" "_law_far" s_law_far a_law_far d_law_far
  a_law_number : Addr
  d_law_number : FuncData
  m_law_number : mg "_law_number" = some (.ref a_law_number)
  F_law_number : Fun K "_law_number" "_law_number" s_law_number a_law_number d_law_number
  a_law_turn : Addr
  d_law_turn : FuncData
  m_law_turn : mg "_law_turn" = some (.ref a_law_turn)
  F_law_turn : Fun K "_law_turn" "_law_turn" s_law_turn a_law_turn d_law_turn
  a_law_point : Addr
  d_law_point : FuncData
  m_law_point : mg "_law_point" = some (.ref a_law_point)
  F_law_point : Fun K "_law_point" "_law_point" s_law_point a_law_point d_law_point
  a_law_opening : Addr
  d_law_opening : FuncData
  m_law_opening : mg "_law_opening" = some (.ref a_law_opening)
  F_law_opening : Fun K "_law_opening" "_law_opening" s_law_opening a_law_opening d_law_opening
  a_law_parallel : Addr
  d_law_parallel : FuncData
  m_law_parallel : mg "_law_parallel" = some (.ref a_law_parallel)
  F_law_parallel : Fun K "_law_parallel" "_law_parallel" s_law_parallel a_law_parallel d_law_parallel
  a_law_mirrored : Addr
  d_law_mirrored : FuncData
  m_law_mirrored : mg "_law_mirrored" = some (.ref a_law_mirrored)
  F_law_mirrored : Fun K "_law_mirrored" "_law_mirrored" s_law_mirrored a_law_mirrored d_law_mirrored
  a_law_corners : Addr
  d_law_corners : FuncData
  m_law_corners : mg "_law_corners" = some (.ref a_law_corners)
  F_law_corners : Fun K "_law_corners" "_law_corners" s_law_corners a_law_corners d_law_corners
  a_law_half : Addr
  d_law_half : FuncData
  m_law_half : mg "_law_half" = some (.ref a_law_half)
  F_law_half : Fun K "_law_half" "_law_half" s_law_half a_law_half d_law_half
  a_law_has_room : Addr
  d_law_has_room : FuncData
  m_law_has_room : mg "_law_has_room" = some (.ref a_law_has_room)
  F_law_has_room : Fun K "_law_has_room" "_law_has_room" s_law_has_room a_law_has_room d_law_has_room
  a_law_lock : Addr
  d_law_lock : FuncData
  m_law_lock : mg "_law_lock" = some (.ref a_law_lock)
  F_law_lock : Fun K "_law_lock" "_law_lock" s_law_lock a_law_lock d_law_lock
  a_law_goes_with : Addr
  d_law_goes_with : FuncData
  m_law_goes_with : mg "_law_goes_with" = some (.ref a_law_goes_with)
  F_law_goes_with : Fun K "_law_goes_with" "_law_goes_with" s_law_goes_with a_law_goes_with d_law_goes_with
  a_law_lock_right : Addr
  d_law_lock_right : FuncData
  m_law_lock_right : mg "_law_lock_right" = some (.ref a_law_lock_right)
  F_law_lock_right : Fun K "_law_lock_right" "_law_lock_right" s_law_lock_right a_law_lock_right d_law_lock_right
  a_law_own_right : Addr
  d_law_own_right : FuncData
  m_law_own_right : mg "_law_own_right" = some (.ref a_law_own_right)
  F_law_own_right : Fun K "_law_own_right" "_law_own_right" s_law_own_right a_law_own_right d_law_own_right
  a_law : Addr
  d_law : FuncData
  m_law : mg "law" = some (.ref a_law)
  F_law : Fun K "law" "law" s_law a_law d_law
  m_gcd : mg "gcd" = some (.builtin "math.gcd")
  a_EIGHTH : Addr
  m_EIGHTH : mg "EIGHTH" = some (.ref a_EIGHTH)
  k_EIGHTH : KTup K a_EIGHTH 1 8
  a_HALF : Addr
  m_HALF : mg "HALF" = some (.ref a_HALF)
  k_HALF : KTup K a_HALF 1 2
  a_QUARTER : Addr
  m_QUARTER : mg "QUARTER" = some (.ref a_QUARTER)
  k_QUARTER : KTup K a_QUARTER 1 4
  c_BadNumber : Addr
  m_BadNumber : mg "BadNumber" = some (.ref c_BadNumber)
  c_BadPoint : Addr
  m_BadPoint : mg "BadPoint" = some (.ref c_BadPoint)
  c_Misfit : Addr
  m_Misfit : mg "Misfit" = some (.ref c_Misfit)
  i_BadNumber : Addr
  di_BadNumber : FuncData
  Fi_BadNumber : Fun K "__init__" "BadNumber.__init__" si_BadNumber i_BadNumber di_BadNumber
  ox_BadNumber : OexC K c_BadNumber
  fi_BadNumber : PySem.W.findIn K (.ref c_BadNumber) "__init__" = some (some (.ref i_BadNumber))
  ti_BadNumber : PySem.W.typeIn K (.ref i_BadNumber) = some (.type "function")
  xk_BadNumber : ExcK K c_BadNumber
  no_BadNumber_part : PySem.W.findIn K (.ref c_BadNumber) "part" = some none
  i_BadPoint : Addr
  di_BadPoint : FuncData
  Fi_BadPoint : Fun K "__init__" "BadPoint.__init__" si_BadPoint i_BadPoint di_BadPoint
  ox_BadPoint : OexC K c_BadPoint
  fi_BadPoint : PySem.W.findIn K (.ref c_BadPoint) "__init__" = some (some (.ref i_BadPoint))
  ti_BadPoint : PySem.W.typeIn K (.ref i_BadPoint) = some (.type "function")
  xk_BadPoint : ExcK K c_BadPoint
  no_BadPoint_part : PySem.W.findIn K (.ref c_BadPoint) "part" = some none
  i_Misfit : Addr
  di_Misfit : FuncData
  Fi_Misfit : Fun K "__init__" "Misfit.__init__" si_Misfit i_Misfit di_Misfit
  ox_Misfit : OexC K c_Misfit
  fi_Misfit : PySem.W.findIn K (.ref c_Misfit) "__init__" = some (some (.ref i_Misfit))
  ti_Misfit : PySem.W.typeIn K (.ref i_Misfit) = some (.type "function")
  xk_Misfit : ExcK K c_Misfit
  no_Misfit_part : PySem.W.findIn K (.ref c_Misfit) "part" = some none
  z_abs : mg "abs" = none
  z_bool : mg "bool" = none
  z_int : mg "int" = none
  z_isinstance : mg "isinstance" = none
  z_len : mg "len" = none
  z_list : mg "list" = none
  z_range : mg "range" = none
  z_repr : mg "repr" = none
  z_tuple : mg "tuple" = none
section
variable {K : PySem.W.Frag} {mg : Str → Option Value}
theorem b_is_list (T : Txt K mg) : Binds K T.d_is_list ["value"] [] := T.F_is_list.binds fun _ _ _ _ _ _ us hl => match us, hl with | [_], _ => rfl
theorem b_is_integer (T : Txt K mg) : Binds K T.d_is_integer ["value"] [] := T.F_is_integer.binds fun _ _ _ _ _ _ us hl => match us, hl with | [_], _ => rfl
theorem b_is_within (T : Txt K mg) : Binds K T.d_is_within ["value", "least", "most"] [] := T.F_is_within.binds fun _ _ _ _ _ _ us hl => match us, hl with | [_, _, _], _ => rfl
theorem b_is_number (T : Txt K mg) : Binds K T.d_is_number ["value"] [] := T.F_is_number.binds fun _ _ _ _ _ _ us hl => match us, hl with | [_], _ => rfl
theorem b_is_point (T : Txt K mg) : Binds K T.d_is_point ["value"] [] := T.F_is_point.binds fun _ _ _ _ _ _ us hl => match us, hl with | [_], _ => rfl
theorem b_parts_of (T : Txt K mg) : Binds K T.d_parts_of ["number"] [] := T.F_parts_of.binds fun _ _ _ _ _ _ us hl => match us, hl with | [_], _ => rfl
theorem b_number_of (T : Txt K mg) : Binds K T.d_number_of ["above", "below"] [] := T.F_number_of.binds fun _ _ _ _ _ _ us hl => match us, hl with | [_, _], _ => rfl
theorem b_sum_of (T : Txt K mg) : Binds K T.d_sum_of ["one", "other"] [] := T.F_sum_of.binds fun _ _ _ _ _ _ us hl => match us, hl with | [_, _], _ => rfl
theorem b_negative_of (T : Txt K mg) : Binds K T.d_negative_of ["number"] [] := T.F_negative_of.binds fun _ _ _ _ _ _ us hl => match us, hl with | [_], _ => rfl
theorem b_difference_of (T : Txt K mg) : Binds K T.d_difference_of ["one", "other"] [] := T.F_difference_of.binds fun _ _ _ _ _ _ us hl => match us, hl with | [_, _], _ => rfl
theorem b_product_of (T : Txt K mg) : Binds K T.d_product_of ["one", "other"] [] := T.F_product_of.binds fun _ _ _ _ _ _ us hl => match us, hl with | [_, _], _ => rfl
theorem b_quotient_of (T : Txt K mg) : Binds K T.d_quotient_of ["one", "other"] [] := T.F_quotient_of.binds fun _ _ _ _ _ _ us hl => match us, hl with | [_, _], _ => rfl
theorem b_sign_in (T : Txt K mg) : Binds K T.d_sign_in ["number"] [] := T.F_sign_in.binds fun _ _ _ _ _ _ us hl => match us, hl with | [_], _ => rfl
theorem b_is_less (T : Txt K mg) : Binds K T.d_is_less ["one", "other"] [] := T.F_is_less.binds fun _ _ _ _ _ _ us hl => match us, hl with | [_, _], _ => rfl
theorem b_need_above_nothing (T : Txt K mg) : Binds K T.d_need_above_nothing ["value", "part"] [] := T.F_need_above_nothing.binds fun _ _ _ _ _ _ us hl => match us, hl with | [_, _], _ => rfl
theorem b_need_point (T : Txt K mg) : Binds K T.d_need_point ["value", "part"] [] := T.F_need_point.binds fun _ _ _ _ _ _ us hl => match us, hl with | [_, _], _ => rfl
theorem b_fixed (T : Txt K mg) : Binds K T.d_fixed ["value"] [] := T.F_fixed.binds fun _ _ _ _ _ _ us hl => match us, hl with | [_], _ => rfl
theorem b_point_sum (T : Txt K mg) : Binds K T.d_point_sum ["one", "other"] [] := T.F_point_sum.binds fun _ _ _ _ _ _ us hl => match us, hl with | [_, _], _ => rfl
theorem b_way_from (T : Txt K mg) : Binds K T.d_way_from ["one", "other"] [] := T.F_way_from.binds fun _ _ _ _ _ _ us hl => match us, hl with | [_, _], _ => rfl
theorem b_point_times (T : Txt K mg) : Binds K T.d_point_times ["point", "number"] [] := T.F_point_times.binds fun _ _ _ _ _ _ us hl => match us, hl with | [_, _], _ => rfl
theorem b_gone_on (T : Txt K mg) : Binds K T.d_gone_on ["one", "other", "share"] [] := T.F_gone_on.binds fun _ _ _ _ _ _ us hl => match us, hl with | [_, _, _], _ => rfl
theorem b_halfway (T : Txt K mg) : Binds K T.d_halfway ["one", "other"] [] := T.F_halfway.binds fun _ _ _ _ _ _ us hl => match us, hl with | [_, _], _ => rfl
theorem b_leftward (T : Txt K mg) : Binds K T.d_leftward ["point"] [] := T.F_leftward.binds fun _ _ _ _ _ _ us hl => match us, hl with | [_], _ => rfl
theorem b_dot (T : Txt K mg) : Binds K T.d_dot ["one", "other"] [] := T.F_dot.binds fun _ _ _ _ _ _ us hl => match us, hl with | [_, _], _ => rfl
theorem b_square_off (T : Txt K mg) : Binds K T.d_square_off ["one", "other"] [] := T.F_square_off.binds fun _ _ _ _ _ _ us hl => match us, hl with | [_, _], _ => rfl
theorem b_mirrored (T : Txt K mg) : Binds K T.d_mirrored ["point", "one", "other"] [] := T.F_mirrored.binds fun _ _ _ _ _ _ us hl => match us, hl with | [_, _, _], _ => rfl
theorem b_corners (T : Txt K mg) : Binds K T.d_corners ["s", "t", "o", "a", "b"] [] := T.F_corners.binds fun _ _ _ _ _ _ us hl => match us, hl with | [_, _, _, _, _], _ => rfl
theorem b_is_flat (T : Txt K mg) : Binds K T.d_is_flat ["o", "a", "b"] [] := T.F_is_flat.binds fun _ _ _ _ _ _ us hl => match us, hl with | [_, _, _], _ => rfl
theorem b_midpoints (T : Txt K mg) : Binds K T.d_midpoints ["o", "a", "c", "b"] [] := T.F_midpoints.binds fun _ _ _ _ _ _ us hl => match us, hl with | [_, _, _, _], _ => rfl
theorem b_spread (T : Txt K mg) : Binds K T.d_spread ["o", "a", "c", "b"] [] := T.F_spread.binds fun _ _ _ _ _ _ us hl => match us, hl with | [_, _, _, _], _ => rfl
theorem b_need_four (T : Txt K mg) : Binds K T.d_need_four ["o", "a", "c", "b"] [] := T.F_need_four.binds fun _ _ _ _ _ _ us hl => match us, hl with | [_, _, _, _], _ => rfl
theorem b_parallel_corner (T : Txt K mg) : Binds K T.d_parallel_corner ["o", "a", "b"] [] := T.F_parallel_corner.binds fun _ _ _ _ _ _ us hl => match us, hl with | [_, _, _], _ => rfl
theorem b_lock_for (T : Txt K mg) : Binds K T.d_lock_for ["s", "t"] [] := T.F_lock_for.binds fun _ _ _ _ _ _ us hl => match us, hl with | [_, _], _ => rfl
theorem b_lock_kind (T : Txt K mg) : Binds K T.d_lock_kind ["s", "t", "m", "n"] [] := T.F_lock_kind.binds fun _ _ _ _ _ _ us hl => match us, hl with | [_, _, _, _], _ => rfl
theorem b_locked_corners (T : Txt K mg) : Binds K T.d_locked_corners ["s", "t", "m", "n", "o", "a", "b"] [] := T.F_locked_corners.binds fun _ _ _ _ _ _ us hl => match us, hl with | [_, _, _, _, _, _, _], _ => rfl
theorem b_need_lengths (T : Txt K mg) : Binds K T.d_need_lengths ["s", "t", "m", "n"] [] := T.F_need_lengths.binds fun _ _ _ _ _ _ us hl => match us, hl with | [_, _, _, _], _ => rfl
theorem b_need_less (T : Txt K mg) : Binds K T.d_need_less ["s", "t"] [] := T.F_need_less.binds fun _ _ _ _ _ _ us hl => match us, hl with | [_, _], _ => rfl
theorem b_apart (T : Txt K mg) : Binds K T.d_apart ["lesser", "greater"] [] := T.F_apart.binds fun _ _ _ _ _ _ us hl => match us, hl with | [_, _], _ => rfl
theorem b_is_crossed_lock (T : Txt K mg) : Binds K T.d_is_crossed_lock ["s", "t", "m", "n"] [] := T.F_is_crossed_lock.binds fun _ _ _ _ _ _ us hl => match us, hl with | [_, _, _, _], _ => rfl
theorem b_has_room (T : Txt K mg) : Binds K T.d_has_room ["o", "a", "c", "b", "square"] [] := T.F_has_room.binds fun _ _ _ _ _ _ us hl => match us, hl with | [_, _, _, _, _], _ => rfl
theorem b_law_latch (T : Txt K mg) : Binds K T.d_law_latch ["script"] [] := T.F_law_latch.binds fun _ _ _ _ _ _ us hl => match us, hl with | [_], _ => rfl
theorem b_law_click (T : Txt K mg) : Binds K T.d_law_click ["latch", "many"] [] := T.F_law_click.binds fun _ _ _ _ _ _ us hl => match us, hl with | [_, _], _ => rfl
theorem b_law_pick (T : Txt K mg) : Binds K T.d_law_pick ["latch", "some"] [] := T.F_law_pick.binds fun _ _ _ _ _ _ us hl => match us, hl with | [_, _], _ => rfl
theorem b_law_form (T : Txt K mg) : Binds K T.d_law_form ["above", "below"] [] := T.F_law_form.binds fun _ _ _ _ _ _ us hl => match us, hl with | [_, _], _ => rfl
theorem b_law_halves (T : Txt K mg) : Binds K T.d_law_halves ["number"] [] := T.F_law_halves.binds fun _ _ _ _ _ _ us hl => match us, hl with | [_], _ => rfl
theorem b_law_add (T : Txt K mg) : Binds K T.d_law_add ["one", "other"] [] := T.F_law_add.binds fun _ _ _ _ _ _ us hl => match us, hl with | [_, _], _ => rfl
theorem b_law_less (T : Txt K mg) : Binds K T.d_law_less ["one", "other"] [] := T.F_law_less.binds fun _ _ _ _ _ _ us hl => match us, hl with | [_, _], _ => rfl
theorem b_law_mul (T : Txt K mg) : Binds K T.d_law_mul ["one", "other"] [] := T.F_law_mul.binds fun _ _ _ _ _ _ us hl => match us, hl with | [_, _], _ => rfl
theorem b_law_part (T : Txt K mg) : Binds K T.d_law_part ["one", "other"] [] := T.F_law_part.binds fun _ _ _ _ _ _ us hl => match us, hl with | [_, _], _ => rfl
theorem b_law_under (T : Txt K mg) : Binds K T.d_law_under ["one", "other"] [] := T.F_law_under.binds fun _ _ _ _ _ _ us hl => match us, hl with | [_, _], _ => rfl
theorem b_law_row (T : Txt K mg) : Binds K T.d_law_row ["one", "other"] [] := T.F_law_row.binds fun _ _ _ _ _ _ us hl => match us, hl with | [_, _], _ => rfl
theorem b_law_gone (T : Txt K mg) : Binds K T.d_law_gone ["point", "row", "share"] [] := T.F_law_gone.binds fun _ _ _ _ _ _ us hl => match us, hl with | [_, _, _], _ => rfl
theorem b_law_dot (T : Txt K mg) : Binds K T.d_law_dot ["row", "other"] [] := T.F_law_dot.binds fun _ _ _ _ _ _ us hl => match us, hl with | [_, _], _ => rfl
theorem b_law_cross (T : Txt K mg) : Binds K T.d_law_cross ["row", "other"] [] := T.F_law_cross.binds fun _ _ _ _ _ _ us hl => match us, hl with | [_, _], _ => rfl
theorem b_law_far (T : Txt K mg) : Binds K T.d_law_far ["one", "other"] [] := T.F_law_far.binds fun _ _ _ _ _ _ us hl => match us, hl with | [_, _], _ => rfl
theorem b_law_number (T : Txt K mg) : Binds K T.d_law_number ["latch"] [] := T.F_law_number.binds fun _ _ _ _ _ _ us hl => match us, hl with | [_], _ => rfl
theorem b_law_turn (T : Txt K mg) : Binds K T.d_law_turn ["latch"] [] := T.F_law_turn.binds fun _ _ _ _ _ _ us hl => match us, hl with | [_], _ => rfl
theorem b_law_point (T : Txt K mg) : Binds K T.d_law_point ["latch"] [] := T.F_law_point.binds fun _ _ _ _ _ _ us hl => match us, hl with | [_], _ => rfl
theorem b_law_opening (T : Txt K mg) : Binds K T.d_law_opening ["latch"] [] := T.F_law_opening.binds fun _ _ _ _ _ _ us hl => match us, hl with | [_], _ => rfl
theorem b_law_parallel (T : Txt K mg) : Binds K T.d_law_parallel ["o", "a", "b"] [] := T.F_law_parallel.binds fun _ _ _ _ _ _ us hl => match us, hl with | [_, _, _], _ => rfl
theorem b_law_mirrored (T : Txt K mg) : Binds K T.d_law_mirrored ["point", "one", "other"] [] := T.F_law_mirrored.binds fun _ _ _ _ _ _ us hl => match us, hl with | [_, _, _], _ => rfl
theorem b_law_corners (T : Txt K mg) : Binds K T.d_law_corners ["o", "a", "b"] [] := T.F_law_corners.binds fun _ _ _ _ _ _ us hl => match us, hl with | [_, _, _], _ => rfl
theorem b_law_half (T : Txt K mg) : Binds K T.d_law_half ["one", "other"] [] := T.F_law_half.binds fun _ _ _ _ _ _ us hl => match us, hl with | [_, _], _ => rfl
theorem b_law_has_room (T : Txt K mg) : Binds K T.d_law_has_room ["o", "a", "c", "b", "m", "n"] [] := T.F_law_has_room.binds fun _ _ _ _ _ _ us hl => match us, hl with | [_, _, _, _, _, _], _ => rfl
theorem b_law_lock (T : Txt K mg) : Binds K T.d_law_lock ["latch", "s", "t"] [] := T.F_law_lock.binds fun _ _ _ _ _ _ us hl => match us, hl with | [_, _, _], _ => rfl
theorem b_law_goes_with (T : Txt K mg) : Binds K T.d_law_goes_with ["kind", "is_crossed", "is_flat_v", "room", "wide", "high"] [] := T.F_law_goes_with.binds fun _ _ _ _ _ _ us hl => match us, hl with | [_, _, _, _, _, _], _ => rfl
theorem b_law_lock_right (T : Txt K mg) : Binds K T.d_law_lock_right ["latch"] [] := T.F_law_lock_right.binds fun _ _ _ _ _ _ us hl => match us, hl with | [_], _ => rfl
theorem b_law_own_right (T : Txt K mg) : Binds K T.d_law_own_right ["latch"] [] := T.F_law_own_right.binds fun _ _ _ _ _ _ us hl => match us, hl with | [_], _ => rfl
theorem b_law (T : Txt K mg) : Binds K T.d_law ["script"] [] := T.F_law.binds fun _ _ _ _ _ _ us hl => match us, hl with | [_], _ => rfl
theorem bi_BadNumber (T : Txt K mg) : Binds K T.di_BadNumber ["self", "part"] [] := T.Fi_BadNumber.binds fun _ _ _ _ _ _ us hl => match us, hl with | [_, _], _ => rfl
theorem ini_BadNumber {P : Program} {w : World} {base : Heap} (T : Txt K mg) : FnOk P w K mg base CX0 1 T.i_BadNumber T.di_BadNumber ["self", "part"] (spIni1 T.c_BadNumber ["part"]) := by
  refine T.Fi_BadNumber.ok sci_BadNumber (fun vs H Q E h => ?_) (fun cdv A outer s H vs Q E hr h => ?_)
  · exact spIni1_len h
  · exact ⟨_, (pss_one (ps_ost (pv 0) (pv 1))), r_ini1 T.ox_BadNumber T.no_BadNumber_part h⟩
theorem bi_BadPoint (T : Txt K mg) : Binds K T.di_BadPoint ["self", "part"] [] := T.Fi_BadPoint.binds fun _ _ _ _ _ _ us hl => match us, hl with | [_, _], _ => rfl
theorem ini_BadPoint {P : Program} {w : World} {base : Heap} (T : Txt K mg) : FnOk P w K mg base CX0 1 T.i_BadPoint T.di_BadPoint ["self", "part"] (spIni1 T.c_BadPoint ["part"]) := by
  refine T.Fi_BadPoint.ok sci_BadPoint (fun vs H Q E h => ?_) (fun cdv A outer s H vs Q E hr h => ?_)
  · exact spIni1_len h
  · exact ⟨_, (pss_one (ps_ost (pv 0) (pv 1))), r_ini1 T.ox_BadPoint T.no_BadPoint_part h⟩
theorem bi_Misfit (T : Txt K mg) : Binds K T.di_Misfit ["self", "part"] [] := T.Fi_Misfit.binds fun _ _ _ _ _ _ us hl => match us, hl with | [_, _], _ => rfl
theorem ini_Misfit {P : Program} {w : World} {base : Heap} (T : Txt K mg) : FnOk P w K mg base CX0 1 T.i_Misfit T.di_Misfit ["self", "part"] (spIni1 T.c_Misfit ["part"]) := by
  refine T.Fi_Misfit.ok sci_Misfit (fun vs H Q E h => ?_) (fun cdv A outer s H vs Q E hr h => ?_)
  · exact spIni1_len h
  · exact ⟨_, (pss_one (ps_ost (pv 0) (pv 1))), r_ini1 T.ox_Misfit T.no_Misfit_part h⟩
theorem kb_lock_kind_0_n_m_t_s (T : Txt K mg) : KBn K T.d_lock_kind ["s", "t", "m", "n"] 0 ["n", "m", "t", "s"] (fun us ws => perm [3, 2, 1, 0] (us ++ ws)) (fun us ws => perm [3, 2, 1, 0] (us ++ ws)) := kbn_of T.F_lock_kind (fun _ _ _ _ _ _ us ws h1 h2 => match us, ws, h1, h2 with | [], [_, _, _, _], _, _ => rfl) (fun r1 r2 => Vals.perm (r1.append r2) [3, 2, 1, 0])
theorem kb_locked_corners_0_b_a_o_n_m_t_s (T : Txt K mg) : KBn K T.d_locked_corners ["s", "t", "m", "n", "o", "a", "b"] 0 ["b", "a", "o", "n", "m", "t", "s"] (fun us ws => perm [6, 5, 4, 3, 2, 1, 0] (us ++ ws)) (fun us ws => perm [6, 5, 4, 3, 2, 1, 0] (us ++ ws)) := kbn_of T.F_locked_corners (fun _ _ _ _ _ _ us ws h1 h2 => match us, ws, h1, h2 with | [], [_, _, _, _, _, _, _], _, _ => rfl) (fun r1 r2 => Vals.perm (r1.append r2) [6, 5, 4, 3, 2, 1, 0])
theorem kb_lock_for_0_t_s (T : Txt K mg) : KBn K T.d_lock_for ["s", "t"] 0 ["t", "s"] (fun us ws => perm [1, 0] (us ++ ws)) (fun us ws => perm [1, 0] (us ++ ws)) := kbn_of T.F_lock_for (fun _ _ _ _ _ _ us ws h1 h2 => match us, ws, h1, h2 with | [], [_, _], _, _ => rfl) (fun r1 r2 => Vals.perm (r1.append r2) [1, 0])
end
end Ty

namespace Ty
open PySem PySem.Spec PyProof.Rows L2
section
variable {P : Program} {w : World} {K : PySem.W.Frag} {mg : Str → Option Value} {base : Heap}
theorem ok_is_list (T : Txt K mg) : FnOk P w K mg base CX0 1 T.a_is_list T.d_is_list ["value"] (spD isS) := by
  refine T.F_is_list.ok sc_is_list (fun vs H Q E h => ?_) (fun cdv A outer s H vs Q E hr h => ?_)
  · obtain ⟨v, d, rfl, _⟩ := h
    rfl
  · obtain ⟨v, d, rfl, h, k⟩ := h
    refine ⟨_, (pss_one (ps_ret (pe_callB call_isiSeq (by rfl) T.z_isinstance (by decide +kernel) (pa_cons (pv 0) (pa_cons (pe_tup (pa_cons (pe_bltn (v := .ty "list") (by rfl) T.z_list (by decide +kernel) rfl) (pa_cons (pe_bltn (v := .ty "tuple") (by rfl) T.z_tuple (by decide +kernel) rfl) pa_nil))) pa_nil))))), ?_⟩
    exact ⟨_, rfl, (by decide : 2 ≤ sizeLine), fun p hp => ⟨v, d, p, rfl, upd_same, h.up (Same.new hp), k _ (Same.new hp)⟩⟩
theorem ok_is_integer (T : Txt K mg) : FnOk P w K mg base CX0 1 T.a_is_integer T.d_is_integer ["value"] (spD isN) := by
  refine T.F_is_integer.ok sc_is_integer (fun vs H Q E h => ?_) (fun cdv A outer s H vs Q E hr h => ?_)
  · obtain ⟨v, d, rfl, _⟩ := h
    rfl
  · obtain ⟨v, d, rfl, h, k⟩ := h
    refine ⟨_, (pss_one (ps_ret (pe_and (pe_callB call_isiInt (by rfl) T.z_isinstance (by decide +kernel) (pa_cons (pv 0) (pa_cons (pe_bltn (v := .ty "int") (by rfl) T.z_int (by decide +kernel) rfl) pa_nil))) (pe_one (pe_not (pe_callB call_isiBool (by rfl) T.z_isinstance (by decide +kernel) (pa_cons (pv 0) (pa_cons (pe_bltn (v := .ty "bool") (by rfl) T.z_bool (by decide +kernel) rfl) pa_nil)))))))), ?_⟩
    have kk : ∀ {b : Bool}, isN d = b → Q (.bl b) H := fun e => e ▸ k H (Same.refl H)
    refine ⟨_, rfl, v, d, rfl, h, _, rfl, iteB (fun c => ?_) fun c => ?_⟩
    · refine ⟨_, rfl, v, d, rfl, h, _, rfl, ?_⟩
      refine kk ?_
      cases d with
      | int _ => rfl
      | bl _ => rfl
      | _ => cases c
    · refine kk ?_
      cases d with
      | int _ => cases c
      | _ => rfl
theorem ok_parts_of (T : Txt K mg) : FnOk P w K mg base CX0 1 T.a_parts_of T.d_parts_of ["number"] (spHalvesK K) := by
  refine T.F_parts_of.ok sc_parts_of (fun vs H Q E h => ?_) (fun cdv A outer s H vs Q E hr h => ?_)
  · obtain ⟨v, d, rfl, _⟩ := h
    rfl
  · obtain ⟨v, d, rfl, h, hn, k⟩ := h
    refine ⟨_, (pss_cons (ps_if (pt_val (pe_callB (call_isiIntK (K := K) (by rfl)) (by rfl) T.z_isinstance (by decide +kernel) (pa_cons (pv 0) (pa_cons (pe_bltn (v := .ty "int") (by rfl) T.z_int (by decide +kernel) rfl) pa_nil)))) (pss_one (ps_ret (pe_tup (pa_cons (pv 0) (pa_cons pe_int pa_nil))))) pss_nil)
      (pss_cons (ps_asg (pv 0) (pg_or (pg_unl rfl (pgs_cons (pg_name (i := 1) sc_parts_of.nd rfl (Or.inl rfl)) (pgs_cons (pg_name (i := 2) sc_parts_of.nd rfl (Or.inl rfl)) pgs_nil))) (pg_tup rfl (pgs_cons (pg_name (i := 1) sc_parts_of.nd rfl (Or.inl rfl)) (pgs_cons (pg_name (i := 2) sc_parts_of.nd rfl (Or.inl rfl)) pgs_nil)))))
      (pss_one (ps_ret (pe_tup (pa_cons (pv 1) (pa_cons (pv 2) pa_nil))))))), ?_⟩
    refine ⟨_, rfl, v, d, rfl, h, _, rfl, iteB (fun c => ?_) fun c => ?_⟩
    · rcases numK_cases h hn with ⟨i, rfl, rfl⟩ | ⟨a, i, j, rfl, ⟨ha, rfl⟩ | ⟨ha, rfl⟩⟩
      · exact ⟨_, rfl, (by decide : 2 ≤ sizeLine), fun p hp => k _ p (Same.new hp) upd_same⟩
      · cases c
      · cases c
    · rcases numK_cases h hn with ⟨i, rfl, rfl⟩ | ⟨a, i, j, rfl, ⟨ha, rfl⟩ | ⟨ha, rfl⟩⟩
      · cases c
      · exact ⟨_, rfl, .inr ⟨a, _, rfl, ha, rfl, _, _, rfl, _, _, rfl, rfl, _, rfl, _, rfl, (by decide : 2 ≤ sizeLine), fun p hp => k _ p (Same.new hp) upd_same⟩⟩
      · exact ⟨_, rfl, .inl ⟨a, _, rfl, ha, rfl, _, _, rfl, _, _, rfl, rfl, _, rfl, _, rfl, (by decide : 2 ≤ sizeLine), fun p hp => k _ p (Same.new hp) upd_same⟩⟩
theorem ok_number_of (T : Txt K mg) : FnOk P w K mg base CX0 1 T.a_number_of T.d_number_of ["above", "below"] spNo := by
  refine T.F_number_of.ok sc_number_of (fun vs H Q E h => ?_) (fun cdv A outer s H vs Q E hr h => ?_)
  · obtain ⟨a, b, rfl, _⟩ := h
    rfl
  · obtain ⟨a, b, rfl, hb, hs, k⟩ := h
    refine ⟨_, (pss_cons (ps_set (i := 2) sc_number_of.nd rfl (Or.inl rfl) (pe_callBfun cr_gcd (by rfl) T.m_gcd (pa_cons (pv 0) (pa_cons (pv 1) pa_nil))))
      (Evl.pss_cut (ps_if (pt_cmpR op_lt (pv 1) pe_int (nomark _)) (pss_one (ps_set (i := 2) sc_number_of.nd rfl (Or.inl rfl) (pe_un un_neg (pv 2)))) pss_nil)
      (pss_cons (ps_if (pt_cmpR op_eq (pv 1) (pv 2) (nomark _)) (pss_one (ps_ret (pe_op op_fdivX (pv 0) (pv 2)))) pss_nil)
      (pss_one (ps_ret (pe_tup (pa_cons (pe_op op_fdivX (pv 0) (pv 2)) (pa_cons (pe_op op_fdivX (pv 1) (pv 2)) pa_nil)))))))), ?_⟩
    refine ⟨_, rfl, _, rfl, a, b, rfl, ?_⟩
    obtain ⟨g, hg⟩ : ∃ g : Int, g = if b < 0 then -((Nat.gcd a.natAbs b.natAbs : Nat) : Int) else ((Nat.gcd a.natAbs b.natAbs : Nat) : Int) := ⟨_, rfl⟩
    obtain ⟨g0, qp, low, one, gl⟩ := low_of hb hg
    have gs : g.natAbs < 2 ^ 8900 := Nat.lt_of_le_of_lt gl hs
    refine ⟨fun σ' H' => H' = H ∧ σ' = [some (.int a), some (.int b), some (.int g)], ?_, ?_⟩
    · refine ⟨_, rfl, _, _, rfl, rfl, _, rfl, iteD (fun c => ?_) fun c => ?_⟩
      · rw [if_pos c] at hg
        exact ⟨_, rfl, _, rfl, rfl, by rw [hg]; rfl⟩
      · rw [if_neg c] at hg
        exact ⟨rfl, by rw [hg]; rfl⟩
    rintro σ' H' ⟨rfl, rfl⟩
    refine ⟨_, rfl, _, rfl, rfl, _, rfl, iteD (fun c => ?_) fun c => ?_⟩
    · have c1 := one.mp (int_eq c)
      refine ⟨_, rfl, _, rfl, _, _, rfl, rfl, divX g0 gs (by decide) (by decide), k _ (.int (a.fdiv g)) _ (Same.refl _) New.int ?_⟩
      unfold frac at low
      rw [if_pos c1] at low
      exact low
    · have c1 : b.fdiv g ≠ 1 := fun z => int_ne c (one.mpr z)
      refine ⟨_, rfl, _, rfl, _, _, rfl, rfl, divX g0 gs (by decide) (by decide), _, rfl, _, rfl, _, _, rfl, rfl, divX g0 gs (by decide) (by decide), (by decide : 2 ≤ sizeLine), fun p hp => k _ (.tup [.int (a.fdiv g), .int (b.fdiv g)]) _ (Same.new hp) (New.tup2 hp upd_same New.int New.int) ?_⟩
      unfold frac at low
      rw [if_neg c1] at low
      exact low
theorem ok_is_within (T : Txt K mg) : FnOk P w K mg base CX0 2 T.a_is_within T.d_is_within ["value", "least", "most"] spW := by
  have G_is_integer := ok_is_integer (P := P) (w := w) (base := base) T
  refine T.F_is_within.ok sc_is_within (fun vs H Q E h => ?_) (fun cdv A outer s H vs Q E hr h => ?_)
  · obtain ⟨v, d, lo, hi, rfl, _⟩ := h
    rfl
  · obtain ⟨v, d, lo, hi, rfl, h, k⟩ := h
    refine ⟨_, (pss_cons (ps_if (pt_not (pt_val (pe_call G_is_integer (hr.mono (by decide)) (by rfl) T.m_is_integer T.F_is_integer.kp (b_is_integer T) .nil pass0 (pa_cons (pv 0) pa_nil)))) (pss_one (ps_ret pe_bl)) pss_nil)
      (pss_one (ps_ret (pe_and (pe_or (pe_cmpR op_isN (pv 1) pe_non (nomark _)) (pe_one (pe_cmpR op_ge (pv 0) (pv 1) (nomark _)))) (pe_one (pe_or (pe_cmpR op_isN (pv 2) pe_non (nomark _)) (pe_one (pe_cmpR op_le (pv 0) (pv 2) (nomark _))))))))), ?_⟩
    refine ⟨_, rfl, v, d, rfl, h, fun H1 s1 => ⟨_, rfl, iteN (fun c => ?_) fun c => ?_⟩⟩
    · have kk : ∀ {b : Bool}, within d lo hi = b → Q (.bl b) H1 := fun e => e ▸ k H1 s1
      refine kk ?_
      cases d with
      | int _ => cases c
      | _ => rfl
    · obtain ⟨i, rfl, rfl⟩ := isN_of h c
      have kk : ∀ {b : Bool}, within (.int i) lo hi = b → Q (.bl b) H1 := fun e => e ▸ k H1 s1
      have fin : ∀ b : Bool, okLo i lo = b → if b = true then tOrV (tOp (fun x y H Q => y = .non ∧ Q (.bl (decide (x = .non))) H) (tVar 2) (tC .non)) (tOp (rI0 fun i j => .bl (decide (i ≤ j))) (tVar 0) (tVar 2)) (start N_is_within [.int i, optV lo, optV hi]) H1 Q else Q (.bl false) H1 := by
        intro b e
        refine iteB (fun c => ?_) fun c => ?_
        · subst c
          have w : within (.int i) lo hi = okHi i hi := by
            show (okLo i lo && okHi i hi) = _
            rw [e, Bool.true_and]
          cases hi with
          | none => exact ⟨_, rfl, rfl, _, rfl, iteD (fun _ => kk w) fun z => absurd rfl z⟩
          | some m => exact ⟨_, rfl, rfl, _, rfl, iteD (fun z => nomatch z) fun _ => ⟨_, rfl, _, rfl, _, _, rfl, rfl, kk w⟩⟩
        · subst c
          refine kk ?_
          show (okLo i lo && okHi i hi) = _
          rw [e, Bool.false_and]
      cases lo with
      | none => exact ⟨_, rfl, rfl, _, rfl, iteD (fun _ => ⟨_, rfl, fin _ rfl⟩) fun z => absurd rfl z⟩
      | some l => exact ⟨_, rfl, rfl, _, rfl, iteD (fun z => nomatch z) fun _ => ⟨_, rfl, _, rfl, _, _, rfl, rfl, ⟨_, rfl, fin _ rfl⟩⟩⟩
theorem ok_sum_of (T : Txt K mg) : FnOk P w K mg base CX0 2 T.a_sum_of T.d_sum_of ["one", "other"] (spOn2 CT fSum) := by
  have G_parts_of := ok_parts_of (P := P) (w := w) (base := base) T
  have G_number_of := ok_number_of (P := P) (w := w) (base := base) T
  refine T.F_sum_of.ok sc_sum_of (fun vs H Q E h => ?_) (fun cdv A outer s H vs Q E hr h => ?_)
  · obtain ⟨u, v, d, e, rfl, _⟩ := h
    rfl
  · obtain ⟨u, v, d, e, rfl, hu, hv, nd, ne, ⟨m, n, m0, n0, mn, bd, be⟩, -, k⟩ := h
    refine ⟨_, (pss_cons (ps_asg (pe_call G_parts_of (hr.mono (by decide)) (by rfl) T.m_parts_of T.F_parts_of.kp (b_parts_of T) .nil pass0 (pa_cons (pv 0) pa_nil)) (pg_tup rfl (pgs_cons (pg_name (i := 2) sc_sum_of.nd rfl (Or.inl rfl)) (pgs_cons (pg_name (i := 3) sc_sum_of.nd rfl (Or.inl rfl)) pgs_nil))))
      (pss_cons (ps_asg (pe_call G_parts_of (hr.mono (by decide)) (by rfl) T.m_parts_of T.F_parts_of.kp (b_parts_of T) .nil pass0 (pa_cons (pv 1) pa_nil)) (pg_tup rfl (pgs_cons (pg_name (i := 4) sc_sum_of.nd rfl (Or.inl rfl)) (pgs_cons (pg_name (i := 5) sc_sum_of.nd rfl (Or.inl rfl)) pgs_nil))))
      (pss_one (ps_ret (pe_call G_number_of (hr.mono (by decide)) (by rfl) T.m_number_of T.F_number_of.kp (b_number_of T) .nil pass0 (pa_cons (pe_op op_add (pe_op op_mulW (pv 2) (pv 5)) (pe_op op_mulW (pv 4) (pv 3))) (pa_cons (pe_op op_mulW (pv 3) (pv 5)) pa_nil))))))), ?_⟩
    refine ⟨_, rfl, u, d, rfl, .inl hu, nd, fun H1 p1 s1 hp1 => ?_⟩
    refine ⟨p1, _, rfl, .inl (.inl hp1), rfl, _, _, rfl, _, _, rfl, rfl, ?_⟩
    refine ⟨_, rfl, v, e, rfl, .inl (hv.up s1), ne, fun H2 p2 s2 hp2 => ?_⟩
    refine ⟨p2, _, rfl, .inl (.inl hp2), rfl, _, _, rfl, _, _, rfl, rfl, ?_⟩
    have mm := wide_lt bd.2 be.2
    have q1 := (num_parts nd).1
    have q2 := (num_parts ne).1
    refine ⟨_, rfl, _, rfl, _, _, rfl, rfl, wide_mul bd.1 be.2 m0 n0 (by omega), _, rfl, _, rfl, _, _, rfl, rfl, wide_mul be.1 bd.2 n0 m0 (by omega), _, _, rfl, rfl, _, rfl, _, rfl, _, _, rfl, rfl, wide_mul bd.2 be.2 m0 n0 (by omega), _, _, rfl, Int.mul_ne_zero (by omega) (by omega), Nat.lt_of_lt_of_le mm (Nat.pow_le_pow_right (by decide) mn), fun w r H3 s3 n3 l3 => ?_⟩
    exact k w r H3 ((s1.trans s2).trans s3) (n3.from (s1.trans s2)) l3
theorem ok_negative_of (T : Txt K mg) : FnOk P w K mg base CX0 2 T.a_negative_of T.d_negative_of ["number"] (spOn fNeg) := by
  have G_parts_of := ok_parts_of (P := P) (w := w) (base := base) T
  have G_number_of := ok_number_of (P := P) (w := w) (base := base) T
  refine T.F_negative_of.ok sc_negative_of (fun vs H Q E h => ?_) (fun cdv A outer s H vs Q E hr h => ?_)
  · obtain ⟨v, d, rfl, _⟩ := h
    rfl
  · obtain ⟨v, d, rfl, hv, nd, bd, k⟩ := h
    refine ⟨_, (pss_cons (ps_asg (pe_call G_parts_of (hr.mono (by decide)) (by rfl) T.m_parts_of T.F_parts_of.kp (b_parts_of T) .nil pass0 (pa_cons (pv 0) pa_nil)) (pg_tup rfl (pgs_cons (pg_name (i := 1) sc_negative_of.nd rfl (Or.inl rfl)) (pgs_cons (pg_name (i := 2) sc_negative_of.nd rfl (Or.inl rfl)) pgs_nil))))
      (pss_one (ps_ret (pe_call G_number_of (hr.mono (by decide)) (by rfl) T.m_number_of T.F_number_of.kp (b_number_of T) .nil pass0 (pa_cons (pe_un un_neg (pv 1)) (pa_cons (pv 2) pa_nil)))))), ?_⟩
    refine ⟨_, rfl, v, d, rfl, .inl hv, nd, fun H1 p1 s1 hp1 => ?_⟩
    refine ⟨p1, _, rfl, .inl (.inl hp1), rfl, _, _, rfl, _, _, rfl, rfl, ?_⟩
    have q1 := (num_parts nd).1
    refine ⟨_, rfl, _, rfl, _, rfl, _, _, rfl, by omega, Nat.lt_of_lt_of_le bd.2 (Nat.pow_le_pow_right (by decide) (by decide)), fun w r H3 s3 n3 l3 => ?_⟩
    exact k w r H3 (s1.trans s3) (n3.from s1) l3
theorem ok_product_of (T : Txt K mg) : FnOk P w K mg base CX0 2 T.a_product_of T.d_product_of ["one", "other"] (spOnK K CT fProd) := by
  have G_parts_of := ok_parts_of (P := P) (w := w) (base := base) T
  have G_number_of := ok_number_of (P := P) (w := w) (base := base) T
  refine T.F_product_of.ok sc_product_of (fun vs H Q E h => ?_) (fun cdv A outer s H vs Q E hr h => ?_)
  · obtain ⟨u, v, d, e, rfl, _⟩ := h
    rfl
  · obtain ⟨u, v, d, e, rfl, hu, hv, nd, ne, ⟨m, n, m0, n0, mn, bd, be⟩, -, k⟩ := h
    refine ⟨_, (pss_cons (ps_asg (pe_call G_parts_of (hr.mono (by decide)) (by rfl) T.m_parts_of T.F_parts_of.kp (b_parts_of T) .nil pass0 (pa_cons (pv 0) pa_nil)) (pg_tup rfl (pgs_cons (pg_name (i := 2) sc_product_of.nd rfl (Or.inl rfl)) (pgs_cons (pg_name (i := 3) sc_product_of.nd rfl (Or.inl rfl)) pgs_nil))))
      (pss_cons (ps_asg (pe_call G_parts_of (hr.mono (by decide)) (by rfl) T.m_parts_of T.F_parts_of.kp (b_parts_of T) .nil pass0 (pa_cons (pv 1) pa_nil)) (pg_tup rfl (pgs_cons (pg_name (i := 4) sc_product_of.nd rfl (Or.inl rfl)) (pgs_cons (pg_name (i := 5) sc_product_of.nd rfl (Or.inl rfl)) pgs_nil))))
      (pss_one (ps_ret (pe_call G_number_of (hr.mono (by decide)) (by rfl) T.m_number_of T.F_number_of.kp (b_number_of T) .nil pass0 (pa_cons (pe_op op_mulW (pv 2) (pv 4)) (pa_cons (pe_op op_mulW (pv 3) (pv 5)) pa_nil))))))), ?_⟩
    refine ⟨_, rfl, u, d, rfl, hu, nd, fun H1 p1 s1 hp1 => ?_⟩
    refine ⟨p1, _, rfl, .inl (.inl hp1), rfl, _, _, rfl, _, _, rfl, rfl, ?_⟩
    refine ⟨_, rfl, v, e, rfl, .inl (hv.up s1), ne, fun H2 p2 s2 hp2 => ?_⟩
    refine ⟨p2, _, rfl, .inl (.inl hp2), rfl, _, _, rfl, _, _, rfl, rfl, ?_⟩
    have mm := wide_lt bd.2 be.2
    have q1 := (num_parts nd).1
    have q2 := (num_parts ne).1
    refine ⟨_, rfl, _, rfl, _, _, rfl, rfl, wide_mul bd.1 be.1 m0 n0 (by omega), _, rfl, _, rfl, _, _, rfl, rfl, wide_mul bd.2 be.2 m0 n0 (by omega), _, _, rfl, Int.mul_ne_zero (by omega) (by omega), Nat.lt_of_lt_of_le mm (Nat.pow_le_pow_right (by decide) mn), fun w r H3 s3 n3 l3 => ?_⟩
    exact k w r H3 ((s1.trans s2).trans s3) (n3.from (s1.trans s2)) l3
theorem ok_sign_in (T : Txt K mg) : FnOk P w K mg base CX0 2 T.a_sign_in T.d_sign_in ["number"] (spOn fSign) := by
  have G_parts_of := ok_parts_of (P := P) (w := w) (base := base) T
  refine T.F_sign_in.ok sc_sign_in (fun vs H Q E h => ?_) (fun cdv A outer s H vs Q E hr h => ?_)
  · obtain ⟨v, d, rfl, _⟩ := h
    rfl
  · obtain ⟨v, d, rfl, hv, nd, bd, k⟩ := h
    refine ⟨_, (pss_cons (ps_asg (pe_call G_parts_of (hr.mono (by decide)) (by rfl) T.m_parts_of T.F_parts_of.kp (b_parts_of T) .nil pass0 (pa_cons (pv 0) pa_nil)) (pg_tup rfl (pgs_cons (pg_name (i := 1) sc_sign_in.nd rfl (Or.inl rfl)) (pgs_cons (pg_name (i := 2) sc_sign_in.nd rfl (Or.inl rfl)) pgs_nil))))
      (pss_one (ps_ret (pe_op op_subBl (pe_cmpR op_gt (pv 1) pe_int (nomark _)) (pe_cmpR op_lt (pv 1) pe_int (nomark _)))))), ?_⟩
    refine ⟨_, rfl, v, d, rfl, .inl hv, nd, fun H1 p1 s1 hp1 => ?_⟩
    refine ⟨p1, _, rfl, .inl (.inl hp1), rfl, _, _, rfl, _, _, rfl, rfl, ?_⟩
    exact ⟨_, rfl, _, _, rfl, rfl, _, rfl, _, _, rfl, rfl, _, _, rfl, rfl, k _ _ H1 s1 New.int rfl⟩
theorem ok_is_less (T : Txt K mg) : FnOk P w K mg base CX0 2 T.a_is_less T.d_is_less ["one", "other"] (spOn2 CT fLess) := by
  have G_parts_of := ok_parts_of (P := P) (w := w) (base := base) T
  refine T.F_is_less.ok sc_is_less (fun vs H Q E h => ?_) (fun cdv A outer s H vs Q E hr h => ?_)
  · obtain ⟨u, v, d, e, rfl, _⟩ := h
    rfl
  · obtain ⟨u, v, d, e, rfl, hu, hv, nd, ne, ⟨m, n, m0, n0, mn, bd, be⟩, -, k⟩ := h
    refine ⟨_, (pss_cons (ps_asg (pe_call G_parts_of (hr.mono (by decide)) (by rfl) T.m_parts_of T.F_parts_of.kp (b_parts_of T) .nil pass0 (pa_cons (pv 0) pa_nil)) (pg_tup rfl (pgs_cons (pg_name (i := 2) sc_is_less.nd rfl (Or.inl rfl)) (pgs_cons (pg_name (i := 3) sc_is_less.nd rfl (Or.inl rfl)) pgs_nil))))
      (pss_cons (ps_asg (pe_call G_parts_of (hr.mono (by decide)) (by rfl) T.m_parts_of T.F_parts_of.kp (b_parts_of T) .nil pass0 (pa_cons (pv 1) pa_nil)) (pg_tup rfl (pgs_cons (pg_name (i := 4) sc_is_less.nd rfl (Or.inl rfl)) (pgs_cons (pg_name (i := 5) sc_is_less.nd rfl (Or.inl rfl)) pgs_nil))))
      (pss_one (ps_ret (pe_cmpR op_lt (pe_op op_mulW (pv 2) (pv 5)) (pe_op op_mulW (pv 4) (pv 3)) (nomark _)))))), ?_⟩
    refine ⟨_, rfl, u, d, rfl, .inl hu, nd, fun H1 p1 s1 hp1 => ?_⟩
    refine ⟨p1, _, rfl, .inl (.inl hp1), rfl, _, _, rfl, _, _, rfl, rfl, ?_⟩
    refine ⟨_, rfl, v, e, rfl, .inl (hv.up s1), ne, fun H2 p2 s2 hp2 => ?_⟩
    refine ⟨p2, _, rfl, .inl (.inl hp2), rfl, _, _, rfl, _, _, rfl, rfl, ?_⟩
    refine ⟨_, rfl, _, rfl, _, _, rfl, rfl, wide_mul bd.1 be.2 m0 n0 (by omega), _, rfl, _, rfl, _, _, rfl, rfl, wide_mul be.1 bd.2 n0 m0 (by omega), _, _, rfl, rfl, ?_⟩
    exact k _ _ H2 (s1.trans s2) New.bl rfl
theorem ok_is_number (T : Txt K mg) : FnOk P w K mg base CX0 3 T.a_is_number T.d_is_number ["value"] (spD isNum) := by
  have G_is_integer := ok_is_integer (P := P) (w := w) (base := base) T
  have G_is_within := ok_is_within (P := P) (w := w) (base := base) T
  have G_is_list := ok_is_list (P := P) (w := w) (base := base) T
  refine T.F_is_number.ok sc_is_number (fun vs H Q E h => ?_) (fun cdv A outer s H vs Q E hr h => ?_)
  · obtain ⟨v, d, rfl, _⟩ := h
    rfl
  · obtain ⟨v, d, rfl, h, k⟩ := h
    refine ⟨_, (pss_cons (ps_if (pt_val (pe_call G_is_integer (hr.mono (by decide)) (by rfl) T.m_is_integer T.F_is_integer.kp (b_is_integer T) .nil pass0 (pa_cons (pv 0) pa_nil))) (pss_one (ps_ret pe_bl)) pss_nil)
      (pss_cons (ps_if (PW.pt (pw_or (pt_not (pt_val (pe_call G_is_list (hr.mono (by decide)) (by rfl) T.m_is_list T.F_is_list.kp (b_is_list T) .nil pass0 (pa_cons (pv 0) pa_nil)))) (pw_or1 (pt_cmpR op_ne (pe_callB call_len_seq (by rfl) T.z_len PySem.boot_len (pa_cons (pv 0) pa_nil)) pe_int (nomark _))))) (pss_one (ps_ret pe_bl)) pss_nil)
      (pss_cons (ps_asg (pv 0) (pg_or (pg_unl rfl (pgs_cons (pg_name (i := 1) sc_is_number.nd rfl (Or.inl rfl)) (pgs_cons (pg_name (i := 2) sc_is_number.nd rfl (Or.inl rfl)) pgs_nil))) (pg_tup rfl (pgs_cons (pg_name (i := 1) sc_is_number.nd rfl (Or.inl rfl)) (pgs_cons (pg_name (i := 2) sc_is_number.nd rfl (Or.inl rfl)) pgs_nil)))))
      (pss_one (ps_ret (pe_and (pe_call G_is_integer (hr.mono (by decide)) (by rfl) T.m_is_integer T.F_is_integer.kp (b_is_integer T) .nil pass0 (pa_cons (pv 1) pa_nil)) (pe_and (pe_call G_is_within (hr.mono (by decide)) (by rfl) T.m_is_within T.F_is_within.kp (b_is_within T) .nil pass0 (pa_cons (pv 2) (pa_cons pe_int (pa_cons pe_non pa_nil)))) (pe_one (pe_cmpR op_eq (pe_callBfun cr_gcd (by rfl) T.m_gcd (pa_cons (pv 1) (pa_cons (pv 2) pa_nil))) pe_int (nomark _)))))))))), ?_⟩
    have kk : ∀ {b : Bool} {H1 : Hp}, Same H H1 → isNum d = b → Q (.bl b) H1 := fun s e => e ▸ k _ s
    refine ⟨_, rfl, v, d, rfl, h, fun H1 s1 => ⟨_, rfl, iteB (fun c => ?_) fun c => ?_⟩⟩
    · exact kk s1 (by rw [isNum, c, Bool.true_or])
    refine ⟨_, rfl, v, d, rfl, h.up s1, fun H2 s2 => ⟨_, rfl, iteN (fun e => ?_) fun e => ?_⟩⟩
    · exact iteT (kk (s1.trans s2) (by rw [isNum, c, e, Bool.false_and, Bool.or_false]))
    have s12 := s1.trans s2
    obtain ⟨a, xs, rfl, hs, hx⟩ := (h.up s12).seq (K := K) e
    refine ⟨_, rfl, a, xs, rfl, hs, rfl, _, rfl, iteE (fun l => ?_) fun l => ?_⟩
    · refine kk s12 ?_
      have l' : (items d).length ≠ 2 := fun z => int_ne l (by rw [hx.length, z]; rfl)
      rw [isNum, c, e, Bool.true_and, Bool.false_or]
      exact isPair_len _ l'
    have l2 := int_eq l
    match xs, l2, hx with
    | [x, y], _, hx =>
      obtain ⟨dx, dy, e1, h1, h2⟩ : ∃ dx dy, items d = [dx, dy] ∧ Is H2 x dx ∧ Is H2 y dy := by
        generalize items d = ds at hx
        cases hx with
        | cons h1 hx =>
          cases hx with
          | cons h2 hx =>
            cases hx
            exact ⟨_, _, rfl, h1, h2⟩
      have nm : isNum d = isPair [dx, dy] := by rw [isNum, c, e, e1, Bool.true_and, Bool.false_or]
      have fin : tRet (tAndV (tCall (spD isN) [] E0 (tCons (tVar 1) tNil)) (tAndV (tCall spW [] E0 (tCons (tVar 2) (tCons (tC (.int 2)) (tCons (tC .non) tNil)))) (tOp rEq (tCB rGcd (tCons (tVar 1) (tCons (tVar 2) tNil))) (tC (.int 1))))) { nx := fun _ H' => Q .non H', rt := Q } [some (.ref a), some x, some y] H2 := by
        refine ⟨_, rfl, x, dx, rfl, h1, fun H3 s3 => ⟨_, rfl, iteB (fun c1 => ?_) fun c1 => ?_⟩⟩
        · obtain ⟨i, rfl, rfl⟩ := isN_of h1 c1
          refine ⟨_, rfl, y, dy, some 2, none, rfl, h2.up s3, fun H4 s4 => ⟨_, rfl, iteB (fun c2 => ?_) fun c2 => ?_⟩⟩
          · cases h2 with
            | int j =>
              have c3 : (2 : Int) ≤ j := of_decide_eq_true (by rwa [within, okHi, okLo, Bool.and_true] at c2)
              refine ⟨_, rfl, _, rfl, i, j, rfl, rfl, kk ((s12.trans s3).trans s4) ?_⟩
              rw [nm, isPair, decide_eq_true c3, Bool.true_and, coprime]
              by_cases g : Nat.gcd i.natAbs j.natAbs = 1
              · rw [decide_eq_true g]
                exact (decide_eq_true (by rw [g]; rfl)).symm
              · rw [decide_eq_false g]
                exact (decide_eq_false fun z => g (by have := int_eq z; omega)).symm
            | _ => cases c2
          · refine kk ((s12.trans s3).trans s4) ?_
            rw [nm]
            cases h2 with
            | int j =>
              have c3 : decide ((2 : Int) ≤ j) = false := by rwa [within, okHi, okLo, Bool.and_true] at c2
              rw [isPair, c3, Bool.false_and]
            | _ => rfl
        · refine kk (s12.trans s3) ?_
          rw [nm]
          cases h1 with
          | int j => cases c1
          | _ => rfl
      rcases hs with hs | hs
      · exact ⟨_, rfl, .inl ⟨a, _, rfl, hs, rfl, x, _, rfl, y, _, rfl, rfl, fin⟩⟩
      · exact ⟨_, rfl, .inr ⟨a, _, rfl, hs, rfl, x, _, rfl, y, _, rfl, rfl, fin⟩⟩
theorem ok_difference_of (T : Txt K mg) : FnOk P w K mg base CX0 3 T.a_difference_of T.d_difference_of ["one", "other"] (spOn2 CT fDiff) := by
  have G_sum_of := ok_sum_of (P := P) (w := w) (base := base) T
  have G_negative_of := ok_negative_of (P := P) (w := w) (base := base) T
  refine T.F_difference_of.ok sc_difference_of (fun vs H Q E h => ?_) (fun cdv A outer s H vs Q E hr h => ?_)
  · obtain ⟨u, v, d, e, rfl, _⟩ := h
    rfl
  · obtain ⟨u, v, d, e, rfl, hu, hv, nd, ne, ⟨m, n, m0, n0, mn, bd, be⟩, -, k⟩ := h
    refine ⟨_, (pss_one (ps_ret (pe_call G_sum_of (hr.mono (by decide)) (by rfl) T.m_sum_of T.F_sum_of.kp (b_sum_of T) .nil pass0 (pa_cons (pv 0) (pa_cons (pe_call G_negative_of (hr.mono (by decide)) (by rfl) T.m_negative_of T.F_negative_of.kp (b_negative_of T) .nil pass0 (pa_cons (pv 1) pa_nil)) pa_nil))))), ?_⟩
    refine ⟨_, rfl, _, rfl, v, e, rfl, hv, ne, be.more (by omega), fun x f H1 s1 n1 l1 => ?_⟩
    have bf : NB n f := l1.nb (by rw [Int.natAbs_neg]; exact be.1) be.2
    have q1 := (num_parts nd).1
    have q2 := (num_parts ne).1
    refine ⟨u, x, d, f, rfl, hu.up s1, n1.is, nd, l1.num.1, ⟨m, n, m0, n0, mn, bd, bf⟩, trivial, fun w r H3 s3 n3 l3 => ?_⟩
    exact k w r H3 (s1.trans s3) (n3.from s1) (diff_of l1 l3 (by omega) (by omega))
theorem ok_quotient_of (T : Txt K mg) : FnOk P w K mg base CX0 3 T.a_quotient_of T.d_quotient_of ["one", "other"] (spOn2 (fun _ e => above e ≠ 0) fQuot) := by
  have G_parts_of := ok_parts_of (P := P) (w := w) (base := base) T
  have G_product_of := ok_product_of (P := P) (w := w) (base := base) T
  have G_number_of := ok_number_of (P := P) (w := w) (base := base) T
  refine T.F_quotient_of.ok sc_quotient_of (fun vs H Q E h => ?_) (fun cdv A outer s H vs Q E hr h => ?_)
  · obtain ⟨u, v, d, e, rfl, _⟩ := h
    rfl
  · obtain ⟨u, v, d, e, rfl, hu, hv, nd, ne, ⟨m, n, m0, n0, mn, bd, be⟩, hc, k⟩ := h
    refine ⟨_, (pss_cons (ps_asg (pe_call G_parts_of (hr.mono (by decide)) (by rfl) T.m_parts_of T.F_parts_of.kp (b_parts_of T) .nil pass0 (pa_cons (pv 1) pa_nil)) (pg_tup rfl (pgs_cons (pg_name (i := 2) sc_quotient_of.nd rfl (Or.inl rfl)) (pgs_cons (pg_name (i := 3) sc_quotient_of.nd rfl (Or.inl rfl)) pgs_nil))))
      (pss_one (ps_ret (pe_call G_product_of (hr.mono (by decide)) (by rfl) T.m_product_of T.F_product_of.kp (b_product_of T) .nil pass0 (pa_cons (pv 0) (pa_cons (pe_call G_number_of (hr.mono (by decide)) (by rfl) T.m_number_of T.F_number_of.kp (b_number_of T) .nil pass0 (pa_cons (pv 3) (pa_cons (pv 2) pa_nil))) pa_nil)))))), ?_⟩
    refine ⟨_, rfl, v, e, rfl, .inl hv, ne, fun H1 p1 s1 hp1 => ?_⟩
    refine ⟨p1, _, rfl, .inl (.inl hp1), rfl, _, _, rfl, _, _, rfl, rfl, ?_⟩
    refine ⟨_, rfl, _, rfl, _, rfl, _, _, rfl, hc, Nat.lt_of_lt_of_le be.1 (Nat.pow_le_pow_right (by decide) (by omega)), fun x f H2 s2 n2 l2 => ?_⟩
    have q1 := (num_parts nd).1
    refine ⟨u, x, d, f, rfl, .inl (hu.up (s1.trans s2)), n2.is, nd, l2.num.1, ⟨m, n, m0, n0, mn, bd, l2.nb be.2 be.1⟩, trivial, fun w r H3 s3 n3 l3 => ?_⟩
    exact k w r H3 ((s1.trans s2).trans s3) (n3.from (s1.trans s2)) (quot_of l2 l3 (by omega) hc rfl rfl)
theorem ok_point_sum (T : Txt K mg) : FnOk P w K mg base CX0 3 T.a_point_sum T.d_point_sum ["one", "other"] (spPP (fun x y z w => x + z) (fun x y z w => y + w)) := by
  have G_sum_of := ok_sum_of (P := P) (w := w) (base := base) T
  refine T.F_point_sum.ok sc_point_sum (fun vs H Q E h => ?_) (fun cdv A outer s H vs Q E hr h => ?_)
  · obtain ⟨u, v, d, e, x, y, z, w, m, n, rfl, _⟩ := h
    rfl
  · obtain ⟨u, v, d, e, x, y, z, w, m, n, rfl, hu, hv, pd, pe, ⟨m0, n0, mn, zx, zy, zz, zw⟩, k⟩ := h
    refine ⟨_, (pss_one (ps_ret (pe_tup (pa_cons (pe_call G_sum_of (hr.mono (by decide)) (by rfl) T.m_sum_of T.F_sum_of.kp (b_sum_of T) .nil pass0 (pa_cons (pe_ix (IxR.or (r := rIxL K) (r' := rIxT K) ix_list ix_tup) (pv 0) pe_int (fun _ _ => rfl)) (pa_cons (pe_ix (IxR.or (r := rIxL K) (r' := rIxT K) ix_list ix_tup) (pv 1) pe_int (fun _ _ => rfl)) pa_nil))) (pa_cons (pe_call G_sum_of (hr.mono (by decide)) (by rfl) T.m_sum_of T.F_sum_of.kp (b_sum_of T) .nil pass0 (pa_cons (pe_ix (IxR.or (r := rIxL K) (r' := rIxT K) ix_list ix_tup) (pv 0) pe_int (fun _ _ => rfl)) (pa_cons (pe_ix (IxR.or (r := rIxL K) (r' := rIxT K) ix_list ix_tup) (pv 1) pe_int (fun _ _ => rfl)) pa_nil))) pa_nil))))), ?_⟩
    refine ⟨_, rfl, pd.fst hu fun a ha => ⟨_, rfl, pe.fst hv fun b hb => on_sum ha hb ⟨m, n, m0, n0, by omega, zx, zz⟩ fun w1 H1 s1 n1 => ?_⟩⟩
    refine ⟨_, rfl, pd.snd (hu.up s1) fun a ha => ⟨_, rfl, pe.snd (hv.up s1) fun b hb => on_sum ha hb ⟨m, n, m0, n0, by omega, zy, zw⟩ fun w2 H2 s2 n2 => ?_⟩⟩
    exact ⟨(by decide : 2 ≤ sizeLine), fun p hp => k _ _ ((s1.trans s2).trans (Same.new hp)) (New.pt2 (s1.trans s2) hp (n1.up s2) (n2.from s1))⟩
theorem ok_point_times (T : Txt K mg) : FnOk P w K mg base CX0 3 T.a_point_times T.d_point_times ["point", "number"] (spPTimesK K) := by
  have G_product_of := ok_product_of (P := P) (w := w) (base := base) T
  refine T.F_point_times.ok sc_point_times (fun vs H Q E h => ?_) (fun cdv A outer s H vs Q E hr h => ?_)
  · obtain ⟨u, v, d, e, x, y, m, n, rfl, _⟩ := h
    rfl
  · obtain ⟨u, v, d, e, x, y, m, n, rfl, hu, hv, pd, ne, ⟨m0, n0, mn, zx, zy, ze⟩, k⟩ := h
    refine ⟨_, (pss_one (ps_ret (pe_tup (pa_cons (pe_call G_product_of (hr.mono (by decide)) (by rfl) T.m_product_of T.F_product_of.kp (b_product_of T) .nil pass0 (pa_cons (pv 1) (pa_cons (pe_ix (IxR.or (r := rIxL K) (r' := rIxT K) ix_list ix_tup) (pv 0) pe_int (fun _ _ => rfl)) pa_nil))) (pa_cons (pe_call G_product_of (hr.mono (by decide)) (by rfl) T.m_product_of T.F_product_of.kp (b_product_of T) .nil pass0 (pa_cons (pv 1) (pa_cons (pe_ix (IxR.or (r := rIxL K) (r' := rIxT K) ix_list ix_tup) (pv 0) pe_int (fun _ _ => rfl)) pa_nil))) pa_nil))))), ?_⟩
    have nv : NmK K H v (rt e) := ⟨e, hv, ne, rfl⟩
    refine ⟨_, rfl, _, rfl, pd.fst hu fun a ha => on_prodM nv ha ⟨n, m, n0, m0, by omega, ze, zx⟩ fun w1 H1 s1 n1 => ?_⟩
    refine ⟨_, rfl, _, rfl, pd.snd (hu.up s1) fun a ha => on_prodM (nv.up s1) ha ⟨n, m, n0, m0, by omega, ze, zy⟩ fun w2 H2 s2 n2 => ?_⟩
    exact ⟨(by decide : 2 ≤ sizeLine), fun p hp => k _ _ ((s1.trans s2).trans (Same.new hp)) (New.pt2 (s1.trans s2) hp (n1.up s2) (n2.from s1))⟩
theorem ok_dot (T : Txt K mg) : FnOk P w K mg base CX0 3 T.a_dot T.d_dot ["one", "other"] (spPN (fun x y z w => x * z + y * w)) := by
  have G_sum_of := ok_sum_of (P := P) (w := w) (base := base) T
  have G_product_of := ok_product_of (P := P) (w := w) (base := base) T
  refine T.F_dot.ok sc_dot (fun vs H Q E h => ?_) (fun cdv A outer s H vs Q E hr h => ?_)
  · obtain ⟨u, v, d, e, x, y, z, w, m, n, rfl, _⟩ := h
    rfl
  · obtain ⟨u, v, d, e, x, y, z, w, m, n, rfl, hu, hv, pd, pe, ⟨m0, n0, mn, zx, zy, zz, zw⟩, k⟩ := h
    refine ⟨_, (pss_one (ps_ret (pe_call G_sum_of (hr.mono (by decide)) (by rfl) T.m_sum_of T.F_sum_of.kp (b_sum_of T) .nil pass0 (pa_cons (pe_call G_product_of (hr.mono (by decide)) (by rfl) T.m_product_of T.F_product_of.kp (b_product_of T) .nil pass0 (pa_cons (pe_ix (IxR.or (r := rIxL K) (r' := rIxT K) ix_list ix_tup) (pv 0) pe_int (fun _ _ => rfl)) (pa_cons (pe_ix (IxR.or (r := rIxL K) (r' := rIxT K) ix_list ix_tup) (pv 1) pe_int (fun _ _ => rfl)) pa_nil))) (pa_cons (pe_call G_product_of (hr.mono (by decide)) (by rfl) T.m_product_of T.F_product_of.kp (b_product_of T) .nil pass0 (pa_cons (pe_ix (IxR.or (r := rIxL K) (r' := rIxT K) ix_list ix_tup) (pv 0) pe_int (fun _ _ => rfl)) (pa_cons (pe_ix (IxR.or (r := rIxL K) (r' := rIxT K) ix_list ix_tup) (pv 1) pe_int (fun _ _ => rfl)) pa_nil))) pa_nil))))), ?_⟩
    refine ⟨_, rfl, pd.fst hu fun a ha => ⟨_, rfl, pe.fst hv fun b hb => on_prodM ha.k hb ⟨m, n, m0, n0, by omega, zx, zz⟩ fun w1 H1 s1 n1 => ?_⟩⟩
    refine ⟨_, rfl, pd.snd (hu.up s1) fun a ha => ⟨_, rfl, pe.snd (hv.up s1) fun b hb => on_prodM ha.k hb ⟨m, n, m0, n0, by omega, zy, zw⟩ fun w2 H2 s2 n2 => ?_⟩⟩
    exact on_sum (n1.up s2).nm n2.nm ⟨m + n, m + n, by omega, by omega, by omega, zx.mul zz, zy.mul zw⟩ fun w3 H3 s3 n3 => k _ _ ((s1.trans s2).trans s3) (n3.from (s1.trans s2))
theorem ok_need_less (T : Txt K mg) : FnOk P w K mg base (L2.CX P w) 3 T.a_need_less T.d_need_less ["s", "t"] spNeedLess := by
  have G_is_less := ok_is_less (P := P) (w := w) (base := base) T
  refine T.F_need_less.okX sc_need_less (fun vs H Q E h => ?_) (fun cdv A outer s H vs Q E hr h => ?_)
  · obtain ⟨u, v, s, t, n, rfl, _⟩ := h
    rfl
  · obtain ⟨u, v, s, t, n, rfl, h1, h2, st, bn, k⟩ := h
    refine ⟨_, (pss_one (ps_if (pt_not (pt_val (pe_call G_is_less (hr.mono (by decide)) (by rfl) T.m_is_less T.F_is_less.kp (b_is_less T) .nil pass0 (pa_cons (pv 0) (pa_cons (pv 1) pa_nil))))) (pss_one (ps_raise rfl (takes_of rfl rfl rfl rfl) (pmk_oex T.ox_Misfit T.fi_Misfit T.ti_Misfit (ini_Misfit (P := P) (w := w) (base := base) T) (hr.mono (by decide)) (bi_Misfit T) .nil pass0 (by rfl) T.m_Misfit (pa_cons pe_str pa_nil)))) pss_nil)), ?_⟩
    exact ⟨_, rfl, _, rfl, on_lessN h1 h2 bn fun H1 s1 => ⟨_, rfl, iteN (fun z => absurd st (of_decide_eq_false z)) fun _ => k H1 s1⟩⟩
theorem ok_is_point (T : Txt K mg) : FnOk P w K mg base CX0 4 T.a_is_point T.d_is_point ["value"] (spD isPt) := by
  have G_is_list := ok_is_list (P := P) (w := w) (base := base) T
  have G_is_number := ok_is_number (P := P) (w := w) (base := base) T
  refine T.F_is_point.ok sc_is_point (fun vs H Q E h => ?_) (fun cdv A outer s H vs Q E hr h => ?_)
  · obtain ⟨v, d, rfl, _⟩ := h
    rfl
  · obtain ⟨v, d, rfl, h, k⟩ := h
    refine ⟨_, (pss_one (ps_ret (pe_and (pe_call G_is_list (hr.mono (by decide)) (by rfl) T.m_is_list T.F_is_list.kp (b_is_list T) .nil pass0 (pa_cons (pv 0) pa_nil)) (pe_and (pe_cmpR op_eq (pe_callB call_len_seq (by rfl) T.z_len PySem.boot_len (pa_cons (pv 0) pa_nil)) pe_int (nomark _)) (pe_and (pe_call G_is_number (hr.mono (by decide)) (by rfl) T.m_is_number T.F_is_number.kp (b_is_number T) .nil pass0 (pa_cons (pe_ix (IxR.or (r := rIxL K) (r' := rIxT K) ix_list ix_tup) (pv 0) pe_int (fun _ _ => rfl)) pa_nil)) (pe_one (pe_call G_is_number (hr.mono (by decide)) (by rfl) T.m_is_number T.F_is_number.kp (b_is_number T) .nil pass0 (pa_cons (pe_ix (IxR.or (r := rIxL K) (r' := rIxT K) ix_list ix_tup) (pv 0) pe_int (fun _ _ => rfl)) pa_nil)))))))), ?_⟩
    have kk : ∀ {b : Bool} {H1 : Hp}, Same H H1 → isPt d = b → Q (.bl b) H1 := fun s e => e ▸ k _ s
    refine ⟨_, rfl, v, d, rfl, h, fun H1 s1 => ⟨_, rfl, iteB (fun c => ?_) fun c => ?_⟩⟩
    · obtain ⟨a, xs, rfl, hs, hx⟩ := (h.up s1).seq (K := K) c
      refine ⟨_, rfl, a, xs, rfl, hs, rfl, _, rfl, iteD (fun l => ?_) fun l => ?_⟩
      · have l2 := int_eq l
        match xs, l2, hx with
        | [x, y], _, hx =>
          obtain ⟨dx, dy, e1, h1, h2⟩ : ∃ dx dy, items d = [dx, dy] ∧ Is H1 x dx ∧ Is H1 y dy := by
            generalize items d = ds at hx
            cases hx with
            | cons h1 hx =>
              cases hx with
              | cons h2 hx =>
                cases hx
                exact ⟨_, _, rfl, h1, h2⟩
          have nm : isPt d = (isNum dx && isNum dy) := by rw [isPt, c, e1, Bool.true_and, isTwo]
          have ix : ∀ {H' : Hp} {i : Int} {u : V} {Q' : VK}, Same H1 H' → atI [x, y] i = some u → Q' u H' → (rIxL K (.ref a) (.int i) H' Q' ∨ rIxT K (.ref a) (.int i) H' Q') := fun {H' i u Q'} s e q => by
            rcases hs with hs | hs
            · exact .inl ⟨a, _, i, u, rfl, rfl, s.seq hs, e, q⟩
            · exact .inr ⟨a, _, i, u, rfl, rfl, Evl.ex_t s hs, e, q⟩
          refine ⟨_, rfl, ix (Same.refl _) (by rfl) ⟨x, dx, rfl, h1, fun H2 s2 => ⟨_, rfl, iteB (fun c1 => ?_) fun c1 => ?_⟩⟩⟩
          · refine ⟨_, rfl, ix s2 (by rfl) ⟨y, dy, rfl, h2.up s2, fun H3 s3 => kk ((s1.trans s2).trans s3) ?_⟩⟩
            rw [nm, c1, Bool.true_and]
          · exact kk (s1.trans s2) (by rw [nm, c1, Bool.false_and])
      · refine kk s1 ?_
        have l' : (items d).length ≠ 2 := fun z => int_ne l (by rw [hx.length, z]; rfl)
        rw [isPt, c, Bool.true_and]
        match items d, l' with
        | [], _ => rfl
        | [_], _ => rfl
        | _ :: _ :: _ :: _, _ => rfl
        | [_, _], z => exact absurd rfl z
    · exact kk s1 (by rw [isPt, c, Bool.false_and])
theorem ok_need_above_nothing (T : Txt K mg) : FnOk P w K mg base (L2.CX P w) 4 T.a_need_above_nothing T.d_need_above_nothing ["value", "part"] (spNeedS posD T.c_BadNumber) := by
  have G_is_number := ok_is_number (P := P) (w := w) (base := base) T
  have G_sign_in := ok_sign_in (P := P) (w := w) (base := base) T
  refine T.F_need_above_nothing.okX sc_need_above_nothing (fun vs H Q E h => ?_) (fun cdv A outer s H vs Q E hr h => ?_)
  · obtain ⟨v, p, d, rfl, _⟩ := h
    rfl
  · obtain ⟨v, p, d, rfl, hv, hb, k, ko⟩ := h
    refine ⟨_, (pss_one (ps_if (PW.pt (pw_or (pt_not (pt_val (pe_call G_is_number (hr.mono (by decide)) (by rfl) T.m_is_number T.F_is_number.kp (b_is_number T) .nil pass0 (pa_cons (pv 0) pa_nil)))) (pw_or1 (pt_cmpR op_ne (pe_call G_sign_in (hr.mono (by decide)) (by rfl) T.m_sign_in T.F_sign_in.kp (b_sign_in T) .nil pass0 (pa_cons (pv 0) pa_nil)) pe_int (nomark _))))) (pss_one (ps_raise rfl (takes_of rfl rfl rfl rfl) (pmk_oex T.ox_BadNumber T.fi_BadNumber T.ti_BadNumber (ini_BadNumber (P := P) (w := w) (base := base) T) (hr.mono (by decide)) (bi_BadNumber T) .nil pass0 (by rfl) T.m_BadNumber (pa_cons (pv 1) pa_nil)))) pss_nil)), ?_⟩
    have kk : ∀ {b : Bool}, posD d = b → (b = true → ∀ H', Same H H' → Q .non H') ∧ (b = false → Out1 T.c_BadNumber "part" p H E) := fun e => ⟨fun z => k (e.trans z), fun z => ko (e.trans z)⟩
    refine ⟨_, rfl, v, d, rfl, hv, fun H1 s1 => ⟨_, rfl, iteN (fun c => ?_) fun c => ?_⟩⟩
    · exact ⟨_, rfl, mk1 (((kk (b := false) (by unfold posD; rw [c]; rfl)).2 rfl).up s1)⟩
    · refine ⟨_, rfl, v, d, rfl, hv.up s1, c, hb c, fun w r H2 s2 n2 l2 => ?_⟩
      cases l2
      cases n2.is
      refine ⟨rfl, _, rfl, iteE (fun z => ?_) fun z => ?_⟩
      · refine ⟨_, rfl, mk1 (((kk (b := false) ?_).2 rfl).up (s1.trans s2))⟩
        unfold posD
        rw [c, decide_eq_false]
        · rfl
        · intro pos
          refine int_ne z ?_
          unfold sgn
          rw [decide_eq_true pos, decide_eq_false (by omega)]
          rfl
      · refine (kk (b := true) ?_).1 rfl H2 (s1.trans s2)
        unfold posD
        rw [c, decide_eq_true]
        · rfl
        · have e := int_eq z
          unfold sgn at e
          by_cases q : 0 < above d
          · exact q
          · rw [decide_eq_false q] at e
            split at e <;> split at e <;> first | omega | contradiction

theorem ok_fixedS (T : Txt K mg) {n : Nat} (G_fixed : FnOk P w K mg base CX0 n T.a_fixed T.d_fixed ["value"] (spFix n)) : FnOk P w K mg base CX0 (n + 1) T.a_fixed T.d_fixed ["value"] (spFix (n + 1)) := by
  refine T.F_fixed.ok sc_fixed (fun vs H Q E h => ?_) (fun cdv A outer s H vs Q E hr h => ?_)
  · obtain ⟨v, d, rfl, _⟩ := h
    rfl
  · obtain ⟨v, d, rfl, hv, hd, sl, k⟩ := h
    refine ⟨_, (pss_cons (ps_if (pt_val (pe_callB call_isiSeq (by rfl) T.z_isinstance (by decide +kernel) (pa_cons (pv 0) (pa_cons (pe_tup (pa_cons (pe_bltn (v := .ty "list") (by rfl) T.z_list (by decide +kernel) rfl) (pa_cons (pe_bltn (v := .ty "tuple") (by rfl) T.z_tuple (by decide +kernel) rfl) pa_nil))) pa_nil)))) (pss_one (ps_ret (pe_callTy call_tuple_of (by rfl) T.z_tuple (by decide +kernel) (pa_cons (pe_lc (own := [("item", 1)]) (g := gName 1) rfl sc_fixed.nd (pi_or (pi_list (pv 0)) (pi_tup (pv 0))) (blkOk_by (N := N_fixed) (sc := defScope s_fixed) (by decide +kernel)) (fun _ _ _ _ _ => (pg_name (i := 1) sc_fixed.nd rfl (Or.inl rfl))) (fun _ _ _ _ _ => pts_nil) (fun _ _ _ _ _ => (pe_call G_fixed hr (by rfl) T.m_fixed T.F_fixed.kp (b_fixed T) .nil pass0 (pa_cons (pv 1) pa_nil)))) pa_nil)))) pss_nil)
      (pss_one (ps_ret (pv 0)))), ?_⟩
    refine ⟨_, rfl, (by decide : 2 ≤ sizeLine), fun p hp => ⟨v, d, p, rfl, upd_same, hv.up (Same.new hp), _, rfl, ?_⟩⟩
    have s1 : Same H (upd H p (.tup [.ty "list", .ty "tuple"])) := Same.new hp
    generalize upd H p (.tup [.ty "list", .ty "tuple"]) = H1 at s1 ⊢
    refine iteB (fun c => ?_) fun c => ?_
    · obtain ⟨a, xs, rfl, hs, hx⟩ := (hv.up s1).row (K := K) c
      have len := hx.length
      have sl2 : (items d).length ≤ 1000 ∧ slim.slimA (items d) = true := by
        cases d with
        | tup l =>
          have q : (decide (l.length ≤ 1000) && slim.slimA l) = true := sl
          rw [Bool.and_eq_true] at q
          exact ⟨of_decide_eq_true q.1, q.2⟩
        | lst l =>
          have q : (decide (l.length ≤ 1000) && slim.slimA l) = true := sl
          rw [Bool.and_eq_true] at q
          exact ⟨of_decide_eq_true q.1, q.2⟩
        | _ => cases c
      have dl : dpA (items d) < n := by
        cases d with
        | tup l => have q : dpA l + 1 < n + 1 := hd; show dpA l < n; omega
        | lst l => have q : dpA l + 1 < n + 1 := hd; show dpA l < n; omega
        | _ => cases c
      have fe : fx d = .tup ((items d).map fx) := by
        cases d with
        | tup l => show Da.tup (fxA l) = _; rw [fxA_map]; rfl
        | lst l => show Da.tup (fxA l) = _; rw [fxA_map]; rfl
        | _ => cases c
      refine seq_iter rfl hs fun J G w hG D hD => lc_map w (fun m => fx ((items d).getD m .non)) (by omega) hD hG ?_ ?_
      · rintro m x H2 H3 Q' N hm s2 ⟨rfl, hx2⟩ kq
        obtain ⟨e, he, hi⟩ := hx.at hx2
        refine ⟨rfl, _, rfl, x, e, rfl, hi.up s2, Nat.lt_of_le_of_lt (dpA_mem _ _ (List.mem_of_getElem? he)) dl, slimA_mem _ _ (List.mem_of_getElem? he) sl2.2, fun w H4 s4 n4 => kq w H4 s4 ?_⟩
        rw [List.getD_eq_getElem?_getD, he]
        exact n4
      · intro H2 ys s2 hD2 hl nw
        refine ⟨D, ys, rfl, .inl ⟨.inl (.inl hD2), fun p hp => k _ _ ((s1.trans s2).trans (Same.new hp)) fun S l => ?_⟩⟩
        rw [fe]
        have q := nw S (l.more s1)
        rw [len, range_getD] at q
        cases q with
        | lst e hy =>
          have e2 := (mn_of e).2
          rw [hD2] at e2
          cases e2
          exact .tup (mn_put ((l.more s1).more s2) hp) (hy.up (Same.less (Same.new hp)))
    · refine ⟨_, rfl, k v H1 s1 fun S l => ?_⟩
      cases d with
      | non => cases hv; exact .non
      | bl b => cases hv; exact .bl b
      | int i => cases hv; exact .int i
      | str x => cases hv; exact .str x
      | tup l => cases c
      | lst l => cases c
      | dic => cases sl
theorem ok_fixedN (T : Txt K mg) : ∀ n : Nat, FnOk P w K mg base CX0 n T.a_fixed T.d_fixed ["value"] (spFix n)
  | 0 => ⟨fun _ _ _ _ ⟨_, _, _, _, z, _⟩ => absurd z (Nat.not_lt_zero _), fun _ _ _ _ _ _ _ _ _ _ _ _ _ ⟨_, _, _, _, z, _⟩ => absurd z (Nat.not_lt_zero _)⟩
  | n + 1 => ok_fixedS T (ok_fixedN T n)
theorem ok_fixed (T : Txt K mg) : FnOk P w K mg base CX0 4 T.a_fixed T.d_fixed ["value"] (spFix 4) := ok_fixedN T 4
theorem ok_way_from (T : Txt K mg) : FnOk P w K mg base CX0 4 T.a_way_from T.d_way_from ["one", "other"] (spPP (fun x y z w => z - x) (fun x y z w => w - y)) := by
  have G_difference_of := ok_difference_of (P := P) (w := w) (base := base) T
  refine T.F_way_from.ok sc_way_from (fun vs H Q E h => ?_) (fun cdv A outer s H vs Q E hr h => ?_)
  · obtain ⟨u, v, d, e, x, y, z, w, m, n, rfl, _⟩ := h
    rfl
  · obtain ⟨u, v, d, e, x, y, z, w, m, n, rfl, hu, hv, pd, pe, ⟨m0, n0, mn, zx, zy, zz, zw⟩, k⟩ := h
    refine ⟨_, (pss_one (ps_ret (pe_tup (pa_cons (pe_call G_difference_of (hr.mono (by decide)) (by rfl) T.m_difference_of T.F_difference_of.kp (b_difference_of T) .nil pass0 (pa_cons (pe_ix (IxR.or (r := rIxL K) (r' := rIxT K) ix_list ix_tup) (pv 1) pe_int (fun _ _ => rfl)) (pa_cons (pe_ix (IxR.or (r := rIxL K) (r' := rIxT K) ix_list ix_tup) (pv 0) pe_int (fun _ _ => rfl)) pa_nil))) (pa_cons (pe_call G_difference_of (hr.mono (by decide)) (by rfl) T.m_difference_of T.F_difference_of.kp (b_difference_of T) .nil pass0 (pa_cons (pe_ix (IxR.or (r := rIxL K) (r' := rIxT K) ix_list ix_tup) (pv 1) pe_int (fun _ _ => rfl)) (pa_cons (pe_ix (IxR.or (r := rIxL K) (r' := rIxT K) ix_list ix_tup) (pv 0) pe_int (fun _ _ => rfl)) pa_nil))) pa_nil))))), ?_⟩
    refine ⟨_, rfl, pe.fst hv fun a ha => ⟨_, rfl, pd.fst hu fun b hb => on_diff ha hb ⟨n, m, n0, m0, by omega, zz, zx⟩ fun w1 H1 s1 n1 => ?_⟩⟩
    refine ⟨_, rfl, pe.snd (hv.up s1) fun a ha => ⟨_, rfl, pd.snd (hu.up s1) fun b hb => on_diff ha hb ⟨n, m, n0, m0, by omega, zw, zy⟩ fun w2 H2 s2 n2 => ?_⟩⟩
    exact ⟨(by decide : 2 ≤ sizeLine), fun p hp => k _ _ ((s1.trans s2).trans (Same.new hp)) (New.pt2 (s1.trans s2) hp (n1.up s2) (n2.from s1))⟩
theorem ok_apart (T : Txt K mg) : FnOk P w K mg base CX0 4 T.a_apart T.d_apart ["lesser", "greater"] spApart := by
  have G_product_of := ok_product_of (P := P) (w := w) (base := base) T
  have G_difference_of := ok_difference_of (P := P) (w := w) (base := base) T
  refine T.F_apart.ok sc_apart (fun vs H Q E h => ?_) (fun cdv A outer s H vs Q E hr h => ?_)
  · obtain ⟨u, v, x, z, m, rfl, _⟩ := h
    rfl
  · obtain ⟨u, v, x, z, m, rfl, h1, h2, bn, k⟩ := h
    refine ⟨_, (pss_one (ps_ret (pe_call G_product_of (hr.mono (by decide)) (by rfl) T.m_product_of T.F_product_of.kp (b_product_of T) .nil pass0 (pa_cons (pe_glob (v := .ref T.a_QUARTER) (by rfl) T.m_QUARTER rfl) (pa_cons (pe_call G_difference_of (hr.mono (by decide)) (by rfl) T.m_difference_of T.F_difference_of.kp (b_difference_of T) .nil pass0 (pa_cons (pv 1) (pa_cons (pv 0) pa_nil))) pa_nil))))), ?_⟩
    refine ⟨_, rfl, _, rfl, on_diff h2.nm h1.nm (h2.fit h1 (by omega)) fun w1 H1 s1 n1 => ?_⟩
    have z1 : Nz H1 w1 (2 * m + 1) (z - x) := n1.nz (by omega) ((h2.2.2.sub h1.2.2).more (by omega))
    refine on_prodK (nzK_quarter T.k_QUARTER) z1 (by omega) fun w2 H2 s2 n2 z2 => ?_
    rw [quarter_eq] at n2
    exact k w2 H2 (s1.trans s2) (n2.from s1)
theorem ok_need_point (T : Txt K mg) : FnOk P w K mg base (L2.CX P w) 5 T.a_need_point T.d_need_point ["value", "part"] (spNeed isPt T.c_BadPoint) := by
  have G_is_point := ok_is_point (P := P) (w := w) (base := base) T
  refine T.F_need_point.okX sc_need_point (fun vs H Q E h => ?_) (fun cdv A outer s H vs Q E hr h => ?_)
  · obtain ⟨v, p, d, rfl, _⟩ := h
    rfl
  · obtain ⟨v, p, d, rfl, hv, k, ko⟩ := h
    refine ⟨_, (pss_one (ps_if (pt_not (pt_val (pe_call G_is_point (hr.mono (by decide)) (by rfl) T.m_is_point T.F_is_point.kp (b_is_point T) .nil pass0 (pa_cons (pv 0) pa_nil)))) (pss_one (ps_raise rfl (takes_of rfl rfl rfl rfl) (pmk_oex T.ox_BadPoint T.fi_BadPoint T.ti_BadPoint (ini_BadPoint (P := P) (w := w) (base := base) T) (hr.mono (by decide)) (bi_BadPoint T) .nil pass0 (by rfl) T.m_BadPoint (pa_cons (pv 1) pa_nil)))) pss_nil)), ?_⟩
    refine ⟨_, rfl, v, d, rfl, hv, fun H1 s1 => ⟨_, rfl, iteN (fun c => ?_) fun c => ?_⟩⟩
    · exact ⟨_, rfl, mk1 ((ko c).up s1)⟩
    · exact k c H1 s1
theorem ok_gone_on (T : Txt K mg) : FnOk P w K mg base CX0 5 T.a_gone_on T.d_gone_on ["one", "other", "share"] (spGoneOnK K) := by
  have G_point_sum := ok_point_sum (P := P) (w := w) (base := base) T
  have G_point_times := ok_point_times (P := P) (w := w) (base := base) T
  have G_way_from := ok_way_from (P := P) (w := w) (base := base) T
  refine T.F_gone_on.ok sc_gone_on (fun vs H Q E h => ?_) (fun cdv A outer s H vs Q E hr h => ?_)
  · obtain ⟨u, v, t, d, e, f, x, y, z, w, m, n, l, rfl, _⟩ := h
    rfl
  · obtain ⟨u, v, t, d, e, f, x, y, z, w, m, n, l, rfl, hu, hv, ht, pd, pe, nf, ⟨m0, n0, l0, mn, zx, zy, zz, zw, zl⟩, k⟩ := h
    refine ⟨_, (pss_one (ps_ret (pe_call G_point_sum (hr.mono (by decide)) (by rfl) T.m_point_sum T.F_point_sum.kp (b_point_sum T) .nil pass0 (pa_cons (pv 0) (pa_cons (pe_call G_point_times (hr.mono (by decide)) (by rfl) T.m_point_times T.F_point_times.kp (b_point_times T) .nil pass0 (pa_cons (pe_call G_way_from (hr.mono (by decide)) (by rfl) T.m_way_from T.F_way_from.kp (b_way_from T) .nil pass0 (pa_cons (pv 0) (pa_cons (pv 1) pa_nil))) (pa_cons (pv 2) pa_nil))) pa_nil))))), ?_⟩
    refine ⟨_, rfl, _, rfl, _, rfl, u, v, d, e, x, y, z, w, m, n, rfl, hu, hv, pd, pe, ⟨m0, n0, by omega, zx, zy, zz, zw⟩, fun w1 H1 s1 n1 => ?_⟩
    refine ⟨_, rfl, w1, t, _, f, _, _, n + m + 1, l, rfl, n1.is, ht.up s1, pt_pt, nf, ⟨by omega, l0, by omega, zz.sub zx, zw.sub zy, zl⟩, fun w2 H2 s2 n2 => ?_⟩
    refine ⟨u, w2, d, _, x, y, _, _, m, l + (n + m + 1), rfl, hu.up (s1.trans s2), n2.is, pd, pt_pt, ⟨m0, by omega, by omega, zx, zy, zl.mul (zz.sub zx), zl.mul (zw.sub zy)⟩, fun r H3 s3 n3 => ?_⟩
    exact k r H3 ((s1.trans s2).trans s3) (n3.from (s1.trans s2))
theorem ok_leftward (T : Txt K mg) : FnOk P w K mg base CX0 5 T.a_leftward T.d_leftward ["point"] (spPQ (fun x y => -y) (fun x y => x)) := by
  have G_fixed := ok_fixed (P := P) (w := w) (base := base) T
  have G_negative_of := ok_negative_of (P := P) (w := w) (base := base) T
  refine T.F_leftward.ok sc_leftward (fun vs H Q E h => ?_) (fun cdv A outer s H vs Q E hr h => ?_)
  · obtain ⟨v, x, y, n, rfl, _⟩ := h
    rfl
  · obtain ⟨v, x, y, n, rfl, hv, ⟨n0, nl, zx, zy⟩, k⟩ := h
    refine ⟨_, (pss_cons (ps_asg (pe_call G_fixed (hr.mono (by decide)) (by rfl) T.m_fixed T.F_fixed.kp (b_fixed T) .nil pass0 (pa_cons (pv 0) pa_nil)) (pg_tup rfl (pgs_cons (pg_name (i := 1) sc_leftward.nd rfl (Or.inl rfl)) (pgs_cons (pg_name (i := 2) sc_leftward.nd rfl (Or.inl rfl)) pgs_nil))))
      (pss_one (ps_ret (pe_tup (pa_cons (pe_call G_negative_of (hr.mono (by decide)) (by rfl) T.m_negative_of T.F_negative_of.kp (b_negative_of T) .nil pass0 (pa_cons (pv 2) pa_nil)) (pa_cons (pv 1) pa_nil)))))), ?_⟩
    refine ⟨_, rfl, v, pt x y, rfl, hv, by have := (plain_pt (x := x) (y := y)).2; omega, slim_pt, fun w H1 s1 n1 => ?_⟩
    rw [fx_pt] at n1
    obtain ⟨p, a, b, rfl, hp, ha, hb⟩ := n1.two
    refine ⟨p, _, rfl, .inl (.inl hp), rfl, _, _, rfl, _, _, rfl, rfl, ?_⟩
    refine ⟨_, rfl, on_neg hb.is.nm (zy.more (by omega)) fun w2 H2 s2 n2 => ?_⟩
    exact ⟨_, rfl, (by decide : 2 ≤ sizeLine), fun p hp => k _ _ ((s1.trans s2).trans (Same.new hp)) (New.pt2 (s1.trans s2) hp (n2.from s1) (ha.up s2))⟩
theorem ok_square_off (T : Txt K mg) : FnOk P w K mg base CX0 5 T.a_square_off T.d_square_off ["one", "other"] spFar := by
  have G_way_from := ok_way_from (P := P) (w := w) (base := base) T
  have G_dot := ok_dot (P := P) (w := w) (base := base) T
  refine T.F_square_off.ok sc_square_off (fun vs H Q E h => ?_) (fun cdv A outer s H vs Q E hr h => ?_)
  · obtain ⟨u, v, d, e, x, y, z, w, m, n, rfl, _⟩ := h
    rfl
  · obtain ⟨u, v, d, e, x, y, z, w, m, n, rfl, hu, hv, pd, pe, ⟨m0, n0, mn, zx, zy, zz, zw⟩, k⟩ := h
    refine ⟨_, (pss_cons (ps_set (i := 2) sc_square_off.nd rfl (Or.inl rfl) (pe_call G_way_from (hr.mono (by decide)) (by rfl) T.m_way_from T.F_way_from.kp (b_way_from T) .nil pass0 (pa_cons (pv 0) (pa_cons (pv 1) pa_nil))))
      (pss_one (ps_ret (pe_call G_dot (hr.mono (by decide)) (by rfl) T.m_dot T.F_dot.kp (b_dot T) .nil pass0 (pa_cons (pv 2) (pa_cons (pv 2) pa_nil)))))), ?_⟩
    refine ⟨_, rfl, _, rfl, u, v, d, e, x, y, z, w, m, n, rfl, hu, hv, pd, pe, ⟨m0, n0, by omega, zx, zy, zz, zw⟩, fun w1 H1 s1 n1 => ?_⟩
    refine ⟨_, rfl, _, rfl, w1, w1, _, _, _, _, _, _, n + m + 1, n + m + 1, rfl, n1.is, n1.is, pt_pt, pt_pt, ⟨by omega, by omega, by omega, zz.sub zx, zw.sub zy, zz.sub zx, zw.sub zy⟩, fun r H2 s2 n2 => ?_⟩
    exact k r H2 (s1.trans s2) (n2.from s1)
theorem ok_parallel_corner (T : Txt K mg) : FnOk P w K mg base CX0 5 T.a_parallel_corner T.d_parallel_corner ["o", "a", "b"] spPar := by
  have G_point_sum := ok_point_sum (P := P) (w := w) (base := base) T
  have G_way_from := ok_way_from (P := P) (w := w) (base := base) T
  refine T.F_parallel_corner.ok sc_parallel_corner (fun vs H Q E h => ?_) (fun cdv A outer s H vs Q E hr h => ?_)
  · obtain ⟨u, v, t, o, p, a, b, c, d, n, rfl, _⟩ := h
    rfl
  · obtain ⟨u, v, t, o, p, a, b, c, d, n, rfl, hu, hv, ht, bn, k⟩ := h
    refine ⟨_, (pss_one (ps_ret (pe_call G_point_sum (hr.mono (by decide)) (by rfl) T.m_point_sum T.F_point_sum.kp (b_point_sum T) .nil pass0 (pa_cons (pv 1) (pa_cons (pe_call G_way_from (hr.mono (by decide)) (by rfl) T.m_way_from T.F_way_from.kp (b_way_from T) .nil pass0 (pa_cons (pv 0) (pa_cons (pv 2) pa_nil))) pa_nil))))), ?_⟩
    refine ⟨_, rfl, _, rfl, _, rfl, on_way hu ht (by omega) fun r H1 s1 n1 p1 => on_plus (hv.up s1) p1 (by omega) fun r2 H2 s2 n2 p2 => k r2 H2 (s1.trans s2) (n2.from s1) (p2.more (by omega))⟩
theorem ok_lock_for (T : Txt K mg) : FnOk P w K mg base (L2.CX P w) 5 T.a_lock_for T.d_lock_for ["s", "t"] spLockFor := by
  have G_need_above_nothing := ok_need_above_nothing (P := P) (w := w) (base := base) T
  have G_need_less := ok_need_less (P := P) (w := w) (base := base) T
  have G_product_of := ok_product_of (P := P) (w := w) (base := base) T
  have G_sum_of := ok_sum_of (P := P) (w := w) (base := base) T
  refine T.F_lock_for.okX sc_lock_for (fun vs H Q E h => ?_) (fun cdv A outer s H vs Q E hr h => ?_)
  · obtain ⟨u, v, s, t, n, rfl, _⟩ := h
    rfl
  · obtain ⟨u, v, s, t, n, rfl, h1, h2, s0, st, bn, k⟩ := h
    refine ⟨_, (pss_cons (ps_expr (pe_call G_need_above_nothing (hr.mono (by decide)) (by rfl) T.m_need_above_nothing T.F_need_above_nothing.kp (b_need_above_nothing T) .nil (passes_call (takes_of rfl rfl rfl rfl) fun _ _ _ _ h => h) (pa_cons (pv 0) (pa_cons pe_str pa_nil))))
      (pss_cons (ps_expr (pe_call G_need_above_nothing (hr.mono (by decide)) (by rfl) T.m_need_above_nothing T.F_need_above_nothing.kp (b_need_above_nothing T) .nil (passes_call (takes_of rfl rfl rfl rfl) fun _ _ _ _ h => h) (pa_cons (pv 1) (pa_cons pe_str pa_nil))))
      (pss_cons (ps_expr (pe_call G_need_less (hr.mono (by decide)) (by rfl) T.m_need_less T.F_need_less.kp (b_need_less T) .nil (passes_call (takes_of rfl rfl rfl rfl) fun _ _ _ _ h => h) (pa_cons (pv 0) (pa_cons (pv 1) pa_nil))))
      (pss_one (ps_ret (pe_tup (pa_cons (pe_call G_product_of (hr.mono (by decide)) (by rfl) T.m_product_of T.F_product_of.kp (b_product_of T) .nil pass0 (pa_cons (pe_glob (v := .ref T.a_EIGHTH) (by rfl) T.m_EIGHTH rfl) (pa_cons (pe_call G_sum_of (hr.mono (by decide)) (by rfl) T.m_sum_of T.F_sum_of.kp (b_sum_of T) .nil pass0 (pa_cons (pe_call G_product_of (hr.mono (by decide)) (by rfl) T.m_product_of T.F_product_of.kp (b_product_of T) .nil pass0 (pa_cons pe_int (pa_cons (pv 1) pa_nil))) (pa_cons (pe_call G_product_of (hr.mono (by decide)) (by rfl) T.m_product_of T.F_product_of.kp (b_product_of T) .nil pass0 (pa_cons pe_int (pa_cons (pv 0) pa_nil))) pa_nil))) pa_nil))) (pa_cons (pe_call G_product_of (hr.mono (by decide)) (by rfl) T.m_product_of T.F_product_of.kp (b_product_of T) .nil pass0 (pa_cons (pe_glob (v := .ref T.a_EIGHTH) (by rfl) T.m_EIGHTH rfl) (pa_cons (pe_call G_sum_of (hr.mono (by decide)) (by rfl) T.m_sum_of T.F_sum_of.kp (b_sum_of T) .nil pass0 (pa_cons (pe_call G_product_of (hr.mono (by decide)) (by rfl) T.m_product_of T.F_product_of.kp (b_product_of T) .nil pass0 (pa_cons pe_int (pa_cons (pv 1) pa_nil))) (pa_cons (pe_call G_product_of (hr.mono (by decide)) (by rfl) T.m_product_of T.F_product_of.kp (b_product_of T) .nil pass0 (pa_cons pe_int (pa_cons (pv 0) pa_nil))) pa_nil))) pa_nil))) pa_nil)))))))), ?_⟩
    refine ⟨_, rfl, on_needS h1 (by omega) s0 fun H1 s1 => ⟨_, rfl, on_needS (h2.up s1) (by omega) (by grind) fun H2 s2 => ?_⟩⟩
    have sA := s1.trans s2
    refine ⟨_, rfl, _, rfl, u, v, s, t, n, rfl, h1.up sA, h2.up sA, st, by omega, fun H3 s3 => ?_⟩
    have sB := sA.trans s3
    refine ⟨_, rfl, on_prodK nz_five.k (h2.up sB) (by omega) fun w1 H4 s4 n4 z4 => ⟨_, rfl, on_prodK nz_three.k ((h1.up sB).up s4) (by omega) fun w2 H5 s5 n5 z5 => on_sum (z4.up s5).nm z5.nm ((z4.up s5).fit z5 (by omega)) fun w3 H6 s6 n6 => ?_⟩⟩
    have z6 : Nz H6 w3 (2 * n + 6) (5 * t + 3 * s) := n6.nz (by omega) ((z4.2.2.add z5.2.2).more (by omega))
    refine on_prodK (nzK_eighth T.k_EIGHTH) z6 (by omega) fun w4 H7 s7 n7 z7 => ?_
    rw [eighth_eq] at n7
    have sC := (((sB.trans s4).trans s5).trans s6).trans s7
    refine ⟨_, rfl, on_prodK nz_three.k (h2.up sC) (by omega) fun w5 H8 s8 n8 z8 => ⟨_, rfl, on_prodK nz_five.k ((h1.up sC).up s8) (by omega) fun w6 H9 s9 n9 z9 => on_sum (z8.up s9).nm z9.nm ((z8.up s9).fit z9 (by omega)) fun w7 H10 s10 n10 => ?_⟩⟩
    have z10 : Nz H10 w7 (2 * n + 6) (3 * t + 5 * s) := n10.nz (by omega) ((z8.2.2.add z9.2.2).more (by omega))
    refine on_prodK (nzK_eighth T.k_EIGHTH) z10 (by omega) fun w8 H11 s11 n11 z11 => ⟨(by decide : 2 ≤ sizeLine), fun q hq => ?_⟩
    rw [eighth_eq] at n11
    have sD := (((sC.trans s8).trans s9).trans s10).trans s11
    exact k _ _ (sD.trans (Same.new hq)) (New.pt2 sD hq ((((((n7.from (((sB.trans s4).trans s5).trans s6))).up s8).up s9).up s10).up s11) (n11.from (((sC.trans s8).trans s9).trans s10)))
theorem ok_need_lengths (T : Txt K mg) : FnOk P w K mg base (L2.CX P w) 5 T.a_need_lengths T.d_need_lengths ["s", "t", "m", "n"] spNeedLen := by
  have G_need_above_nothing := ok_need_above_nothing (P := P) (w := w) (base := base) T
  refine T.F_need_lengths.okX sc_need_lengths (fun vs H Q E h => ?_) (fun cdv A outer s H vs Q E hr h => ?_)
  · obtain ⟨u, v, w', x, k1, k2, k3, k4, s, t, m, n, rfl, _⟩ := h
    rfl
  · obtain ⟨u, v, w', x, k1, k2, k3, k4, s, t, m, n, rfl, h1, h2, h3, h4, ⟨b1, b2, b3, b4⟩, p1, p2, p3, p4, k⟩ := h
    refine ⟨_, (pss_cons (ps_expr (pe_call G_need_above_nothing (hr.mono (by decide)) (by rfl) T.m_need_above_nothing T.F_need_above_nothing.kp (b_need_above_nothing T) .nil (passes_call (takes_of rfl rfl rfl rfl) fun _ _ _ _ h => h) (pa_cons (pv 0) (pa_cons pe_str pa_nil))))
      (pss_cons (ps_expr (pe_call G_need_above_nothing (hr.mono (by decide)) (by rfl) T.m_need_above_nothing T.F_need_above_nothing.kp (b_need_above_nothing T) .nil (passes_call (takes_of rfl rfl rfl rfl) fun _ _ _ _ h => h) (pa_cons (pv 1) (pa_cons pe_str pa_nil))))
      (pss_cons (ps_expr (pe_call G_need_above_nothing (hr.mono (by decide)) (by rfl) T.m_need_above_nothing T.F_need_above_nothing.kp (b_need_above_nothing T) .nil (passes_call (takes_of rfl rfl rfl rfl) fun _ _ _ _ h => h) (pa_cons (pv 2) (pa_cons pe_str pa_nil))))
      (pss_one (ps_expr (pe_call G_need_above_nothing (hr.mono (by decide)) (by rfl) T.m_need_above_nothing T.F_need_above_nothing.kp (b_need_above_nothing T) .nil (passes_call (takes_of rfl rfl rfl rfl) fun _ _ _ _ h => h) (pa_cons (pv 3) (pa_cons pe_str pa_nil)))))))), ?_⟩
    refine ⟨_, rfl, on_needS h1 b1 p1 fun H1 s1 => ⟨_, rfl, on_needS (h2.up s1) b2 p2 fun H2 s2 => ⟨_, rfl, on_needS (h3.up (s1.trans s2)) b3 p3 fun H3 s3 => ⟨_, rfl, on_needS (h4.up ((s1.trans s2).trans s3)) b4 p4 fun H4 s4 => k H4 (((s1.trans s2).trans s3).trans s4)⟩⟩⟩⟩
theorem ok_is_crossed_lock (T : Txt K mg) : FnOk P w K mg base CX0 5 T.a_is_crossed_lock T.d_is_crossed_lock ["s", "t", "m", "n"] spIsCL := by
  have G_difference_of := ok_difference_of (P := P) (w := w) (base := base) T
  have G_product_of := ok_product_of (P := P) (w := w) (base := base) T
  have G_apart := ok_apart (P := P) (w := w) (base := base) T
  refine T.F_is_crossed_lock.ok sc_is_crossed_lock (fun vs H Q E h => ?_) (fun cdv A outer s H vs Q E hr h => ?_)
  · obtain ⟨us, ut, um, un, s, t, m, n, k', l, rfl, _⟩ := h
    rfl
  · obtain ⟨us, ut, um, un, s, t, m, n, k', l, rfl, ⟨h1, h2, h3, h4⟩, bn, k⟩ := h
    refine ⟨_, (pss_cons (ps_set (i := 4) sc_is_crossed_lock.nd rfl (Or.inl rfl) (pe_call G_difference_of (hr.mono (by decide)) (by rfl) T.m_difference_of T.F_difference_of.kp (b_difference_of T) .nil pass0 (pa_cons (pe_call G_product_of (hr.mono (by decide)) (by rfl) T.m_product_of T.F_product_of.kp (b_product_of T) .nil pass0 (pa_cons (pv 2) (pa_cons (pv 2) pa_nil))) (pa_cons (pe_call G_product_of (hr.mono (by decide)) (by rfl) T.m_product_of T.F_product_of.kp (b_product_of T) .nil pass0 (pa_cons (pv 3) (pa_cons (pv 3) pa_nil))) pa_nil))))
      (pss_one (ps_ret (pe_cmpR (op_eqD hr.units) (pv 4) (pe_call G_apart (hr.mono (by decide)) (by rfl) T.m_apart T.F_apart.kp (b_apart T) .nil pass0 (pa_cons (pe_call G_product_of (hr.mono (by decide)) (by rfl) T.m_product_of T.F_product_of.kp (b_product_of T) .nil pass0 (pa_cons (pv 0) (pa_cons (pv 0) pa_nil))) (pa_cons (pe_call G_product_of (hr.mono (by decide)) (by rfl) T.m_product_of T.F_product_of.kp (b_product_of T) .nil pass0 (pa_cons (pv 1) (pa_cons (pv 1) pa_nil))) pa_nil))) (nomark _))))), ?_⟩
    refine ⟨_, rfl, _, rfl, on_prodK h3.k h3 (by omega) fun w1 H1 s1 n1 z1 => ⟨_, rfl, _, rfl, on_prodK (h4.up s1).k (h4.up s1) (by omega) fun w2 H2 s2 n2 z2 => on_diff (z1.up s2).nm z2.nm ((z1.up s2).fit z2 (by omega)) fun w3 H3 s3 n3 => ?_⟩⟩
    have sA := (s1.trans s2).trans s3
    refine ⟨_, rfl, _, rfl, _, rfl, on_prodK (h1.up sA).k (h1.up sA) (by omega) fun w4 H4 s4 n4 z4 => ⟨_, rfl, _, rfl, on_prodK ((h2.up sA).up s4).k ((h2.up sA).up s4) (by omega) fun w5 H5 s5 n5 z5 => ⟨w4, w5, s * s, t * t, k' + k', rfl, z4.up s5, z5, by omega, fun w6 H6 s6 n6 => ?_⟩⟩⟩
    obtain ⟨d1, d2, g1, g2, g3, g4, ge⟩ := eq_num (K := K) (n3.is.up ((s4.trans s5).trans s6)) n6.is
    refine ⟨d1, d2, g1, g2, g3, g4, ?_⟩
    rw [ge]
    exact k H6 (((sA.trans s4).trans s5).trans s6)
theorem ok_halfway (T : Txt K mg) : FnOk P w K mg base CX0 6 T.a_halfway T.d_halfway ["one", "other"] spHalf := by
  have G_gone_on := ok_gone_on (P := P) (w := w) (base := base) T
  refine T.F_halfway.ok sc_halfway (fun vs H Q E h => ?_) (fun cdv A outer s H vs Q E hr h => ?_)
  · obtain ⟨u, v, x, y, z, w', m, n, rfl, _⟩ := h
    rfl
  · obtain ⟨u, v, x, y, z, w', m, n, rfl, hu, hv, bn, k⟩ := h
    refine ⟨_, (pss_one (ps_ret (pe_call G_gone_on (hr.mono (by decide)) (by rfl) T.m_gone_on T.F_gone_on.kp (b_gone_on T) .nil pass0 (pa_cons (pv 0) (pa_cons (pv 1) (pa_cons (pe_glob (v := .ref T.a_HALF) (by rfl) T.m_HALF rfl) pa_nil)))))), ?_⟩
    refine ⟨_, rfl, _, rfl, on_goneonK hu hv (nzK_half T.k_HALF) (by omega) fun r H1 s1 n1 p1 => ?_⟩
    rw [hf_eq, hf_eq] at n1 p1
    exact k r H1 s1 n1 (n1.pm (by omega) (sz_hf hu.2.2.1 hv.2.2.1) (sz_hf hu.2.2.2 hv.2.2.2))
theorem ok_mirrored (T : Txt K mg) : FnOk P w K mg base (L2.CX P w) 6 T.a_mirrored T.d_mirrored ["point", "one", "other"] spMirror := by
  have G_need_point := ok_need_point (P := P) (w := w) (base := base) T
  have G_way_from := ok_way_from (P := P) (w := w) (base := base) T
  have G_quotient_of := ok_quotient_of (P := P) (w := w) (base := base) T
  have G_gone_on := ok_gone_on (P := P) (w := w) (base := base) T
  have G_dot := ok_dot (P := P) (w := w) (base := base) T
  refine T.F_mirrored.okX sc_mirrored (fun vs H Q E h => ?_) (fun cdv A outer s H vs Q E hr h => ?_)
  · obtain ⟨u, v, t, x, y, a, b, c, d, m, n, rfl, _⟩ := h
    rfl
  · obtain ⟨u, v, t, x, y, a, b, c, d, m, n, rfl, hu, hv, ht, ne, mn, k⟩ := h
    refine ⟨_, (pss_cons (ps_expr (pe_call G_need_point (hr.mono (by decide)) (by rfl) T.m_need_point T.F_need_point.kp (b_need_point T) .nil (passes_call (takes_of rfl rfl rfl rfl) fun _ _ _ _ h => h) (pa_cons (pv 0) (pa_cons pe_str pa_nil))))
      (pss_cons (ps_expr (pe_call G_need_point (hr.mono (by decide)) (by rfl) T.m_need_point T.F_need_point.kp (b_need_point T) .nil (passes_call (takes_of rfl rfl rfl rfl) fun _ _ _ _ h => h) (pa_cons (pv 1) (pa_cons pe_str pa_nil))))
      (pss_cons (ps_expr (pe_call G_need_point (hr.mono (by decide)) (by rfl) T.m_need_point T.F_need_point.kp (b_need_point T) .nil (passes_call (takes_of rfl rfl rfl rfl) fun _ _ _ _ h => h) (pa_cons (pv 2) (pa_cons pe_str pa_nil))))
      (pss_cons (ps_set (i := 3) sc_mirrored.nd rfl (Or.inl rfl) (pe_call G_way_from (hr.mono (by decide)) (by rfl) T.m_way_from T.F_way_from.kp (b_way_from T) .nil pass0 (pa_cons (pv 1) (pa_cons (pv 2) pa_nil))))
      (pss_cons (ps_if (pt_cmpR (op_eqD hr.units) (pv 3) (pe_tup (pa_cons pe_int (pa_cons pe_int pa_nil))) (nomark _)) (pss_one (ps_raise rfl (takes_of rfl rfl rfl rfl) (pmk_oex T.ox_Misfit T.fi_Misfit T.ti_Misfit (ini_Misfit (P := P) (w := w) (base := base) T) (hr.mono (by decide)) (bi_Misfit T) .nil pass0 (by rfl) T.m_Misfit (pa_cons pe_str pa_nil)))) pss_nil)
      (pss_cons (ps_set (i := 4) sc_mirrored.nd rfl (Or.inl rfl) (pe_call G_quotient_of (hr.mono (by decide)) (by rfl) T.m_quotient_of T.F_quotient_of.kp (b_quotient_of T) .nil pass0 (pa_cons (pe_call G_dot (hr.mono (by decide)) (by rfl) T.m_dot T.F_dot.kp (b_dot T) .nil pass0 (pa_cons (pe_call G_way_from (hr.mono (by decide)) (by rfl) T.m_way_from T.F_way_from.kp (b_way_from T) .nil pass0 (pa_cons (pv 1) (pa_cons (pv 0) pa_nil))) (pa_cons (pv 3) pa_nil))) (pa_cons (pe_call G_dot (hr.mono (by decide)) (by rfl) T.m_dot T.F_dot.kp (b_dot T) .nil pass0 (pa_cons (pv 3) (pa_cons (pv 3) pa_nil))) pa_nil))))
      (pss_one (ps_ret (pe_call G_gone_on (hr.mono (by decide)) (by rfl) T.m_gone_on T.F_gone_on.kp (b_gone_on T) .nil pass0 (pa_cons (pv 0) (pa_cons (pe_call G_gone_on (hr.mono (by decide)) (by rfl) T.m_gone_on T.F_gone_on.kp (b_gone_on T) .nil pass0 (pa_cons (pv 1) (pa_cons (pv 2) (pa_cons (pv 4) pa_nil)))) (pa_cons pe_int pa_nil)))))))))))), ?_⟩
    refine ⟨_, rfl, on_need hu fun H1 s1 => ⟨_, rfl, on_need (hv.up s1) fun H2 s2 => ⟨_, rfl, on_need (ht.up (s1.trans s2)) fun H3 s3 => ?_⟩⟩⟩
    have sA := (s1.trans s2).trans s3
    refine ⟨_, rfl, _, rfl, on_way (hv.up sA) (ht.up sA) (by omega) fun r H4 s4 n4 p4 => ?_⟩
    refine ⟨_, rfl, (by decide : 2 ≤ sizeLine), fun q hq => eq_pt (n4.is.up (Same.new hq)) (Is.pt0 upd_same) ⟨_, rfl, iteD (fun z => ?_) fun z => ?_⟩⟩
    · obtain ⟨z1, z2⟩ := z
      exact ne.elim (fun w => absurd (by grind) w) (fun w => absurd (by grind) w)
    have sB := (sA.trans s4).trans (Same.new hq (o := .tup [V.int 0, V.int 0]))
    have p5 := p4.up (Same.new hq (o := .tup [V.int 0, V.int 0]))
    generalize upd H4 q (.tup [V.int 0, V.int 0]) = H5 at sB p5 ⊢
    refine ⟨_, rfl, _, rfl, on_way (hv.up sB) (hu.up sB) (by omega) fun r2 H6 s6 n6 p6 => ⟨_, rfl, on_dot p6 (p5.up s6) (by omega) fun r3 H7 s7 n7 z7 => ⟨_, rfl, _, rfl, on_dot ((p5.up s6).up s7) ((p5.up s6).up s7) (by omega) fun r4 H8 s8 n8 z8 => on_quotN (z7.up s8) z8 (by omega) (far2_ne ne) fun r5 H9 s9 n9 z9 => ?_⟩⟩⟩
    have sC := (((sB.trans s6).trans s7).trans s8).trans s9
    refine ⟨_, rfl, _, rfl, _, rfl, _, rfl, on_goneonK (hv.up sC) (ht.up sC) z9.k (by omega) fun r6 H10 s10 n10 p10 => on_goneonK ((hu.up sC).up s10) p10 nz_two.k (by omega) fun r7 H11 s11 n11 p11 => ?_⟩
    exact k r7 H11 ((sC.trans s10).trans s11) (n11.from (sC.trans s10)) (p11.more (by omega))
theorem ok_is_flat (T : Txt K mg) : FnOk P w K mg base (L2.CX P w) 6 T.a_is_flat T.d_is_flat ["o", "a", "b"] spFlat := by
  have G_need_point := ok_need_point (P := P) (w := w) (base := base) T
  have G_way_from := ok_way_from (P := P) (w := w) (base := base) T
  have G_dot := ok_dot (P := P) (w := w) (base := base) T
  have G_leftward := ok_leftward (P := P) (w := w) (base := base) T
  refine T.F_is_flat.okX sc_is_flat (fun vs H Q E h => ?_) (fun cdv A outer s H vs Q E hr h => ?_)
  · obtain ⟨u, v, t, o, p, a, b, c, d, n, rfl, _⟩ := h
    rfl
  · obtain ⟨u, v, t, o, p, a, b, c, d, n, rfl, hu, hv, ht, ne, mn, k⟩ := h
    refine ⟨_, (pss_cons (ps_expr (pe_call G_need_point (hr.mono (by decide)) (by rfl) T.m_need_point T.F_need_point.kp (b_need_point T) .nil (passes_call (takes_of rfl rfl rfl rfl) fun _ _ _ _ h => h) (pa_cons (pv 0) (pa_cons pe_str pa_nil))))
      (pss_cons (ps_expr (pe_call G_need_point (hr.mono (by decide)) (by rfl) T.m_need_point T.F_need_point.kp (b_need_point T) .nil (passes_call (takes_of rfl rfl rfl rfl) fun _ _ _ _ h => h) (pa_cons (pv 1) (pa_cons pe_str pa_nil))))
      (pss_cons (ps_expr (pe_call G_need_point (hr.mono (by decide)) (by rfl) T.m_need_point T.F_need_point.kp (b_need_point T) .nil (passes_call (takes_of rfl rfl rfl rfl) fun _ _ _ _ h => h) (pa_cons (pv 2) (pa_cons pe_str pa_nil))))
      (pss_cons (ps_set (i := 3) sc_is_flat.nd rfl (Or.inl rfl) (pe_call G_way_from (hr.mono (by decide)) (by rfl) T.m_way_from T.F_way_from.kp (b_way_from T) .nil pass0 (pa_cons (pv 0) (pa_cons (pv 2) pa_nil))))
      (pss_cons (ps_if (pt_cmpR (op_eqD hr.units) (pv 3) (pe_tup (pa_cons pe_int (pa_cons pe_int pa_nil))) (nomark _)) (pss_one (ps_raise rfl (takes_of rfl rfl rfl rfl) (pmk_oex T.ox_Misfit T.fi_Misfit T.ti_Misfit (ini_Misfit (P := P) (w := w) (base := base) T) (hr.mono (by decide)) (bi_Misfit T) .nil pass0 (by rfl) T.m_Misfit (pa_cons pe_str pa_nil)))) pss_nil)
      (pss_one (ps_ret (pe_cmpR (op_eqD hr.units) (pe_call G_dot (hr.mono (by decide)) (by rfl) T.m_dot T.F_dot.kp (b_dot T) .nil pass0 (pa_cons (pe_call G_leftward (hr.mono (by decide)) (by rfl) T.m_leftward T.F_leftward.kp (b_leftward T) .nil pass0 (pa_cons (pv 3) pa_nil)) (pa_cons (pe_call G_way_from (hr.mono (by decide)) (by rfl) T.m_way_from T.F_way_from.kp (b_way_from T) .nil pass0 (pa_cons (pv 0) (pa_cons (pv 1) pa_nil))) pa_nil))) pe_int (nomark _))))))))), ?_⟩
    refine ⟨_, rfl, on_need hu fun H1 s1 => ⟨_, rfl, on_need (hv.up s1) fun H2 s2 => ⟨_, rfl, on_need (ht.up (s1.trans s2)) fun H3 s3 => ?_⟩⟩⟩
    have sA := (s1.trans s2).trans s3
    refine ⟨_, rfl, _, rfl, on_way (hu.up sA) (ht.up sA) (by omega) fun r H4 s4 n4 p4 => ?_⟩
    refine ⟨_, rfl, (by decide : 2 ≤ sizeLine), fun q hq => eq_pt (n4.is.up (Same.new hq)) (Is.pt0 upd_same) ⟨_, rfl, iteD (fun z => ?_) fun z => ?_⟩⟩
    · obtain ⟨z1, z2⟩ := z
      exact ne.elim (fun w => absurd (by grind) w) (fun w => absurd (by grind) w)
    have sB := (sA.trans s4).trans (Same.new hq (o := .tup [V.int 0, V.int 0]))
    have n5 := n4.up (Same.new hq (o := .tup [V.int 0, V.int 0]))
    generalize upd H4 q (.tup [V.int 0, V.int 0]) = H5 at sB n5 ⊢
    refine ⟨_, rfl, on_left n5.is (show 0 < n + n + 1 by omega) (by omega) p4.2.2.1 p4.2.2.2 fun r5 H6 s6 n6 p6 => ⟨_, rfl, _, rfl, on_way ((hu.up sB).up s6) ((hv.up sB).up s6) (by omega) fun r6 H7 s7 n7 p7 => on_dot (p6.up s7) p7 (by omega) fun r7 H8 s8 n8 z8 => eq_nm n8.is Is.zero ?_⟩⟩
    exact k H8 (((sB.trans s6).trans s7).trans s8)
theorem ok_need_four (T : Txt K mg) : FnOk P w K mg base (L2.CX P w) 6 T.a_need_four T.d_need_four ["o", "a", "c", "b"] spNeed4 := by
  have G_need_point := ok_need_point (P := P) (w := w) (base := base) T
  refine T.F_need_four.okX sc_need_four (fun vs H Q E h => ?_) (fun cdv A outer s H vs Q E hr h => ?_)
  · obtain ⟨u, v, w', t, m1, m2, m3, m4, a1, b1, a2, b2, a3, b3, a4, b4, rfl, _⟩ := h
    rfl
  · obtain ⟨u, v, w', t, m1, m2, m3, m4, a1, b1, a2, b2, a3, b3, a4, b4, rfl, h1, h2, h3, h4, k⟩ := h
    refine ⟨_, (pss_cons (ps_expr (pe_call G_need_point (hr.mono (by decide)) (by rfl) T.m_need_point T.F_need_point.kp (b_need_point T) .nil (passes_call (takes_of rfl rfl rfl rfl) fun _ _ _ _ h => h) (pa_cons (pv 0) (pa_cons pe_str pa_nil))))
      (pss_cons (ps_expr (pe_call G_need_point (hr.mono (by decide)) (by rfl) T.m_need_point T.F_need_point.kp (b_need_point T) .nil (passes_call (takes_of rfl rfl rfl rfl) fun _ _ _ _ h => h) (pa_cons (pv 1) (pa_cons pe_str pa_nil))))
      (pss_cons (ps_expr (pe_call G_need_point (hr.mono (by decide)) (by rfl) T.m_need_point T.F_need_point.kp (b_need_point T) .nil (passes_call (takes_of rfl rfl rfl rfl) fun _ _ _ _ h => h) (pa_cons (pv 2) (pa_cons pe_str pa_nil))))
      (pss_one (ps_expr (pe_call G_need_point (hr.mono (by decide)) (by rfl) T.m_need_point T.F_need_point.kp (b_need_point T) .nil (passes_call (takes_of rfl rfl rfl rfl) fun _ _ _ _ h => h) (pa_cons (pv 3) (pa_cons pe_str pa_nil)))))))), ?_⟩
    refine ⟨_, rfl, on_need h1 fun H1 s1 => ⟨_, rfl, on_need (h2.up s1) fun H2 s2 => ⟨_, rfl, on_need (h3.up (s1.trans s2)) fun H3 s3 => ⟨_, rfl, on_need (h4.up ((s1.trans s2).trans s3)) fun H4 s4 => k H4 (((s1.trans s2).trans s3).trans s4)⟩⟩⟩⟩
theorem ok_lock_kind (T : Txt K mg) : FnOk P w K mg base (L2.CX P w) 6 T.a_lock_kind T.d_lock_kind ["s", "t", "m", "n"] spKind := by
  have G_need_lengths := ok_need_lengths (P := P) (w := w) (base := base) T
  have G_need_less := ok_need_less (P := P) (w := w) (base := base) T
  have G_product_of := ok_product_of (P := P) (w := w) (base := base) T
  have G_is_less := ok_is_less (P := P) (w := w) (base := base) T
  have G_is_crossed_lock := ok_is_crossed_lock (P := P) (w := w) (base := base) T
  refine T.F_lock_kind.okX sc_lock_kind (fun vs H Q E h => ?_) (fun cdv A outer s H vs Q E hr h => ?_)
  · obtain ⟨us, ut, um, un, s, t, m, n, k', l, rfl, _⟩ := h
    rfl
  · obtain ⟨us, ut, um, un, s, t, m, n, k', l, rfl, lk, bn, s0, st, m0, n0, k⟩ := h
    refine ⟨_, (pss_cons (ps_expr (pe_call G_need_lengths (hr.mono (by decide)) (by rfl) T.m_need_lengths T.F_need_lengths.kp (b_need_lengths T) .nil (passes_call (takes_of rfl rfl rfl rfl) fun _ _ _ _ h => h) (pa_cons (pv 0) (pa_cons (pv 1) (pa_cons (pv 2) (pa_cons (pv 3) pa_nil))))))
      (pss_cons (ps_expr (pe_call G_need_less (hr.mono (by decide)) (by rfl) T.m_need_less T.F_need_less.kp (b_need_less T) .nil (passes_call (takes_of rfl rfl rfl rfl) fun _ _ _ _ h => h) (pa_cons (pv 0) (pa_cons (pv 1) pa_nil))))
      (pss_cons (ps_if (pt_not (pt_val (pe_call G_is_crossed_lock (hr.mono (by decide)) (by rfl) T.m_is_crossed_lock T.F_is_crossed_lock.kp (b_is_crossed_lock T) .nil pass0 (pa_cons (pv 0) (pa_cons (pv 1) (pa_cons (pv 2) (pa_cons (pv 3) pa_nil))))))) (pss_one (ps_ret pe_str)) pss_nil)
      (pss_cons (ps_set (i := 4) sc_lock_kind.nd rfl (Or.inl rfl) (pe_call G_product_of (hr.mono (by decide)) (by rfl) T.m_product_of T.F_product_of.kp (b_product_of T) .nil pass0 (pa_cons (pe_glob (v := .ref T.a_HALF) (by rfl) T.m_HALF rfl) (pa_cons (pv 1) pa_nil))))
      (pss_cons (ps_if (pt_val (pe_call G_is_less (hr.mono (by decide)) (by rfl) T.m_is_less T.F_is_less.kp (b_is_less T) .nil pass0 (pa_cons (pv 4) (pa_cons (pv 2) pa_nil)))) (pss_one (ps_ret pe_str)) pss_nil)
      (pss_one (ps_ret (pe_ifExp (pt_val (pe_call G_is_less (hr.mono (by decide)) (by rfl) T.m_is_less T.F_is_less.kp (b_is_less T) .nil pass0 (pa_cons (pv 2) (pa_cons (pv 4) pa_nil)))) pe_str pe_str)))))))), ?_⟩
    refine ⟨_, rfl, _, rfl, _, rfl, _, rfl, us, ut, um, un, k', k', l, l, s, t, m, n, rfl, lk.1, lk.2.1, lk.2.2.1, lk.2.2.2, ⟨by omega, by omega, by omega, by omega⟩, s0, (by grind), m0, n0, fun H1 s1 => ?_⟩
    refine ⟨_, rfl, _, rfl, us, ut, s, t, k', rfl, lk.1.up s1, lk.2.1.up s1, st, by omega, fun H2 s2 => ?_⟩
    have sA := s1.trans s2
    refine ⟨_, rfl, _, rfl, _, rfl, _, rfl, us, ut, um, un, s, t, m, n, k', l, rfl, lk.up sA, bn, fun H3 s3 => ⟨_, rfl, iteN (fun z => ?_) fun z => ?_⟩⟩
    · have e : kindOf s t m n = "none" := by unfold kindOf; rw [z]; rfl
      rw [e] at k
      exact k H3 (sA.trans s3)
    have sB := sA.trans s3
    refine ⟨_, rfl, on_prodK (nzK_half T.k_HALF) (lk.2.1.up sB) (by omega) fun w1 H4 s4 n4 z4 => ?_⟩
    rw [half_eq] at n4 z4
    refine ⟨_, rfl, _, rfl, on_lessN z4 ((lk.2.2.1.up sB).up s4) (by omega) fun H5 s5 => ⟨_, rfl, iteB (fun g => ?_) fun g => ?_⟩⟩
    · have e : kindOf s t m n = "crossed" := by unfold kindOf; rw [z, if_pos rfl, g]; rfl
      rw [e] at k
      exact k H5 ((sB.trans s4).trans s5)
    · refine ⟨_, rfl, _, rfl, on_lessN (((lk.2.2.1.up sB).up s4).up s5) (z4.up s5) (by omega) fun H6 s6 => ⟨_, rfl, iteB (fun g2 => ?_) fun g2 => ?_⟩⟩
      · have e : kindOf s t m n = "part" := by unfold kindOf; rw [z, if_pos rfl, g, g2]; rfl
        rw [e] at k
        exact k H6 (((sB.trans s4).trans s5).trans s6)
      · have e : kindOf s t m n = "both" := by unfold kindOf; rw [z, if_pos rfl, g, g2]; rfl
        rw [e] at k
        exact k H6 (((sB.trans s4).trans s5).trans s6)
theorem ok_corners (T : Txt K mg) : FnOk P w K mg base (L2.CX P w) 7 T.a_corners T.d_corners ["s", "t", "o", "a", "b"] spCorners := by
  have G_need_above_nothing := ok_need_above_nothing (P := P) (w := w) (base := base) T
  have G_need_point := ok_need_point (P := P) (w := w) (base := base) T
  have G_parallel_corner := ok_parallel_corner (P := P) (w := w) (base := base) T
  have G_is_flat := ok_is_flat (P := P) (w := w) (base := base) T
  have G_is_less := ok_is_less (P := P) (w := w) (base := base) T
  have G_square_off := ok_square_off (P := P) (w := w) (base := base) T
  have G_product_of := ok_product_of (P := P) (w := w) (base := base) T
  have G_mirrored := ok_mirrored (P := P) (w := w) (base := base) T
  refine T.F_corners.okX sc_corners (fun vs H Q E h => ?_) (fun cdv A outer s H vs Q E hr h => ?_)
  · obtain ⟨us, ut, u, v, w', s, t, o, p, a, b, c, d, n, rfl, _⟩ := h
    rfl
  · obtain ⟨us, ut, u, v, w', s, t, o, p, a, b, c, d, n, rfl, hs, ht, hu, hv, hw, fr, bn, k⟩ := h
    refine ⟨_, (pss_cons (ps_expr (pe_call G_need_above_nothing (hr.mono (by decide)) (by rfl) T.m_need_above_nothing T.F_need_above_nothing.kp (b_need_above_nothing T) .nil (passes_call (takes_of rfl rfl rfl rfl) fun _ _ _ _ h => h) (pa_cons (pv 0) (pa_cons pe_str pa_nil))))
      (pss_cons (ps_expr (pe_call G_need_above_nothing (hr.mono (by decide)) (by rfl) T.m_need_above_nothing T.F_need_above_nothing.kp (b_need_above_nothing T) .nil (passes_call (takes_of rfl rfl rfl rfl) fun _ _ _ _ h => h) (pa_cons (pv 1) (pa_cons pe_str pa_nil))))
      (pss_cons (ps_expr (pe_call G_need_point (hr.mono (by decide)) (by rfl) T.m_need_point T.F_need_point.kp (b_need_point T) .nil (passes_call (takes_of rfl rfl rfl rfl) fun _ _ _ _ h => h) (pa_cons (pv 2) (pa_cons pe_str pa_nil))))
      (pss_cons (ps_expr (pe_call G_need_point (hr.mono (by decide)) (by rfl) T.m_need_point T.F_need_point.kp (b_need_point T) .nil (passes_call (takes_of rfl rfl rfl rfl) fun _ _ _ _ h => h) (pa_cons (pv 3) (pa_cons pe_str pa_nil))))
      (pss_cons (ps_expr (pe_call G_need_point (hr.mono (by decide)) (by rfl) T.m_need_point T.F_need_point.kp (b_need_point T) .nil (passes_call (takes_of rfl rfl rfl rfl) fun _ _ _ _ h => h) (pa_cons (pv 4) (pa_cons pe_str pa_nil))))
      (pss_cons (ps_if (PW.pt (pw_or (pt_not (pt_val (pe_call G_is_less (hr.mono (by decide)) (by rfl) T.m_is_less T.F_is_less.kp (b_is_less T) .nil pass0 (pa_cons (pv 0) (pa_cons (pv 1) pa_nil))))) (pw_or (pt_cmpR (op_neD hr.units) (pe_call G_square_off (hr.mono (by decide)) (by rfl) T.m_square_off T.F_square_off.kp (b_square_off T) .nil pass0 (pa_cons (pv 2) (pa_cons (pv 3) pa_nil))) (pe_call G_product_of (hr.mono (by decide)) (by rfl) T.m_product_of T.F_product_of.kp (b_product_of T) .nil pass0 (pa_cons (pv 0) (pa_cons (pv 0) pa_nil))) (nomark _)) (pw_or1 (pt_cmpR (op_neD hr.units) (pe_call G_square_off (hr.mono (by decide)) (by rfl) T.m_square_off T.F_square_off.kp (b_square_off T) .nil pass0 (pa_cons (pv 2) (pa_cons (pv 4) pa_nil))) (pe_call G_product_of (hr.mono (by decide)) (by rfl) T.m_product_of T.F_product_of.kp (b_product_of T) .nil pass0 (pa_cons (pv 1) (pa_cons (pv 1) pa_nil))) (nomark _)))))) (pss_one (ps_raise rfl (takes_of rfl rfl rfl rfl) (pmk_oex T.ox_Misfit T.fi_Misfit T.ti_Misfit (ini_Misfit (P := P) (w := w) (base := base) T) (hr.mono (by decide)) (bi_Misfit T) .nil pass0 (by rfl) T.m_Misfit (pa_cons pe_str pa_nil)))) pss_nil)
      (pss_cons (ps_set (i := 5) sc_corners.nd rfl (Or.inl rfl) (pe_call G_parallel_corner (hr.mono (by decide)) (by rfl) T.m_parallel_corner T.F_parallel_corner.kp (b_parallel_corner T) .nil pass0 (pa_cons (pv 2) (pa_cons (pv 3) (pa_cons (pv 4) pa_nil)))))
      (pss_one (ps_ret (pe_ifExp (pt_val (pe_call G_is_flat (hr.mono (by decide)) (by rfl) T.m_is_flat T.F_is_flat.kp (b_is_flat T) .nil (passes_call (takes_of rfl rfl rfl rfl) fun _ _ _ _ h => h) (pa_cons (pv 2) (pa_cons (pv 3) (pa_cons (pv 4) pa_nil))))) (pe_tup (pa_cons (pv 5) pa_nil)) (pe_tup (pa_cons (pv 5) (pa_cons (pe_call G_mirrored (hr.mono (by decide)) (by rfl) T.m_mirrored T.F_mirrored.kp (b_mirrored T) .nil (passes_call (takes_of rfl rfl rfl rfl) fun _ _ _ _ h => h) (pa_cons (pv 5) (pa_cons (pv 3) (pa_cons (pv 4) pa_nil)))) pa_nil))))))))))))), ?_⟩
    refine ⟨_, rfl, on_needS hs (by omega) fr.pos fun H1 s1 => ⟨_, rfl, on_needS (ht.up s1) (by omega) (by have := fr.pos; have := fr.less; grind) fun H2 s2 => ?_⟩⟩
    have sA := s1.trans s2
    refine ⟨_, rfl, on_need (hu.up sA) fun H3 s3 => ⟨_, rfl, on_need ((hv.up sA).up s3) fun H4 s4 => ⟨_, rfl, on_need (((hw.up sA).up s3).up s4) fun H5 s5 => ?_⟩⟩⟩
    have sB := ((sA.trans s3).trans s4).trans s5
    refine ⟨_, rfl, _, rfl, on_lessN (hs.up sB) (ht.up sB) (by omega) fun H6 s6 => ⟨_, rfl, iteN (fun z => absurd fr.less (of_decide_eq_false z)) fun _ => ?_⟩⟩
    have sC := sB.trans s6
    refine ⟨_, rfl, _, rfl, on_far (hu.up sC) (hv.up sC) (by omega) fun r7 H7 s7 n7 z7 => ⟨_, rfl, _, rfl, on_prodK ((hs.up sC).up s7).k ((hs.up sC).up s7) (by omega) fun r8 H8 s8 n8 z8 => ne_nm (n7.is.up s8) n8.is ⟨_, rfl, iteE (fun z => absurd fr.one z) fun _ => ?_⟩⟩⟩
    have sD := (sC.trans s7).trans s8
    refine ⟨_, rfl, _, rfl, on_far (hu.up sD) (hw.up sD) (by omega) fun r9 H9 s9 n9 z9 => ⟨_, rfl, _, rfl, on_prodK ((ht.up sD).up s9).k ((ht.up sD).up s9) (by omega) fun r10 H10 s10 n10 z10 => ne_nm (n9.is.up s10) n10.is ⟨_, rfl, iteE (fun z => absurd fr.other z) fun _ => ?_⟩⟩⟩
    have sE := (sD.trans s9).trans s10
    refine ⟨_, rfl, _, rfl, _, rfl, u, v, w', o, p, a, b, c, d, n, rfl, hu.up sE, hv.up sE, hw.up sE, by omega, fun r11 H11 s11 n11 p11 => ?_⟩
    have sF := sE.trans s11
    have n11' := n11.from sE
    refine ⟨_, rfl, _, rfl, _, rfl, u, v, w', o, p, a, b, c, d, n, rfl, hu.up sF, hv.up sF, hw.up sF, fr.long, by omega, fun H12 s12 => ⟨_, rfl, iteB (fun z => ?_) fun z => ?_⟩⟩
    · refine ⟨_, rfl, (by decide : 1 ≤ sizeLine), fun q hq => k _ _ ((sF.trans s12).trans (Same.new hq)) ?_⟩
      unfold crn
      rw [if_pos z]
      exact New.tup1' (sF.trans s12) hq (n11'.up s12)
    · have sG := sF.trans s12
      refine ⟨_, rfl, _, rfl, _, rfl, _, rfl, r11, v, w', _, _, a, b, c, d, 3 * n + 2, n, rfl, p11.up s12, hv.up sG, hw.up sG, fr.apart, by omega, fun r13 H13 s13 n13 p13 => ⟨(by decide : 2 ≤ sizeLine), fun q hq => k _ _ ((sG.trans s13).trans (Same.new hq)) ?_⟩⟩
      unfold crn
      rw [if_neg (by rw [z]; exact Bool.false_ne_true)]
      exact New.tup2' (sG.trans s13) hq ((n11'.up s12).up s13) (n13.from sG)
theorem ok_midpoints (T : Txt K mg) : FnOk P w K mg base (L2.CX P w) 7 T.a_midpoints T.d_midpoints ["o", "a", "c", "b"] spMid := by
  have G_need_four := ok_need_four (P := P) (w := w) (base := base) T
  have G_halfway := ok_halfway (P := P) (w := w) (base := base) T
  refine T.F_midpoints.okX sc_midpoints (fun vs H Q E h => ?_) (fun cdv A outer s H vs Q E hr h => ?_)
  · obtain ⟨u, v, w', t, o, p, a, b, x, y, c, d, n, m, rfl, _⟩ := h
    rfl
  · obtain ⟨u, v, w', t, o, p, a, b, x, y, c, d, n, m, rfl, hu, hv, hw, ht, bn, k⟩ := h
    refine ⟨_, (pss_cons (ps_expr (pe_call G_need_four (hr.mono (by decide)) (by rfl) T.m_need_four T.F_need_four.kp (b_need_four T) .nil (passes_call (takes_of rfl rfl rfl rfl) fun _ _ _ _ h => h) (pa_cons (pv 0) (pa_cons (pv 1) (pa_cons (pv 2) (pa_cons (pv 3) pa_nil))))))
      (pss_one (ps_ret (pe_tup (pa_cons (pe_call G_halfway (hr.mono (by decide)) (by rfl) T.m_halfway T.F_halfway.kp (b_halfway T) .nil pass0 (pa_cons (pv 0) (pa_cons (pv 1) pa_nil))) (pa_cons (pe_call G_halfway (hr.mono (by decide)) (by rfl) T.m_halfway T.F_halfway.kp (b_halfway T) .nil pass0 (pa_cons (pv 1) (pa_cons (pv 2) pa_nil))) (pa_cons (pe_call G_halfway (hr.mono (by decide)) (by rfl) T.m_halfway T.F_halfway.kp (b_halfway T) .nil pass0 (pa_cons (pv 2) (pa_cons (pv 3) pa_nil))) (pa_cons (pe_call G_halfway (hr.mono (by decide)) (by rfl) T.m_halfway T.F_halfway.kp (b_halfway T) .nil pass0 (pa_cons (pv 3) (pa_cons (pv 0) pa_nil))) pa_nil)))))))), ?_⟩
    refine ⟨_, rfl, _, rfl, _, rfl, _, rfl, u, v, w', t, n, n, m, n, o, p, a, b, x, y, c, d, rfl, hu, hv, hw, ht, fun H1 s1 => ?_⟩
    refine ⟨_, rfl, _, rfl, on_half (hu.up s1) (hv.up s1) (by omega) fun r2 H2 s2 n2 p2 => ?_⟩
    have sA := s1.trans s2
    refine ⟨_, rfl, _, rfl, on_half (hv.up sA) (hw.up sA) (by omega) fun r3 H3 s3 n3 p3 => ?_⟩
    have sB := sA.trans s3
    refine ⟨_, rfl, _, rfl, on_half (hw.up sB) (ht.up sB) (by omega) fun r4 H4 s4 n4 p4 => ?_⟩
    have sC := sB.trans s4
    refine ⟨_, rfl, _, rfl, on_half (ht.up sC) (hu.up sC) (by omega) fun r5 H5 s5 n5 p5 => ⟨(by decide : 4 ≤ sizeLine), fun q hq => ?_⟩⟩
    have sD := sC.trans s5
    exact k _ _ (sD.trans (Same.new hq)) (New.tup4' sD hq ((((n2.from s1).up s3).up s4).up s5) (((n3.from sA).up s4).up s5) ((n4.from sB).up s5) (n5.from sC))
theorem ok_spread (T : Txt K mg) : FnOk P w K mg base (L2.CX P w) 8 T.a_spread T.d_spread ["o", "a", "c", "b"] spSpread := by
  have G_midpoints := ok_midpoints (P := P) (w := w) (base := base) T
  have G_product_of := ok_product_of (P := P) (w := w) (base := base) T
  have G_square_off := ok_square_off (P := P) (w := w) (base := base) T
  refine T.F_spread.okX sc_spread (fun vs H Q E h => ?_) (fun cdv A outer s H vs Q E hr h => ?_)
  · obtain ⟨u, v, w', t, o, p, a, b, x, y, c, d, n, m, rfl, _⟩ := h
    rfl
  · obtain ⟨u, v, w', t, o, p, a, b, x, y, c, d, n, m, rfl, hu, hv, hw, ht, bn, k⟩ := h
    refine ⟨_, (pss_cons (ps_asg (pe_call G_midpoints (hr.mono (by decide)) (by rfl) T.m_midpoints T.F_midpoints.kp (b_midpoints T) .nil (passes_call (takes_of rfl rfl rfl rfl) fun _ _ _ _ h => h) (pa_cons (pv 0) (pa_cons (pv 1) (pa_cons (pv 2) (pa_cons (pv 3) pa_nil))))) (pg_tup rfl (pgs_cons (pg_name (i := 4) sc_spread.nd rfl (Or.inl rfl)) (pgs_cons (pg_name (i := 5) sc_spread.nd rfl (Or.inl rfl)) (pgs_cons (pg_name (i := 6) sc_spread.nd rfl (Or.inl rfl)) (pgs_cons (pg_name (i := 7) sc_spread.nd rfl (Or.inl rfl)) pgs_nil))))))
      (pss_one (ps_ret (pe_tup (pa_cons (pe_call G_product_of (hr.mono (by decide)) (by rfl) T.m_product_of T.F_product_of.kp (b_product_of T) .nil pass0 (pa_cons (pe_glob (v := .ref T.a_QUARTER) (by rfl) T.m_QUARTER rfl) (pa_cons (pe_call G_square_off (hr.mono (by decide)) (by rfl) T.m_square_off T.F_square_off.kp (b_square_off T) .nil pass0 (pa_cons (pv 4) (pa_cons (pv 6) pa_nil))) pa_nil))) (pa_cons (pe_call G_product_of (hr.mono (by decide)) (by rfl) T.m_product_of T.F_product_of.kp (b_product_of T) .nil pass0 (pa_cons (pe_glob (v := .ref T.a_QUARTER) (by rfl) T.m_QUARTER rfl) (pa_cons (pe_call G_square_off (hr.mono (by decide)) (by rfl) T.m_square_off T.F_square_off.kp (b_square_off T) .nil pass0 (pa_cons (pv 5) (pa_cons (pv 7) pa_nil))) pa_nil))) pa_nil)))))), ?_⟩
    refine ⟨_, rfl, _, rfl, _, rfl, _, rfl, u, v, w', t, o, p, a, b, x, y, c, d, n, m, rfl, hu, hv, hw, ht, by omega, fun r1 H1 s1 n1 => ?_⟩
    obtain ⟨q, v1, v2, v3, v4, rfl, hq, i1, i2, i3, i4⟩ := mids_items n1.is
    have m1 : Pm H1 v1 (n + n + 3) (hf o a) (hf p b) := i1.pm (by omega) (sz_hf hu.2.2.1 hv.2.2.1) (sz_hf hu.2.2.2 hv.2.2.2)
    have m2 : Pm H1 v2 (n + m + 3) (hf a x) (hf b y) := i2.pm (by omega) (sz_hf hv.2.2.1 hw.2.2.1) (sz_hf hv.2.2.2 hw.2.2.2)
    have m3 : Pm H1 v3 (m + n + 3) (hf x c) (hf y d) := i3.pm (by omega) (sz_hf hw.2.2.1 ht.2.2.1) (sz_hf hw.2.2.2 ht.2.2.2)
    have m4 : Pm H1 v4 (n + n + 3) (hf c o) (hf d p) := i4.pm (by omega) (sz_hf ht.2.2.1 hu.2.2.1) (sz_hf ht.2.2.2 hu.2.2.2)
    refine ⟨q, _, rfl, .inl (.inl hq), rfl, _, _, rfl, _, _, rfl, _, _, rfl, _, _, rfl, rfl, ?_⟩
    refine ⟨_, rfl, _, rfl, on_far m1 m3 (by omega) fun w2 H2 s2 n2 z2 => on_prodK (nzK_quarter T.k_QUARTER) z2 (by omega) fun w3 H3 s3 n3 z3 => ?_⟩
    rw [quarter_eq] at n3
    have sA := s2.trans s3
    refine ⟨_, rfl, _, rfl, on_far (m2.up sA) (m4.up sA) (by omega) fun w4 H4 s4 n4 z4 => on_prodK (nzK_quarter T.k_QUARTER) z4 (by omega) fun w5 H5 s5 n5 z5 => ⟨(by decide : 2 ≤ sizeLine), fun q2 hq2 => ?_⟩⟩
    rw [quarter_eq] at n5
    have sB := ((s1.trans sA).trans s4).trans s5
    exact k _ _ (sB.trans (Same.new hq2)) (New.pt2 sB hq2 (((n3.from (s1.trans s2)).up s4).up s5) (n5.from ((s1.trans sA).trans s4)))
theorem ok_has_room (T : Txt K mg) : FnOk P w K mg base (L2.CX P w) 9 T.a_has_room T.d_has_room ["o", "a", "c", "b", "square"] spRoom := by
  have G_spread := ok_spread (P := P) (w := w) (base := base) T
  have G_is_less := ok_is_less (P := P) (w := w) (base := base) T
  have G_fixed := ok_fixed (P := P) (w := w) (base := base) T
  have G_parallel_corner := ok_parallel_corner (P := P) (w := w) (base := base) T
  have G_is_flat := ok_is_flat (P := P) (w := w) (base := base) T
  refine T.F_has_room.okX sc_has_room (fun vs H Q E h => ?_) (fun cdv A outer s H vs Q E hr h => ?_)
  · obtain ⟨vo, va, vc, vb, vq, o, p, a, b, x, y, c, d, q, k', l, n, rfl, _⟩ := h
    rfl
  · obtain ⟨vo, va, vc, vb, vq, o, p, a, b, x, y, c, d, q, k', l, n, rfl, po, pa, ic, pc, pb, nq, iq, ne, ⟨b1, b2, b3⟩, zw, k⟩ := h
    refine ⟨_, (pss_cons (ps_asg (pe_call G_spread (hr.mono (by decide)) (by rfl) T.m_spread T.F_spread.kp (b_spread T) .nil (passes_call (takes_of rfl rfl rfl rfl) fun _ _ _ _ h => h) (pa_cons (pv 0) (pa_cons (pv 1) (pa_cons (pv 2) (pa_cons (pv 3) pa_nil))))) (pg_tup rfl (pgs_cons (pg_name (i := 5) sc_has_room.nd rfl (Or.inl rfl)) (pgs_cons (pg_name (i := 6) sc_has_room.nd rfl (Or.inl rfl)) pgs_nil))))
      (pss_cons (ps_if (PW.pt (pw_and (pt_cmpR (op_eqD hr.units) (pe_call G_fixed (hr.mono (by decide)) (by rfl) T.m_fixed T.F_fixed.kp (b_fixed T) .nil pass0 (pa_cons (pv 2) pa_nil)) (pe_call G_parallel_corner (hr.mono (by decide)) (by rfl) T.m_parallel_corner T.F_parallel_corner.kp (b_parallel_corner T) .nil pass0 (pa_cons (pv 0) (pa_cons (pv 1) (pa_cons (pv 3) pa_nil)))) (nomark _)) (pw_and1 (pt_not (pt_val (pe_call G_is_flat (hr.mono (by decide)) (by rfl) T.m_is_flat T.F_is_flat.kp (b_is_flat T) .nil (passes_call (takes_of rfl rfl rfl rfl) fun _ _ _ _ h => h) (pa_cons (pv 0) (pa_cons (pv 1) (pa_cons (pv 3) pa_nil))))))))) (pss_one (ps_ret (pe_cmpR (op_eqD hr.units) (pv 4) (pv 5) (nomark _)))) pss_nil)
      (pss_one (ps_ret (pe_not (pe_call G_is_less (hr.mono (by decide)) (by rfl) T.m_is_less T.F_is_less.kp (b_is_less T) .nil pass0 (pa_cons (pv 4) (pa_cons (pv 5) pa_nil)))))))), ?_⟩
    refine ⟨_, rfl, _, rfl, _, rfl, _, rfl, vo, va, vc, vb, o, p, a, b, x, y, c, d, n, l, rfl, po, pa, pc, pb, b1, fun r H1 s1 n1 => ?_⟩
    obtain ⟨q0, e1, e2, rfl, hq0, m1, m2⟩ := n1.two
    refine ⟨q0, _, rfl, .inl (.inl hq0), rfl, _, _, rfl, _, _, rfl, rfl, ?_⟩
    have zx : Nz H1 e1 1900 (wd o p a b x y c d) := m1.nz (by decide) zw
    refine ⟨_, rfl, vc, pt x y, rfl, ic.up s1, by have := (plain_pt (x := x) (y := y)).2; omega, slim_pt, fun w2 H2 s2 n2 => ⟨_, rfl, _, rfl, _, rfl, vo, va, vb, o, p, a, b, c, d, n, rfl, (po.up s1).up s2, (pa.up s1).up s2, (pb.up s1).up s2, by omega, fun r3 H3 s3 n3 p3 => ?_⟩⟩
    rw [fx_pt] at n2
    have sA := (s1.trans s2).trans s3
    obtain ⟨d1, d2, g1, g2, g3, g4, ge⟩ := eq_pnt (K := K) (n2.is.up s3) n3.is
    refine ⟨d1, d2, g1, g2, g3, g4, _, rfl, iteB (fun z => ?_) fun z => ?_⟩
    · have z' := ge.symm.trans z
      refine ⟨_, rfl, _, rfl, _, rfl, vo, va, vb, o, p, a, b, c, d, n, rfl, po.up sA, pa.up sA, pb.up sA, ne, b2, fun H4 s4 => ⟨_, rfl, iteN (fun f => ?_) fun f => ?_⟩⟩
      · have e : pkRoom q o p a b c d x y = decide (q = wd o p a b x y c d) := by unfold pkRoom; rw [z', f]; rfl
        obtain ⟨d3, d4, g5, g6, g7, g8, ge2⟩ := eq_num (K := K) (iq.up (sA.trans s4)) ((((m1.is.up s2).up s3).up s4))
        refine ⟨_, rfl, _, rfl, d3, d4, g5, g6, g7, g8, ?_⟩
        rw [ge2, ← e]
        exact k H4 (sA.trans s4)
      · have e : pkRoom q o p a b c d x y = !decide (q < wd o p a b x y c d) := by unfold pkRoom; rw [z', f]; rfl
        refine ⟨_, rfl, _, rfl, on_lessN ((nq.up sA).up s4) (((zx.up s2).up s3).up s4) b3 fun H5 s5 => ⟨_, rfl, ?_⟩⟩
        rw [← e]
        exact k H5 ((sA.trans s4).trans s5)
    · have z' := ge.symm.trans z
      have e : pkRoom q o p a b c d x y = !decide (q < wd o p a b x y c d) := by unfold pkRoom; rw [z']; rfl
      refine ⟨_, rfl, _, rfl, on_lessN (nq.up sA) ((zx.up s2).up s3) b3 fun H5 s5 => ⟨_, rfl, ?_⟩⟩
      rw [← e]
      exact k H5 (sA.trans s5)
theorem ok_locked_corners (T : Txt K mg) : FnOk P w K mg base (L2.CX P w) 10 T.a_locked_corners T.d_locked_corners ["s", "t", "m", "n", "o", "a", "b"] spLocked := by
  have G_need_lengths := ok_need_lengths (P := P) (w := w) (base := base) T
  have G_corners := ok_corners (P := P) (w := w) (base := base) T
  have G_product_of := ok_product_of (P := P) (w := w) (base := base) T
  have G_is_crossed_lock := ok_is_crossed_lock (P := P) (w := w) (base := base) T
  have G_has_room := ok_has_room (P := P) (w := w) (base := base) T
  refine T.F_locked_corners.okX sc_locked_corners (fun vs H Q E h => ?_) (fun cdv A outer s H vs Q E hr h => ?_)
  · obtain ⟨us, ut, um, un, vo, va, vb, s, t, m, n, o, p, a, b, c, d, rfl, _⟩ := h
    rfl
  · obtain ⟨us, ut, um, un, vo, va, vb, s, t, m, n, o, p, a, b, c, d, rfl, lk, po, pa, pb, fr, m0, n0, k⟩ := h
    refine ⟨_, (pss_cons (ps_expr (pe_call G_need_lengths (hr.mono (by decide)) (by rfl) T.m_need_lengths T.F_need_lengths.kp (b_need_lengths T) .nil (passes_call (takes_of rfl rfl rfl rfl) fun _ _ _ _ h => h) (pa_cons (pv 0) (pa_cons (pv 1) (pa_cons (pv 2) (pa_cons (pv 3) pa_nil))))))
      (pss_cons (ps_set (i := 7) sc_locked_corners.nd rfl (Or.inl rfl) (pe_call G_corners (hr.mono (by decide)) (by rfl) T.m_corners T.F_corners.kp (b_corners T) .nil (passes_call (takes_of rfl rfl rfl rfl) fun _ _ _ _ h => h) (pa_cons (pv 0) (pa_cons (pv 1) (pa_cons (pv 4) (pa_cons (pv 5) (pa_cons (pv 6) pa_nil)))))))
      (pss_cons (ps_if (pt_not (pt_val (pe_call G_is_crossed_lock (hr.mono (by decide)) (by rfl) T.m_is_crossed_lock T.F_is_crossed_lock.kp (b_is_crossed_lock T) .nil pass0 (pa_cons (pv 0) (pa_cons (pv 1) (pa_cons (pv 2) (pa_cons (pv 3) pa_nil))))))) (pss_one (ps_ret (pe_tup pa_nil))) pss_nil)
      (pss_cons (ps_set (i := 8) sc_locked_corners.nd rfl (Or.inr rfl) (pe_call G_product_of (hr.mono (by decide)) (by rfl) T.m_product_of T.F_product_of.kp (b_product_of T) .nil pass0 (pa_cons (pv 2) (pa_cons (pv 2) pa_nil))))
      (pss_one (ps_ret (pe_callTy call_tuple_of (by rfl) T.z_tuple (by decide +kernel) (pa_cons (pe_lc (own := [("c", 9)]) (g := gName 9) rfl sc_locked_corners.nd (pi_tup (pv 7)) (blkOk_by (N := N_locked_corners) (sc := defScope s_locked_corners) (by decide +kernel)) (fun _ _ _ _ _ => (pg_name (i := 9) sc_locked_corners.nd rfl (Or.inl rfl))) (fun _ _ _ _ _ => pts_one (pt_val (pe_call G_has_room (hr.mono (by decide)) (by rfl) T.m_has_room T.F_has_room.kp (b_has_room T) .nil passL (pa_cons (pv 4) (pa_cons (pv 5) (pa_cons (pv 9) (pa_cons (pv 6) (pa_cons (pv 8) pa_nil)))))))) (fun _ _ _ _ _ => (pv 9))) pa_nil)))))))), ?_⟩
    refine ⟨_, rfl, _, rfl, _, rfl, _, rfl, us, ut, um, un, 28, 28, 400, 400, s, t, m, n, rfl, lk.1, lk.2.1, lk.2.2.1, lk.2.2.2, ⟨by decide, by decide, by decide, by decide⟩, fr.pos, (by have := fr.pos; have := fr.less; grind), m0, n0, fun H1 s1 => ?_⟩
    refine ⟨_, rfl, _, rfl, _, rfl, _, rfl, _, rfl, us, ut, vo, va, vb, s, t, o, p, a, b, c, d, 28, rfl, lk.1.up s1, lk.2.1.up s1, po.up s1, pa.up s1, pb.up s1, fr, by decide, fun r H2 s2 n2 => ?_⟩
    have sA := s1.trans s2
    refine ⟨_, rfl, _, rfl, _, rfl, _, rfl, us, ut, um, un, s, t, m, n, 28, 400, rfl, lk.up sA, by decide, fun H3 s3 => ⟨_, rfl, iteN (fun z => ?_) fun z => ?_⟩⟩
    · have e : letD m n o p a b c d = [] := by
        unfold letD
        rw [List.filter_eq_nil_iff.mpr fun w hw => by rw [rm_none fr (of_decide_eq_false z) hw]; exact Bool.false_ne_true]
        rfl
      rw [e] at k
      exact ⟨(by decide : 0 ≤ sizeLine), fun q hq => k _ _ ((sA.trans s3).trans (Same.new hq)) (.tup upd_same .nil)⟩
    have l := of_decide_eq_true z
    have sB := sA.trans s3
    refine ⟨_, rfl, _, rfl, on_prodK (lk.2.2.1.up sB).k (lk.2.2.1.up sB) (by decide) fun vq H4 s4 n4 z4 => ?_⟩
    have sC := sB.trans s4
    have it := (n2.is.up s3).up s4
    rw [crn_eq] at it
    cases it with
    | @tup q xs _ hq hx =>
    have lenx : xs.length ≤ 2 := by
      rw [hx.length, List.length_map]
      unfold crnL
      split
      · show 1 ≤ 2; decide
      · show 2 ≤ 2; decide
    refine ⟨_, rfl, q, rfl, ⟨_, .inl (.inl hq)⟩, fun D hD => lc_filter walk_tup (fun w => rm m n o p a b c d (ptOf w)) hx (by omega) hD (fun H' s => .inl (.inl (s _ _ hq))) ?_ ?_⟩
    · intro i x w H5 Q' N hxi hdi s5 kq
      obtain ⟨z', hz, rfl⟩ : ∃ z', z' ∈ crnL o p a b c d ∧ ptP z' = w := by
        have := List.mem_of_getElem? hdi
        obtain ⟨z', h1, h2⟩ := List.mem_map.mp this
        exact ⟨z', h1, h2⟩
      obtain ⟨w', hw', hi⟩ := hx.at hxi
      rw [hdi] at hw'
      cases hw'
      obtain ⟨y1, y2, y3⟩ := crnL_sz fr lk.2.1.2.2 po.2.2.1 po.2.2.2 pa.2.2.1 pa.2.2.2 pb.2.2.1 pb.2.2.2 hz
      have ic : Is H5 x (pt z'.1 z'.2) := hi.up s5
      have sD := sC.trans s5
      refine ⟨rfl, _, rfl, _, rfl, _, rfl, _, rfl, _, rfl, vo, va, x, vb, vq, o, p, a, b, z'.1, z'.2, c, d, m * m, 800, 836, 28, rfl, po.up sD, pa.up sD, ic, ic.pm (by decide) y1 y2, pb.up sD, z4.up s5, n4.is.up s5, fr.long, ⟨by decide, by decide, by decide⟩, y3, fun H6 s6 => ⟨_, rfl, ?_⟩⟩
      have e : rm m n o p a b c d (ptOf (ptP z')) = pkRoom (m * m) o p a b c d z'.1 z'.2 := by
        rw [show ptOf (ptP z') = z' from Pt.of pt_pt]
        exact rm_lock fr l hz
      have q6 := kq H6 s6
      rw [e] at q6
      revert q6
      cases pkRoom (m * m) o p a b c d z'.1 z'.2 with
      | true => intro q6; exact ⟨_, rfl, q6⟩
      | false => intro q6; exact q6
    · intro H5 ys s5 hD5 hys
      refine ⟨D, ys, rfl, .inl ⟨.inl (.inl hD5), fun q5 hq5 => k _ _ ((sC.trans s5).trans (Same.new hq5)) ?_⟩⟩
      have e : ((crnL o p a b c d).map ptP).filter (fun w => rm m n o p a b c d (ptOf w)) = letD m n o p a b c d := by
        rw [List.filter_map]
        unfold letD
        congr 2
        funext z'
        show rm m n o p a b c d (ptOf (ptP z')) = _
        rw [show ptOf (ptP z') = z' from Pt.of pt_pt]
      rw [e] at hys
      exact .tup upd_same ((hys.up s5).up (Same.new hq5))
end
end Ty

namespace Ty
open PySem PySem.Spec PyProof.Rows L2
section
variable {P : Program} {w : World} {K : PySem.W.Frag} {mg : Str → Option Value} {base : Heap}
theorem ok_law_latch (T : Txt K mg) : FnOk P w K mg base CX0 1 T.a_law_latch T.d_law_latch ["script"] (spSack K) := by
  refine T.F_law_latch.ok sc_law_latch (fun vs H Q E h => ?_) (fun cdv A outer s H vs Q E hr h => ?_)
  · obtain ⟨a, ns, rfl, _⟩ := h
    rfl
  · obtain ⟨a, ns, rfl, hS, hl, k⟩ := h
    refine ⟨_, (pss_one (ps_ret (pe_lst (pa_cons (pe_lc (own := [("cell", 1)]) (g := gName 1) rfl sc_law_latch.nd (pi_list (pe_slice sl_list (pv 0) po_none (po_some pe_int))) (blkOk_by (N := N_law_latch) (sc := defScope s_law_latch) (by decide +kernel)) (fun _ _ _ _ _ => (pg_name (i := 1) sc_law_latch.nd rfl (Or.inl rfl))) (fun _ _ _ _ _ => pts_nil) (fun _ _ _ _ _ => (pe_callTy call_int1 (by rfl) T.z_int (by decide +kernel) (pa_cons (pv 1) pa_nil)))) (pa_cons pe_int (pa_cons pe_int pa_nil)))))), ?_⟩
    obtain ⟨ms, e, hm⟩ := cut_ints ns none (some 57)
    refine ⟨_, rfl, _, rfl, a, _, rfl, hS, fun p hp => ?_⟩
    refine ⟨p, rfl, ⟨_, .inl (.inl upd_same)⟩, fun D hD => ?_⟩
    have hDp : D ≠ p := fun z => by rw [z, upd_same] at hD; cases hD
    have hD0 : H D = none := by rwa [upd_ne hDp] at hD
    refine lc_list (xs := cutV (ns.map V.int) none (some 57)) (fun i H' => Same H H' ∧ H' p = some (.lst (cutV (ns.map V.int) none (some 57))) ∧ H' D = some (.lst ((ms.take i).map V.int))) ?_ ?_ ?_ ?_
    · refine ⟨(Same.new hp).trans (Same.new hD), ?_, upd_same⟩
      rw [upd_ne hDp.symm]
      exact upd_same
    · intro i H' _ q
      exact .inl (.inl q.2.1)
    · intro i x H' hx q
      rw [e] at hx
      obtain ⟨z, hz, rfl⟩ : ∃ z, ms[i]? = some z ∧ x = V.int z := by
        rw [List.getElem?_map] at hx
        cases e : ms[i]? with
        | none => rw [e] at hx; cases hx
        | some z => rw [e] at hx; exact ⟨z, rfl, (Option.some.inj hx).symm⟩
      refine ⟨rfl, _, rfl, .inl ⟨z, rfl, _, q.2.2, ?_, Same.mut q.1 hD0, ?_, ?_⟩⟩
      · rw [List.length_map, List.length_take]
        exact Nat.lt_of_le_of_lt (Nat.min_le_right _ _) (Nat.lt_of_le_of_lt (Nat.le_trans hm hl) (by decide))
      · rw [upd_ne hDp.symm]
        exact q.2.1
      · rw [upd_same, List.take_add_one, hz, List.map_append]
        rfl
    · intro H' q
      have eD : H' D = some (.lst (ms.map V.int)) := by
        have q3 := q.2.2
        rwa [e, List.length_map, List.take_length] at q3
      refine ⟨(by decide : 3 ≤ sizeLine), fun j hj => k j D _ (q.1.trans (Same.new hj)) (q.1.free hj) hD0 ⟨ms, 0, 0, upd_same, ?_, ?_, by decide, by decide⟩⟩
      · rw [upd_ne (ne_of_none eD hj)]
        exact eD
      · exact ne_of_none eD hj
theorem ok_law_click (T : Txt K mg) : FnOk P w K mg base CX0 1 T.a_law_click T.d_law_click ["latch", "many"] spReach := by
  refine T.F_law_click.ok sc_law_click (fun vs H Q E h => ?_) (fun cdv A outer s H vs Q E hr h => ?_)
  · obtain ⟨j, c, many, n, rfl, _⟩ := h
    rfl
  · obtain ⟨j, c, many, n, rfl, ⟨cells, at_, left, hj, hc, hcj, h0, hn⟩, hn2, hpos, hbig, k⟩ := h
    refine ⟨_, (pss_cons (ps_if (pt_cmpR op_gt (pe_ix ix_list (pv 0) pe_int (fun _ _ => rfl)) pe_int (nomark _)) (pss_cons (ps_set (i := 2) sc_law_click.nd rfl (Or.inl rfl) (pe_ix ix_list (pv 0) pe_int (fun _ _ => rfl)))
      (pss_cons (ps_asg (pe_op op_fdivW (pe_callTy call_int1 (by rfl) T.z_int (by decide +kernel) (pa_cons (pv 2) pa_nil)) (pv 1)) (pg_sub (pv 0) pe_int set_list))
      (pss_one (ps_ret (pe_op op_mod (pe_callTy call_int1 (by rfl) T.z_int (by decide +kernel) (pa_cons (pv 2) pa_nil)) (pv 1)))))) pss_nil)
      (pss_cons (ps_set (i := 3) sc_law_click.nd rfl (Or.inl rfl) (pe_ix ix_list (pv 0) pe_int (fun _ _ => rfl)))
      (pss_cons (ps_asg (pe_op op_add (pv 3) pe_int) (pg_sub (pv 0) pe_int set_list))
      (pss_cons (ps_set (i := 4) sc_law_click.nd rfl (Or.inl rfl) (pe_op op_add (pe_op op_mul pe_int (pv 3)) pe_int))
      (Evl.pss_cut (ps_if (pt_cmpR (op_neE hr.units0) (pe_ix ix_list (pv 0) pe_int (fun _ _ => rfl)) (pe_lst pa_nil) (nomark _)) (pss_one (ps_set (i := 4) sc_law_click.nd rfl (Or.inl rfl) (pe_ix ix_list (pe_ix ix_list (pv 0) pe_int (fun _ _ => rfl)) (pe_op op_mod (pe_callTy call_int1 (by rfl) T.z_int (by decide +kernel) (pa_cons (pv 3) pa_nil)) (pe_callB call_len_seq (by rfl) T.z_len PySem.boot_len (pa_cons (pe_ix ix_list (pv 0) pe_int (fun _ _ => rfl)) pa_nil))) (fun _ _ => rfl)))) pss_nil)
      (Evl.pss_cut (ps_if (PW.pt (pw_and (pt_cmpR op_lt (pv 3) (pe_callB call_len_seq (by rfl) T.z_len PySem.boot_len (pa_cons (pe_ix ix_list (pv 0) pe_int (fun _ _ => rfl)) pa_nil)) (nomark _)) (pw_and1 (pt_cmpR op_ge (pe_callB call_abs (by rfl) T.z_abs (by decide +kernel) (pa_cons (pv 4) pa_nil)) (pe_op op_pow pe_int pe_int) (nomark _))))) (pss_cons (ps_set (i := 2) sc_law_click.nd rfl (Or.inl rfl) (pe_op op_add (pe_op op_mul pe_int (pe_op op_sub (pe_callB call_abs (by rfl) T.z_abs (by decide +kernel) (pa_cons (pv 4) pa_nil)) (pe_op op_pow pe_int pe_int))) (pe_callTy call_int1 (by rfl) T.z_int (by decide +kernel) (pa_cons (pe_cmpR op_lt (pv 4) pe_int (nomark _)) pa_nil))))
      (pss_cons (ps_asg (pe_op op_fdivW (pe_callTy call_int1 (by rfl) T.z_int (by decide +kernel) (pa_cons (pv 2) pa_nil)) (pv 1)) (pg_sub (pv 0) pe_int set_list))
      (pss_one (ps_ret (pe_op op_mod (pe_callTy call_int1 (by rfl) T.z_int (by decide +kernel) (pa_cons (pv 2) pa_nil)) (pv 1)))))) pss_nil)
      (pss_cons (ps_set (i := 5) sc_law_click.nd rfl (Or.inl rfl) (pe_op op_mod (pe_callTy call_int1 (by rfl) T.z_int (by decide +kernel) (pa_cons (pe_op op_pow (pe_op op_add (pe_op op_add (pe_op op_mod (pe_callTy call_int1 (by rfl) T.z_int (by decide +kernel) (pa_cons (pv 4) pa_nil)) pe_int) (pe_op op_mul pe_int (pv 3))) pe_int) pe_int) pa_nil)) pe_int))
      (pss_cons (ps_set (i := 5) sc_law_click.nd rfl (Or.inl rfl) (pe_op op_mod (pe_callTy call_int1 (by rfl) T.z_int (by decide +kernel) (pa_cons (pe_op op_pow (pe_op op_add (pe_op op_add (pe_op op_mul (pv 5) (pe_op op_add (pe_op op_mul pe_int (pv 3)) pe_int)) (pe_op op_mul (pe_op op_mul pe_int (pv 3)) (pv 3))) pe_int) pe_int) pa_nil)) pe_int))
      (pss_one (ps_ret (pe_op op_mod (pe_callTy call_int1 (by rfl) T.z_int (by decide +kernel) (pa_cons (pe_op op_fdivW (pv 5) pe_int) pa_nil)) (pv 1)))))))))))), ?_⟩
    have cdiv : ∀ i : Int, CDivW i many := fun i => wide_div hpos hbig (by decide) (by decide)
    refine ⟨_, rfl, j, _, _, _, rfl, rfl, .inl (.inl hj), rfl, _, _, rfl, rfl, _, rfl, iteD (fun pos => ?_) fun _ => ?_⟩
    · refine ⟨_, rfl, j, _, _, _, rfl, rfl, .inl (.inl hj), rfl, ?_⟩
      refine ⟨_, rfl, .inl ⟨_, rfl, _, rfl, _, _, rfl, rfl, cdiv _, _, rfl, j, _, _, _, rfl, rfl, hj, rfl, ?_⟩⟩
      refine ⟨_, rfl, .inl ⟨_, rfl, _, rfl, _, _, rfl, rfl, hpos, k _ _ keep_upd ⟨cells, at_, _, upd_same, ?_, hcj, h0, by omega⟩ (mod_lt_of hpos).1 (mod_lt_of hpos).2⟩⟩
      rw [upd_ne hcj]
      exact hc
    refine ⟨_, rfl, j, _, _, _, rfl, rfl, .inl (.inl hj), rfl, ?_⟩
    refine ⟨_, rfl, _, _, rfl, rfl, _, rfl, j, _, _, _, rfl, rfl, hj, rfl, ?_⟩
    refine ⟨_, rfl, _, _, rfl, rfl, .inl ⟨by decide, by decide⟩, _, _, rfl, rfl, ?_⟩
    -- the cell
    have hj2 : upd H j (.lst ([V.ref c, .int at_, .int left].set (Int.toNat 1) ((fun i j => V.int (i + j)) at_ 1))) j = some (.lst [.ref c, .int (at_ + 1), .int left]) := upd_same
    have hc2 : upd H j (.lst ([V.ref c, .int at_, .int left].set (Int.toNat 1) ((fun i j => V.int (i + j)) at_ 1))) c = some (.lst (cells.map V.int)) := by
      rw [upd_ne hcj]
      exact hc
    have kp : Keep j H (upd H j (.lst ([V.ref c, .int at_, .int left].set (Int.toNat 1) ((fun i j => V.int (i + j)) at_ 1)))) := keep_upd
    generalize upd H j (.lst ([V.ref c, .int at_, .int left].set (Int.toNat 1) ((fun i j => V.int (i + j)) at_ 1))) = H1 at hj2 hc2 kp ⊢
    refine ⟨fun σ' H' => Same H1 H' ∧ ∃ z : Int, σ' = [some (.ref j), some (.int many), none, some (.int at_), some (.int z), none], ?_, ?_⟩
    · refine ⟨_, rfl, j, _, _, _, rfl, rfl, .inl (.inl hj2), rfl, Nat.zero_le _, fun l hl => ⟨c, l, _, rfl, rfl, .inl (.inl (Same.new hl _ _ hc2)), .inl (.inl upd_same), _, rfl, iteN (fun ne => ?_) fun _ => ?_⟩⟩
      · have hj3 := Same.new (o := .lst []) hl _ _ hj2
        have hc3 := Same.new (o := .lst []) hl _ _ hc2
        have pl : (0 : Int) < ((cells.map V.int).length : Int) := by
          cases cells with
          | nil => cases ne
          | cons _ _ => rw [List.length_map, List.length_cons]; omega
        have m := mod_lt_of (a := at_) pl
        have lt : (at_ % ((cells.map V.int).length : Int)).toNat < cells.length := by
          have m1 := m.1
          have m2 := m.2
          rw [List.length_map] at m1 m2 ⊢
          omega
        refine ⟨_, rfl, j, _, _, _, rfl, rfl, .inl (.inl hj3), rfl, _, rfl, .inl ⟨_, rfl, _, rfl, j, _, _, _, rfl, rfl, .inl (.inl hj3), rfl, c, _, rfl, .inl (.inl (.inl hc3)), _, _, rfl, rfl, pl, c, _, _, .int cells[(at_ % ((cells.map V.int).length : Int)).toNat], rfl, rfl, .inl (.inl hc3), ?_, Same.new hl, _, rfl⟩⟩
        refine atI_of m.1 rfl ?_
        rw [List.getElem?_map, List.getElem?_eq_getElem lt]
        rfl
      · exact ⟨Same.new hl, _, rfl⟩
    rintro σ' H2 ⟨s2, z, rfl⟩
    have hj3 := s2 _ _ hj2
    have hc3 := s2 _ _ hc2
    have kp2 : Keep j H H2 := kp.trans (Same.keep s2)
    have J2 : Jar j c H2 (n + 1) := ⟨cells, at_ + 1, left, hj3, hc3, hcj, by omega, by omega⟩
    refine ⟨fun σ' H' => σ' = [some (.ref j), some (.int many), none, some (.int at_), some (.int z), none] ∧ H' = H2, ?_, ?_⟩
    · have great : ∀ (w : Int), (upd H2 j (.lst ([V.ref c, .int (at_ + 1), .int left].set (Int.toNat 2) ((fun i j => V.int (i / j)) w many)))) c = some (.lst (cells.map V.int)) := fun w => by
        rw [upd_ne hcj]
        exact hc3
      refine ⟨_, rfl, _, rfl, j, _, _, _, rfl, rfl, .inl (.inl hj3), rfl, c, _, rfl, .inl (.inl (.inl hc3)), _, _, rfl, rfl, _, rfl, iteD (fun _ => ?_) fun _ => ⟨rfl, rfl⟩⟩
      refine ⟨_, rfl, _, rfl, _, _, rfl, rfl, ⟨by decide, by decide, by decide⟩, _, _, rfl, rfl, _, rfl, iteD (fun _ => ?_) fun _ => ⟨rfl, rfl⟩⟩
      refine ⟨_, rfl, _, rfl, _, _, rfl, rfl, ⟨by decide, by decide, by decide⟩, _, _, rfl, rfl, _, _, rfl, rfl, .inl ⟨by decide, by decide⟩, ?_⟩
      refine ⟨_, rfl, _, _, rfl, rfl, .inr ⟨_, rfl, _, _, rfl, rfl, ?_⟩⟩
      refine ⟨_, rfl, .inl ⟨_, rfl, _, rfl, _, _, rfl, rfl, cdiv _, _, rfl, j, _, _, _, rfl, rfl, hj3, rfl, ?_⟩⟩
      refine ⟨_, rfl, .inl ⟨_, rfl, _, rfl, _, _, rfl, rfl, hpos, k _ _ (kp2.trans keep_upd) ⟨cells, at_ + 1, _, upd_same, great _, hcj, by omega, by omega⟩ (mod_lt_of hpos).1 (mod_lt_of hpos).2⟩⟩
    rintro σ' H3 ⟨rfl, rfl⟩
    have m1 := mod_lt_of (a := z) (b := 2147483549) (by decide)
    refine ⟨_, rfl, .inl ⟨_, rfl, _, _, rfl, rfl, (by show (0 : Int) < 2147483549; decide), _, rfl, _, _, rfl, rfl, .inl ⟨by decide, by decide⟩, _, _, rfl, rfl, _, _, rfl, rfl, _, _, rfl, rfl, ⟨by decide, by decide, ?_⟩, .inl ⟨_, rfl, _, _, rfl, rfl, (by show (0 : Int) < 2147483579; decide), ?_⟩⟩⟩
    · show (z % 2147483549 + 54756 * at_ + 5662).natAbs < 2 ^ 64
      omega
    have m2 := mod_lt_of (a := (z % 2147483549 + 54756 * at_ + 5662) ^ (5 : Int).toNat) (b := 2147483579) (by decide)
    obtain ⟨y, hy⟩ : ∃ y : Int, (z % 2147483549 + 54756 * at_ + 5662) ^ (5 : Int).toNat % 2147483579 = y := ⟨_, rfl⟩
    rw [hy] at m2
    have b1 : 0 ≤ y * (2 * at_ + 2448) ∧ y * (2 * at_ + 2448) ≤ 2147483579 * 300000 := ⟨Int.mul_nonneg m2.1 (by omega), Int.mul_le_mul (by omega) (by omega) (by omega) (by decide)⟩
    have b2 : 0 ≤ 66458 * at_ * at_ ∧ 66458 * at_ * at_ ≤ 6645800000 * 100000 := ⟨Int.mul_nonneg (by omega) (by omega), Int.mul_le_mul (by omega) (by omega) (by omega) (by decide)⟩
    refine ⟨_, rfl, _, rfl, _, _, rfl, rfl, .inl ⟨by decide, by decide⟩, _, _, rfl, rfl, _, _, rfl, rfl, .inr ⟨by omega, by omega⟩, _, rfl, _, _, rfl, rfl, .inl ⟨by decide, by decide⟩, _, rfl, _, _, rfl, rfl, .inr ⟨by omega, by omega⟩, _, _, rfl, rfl, _, _, rfl, rfl, _, _, rfl, rfl, ⟨by decide, by decide, ?_⟩, .inl ⟨_, rfl, _, _, rfl, rfl, (by show (0 : Int) < 2147483587; decide), ?_⟩⟩
    · show ((z % 2147483549 + 54756 * at_ + 5662) ^ (5 : Int).toNat % 2147483579 * (2 * at_ + 2448) + 66458 * at_ * at_ + 54756).natAbs < 2 ^ 64
      rw [hy]
      omega
    refine ⟨_, rfl, _, _, rfl, rfl, ⟨by decide, by decide⟩, .inl ⟨_, rfl, _, rfl, _, _, rfl, rfl, hpos, k _ _ kp2 J2 (mod_lt_of hpos).1 (mod_lt_of hpos).2⟩⟩
theorem ok_law_pick (T : Txt K mg) : FnOk P w K mg base CX0 2 T.a_law_pick T.d_law_pick ["latch", "some"] spPick := by
  have G_law_click := ok_law_click (P := P) (w := w) (base := base) T
  refine T.F_law_pick.ok sc_law_pick (fun vs H Q E h => ?_) (fun cdv A outer s H vs Q E hr h => ?_)
  · obtain ⟨j, bk, p, xs, n, rfl, _⟩ := h
    rfl
  · obtain ⟨j, bk, p, xs, n, rfl, hJ, hn, hp, hpj, hl0, hl, k⟩ := h
    refine ⟨_, (pss_one (ps_ret (pe_ix ix_list (pv 1) (pe_call G_law_click (hr.mono (by decide)) (by rfl) T.m_law_click T.F_law_click.kp (b_law_click T) .nil pass0 (pa_cons (pv 0) (pa_cons (pe_callB call_len_seq (by rfl) T.z_len PySem.boot_len (pa_cons (pv 1) pa_nil)) pa_nil))) (fun _ _ => rfl)))), ?_⟩
    have b : ((xs.length : Int)).natAbs < 2 ^ 8000 := Nat.lt_of_le_of_lt (show (xs.length : Int).natAbs ≤ 2 ^ 10 by omega) (Nat.pow_lt_pow_right (by decide) (by decide))
    refine ⟨_, rfl, _, rfl, _, rfl, p, xs, rfl, .inl (.inl (.inl hp)), j, bk, _, n, rfl, hJ, hn, by omega, b, fun r H' kp hJ' h0 h1 => ?_⟩
    have hp' : H' p = some (.lst xs) := kp p _ hpj hp
    have lt : r.toNat < xs.length := by omega
    exact ⟨p, xs, r, xs[r.toNat], rfl, rfl, .inl (.inl hp'), atI_of h0 rfl (List.getElem?_eq_getElem lt), k _ _ kp hJ' (List.getElem_mem lt)⟩
end
end Ty

namespace Ty
open PySem PySem.Spec PyProof.Rows L2
section
variable {P : Program} {w : World} {K : PySem.W.Frag} {mg : Str → Option Value} {base : Heap}
theorem ok_law_form (T : Txt K mg) : FnOk P w K mg base CX0 1 T.a_law_form T.d_law_form ["above", "below"] spFormR := by
  refine T.F_law_form.ok sc_law_form (fun vs H Q E h => ?_) (fun cdv A outer s H vs Q E hr h => ?_)
  · obtain ⟨a, b, rfl, _⟩ := h
    rfl
  · obtain ⟨a, b, rfl, hb, hs, k⟩ := h
    refine ⟨_, (pss_cons (ps_par (i := 2) (j := 3) rfl sc_law_form.nd rfl rfl (by decide) rfl rfl (pa_cons (pe_callB call_abs (by rfl) T.z_abs (by decide +kernel) (pa_cons (pv 0) pa_nil)) (pa_cons (pe_callB call_abs (by rfl) T.z_abs (by decide +kernel) (pa_cons (pv 1) pa_nil)) pa_nil)) (by rfl))
      (pss_cons (ps_while PassesOwn.never (pt_cmpR op_gt (pv 3) pe_int (nomark _)) (pss_one (ps_par (i := 2) (j := 3) rfl sc_law_form.nd rfl rfl (by decide) rfl rfl (pa_cons (pv 3) (pa_cons (pe_op op_mod (pe_callTy call_int1 (by rfl) T.z_int (by decide +kernel) (pa_cons (pv 2) pa_nil)) (pv 3)) pa_nil)) (by rfl))))
      (pss_cons (ps_par (i := 0) (j := 1) rfl sc_law_form.nd rfl rfl (by decide) rfl rfl (pa_cons (pe_op op_fdivX (pv 0) (pv 2)) (pa_cons (pe_op op_fdivX (pv 1) (pv 2)) pa_nil)) (by rfl))
      (pss_cons (ps_if (pt_cmpR op_eq (pe_callB call_abs (by rfl) T.z_abs (by decide +kernel) (pa_cons (pv 1) pa_nil)) pe_int (nomark _)) (pss_one (ps_ret (pe_ifExp (pt_cmpR op_gt (pv 1) pe_int (nomark _)) (pv 0) (pe_un un_neg (pv 0))))) pss_nil)
      (pss_one (ps_ret (pe_ifExp (pt_cmpR op_gt (pv 1) pe_int (nomark _)) (pe_tup (pa_cons (pv 0) (pa_cons (pv 1) pa_nil))) (pe_tup (pa_cons (pe_un un_neg (pv 0)) (pa_cons (pe_un un_neg (pv 1)) pa_nil)))))))))), ?_⟩
    refine ⟨_, rfl, a, rfl, _, rfl, b, rfl, _, _, rfl, ?_⟩
    refine ⟨fun m σ' H' => ∃ p o : Int, σ' = [some (.int a), some (.int b), some (.int p), some (.int o)] ∧ H' = H ∧ m = o.toNat ∧ 0 ≤ o ∧ 0 ≤ p ∧ Nat.gcd p.natAbs o.natAbs = Nat.gcd a.natAbs b.natAbs, ⟨_, (if a < 0 then -a else a), (if b < 0 then -b else b), rfl, rfl, rfl, by split <;> omega, by split <;> omega, ?_⟩, ?_⟩
    · have e1 : (if a < 0 then -a else a).natAbs = a.natAbs := by split <;> omega
      have e2 : (if b < 0 then -b else b).natAbs = b.natAbs := by split <;> omega
      rw [e1, e2]
    rintro m σ' H' ⟨p, o, rfl, rfl, rfl, o0, p0, hg⟩
    refine ⟨_, rfl, _, _, rfl, rfl, _, rfl, iteD (fun pos => ?_) fun npos => ?_⟩
    · have q := mod_lt_of (a := p) pos
      refine ⟨fun σ2 H2 => σ2 = [some (.int a), some (.int b), some (.int o), some (.int (p % o))] ∧ H2 = H', ?_, ?_⟩
      · rintro σ2 H2 ⟨rfl, rfl⟩
        exact ⟨(p % o).toNat, by omega, o, p % o, rfl, rfl, rfl, q.1, o0, by rw [gcd_step p0 pos]; exact hg⟩
      · exact ⟨_, rfl, _, rfl, .inl ⟨_, rfl, _, rfl, _, _, rfl, rfl, pos, _, _, rfl, rfl, rfl⟩⟩
    · have z : o = 0 := by omega
      subst z
      have e : p = ((Nat.gcd a.natAbs b.natAbs : Nat) : Int) := by
        rw [← hg]
        show p = ((Nat.gcd p.natAbs 0 : Nat) : Int)
        rw [Nat.gcd_zero_right]
        omega
      obtain ⟨g0, gl, fm⟩ := form_pos (a := a) hb
      rw [← e] at g0 gl fm
      have gs := Nat.lt_of_le_of_lt gl hs
      refine ⟨_, rfl, _, rfl, _, _, rfl, rfl, divX g0 gs (by decide) (by decide), _, rfl, _, rfl, _, _, rfl, rfl, divX g0 gs (by decide) (by decide), _, _, rfl, ?_⟩
      obtain ⟨x, ex⟩ : ∃ x, x = a.fdiv p := ⟨_, rfl⟩
      obtain ⟨y, ey⟩ : ∃ y, y = b.fdiv p := ⟨_, rfl⟩
      rw [← ex, ← ey] at fm
      refine ⟨_, rfl, b.fdiv p, rfl, rfl, _, rfl, iteD (fun c => ?_) fun c => ?_⟩
      · have c' : (if b.fdiv p < 0 then -(b.fdiv p) else b.fdiv p) = 1 := int_eq c
        rw [← ey] at c'
        refine ⟨_, rfl, b.fdiv p, 0, rfl, rfl, _, rfl, iteD (fun pos => ?_) fun npos => ?_⟩
        · have pos' : 0 < b.fdiv p := pos
          rw [← ey] at pos'
          refine ⟨_, rfl, k (.int (a.fdiv p)) _ (Same.refl _) ?_⟩
          rcases fm with ⟨y0, fm⟩ | ⟨y0, fm⟩
          · rw [← fm, frac, if_pos (by split at c' <;> omega), ex]
            exact New.int
          · omega
        · have npos' : ¬ 0 < b.fdiv p := npos
          rw [← ey] at npos'
          refine ⟨_, rfl, a.fdiv p, rfl, k (.int (-(a.fdiv p))) _ (Same.refl _) ?_⟩
          rcases fm with ⟨y0, fm⟩ | ⟨y0, fm⟩
          · omega
          · rw [← fm, frac, if_pos (by split at c' <;> omega), ex]
            exact New.int
      · have c' : (if b.fdiv p < 0 then -(b.fdiv p) else b.fdiv p) ≠ 1 := int_ne c
        rw [← ey] at c'
        refine ⟨_, rfl, b.fdiv p, 0, rfl, rfl, _, rfl, iteD (fun pos => ?_) fun npos => ?_⟩
        · have pos' : 0 < b.fdiv p := pos
          rw [← ey] at pos'
          refine ⟨_, rfl, _, rfl, (by decide : 2 ≤ sizeLine), fun q hq => k _ _ (Same.new hq) ?_⟩
          rcases fm with ⟨y0, fm⟩ | ⟨y0, fm⟩
          · rw [← fm, frac, if_neg (by split at c' <;> omega), ex, ey]
            exact New.tup2 hq upd_same New.int New.int
          · omega
        · have npos' : ¬ 0 < b.fdiv p := npos
          rw [← ey] at npos'
          refine ⟨_, rfl, a.fdiv p, rfl, _, rfl, b.fdiv p, rfl, (by decide : 2 ≤ sizeLine), fun q hq => k _ _ (Same.new hq) ?_⟩
          rcases fm with ⟨y0, fm⟩ | ⟨y0, fm⟩
          · omega
          · rw [← fm, frac, if_neg (by split at c' <;> omega), ex, ey]
            exact New.tup2 hq upd_same New.int New.int
theorem ok_law_halves (T : Txt K mg) : FnOk P w K mg base CX0 1 T.a_law_halves T.d_law_halves ["number"] spHalves := by
  refine T.F_law_halves.ok sc_law_halves (fun vs H Q E h => ?_) (fun cdv A outer s H vs Q E hr h => ?_)
  · obtain ⟨v, d, rfl, _⟩ := h
    rfl
  · obtain ⟨v, d, rfl, h, hn, k⟩ := h
    refine ⟨_, (pss_one (ps_ret (pe_ifExp (pt_val (pe_callB call_isiInt (by rfl) T.z_isinstance (by decide +kernel) (pa_cons (pv 0) (pa_cons (pe_bltn (v := .ty "int") (by rfl) T.z_int (by decide +kernel) rfl) pa_nil)))) (pe_tup (pa_cons (pv 0) (pa_cons pe_int pa_nil))) (pe_tup (pa_cons (pe_ix (IxR.or (r := rIxL K) (r' := rIxT K) ix_list ix_tup) (pv 0) pe_int (fun _ _ => rfl)) (pa_cons (pe_ix (IxR.or (r := rIxL K) (r' := rIxT K) ix_list ix_tup) (pv 0) pe_int (fun _ _ => rfl)) pa_nil)))))), ?_⟩
    refine ⟨_, rfl, v, d, rfl, h, _, rfl, iteB (fun c => ?_) fun c => ?_⟩
    · rcases num_cases h hn with ⟨i, rfl, rfl⟩ | ⟨a, i, j, rfl, ⟨ha, rfl⟩ | ⟨ha, rfl⟩, _, _⟩
      · exact ⟨_, rfl, (by decide : 2 ≤ sizeLine), fun p hp => k _ p (Same.new hp) upd_same⟩
      · cases c
      · cases c
    · rcases num_cases h hn with ⟨i, rfl, rfl⟩ | ⟨a, i, j, rfl, ⟨ha, rfl⟩ | ⟨ha, rfl⟩, _, _⟩
      · cases c
      · exact ⟨_, rfl, .inr ⟨a, _, _, _, rfl, rfl, .inl (.inl ha), rfl, _, rfl, .inr ⟨a, _, _, _, rfl, rfl, .inl (.inl ha), rfl, (by decide : 2 ≤ sizeLine), fun p hp => k _ p (Same.new hp) upd_same⟩⟩⟩
      · exact ⟨_, rfl, .inl ⟨a, _, _, _, rfl, rfl, .inl (.inl ha), rfl, _, rfl, .inl ⟨a, _, _, _, rfl, rfl, .inl (.inl ha), rfl, (by decide : 2 ≤ sizeLine), fun p hp => k _ p (Same.new hp) upd_same⟩⟩⟩
theorem ok_law_add (T : Txt K mg) : FnOk P w K mg base CX0 2 T.a_law_add T.d_law_add ["one", "other"] (spRat2 (· + ·)) := by
  have G_law_form := ok_law_form (P := P) (w := w) (base := base) T
  have G_law_halves := ok_law_halves (P := P) (w := w) (base := base) T
  refine T.F_law_add.ok sc_law_add (fun vs H Q E h => ?_) (fun cdv A outer s H vs Q E hr h => ?_)
  · obtain ⟨u, v, d, e, rfl, _⟩ := h
    rfl
  · obtain ⟨u, v, d, e, rfl, hu, hv, nd, ne, ⟨m, n, m0, n0, mn, bd, be⟩, k⟩ := h
    refine ⟨_, (pss_cons (ps_asg (pe_tup (pa_cons (pe_call G_law_halves (hr.mono (by decide)) (by rfl) T.m_law_halves T.F_law_halves.kp (b_law_halves T) .nil pass0 (pa_cons (pv 0) pa_nil)) (pa_cons (pe_call G_law_halves (hr.mono (by decide)) (by rfl) T.m_law_halves T.F_law_halves.kp (b_law_halves T) .nil pass0 (pa_cons (pv 1) pa_nil)) pa_nil))) (pg_tup rfl (pgs_cons (pg_tup rfl (pgs_cons (pg_name (i := 2) sc_law_add.nd rfl (Or.inl rfl)) (pgs_cons (pg_name (i := 3) sc_law_add.nd rfl (Or.inl rfl)) pgs_nil))) (pgs_cons (pg_tup rfl (pgs_cons (pg_name (i := 4) sc_law_add.nd rfl (Or.inl rfl)) (pgs_cons (pg_name (i := 5) sc_law_add.nd rfl (Or.inl rfl)) pgs_nil))) pgs_nil))))
      (pss_one (ps_ret (pe_call G_law_form (hr.mono (by decide)) (by rfl) T.m_law_form T.F_law_form.kp (b_law_form T) .nil pass0 (pa_cons (pe_op op_add (pe_op op_mulW (pv 2) (pv 5)) (pe_op op_mulW (pv 4) (pv 3))) (pa_cons (pe_op op_mulW (pv 3) (pv 5)) pa_nil)))))), ?_⟩
    have q1 := (num_parts nd).1
    have q2 := (num_parts ne).1
    have mm := wide_lt bd.2 be.2
    refine ⟨_, rfl, u, d, rfl, hu, nd, fun H1 p1 s1 hp1 => ⟨_, rfl, v, e, rfl, hv.up s1, ne, fun H2 p2 s2 hp2 => ⟨(by decide : 2 ≤ sizeLine), fun t ht => ?_⟩⟩⟩
    have n5 : (upd H2 t (.tup [.ref p1, .ref p2])) p1 = some (.tup [.int (above d), .int (below d)]) := Same.new ht _ _ (s2 _ _ hp1)
    have n6 : (upd H2 t (.tup [.ref p1, .ref p2])) p2 = some (.tup [.int (above e), .int (below e)]) := Same.new ht _ _ hp2
    refine ⟨t, _, rfl, .inl (.inl upd_same), rfl, .ref p1, _, rfl, ⟨p1, _, rfl, .inl (.inl n5), rfl, _, _, rfl, _, _, rfl, rfl, .ref p2, _, rfl, ⟨p2, _, rfl, .inl (.inl n6), rfl, _, _, rfl, _, _, rfl, rfl, rfl, ?_⟩⟩⟩
    have s3 : Same H (upd H2 t (.tup [.ref p1, .ref p2])) := (s1.trans s2).trans (Same.new ht)
    generalize upd H2 t (.tup [.ref p1, .ref p2]) = H3 at s3 ⊢
    refine ⟨_, rfl, _, rfl, _, _, rfl, rfl, wide_mul bd.1 be.2 m0 n0 (by omega), _, rfl, _, rfl, _, _, rfl, rfl, wide_mul be.1 bd.2 n0 m0 (by omega), _, _, rfl, rfl, _, rfl, _, rfl, _, _, rfl, rfl, wide_mul bd.2 be.2 m0 n0 (by omega), _, _, rfl, Int.mul_ne_zero (by omega) (by omega), Nat.lt_of_lt_of_le mm (Nat.pow_le_pow_right (by decide) mn), fun w H4 s4 n4 => k w H4 (s3.trans s4) ?_⟩
    show New H H4 w (ofR (rt d + rt e))
    unfold rt
    rw [Rat.divInt_add_divInt _ _ (by omega) (by omega)]
    exact n4.from s3
theorem ok_law_less (T : Txt K mg) : FnOk P w K mg base CX0 2 T.a_law_less T.d_law_less ["one", "other"] (spRat2 (· - ·)) := by
  have G_law_form := ok_law_form (P := P) (w := w) (base := base) T
  have G_law_halves := ok_law_halves (P := P) (w := w) (base := base) T
  refine T.F_law_less.ok sc_law_less (fun vs H Q E h => ?_) (fun cdv A outer s H vs Q E hr h => ?_)
  · obtain ⟨u, v, d, e, rfl, _⟩ := h
    rfl
  · obtain ⟨u, v, d, e, rfl, hu, hv, nd, ne, ⟨m, n, m0, n0, mn, bd, be⟩, k⟩ := h
    refine ⟨_, (pss_cons (ps_asg (pe_tup (pa_cons (pe_call G_law_halves (hr.mono (by decide)) (by rfl) T.m_law_halves T.F_law_halves.kp (b_law_halves T) .nil pass0 (pa_cons (pv 0) pa_nil)) (pa_cons (pe_call G_law_halves (hr.mono (by decide)) (by rfl) T.m_law_halves T.F_law_halves.kp (b_law_halves T) .nil pass0 (pa_cons (pv 1) pa_nil)) pa_nil))) (pg_tup rfl (pgs_cons (pg_tup rfl (pgs_cons (pg_name (i := 2) sc_law_less.nd rfl (Or.inl rfl)) (pgs_cons (pg_name (i := 3) sc_law_less.nd rfl (Or.inl rfl)) pgs_nil))) (pgs_cons (pg_tup rfl (pgs_cons (pg_name (i := 4) sc_law_less.nd rfl (Or.inl rfl)) (pgs_cons (pg_name (i := 5) sc_law_less.nd rfl (Or.inl rfl)) pgs_nil))) pgs_nil))))
      (pss_one (ps_ret (pe_call G_law_form (hr.mono (by decide)) (by rfl) T.m_law_form T.F_law_form.kp (b_law_form T) .nil pass0 (pa_cons (pe_op op_sub (pe_op op_mulW (pv 2) (pv 5)) (pe_op op_mulW (pv 4) (pv 3))) (pa_cons (pe_op op_mulW (pv 3) (pv 5)) pa_nil)))))), ?_⟩
    have q1 := (num_parts nd).1
    have q2 := (num_parts ne).1
    have mm := wide_lt bd.2 be.2
    refine ⟨_, rfl, u, d, rfl, hu, nd, fun H1 p1 s1 hp1 => ⟨_, rfl, v, e, rfl, hv.up s1, ne, fun H2 p2 s2 hp2 => ⟨(by decide : 2 ≤ sizeLine), fun t ht => ?_⟩⟩⟩
    have n5 : (upd H2 t (.tup [.ref p1, .ref p2])) p1 = some (.tup [.int (above d), .int (below d)]) := Same.new ht _ _ (s2 _ _ hp1)
    have n6 : (upd H2 t (.tup [.ref p1, .ref p2])) p2 = some (.tup [.int (above e), .int (below e)]) := Same.new ht _ _ hp2
    refine ⟨t, _, rfl, .inl (.inl upd_same), rfl, .ref p1, _, rfl, ⟨p1, _, rfl, .inl (.inl n5), rfl, _, _, rfl, _, _, rfl, rfl, .ref p2, _, rfl, ⟨p2, _, rfl, .inl (.inl n6), rfl, _, _, rfl, _, _, rfl, rfl, rfl, ?_⟩⟩⟩
    have s3 : Same H (upd H2 t (.tup [.ref p1, .ref p2])) := (s1.trans s2).trans (Same.new ht)
    generalize upd H2 t (.tup [.ref p1, .ref p2]) = H3 at s3 ⊢
    refine ⟨_, rfl, _, rfl, _, _, rfl, rfl, wide_mul bd.1 be.2 m0 n0 (by omega), _, rfl, _, rfl, _, _, rfl, rfl, wide_mul be.1 bd.2 n0 m0 (by omega), _, _, rfl, rfl, _, rfl, _, rfl, _, _, rfl, rfl, wide_mul bd.2 be.2 m0 n0 (by omega), _, _, rfl, Int.mul_ne_zero (by omega) (by omega), Nat.lt_of_lt_of_le mm (Nat.pow_le_pow_right (by decide) mn), fun w H4 s4 n4 => k w H4 (s3.trans s4) ?_⟩
    show New H H4 w (ofR (rt d - rt e))
    unfold rt
    rw [Rat.divInt_sub_divInt _ _ (by omega) (by omega)]
    exact n4.from s3
theorem ok_law_mul (T : Txt K mg) : FnOk P w K mg base CX0 2 T.a_law_mul T.d_law_mul ["one", "other"] (spRat2 (· * ·)) := by
  have G_law_form := ok_law_form (P := P) (w := w) (base := base) T
  have G_law_halves := ok_law_halves (P := P) (w := w) (base := base) T
  refine T.F_law_mul.ok sc_law_mul (fun vs H Q E h => ?_) (fun cdv A outer s H vs Q E hr h => ?_)
  · obtain ⟨u, v, d, e, rfl, _⟩ := h
    rfl
  · obtain ⟨u, v, d, e, rfl, hu, hv, nd, ne, ⟨m, n, m0, n0, mn, bd, be⟩, k⟩ := h
    refine ⟨_, (pss_cons (ps_asg (pe_tup (pa_cons (pe_call G_law_halves (hr.mono (by decide)) (by rfl) T.m_law_halves T.F_law_halves.kp (b_law_halves T) .nil pass0 (pa_cons (pv 0) pa_nil)) (pa_cons (pe_call G_law_halves (hr.mono (by decide)) (by rfl) T.m_law_halves T.F_law_halves.kp (b_law_halves T) .nil pass0 (pa_cons (pv 1) pa_nil)) pa_nil))) (pg_tup rfl (pgs_cons (pg_tup rfl (pgs_cons (pg_name (i := 2) sc_law_mul.nd rfl (Or.inl rfl)) (pgs_cons (pg_name (i := 3) sc_law_mul.nd rfl (Or.inl rfl)) pgs_nil))) (pgs_cons (pg_tup rfl (pgs_cons (pg_name (i := 4) sc_law_mul.nd rfl (Or.inl rfl)) (pgs_cons (pg_name (i := 5) sc_law_mul.nd rfl (Or.inl rfl)) pgs_nil))) pgs_nil))))
      (pss_one (ps_ret (pe_call G_law_form (hr.mono (by decide)) (by rfl) T.m_law_form T.F_law_form.kp (b_law_form T) .nil pass0 (pa_cons (pe_op op_mulW (pv 2) (pv 4)) (pa_cons (pe_op op_mulW (pv 3) (pv 5)) pa_nil)))))), ?_⟩
    have q1 := (num_parts nd).1
    have q2 := (num_parts ne).1
    have mm := wide_lt bd.2 be.2
    refine ⟨_, rfl, u, d, rfl, hu, nd, fun H1 p1 s1 hp1 => ⟨_, rfl, v, e, rfl, hv.up s1, ne, fun H2 p2 s2 hp2 => ⟨(by decide : 2 ≤ sizeLine), fun t ht => ?_⟩⟩⟩
    have n5 : (upd H2 t (.tup [.ref p1, .ref p2])) p1 = some (.tup [.int (above d), .int (below d)]) := Same.new ht _ _ (s2 _ _ hp1)
    have n6 : (upd H2 t (.tup [.ref p1, .ref p2])) p2 = some (.tup [.int (above e), .int (below e)]) := Same.new ht _ _ hp2
    refine ⟨t, _, rfl, .inl (.inl upd_same), rfl, .ref p1, _, rfl, ⟨p1, _, rfl, .inl (.inl n5), rfl, _, _, rfl, _, _, rfl, rfl, .ref p2, _, rfl, ⟨p2, _, rfl, .inl (.inl n6), rfl, _, _, rfl, _, _, rfl, rfl, rfl, ?_⟩⟩⟩
    have s3 : Same H (upd H2 t (.tup [.ref p1, .ref p2])) := (s1.trans s2).trans (Same.new ht)
    generalize upd H2 t (.tup [.ref p1, .ref p2]) = H3 at s3 ⊢
    refine ⟨_, rfl, _, rfl, _, _, rfl, rfl, wide_mul bd.1 be.1 m0 n0 (by omega), _, rfl, _, rfl, _, _, rfl, rfl, wide_mul bd.2 be.2 m0 n0 (by omega), _, _, rfl, Int.mul_ne_zero (by omega) (by omega), Nat.lt_of_lt_of_le mm (Nat.pow_le_pow_right (by decide) mn), fun w H4 s4 n4 => k w H4 (s3.trans s4) ?_⟩
    show New H H4 w (ofR (rt d * rt e))
    unfold rt
    rw [Rat.divInt_mul_divInt]
    exact n4.from s3
theorem ok_law_part (T : Txt K mg) : FnOk P w K mg base CX0 2 T.a_law_part T.d_law_part ["one", "other"] spPartR := by
  have G_law_form := ok_law_form (P := P) (w := w) (base := base) T
  have G_law_halves := ok_law_halves (P := P) (w := w) (base := base) T
  refine T.F_law_part.ok sc_law_part (fun vs H Q E h => ?_) (fun cdv A outer s H vs Q E hr h => ?_)
  · obtain ⟨u, v, d, e, rfl, _⟩ := h
    rfl
  · obtain ⟨u, v, d, e, rfl, hu, hv, nd, ne, ⟨m, n, m0, n0, mn, bd, be⟩, e0, k⟩ := h
    refine ⟨_, (pss_cons (ps_asg (pe_tup (pa_cons (pe_call G_law_halves (hr.mono (by decide)) (by rfl) T.m_law_halves T.F_law_halves.kp (b_law_halves T) .nil pass0 (pa_cons (pv 0) pa_nil)) (pa_cons (pe_call G_law_halves (hr.mono (by decide)) (by rfl) T.m_law_halves T.F_law_halves.kp (b_law_halves T) .nil pass0 (pa_cons (pv 1) pa_nil)) pa_nil))) (pg_tup rfl (pgs_cons (pg_tup rfl (pgs_cons (pg_name (i := 2) sc_law_part.nd rfl (Or.inl rfl)) (pgs_cons (pg_name (i := 3) sc_law_part.nd rfl (Or.inl rfl)) pgs_nil))) (pgs_cons (pg_tup rfl (pgs_cons (pg_name (i := 4) sc_law_part.nd rfl (Or.inl rfl)) (pgs_cons (pg_name (i := 5) sc_law_part.nd rfl (Or.inl rfl)) pgs_nil))) pgs_nil))))
      (pss_one (ps_ret (pe_call G_law_form (hr.mono (by decide)) (by rfl) T.m_law_form T.F_law_form.kp (b_law_form T) .nil pass0 (pa_cons (pe_op op_mulW (pv 2) (pv 5)) (pa_cons (pe_op op_mulW (pv 3) (pv 4)) pa_nil)))))), ?_⟩
    have q1 := (num_parts nd).1
    have q2 := (num_parts ne).1
    have mm := wide_lt bd.2 be.1
    have a0 := above_ne ne e0
    refine ⟨_, rfl, u, d, rfl, hu, nd, fun H1 p1 s1 hp1 => ⟨_, rfl, v, e, rfl, hv.up s1, ne, fun H2 p2 s2 hp2 => ⟨(by decide : 2 ≤ sizeLine), fun t ht => ?_⟩⟩⟩
    have n5 : (upd H2 t (.tup [.ref p1, .ref p2])) p1 = some (.tup [.int (above d), .int (below d)]) := Same.new ht _ _ (s2 _ _ hp1)
    have n6 : (upd H2 t (.tup [.ref p1, .ref p2])) p2 = some (.tup [.int (above e), .int (below e)]) := Same.new ht _ _ hp2
    refine ⟨t, _, rfl, .inl (.inl upd_same), rfl, .ref p1, _, rfl, ⟨p1, _, rfl, .inl (.inl n5), rfl, _, _, rfl, _, _, rfl, rfl, .ref p2, _, rfl, ⟨p2, _, rfl, .inl (.inl n6), rfl, _, _, rfl, _, _, rfl, rfl, rfl, ?_⟩⟩⟩
    have s3 : Same H (upd H2 t (.tup [.ref p1, .ref p2])) := (s1.trans s2).trans (Same.new ht)
    generalize upd H2 t (.tup [.ref p1, .ref p2]) = H3 at s3 ⊢
    refine ⟨_, rfl, _, rfl, _, _, rfl, rfl, wide_mul bd.1 be.2 m0 n0 (by omega), _, rfl, _, rfl, _, _, rfl, rfl, wide_mul bd.2 be.1 m0 n0 (by omega), _, _, rfl, Int.mul_ne_zero (by omega) a0, Nat.lt_of_lt_of_le mm (Nat.pow_le_pow_right (by decide) mn), fun w H4 s4 n4 => k w H4 (s3.trans s4) ?_⟩
    show New H H4 w (ofR (rt d / rt e))
    unfold rt
    rw [Rat.div_def, Rat.inv_divInt, Rat.divInt_mul_divInt]
    exact n4.from s3
theorem ok_law_under (T : Txt K mg) : FnOk P w K mg base CX0 2 T.a_law_under T.d_law_under ["one", "other"] (spOn2 CT fLess) := by
  have G_law_halves := ok_law_halves (P := P) (w := w) (base := base) T
  refine T.F_law_under.ok sc_law_under (fun vs H Q E h => ?_) (fun cdv A outer s H vs Q E hr h => ?_)
  · obtain ⟨u, v, d, e, rfl, _⟩ := h
    rfl
  · obtain ⟨u, v, d, e, rfl, hu, hv, nd, ne, ⟨m, n, m0, n0, mn, bd, be⟩, -, k⟩ := h
    refine ⟨_, (pss_cons (ps_asg (pe_tup (pa_cons (pe_call G_law_halves (hr.mono (by decide)) (by rfl) T.m_law_halves T.F_law_halves.kp (b_law_halves T) .nil pass0 (pa_cons (pv 0) pa_nil)) (pa_cons (pe_call G_law_halves (hr.mono (by decide)) (by rfl) T.m_law_halves T.F_law_halves.kp (b_law_halves T) .nil pass0 (pa_cons (pv 1) pa_nil)) pa_nil))) (pg_tup rfl (pgs_cons (pg_tup rfl (pgs_cons (pg_name (i := 2) sc_law_under.nd rfl (Or.inl rfl)) (pgs_cons (pg_name (i := 3) sc_law_under.nd rfl (Or.inl rfl)) pgs_nil))) (pgs_cons (pg_tup rfl (pgs_cons (pg_name (i := 4) sc_law_under.nd rfl (Or.inl rfl)) (pgs_cons (pg_name (i := 5) sc_law_under.nd rfl (Or.inl rfl)) pgs_nil))) pgs_nil))))
      (pss_one (ps_ret (pe_cmpR op_lt (pe_op op_mulW (pv 2) (pv 5)) (pe_op op_mulW (pv 4) (pv 3)) (nomark _))))), ?_⟩
    have q1 := (num_parts nd).1
    have q2 := (num_parts ne).1
    have mm := wide_lt bd.2 be.2
    refine ⟨_, rfl, u, d, rfl, hu, nd, fun H1 p1 s1 hp1 => ⟨_, rfl, v, e, rfl, hv.up s1, ne, fun H2 p2 s2 hp2 => ⟨(by decide : 2 ≤ sizeLine), fun t ht => ?_⟩⟩⟩
    have n5 : (upd H2 t (.tup [.ref p1, .ref p2])) p1 = some (.tup [.int (above d), .int (below d)]) := Same.new ht _ _ (s2 _ _ hp1)
    have n6 : (upd H2 t (.tup [.ref p1, .ref p2])) p2 = some (.tup [.int (above e), .int (below e)]) := Same.new ht _ _ hp2
    refine ⟨t, _, rfl, .inl (.inl upd_same), rfl, .ref p1, _, rfl, ⟨p1, _, rfl, .inl (.inl n5), rfl, _, _, rfl, _, _, rfl, rfl, .ref p2, _, rfl, ⟨p2, _, rfl, .inl (.inl n6), rfl, _, _, rfl, _, _, rfl, rfl, rfl, ?_⟩⟩⟩
    have s3 : Same H (upd H2 t (.tup [.ref p1, .ref p2])) := (s1.trans s2).trans (Same.new ht)
    generalize upd H2 t (.tup [.ref p1, .ref p2]) = H3 at s3 ⊢
    refine ⟨_, rfl, _, rfl, _, _, rfl, rfl, wide_mul bd.1 be.2 m0 n0 (by omega), _, rfl, _, rfl, _, _, rfl, rfl, wide_mul be.1 bd.2 n0 m0 (by omega), _, _, rfl, rfl, ?_⟩
    exact k _ _ H3 s3 New.bl rfl
theorem ok_law_row (T : Txt K mg) : FnOk P w K mg base CX0 3 T.a_law_row T.d_law_row ["one", "other"] (spPP (fun x y z w => z - x) (fun x y z w => w - y)) := by
  have G_law_less := ok_law_less (P := P) (w := w) (base := base) T
  refine T.F_law_row.ok sc_law_row (fun vs H Q E h => ?_) (fun cdv A outer s H vs Q E hr h => ?_)
  · obtain ⟨u, v, d, e, x, y, z, w, m, n, rfl, _⟩ := h
    rfl
  · obtain ⟨u, v, d, e, x, y, z, w, m, n, rfl, hu, hv, pd, pe, ⟨m0, n0, mn, zx, zy, zz, zw⟩, k⟩ := h
    refine ⟨_, (pss_one (ps_ret (pe_tup (pa_cons (pe_call G_law_less (hr.mono (by decide)) (by rfl) T.m_law_less T.F_law_less.kp (b_law_less T) .nil pass0 (pa_cons (pe_ix (IxR.or (r := rIxL K) (r' := rIxT K) ix_list ix_tup) (pv 1) pe_int (fun _ _ => rfl)) (pa_cons (pe_ix (IxR.or (r := rIxL K) (r' := rIxT K) ix_list ix_tup) (pv 0) pe_int (fun _ _ => rfl)) pa_nil))) (pa_cons (pe_call G_law_less (hr.mono (by decide)) (by rfl) T.m_law_less T.F_law_less.kp (b_law_less T) .nil pass0 (pa_cons (pe_ix (IxR.or (r := rIxL K) (r' := rIxT K) ix_list ix_tup) (pv 1) pe_int (fun _ _ => rfl)) (pa_cons (pe_ix (IxR.or (r := rIxL K) (r' := rIxT K) ix_list ix_tup) (pv 0) pe_int (fun _ _ => rfl)) pa_nil))) pa_nil))))), ?_⟩
    have pu : Pm H u m x y := ⟨m0, ⟨d, hu, pd⟩, zx, zy⟩
    have pv : Pm H v n z w := ⟨n0, ⟨e, hv, pe⟩, zz, zw⟩
    refine ⟨_, rfl, pv.fst fun a ha => ⟨_, rfl, pu.fst fun b hb => on_rsub ha hb (by omega) fun w1 H1 s1 n1 z1 => ?_⟩⟩
    refine ⟨_, rfl, (pv.up s1).snd fun a ha => ⟨_, rfl, (pu.up s1).snd fun b hb => on_rsub ha hb (by omega) fun w2 H2 s2 n2 z2 => ?_⟩⟩
    exact ⟨(by decide : 2 ≤ sizeLine), fun p hp => k _ _ ((s1.trans s2).trans (Same.new hp)) (New.pt2 (s1.trans s2) hp (n1.up s2) (n2.from s1))⟩
theorem ok_law_gone (T : Txt K mg) : FnOk P w K mg base CX0 3 T.a_law_gone T.d_law_gone ["point", "row", "share"] spGoneR := by
  have G_law_add := ok_law_add (P := P) (w := w) (base := base) T
  have G_law_mul := ok_law_mul (P := P) (w := w) (base := base) T
  refine T.F_law_gone.ok sc_law_gone (fun vs H Q E h => ?_) (fun cdv A outer s H vs Q E hr h => ?_)
  · obtain ⟨u, v, t, d, e, f, x, y, z, w, m, n, l, rfl, _⟩ := h
    rfl
  · obtain ⟨u, v, t, d, e, f, x, y, z, w, m, n, l, rfl, hu, hv, ht, pd, pe, nf, ⟨m0, n0, l0, mn, zx, zy, zz, zw, zl⟩, k⟩ := h
    refine ⟨_, (pss_one (ps_ret (pe_tup (pa_cons (pe_call G_law_add (hr.mono (by decide)) (by rfl) T.m_law_add T.F_law_add.kp (b_law_add T) .nil pass0 (pa_cons (pe_ix (IxR.or (r := rIxL K) (r' := rIxT K) ix_list ix_tup) (pv 0) pe_int (fun _ _ => rfl)) (pa_cons (pe_call G_law_mul (hr.mono (by decide)) (by rfl) T.m_law_mul T.F_law_mul.kp (b_law_mul T) .nil pass0 (pa_cons (pv 2) (pa_cons (pe_ix (IxR.or (r := rIxL K) (r' := rIxT K) ix_list ix_tup) (pv 1) pe_int (fun _ _ => rfl)) pa_nil))) pa_nil))) (pa_cons (pe_call G_law_add (hr.mono (by decide)) (by rfl) T.m_law_add T.F_law_add.kp (b_law_add T) .nil pass0 (pa_cons (pe_ix (IxR.or (r := rIxL K) (r' := rIxT K) ix_list ix_tup) (pv 0) pe_int (fun _ _ => rfl)) (pa_cons (pe_call G_law_mul (hr.mono (by decide)) (by rfl) T.m_law_mul T.F_law_mul.kp (b_law_mul T) .nil pass0 (pa_cons (pv 2) (pa_cons (pe_ix (IxR.or (r := rIxL K) (r' := rIxT K) ix_list ix_tup) (pv 1) pe_int (fun _ _ => rfl)) pa_nil))) pa_nil))) pa_nil))))), ?_⟩
    have pu : Pm H u m x y := ⟨m0, ⟨d, hu, pd⟩, zx, zy⟩
    have pv : Pm H v n z w := ⟨n0, ⟨e, hv, pe⟩, zz, zw⟩
    have nt : Nz H t l (rt f) := ⟨l0, ⟨f, ht, nf, rfl⟩, zl⟩
    refine ⟨_, rfl, pu.fst fun a ha => ⟨_, rfl, _, rfl, pv.fst fun b hb => on_rmul nt hb (by omega) fun w1 H1 s1 n1 z1 => on_radd (ha.up s1) z1 (by omega) fun w2 H2 s2 n2 z2 => ?_⟩⟩
    have sA := s1.trans s2
    refine ⟨_, rfl, (pu.up sA).snd fun a ha => ⟨_, rfl, _, rfl, (pv.up sA).snd fun b hb => on_rmul (nt.up sA) hb (by omega) fun w3 H3 s3 n3 z3 => on_radd (ha.up s3) z3 (by omega) fun w4 H4 s4 n4 z4 => ?_⟩⟩
    have sB := (sA.trans s3).trans s4
    exact ⟨(by decide : 2 ≤ sizeLine), fun p hp => k _ _ (sB.trans (Same.new hp)) (New.pt2 sB hp ((((n2.from s1)).up s3).up s4) (n4.from (sA.trans s3)))⟩
theorem ok_law_dot (T : Txt K mg) : FnOk P w K mg base CX0 3 T.a_law_dot T.d_law_dot ["row", "other"] (spPN (fun x y z w => x * z + y * w)) := by
  have G_law_add := ok_law_add (P := P) (w := w) (base := base) T
  have G_law_mul := ok_law_mul (P := P) (w := w) (base := base) T
  refine T.F_law_dot.ok sc_law_dot (fun vs H Q E h => ?_) (fun cdv A outer s H vs Q E hr h => ?_)
  · obtain ⟨u, v, d, e, x, y, z, w, m, n, rfl, _⟩ := h
    rfl
  · obtain ⟨u, v, d, e, x, y, z, w, m, n, rfl, hu, hv, pd, pe, ⟨m0, n0, mn, zx, zy, zz, zw⟩, k⟩ := h
    refine ⟨_, (pss_one (ps_ret (pe_call G_law_add (hr.mono (by decide)) (by rfl) T.m_law_add T.F_law_add.kp (b_law_add T) .nil pass0 (pa_cons (pe_call G_law_mul (hr.mono (by decide)) (by rfl) T.m_law_mul T.F_law_mul.kp (b_law_mul T) .nil pass0 (pa_cons (pe_ix (IxR.or (r := rIxL K) (r' := rIxT K) ix_list ix_tup) (pv 0) pe_int (fun _ _ => rfl)) (pa_cons (pe_ix (IxR.or (r := rIxL K) (r' := rIxT K) ix_list ix_tup) (pv 1) pe_int (fun _ _ => rfl)) pa_nil))) (pa_cons (pe_call G_law_mul (hr.mono (by decide)) (by rfl) T.m_law_mul T.F_law_mul.kp (b_law_mul T) .nil pass0 (pa_cons (pe_ix (IxR.or (r := rIxL K) (r' := rIxT K) ix_list ix_tup) (pv 0) pe_int (fun _ _ => rfl)) (pa_cons (pe_ix (IxR.or (r := rIxL K) (r' := rIxT K) ix_list ix_tup) (pv 1) pe_int (fun _ _ => rfl)) pa_nil))) pa_nil))))), ?_⟩
    have pu : Pm H u m x y := ⟨m0, ⟨d, hu, pd⟩, zx, zy⟩
    have pv : Pm H v n z w := ⟨n0, ⟨e, hv, pe⟩, zz, zw⟩
    refine ⟨_, rfl, pu.fst fun a ha => ⟨_, rfl, pv.fst fun b hb => on_rmul ha hb (by omega) fun w1 H1 s1 n1 z1 => ?_⟩⟩
    refine ⟨_, rfl, (pu.up s1).snd fun a ha => ⟨_, rfl, (pv.up s1).snd fun b hb => on_rmul ha hb (by omega) fun w2 H2 s2 n2 z2 => ?_⟩⟩
    exact on_radd (z1.up s2) z2 (by omega) fun w3 H3 s3 n3 z3 => k w3 H3 ((s1.trans s2).trans s3) (n3.from (s1.trans s2))
theorem ok_law_cross (T : Txt K mg) : FnOk P w K mg base CX0 3 T.a_law_cross T.d_law_cross ["row", "other"] (spPN (fun x y z w => x * w - y * z)) := by
  have G_law_less := ok_law_less (P := P) (w := w) (base := base) T
  have G_law_mul := ok_law_mul (P := P) (w := w) (base := base) T
  refine T.F_law_cross.ok sc_law_cross (fun vs H Q E h => ?_) (fun cdv A outer s H vs Q E hr h => ?_)
  · obtain ⟨u, v, d, e, x, y, z, w, m, n, rfl, _⟩ := h
    rfl
  · obtain ⟨u, v, d, e, x, y, z, w, m, n, rfl, hu, hv, pd, pe, ⟨m0, n0, mn, zx, zy, zz, zw⟩, k⟩ := h
    refine ⟨_, (pss_one (ps_ret (pe_call G_law_less (hr.mono (by decide)) (by rfl) T.m_law_less T.F_law_less.kp (b_law_less T) .nil pass0 (pa_cons (pe_call G_law_mul (hr.mono (by decide)) (by rfl) T.m_law_mul T.F_law_mul.kp (b_law_mul T) .nil pass0 (pa_cons (pe_ix (IxR.or (r := rIxL K) (r' := rIxT K) ix_list ix_tup) (pv 0) pe_int (fun _ _ => rfl)) (pa_cons (pe_ix (IxR.or (r := rIxL K) (r' := rIxT K) ix_list ix_tup) (pv 1) pe_int (fun _ _ => rfl)) pa_nil))) (pa_cons (pe_call G_law_mul (hr.mono (by decide)) (by rfl) T.m_law_mul T.F_law_mul.kp (b_law_mul T) .nil pass0 (pa_cons (pe_ix (IxR.or (r := rIxL K) (r' := rIxT K) ix_list ix_tup) (pv 0) pe_int (fun _ _ => rfl)) (pa_cons (pe_ix (IxR.or (r := rIxL K) (r' := rIxT K) ix_list ix_tup) (pv 1) pe_int (fun _ _ => rfl)) pa_nil))) pa_nil))))), ?_⟩
    have pu : Pm H u m x y := ⟨m0, ⟨d, hu, pd⟩, zx, zy⟩
    have pv : Pm H v n z w := ⟨n0, ⟨e, hv, pe⟩, zz, zw⟩
    refine ⟨_, rfl, pu.fst fun a ha => ⟨_, rfl, pv.snd fun b hb => on_rmul ha hb (by omega) fun w1 H1 s1 n1 z1 => ?_⟩⟩
    refine ⟨_, rfl, (pu.up s1).snd fun a ha => ⟨_, rfl, (pv.up s1).fst fun b hb => on_rmul ha hb (by omega) fun w2 H2 s2 n2 z2 => ?_⟩⟩
    exact on_rsub (z1.up s2) z2 (by omega) fun w3 H3 s3 n3 z3 => k w3 H3 ((s1.trans s2).trans s3) (n3.from (s1.trans s2))
theorem ok_law_far (T : Txt K mg) : FnOk P w K mg base CX0 4 T.a_law_far T.d_law_far ["one", "other"] spFar := by
  have G_law_row := ok_law_row (P := P) (w := w) (base := base) T
  have G_law_dot := ok_law_dot (P := P) (w := w) (base := base) T
  refine T.F_law_far.ok sc_law_far (fun vs H Q E h => ?_) (fun cdv A outer s H vs Q E hr h => ?_)
  · obtain ⟨u, v, d, e, x, y, z, w, m, n, rfl, _⟩ := h
    rfl
  · obtain ⟨u, v, d, e, x, y, z, w, m, n, rfl, hu, hv, pd, pe, ⟨m0, n0, mn, zx, zy, zz, zw⟩, k⟩ := h
    refine ⟨_, (pss_cons (ps_set (i := 2) sc_law_far.nd rfl (Or.inl rfl) (pe_call G_law_row (hr.mono (by decide)) (by rfl) T.m_law_row T.F_law_row.kp (b_law_row T) .nil pass0 (pa_cons (pv 0) (pa_cons (pv 1) pa_nil))))
      (pss_one (ps_ret (pe_call G_law_dot (hr.mono (by decide)) (by rfl) T.m_law_dot T.F_law_dot.kp (b_law_dot T) .nil pass0 (pa_cons (pv 2) (pa_cons (pv 2) pa_nil)))))), ?_⟩
    have pu : Pm H u m x y := ⟨m0, ⟨d, hu, pd⟩, zx, zy⟩
    have pv : Pm H v n z w := ⟨n0, ⟨e, hv, pe⟩, zz, zw⟩
    refine ⟨_, rfl, _, rfl, on_way pu pv (by omega) fun r H1 s1 n1 p1 => ⟨_, rfl, _, rfl, on_dot p1 p1 (by omega) fun r2 H2 s2 n2 z2 => k r2 H2 (s1.trans s2) (n2.from s1)⟩⟩
theorem ok_law_parallel (T : Txt K mg) : FnOk P w K mg base CX0 4 T.a_law_parallel T.d_law_parallel ["o", "a", "b"] spPar := by
  have G_law_gone := ok_law_gone (P := P) (w := w) (base := base) T
  have G_law_row := ok_law_row (P := P) (w := w) (base := base) T
  refine T.F_law_parallel.ok sc_law_parallel (fun vs H Q E h => ?_) (fun cdv A outer s H vs Q E hr h => ?_)
  · obtain ⟨u, v, t, o, p, a, b, c, d, n, rfl, _⟩ := h
    rfl
  · obtain ⟨u, v, t, o, p, a, b, c, d, n, rfl, hu, hv, ht, bn, k⟩ := h
    refine ⟨_, (pss_one (ps_ret (pe_call G_law_gone (hr.mono (by decide)) (by rfl) T.m_law_gone T.F_law_gone.kp (b_law_gone T) .nil pass0 (pa_cons (pv 1) (pa_cons (pe_call G_law_row (hr.mono (by decide)) (by rfl) T.m_law_row T.F_law_row.kp (b_law_row T) .nil pass0 (pa_cons (pv 0) (pa_cons (pv 2) pa_nil))) (pa_cons pe_int pa_nil)))))), ?_⟩
    refine ⟨_, rfl, _, rfl, _, rfl, on_way hu ht (by omega) fun r H1 s1 n1 p1 => on_goneR (hv.up s1) p1 nz_one (by omega) fun r2 H2 s2 n2 p2 => ?_⟩
    rw [Rat.one_mul, Rat.one_mul] at n2 p2
    exact k r2 H2 (s1.trans s2) (n2.from s1) ⟨by omega, ⟨_, n2.is, pt_pt⟩, (hv.2.2.1.add p1.2.2.1).more (by omega), (hv.2.2.2.add p1.2.2.2).more (by omega)⟩
theorem ok_law_half (T : Txt K mg) : FnOk P w K mg base CX0 3 T.a_law_half T.d_law_half ["one", "other"] spHalf := by
  have G_law_part := ok_law_part (P := P) (w := w) (base := base) T
  have G_law_add := ok_law_add (P := P) (w := w) (base := base) T
  refine T.F_law_half.ok sc_law_half (fun vs H Q E h => ?_) (fun cdv A outer s H vs Q E hr h => ?_)
  · obtain ⟨u, v, x, y, z, w', m, n, rfl, _⟩ := h
    rfl
  · obtain ⟨u, v, x, y, z, w', m, n, rfl, hu, hv, bn, k⟩ := h
    refine ⟨_, (pss_one (ps_ret (pe_tup (pa_cons (pe_call G_law_part (hr.mono (by decide)) (by rfl) T.m_law_part T.F_law_part.kp (b_law_part T) .nil pass0 (pa_cons (pe_call G_law_add (hr.mono (by decide)) (by rfl) T.m_law_add T.F_law_add.kp (b_law_add T) .nil pass0 (pa_cons (pe_ix (IxR.or (r := rIxL K) (r' := rIxT K) ix_list ix_tup) (pv 0) pe_int (fun _ _ => rfl)) (pa_cons (pe_ix (IxR.or (r := rIxL K) (r' := rIxT K) ix_list ix_tup) (pv 1) pe_int (fun _ _ => rfl)) pa_nil))) (pa_cons pe_int pa_nil))) (pa_cons (pe_call G_law_part (hr.mono (by decide)) (by rfl) T.m_law_part T.F_law_part.kp (b_law_part T) .nil pass0 (pa_cons (pe_call G_law_add (hr.mono (by decide)) (by rfl) T.m_law_add T.F_law_add.kp (b_law_add T) .nil pass0 (pa_cons (pe_ix (IxR.or (r := rIxL K) (r' := rIxT K) ix_list ix_tup) (pv 0) pe_int (fun _ _ => rfl)) (pa_cons (pe_ix (IxR.or (r := rIxL K) (r' := rIxT K) ix_list ix_tup) (pv 1) pe_int (fun _ _ => rfl)) pa_nil))) (pa_cons pe_int pa_nil))) pa_nil))))), ?_⟩
    refine ⟨_, rfl, hu.fst fun a ha => ⟨_, rfl, hv.fst fun b hb => on_radd ha hb (by omega) fun w1 H1 s1 n1 z1 => on_rpart z1 nz_two (by omega) (by decide +kernel) fun w2 H2 s2 n2 z2 => ?_⟩⟩
    have sA := s1.trans s2
    refine ⟨_, rfl, (hu.up sA).snd fun a ha => ⟨_, rfl, (hv.up sA).snd fun b hb => on_radd ha hb (by omega) fun w3 H3 s3 n3 z3 => on_rpart z3 nz_two (by omega) (by decide +kernel) fun w4 H4 s4 n4 z4 => ⟨(by decide : 2 ≤ sizeLine), fun p hp => ?_⟩⟩⟩
    have sB := (sA.trans s3).trans s4
    have nn : New H (upd H4 p (.tup [w2, w4])) (.ref p) (pt (hf x z) (hf y w')) := New.pt2 sB hp (((n2.from s1).up s3).up s4) (n4.from (sA.trans s3))
    exact k _ _ (sB.trans (Same.new hp)) nn (nn.pm (by omega) (sz_hf hu.2.2.1 hv.2.2.1) (sz_hf hu.2.2.2 hv.2.2.2))
theorem ok_law_mirrored (T : Txt K mg) : FnOk P w K mg base CX0 4 T.a_law_mirrored T.d_law_mirrored ["point", "one", "other"] spMirror := by
  have G_law_row := ok_law_row (P := P) (w := w) (base := base) T
  have G_law_gone := ok_law_gone (P := P) (w := w) (base := base) T
  have G_law_part := ok_law_part (P := P) (w := w) (base := base) T
  have G_law_dot := ok_law_dot (P := P) (w := w) (base := base) T
  refine T.F_law_mirrored.ok sc_law_mirrored (fun vs H Q E h => ?_) (fun cdv A outer s H vs Q E hr h => ?_)
  · obtain ⟨u, v, t, x, y, a, b, c, d, m, n, rfl, _⟩ := h
    rfl
  · obtain ⟨u, v, t, x, y, a, b, c, d, m, n, rfl, hu, hv, ht, ne, mn, k⟩ := h
    refine ⟨_, (pss_cons (ps_set (i := 3) sc_law_mirrored.nd rfl (Or.inl rfl) (pe_call G_law_row (hr.mono (by decide)) (by rfl) T.m_law_row T.F_law_row.kp (b_law_row T) .nil pass0 (pa_cons (pv 1) (pa_cons (pv 2) pa_nil))))
      (pss_cons (ps_set (i := 4) sc_law_mirrored.nd rfl (Or.inl rfl) (pe_call G_law_gone (hr.mono (by decide)) (by rfl) T.m_law_gone T.F_law_gone.kp (b_law_gone T) .nil pass0 (pa_cons (pv 1) (pa_cons (pv 3) (pa_cons (pe_call G_law_part (hr.mono (by decide)) (by rfl) T.m_law_part T.F_law_part.kp (b_law_part T) .nil pass0 (pa_cons (pe_call G_law_dot (hr.mono (by decide)) (by rfl) T.m_law_dot T.F_law_dot.kp (b_law_dot T) .nil pass0 (pa_cons (pv 3) (pa_cons (pe_call G_law_row (hr.mono (by decide)) (by rfl) T.m_law_row T.F_law_row.kp (b_law_row T) .nil pass0 (pa_cons (pv 1) (pa_cons (pv 0) pa_nil))) pa_nil))) (pa_cons (pe_call G_law_dot (hr.mono (by decide)) (by rfl) T.m_law_dot T.F_law_dot.kp (b_law_dot T) .nil pass0 (pa_cons (pv 3) (pa_cons (pv 3) pa_nil))) pa_nil))) pa_nil)))))
      (pss_one (ps_ret (pe_call G_law_gone (hr.mono (by decide)) (by rfl) T.m_law_gone T.F_law_gone.kp (b_law_gone T) .nil pass0 (pa_cons (pv 0) (pa_cons (pe_call G_law_row (hr.mono (by decide)) (by rfl) T.m_law_row T.F_law_row.kp (b_law_row T) .nil pass0 (pa_cons (pv 0) (pa_cons (pv 4) pa_nil))) (pa_cons pe_int pa_nil)))))))), ?_⟩
    refine ⟨_, rfl, _, rfl, on_way hv ht (by omega) fun r1 H1 s1 n1 p1 => ?_⟩
    refine ⟨_, rfl, _, rfl, _, rfl, _, rfl, _, rfl, on_way (hv.up s1) (hu.up s1) (by omega) fun r2 H2 s2 n2 p2 => on_dot (p1.up s2) p2 (by omega) fun r3 H3 s3 n3 z3 => ?_⟩
    have e : (c - a) * (x - a) + (d - b) * (y - b) = (x - a) * (c - a) + (y - b) * (d - b) := by grind
    rw [e] at z3
    have sA := (s1.trans s2).trans s3
    have p1A := (p1.up s2).up s3
    refine ⟨_, rfl, _, rfl, on_dot p1A p1A (by omega) fun r4 H4 s4 n4 z4 => on_rpart (z3.up s4) z4 (by omega) (far2_ne ne) fun r5 H5 s5 n5 z5 => on_goneR (((hv.up sA).up s4).up s5) ((p1A.up s4).up s5) z5 (by omega) fun r6 H6 s6 n6 p6 => ?_⟩
    have sB := ((sA.trans s4).trans s5).trans s6
    refine ⟨_, rfl, _, rfl, _, rfl, on_way (hu.up sB) p6 (by omega) fun r7 H7 s7 n7 p7 => on_goneR ((hu.up sB).up s7) p7 nz_two (by omega) fun r8 H8 s8 n8 p8 => ?_⟩
    exact k r8 H8 ((sB.trans s7).trans s8) (n8.from (sB.trans s7)) (p8.more (by omega))
theorem ok_law_corners (T : Txt K mg) : FnOk P w K mg base CX0 5 T.a_law_corners T.d_law_corners ["o", "a", "b"] spCrnL := by
  have G_law_parallel := ok_law_parallel (P := P) (w := w) (base := base) T
  have G_law_cross := ok_law_cross (P := P) (w := w) (base := base) T
  have G_law_mirrored := ok_law_mirrored (P := P) (w := w) (base := base) T
  have G_law_row := ok_law_row (P := P) (w := w) (base := base) T
  refine T.F_law_corners.ok sc_law_corners (fun vs H Q E h => ?_) (fun cdv A outer s H vs Q E hr h => ?_)
  · obtain ⟨u, v, t, o, p, a, b, c, d, n, rfl, _⟩ := h
    rfl
  · obtain ⟨u, v, t, o, p, a, b, c, d, n, rfl, hu, hv, ht, ne, mn, k⟩ := h
    refine ⟨_, (pss_cons (ps_set (i := 3) sc_law_corners.nd rfl (Or.inl rfl) (pe_call G_law_parallel (hr.mono (by decide)) (by rfl) T.m_law_parallel T.F_law_parallel.kp (b_law_parallel T) .nil pass0 (pa_cons (pv 0) (pa_cons (pv 1) (pa_cons (pv 2) pa_nil)))))
      (pss_one (ps_ret (pe_ifExp (pt_cmpR (op_eqD hr.units) (pe_call G_law_cross (hr.mono (by decide)) (by rfl) T.m_law_cross T.F_law_cross.kp (b_law_cross T) .nil pass0 (pa_cons (pe_call G_law_row (hr.mono (by decide)) (by rfl) T.m_law_row T.F_law_row.kp (b_law_row T) .nil pass0 (pa_cons (pv 0) (pa_cons (pv 1) pa_nil))) (pa_cons (pe_call G_law_row (hr.mono (by decide)) (by rfl) T.m_law_row T.F_law_row.kp (b_law_row T) .nil pass0 (pa_cons (pv 0) (pa_cons (pv 2) pa_nil))) pa_nil))) pe_int (nomark _)) (pe_lst (pa_cons (pv 3) pa_nil)) (pe_lst (pa_cons (pv 3) (pa_cons (pe_call G_law_mirrored (hr.mono (by decide)) (by rfl) T.m_law_mirrored T.F_law_mirrored.kp (b_law_mirrored T) .nil pass0 (pa_cons (pv 3) (pa_cons (pv 1) (pa_cons (pv 2) pa_nil)))) pa_nil))))))), ?_⟩
    refine ⟨_, rfl, _, rfl, _, rfl, u, v, t, o, p, a, b, c, d, n, rfl, hu, hv, ht, by omega, fun r1 H1 s1 n1 p1 => ?_⟩
    refine ⟨_, rfl, _, rfl, on_way (hu.up s1) (hv.up s1) (by omega) fun r2 H2 s2 n2 p2 => ⟨_, rfl, _, rfl, on_way ((hu.up s1).up s2) ((ht.up s1).up s2) (by omega) fun r3 H3 s3 n3 p3 => on_cross (p2.up s3) p3 (by omega) fun r4 H4 s4 n4 z4 => ?_⟩⟩
    have sA := ((s1.trans s2).trans s3).trans s4
    obtain ⟨d1, d2, g1, g2, g3, g4, ge⟩ := eq_num (K := K) n4.is (Is.zero (H := H4))
    rw [show decide ((a - o) * (d - p) - (b - p) * (c - o) = 0) = decide (flatQ o p a b c d = 0) from by simp only [flat_cross]] at ge
    refine ⟨d1, d2, g1, g2, g3, g4, _, rfl, iteB (fun z => ?_) fun z => ?_⟩
    · refine ⟨_, rfl, (by decide : 1 ≤ sizeLine), fun q hq => k _ _ (sA.trans (Same.new hq)) ?_⟩
      unfold crnL
      rw [if_pos (ge.symm.trans z)]
      exact New.lst1' sA hq (((n1.up s2).up s3).up s4)
    · refine ⟨_, rfl, _, rfl, _, rfl, _, rfl, r1, v, t, _, _, a, b, c, d, 3 * n + 2, n, rfl, ((p1.up s2).up s3).up s4, hv.up sA, ht.up sA, ne, by omega, fun r5 H5 s5 n5 p5 => ⟨(by decide : 2 ≤ sizeLine), fun q hq => k _ _ ((sA.trans s5).trans (Same.new hq)) ?_⟩⟩
      unfold crnL
      rw [if_neg (by rw [ge.symm.trans z]; exact Bool.false_ne_true)]
      exact New.lst2' (sA.trans s5) hq ((((n1.up s2).up s3).up s4).up s5) (n5.from sA)
theorem ok_law_has_room (T : Txt K mg) : FnOk P w K mg base CX0 4 T.a_law_has_room T.d_law_has_room ["o", "a", "c", "b", "m", "n"] spOwnRoom := by
  have G_law_less := ok_law_less (P := P) (w := w) (base := base) T
  have G_law_half := ok_law_half (P := P) (w := w) (base := base) T
  have G_law_row := ok_law_row (P := P) (w := w) (base := base) T
  have G_law_mul := ok_law_mul (P := P) (w := w) (base := base) T
  have G_law_part := ok_law_part (P := P) (w := w) (base := base) T
  have G_law_dot := ok_law_dot (P := P) (w := w) (base := base) T
  have G_law_under := ok_law_under (P := P) (w := w) (base := base) T
  have G_law_cross := ok_law_cross (P := P) (w := w) (base := base) T
  refine T.F_law_has_room.ok sc_law_has_room (fun vs H Q E h => ?_) (fun cdv A outer s H vs Q E hr h => ?_)
  · obtain ⟨vo, va, vc, vb, vm, vn, o, p, a, b, x, y, c, d, m, n, rfl, _⟩ := h
    rfl
  · obtain ⟨vo, va, vc, vb, vm, vn, o, p, a, b, x, y, c, d, m, n, rfl, po, pa, pc, pb, nm, nn, k⟩ := h
    refine ⟨_, (pss_cons (ps_set (i := 6) sc_law_has_room.nd rfl (Or.inl rfl) (pe_lst (pa_cons (pe_call G_law_half (hr.mono (by decide)) (by rfl) T.m_law_half T.F_law_half.kp (b_law_half T) .nil pass0 (pa_cons (pv 0) (pa_cons (pv 1) pa_nil))) (pa_cons (pe_call G_law_half (hr.mono (by decide)) (by rfl) T.m_law_half T.F_law_half.kp (b_law_half T) .nil pass0 (pa_cons (pv 1) (pa_cons (pv 2) pa_nil))) (pa_cons (pe_call G_law_half (hr.mono (by decide)) (by rfl) T.m_law_half T.F_law_half.kp (b_law_half T) .nil pass0 (pa_cons (pv 2) (pa_cons (pv 3) pa_nil))) (pa_cons (pe_call G_law_half (hr.mono (by decide)) (by rfl) T.m_law_half T.F_law_half.kp (b_law_half T) .nil pass0 (pa_cons (pv 3) (pa_cons (pv 0) pa_nil))) pa_nil))))))
      (pss_cons (ps_set (i := 7) sc_law_has_room.nd rfl (Or.inl rfl) (pe_lst (pa_cons (pe_call G_law_row (hr.mono (by decide)) (by rfl) T.m_law_row T.F_law_row.kp (b_law_row T) .nil pass0 (pa_cons (pe_ix ix_list (pv 6) pe_int (fun _ _ => rfl)) (pa_cons (pe_ix ix_list (pv 6) pe_int (fun _ _ => rfl)) pa_nil))) (pa_cons (pe_call G_law_row (hr.mono (by decide)) (by rfl) T.m_law_row T.F_law_row.kp (b_law_row T) .nil pass0 (pa_cons (pe_ix ix_list (pv 6) pe_int (fun _ _ => rfl)) (pa_cons (pe_ix ix_list (pv 6) pe_int (fun _ _ => rfl)) pa_nil))) pa_nil))))
      (pss_cons (ps_set (i := 8) sc_law_has_room.nd rfl (Or.inl rfl) (pe_call G_law_less (hr.mono (by decide)) (by rfl) T.m_law_less T.F_law_less.kp (b_law_less T) .nil pass0 (pa_cons (pe_call G_law_mul (hr.mono (by decide)) (by rfl) T.m_law_mul T.F_law_mul.kp (b_law_mul T) .nil pass0 (pa_cons (pv 4) (pa_cons (pv 4) pa_nil))) (pa_cons (pe_call G_law_part (hr.mono (by decide)) (by rfl) T.m_law_part T.F_law_part.kp (b_law_part T) .nil pass0 (pa_cons (pe_call G_law_dot (hr.mono (by decide)) (by rfl) T.m_law_dot T.F_law_dot.kp (b_law_dot T) .nil pass0 (pa_cons (pe_ix ix_list (pv 7) pe_int (fun _ _ => rfl)) (pa_cons (pe_ix ix_list (pv 7) pe_int (fun _ _ => rfl)) pa_nil))) (pa_cons pe_int pa_nil))) pa_nil))))
      (pss_cons (ps_set (i := 9) sc_law_has_room.nd rfl (Or.inl rfl) (pe_call G_law_less (hr.mono (by decide)) (by rfl) T.m_law_less T.F_law_less.kp (b_law_less T) .nil pass0 (pa_cons (pe_call G_law_mul (hr.mono (by decide)) (by rfl) T.m_law_mul T.F_law_mul.kp (b_law_mul T) .nil pass0 (pa_cons (pv 5) (pa_cons (pv 5) pa_nil))) (pa_cons (pe_call G_law_part (hr.mono (by decide)) (by rfl) T.m_law_part T.F_law_part.kp (b_law_part T) .nil pass0 (pa_cons (pe_call G_law_dot (hr.mono (by decide)) (by rfl) T.m_law_dot T.F_law_dot.kp (b_law_dot T) .nil pass0 (pa_cons (pe_ix ix_list (pv 7) pe_int (fun _ _ => rfl)) (pa_cons (pe_ix ix_list (pv 7) pe_int (fun _ _ => rfl)) pa_nil))) (pa_cons pe_int pa_nil))) pa_nil))))
      (pss_one (ps_ret (pe_and (pe_cmpR (op_eqD hr.units) (pv 8) (pv 9) (nomark _)) (pe_and (pe_not (pe_call G_law_under (hr.mono (by decide)) (by rfl) T.m_law_under T.F_law_under.kp (b_law_under T) .nil pass0 (pa_cons (pv 8) (pa_cons pe_int pa_nil)))) (pe_one (pe_or (pe_cmpR (op_eqD hr.units) (pv 8) pe_int (nomark _)) (pe_one (pe_cmpR (op_eqD hr.units) (pe_call G_law_cross (hr.mono (by decide)) (by rfl) T.m_law_cross T.F_law_cross.kp (b_law_cross T) .nil pass0 (pa_cons (pe_ix ix_list (pv 7) pe_int (fun _ _ => rfl)) (pa_cons (pe_ix ix_list (pv 7) pe_int (fun _ _ => rfl)) pa_nil))) pe_int (nomark _))))))))))))), ?_⟩
    refine ⟨_, rfl, _, rfl, on_half po pa (by decide) fun r1 H1 s1 n1 p1 => ?_⟩
    refine ⟨_, rfl, _, rfl, on_half (pa.up s1) (pc.up s1) (by decide) fun r2 H2 s2 n2 p2 => ?_⟩
    have sA := s1.trans s2
    refine ⟨_, rfl, _, rfl, on_half (pc.up sA) (pb.up sA) (by decide) fun r3 H3 s3 n3 p3 => ?_⟩
    have sB := sA.trans s3
    refine ⟨_, rfl, _, rfl, on_half (pb.up sB) (po.up sB) (by decide) fun r4 H4 s4 n4 p4 => ⟨(by decide : 4 ≤ sizeLine), fun q hq => ?_⟩⟩
    have s5 : Same H4 (upd H4 q (.lst [r1, r2, r3, r4])) := Same.new hq
    have e5 : (upd H4 q (.lst [r1, r2, r3, r4])) q = some (.lst [r1, r2, r3, r4]) := upd_same
    have m1 := (((p1.up s2).up s3).up s4).up s5
    have m2 := ((p2.up s3).up s4).up s5
    have m3 := (p3.up s4).up s5
    have m4 := p4.up s5
    generalize upd H4 q (.lst [r1, r2, r3, r4]) = H5 at s5 e5 m1 m2 m3 m4 ⊢
    have sD := (sB.trans s4).trans s5
    refine ⟨_, rfl, q, _, _, _, rfl, rfl, .inl (.inl e5), rfl, _, rfl, q, _, _, _, rfl, rfl, .inl (.inl e5), rfl, on_way m1 m3 (by decide) fun r7 H7 s7 n7 p7 => ?_⟩
    refine ⟨_, rfl, q, _, _, _, rfl, rfl, .inl (.inl (s7 _ _ e5)), rfl, _, rfl, q, _, _, _, rfl, rfl, .inl (.inl (s7 _ _ e5)), rfl, on_way (m2.up s7) (m4.up s7) (by decide) fun r8 H8 s8 n8 p8 => ⟨(by decide : 2 ≤ sizeLine), fun q2 hq2 => ?_⟩⟩
    have s9 : Same H8 (upd H8 q2 (.lst [r7, r8])) := Same.new hq2
    have eq2 : (upd H8 q2 (.lst [r7, r8])) q2 = some (.lst [r7, r8]) := upd_same
    have p7 := (p7.up s8).up s9
    have p8 := p8.up s9
    generalize upd H8 q2 (.lst [r7, r8]) = H9 at s9 eq2 p7 p8 ⊢
    have sE := ((sD.trans s7).trans s8).trans s9
    clear m1 m2 m3 m4 n1 n2 n3 n4 n7 n8 p1 p2 p3 p4 e5
    -- high, low
    refine ⟨_, rfl, _, rfl, on_rmul (nm.up sE) (nm.up sE) (by decide) fun w1 H10 s10 n10 z10 => ?_⟩
    refine ⟨_, rfl, q2, _, _, _, rfl, rfl, .inl (.inl (s10 _ _ eq2)), rfl, _, rfl, q2, _, _, _, rfl, rfl, .inl (.inl (s10 _ _ eq2)), rfl, on_dot (p7.up s10) (p7.up s10) (by decide) fun w2 H11 s11 n11 z11 => on_rpart z11 nz_four (by decide) (by decide +kernel) fun w3 H12 s12 n12 z12 => on_rsub ((z10.up s11).up s12) z12 (by decide) fun w4 H13 s13 n13 z13 => ?_⟩
    have x13 := ((s10.trans s11).trans s12).trans s13
    have sF := sE.trans x13
    refine ⟨_, rfl, _, rfl, on_rmul (nn.up sF) (nn.up sF) (by decide) fun w5 H14 s14 n14 z14 => ?_⟩
    have eq14 := s14 _ _ (x13 _ _ eq2)
    refine ⟨_, rfl, q2, _, _, _, rfl, rfl, .inl (.inl eq14), rfl, _, rfl, q2, _, _, _, rfl, rfl, .inl (.inl eq14), rfl, on_dot ((p8.up x13).up s14) ((p8.up x13).up s14) (by decide) fun w6 H15 s15 n15 z15 => on_rpart z15 nz_four (by decide) (by decide +kernel) fun w7 H16 s16 n16 z16 => on_rsub ((z14.up s15).up s16) z16 (by decide) fun w8 H17 s17 n17 z17 => ?_⟩
    have x17 := ((s14.trans s15).trans s16).trans s17
    have sG := sF.trans x17
    have nh : Nz H17 w4 5000 (m * m - wd o p a b x y c d) := (z13.up x17).more (by decide)
    have ih : Is H17 w4 (ofR (m * m - wd o p a b x y c d)) := n13.is.up x17
    have il : Is H17 w8 (ofR (n * n - hg o p a b x y c d)) := n17.is
    have eq17 := x17 _ _ (x13 _ _ eq2)
    have p7 := (p7.up x13).up x17
    have p8 := (p8.up x13).up x17
    obtain ⟨d1, d2, g1, g2, g3, g4, ge⟩ := eq_num (K := K) ih il
    have er : rm m n o p a b c d (x, y) = (decide (m * m - wd o p a b x y c d = n * n - hg o p a b x y c d) && (!decide (m * m - wd o p a b x y c d < 0) && (decide (m * m - wd o p a b x y c d = 0) || decide (crs o p a b x y c d = 0)))) := rfl
    rw [er, ← ge] at k
    refine ⟨_, rfl, _, rfl, d1, d2, g1, g2, g3, g4, _, rfl, iteB (fun z => ?_) fun z => ?_⟩
    · rw [z, Bool.true_and] at k
      refine ⟨_, rfl, on_lessN nh nz_zero (by decide) fun H18 s18 => ⟨_, rfl, _, rfl, iteB (fun z2 => ?_) fun z2 => ?_⟩⟩
      · rw [z2, Bool.true_and] at k
        obtain ⟨d3, d4, g5, g6, g7, g8, ge2⟩ := eq_num (K := K) (ih.up s18) (Is.zero (H := H18))
        rw [← ge2] at k
        refine ⟨_, rfl, d3, d4, g5, g6, g7, g8, _, rfl, iteB (fun z3 => ?_) fun z3 => ?_⟩
        · rw [z3, Bool.true_or] at k
          exact k H18 (sG.trans s18)
        · rw [z3, Bool.false_or] at k
          refine ⟨_, rfl, q2, _, _, _, rfl, rfl, .inl (.inl (s18 _ _ eq17)), rfl, _, rfl, q2, _, _, _, rfl, rfl, .inl (.inl (s18 _ _ eq17)), rfl, on_cross (p7.up s18) (p8.up s18) (by decide) fun w9 H19 s19 n19 z19 => ?_⟩
          obtain ⟨d5, d6, f5, f6, f7, f8, ge3⟩ := eq_num (K := K) n19.is (Is.zero (H := H19))
          refine ⟨d5, d6, f5, f6, f7, f8, ?_⟩
          rw [ge3]
          exact k H19 ((sG.trans s18).trans s19)
      · rw [z2, Bool.false_and] at k
        exact k H18 (sG.trans s18)
    · rw [z, Bool.false_and] at k
      exact k H17 sG
theorem ok_law_goes_with (T : Txt K mg) : FnOk P w K mg base CX0 3 T.a_law_goes_with T.d_law_goes_with ["kind", "is_crossed", "is_flat_v", "room", "wide", "high"] spGoes := by
  have G_law_under := ok_law_under (P := P) (w := w) (base := base) T
  refine T.F_law_goes_with.ok sc_law_goes_with (fun vs H Q E h => ?_) (fun cdv A outer s H vs Q E hr h => ?_)
  · obtain ⟨kind, isc, flat, room, vw, vh, wide, high, k', l, rfl, _⟩ := h
    rfl
  · obtain ⟨kind, isc, flat, room, vw, vh, wide, high, k', l, rfl, nw, nh, bn, k⟩ := h
    refine ⟨_, (pss_cons (ps_if (pt_cmpR op_eq (pv 0) pe_str (nomark _)) (pss_one (ps_ret (pe_not (pv 3)))) pss_nil)
      (pss_cons (ps_if (pt_cmpR op_eq (pv 0) pe_str (nomark _)) (pss_one (ps_ret (pv 3))) pss_nil)
      (pss_cons (ps_if (pt_cmpR op_eq (pv 0) pe_str (nomark _)) (pss_one (ps_ret (pe_cmpR op_eq (pv 3) (pv 1) (nomark _)))) pss_nil)
      (pss_one (ps_ret (pe_cmpR op_eq (pv 3) (pe_and (pv 1) (pe_and (pe_not (pv 2)) (pe_one (pe_not (pe_call G_law_under (hr.mono (by decide)) (by rfl) T.m_law_under T.F_law_under.kp (b_law_under T) .nil pass0 (pa_cons (pv 5) (pa_cons (pv 4) pa_nil))))))) (nomark _))))))), ?_⟩
    refine ⟨_, rfl, rfl, _, rfl, iteD (fun z => ?_) fun z => ?_⟩
    · have z' : kind = "none" := by injection z
      have e : goesWith kind isc flat room wide high = !room := by unfold goesWith; rw [if_pos z']
      rw [e] at k
      exact ⟨_, rfl, _, rfl, k H (Same.refl _)⟩
    have z1 : ¬ kind = "none" := fun w => z (congrArg V.str w)
    refine ⟨_, rfl, rfl, _, rfl, iteD (fun z => ?_) fun z => ?_⟩
    · have z' : kind = "both" := by injection z
      have e : goesWith kind isc flat room wide high = room := by unfold goesWith; rw [if_neg z1, if_pos z']
      rw [e] at k
      exact ⟨_, rfl, k H (Same.refl _)⟩
    have z2 : ¬ kind = "both" := fun w => z (congrArg V.str w)
    have beq : ∀ x y : Bool, decide (V.bl x = V.bl y) = decide (x = y) := fun x y => decide_eq_decide.mpr ⟨fun w => by injection w, fun w => congrArg V.bl w⟩
    refine ⟨_, rfl, rfl, _, rfl, iteD (fun z => ?_) fun z => ?_⟩
    · have z' : kind = "crossed" := by injection z
      have e : goesWith kind isc flat room wide high = decide (room = isc) := by unfold goesWith; rw [if_neg z1, if_neg z2, if_pos z']
      rw [e, ← beq] at k
      exact ⟨_, rfl, _, rfl, rfl, k H (Same.refl _)⟩
    have z3 : ¬ kind = "crossed" := fun w => z (congrArg V.str w)
    have e : goesWith kind isc flat room wide high = decide (room = (isc && (!flat && !decide (high < wide)))) := by unfold goesWith; rw [if_neg z1, if_neg z2, if_neg z3]
    rw [e, ← beq] at k
    refine ⟨_, rfl, _, rfl, _, rfl, ?_⟩
    cases isc with
    | false => exact ⟨rfl, k H (Same.refl _)⟩
    | true =>
      refine ⟨_, rfl, _, rfl, _, rfl, ?_⟩
      cases flat with
      | true => exact ⟨rfl, k H (Same.refl _)⟩
      | false => exact ⟨_, rfl, _, rfl, on_lessN nh nw bn fun H1 s1 => ⟨_, rfl, rfl, k H1 s1⟩⟩
end
end Ty

namespace Ty
open PySem PySem.Spec PyProof.Rows L2
section
variable {P : Program} {w : World} {K : PySem.W.Frag} {mg : Str → Option Value} {base : Heap}
theorem ok_law_number (T : Txt K mg) : FnOk P w K mg base CX0 3 T.a_law_number T.d_law_number ["latch"] (spDraw 2 numP) := by
  have G_law_form := ok_law_form (P := P) (w := w) (base := base) T
  have G_law_pick := ok_law_pick (P := P) (w := w) (base := base) T
  have G_law_click := ok_law_click (P := P) (w := w) (base := base) T
  refine T.F_law_number.ok sc_law_number (fun vs H Q E h => ?_) (fun cdv A outer s H vs Q E hr h => ?_)
  · obtain ⟨S, j, bk, n, rfl, _⟩ := h
    rfl
  · obtain ⟨S, j, bk, n, rfl, hS, lv, J, hn, k⟩ := h
    refine ⟨_, (pss_one (ps_ret (pe_call G_law_form (hr.mono (by decide)) (by rfl) T.m_law_form T.F_law_form.kp (b_law_form T) .nil pass0 (pa_cons (pe_op op_sub (pe_call G_law_click (hr.mono (by decide)) (by rfl) T.m_law_click T.F_law_click.kp (b_law_click T) .nil pass0 (pa_cons (pv 0) (pa_cons pe_int pa_nil))) pe_int) (pa_cons (pe_call G_law_pick (hr.mono (by decide)) (by rfl) T.m_law_pick T.F_law_pick.kp (b_law_pick T) .nil pass0 (pa_cons (pv 0) (pa_cons (pe_lst (pa_cons pe_int (pa_cons pe_int (pa_cons pe_int (pa_cons pe_int (pa_cons pe_int pa_nil)))))) pa_nil))) pa_nil))))), ?_⟩
    refine dr_ret (dr_formR (Pa := fun a => a.natAbs < 8) (Pb := fun b => 0 < b ∧ b < 8)
      ((dr_op0 (dr_reach rfl (by decide) (by decide)) dr_cI).imp fun d ⟨i, e, a, b, ha, hb, hi⟩ => ⟨i, e, by omega⟩)
      ((dr_pickE hS rfl (drA_consE hS dr_int (drA_consE hS dr_int (drA_consE hS dr_int (drA_consE hS dr_int (drA_consE hS dr_int drA_nil))))) (by decide) (by decide)).imp fun d hm => by
        simp only [List.mem_cons, List.not_mem_nil, or_false] at hm
        rcases hm with rfl | rfl | rfl | rfl | rfl <;> exact ⟨_, rfl, by decide, by decide⟩)
      fun b hb => ⟨by omega, Nat.lt_of_lt_of_le (show b.natAbs < 2 ^ 3 by omega) (Nat.pow_le_pow_right (by decide) (by decide))⟩) lv J (by omega) fun v d H3 k3 l3 J3 h3 p3 => ?_
    obtain ⟨a, b, pa, ⟨b0, b1⟩, rfl⟩ := p3
    exact k v _ H3 k3 l3 J3 h3 ⟨_, rfl, sz_low (by omega) pa (show b.natAbs < 2 ^ 3 by omega)⟩
theorem ok_law_point (T : Txt K mg) : FnOk P w K mg base CX0 4 T.a_law_point T.d_law_point ["latch"] (spDraw 4 pointP) := by
  have G_law_number := ok_law_number (P := P) (w := w) (base := base) T
  refine T.F_law_point.ok sc_law_point (fun vs H Q E h => ?_) (fun cdv A outer s H vs Q E hr h => ?_)
  · obtain ⟨S, j, bk, n, rfl, _⟩ := h
    rfl
  · obtain ⟨S, j, bk, n, rfl, hS, lv, J, hn, k⟩ := h
    refine ⟨_, (pss_one (ps_ret (pe_tup (pa_cons (pe_call G_law_number (hr.mono (by decide)) (by rfl) T.m_law_number T.F_law_number.kp (b_law_number T) .nil pass0 (pa_cons (pv 0) pa_nil)) (pa_cons (pe_call G_law_number (hr.mono (by decide)) (by rfl) T.m_law_number T.F_law_number.kp (b_law_number T) .nil pass0 (pa_cons (pv 0) pa_nil)) pa_nil))))), ?_⟩
    refine dr_ret (dr_tup (drA_cons hS (dr_draw hS rfl) (drA_cons hS (dr_draw hS rfl) drA_nil)) (fun ds ⟨d, r, e, _, d2, r2, e2, _, e3⟩ => by rw [e, e2, e3]; show 2 ≤ 1000; decide)) lv J (by omega) fun v d H3 k3 l3 J3 h3 p3 => ?_
    obtain ⟨ds, rfl, d1, r1, rfl, ⟨x, rfl, zx⟩, d2, r2, rfl, ⟨y, rfl, zy⟩, rfl⟩ := p3
    exact k v _ H3 k3 l3 J3 h3 ⟨x, y, rfl, zx, zy⟩
theorem ok_law_turn (T : Txt K mg) : FnOk P w K mg base CX0 4 T.a_law_turn T.d_law_turn ["latch"] (spDraw 3 turnP) := by
  have G_law_number := ok_law_number (P := P) (w := w) (base := base) T
  have G_law_add := ok_law_add (P := P) (w := w) (base := base) T
  have G_law_click := ok_law_click (P := P) (w := w) (base := base) T
  have G_law_pick := ok_law_pick (P := P) (w := w) (base := base) T
  have G_law_mul := ok_law_mul (P := P) (w := w) (base := base) T
  have G_law_part := ok_law_part (P := P) (w := w) (base := base) T
  have G_law_less := ok_law_less (P := P) (w := w) (base := base) T
  refine T.F_law_turn.ok sc_law_turn (fun vs H Q E h => ?_) (fun cdv A outer s H vs Q E hr h => ?_)
  · obtain ⟨S, j, bk, n, rfl, _⟩ := h
    rfl
  · obtain ⟨S, j, bk, n, rfl, hS, lv, J, hn, k⟩ := h
    refine ⟨_, (pss_cons (ps_if (pt_cmpR op_eq (pe_call G_law_click (hr.mono (by decide)) (by rfl) T.m_law_click T.F_law_click.kp (b_law_click T) .nil pass0 (pa_cons (pv 0) (pa_cons pe_int pa_nil))) pe_int (nomark _)) (pss_one (ps_ret (pe_call G_law_pick (hr.mono (by decide)) (by rfl) T.m_law_pick T.F_law_pick.kp (b_law_pick T) .nil pass0 (pa_cons (pv 0) (pa_cons (pe_lst (pa_cons (pe_tup (pa_cons pe_int (pa_cons pe_int pa_nil))) (pa_cons (pe_tup (pa_cons (pe_un un_neg pe_int) (pa_cons pe_int pa_nil))) (pa_cons (pe_tup (pa_cons pe_int (pa_cons pe_int pa_nil))) (pa_cons (pe_tup (pa_cons pe_int (pa_cons (pe_un un_neg pe_int) pa_nil))) pa_nil))))) pa_nil))))) pss_nil)
      (pss_cons (ps_set (i := 1) sc_law_turn.nd rfl (Or.inl rfl) (pe_call G_law_number (hr.mono (by decide)) (by rfl) T.m_law_number T.F_law_number.kp (b_law_number T) .nil pass0 (pa_cons (pv 0) pa_nil)))
      (pss_cons (ps_set (i := 2) sc_law_turn.nd rfl (Or.inl rfl) (pe_call G_law_add (hr.mono (by decide)) (by rfl) T.m_law_add T.F_law_add.kp (b_law_add T) .nil pass0 (pa_cons pe_int (pa_cons (pe_call G_law_mul (hr.mono (by decide)) (by rfl) T.m_law_mul T.F_law_mul.kp (b_law_mul T) .nil pass0 (pa_cons (pv 1) (pa_cons (pv 1) pa_nil))) pa_nil))))
      (pss_one (ps_ret (pe_tup (pa_cons (pe_call G_law_part (hr.mono (by decide)) (by rfl) T.m_law_part T.F_law_part.kp (b_law_part T) .nil pass0 (pa_cons (pe_call G_law_less (hr.mono (by decide)) (by rfl) T.m_law_less T.F_law_less.kp (b_law_less T) .nil pass0 (pa_cons pe_int (pa_cons (pe_call G_law_mul (hr.mono (by decide)) (by rfl) T.m_law_mul T.F_law_mul.kp (b_law_mul T) .nil pass0 (pa_cons (pv 1) (pa_cons (pv 1) pa_nil))) pa_nil))) (pa_cons (pv 2) pa_nil))) (pa_cons (pe_call G_law_part (hr.mono (by decide)) (by rfl) T.m_law_part T.F_law_part.kp (b_law_part T) .nil pass0 (pa_cons (pe_call G_law_mul (hr.mono (by decide)) (by rfl) T.m_law_mul T.F_law_mul.kp (b_law_mul T) .nil pass0 (pa_cons pe_int (pa_cons (pv 1) pa_nil))) (pa_cons (pv 2) pa_nil))) pa_nil)))))))), ?_⟩
    refine dr_when (drT_eq (Pa := fun r => 0 ≤ r ∧ r < 6) (Pb := (· = 0)) (dr_reach rfl (by decide) (by decide)) dr_cI) lv J (by omega) (fun H1 k1 l1 J1 _ => ?_) fun H1 k1 l1 J1 _ => ?_
    · refine dr_ret (dr_pickE hS rfl (drA_consE hS (dr_tupE (drA_consE hS dr_int (drA_consE hS dr_int drA_nil)) (by show 2 ≤ 1000; decide)) (drA_consE hS (dr_tupE (drA_consE hS dr_neg (drA_consE hS dr_int drA_nil)) (by show 2 ≤ 1000; decide)) (drA_consE hS (dr_tupE (drA_consE hS dr_int (drA_consE hS dr_int drA_nil)) (by show 2 ≤ 1000; decide)) (drA_consE hS (dr_tupE (drA_consE hS dr_int (drA_consE hS dr_neg drA_nil)) (by show 2 ≤ 1000; decide)) drA_nil)))) (by decide) (by decide)) l1 J1 (by omega) fun v d H2 k2 l2 J2 h2 p2 => ?_
      refine k v d H2 (k1.trans k2) l2 (J2.le (by omega)) h2 ?_
      simp only [List.mem_cons, List.not_mem_nil, or_false] at p2
      have sd : ∀ a b : Int, a.natAbs ≤ 1 → b.natAbs ≤ 1 → (a : Rat) * a + (b : Rat) * b = 1 → turnP (.tup [.int a, .int b]) := fun a b ha hb h => ⟨a, b, pt_ints, h, sz_int (Nat.lt_of_le_of_lt ha (by decide)) (by decide), sz_int (Nat.lt_of_le_of_lt hb (by decide)) (by decide)⟩
      rcases p2 with rfl | rfl | rfl | rfl
      · exact sd 1 0 (by decide) (by decide) (by decide +kernel)
      · exact sd (-1) 0 (by decide) (by decide) (by decide +kernel)
      · exact sd 0 1 (by decide) (by decide) (by decide +kernel)
      · exact sd 0 (-1) (by decide) (by decide) (by decide +kernel)
    · refine dr_asg (P := numP) (c := 2) (dr_draw hS rfl) l1 J1 (by omega) fun v d H2 k2 l2 J2 h2 p2 => ?_
      obtain ⟨q, rfl, zq⟩ := p2
      have nq : Nz H2 v 3 q := (h2.up mn_same).nz (by decide) zq
      obtain ⟨u0, un⟩ := half_unit q
      refine ⟨_, rfl, _, rfl, on_rmul nq nq (by decide) fun w3 H3 s3 n3 z3 => on_radd nz_one z3 (by decide) fun w4 H4 s4 n4 z4 => ?_⟩
      have sA := s3.trans s4
      refine ⟨_, rfl, _, rfl, on_rmul (nq.up sA) (nq.up sA) (by decide) fun w5 H5 s5 n5 z5 => on_rsub nz_one z5 (by decide) fun w6 H6 s6 n6 z6 => ⟨_, rfl, on_rpart z6 ((z4.up s5).up s6) (by decide) u0 fun w7 H7 s7 n7 z7 => ?_⟩⟩
      have sB := ((sA.trans s5).trans s6).trans s7
      refine ⟨_, rfl, on_rmul nz_two (nq.up sB) (by decide) fun w8 H8 s8 n8 z8 => ⟨_, rfl, on_rpart z8 ((((z4.up s5).up s6).up s7).up s8) (by decide) u0 fun w9 H9 s9 n9 z9 => ⟨(by decide : 2 ≤ sizeLine), fun p hp => ?_⟩⟩⟩
      have sC := (sB.trans s8).trans s9
      have sD := sC.trans (Same.new hp (o := .tup [w7, w9]))
      have nn : New H2 (upd H9 p (.tup [w7, w9])) (.ref p) (pt ((1 - q * q) / (1 + q * q)) ((2 * q) / (1 + q * q))) := New.pt2 sC hp (((n7.from ((sA.trans s5).trans s6)).up s8).up s9) (n9.from (sB.trans s8))
      exact k _ _ _ ((k1.trans k2).trans (Same.keep sD)) (l2.more sD) ((J2.le (by omega)).up sD) (nn S l2) ⟨_, _, rfl, un, z7.2.2.more (by decide), z9.2.2.more (by decide)⟩
theorem ok_law_opening (T : Txt K mg) : FnOk P w K mg base CX0 5 T.a_law_opening T.d_law_opening ["latch"] (spDraw 17 openQ) := by
  have G_law_form := ok_law_form (P := P) (w := w) (base := base) T
  have G_law_add := ok_law_add (P := P) (w := w) (base := base) T
  have G_law_pick := ok_law_pick (P := P) (w := w) (base := base) T
  have G_law_turn := ok_law_turn (P := P) (w := w) (base := base) T
  have G_law_click := ok_law_click (P := P) (w := w) (base := base) T
  have G_law_gone := ok_law_gone (P := P) (w := w) (base := base) T
  have G_law_point := ok_law_point (P := P) (w := w) (base := base) T
  have G_law_mul := ok_law_mul (P := P) (w := w) (base := base) T
  refine T.F_law_opening.ok sc_law_opening (fun vs H Q E h => ?_) (fun cdv A outer s H vs Q E hr h => ?_)
  · obtain ⟨S, j, bk, n, rfl, _⟩ := h
    rfl
  · obtain ⟨S, j, bk, n, rfl, hS, lv, J, hn, k⟩ := h
    refine ⟨_, (pss_cons (ps_set (i := 1) sc_law_opening.nd rfl (Or.inl rfl) (pe_call G_law_form (hr.mono (by decide)) (by rfl) T.m_law_form T.F_law_form.kp (b_law_form T) .nil pass0 (pa_cons (pe_op op_add pe_int (pe_call G_law_click (hr.mono (by decide)) (by rfl) T.m_law_click T.F_law_click.kp (b_law_click T) .nil pass0 (pa_cons (pv 0) (pa_cons pe_int pa_nil)))) (pa_cons (pe_call G_law_pick (hr.mono (by decide)) (by rfl) T.m_law_pick T.F_law_pick.kp (b_law_pick T) .nil pass0 (pa_cons (pv 0) (pa_cons (pe_lst (pa_cons pe_int (pa_cons pe_int (pa_cons pe_int (pa_cons pe_int pa_nil))))) pa_nil))) pa_nil))))
      (pss_cons (ps_set (i := 2) sc_law_opening.nd rfl (Or.inl rfl) (pe_call G_law_add (hr.mono (by decide)) (by rfl) T.m_law_add T.F_law_add.kp (b_law_add T) .nil pass0 (pa_cons (pv 1) (pa_cons (pe_call G_law_form (hr.mono (by decide)) (by rfl) T.m_law_form T.F_law_form.kp (b_law_form T) .nil pass0 (pa_cons (pe_op op_add pe_int (pe_call G_law_click (hr.mono (by decide)) (by rfl) T.m_law_click T.F_law_click.kp (b_law_click T) .nil pass0 (pa_cons (pv 0) (pa_cons pe_int pa_nil)))) (pa_cons (pe_call G_law_pick (hr.mono (by decide)) (by rfl) T.m_law_pick T.F_law_pick.kp (b_law_pick T) .nil pass0 (pa_cons (pv 0) (pa_cons (pe_lst (pa_cons pe_int (pa_cons pe_int (pa_cons pe_int (pa_cons pe_int pa_nil))))) pa_nil))) pa_nil))) pa_nil))))
      (pss_cons (ps_par3 (i := 3) (j := 4) (l := 5) rfl sc_law_opening.nd rfl rfl rfl (by decide) (by decide) (by decide) rfl rfl rfl (pa_cons (pe_call G_law_pick (hr.mono (by decide)) (by rfl) T.m_law_pick T.F_law_pick.kp (b_law_pick T) .nil pass0 (pa_cons (pv 0) (pa_cons (pe_lst (pa_cons (pe_tup (pa_cons pe_int (pa_cons pe_int pa_nil))) (pa_cons (pe_call G_law_point (hr.mono (by decide)) (by rfl) T.m_law_point T.F_law_point.kp (b_law_point T) .nil pass0 (pa_cons (pv 0) pa_nil)) pa_nil))) pa_nil))) (pa_cons (pe_call G_law_turn (hr.mono (by decide)) (by rfl) T.m_law_turn T.F_law_turn.kp (b_law_turn T) .nil pass0 (pa_cons (pv 0) pa_nil)) (pa_cons (pe_call G_law_turn (hr.mono (by decide)) (by rfl) T.m_law_turn T.F_law_turn.kp (b_law_turn T) .nil pass0 (pa_cons (pv 0) pa_nil)) pa_nil))) (by rfl))
      (pss_cons (ps_if (pt_cmpR op_eq (pe_call G_law_click (hr.mono (by decide)) (by rfl) T.m_law_click T.F_law_click.kp (b_law_click T) .nil pass0 (pa_cons (pv 0) (pa_cons pe_int pa_nil))) pe_int (nomark _)) (pss_one (ps_set (i := 5) sc_law_opening.nd rfl (Or.inl rfl) (pe_call G_law_pick (hr.mono (by decide)) (by rfl) T.m_law_pick T.F_law_pick.kp (b_law_pick T) .nil pass0 (pa_cons (pv 0) (pa_cons (pe_lst (pa_cons (pv 4) (pa_cons (pe_tup (pa_cons (pe_call G_law_mul (hr.mono (by decide)) (by rfl) T.m_law_mul T.F_law_mul.kp (b_law_mul T) .nil pass0 (pa_cons (pe_un un_neg pe_int) (pa_cons (pe_ix (IxR.or (r := rIxL K) (r' := rIxT K) ix_list ix_tup) (pv 4) pe_int (fun _ _ => rfl)) pa_nil))) (pa_cons (pe_call G_law_mul (hr.mono (by decide)) (by rfl) T.m_law_mul T.F_law_mul.kp (b_law_mul T) .nil pass0 (pa_cons (pe_un un_neg pe_int) (pa_cons (pe_ix (IxR.or (r := rIxL K) (r' := rIxT K) ix_list ix_tup) (pv 4) pe_int (fun _ _ => rfl)) pa_nil))) pa_nil))) pa_nil))) pa_nil))))) pss_nil)
      (pss_one (ps_ret (pe_tup (pa_cons (pv 1) (pa_cons (pv 2) (pa_cons (pv 3) (pa_cons (pe_call G_law_gone (hr.mono (by decide)) (by rfl) T.m_law_gone T.F_law_gone.kp (b_law_gone T) .nil pass0 (pa_cons (pv 3) (pa_cons (pv 4) (pa_cons (pv 1) pa_nil)))) (pa_cons (pe_call G_law_gone (hr.mono (by decide)) (by rfl) T.m_law_gone T.F_law_gone.kp (b_law_gone T) .nil pass0 (pa_cons (pv 3) (pa_cons (pv 5) (pa_cons (pv 2) pa_nil)))) pa_nil)))))))))))), ?_⟩
    refine dr_asg (dr_formR (Pa := fun a => 0 < a ∧ a < 8) (Pb := fun b => 0 < b ∧ b < 8)
      ((dr_op0 dr_cI (dr_reach rfl (by decide) (by decide))).imp fun d ⟨i, e, a, b, ha, hb, hi⟩ => ⟨i, e, by omega, by omega⟩)
      ((dr_pickE hS rfl (drA_consE hS dr_int (drA_consE hS dr_int (drA_consE hS dr_int (drA_consE hS dr_int drA_nil)))) (by decide) (by decide)).imp fun d hm => by
        simp only [List.mem_cons, List.not_mem_nil, or_false] at hm
        rcases hm with rfl | rfl | rfl | rfl <;> exact ⟨_, rfl, by decide, by decide⟩)
      fun b hb => ⟨by omega, Nat.lt_of_lt_of_le (show b.natAbs < 2 ^ 3 by omega) (Nat.pow_le_pow_right (by decide) (by decide))⟩) lv J (by omega) fun vs ds H1 k1 l1 J1 h1 p1 => ?_
    obtain ⟨a1, b1, ⟨a10, a11⟩, ⟨b10, b11⟩, rfl⟩ := p1
    have s0 : 0 < Rat.divInt a1 b1 := divInt_pos' a10 b10
    have zs : Sz 3 (Rat.divInt a1 b1) := sz_low (by omega) (show a1.natAbs < 2 ^ 3 by omega) (show b1.natAbs < 2 ^ 3 by omega)
    generalize Rat.divInt a1 b1 = s at s0 zs h1
    refine ⟨_, rfl, dr_formR (H0 := H1) (Pa := fun a => 0 < a ∧ a < 8) (Pb := fun b => 0 < b ∧ b < 8)
      ((dr_op0 dr_cI (dr_reach rfl (by decide) (by decide))).imp fun d ⟨i, e, a, b, ha, hb, hi⟩ => ⟨i, e, by omega, by omega⟩)
      ((dr_pickE hS rfl (drA_consE hS dr_int (drA_consE hS dr_int (drA_consE hS dr_int (drA_consE hS dr_int drA_nil)))) (by decide) (by decide)).imp fun d hm => by
        simp only [List.mem_cons, List.not_mem_nil, or_false] at hm
        rcases hm with rfl | rfl | rfl | rfl <;> exact ⟨_, rfl, by decide, by decide⟩)
      (fun b hb => ⟨by omega, Nat.lt_of_lt_of_le (show b.natAbs < 2 ^ 3 by omega) (Nat.pow_le_pow_right (by decide) (by decide))⟩) H1 _ _ (Keep.refl _) l1 J1 (by omega) fun v2 d2 H2 k2 l2 J2 h2 p2 => ?_⟩
    obtain ⟨a2, b2, ⟨a20, a21⟩, ⟨b20, b21⟩, rfl⟩ := p2
    have e0 : 0 < Rat.divInt a2 b2 := divInt_pos' a20 b20
    have ze : Sz 3 (Rat.divInt a2 b2) := sz_low (by omega) (show a2.natAbs < 2 ^ 3 by omega) (show b2.natAbs < 2 ^ 3 by omega)
    generalize Rat.divInt a2 b2 = e' at e0 ze h2
    have hs2 := h1.up (k2.less hS)
    refine on_radd ((hs2.up mn_same).nz (by decide) zs) ((h2.up mn_same).nz (by decide) ze) (by decide) fun vt H3 s3 n3 z3 => ?_
    have l3 := l2.more s3
    have hs3 := hs2.up (Same.less s3)
    have ht3 := n3 S l2
    have st : s < s + e' := by grind
    have zt : Sz 7 (s + e') := z3.2.2
    generalize s + e' = t at ht3 st zt
    refine dr_par3 hS (dr_pick hS rfl (drA_cons hS (dr_tupE (drA_consE hS dr_int (drA_consE hS dr_int drA_nil)) (by show 2 ≤ 1000; decide)) (drA_cons (P := pointP) (c1 := 4) hS (dr_draw hS rfl) drA_nil)) (fun ds ⟨d, r, e, _, d2, r2, e2, _, e3⟩ => by rw [e, e2, e3]; exact ⟨by show 0 < 2; decide, by show 2 ≤ 1000; decide⟩)) (dr_draw (P := turnP) (c := 3) hS rfl) (dr_draw (P := turnP) (c := 3) hS rfl) l3 (J2.up s3) (by omega) fun vo d4 v5 d5 v6 d6 H4 k4 l4 J4 h4 p4 h5 p5 h6 p6 => ?_
    obtain ⟨o, p, rfl, zo, zp⟩ : pointP d4 := by
      obtain ⟨ds, ⟨d, r, rfl, rfl, d2, r2, rfl, pp, rfl⟩, hm⟩ := p4
      rcases List.mem_cons.mp hm with rfl | hm
      · exact ⟨((0 : Int) : Rat), ((0 : Int) : Rat), pt_ints, sz_int (by decide) (by decide), sz_int (by decide) (by decide)⟩
      · rw [List.mem_singleton.mp hm]
        exact pp
    obtain ⟨c, e, rfl, u1, zc, ze1⟩ := p5
    have hs4 := hs3.up (k4.less hS)
    have ht4 := ht3.up (k4.less hS)
    have fin : ∀ (v7 : V) (c' e1 : Rat) (H5 : Hp), Keep j H4 H5 → Live S H5 → Jar j bk H5 (n + 17) → Is (mn S H5) v7 (pt c' e1) → c' * c' + e1 * e1 = 1 → Sz 17 c' → Sz 17 e1 →
        tRet (tTup (tCons (tVar 1) (tCons (tVar 2) (tCons (tVar 3) (tCons (tCall spGoneR [] E0 (tCons (tVar 3) (tCons (tVar 4) (tCons (tVar 1) tNil)))) (tCons (tCall spGoneR [] E0 (tCons (tVar 3) (tCons (tVar 5) (tCons (tVar 2) tNil)))) tNil))))))
          { nx := fun x H' => Q V.non H', rt := Q } [some (.ref j), some vs, some vt, some vo, some v5, some v7] H5 := by
      intro v7 c' e1 H5 k5 l5 J5 h7 u2 zc' ze'
      have ms : ∀ {v : V} {d : Da}, Is (mn S H4) v d → Is (mn S H5) v d := fun h => h.up (k5.less hS)
      have qs : Nz H5 vs 3 s := ((ms hs4).up mn_same).nz (by decide) zs
      have qt : Nz H5 vt 7 t := ((ms ht4).up mn_same).nz (by decide) zt
      have po : Pm H5 vo 3 o p := ((ms h4).up mn_same).pm (by decide) zo zp
      have p1 : Pm H5 v5 16 c e := ((ms h5).up mn_same).pm (by decide) zc ze1
      have p2 : Pm H5 v7 17 c' e1 := (h7.up mn_same).pm (by decide) zc' ze'
      refine ⟨_, rfl, _, rfl, _, rfl, _, rfl, _, rfl, _, rfl, on_goneR po p1 qs (by decide) fun w6 H6 s6 n6 p6 => ⟨_, rfl, _, rfl, _, rfl, on_goneR (po.up s6) (p2.up s6) (qt.up s6) (by decide) fun w7 H7 s7 n7 p7 => ⟨(by decide : 5 ≤ sizeLine), fun q hq => ?_⟩⟩⟩
      have l6 := l5.more s6
      have l7 := l6.more s7
      have sA := (s6.trans s7).trans (Same.new hq (o := .tup [vs, vt, vo, w6, w7]))
      have up : ∀ {v : V} {d : Da}, Is (mn S H4) v d → Is (mn S (upd H7 q (.tup [vs, vt, vo, w6, w7]))) v d := fun h => (ms h).up (Same.less sA)
      refine k _ _ _ (((((k1.trans k2).trans (Same.keep s3)).trans k4).trans k5).trans (Same.keep sA)) (l5.more sA) (J5.up sA)
        (.tup (mn_put l7 hq) (.cons (up hs4) (.cons (up ht4) (.cons (up h4) (.cons (((n6 S l5).up (Same.less s7)).up (Same.less (Same.new hq))) (.cons ((n7 S l6).up (Same.less (Same.new hq))) .nil))))))
        ⟨s, t, o, p, _, _, _, _, rfl, frame_of s0 st u1 u2, zs, zt, zo, zp, p6.2.2.1.more (by decide), p6.2.2.2.more (by decide), p7.2.2.1.more (by decide), p7.2.2.2.more (by decide)⟩
    obtain ⟨c1, e1, rfl, u2, zc1, ze2⟩ := p6
    refine dr_when (drT_eq (Pa := fun r => 0 ≤ r ∧ r < 5) (Pb := (· = 0)) (dr_reach rfl (by decide) (by decide)) dr_cI) l4 J4 (by omega) (fun H5 k5 l5 J5 _ => ?_) fun H5 k5 l5 J5 _ => ?_
    · have h5' := h5.up (k5.less hS)
      refine dr_pickE (H0 := H5) (ds := [pt c e, pt (-1 * c) (-1 * e)]) hS rfl (drA_consE hS (dr_var hS rfl h5') (drA_consE hS (dr_of fun H Q kp lv k => ?_) drA_nil)) (by show 0 < 2; decide) (by show 2 ≤ 1000; decide) H5 _ _ (Keep.refl _) l5 J5 (by omega) fun v7 d7 H6 k6 l6 J6 h7 p7 => ?_
      · have p1 : Pm H v5 16 c e := ((h5'.up (kp.less hS)).up mn_same).pm (by decide) zc ze1
        refine ⟨_, rfl, _, rfl, p1.fst fun x1 z1 => on_rmul nz_neg1 z1 (by decide) fun w7 H7 s7 n7 z7 => ⟨_, rfl, _, rfl, (p1.up s7).snd fun x2 z2 => on_rmul nz_neg1 z2 (by decide) fun w8 H8 s8 n8 z8 => ⟨(by decide : 2 ≤ sizeLine), fun q hq => ?_⟩⟩⟩
        exact k _ _ ((s7.trans s8).trans (Same.new hq)) (New.pt2 (s7.trans s8) hq (n7.up s8) (n8.from s7))
      · simp only [List.mem_cons, List.not_mem_nil, or_false] at p7
        rcases p7 with rfl | rfl
        · exact fin v7 c e H6 (k5.trans k6) l6 (J6.le (by omega)) h7 u1 (zc.more (by decide)) (ze1.more (by decide))
        · exact fin v7 _ _ H6 (k5.trans k6) l6 (J6.le (by omega)) h7 (by grind) ((sz_int (i := -1) (n := 1) (by decide) (by decide)).mul zc) ((sz_int (i := -1) (n := 1) (by decide) (by decide)).mul ze1)
    · exact fin v6 c1 e1 H5 k5 l5 (J5.le (by omega)) (h6.up (k5.less hS)) u2 (zc1.more (by decide)) (ze2.more (by decide))
theorem ok_law_lock (T : Txt K mg) : FnOk P w K mg base CX0 4 T.a_law_lock T.d_law_lock ["latch", "s", "t"] spLockR := by
  have G_law_part := ok_law_part (P := P) (w := w) (base := base) T
  have G_law_add := ok_law_add (P := P) (w := w) (base := base) T
  have G_law_mul := ok_law_mul (P := P) (w := w) (base := base) T
  have G_law_click := ok_law_click (P := P) (w := w) (base := base) T
  have G_law_less := ok_law_less (P := P) (w := w) (base := base) T
  have G_law_number := ok_law_number (P := P) (w := w) (base := base) T
  have G_law_pick := ok_law_pick (P := P) (w := w) (base := base) T
  have G_law_under := ok_law_under (P := P) (w := w) (base := base) T
  refine T.F_law_lock.ok sc_law_lock (fun vs H Q E h => ?_) (fun cdv A outer s H vs Q E hr h => ?_)
  · obtain ⟨S, j, bk, i, u, v, s, t, rfl, _⟩ := h
    rfl
  · obtain ⟨S, j, bk, i, u, v, s, t, rfl, hS, lv, J, hn, hu, hv, s0, st, zs, zt, k⟩ := h
    refine ⟨_, (pss_cons (ps_par (i := 3) (j := 4) rfl sc_law_lock.nd rfl rfl (by decide) rfl rfl (pa_cons (pe_call G_law_click (hr.mono (by decide)) (by rfl) T.m_law_click T.F_law_click.kp (b_law_click T) .nil pass0 (pa_cons (pv 0) (pa_cons pe_int pa_nil))) (pa_cons (pe_call G_law_part (hr.mono (by decide)) (by rfl) T.m_law_part T.F_law_part.kp (b_law_part T) .nil pass0 (pa_cons (pv 2) (pa_cons pe_int pa_nil))) pa_nil)) (by rfl))
      (pss_cons (ps_if (pt_cmpR op_eq (pv 3) pe_int (nomark _)) (pss_cons (ps_par (i := 5) (j := 6) rfl sc_law_lock.nd rfl rfl (by decide) rfl rfl (pa_cons (pe_call G_law_number (hr.mono (by decide)) (by rfl) T.m_law_number T.F_law_number.kp (b_law_number T) .nil pass0 (pa_cons (pv 0) pa_nil)) (pa_cons (pe_call G_law_number (hr.mono (by decide)) (by rfl) T.m_law_number T.F_law_number.kp (b_law_number T) .nil pass0 (pa_cons (pv 0) pa_nil)) pa_nil)) (by rfl))
      (pss_cons (ps_asg (pe_lc (own := [("each", 12)]) (g := gName 12) rfl sc_law_lock.nd (pi_tup (pe_tup (pa_cons (pv 5) (pa_cons (pv 6) pa_nil)))) (blkOk_by (N := N_law_lock) (sc := defScope s_law_lock) (by decide +kernel)) (fun _ _ _ _ _ => (pg_name (i := 12) sc_law_lock.nd rfl (Or.inl rfl))) (fun _ _ _ _ _ => pts_nil) (fun _ _ _ _ _ => (pe_ifExp (pt_val (pe_call G_law_under (hr.mono (by decide)) (by rfl) T.m_law_under T.F_law_under.kp (b_law_under T) .nil pass0 (pa_cons pe_int (pa_cons (pv 12) pa_nil)))) (pv 12) (pe_call G_law_less (hr.mono (by decide)) (by rfl) T.m_law_less T.F_law_less.kp (b_law_less T) .nil pass0 (pa_cons pe_int (pa_cons (pv 12) pa_nil)))))) (pg_unl rfl (pgs_cons (pg_name (i := 5) sc_law_lock.nd rfl (Or.inl rfl)) (pgs_cons (pg_name (i := 6) sc_law_lock.nd rfl (Or.inl rfl)) pgs_nil))))
      (pss_cons (ps_set (i := 7) sc_law_lock.nd rfl (Or.inl rfl) (pe_call G_law_part (hr.mono (by decide)) (by rfl) T.m_law_part T.F_law_part.kp (b_law_part T) .nil pass0 (pa_cons (pe_call G_law_less (hr.mono (by decide)) (by rfl) T.m_law_less T.F_law_less.kp (b_law_less T) .nil pass0 (pa_cons (pe_call G_law_mul (hr.mono (by decide)) (by rfl) T.m_law_mul T.F_law_mul.kp (b_law_mul T) .nil pass0 (pa_cons (pv 2) (pa_cons (pv 2) pa_nil))) (pa_cons (pe_call G_law_mul (hr.mono (by decide)) (by rfl) T.m_law_mul T.F_law_mul.kp (b_law_mul T) .nil pass0 (pa_cons (pv 1) (pa_cons (pv 1) pa_nil))) pa_nil))) (pa_cons pe_int pa_nil))))
      (pss_cons (ps_if (pt_cmpR (op_neD hr.units) (pe_call G_law_less (hr.mono (by decide)) (by rfl) T.m_law_less T.F_law_less.kp (b_law_less T) .nil pass0 (pa_cons (pe_call G_law_mul (hr.mono (by decide)) (by rfl) T.m_law_mul T.F_law_mul.kp (b_law_mul T) .nil pass0 (pa_cons (pv 5) (pa_cons (pv 5) pa_nil))) (pa_cons (pe_call G_law_mul (hr.mono (by decide)) (by rfl) T.m_law_mul T.F_law_mul.kp (b_law_mul T) .nil pass0 (pa_cons (pv 6) (pa_cons (pv 6) pa_nil))) pa_nil))) (pv 7) (nomark _)) (pss_one (ps_ret (pe_tup (pa_cons (pv 5) (pa_cons (pv 6) (pa_cons pe_str pa_nil)))))) pss_nil)
      (pss_one (ps_ret (pe_tup (pa_cons (pv 5) (pa_cons (pv 6) (pa_cons (pe_ifExp (pt_cmpR (op_eqD hr.units) (pv 5) (pv 4) (nomark _)) pe_str (pe_ifExp (pt_val (pe_call G_law_under (hr.mono (by decide)) (by rfl) T.m_law_under T.F_law_under.kp (b_law_under T) .nil pass0 (pa_cons (pv 5) (pa_cons (pv 4) pa_nil)))) pe_str pe_str)) pa_nil)))))))))) pss_nil)
      (pss_cons (ps_if (pt_cmpR op_eq (pv 3) pe_int (nomark _)) (pss_one (ps_ret (pe_tup (pa_cons (pv 4) (pa_cons (pe_call G_law_part (hr.mono (by decide)) (by rfl) T.m_law_part T.F_law_part.kp (b_law_part T) .nil pass0 (pa_cons (pv 1) (pa_cons pe_int pa_nil))) (pa_cons pe_str pa_nil)))))) pss_nil)
      (pss_cons (ps_set (i := 8) sc_law_lock.nd rfl (Or.inl rfl) (pe_call G_law_part (hr.mono (by decide)) (by rfl) T.m_law_part T.F_law_part.kp (b_law_part T) .nil pass0 (pa_cons (pe_call G_law_less (hr.mono (by decide)) (by rfl) T.m_law_less T.F_law_less.kp (b_law_less T) .nil pass0 (pa_cons (pv 2) (pa_cons (pv 1) pa_nil))) (pa_cons pe_int pa_nil))))
      (pss_cons (ps_set (i := 9) sc_law_lock.nd rfl (Or.inl rfl) (pe_call G_law_add (hr.mono (by decide)) (by rfl) T.m_law_add T.F_law_add.kp (b_law_add T) .nil pass0 (pa_cons pe_int (pa_cons (pe_call G_law_mul (hr.mono (by decide)) (by rfl) T.m_law_mul T.F_law_mul.kp (b_law_mul T) .nil pass0 (pa_cons (pe_call G_law_pick (hr.mono (by decide)) (by rfl) T.m_law_pick T.F_law_pick.kp (b_law_pick T) .nil pass0 (pa_cons (pv 0) (pa_cons (pe_lst (pa_cons (pe_tup (pa_cons pe_int (pa_cons pe_int pa_nil))) (pa_cons (pe_tup (pa_cons pe_int (pa_cons pe_int pa_nil))) (pa_cons (pe_tup (pa_cons pe_int (pa_cons pe_int pa_nil))) (pa_cons pe_int pa_nil))))) pa_nil))) (pa_cons (pe_call G_law_part (hr.mono (by decide)) (by rfl) T.m_law_part T.F_law_part.kp (b_law_part T) .nil pass0 (pa_cons (pv 1) (pa_cons (pv 2) pa_nil))) pa_nil))) pa_nil))))
      (Evl.pss_cut (ps_set (i := 10) sc_law_lock.nd rfl (Or.inl rfl) (pe_call G_law_mul (hr.mono (by decide)) (by rfl) T.m_law_mul T.F_law_mul.kp (b_law_mul T) .nil pass0 (pa_cons (pv 8) (pa_cons (pe_ifExp (pt_cmpR op_lt (pv 3) pe_int (nomark _)) (pv 9) (pe_call G_law_pick (hr.mono (by decide)) (by rfl) T.m_law_pick T.F_law_pick.kp (b_law_pick T) .nil pass0 (pa_cons (pv 0) (pa_cons (pe_lst (pa_cons (pe_tup (pa_cons pe_int (pa_cons pe_int pa_nil))) (pa_cons (pe_tup (pa_cons pe_int (pa_cons pe_int pa_nil))) (pa_cons (pe_tup (pa_cons pe_int (pa_cons pe_int pa_nil))) (pa_cons (pe_tup (pa_cons pe_int (pa_cons pe_int pa_nil))) pa_nil))))) pa_nil)))) pa_nil))))
      (pss_cons (ps_set (i := 11) sc_law_lock.nd rfl (Or.inl rfl) (pe_call G_law_part (hr.mono (by decide)) (by rfl) T.m_law_part T.F_law_part.kp (b_law_part T) .nil pass0 (pa_cons (pe_call G_law_mul (hr.mono (by decide)) (by rfl) T.m_law_mul T.F_law_mul.kp (b_law_mul T) .nil pass0 (pa_cons (pv 8) (pa_cons (pe_call G_law_part (hr.mono (by decide)) (by rfl) T.m_law_part T.F_law_part.kp (b_law_part T) .nil pass0 (pa_cons (pe_call G_law_add (hr.mono (by decide)) (by rfl) T.m_law_add T.F_law_add.kp (b_law_add T) .nil pass0 (pa_cons (pv 1) (pa_cons (pv 2) pa_nil))) (pa_cons pe_int pa_nil))) pa_nil))) (pa_cons (pv 10) pa_nil))))
      (pss_one (ps_ret (pe_tup (pa_cons (pe_call G_law_part (hr.mono (by decide)) (by rfl) T.m_law_part T.F_law_part.kp (b_law_part T) .nil pass0 (pa_cons (pe_call G_law_add (hr.mono (by decide)) (by rfl) T.m_law_add T.F_law_add.kp (b_law_add T) .nil pass0 (pa_cons (pv 11) (pa_cons (pv 10) pa_nil))) (pa_cons pe_int pa_nil))) (pa_cons (pe_call G_law_part (hr.mono (by decide)) (by rfl) T.m_law_part T.F_law_part.kp (b_law_part T) .nil pass0 (pa_cons (pe_call G_law_less (hr.mono (by decide)) (by rfl) T.m_law_less T.F_law_less.kp (b_law_less T) .nil pass0 (pa_cons (pv 11) (pa_cons (pv 10) pa_nil))) (pa_cons pe_int pa_nil))) (pa_cons (pe_ifExp (pt_cmpR op_lt (pv 3) pe_int (nomark _)) pe_str pe_str) pa_nil))))))))))))), ?_⟩
    have t0 : 0 < t := by grind
    refine ⟨_, rfl, j, bk, 6, i, rfl, J, by omega, by decide, by decide, fun r H1 k1 J1 r0 r1 => ?_⟩
    have l1 := lv.up k1 J1
    have u1 := hu.up (k1.less hS)
    have v1 := hv.up (k1.less hS)
    refine ⟨_, rfl, on_rpart ((v1.up mn_same).nz (by decide) zt) nz_two (by decide) (by decide +kernel) fun vh H2 s2 n2 z2 => ⟨_, _, rfl, ?_⟩⟩
    have l2 := l1.more s2
    have J2 := J1.up s2
    have u2 := u1.up (Same.less s2)
    have v2 := v1.up (Same.less s2)
    have kA : Keep j H H2 := k1.trans (Same.keep s2)
    have h2 : Is (mn S H2) vh (ofR (t / 2)) := n2 S l1
    have qs : Nz H2 u 28 s := (u2.up mn_same).nz (by decide) zs
    have qt : Nz H2 v 28 t := (v2.up mn_same).nz (by decide) zt
    have z2 : Nz H2 vh 30 (t / 2) := z2
    refine ⟨_, rfl, rfl, _, rfl, iteD (fun z => ?_) fun z => ?_⟩
    · -- two numbers
      refine dr_par hS (dr_draw (P := numP) (c := 2) hS rfl) (dr_draw (P := numP) (c := 2) hS rfl) l2 J2 (by omega) fun v5 d5 v6 d6 H3 k3 l3 J3 h5 p5 h6 p6 => ?_
      obtain ⟨x5, rfl, z5⟩ := p5
      obtain ⟨x6, rfl, z6⟩ := p6
      have u3 := u2.up (k3.less hS)
      have v3 := v2.up (k3.less hS)
      have h3 := h2.up (k3.less hS)
      refine ⟨_, rfl, _, rfl, (by decide : 2 ≤ sizeLine), fun q hq => ⟨q, rfl, ⟨_, .inl (.inl upd_same)⟩, fun D hD => ?_⟩⟩
      have s4 : Same H3 (upd H3 q (.tup [v5, v6])) := Same.new hq
      have e4 : (upd H3 q (.tup [v5, v6])) q = some (.tup [v5, v6]) := upd_same
      have l4 := l3.more s4
      have J4 := J3.up s4
      have u4 := u3.up (Same.less s4)
      have v4 := v3.up (Same.less s4)
      have h4 := h3.up (Same.less s4)
      have g5 := h5.up (Same.less s4)
      have g6 := h6.up (Same.less s4)
      have kB := (kA.trans k3).trans (Same.keep s4)
      generalize upd H3 q (.tup [v5, v6]) = H4 at s4 e4 l4 J4 u4 v4 h4 g5 g6 hD kB ⊢
      have SD : S D = false := by
        cases q : S D with
        | false => rfl
        | true => exact absurd hD (l4 D q)
      refine lc_mapS (S := S) walk_tup (fun m => [ofR (posR x5), ofR (posR x6)].getD m .non) (by show 2 ≤ 1000; decide) hD (fun H' s' => .inl (.inl (s' _ _ e4))) ?_ ?_
      · rintro m x H5 H6 Q' N hm s5 hDn ⟨rfl, hx⟩ kq
        obtain ⟨y, hw, zy, em⟩ : ∃ y, Is (mn S H4) x (ofR y) ∧ Sz 3 y ∧ [ofR (posR x5), ofR (posR x6)].getD m .non = ofR (posR y) := by
          match m, hx with
          | 0, hx => cases hx; exact ⟨x5, g5, z5, rfl⟩
          | 1, hx => cases hx; exact ⟨x6, g6, z6, rfl⟩
        rw [em] at kq
        have hw5 : Is (mn (wth S D) H6) x (ofR y) := (hw.up (mn_wth hD)).up (Same.less s5)
        have lW : Live (wth S D) H6 := by
          cases eD : H6 D with
          | none => exact absurd eD hDn
          | some o => exact wth_live (l4.more s5) eD
        refine ⟨rfl, _, rfl, on_lessN nz_zero ((hw5.up mn_same).nz (by decide) zy) (by decide) fun H7 s7 => ⟨_, rfl, iteB (fun c => ?_) fun c => ?_⟩⟩
        · refine ⟨_, rfl, kq x H7 s7 ?_⟩
          unfold posR
          rw [if_pos c]
          exact hw5.up (Same.less s7)
        · refine ⟨_, rfl, on_rsub nz_one (((hw5.up mn_same).nz (by decide) zy).up s7) (by decide) fun w8 H8 s8 n8 z8 => kq w8 H8 (s7.trans s8) ?_⟩
          unfold posR
          rw [if_neg (by rw [c]; exact Bool.false_ne_true)]
          exact n8 (wth S D) (lW.more s7)
      · intro H5 ys s5 hD5 hl hys
        have m0 : 0 < posR x5 := posR_pos
        have n0 : 0 < posR x6 := posR_pos
        have zm := posR_sz z5
        have zn := posR_sz z6
        cases hys with
        | @cons y1 _ _ _ i1 hys =>
        cases hys with
        | @cons y2 _ _ _ i2 hys =>
        cases hys
        have i1 : Is (mn S H5) y1 (ofR (posR x5)) := i1.up (mn_mono fun b hb => wth_sub hb)
        have i2 : Is (mn S H5) y2 (ofR (posR x6)) := i2.up (mn_mono fun b hb => wth_sub hb)
        generalize posR x5 = m at m0 zm i1
        generalize posR x6 = n' at n0 zn i2
        refine ⟨D, _, rfl, .inl (.inl hD5), rfl, _, _, rfl, _, _, rfl, rfl, ?_⟩
        have l5 := l4.more s5
        have J5 := J4.up s5
        have u5 := u4.up (Same.less s5)
        have v5' := v4.up (Same.less s5)
        have h5' := h4.up (Same.less s5)
        have kC := kB.trans (Same.keep s5)
        have ps : Nz H5 u 28 s := (u5.up mn_same).nz (by decide) zs
        have pt' : Nz H5 v 28 t := (v5'.up mn_same).nz (by decide) zt
        have pm : Nz H5 y1 5 m := (i1.up mn_same).nz (by decide) zm
        have pn : Nz H5 y2 5 n' := (i2.up mn_same).nz (by decide) zn
        refine ⟨_, rfl, _, rfl, on_rmul pt' pt' (by decide) fun w1 H6 s6 n6 z6' => ⟨_, rfl, _, rfl, on_rmul (ps.up s6) (ps.up s6) (by decide) fun w2 H7 s7 n7 z7 => on_rsub (z6'.up s7) z7 (by decide) fun w3 H8 s8 n8 z8 => on_rpart z8 nz_four (by decide) (by decide +kernel) fun wq H9 s9 n9 z9 => ?_⟩⟩
        have x9 := ((s6.trans s7).trans s8).trans s9
        refine ⟨_, rfl, _, rfl, on_rmul (pm.up x9) (pm.up x9) (by decide) fun w4 H10 s10 n10 z10 => ⟨_, rfl, _, rfl, on_rmul ((pn.up x9).up s10) ((pn.up x9).up s10) (by decide) fun w5 H11 s11 n11 z11 => on_rsub (z10.up s11) z11 (by decide) fun w6 H12 s12 n12 z12 => ⟨_, rfl, ?_⟩⟩⟩
        have y12 := (s10.trans s11).trans s12
        have x12 := x9.trans y12
        obtain ⟨d1, d2, g1, g2, g3, g4, ge⟩ := eq_num (K := K) n12.is (n9.is.up y12)
        refine ⟨d1, d2, g1, g2, g3, g4, _, rfl, ?_⟩
        rw [ge]
        refine iteE (fun c => ?_) fun c => ?_
        · refine ⟨_, rfl, _, rfl, (by decide : 3 ≤ sizeLine), fun q3 hq3 => ?_⟩
          have x13 := x12.trans (Same.new hq3 (o := .tup [y1, y2, .str "none"]))
          refine k _ m n' _ (kC.trans (Same.keep x13)) (l5.more x13) ((J5.up x13).le (by omega)) ?_ m0 n0 (zm.more (by decide)) (zn.more (by decide))
          rw [kind_any.1 c]
          exact .tup (mn_put (l5.more x12) hq3) (.cons (i1.up (Same.less x13)) (.cons (i2.up (Same.less x13)) (.cons (.str _) .nil)))
        · have kk := (kind_any (s := s) (t := t) (m := m) (n := n')).2 c
          have fin : ∀ (w : Str) H', Same H12 H' → kindOf s t m n' = w → (3 ≤ sizeLine ∧ ∀ q3, H' q3 = none → Q (.ref q3) (upd H' q3 (.tup [y1, y2, .str w]))) := fun w H' s' ew => ⟨by decide, fun q3 hq3 => by
            have x13 := (x12.trans s').trans (Same.new hq3 (o := .tup [y1, y2, .str w]))
            refine k _ m n' _ (kC.trans (Same.keep x13)) (l5.more x13) ((J5.up x13).le (by omega)) ?_ m0 n0 (zm.more (by decide)) (zn.more (by decide))
            rw [ew]
            exact .tup (mn_put ((l5.more x12).more s') hq3) (.cons (i1.up (Same.less x13)) (.cons (i2.up (Same.less x13)) (.cons (.str _) .nil)))⟩
          have ih : Is H12 vh (ofR (t / 2)) := (h5'.up mn_same).up x12
          obtain ⟨d3, d4, f1, f2, f3, f4, ge2⟩ := eq_num (K := K) ((i1.up mn_same).up x12) ih
          rw [← ge2] at kk
          refine ⟨_, rfl, _, rfl, _, rfl, _, rfl, d3, d4, f1, f2, f3, f4, _, rfl, iteB (fun c2 => ?_) fun c2 => ?_⟩
          · rw [c2, if_pos rfl] at kk
            exact fin _ H12 (Same.refl _) kk
          · rw [c2, if_neg Bool.false_ne_true] at kk
            refine ⟨_, rfl, _, rfl, on_lessN (pm.up x12) (ih.nz (by decide) z2.2.2) (by decide) fun H13 s13 => ⟨_, rfl, iteB (fun c3 => ?_) fun c3 => ?_⟩⟩
            · rw [c3, if_pos rfl] at kk
              exact fin _ H13 s13 kk
            · rw [c3, if_neg Bool.false_ne_true] at kk
              exact fin _ H13 s13 kk
    · refine ⟨_, rfl, rfl, _, rfl, iteD (fun z1 => ?_) fun z1 => ?_⟩
      · -- halves
        refine ⟨_, rfl, _, rfl, on_rpart qs nz_two (by decide) (by decide +kernel) fun w3 H3 s3 n3 z3 => ⟨(by decide : 3 ≤ sizeLine), fun q3 hq3 => ?_⟩⟩
        have x4 := s3.trans (Same.new hq3 (o := .tup [vh, w3, .str "both"]))
        refine k _ (t / 2) (s / 2) _ (kA.trans (Same.keep x4)) (l2.more x4) ((J2.up x4).le (by omega)) ?_ (by grind) (by grind) (z2.2.2.more (by decide)) (z3.2.2.more (by decide))
        rw [kind_own s0]
        exact .tup (mn_put (l2.more s3) hq3) (.cons (h2.up (Same.less x4)) (.cons ((n3 S l2).up (Same.less (Same.new hq3))) (.cons (.str _) .nil)))
      · -- by a quotient
        refine ⟨_, rfl, _, rfl, on_rsub qt qs (by decide) fun w3 H3 s3 n3 z3 => on_rpart z3 nz_two (by decide) (by decide +kernel) fun vf H4 s4 n4 z4 => ?_⟩
        have sA := s3.trans s4
        have l4 := l2.more sA
        have J4 := J2.up sA
        have u4 := u2.up (Same.less sA)
        have v4 := v2.up (Same.less sA)
        have f4 : Is (mn S H4) vf (ofR ((t - s) / 2)) := (n4.from s3) S l2
        have zf : Sz 60 ((t - s) / 2) := z4.2.2.more (by decide)
        have kB := kA.trans (Same.keep sA)
        have smallK : ∀ a b : Int, 0 < a → a ≤ 10 → 0 < b → b ≤ 10 → a < b → Nat.gcd a.natAbs b.natAbs = 1 → isNum (.tup [.int a, .int b]) = true ∧ 0 < rt (.tup [.int a, .int b]) ∧ rt (.tup [.int a, .int b]) < 1 ∧ Sz 4 (rt (.tup [.int a, .int b])) := fun a b a0 a1 b0 b1 ab g => by
          refine ⟨?_, divInt_pos' a0 b0, ?_, sz_low (by show b ≠ 0; omega) (show a.natAbs < 2 ^ 4 by omega) (show b.natAbs < 2 ^ 4 by omega)⟩
          · show (false || (true && (decide (2 ≤ b) && decide (Nat.gcd a.natAbs b.natAbs = 1)))) = true
            rw [decide_eq_true (by omega : 2 ≤ b), decide_eq_true g]
            rfl
          · show Rat.divInt a b < 1
            have e : (1 : Rat) - Rat.divInt a b = Rat.divInt (b - a) b := by
              have e1 : (1 : Rat) = Rat.divInt b b := by rw [Rat.divInt_self' (by omega)]
              rw [e1, Rat.divInt_sub_divInt _ _ (by omega) (by omega), ← Int.sub_mul]
              exact Rat.divInt_mul_right (by omega)
            have := divInt_pos' (show 0 < b - a by omega) b0
            grind
        refine dr_pickE (H0 := H4) hS rfl (drA_consE hS (dr_tupE (drA_consE hS dr_int (drA_consE hS dr_int drA_nil)) (by show 2 ≤ 1000; decide)) (drA_consE hS (dr_tupE (drA_consE hS dr_int (drA_consE hS dr_int drA_nil)) (by show 2 ≤ 1000; decide)) (drA_consE hS (dr_tupE (drA_consE hS dr_int (drA_consE hS dr_int drA_nil)) (by show 2 ≤ 1000; decide)) (drA_consE hS dr_int drA_nil)))) (by decide) (by decide) H4 _ _ (Keep.refl _) l4 J4 (by omega) fun v5 d5 H5 k5 l5 J5 h5 p5 => ?_
        obtain ⟨nk, k0, k1', zk⟩ : isNum d5 = true ∧ 0 < rt d5 ∧ rt d5 ≤ 1 ∧ Sz 4 (rt d5) := by
          simp only [List.mem_cons, List.not_mem_nil, or_false] at p5
          rcases p5 with rfl | rfl | rfl | rfl
          · obtain ⟨a1, a2, a3, a4⟩ := smallK 1 4 (by decide) (by decide) (by decide) (by decide) (by decide) (by decide)
            exact ⟨a1, a2, Rat.le_of_lt a3, a4⟩
          · obtain ⟨a1, a2, a3, a4⟩ := smallK 1 2 (by decide) (by decide) (by decide) (by decide) (by decide) (by decide)
            exact ⟨a1, a2, Rat.le_of_lt a3, a4⟩
          · obtain ⟨a1, a2, a3, a4⟩ := smallK 3 4 (by decide) (by decide) (by decide) (by decide) (by decide) (by decide)
            exact ⟨a1, a2, Rat.le_of_lt a3, a4⟩
          · rw [rt_int]
            exact ⟨rfl, by decide +kernel, by decide +kernel, sz_int (i := 1) (by decide) (by decide)⟩
        have u5 := u4.up (k5.less hS)
        have v5' := v4.up (k5.less hS)
        have f5 := f4.up (k5.less hS)
        have kC := kB.trans k5
        refine ⟨_, rfl, _, rfl, on_rpart ((u5.up mn_same).nz (by decide) zs) ((v5'.up mn_same).nz (by decide) zt) (by decide) (by grind) fun w6 H6 s6 n6 z6 => on_rmul (⟨by decide, ⟨d5, (h5.up mn_same).up s6, nk, rfl⟩, zk⟩ : Nz H6 v5 4 (rt d5)) z6 (by decide) fun w7 H7 s7 n7 z7 => on_radd nz_one z7 (by decide) fun vup H8 s8 n8 z8 => ?_⟩
        have sB := (s6.trans s7).trans s8
        have l8 := l5.more sB
        have J8 := J5.up sB
        have u8 := u5.up (Same.less sB)
        have v8 := v5'.up (Same.less sB)
        have f8 := f5.up (Same.less sB)
        have kD := kC.trans (Same.keep sB)
        have r4 : Nz H8 vup 62 (1 + rt d5 * (s / t)) := z8.more (by decide)
        generalize rt d5 = kq at nk k0 k1' zk r4 n8 z8 n7 z7
        refine ⟨fun σ' H' => ∃ vd dq, σ' = [some (.ref j), some u, some v, some (.int r), some vh, none, none, none, some vf, some vup, some vd, none, none] ∧ Keep j H H' ∧ Live S H' ∧ Jar j bk H' (i + 5) ∧ Is (mn S H') vd (ofR dq) ∧ Is (mn S H') u (ofR s) ∧ Is (mn S H') v (ofR t) ∧ Is (mn S H') vf (ofR ((t - s) / 2)) ∧
          Sz 122 dq ∧ 0 < dq ∧ dq * dq < (t - s) / 2 * ((s + t) / 2) ∧ (r < 4 → (dq - (t - s) / 2) * (dq - (s + t) / 2) < 0) ∧ (¬ r < 4 → 0 < (dq - (t - s) / 2) * (dq - (s + t) / 2)), ?_, ?_⟩
        · refine ⟨_, rfl, _, rfl, _, _, rfl, rfl, _, rfl, iteD (fun c => ?_) fun c => ?_⟩
          · refine ⟨_, rfl, on_rmul ((f8.up mn_same).nz (by decide) zf) r4 (by decide) fun vd H9 s9 n9 z9 => ?_⟩
            obtain ⟨a1, a2, a3⟩ := lock_part s0 st k0 k1'
            exact ⟨vd, _, rfl, kD.trans (Same.keep s9), l8.more s9, (J8.up s9).le (by omega), n9 S l8, u8.up (Same.less s9), v8.up (Same.less s9), f8.up (Same.less s9), z9.2.2, a1, a2, fun _ => a3, fun q => absurd c q⟩
          · refine dr_pickE (H0 := H8) hS rfl (drA_consE hS (dr_tupE (drA_consE hS dr_int (drA_consE hS dr_int drA_nil)) (by show 2 ≤ 1000; decide)) (drA_consE hS (dr_tupE (drA_consE hS dr_int (drA_consE hS dr_int drA_nil)) (by show 2 ≤ 1000; decide)) (drA_consE hS (dr_tupE (drA_consE hS dr_int (drA_consE hS dr_int drA_nil)) (by show 2 ≤ 1000; decide)) (drA_consE hS (dr_tupE (drA_consE hS dr_int (drA_consE hS dr_int drA_nil)) (by show 2 ≤ 1000; decide)) drA_nil)))) (by decide) (by decide) H8 _ _ (Keep.refl _) l8 J8 (by omega) fun v9 d9 H9 k9 l9 J9 h9 p9 => ?_
            obtain ⟨nk9, k09, k19, zk9⟩ : isNum d9 = true ∧ 0 < rt d9 ∧ rt d9 < 1 ∧ Sz 4 (rt d9) := by
              simp only [List.mem_cons, List.not_mem_nil, or_false] at p9
              rcases p9 with rfl | rfl | rfl | rfl
              · exact smallK 1 2 (by decide) (by decide) (by decide) (by decide) (by decide) (by decide)
              · exact smallK 1 3 (by decide) (by decide) (by decide) (by decide) (by decide) (by decide)
              · exact smallK 9 10 (by decide) (by decide) (by decide) (by decide) (by decide) (by decide)
              · exact smallK 2 7 (by decide) (by decide) (by decide) (by decide) (by decide) (by decide)
            have f9 := f8.up (k9.less hS)
            refine on_rmul ((f9.up mn_same).nz (by decide) zf) (⟨by decide, ⟨d9, h9.up mn_same, nk9, rfl⟩, zk9⟩ : Nz H9 v9 4 (rt d9)) (by decide) fun vd H10 s10 n10 z10 => ?_
            obtain ⟨a1, a2, a3⟩ := lock_far s0 st k09 k19
            exact ⟨vd, _, rfl, (kD.trans k9).trans (Same.keep s10), l9.more s10, (J9.up s10).le (by omega), n10 S l9, (u8.up (k9.less hS)).up (Same.less s10), (v8.up (k9.less hS)).up (Same.less s10), f9.up (Same.less s10), z10.2.2.more (by decide), a1, a2, fun q => absurd q c, fun _ => a3⟩
        rintro σ' H9 ⟨vd, dq, rfl, kE, l9, J9, id9, u9, v9, f9, zd, d0, dd, kp, kc⟩
        have nf : Nz H9 vf 60 ((t - s) / 2) := (f9.up mn_same).nz (by decide) zf
        have nd : Nz H9 vd 122 dq := (id9.up mn_same).nz (by decide) zd
        obtain ⟨b1, b2, b3⟩ := lock_d s0 st d0 dd
        obtain ⟨kk1, kk2⟩ := kind_d s0 st d0 dd
        refine ⟨_, rfl, _, rfl, _, rfl, on_radd ((u9.up mn_same).nz (by decide) zs) ((v9.up mn_same).nz (by decide) zt) (by decide) fun w10 H10 s10 n10 z10 => on_rpart z10 nz_two (by decide) (by decide +kernel) fun w11 H11 s11 n11 z11 => on_rmul ((nf.up s10).up s11) z11 (by decide) fun w12 H12 s12 n12 z12 => ⟨_, rfl, on_rpart z12 (((nd.up s10).up s11).up s12) (by decide) (by grind) fun w13 H13 s13 n13 z13 => ?_⟩⟩
        have sC := ((s10.trans s11).trans s12).trans s13
        have nb : Nz H13 w13 241 ((t - s) / 2 * ((s + t) / 2) / dq) := z13.more (by decide)
        refine ⟨_, rfl, _, rfl, on_radd nb (nd.up sC) (by decide) fun w14 H14 s14 n14 z14 => on_rpart z14 nz_two (by decide) (by decide +kernel) fun w15 H15 s15 n15 z15 => ?_⟩
        have sD := s14.trans s15
        refine ⟨_, rfl, _, rfl, on_rsub (nb.up sD) ((nd.up sC).up sD) (by decide) fun w16 H16 s16 n16 z16 => on_rpart z16 nz_two (by decide) (by decide +kernel) fun w17 H17 s17 n17 z17 => ?_⟩
        have sE := (sC.trans sD).trans (s16.trans s17)
        have l17 := l9.more sE
        have im : Is (mn S H17) w15 (ofR (((t - s) / 2 * ((s + t) / 2) / dq + dq) / 2)) := (((n15.from (sC.trans s14)).up s16).up s17) S l9
        have in' : Is (mn S H17) w17 (ofR (((t - s) / 2 * ((s + t) / 2) / dq - dq) / 2)) := (n17.from ((sC.trans sD).trans s16)) S l9
        have fin : ∀ w : Str, kindOf s t (((t - s) / 2 * ((s + t) / 2) / dq + dq) / 2) (((t - s) / 2 * ((s + t) / 2) / dq - dq) / 2) = w → (3 ≤ sizeLine ∧ ∀ q3, H17 q3 = none → Q (.ref q3) (upd H17 q3 (.tup [w15, w17, .str w]))) := fun w ew => ⟨by decide, fun q3 hq3 => by
          have x13 := Same.new hq3 (o := .tup [w15, w17, .str w])
          refine k _ _ _ _ (kE.trans (Same.keep (sE.trans x13))) (l17.more x13) ((J9.up sE).up x13) ?_ b1 b2 (z15.2.2.more (by decide)) (z17.2.2.more (by decide))
          rw [ew]
          exact .tup (mn_put l17 hq3) (.cons (im.up (Same.less x13)) (.cons (in'.up (Same.less x13)) (.cons (.str _) .nil)))⟩
        refine ⟨_, rfl, _, _, rfl, rfl, _, rfl, iteD (fun c => ?_) fun c => ?_⟩
        · exact fin _ (kk1 (kp c))
        · exact fin _ (kk2 (kc c))
end
end Ty

namespace Ty
open PySem PySem.Spec PyProof.Rows L2
section
variable {P : Program} {w : World} {K : PySem.W.Frag} {mg : Str → Option Value} {base : Heap}
theorem ok_law_lock_right (T : Txt K mg) : FnG P w K mg base CX0 11 T.a_law_lock_right T.d_law_lock_right ["latch"] (spRightR 46) := by
  have G_law_opening := ok_law_opening (P := P) (w := w) (base := base) T
  have G_law_lock := ok_law_lock (P := P) (w := w) (base := base) T
  have G_law_corners := ok_law_corners (P := P) (w := w) (base := base) T
  have G_law_part := ok_law_part (P := P) (w := w) (base := base) T
  have G_law_turn := ok_law_turn (P := P) (w := w) (base := base) T
  have G_law_gone := ok_law_gone (P := P) (w := w) (base := base) T
  have G_lock_kind := ok_lock_kind (P := P) (w := w) (base := base) T
  have G_law_cross := ok_law_cross (P := P) (w := w) (base := base) T
  have G_law_has_room := ok_law_has_room (P := P) (w := w) (base := base) T
  have G_law_far := ok_law_far (P := P) (w := w) (base := base) T
  have G_law_goes_with := ok_law_goes_with (P := P) (w := w) (base := base) T
  have G_law_row := ok_law_row (P := P) (w := w) (base := base) T
  have G_locked_corners := ok_locked_corners (P := P) (w := w) (base := base) T
  have G_law_half := ok_law_half (P := P) (w := w) (base := base) T
  have G_law_mul := ok_law_mul (P := P) (w := w) (base := base) T
  refine Ty.Fun.okG T.F_law_lock_right sc_law_lock_right (fun vs H Q E h => ?_) (fun cdv A outer s H vs Q E hgd hr h => ?_)
  · obtain ⟨S, j, bk, n, rfl, _⟩ := h
    rfl
  · obtain ⟨S, j, bk, i0, rfl, hS, lv, J, hn, k⟩ := h
    refine ⟨_, (pss_cons (ps_asg (pe_call G_law_opening (hr.mono (by decide)) (by rfl) T.m_law_opening T.F_law_opening.kp (b_law_opening T) .nil pass0 (pa_cons (pv 0) pa_nil)) (pg_tup rfl (pgs_cons (pg_name (i := 1) sc_law_lock_right.nd rfl (Or.inl rfl)) (pgs_cons (pg_name (i := 2) sc_law_lock_right.nd rfl (Or.inl rfl)) (pgs_cons (pg_name (i := 3) sc_law_lock_right.nd rfl (Or.inr rfl)) (pgs_cons (pg_name (i := 4) sc_law_lock_right.nd rfl (Or.inr rfl)) (pgs_cons (pg_name (i := 5) sc_law_lock_right.nd rfl (Or.inr rfl)) pgs_nil)))))))
      (pss_cons (ps_asg (pe_call G_law_lock (hr.mono (by decide)) (by rfl) T.m_law_lock T.F_law_lock.kp (b_law_lock T) .nil pass0 (pa_cons (pv 0) (pa_cons (pv 1) (pa_cons (pv 2) pa_nil)))) (pg_tup rfl (pgs_cons (pg_name (i := 6) sc_law_lock_right.nd rfl (Or.inr rfl)) (pgs_cons (pg_name (i := 7) sc_law_lock_right.nd rfl (Or.inr rfl)) (pgs_cons (pg_name (i := 8) sc_law_lock_right.nd rfl (Or.inl rfl)) pgs_nil)))))
      (pss_cons (ps_if (pt_cmpR op_ne (pe_callB (call_reprD hr.units hgd) (by rfl) T.z_repr (by decide +kernel) (pa_cons (pe_lst (pa_cons (pe_call G_lock_kind (hr.mono (by decide)) (by rfl) T.m_lock_kind T.F_lock_kind.kp (b_lock_kind T) .nil passL (pa_cons (pv 1) (pa_cons (pv 2) (pa_cons (pv 6) (pa_cons (pv 7) pa_nil))))) (pa_cons (pe_callN0 G_lock_kind (hr.mono (by decide)) (by rfl) T.m_lock_kind T.F_lock_kind.kp (kb_lock_kind_0_n_m_t_s T) passL (pk_cons (pv 7) (pk_cons (pv 6) (pk_cons (pv 2) (pk_cons (pv 1) pk_nil))))) pa_nil))) pa_nil)) (pe_callB (call_reprD hr.units hgd) (by rfl) T.z_repr (by decide +kernel) (pa_cons (pe_lst (pa_cons (pv 8) (pa_cons (pv 8) pa_nil))) pa_nil)) (nomark _)) (pss_one (ps_ret pe_bl)) pss_nil)
      (pss_cons (ps_for PassesOwn.never rfl (pi_range1 (by rfl) T.z_range (pa_cons pe_int pa_nil)) (pg_name (i := 9) sc_law_lock_right.nd rfl (Or.inl rfl)) (pss_cons (ps_par (i := 10) (j := 11) rfl sc_law_lock_right.nd rfl rfl (by decide) rfl rfl (pa_cons (pe_call G_law_corners (hr.mono (by decide)) (by rfl) T.m_law_corners T.F_law_corners.kp (b_law_corners T) .nil pass0 (pa_cons (pv 3) (pa_cons (pv 4) (pa_cons (pv 5) pa_nil)))) (pa_cons (pe_cmpR (op_eqD hr.units) (pe_call G_law_cross (hr.mono (by decide)) (by rfl) T.m_law_cross T.F_law_cross.kp (b_law_cross T) .nil pass0 (pa_cons (pe_call G_law_row (hr.mono (by decide)) (by rfl) T.m_law_row T.F_law_row.kp (b_law_row T) .nil pass0 (pa_cons (pv 3) (pa_cons (pv 4) pa_nil))) (pa_cons (pe_call G_law_row (hr.mono (by decide)) (by rfl) T.m_law_row T.F_law_row.kp (b_law_row T) .nil pass0 (pa_cons (pv 3) (pa_cons (pv 5) pa_nil))) pa_nil))) pe_int (nomark _)) pa_nil)) (by rfl))
      (pss_cons (ps_setLc (i := 12) (own := [("c", 13)]) (g := gName 13) rfl sc_law_lock_right.nd rfl rfl (sw_true rfl rfl rfl (by decide +kernel)) (pi_list (pv 10)) (blkOk_by (N := N_law_lock_right) (sc := defScope s_law_lock_right) (by decide +kernel)) (fun _ _ _ _ _ => (pg_name (i := 13) sc_law_lock_right.nd rfl (Or.inl rfl))) (fun _ _ _ _ _ => pts_one (pt_val (pe_call G_law_has_room (hr.mono (by decide)) (by rfl) T.m_law_has_room T.F_law_has_room.kp (b_law_has_room T) .nil pass0 (pa_cons (pv 3) (pa_cons (pv 4) (pa_cons (pv 13) (pa_cons (pv 5) (pa_cons (pv 6) (pa_cons (pv 7) pa_nil))))))))) (fun _ _ _ _ _ => (pv 13)))
      (pss_cons (ps_if (pt_cmpR op_ne (pe_callB (call_reprD hr.units hgd) (by rfl) T.z_repr (by decide +kernel) (pa_cons (pe_lst (pa_cons (pe_call G_locked_corners (hr.mono (by decide)) (by rfl) T.m_locked_corners T.F_locked_corners.kp (b_locked_corners T) .nil passL (pa_cons (pv 1) (pa_cons (pv 2) (pa_cons (pv 6) (pa_cons (pv 7) (pa_cons (pv 3) (pa_cons (pv 4) (pa_cons (pv 5) pa_nil)))))))) (pa_cons (pe_callN0 G_locked_corners (hr.mono (by decide)) (by rfl) T.m_locked_corners T.F_locked_corners.kp (kb_locked_corners_0_b_a_o_n_m_t_s T) passL (pk_cons (pe_callTy call_list_of (by rfl) T.z_list (by decide +kernel) (pa_cons (pv 5) pa_nil)) (pk_cons (pv 4) (pk_cons (pe_callTy call_list_of (by rfl) T.z_list (by decide +kernel) (pa_cons (pv 3) pa_nil)) (pk_cons (pv 7) (pk_cons (pv 6) (pk_cons (pv 2) (pk_cons (pv 1) pk_nil)))))))) pa_nil))) pa_nil)) (pe_callB (call_reprD hr.units hgd) (by rfl) T.z_repr (by decide +kernel) (pa_cons (pe_op op_rep (pe_lst (pa_cons (pe_callTy call_tuple_of (by rfl) T.z_tuple (by decide +kernel) (pa_cons (pv 12) pa_nil)) pa_nil)) pe_int) pa_nil)) (nomark _)) (pss_one (ps_ret pe_bl)) pss_nil)
      (pss_cons (ps_for PassesOwn.never rfl (pi_list (pv 10)) (pg_name (i := 13) sc_law_lock_right.nd rfl (Or.inl rfl)) (pss_cons (ps_set (i := 14) sc_law_lock_right.nd rfl (Or.inl rfl) (pe_call G_law_part (hr.mono (by decide)) (by rfl) T.m_law_part T.F_law_part.kp (b_law_part T) .nil pass0 (pa_cons (pe_call G_law_far (hr.mono (by decide)) (by rfl) T.m_law_far T.F_law_far.kp (b_law_far T) .nil pass0 (pa_cons (pe_call G_law_half (hr.mono (by decide)) (by rfl) T.m_law_half T.F_law_half.kp (b_law_half T) .nil pass0 (pa_cons (pv 3) (pa_cons (pv 4) pa_nil))) (pa_cons (pe_call G_law_half (hr.mono (by decide)) (by rfl) T.m_law_half T.F_law_half.kp (b_law_half T) .nil pass0 (pa_cons (pv 13) (pa_cons (pv 5) pa_nil))) pa_nil))) (pa_cons pe_int pa_nil))))
      (pss_one (ps_if (pt_not (pt_val (pe_call G_law_goes_with (hr.mono (by decide)) (by rfl) T.m_law_goes_with T.F_law_goes_with.kp (b_law_goes_with T) .nil pass0 (pa_cons (pv 8) (pa_cons (pe_or (pv 11) (pe_one (pe_cmpR (op_neD hr.units) (pv 13) (pe_ix ix_list (pv 10) pe_int (fun _ _ => rfl)) (nomark _)))) (pa_cons (pv 11) (pa_cons (pe_cmpR (op_inD (units65 hr)) (pv 13) (pv 12) (by rfl)) (pa_cons (pv 14) (pa_cons (pe_call G_law_mul (hr.mono (by decide)) (by rfl) T.m_law_mul T.F_law_mul.kp (b_law_mul T) .nil pass0 (pa_cons (pv 6) (pa_cons (pv 6) pa_nil))) pa_nil))))))))) (pss_one (ps_ret pe_bl)) pss_nil))))
      (pss_cons (ps_par (i := 15) (j := 16) rfl sc_law_lock_right.nd rfl rfl (by decide) rfl rfl (pa_cons (pe_call G_law_turn (hr.mono (by decide)) (by rfl) T.m_law_turn T.F_law_turn.kp (b_law_turn T) .nil pass0 (pa_cons (pv 0) pa_nil)) (pa_cons (pe_call G_law_turn (hr.mono (by decide)) (by rfl) T.m_law_turn T.F_law_turn.kp (b_law_turn T) .nil pass0 (pa_cons (pv 0) pa_nil)) pa_nil)) (by rfl))
      (pss_one (ps_asg (pe_tup (pa_cons (pe_call G_law_gone (hr.mono (by decide)) (by rfl) T.m_law_gone T.F_law_gone.kp (b_law_gone T) .nil pass0 (pa_cons (pv 3) (pa_cons (pv 15) (pa_cons (pv 1) pa_nil)))) (pa_cons (pe_call G_law_gone (hr.mono (by decide)) (by rfl) T.m_law_gone T.F_law_gone.kp (b_law_gone T) .nil pass0 (pa_cons (pv 3) (pa_cons (pe_ifExp (pt_cmpR op_gt (pv 9) pe_int (nomark _)) (pv 16) (pv 15)) (pa_cons (pv 2) pa_nil)))) pa_nil))) (pg_tup rfl (pgs_cons (pg_name (i := 4) sc_law_lock_right.nd rfl (Or.inr rfl)) (pgs_cons (pg_name (i := 5) sc_law_lock_right.nd rfl (Or.inr rfl)) pgs_nil)))))))))))
      (pss_one (ps_ret pe_bl)))))), ?_⟩
    refine ⟨_, rfl, S, j, bk, i0, rfl, hS, lv, J, by omega, fun v0 d0 H1 k1 l1 J1 h1 q1 => ?_⟩
    obtain ⟨s, t, o, p, a0, b0, c0, e0', rfl, fr0, zs, zt, zo, zp, za0, zb0, zc0, ze0⟩ := q1
    cases h1 with
    | @tup q0 xs0 _ e0 hx =>
    cases hx with
    | @cons vs _ _ _ hs hx =>
    cases hx with
    | @cons vt _ _ _ ht hx =>
    cases hx with
    | @cons vo _ _ _ ho hx =>
    cases hx with
    | @cons va0 _ _ _ ha0 hx =>
    cases hx with
    | @cons vb0 _ _ _ hb0 hx =>
    cases hx
    refine ⟨q0, _, rfl, .inl (.inl (mn_of e0).2), rfl, _, _, rfl, _, _, rfl, _, _, rfl, _, _, rfl, _, _, rfl, rfl, ?_⟩
    have s0 := fr0.pos
    have st := fr0.less
    refine ⟨_, rfl, _, rfl, _, rfl, S, j, bk, i0 + 17, vs, vt, s, t, rfl, hS, l1, J1, by omega, hs, ht, s0, st, zs.more (by decide), zt.more (by decide), fun w m n H2 k2 l2 J2 h2 m0 n0 zm zn => ?_⟩
    cases h2 with
    | @tup q2 xs2 _ e2 hx =>
    cases hx with
    | @cons ym _ _ _ hm hx =>
    cases hx with
    | @cons yn _ _ _ hn' hx =>
    cases hx with
    | @cons yk _ _ _ hk hx =>
    cases hx
    cases hk
    refine ⟨q2, _, rfl, .inl (.inl (mn_of e2).2), rfl, _, _, rfl, _, _, rfl, _, _, rfl, rfl, ?_⟩
    have hs := hs.up (k2.less hS)
    have ht := ht.up (k2.less hS)
    have ho := ho.up (k2.less hS)
    have ha0 := ha0.up (k2.less hS)
    have hb0 := hb0.up (k2.less hS)
    have kA : Keep j H H2 := k1.trans k2
    have qs : Nz H2 vs 28 s := (hs.up mn_same).nz (by decide) (zs.more (by decide))
    have qt : Nz H2 vt 28 t := (ht.up mn_same).nz (by decide) (zt.more (by decide))
    have qm : Nz H2 ym 400 m := (hm.up mn_same).nz (by decide) zm
    have qn : Nz H2 yn 400 n := (hn'.up mn_same).nz (by decide) zn
    have lk : Lk H2 vs vt ym yn 28 400 s t m n := ⟨qs, qt, qm, qn⟩
    -- its kind
    refine ⟨_, rfl, _, rfl, _, rfl, _, rfl, vs, vt, ym, yn, s, t, m, n, 28, 400, rfl, lk, by decide, s0, st, m0, n0, fun H3 s3 => ?_⟩
    refine ⟨_, rfl, _, rfl, _, rfl, _, rfl, rfl, rfl, vs, vt, ym, yn, s, t, m, n, 28, 400, rfl, lk.up s3, by decide, s0, st, m0, n0, fun H4 s4 => ⟨(by decide : 2 ≤ sizeLine), fun q5 hq5 => ?_⟩⟩
    have s5 : Same H4 (upd H4 q5 (.lst [.str (kindOf s t m n), .str (kindOf s t m n)])) := Same.new hq5
    have i5 : Is (upd H4 q5 (.lst [.str (kindOf s t m n), .str (kindOf s t m n)])) (.ref q5) (.lst [.str (kindOf s t m n), .str (kindOf s t m n)]) := .lst upd_same (.cons (.str _) (.cons (.str _) .nil))
    generalize upd H4 q5 (.lst [.str (kindOf s t m n), .str (kindOf s t m n)]) = H5 at s5 i5 ⊢
    refine ⟨.ref q5, _, rfl, i5, kind_okr, _, rfl, _, rfl, (by decide : 2 ≤ sizeLine), fun q6 hq6 => ?_⟩
    have s6 : Same H5 (upd H5 q6 (.lst [.str (kindOf s t m n), .str (kindOf s t m n)])) := Same.new hq6
    have i6 : Is (upd H5 q6 (.lst [.str (kindOf s t m n), .str (kindOf s t m n)])) (.ref q6) (.lst [.str (kindOf s t m n), .str (kindOf s t m n)]) := .lst upd_same (.cons (.str _) (.cons (.str _) .nil))
    generalize upd H5 q6 (.lst [.str (kindOf s t m n), .str (kindOf s t m n)]) = H6 at s6 i6 ⊢
    refine ⟨.ref q6, _, rfl, i6, kind_okr, rfl, _, rfl, iteE (fun z => absurd rfl z) fun _ => ?_⟩
    have sA := ((s3.trans s4).trans s5).trans s6
    have up6 : ∀ {v : V} {d : Da}, Is (mn S H2) v d → Is (mn S H6) v d := fun h => h.up (Same.less sA)
    have hs := up6 hs
    have ht := up6 ht
    have ho := up6 ho
    have hm := up6 hm
    have hn' := up6 hn'
    have ha0 := up6 ha0
    have hb0 := up6 hb0
    have l6 := l2.more sA
    have J6 : Jar j bk H6 (i0 + 22 + 6 * 0) := (J2.up sA).le (by omega)
    have kB : Keep j H H6 := kA.trans (Same.keep sA)
    clear s3 s4 s5 s6 i5 i6 qs qt qm qn lk sA up6 e0 e2 J1 J2 l1 l2
    refine ⟨4, rfl, by decide, by decide, for_range (n := 4) (fun i σ' H' => Keep j H6 H' ∧ Live S H' ∧ Jar j bk H' (i0 + 22 + 6 * i) ∧ ∃ (va vb : V) (a b c e : Rat), Is (mn S H') va (pt a b) ∧ Is (mn S H') vb (pt c e) ∧ Frame s t o p a b c e ∧ (Sz 28 a ∧ Sz 28 b ∧ Sz 28 c ∧ Sz 28 e) ∧
      ∃ x9 x10 x11 x12 x13 x14 x15 x16 : Option V, σ' = [some (.ref j), some vs, some vt, some vo, some va, some vb, some ym, some yn, some (.str (kindOf s t m n)), x9, x10, x11, x12, x13, x14, x15, x16]) ?_ ?_ ?_⟩
    · exact ⟨Keep.refl _, l6, J6, va0, vb0, a0, b0, c0, e0', ha0, hb0, fr0, ⟨za0, zb0, zc0, ze0⟩, none, none, none, none, none, none, none, none, rfl⟩
    · rintro i σ' H7 hi ⟨k7, l7, J7, va, vb, a, b, c, e, ha, hb, fr, ⟨za, zb, zc, ze⟩, x9, x10, x11, x12, x13, x14, x15, x16, rfl⟩
      have up7 : ∀ {v : V} {d : Da}, Is (mn S H6) v d → Is (mn S H7) v d := fun h => h.up (k7.less hS)
      have hs := up7 hs
      have ht := up7 ht
      have ho := up7 ho
      have hm := up7 hm
      have hn' := up7 hn'
      have qs : Nz H7 vs 28 s := (hs.up mn_same).nz (by decide) (zs.more (by decide))
      have qt : Nz H7 vt 28 t := (ht.up mn_same).nz (by decide) (zt.more (by decide))
      have qm : Nz H7 ym 400 m := (hm.up mn_same).nz (by decide) zm
      have qn : Nz H7 yn 400 n := (hn'.up mn_same).nz (by decide) zn
      have lk : Lk H7 vs vt ym yn 28 400 s t m n := ⟨qs, qt, qm, qn⟩
      have po : Pm H7 vo 28 o p := (ho.up mn_same).pm (by decide) (zo.more (by decide)) (zp.more (by decide))
      have pa : Pm H7 va 28 a b := (ha.up mn_same).pm (by decide) za zb
      have pb : Pm H7 vb 28 c e := (hb.up mn_same).pm (by decide) zc ze
      have szs : ∀ z ∈ crnL o p a b c e, Sz 836 z.1 ∧ Sz 836 z.2 ∧ Sz 1900 (wd o p a b z.1 z.2 c e) := fun z hz => crnL_sz fr (zt.more (by decide)) (zo.more (by decide)) (zp.more (by decide)) za zb zc ze hz
      -- corners, flat
      refine ⟨_, rfl, _, rfl, _, rfl, vo, va, vb, o, p, a, b, c, e, 28, rfl, po, pa, pb, fr.apart, by decide, fun sm H8 s8 n8 => ?_⟩
      have i8 := n8.is
      cases i8 with
      | @lst qq ws _ hq8 hx8 =>
      refine ⟨_, rfl, _, rfl, on_way (po.up s8) (pa.up s8) (by decide) fun r9 H9 s9 n9 p9 => ⟨_, rfl, _, rfl, on_way ((po.up s8).up s9) ((pb.up s8).up s9) (by decide) fun r10 H10 s10 n10 p10 => on_cross (p9.up s10) p10 (by decide) fun r11 H11 s11 n11 z11 => ?_⟩⟩
      obtain ⟨d1, d2, g1, g2, g3, g4, ge⟩ := eq_num (K := K) n11.is (Is.zero (H := H11))
      rw [show decide ((a - o) * (e - p) - (b - p) * (c - o) = 0) = decide (flatQ o p a b c e = 0) from by simp only [flat_cross]] at ge
      refine ⟨d1, d2, g1, g2, g3, g4, _, _, rfl, ?_⟩
      rw [ge]
      have y11 := (s9.trans s10).trans s11
      have s11' := s8.trans y11
      have hq := y11 _ _ hq8
      have hx := hx8.up y11
      have po := po.up s11'
      have pa := pa.up s11'
      have pb := pb.up s11'
      have lk := lk.up s11'
      have lenw : ws.length ≤ 2 := by rw [hx.length, List.length_map]; exact crnL_len
      clear n9 n10 n11 p9 p10 z11 hx8 hq8 s9 s10 s11 y11 g1 g2 g3 g4 ge n8
      -- those that have room
      refine ⟨_, rfl, qq, rfl, ⟨_, .inl (.inl hq)⟩, fun D hD => lc_filter walk_list (fun w => rm m n o p a b c e (ptOf w)) hx (by omega) hD (fun H' s' => .inl (.inl (s' _ _ hq))) ?_ ?_⟩
      · intro m' x w' H12 Q' N hxi hdi s12 kq
        obtain ⟨z', hz, rfl⟩ : ∃ z', z' ∈ crnL o p a b c e ∧ ptP z' = w' := by
          obtain ⟨z', h1, h2⟩ := List.mem_map.mp (List.mem_of_getElem? hdi)
          exact ⟨z', h1, h2⟩
        obtain ⟨w'', hw', hi'⟩ := hx.at hxi
        rw [hdi] at hw'
        cases hw'
        obtain ⟨y1, y2, y3⟩ := szs z' hz
        have mx : Pm H12 x 836 z'.1 z'.2 := Is.pm (hi'.up s12) (by decide) y1 y2
        refine ⟨rfl, _, rfl, _, rfl, _, rfl, _, rfl, _, rfl, _, rfl, vo, va, x, vb, ym, yn, o, p, a, b, z'.1, z'.2, c, e, m, n, rfl, po.up s12, pa.up s12, mx, pb.up s12, lk.2.2.1.up s12, lk.2.2.2.up s12, fun H13 s13 => ⟨_, rfl, ?_⟩⟩
        have q6 := kq H13 s13
        rw [show ptOf (ptP z') = z' from Pt.of pt_pt] at q6
        have q6' : if rm m n o p a b c e (z'.1, z'.2) = true then Q' x H13 else N H13 := q6
        revert q6'
        cases rm m n o p a b c e (z'.1, z'.2) with
        | true => intro q6; exact ⟨_, rfl, q6⟩
        | false => intro q6; exact q6
      intro H12 ys s12 hD12 hys
      have ey : ((crnL o p a b c e).map ptP).filter (fun w => rm m n o p a b c e (ptOf w)) = letD m n o p a b c e := by
        rw [List.filter_map]
        unfold letD
        congr 2
        funext z'
        show rm m n o p a b c e (ptOf (ptP z')) = _
        rw [show ptOf (ptP z') = z' from Pt.of pt_pt]
      rw [ey] at hys
      have s12' := s11'.trans s12
      have iD : Is H12 (.ref D) (.lst (letD m n o p a b c e)) := .lst hD12 (hys.up s12)
      have hq := s12 _ _ hq
      have hx := hx.up s12
      have po := po.up s12
      have pa := pa.up s12
      have pb := pb.up s12
      have lk := lk.up s12
      -- told the same
      refine ⟨_, rfl, _, rfl, _, rfl, _, rfl, _, rfl, _, rfl, _, rfl, vs, vt, ym, yn, vo, va, vb, s, t, m, n, o, p, a, b, c, e, rfl, lk, po, pa, pb, fr, m0, n0, fun r20 H20 s20 i20 => ?_⟩
      obtain ⟨pB, yB, rfl, hsB, kB'⟩ := (pb.up s20).list (K := K)
      refine ⟨_, rfl, pB, yB, rfl, hsB, fun l1 hl1 => ?_⟩
      have s21 : Same H20 (upd H20 l1 (.lst yB)) := Same.new hl1
      have mb := kB' l1 hl1
      generalize upd H20 l1 (.lst yB) = H21 at s21 mb ⊢
      have u21 := s20.trans s21
      obtain ⟨pO, yO, rfl, hsO, kO'⟩ := (po.up u21).list (K := K)
      refine ⟨_, rfl, _, rfl, pO, yO, rfl, hsO, fun l2 hl2 => ?_⟩
      have s22 : Same H21 (upd H21 l2 (.lst yO)) := Same.new hl2
      have mo := kO' l2 hl2
      generalize upd H21 l2 (.lst yO) = H22 at s22 mo ⊢
      have u22 := u21.trans s22
      refine ⟨_, rfl, _, rfl, _, rfl, _, rfl, rfl, rfl, vs, vt, ym, yn, .ref l2, va, .ref l1, s, t, m, n, o, p, a, b, c, e, rfl, lk.up u22, mo, pa.up u22, mb.up s22, fr, m0, n0, fun r23 H23 s23 i23 => ⟨(by decide : 2 ≤ sizeLine), fun q24 hq24 => ?_⟩⟩
      have s24 : Same H23 (upd H23 q24 (.lst [r20, r23])) := Same.new hq24
      have i24 : Is (upd H23 q24 (.lst [r20, r23])) (.ref q24) (.lst [.tup (letD m n o p a b c e), .tup (letD m n o p a b c e)]) := .lst upd_same (.cons ((((i20.up s21).up s22).up s23).up s24) (.cons (i23.up s24) .nil))
      generalize upd H23 q24 (.lst [r20, r23]) = H24 at s24 i24 ⊢
      have u24 := (u22.trans s23).trans s24
      have okL := let_okr (m := m) (n := n) fun z hz => ⟨(szs z hz).1, (szs z hz).2.1⟩
      refine ⟨.ref q24, _, rfl, i24, okL, ?_⟩
      refine ⟨_, rfl, D, ys, rfl, .inl ⟨.inl (.inl (u24 _ _ hD12)), fun p25 hp25 => ?_⟩⟩
      have s25 : Same H24 (upd H24 p25 (.tup ys)) := Same.new hp25
      have i25 : Is (upd H24 p25 (.tup ys)) (.ref p25) (.tup (letD m n o p a b c e)) := .tup upd_same (((hys.up s12).up u24).up s25)
      generalize upd H24 p25 (.tup ys) = H25 at s25 i25 ⊢
      refine ⟨(by decide : 1 ≤ sizeLine), fun q26 hq26 => ?_⟩
      have s26 : Same H25 (upd H25 q26 (.lst [.ref p25])) := Same.new hq26
      have e26 : (upd H25 q26 (.lst [.ref p25])) q26 = some (.lst [.ref p25]) := upd_same
      generalize upd H25 q26 (.lst [.ref p25]) = H26 at s26 e26 ⊢
      refine ⟨q26, 2, [.ref p25], rfl, rfl, e26, by decide, by decide, ?_, fun q27 hq27 => ?_⟩
      · show 1 * 2 ≤ sizeLine
        decide
      have s27 : Same H26 (upd H26 q27 (.lst (List.replicate (2 : Int).toNat [V.ref p25]).flatten)) := Same.new hq27
      have i27 : Is (upd H26 q27 (.lst (List.replicate (2 : Int).toNat [V.ref p25]).flatten)) (.ref q27) (.lst [.tup (letD m n o p a b c e), .tup (letD m n o p a b c e)]) := .lst upd_same (.cons ((i25.up s26).up s27) (.cons ((i25.up s26).up s27) .nil))
      generalize upd H26 q27 (.lst (List.replicate (2 : Int).toNat [V.ref p25]).flatten) = H27 at s27 i27 ⊢
      refine ⟨.ref q27, _, rfl, i27, okL, rfl, _, rfl, iteE (fun z => absurd rfl z) fun _ => ?_⟩
      have u27 := ((u24.trans s25).trans s26).trans s27
      have s27' := s12'.trans u27
      have iD := iD.up u27
      have hq := u27 _ _ hq
      have hx := hx.up u27
      have po := po.up u27
      have pa := pa.up u27
      have pb := pb.up u27
      have lk := lk.up u27
      clear i20 i23 i24 i25 i27 e26 mo mb hsB hsO kB' kO' s20 s21 s22 s23 s24 s25 s26 s27 u21 u22 u24 hys ey hD12
      -- each goes with the word
      refine ⟨_, rfl, qq, rfl, ⟨_, .inl (.inl hq)⟩, for_list (K := K) (a := qq) (xs := ws) (fun i' σ' H' => Same H27 H' ∧ ∃ s13 s14 : Option V, σ' = [some (.ref j), some vs, some vt, some (.ref pO), some va, some (.ref pB), some ym, some yn, some (.str (kindOf s t m n)), some (.int (0 + (i : Nat))), some (.ref qq), some (.bl (decide (flatQ o p a b c e = 0))), some (.ref D), s13, s14, x15, x16]) ?_ (fun i' σ' H' _ p => .inl (.inl (p.1 _ _ hq))) ?_ ?_⟩
      · exact ⟨Same.refl _, _, _, rfl⟩
      · rintro i' x σ' H13 hxi ⟨v13, y13, y14, rfl⟩
        obtain ⟨w', hw', hi'⟩ := hx.at hxi
        obtain ⟨z', hz, rfl⟩ : ∃ z', z' ∈ crnL o p a b c e ∧ ptP z' = w' := by
          obtain ⟨z', h1, h2⟩ := List.mem_map.mp (List.mem_of_getElem? hw')
          exact ⟨z', h1, h2⟩
        obtain ⟨y1, y2, y3⟩ := szs z' hz
        have mx : Pm H27 x 836 z'.1 z'.2 := Is.pm hi' (by decide) y1 y2
        refine ⟨_, rfl, _, rfl, on_half (po.up v13) (pa.up v13) (by decide) fun h1' H15 s15 n15 p15 => ?_⟩
        have u15 := v13.trans s15
        refine ⟨_, rfl, _, rfl, on_half (mx.up u15) (pb.up u15) (by decide) fun h2' H16 s16 n16 p16 => on_far (p15.up s16) p16 (by decide) fun w17 H17 s17 n17 z17 => on_rpart z17 nz_four (by decide) (by decide +kernel) fun ww H14 s18 n18 z18 => ?_⟩
        have v14 := v13
        have w14 := ((s15.trans s16).trans s17).trans s18
        have s14 := v13.trans w14
        have u14 := s14
        have zw : Nz H14 ww 3800 (wd o p a b z'.1 z'.2 c e) := z18.more (by decide)
        -- the first corner
        obtain ⟨w1, hw1, iw1⟩ : ∃ w1, ws[0]? = some w1 ∧ Is H27 w1 (pt (a + (c - o)) (b + (e - p))) := by
          obtain ⟨w1, g1, g2⟩ := hx.get (show ((crnL o p a b c e).map ptP)[0]? = some (pt (a + (c - o)) (b + (e - p))) by unfold crnL; split <;> rfl)
          exact ⟨w1, g1, g2⟩
        refine ⟨_, rfl, _, rfl, _, rfl, iteB (fun zf => ?_) fun zf => ?_⟩
        · rw [zf]
          have in12 : Is H14 x (ptP z') := hi'.up s14
          obtain ⟨f1, f2, f3, f4, f5, f6, fe⟩ := in_let (K := K) hz in12 (iD.up u14)
          refine ⟨_, rfl, _, rfl, _, rfl, f1, f2, f3, f4, f5, f6, ?_⟩
          rw [fe]
          refine ⟨_, rfl, _, rfl, _, rfl, on_rmul (lk.2.2.1.up u14) (lk.2.2.1.up u14) (by decide) fun wm H19 s19 n19 z19 => ?_⟩
          refine ⟨kindOf s t m n, true, true, rm m n o p a b c e z', ww, wm, wd o p a b z'.1 z'.2 c e, m * m, 3800, 800, rfl, zw.up s19, z19, by decide, fun H20 s20 => ⟨_, rfl, iteN (fun zz => ?_) fun _ => ?_⟩⟩
          · have g := goes_all (n := n) fr m0 hz
            rw [zf, Bool.true_or] at g
            exact nomatch (g.symm.trans zz)
          · exact ⟨((v14.trans w14).trans s19).trans s20, _, _, rfl⟩
        · refine ⟨_, rfl, _, rfl, qq, ws, _, w1, rfl, rfl, .inl (.inl (u14 _ _ hq)), atI_of (n := 0) (by decide) rfl hw1, ?_⟩
          obtain ⟨c1, c2, c3, c4, c5, c6, ce⟩ := eq_pnt (K := K) (show Is H14 x (pt z'.1 z'.2) from hi'.up s14) (iw1.up s14)
          refine ⟨c1, c2, c3, c4, c5, c6, ?_⟩
          rw [ce]
          rw [zf]
          have in12 : Is H14 x (ptP z') := hi'.up s14
          obtain ⟨f1, f2, f3, f4, f5, f6, fe⟩ := in_let (K := K) hz in12 (iD.up u14)
          refine ⟨_, rfl, _, rfl, _, rfl, f1, f2, f3, f4, f5, f6, ?_⟩
          rw [fe]
          refine ⟨_, rfl, _, rfl, _, rfl, on_rmul (lk.2.2.1.up u14) (lk.2.2.1.up u14) (by decide) fun wm H19 s19 n19 z19 => ?_⟩
          refine ⟨kindOf s t m n, !decide (z'.1 = a + (c - o) ∧ z'.2 = b + (e - p)), false, rm m n o p a b c e z', ww, wm, wd o p a b z'.1 z'.2 c e, m * m, 3800, 800, rfl, zw.up s19, z19, by decide, fun H20 s20 => ⟨_, rfl, iteN (fun zz => ?_) fun _ => ?_⟩⟩
          · have g := goes_all (n := n) fr m0 hz
            rw [zf, Bool.false_or] at g
            exact nomatch (g.symm.trans zz)
          · exact ⟨((v14.trans w14).trans s19).trans s20, _, _, rfl⟩
      · rintro σ' H13 ⟨v13, y13, y14, rfl⟩
        have sG := s27'.trans v13
        have l13 := l7.more sG
        have J13 := J7.up sG
        refine dr_par hS (dr_draw (P := turnP) (c := 3) hS rfl) (dr_draw (P := turnP) (c := 3) hS rfl) l13 J13 (by omega) fun v15 d15 v16 d16 H30 k30 l30 J30 h15 p15 h16 p16 => ?_
        obtain ⟨c5, e5, rfl, u15, z15, z15'⟩ := p15
        obtain ⟨c6, e6, rfl, u16, z16, z16'⟩ := p16
        have up30 : ∀ {v : V} {d : Da}, Is (mn S H7) v d → Is (mn S H30) v d := fun h => (h.up (Same.less sG)).up (k30.less hS)
        have qs3 : Nz H30 vs 3 s := ((up30 hs).up mn_same).nz (by decide) zs
        have qt7 : Nz H30 vt 7 t := ((up30 ht).up mn_same).nz (by decide) zt
        have po3 : Pm H30 (.ref pO) 3 o p := ((up30 ho).up mn_same).pm (by decide) zo zp
        have p15 : Pm H30 v15 16 c5 e5 := (h15.up mn_same).pm (by decide) z15 z15'
        have p16 : Pm H30 v16 16 c6 e6 := (h16.up mn_same).pm (by decide) z16 z16'
        refine ⟨_, rfl, _, rfl, _, rfl, on_goneR po3 p15 qs3 (by decide) fun w31 H31 s31 n31 p31 => ?_⟩
        refine ⟨_, rfl, _, rfl, _, _, rfl, rfl, _, rfl, iteD (fun cc => ?_) fun cc => ?_⟩
        · refine ⟨_, rfl, _, rfl, on_goneR (po3.up s31) (p16.up s31) (qt7.up s31) (by decide) fun w32 H32 s32 n32 p32 => ⟨(by decide : 2 ≤ sizeLine), fun q33 hq33 => ?_⟩⟩
          have s33 : Same H32 (upd H32 q33 (.tup [w31, w32])) := Same.new hq33
          refine ⟨q33, _, rfl, .inl (.inl upd_same), rfl, _, _, rfl, _, _, rfl, rfl, ?_⟩
          have sF := (s31.trans s32).trans s33
          have i31 := ((n31 S l30).up (Same.less s32)).up (Same.less s33)
          have i32 := (n32 S (l30.more s31)).up (Same.less s33)
          exact ⟨((k7.trans (Same.keep (s27'.trans v13))).trans k30).trans (Same.keep sF), l30.more sF, (J30.up sF).le (by omega), w31, w32, _, _, _, _, i31, i32, frame_of s0 st u15 u16, ⟨p31.2.2.1.more (by decide), p31.2.2.2.more (by decide), p32.2.2.1.more (by decide), p32.2.2.2.more (by decide)⟩, _, _, _, _, _, _, _, _, rfl⟩
        · refine ⟨_, rfl, _, rfl, on_goneR (po3.up s31) (p15.up s31) (qt7.up s31) (by decide) fun w32 H32 s32 n32 p32 => ⟨(by decide : 2 ≤ sizeLine), fun q33 hq33 => ?_⟩⟩
          have s33 : Same H32 (upd H32 q33 (.tup [w31, w32])) := Same.new hq33
          refine ⟨q33, _, rfl, .inl (.inl upd_same), rfl, _, _, rfl, _, _, rfl, rfl, ?_⟩
          have sF := (s31.trans s32).trans s33
          have i31 := ((n31 S l30).up (Same.less s32)).up (Same.less s33)
          have i32 := (n32 S (l30.more s31)).up (Same.less s33)
          exact ⟨((k7.trans (Same.keep (s27'.trans v13))).trans k30).trans (Same.keep sF), l30.more sF, (J30.up sF).le (by omega), w31, w32, _, _, _, _, i31, i32, frame_of s0 st u15 u15, ⟨p31.2.2.1.more (by decide), p31.2.2.2.more (by decide), p32.2.2.1.more (by decide), p32.2.2.2.more (by decide)⟩, _, _, _, _, _, _, _, _, rfl⟩
    · rintro σ' H7 ⟨k7, l7, J7, va, vb, a, b, c, e, ha, hb, fr, _, x9, x10, x11, x12, x13, x14, x15, x16, rfl⟩
      exact k H7 (kB.trans k7) l7 (J7.le (by omega))
end
end Ty

namespace Ty
open PySem PySem.Spec PyProof.Rows L2
section
variable {P : Program} {w : World} {K : PySem.W.Frag} {mg : Str → Option Value} {base : Heap}
theorem two_okr {d : Da} {x y : Rat} (h : Pt d x y) (s1 : Sz 1900 x) (s2 : Sz 1900 y) : okr (.lst [d, d]) = true := by
  obtain ⟨a1, a2, a3⟩ := pt_show h s1 s2
  have e1 : nums (.lst [d, d]) = true := by
    show (nums d && (nums d && true)) = true
    rw [a1]
    rfl
  have e2 : dp (.lst [d, d]) ≤ 60 := by
    show max (dp d) (max (dp d) 0) + 1 ≤ 60
    omega
  have e3 : wt (.lst [d, d]) ≤ 16000000 := by
    show wt d + 2 + (wt d + 2 + 0) + 10 ≤ 16000000
    omega
  unfold okr
  rw [e1, decide_eq_true e2, decide_eq_true e3]
  rfl
theorem let_built {s t o p a b c d : Rat} (fr : Frame s t o p a b c d) : ∃ z, letD ((5 * t + 3 * s) / 8) ((3 * t + 5 * s) / 8) o p a b c d = [ptP z] ∧ ∀ {H : Hp} {ws : List V}, IsAll H ws ((crnL o p a b c d).map ptP) → ∃ w, atI ws (-1) = some w ∧ Is H w (ptP z) := by
  have m0 : 0 < (5 * t + 3 * s) / 8 := by have := fr.pos; have := fr.less; grind
  have kb := kind_built fr.pos fr.less
  have room : ∀ z, z ∈ crnL o p a b c d → rm ((5 * t + 3 * s) / 8) ((3 * t + 5 * s) / 8) o p a b c d z = (decide (flatQ o p a b c d = 0) || !decide (z.1 = a + (c - o) ∧ z.2 = b + (d - p))) := fun z hz => by
    have g := goes_all (n := (3 * t + 5 * s) / 8) fr m0 hz
    rw [kb] at g
    exact of_decide_eq_true g
  unfold letD
  have ec : crnL o p a b c d = if decide (flatQ o p a b c d = 0) = true then [(a + (c - o), b + (d - p))] else
      [(a + (c - o), b + (d - p)), (mir1 (a + (c - o)) (b + (d - p)) a b c d, mir2 (a + (c - o)) (b + (d - p)) a b c d)] := rfl
  cases fl : decide (flatQ o p a b c d = 0) with
  | true =>
    rw [fl, if_pos rfl] at ec
    rw [ec]
    have r := room (a + (c - o), b + (d - p)) (by rw [ec]; exact List.mem_cons_self)
    rw [fl, Bool.true_or] at r
    refine ⟨(a + (c - o), b + (d - p)), by rw [List.filter_cons, if_pos r]; rfl, fun {H ws} hx => ?_⟩
    cases hx with
    | @cons w1 _ _ _ h1 hx =>
      cases hx
      exact ⟨w1, rfl, h1⟩
  | false =>
    rw [fl, if_neg Bool.false_ne_true] at ec
    rw [ec]
    have nf : flatQ o p a b c d ≠ 0 := of_decide_eq_false fl
    have r := room (a + (c - o), b + (d - p)) (by rw [ec]; exact List.mem_cons_self)
    have r2 := room (mir1 (a + (c - o)) (b + (d - p)) a b c d, mir2 (a + (c - o)) (b + (d - p)) a b c d) (by rw [ec]; exact List.mem_cons_of_mem _ List.mem_cons_self)
    rw [fl, Bool.false_or, decide_eq_true ⟨rfl, rfl⟩] at r
    rw [fl, Bool.false_or, decide_eq_false (show ¬ ((mir1 (a + (c - o)) (b + (d - p)) a b c d, mir2 (a + (c - o)) (b + (d - p)) a b c d).1 = a + (c - o) ∧ (mir1 (a + (c - o)) (b + (d - p)) a b c d, mir2 (a + (c - o)) (b + (d - p)) a b c d).2 = b + (d - p)) from mir_off fun w => nf (flat_cross.mp w)), Bool.not_false] at r2
    refine ⟨(mir1 (a + (c - o)) (b + (d - p)) a b c d, mir2 (a + (c - o)) (b + (d - p)) a b c d), ?_, fun {H ws} hx => ?_⟩
    · rw [List.filter_cons, if_neg (by rw [r]; exact Bool.false_ne_true), List.filter_cons, if_pos r2]
      rfl
    · cases hx with
      | @cons w1 _ _ _ h1 hx =>
      cases hx with
      | @cons w2 _ _ _ h2 hx =>
        cases hx
        exact ⟨w2, rfl, h2⟩
theorem ok_law_own_right (T : Txt K mg) : FnG P w K mg base CX0 11 T.a_law_own_right T.d_law_own_right ["latch"] (spRightR 17) := by
  have G_law_opening := ok_law_opening (P := P) (w := w) (base := base) T
  have G_law_part := ok_law_part (P := P) (w := w) (base := base) T
  have G_locked_corners := ok_locked_corners (P := P) (w := w) (base := base) T
  have G_law_add := ok_law_add (P := P) (w := w) (base := base) T
  have G_lock_kind := ok_lock_kind (P := P) (w := w) (base := base) T
  have G_law_mul := ok_law_mul (P := P) (w := w) (base := base) T
  have G_law_corners := ok_law_corners (P := P) (w := w) (base := base) T
  have G_lock_for := ok_lock_for (P := P) (w := w) (base := base) T
  refine Ty.Fun.okG T.F_law_own_right sc_law_own_right (fun vs H Q E h => ?_) (fun cdv A outer s H vs Q E hgd hr h => ?_)
  · obtain ⟨S, j, bk, n, rfl, _⟩ := h
    rfl
  · obtain ⟨S, j, bk, i0, rfl, hS, lv, J, hn, k⟩ := h
    refine ⟨_, (pss_cons (ps_asg (pe_call G_law_opening (hr.mono (by decide)) (by rfl) T.m_law_opening T.F_law_opening.kp (b_law_opening T) .nil pass0 (pa_cons (pv 0) pa_nil)) (pg_tup rfl (pgs_cons (pg_name (i := 1) sc_law_own_right.nd rfl (Or.inl rfl)) (pgs_cons (pg_name (i := 2) sc_law_own_right.nd rfl (Or.inl rfl)) (pgs_cons (pg_name (i := 3) sc_law_own_right.nd rfl (Or.inl rfl)) (pgs_cons (pg_name (i := 4) sc_law_own_right.nd rfl (Or.inl rfl)) (pgs_cons (pg_name (i := 5) sc_law_own_right.nd rfl (Or.inl rfl)) pgs_nil)))))))
      (pss_cons (ps_par (i := 6) (j := 7) rfl sc_law_own_right.nd rfl rfl (by decide) rfl rfl (pa_cons (pe_call G_law_part (hr.mono (by decide)) (by rfl) T.m_law_part T.F_law_part.kp (b_law_part T) .nil pass0 (pa_cons (pe_call G_law_add (hr.mono (by decide)) (by rfl) T.m_law_add T.F_law_add.kp (b_law_add T) .nil pass0 (pa_cons (pe_call G_law_mul (hr.mono (by decide)) (by rfl) T.m_law_mul T.F_law_mul.kp (b_law_mul T) .nil pass0 (pa_cons pe_int (pa_cons (pv 2) pa_nil))) (pa_cons (pe_call G_law_mul (hr.mono (by decide)) (by rfl) T.m_law_mul T.F_law_mul.kp (b_law_mul T) .nil pass0 (pa_cons pe_int (pa_cons (pv 1) pa_nil))) pa_nil))) (pa_cons pe_int pa_nil))) (pa_cons (pe_call G_law_part (hr.mono (by decide)) (by rfl) T.m_law_part T.F_law_part.kp (b_law_part T) .nil pass0 (pa_cons (pe_call G_law_add (hr.mono (by decide)) (by rfl) T.m_law_add T.F_law_add.kp (b_law_add T) .nil pass0 (pa_cons (pe_call G_law_mul (hr.mono (by decide)) (by rfl) T.m_law_mul T.F_law_mul.kp (b_law_mul T) .nil pass0 (pa_cons pe_int (pa_cons (pv 2) pa_nil))) (pa_cons (pe_call G_law_mul (hr.mono (by decide)) (by rfl) T.m_law_mul T.F_law_mul.kp (b_law_mul T) .nil pass0 (pa_cons pe_int (pa_cons (pv 1) pa_nil))) pa_nil))) (pa_cons pe_int pa_nil))) pa_nil)) (by rfl))
      (pss_cons (ps_if (PW.pt (pw_or (pt_cmpR op_ne (pe_callB (call_reprD hr.units hgd) (by rfl) T.z_repr (by decide +kernel) (pa_cons (pe_lst (pa_cons (pe_call G_lock_for (hr.mono (by decide)) (by rfl) T.m_lock_for T.F_lock_for.kp (b_lock_for T) .nil passL (pa_cons (pv 1) (pa_cons (pv 2) pa_nil))) (pa_cons (pe_callN0 G_lock_for (hr.mono (by decide)) (by rfl) T.m_lock_for T.F_lock_for.kp (kb_lock_for_0_t_s T) passL (pk_cons (pv 2) (pk_cons (pv 1) pk_nil))) pa_nil))) pa_nil)) (pe_callB (call_reprD hr.units hgd) (by rfl) T.z_repr (by decide +kernel) (pa_cons (pe_op op_rep (pe_lst (pa_cons (pe_tup (pa_cons (pv 6) (pa_cons (pv 7) pa_nil))) pa_nil)) pe_int) pa_nil)) (nomark _)) (pw_or1 (pt_cmpR op_ne (pe_call G_lock_kind (hr.mono (by decide)) (by rfl) T.m_lock_kind T.F_lock_kind.kp (b_lock_kind T) .nil passL (pa_cons (pv 1) (pa_cons (pv 2) (pa_cons (pv 6) (pa_cons (pv 7) pa_nil))))) pe_str (nomark _))))) (pss_one (ps_ret pe_bl)) pss_nil)
      (pss_one (ps_ret (pe_cmpR (op_eqD hr.units) (pe_call G_locked_corners (hr.mono (by decide)) (by rfl) T.m_locked_corners T.F_locked_corners.kp (b_locked_corners T) .nil passL (pa_cons (pv 1) (pa_cons (pv 2) (pa_cons (pv 6) (pa_cons (pv 7) (pa_cons (pv 3) (pa_cons (pv 4) (pa_cons (pv 5) pa_nil)))))))) (pe_tup (pa_cons (pe_ix ix_list (pe_call G_law_corners (hr.mono (by decide)) (by rfl) T.m_law_corners T.F_law_corners.kp (b_law_corners T) .nil pass0 (pa_cons (pv 3) (pa_cons (pv 4) (pa_cons (pv 5) pa_nil)))) (pe_un un_neg pe_int) (fun _ _ => rfl)) pa_nil)) (nomark _))))))), ?_⟩
    refine ⟨_, rfl, S, j, bk, i0, rfl, hS, lv, J, by omega, fun v0 d0 H1 k1 l1 J1 h1 q1 => ?_⟩
    obtain ⟨s, t, o, p, a, b, c, e, rfl, fr, zs, zt, zo, zp, za, zb, zc, ze⟩ := q1
    cases h1 with
    | @tup q0 xs0 _ e0 hx =>
    cases hx with
    | @cons vs _ _ _ hs hx =>
    cases hx with
    | @cons vt _ _ _ ht hx =>
    cases hx with
    | @cons vo _ _ _ ho hx =>
    cases hx with
    | @cons va _ _ _ ha hx =>
    cases hx with
    | @cons vb _ _ _ hb hx =>
    cases hx
    refine ⟨q0, _, rfl, .inl (.inl (mn_of e0).2), rfl, _, _, rfl, _, _, rfl, _, _, rfl, _, _, rfl, _, _, rfl, rfl, ?_⟩
    have s0 := fr.pos
    have st := fr.less
    have qs : Nz H1 vs 28 s := (hs.up mn_same).nz (by decide) (zs.more (by decide))
    have qt : Nz H1 vt 28 t := (ht.up mn_same).nz (by decide) (zt.more (by decide))
    have po : Pm H1 vo 28 o p := (ho.up mn_same).pm (by decide) (zo.more (by decide)) (zp.more (by decide))
    have pa : Pm H1 va 28 a b := (ha.up mn_same).pm (by decide) za zb
    have pb : Pm H1 vb 28 c e := (hb.up mn_same).pm (by decide) zc ze
    have fin : ∀ (H' : Hp) (b : Bool), Same H1 H' → b = true → Q (.bl b) H' := fun H' b s' hb => by
      rw [hb]
      exact k H' (k1.trans (Same.keep s')) (l1.more s') (J1.up s')
    clear hs ht ho ha hb e0 k
    refine ⟨_, rfl, on_rmul nz_five qt (by decide) fun w2 H2 s2 n2 z2 => ⟨_, rfl, on_rmul nz_three (qs.up s2) (by decide) fun w3 H3 s3 n3 z3 => on_radd (z2.up s3) z3 (by decide) fun w4 H4 s4 n4 z4 => on_rpart z4 nz_eight (by decide) (by decide +kernel) fun ym H5 s5 n5 z5 => ?_⟩⟩
    have sA := ((s2.trans s3).trans s4).trans s5
    refine ⟨_, rfl, on_rmul nz_three (qt.up sA) (by decide) fun w6 H6 s6 n6 z6 => ⟨_, rfl, on_rmul nz_five ((qs.up sA).up s6) (by decide) fun w7 H7 s7 n7 z7 => on_radd (z6.up s7) z7 (by decide) fun w8 H8 s8 n8 z8 => on_rpart z8 nz_eight (by decide) (by decide +kernel) fun yn H9 s9 n9 z9 => ⟨_, _, rfl, ?_⟩⟩⟩
    have xB := ((s6.trans s7).trans s8).trans s9
    have sB := sA.trans xB
    have im : Is H9 ym (ofR ((5 * t + 3 * s) / 8)) := n5.is.up xB
    have iN : Is H9 yn (ofR ((3 * t + 5 * s) / 8)) := n9.is
    have zm : Sz 400 ((5 * t + 3 * s) / 8) := z5.2.2.more (by decide)
    have zn : Sz 400 ((3 * t + 5 * s) / 8) := z9.2.2.more (by decide)
    have qs := qs.up sB
    have qt := qt.up sB
    have lk : Lk H9 vs vt ym yn 28 400 s t ((5 * t + 3 * s) / 8) ((3 * t + 5 * s) / 8) := ⟨qs, qt, im.nz (by decide) zm, iN.nz (by decide) zn⟩
    have m0 : 0 < (5 * t + 3 * s) / 8 := by grind
    have n0 : 0 < (3 * t + 5 * s) / 8 := by grind
    have kb := kind_built s0 st
    obtain ⟨zl, el, hl⟩ := let_built fr
    clear n2 n3 n4 n5 n6 n7 n8 n9 z2 z3 z4 z5 z6 z7 z8 z9
    refine ⟨_, rfl, _, rfl, vs, vt, s, t, 28, rfl, qs, qt, s0, st, by decide, fun r10 H10 s10 n10 => ?_⟩
    refine ⟨_, rfl, _, rfl, rfl, rfl, vs, vt, s, t, 28, rfl, qs.up s10, qt.up s10, s0, st, by decide, fun r11 H11 s11 n11 => ⟨(by decide : 2 ≤ sizeLine), fun q12 hq12 => ?_⟩⟩
    have s12 : Same H11 (upd H11 q12 (.lst [r10, r11])) := Same.new hq12
    have i12 : Is (upd H11 q12 (.lst [r10, r11])) (.ref q12) (.lst [pt ((5 * t + 3 * s) / 8) ((3 * t + 5 * s) / 8), pt ((5 * t + 3 * s) / 8) ((3 * t + 5 * s) / 8)]) := .lst upd_same (.cons ((n10.is.up s11).up s12) (.cons (n11.is.up s12) .nil))
    generalize upd H11 q12 (.lst [r10, r11]) = H12 at s12 i12 ⊢
    have u12 := (s10.trans s11).trans s12
    have ok2 := two_okr (pt_pt (x := (5 * t + 3 * s) / 8) (y := (3 * t + 5 * s) / 8)) (zm.more (by decide)) (zn.more (by decide))
    refine ⟨.ref q12, _, rfl, i12, ok2, _, rfl, _, rfl, (by decide : 2 ≤ sizeLine), fun p13 hp13 => ?_⟩
    have s13 : Same H12 (upd H12 p13 (.tup [ym, yn])) := Same.new hp13
    have i13 : Is (upd H12 p13 (.tup [ym, yn])) (.ref p13) (pt ((5 * t + 3 * s) / 8) ((3 * t + 5 * s) / 8)) := .tup upd_same (.cons ((im.up u12).up s13) (.cons ((iN.up u12).up s13) .nil))
    generalize upd H12 p13 (.tup [ym, yn]) = H13 at s13 i13 ⊢
    refine ⟨(by decide : 1 ≤ sizeLine), fun q14 hq14 => ?_⟩
    have s14 : Same H13 (upd H13 q14 (.lst [.ref p13])) := Same.new hq14
    have e14 : (upd H13 q14 (.lst [.ref p13])) q14 = some (.lst [.ref p13]) := upd_same
    generalize upd H13 q14 (.lst [.ref p13]) = H14 at s14 e14 ⊢
    refine ⟨q14, 2, [.ref p13], rfl, rfl, e14, by decide, by decide, ?_, fun q15 hq15 => ?_⟩
    · show 1 * 2 ≤ sizeLine
      decide
    have s15 : Same H14 (upd H14 q15 (.lst (List.replicate (2 : Int).toNat [V.ref p13]).flatten)) := Same.new hq15
    have i15 : Is (upd H14 q15 (.lst (List.replicate (2 : Int).toNat [V.ref p13]).flatten)) (.ref q15) (.lst [pt ((5 * t + 3 * s) / 8) ((3 * t + 5 * s) / 8), pt ((5 * t + 3 * s) / 8) ((3 * t + 5 * s) / 8)]) := .lst upd_same (.cons ((i13.up s14).up s15) (.cons ((i13.up s14).up s15) .nil))
    generalize upd H14 q15 (.lst (List.replicate (2 : Int).toNat [V.ref p13]).flatten) = H15 at s15 i15 ⊢
    refine ⟨.ref q15, _, rfl, i15, ok2, rfl, _, rfl, iteE (fun z => absurd rfl z) fun _ => ?_⟩
    have u15 := ((u12.trans s13).trans s14).trans s15
    refine ⟨_, rfl, _, rfl, _, rfl, _, rfl, vs, vt, ym, yn, s, t, _, _, 28, 400, rfl, lk.up u15, by decide, s0, st, m0, n0, fun H16 s16 => ?_⟩
    rw [kb]
    refine ⟨rfl, _, rfl, iteE (fun z => absurd rfl z) fun _ => ?_⟩
    have u16 := u15.trans s16
    have t16 := sB.trans u16
    refine ⟨_, rfl, _, rfl, _, rfl, _, rfl, _, rfl, _, rfl, _, rfl, vs, vt, ym, yn, vo, va, vb, s, t, _, _, o, p, a, b, c, e, rfl, lk.up u16, po.up t16, pa.up t16, pb.up t16, fr, m0, n0, fun r17 H17 s17 i17 => ?_⟩
    rw [el] at i17
    have t17 := t16.trans s17
    refine ⟨_, rfl, _, rfl, _, rfl, vo, va, vb, o, p, a, b, c, e, 28, rfl, po.up t17, pa.up t17, pb.up t17, fr.apart, by decide, fun sm H18 s18 n18 => ?_⟩
    have i18 := n18.is
    cases i18 with
    | @lst qq ws _ hq hx8 =>
    obtain ⟨wl, hwl, iwl⟩ := hl hx8
    refine ⟨_, rfl, qq, ws, _, wl, rfl, rfl, .inl (.inl hq), hwl, (by decide : 1 ≤ sizeLine), fun q19 hq19 => ?_⟩
    have s19 : Same H18 (upd H18 q19 (.tup [wl])) := Same.new hq19
    have i19 : Is (upd H18 q19 (.tup [wl])) (.ref q19) (.tup [ptP zl]) := .tup upd_same (.cons (iwl.up s19) .nil)
    obtain ⟨a1, a2⟩ := plain_pt (x := zl.1) (y := zl.2)
    obtain ⟨d1, d2, g1, g2, g3, g4, ge⟩ := eq_same (K := K) ((i17.up s18).up s19) i19 (by show (plain (pt zl.1 zl.2) && true) = true; rw [a1]; rfl) (by show max (dp (pt zl.1 zl.2)) 0 + 1 ≤ 60; omega)
    refine ⟨d1, d2, g1, g2, g3, g4, ?_⟩
    rw [ge]
    exact fin _ _ ((t17.trans s18).trans s19) rfl
end
end Ty

namespace Ty
open PySem PySem.Spec PyProof.Rows L2
section
variable {P : Program} {w : World} {K : PySem.W.Frag} {mg : Str → Option Value} {base : Heap}
theorem ok_law (T : Txt K mg) : FnG P w K mg base CX0 12 T.a_law T.d_law ["script"] (spLaw K) := by
  have G_law_latch := ok_law_latch (P := P) (w := w) (base := base) T
  have G_law_lock_right := ok_law_lock_right (P := P) (w := w) (base := base) T
  have G_law_own_right := ok_law_own_right (P := P) (w := w) (base := base) T
  refine Ty.Fun.okG T.F_law sc_law (fun vs H Q E h => ?_) (fun cdv A outer s H vs Q E hgd hr h => ?_)
  · obtain ⟨a, ns, rfl, _⟩ := h
    rfl
  · obtain ⟨a, ns, rfl, hsq, hlen, k⟩ := h
    refine ⟨_, (pss_cons (ps_set (i := 1) sc_law.nd rfl (Or.inl rfl) (pe_call G_law_latch (hr.mono (by decide)) (by rfl) T.m_law_latch T.F_law_latch.kp (b_law_latch T) .nil pass0 (pa_cons (pv 0) pa_nil)))
      (pss_cons (ps_for PassesOwn.never rfl (pi_range1 (by rfl) T.z_range (pa_cons pe_int pa_nil)) (pg_name (i := 2) sc_law.nd rfl (Or.inl rfl)) (pss_one (ps_if (PW.pt (pw_or (pt_not (pt_val (pe_callG hgd G_law_lock_right (hr.mono (by decide)) (by rfl) T.m_law_lock_right T.F_law_lock_right.kp (b_law_lock_right T) .nil pass0 (pa_cons (pv 1) pa_nil)))) (pw_or1 (pt_not (pt_val (pe_callG hgd G_law_own_right (hr.mono (by decide)) (by rfl) T.m_law_own_right T.F_law_own_right.kp (b_law_own_right T) .nil pass0 (pa_cons (pv 1) pa_nil))))))) (pss_one (ps_ret pe_bl)) pss_nil)))
      (pss_one (ps_ret pe_bl)))), ?_⟩
    refine ⟨_, rfl, a, ns, rfl, hsq, by omega, fun j bk H1 s1 hj hb J1 => ?_⟩
    have hS : only j j = true := only_self
    refine ⟨3, rfl, by decide, by decide, for_range (n := 3) (fun i σ H' => Jar j bk H' (63 * i) ∧ ∃ s2 : Option V, σ = [some (.ref a), some (.ref j), s2]) ⟨J1, none, rfl⟩ ?_ ?_⟩
    · rintro i σ H2 hi ⟨J2, s2, rfl⟩
      refine ⟨_, rfl, only j, j, bk, 63 * i, rfl, hS, only_live J2, J2, by omega, fun H3 k3 l3 J3 => ⟨_, rfl, iteN (fun z => nomatch z) fun _ => ?_⟩⟩
      refine ⟨_, rfl, only j, j, bk, 63 * i + 46, rfl, hS, l3, J3, by omega, fun H4 k4 l4 J4 => ⟨_, rfl, iteN (fun z => nomatch z) fun _ => ?_⟩⟩
      exact ⟨J4.le (by omega), _, rfl⟩
    · rintro σ H2 ⟨J2, s2, rfl⟩
      exact k H2
end
end Ty

namespace Ty
open PySem PySem.Spec PyProof.Rows L2
/-! what the top has written, and the end -/
theorem all_mk {l : PySem.W.OpenLaw} {w : World} {K : PySem.W.Frag} {h : Heap} {mg : Str → Option Value} {fa : Addr} (X : K.In h) (G : h.Ns mainGlobals mg) (hfa : mg "law" = some (.ref fa))
  {a_is_list : Addr} {oc_is_list kV_is_list dc_is_list pm_is_list cd_is_list ct_is_list : Value} {od_is_list an_is_list : Option Addr} {sl_is_list : Array (Option Value)}
  {a_is_integer : Addr} {oc_is_integer kV_is_integer dc_is_integer pm_is_integer cd_is_integer ct_is_integer : Value} {od_is_integer an_is_integer : Option Addr} {sl_is_integer : Array (Option Value)}
  {a_is_within : Addr} {oc_is_within kV_is_within dc_is_within pm_is_within cd_is_within ct_is_within : Value} {od_is_within an_is_within : Option Addr} {sl_is_within : Array (Option Value)}
  {a_is_number : Addr} {oc_is_number kV_is_number dc_is_number pm_is_number cd_is_number ct_is_number : Value} {od_is_number an_is_number : Option Addr} {sl_is_number : Array (Option Value)}
  {a_is_point : Addr} {oc_is_point kV_is_point dc_is_point pm_is_point cd_is_point ct_is_point : Value} {od_is_point an_is_point : Option Addr} {sl_is_point : Array (Option Value)}
  {a_parts_of : Addr} {oc_parts_of kV_parts_of dc_parts_of pm_parts_of cd_parts_of ct_parts_of : Value} {od_parts_of an_parts_of : Option Addr} {sl_parts_of : Array (Option Value)}
  {a_number_of : Addr} {oc_number_of kV_number_of dc_number_of pm_number_of cd_number_of ct_number_of : Value} {od_number_of an_number_of : Option Addr} {sl_number_of : Array (Option Value)}
  {a_sum_of : Addr} {oc_sum_of kV_sum_of dc_sum_of pm_sum_of cd_sum_of ct_sum_of : Value} {od_sum_of an_sum_of : Option Addr} {sl_sum_of : Array (Option Value)}
  {a_negative_of : Addr} {oc_negative_of kV_negative_of dc_negative_of pm_negative_of cd_negative_of ct_negative_of : Value} {od_negative_of an_negative_of : Option Addr} {sl_negative_of : Array (Option Value)}
  {a_difference_of : Addr} {oc_difference_of kV_difference_of dc_difference_of pm_difference_of cd_difference_of ct_difference_of : Value} {od_difference_of an_difference_of : Option Addr} {sl_difference_of : Array (Option Value)}
  {a_product_of : Addr} {oc_product_of kV_product_of dc_product_of pm_product_of cd_product_of ct_product_of : Value} {od_product_of an_product_of : Option Addr} {sl_product_of : Array (Option Value)}
  {a_quotient_of : Addr} {oc_quotient_of kV_quotient_of dc_quotient_of pm_quotient_of cd_quotient_of ct_quotient_of : Value} {od_quotient_of an_quotient_of : Option Addr} {sl_quotient_of : Array (Option Value)}
  {a_sign_in : Addr} {oc_sign_in kV_sign_in dc_sign_in pm_sign_in cd_sign_in ct_sign_in : Value} {od_sign_in an_sign_in : Option Addr} {sl_sign_in : Array (Option Value)}
  {a_is_less : Addr} {oc_is_less kV_is_less dc_is_less pm_is_less cd_is_less ct_is_less : Value} {od_is_less an_is_less : Option Addr} {sl_is_less : Array (Option Value)}
  {a_need_above_nothing : Addr} {oc_need_above_nothing kV_need_above_nothing dc_need_above_nothing pm_need_above_nothing cd_need_above_nothing ct_need_above_nothing : Value} {od_need_above_nothing an_need_above_nothing : Option Addr} {sl_need_above_nothing : Array (Option Value)}
  {a_need_point : Addr} {oc_need_point kV_need_point dc_need_point pm_need_point cd_need_point ct_need_point : Value} {od_need_point an_need_point : Option Addr} {sl_need_point : Array (Option Value)}
  {a_fixed : Addr} {oc_fixed kV_fixed dc_fixed pm_fixed cd_fixed ct_fixed : Value} {od_fixed an_fixed : Option Addr} {sl_fixed : Array (Option Value)}
  {a_point_sum : Addr} {oc_point_sum kV_point_sum dc_point_sum pm_point_sum cd_point_sum ct_point_sum : Value} {od_point_sum an_point_sum : Option Addr} {sl_point_sum : Array (Option Value)}
  {a_way_from : Addr} {oc_way_from kV_way_from dc_way_from pm_way_from cd_way_from ct_way_from : Value} {od_way_from an_way_from : Option Addr} {sl_way_from : Array (Option Value)}
  {a_point_times : Addr} {oc_point_times kV_point_times dc_point_times pm_point_times cd_point_times ct_point_times : Value} {od_point_times an_point_times : Option Addr} {sl_point_times : Array (Option Value)}
  {a_gone_on : Addr} {oc_gone_on kV_gone_on dc_gone_on pm_gone_on cd_gone_on ct_gone_on : Value} {od_gone_on an_gone_on : Option Addr} {sl_gone_on : Array (Option Value)}
  {a_halfway : Addr} {oc_halfway kV_halfway dc_halfway pm_halfway cd_halfway ct_halfway : Value} {od_halfway an_halfway : Option Addr} {sl_halfway : Array (Option Value)}
  {a_leftward : Addr} {oc_leftward kV_leftward dc_leftward pm_leftward cd_leftward ct_leftward : Value} {od_leftward an_leftward : Option Addr} {sl_leftward : Array (Option Value)}
  {a_dot : Addr} {oc_dot kV_dot dc_dot pm_dot cd_dot ct_dot : Value} {od_dot an_dot : Option Addr} {sl_dot : Array (Option Value)}
  {a_square_off : Addr} {oc_square_off kV_square_off dc_square_off pm_square_off cd_square_off ct_square_off : Value} {od_square_off an_square_off : Option Addr} {sl_square_off : Array (Option Value)}
  {a_mirrored : Addr} {oc_mirrored kV_mirrored dc_mirrored pm_mirrored cd_mirrored ct_mirrored : Value} {od_mirrored an_mirrored : Option Addr} {sl_mirrored : Array (Option Value)}
  {a_corners : Addr} {oc_corners kV_corners dc_corners pm_corners cd_corners ct_corners : Value} {od_corners an_corners : Option Addr} {sl_corners : Array (Option Value)}
  {a_is_flat : Addr} {oc_is_flat kV_is_flat dc_is_flat pm_is_flat cd_is_flat ct_is_flat : Value} {od_is_flat an_is_flat : Option Addr} {sl_is_flat : Array (Option Value)}
  {a_midpoints : Addr} {oc_midpoints kV_midpoints dc_midpoints pm_midpoints cd_midpoints ct_midpoints : Value} {od_midpoints an_midpoints : Option Addr} {sl_midpoints : Array (Option Value)}
  {a_spread : Addr} {oc_spread kV_spread dc_spread pm_spread cd_spread ct_spread : Value} {od_spread an_spread : Option Addr} {sl_spread : Array (Option Value)}
  {a_need_four : Addr} {oc_need_four kV_need_four dc_need_four pm_need_four cd_need_four ct_need_four : Value} {od_need_four an_need_four : Option Addr} {sl_need_four : Array (Option Value)}
  {a_parallel_corner : Addr} {oc_parallel_corner kV_parallel_corner dc_parallel_corner pm_parallel_corner cd_parallel_corner ct_parallel_corner : Value} {od_parallel_corner an_parallel_corner : Option Addr} {sl_parallel_corner : Array (Option Value)}
  {a_lock_for : Addr} {oc_lock_for kV_lock_for dc_lock_for pm_lock_for cd_lock_for ct_lock_for : Value} {od_lock_for an_lock_for : Option Addr} {sl_lock_for : Array (Option Value)}
  {a_lock_kind : Addr} {oc_lock_kind kV_lock_kind dc_lock_kind pm_lock_kind cd_lock_kind ct_lock_kind : Value} {od_lock_kind an_lock_kind : Option Addr} {sl_lock_kind : Array (Option Value)}
  {a_locked_corners : Addr} {oc_locked_corners kV_locked_corners dc_locked_corners pm_locked_corners cd_locked_corners ct_locked_corners : Value} {od_locked_corners an_locked_corners : Option Addr} {sl_locked_corners : Array (Option Value)}
  {a_need_lengths : Addr} {oc_need_lengths kV_need_lengths dc_need_lengths pm_need_lengths cd_need_lengths ct_need_lengths : Value} {od_need_lengths an_need_lengths : Option Addr} {sl_need_lengths : Array (Option Value)}
  {a_need_less : Addr} {oc_need_less kV_need_less dc_need_less pm_need_less cd_need_less ct_need_less : Value} {od_need_less an_need_less : Option Addr} {sl_need_less : Array (Option Value)}
  {a_apart : Addr} {oc_apart kV_apart dc_apart pm_apart cd_apart ct_apart : Value} {od_apart an_apart : Option Addr} {sl_apart : Array (Option Value)}
  {a_is_crossed_lock : Addr} {oc_is_crossed_lock kV_is_crossed_lock dc_is_crossed_lock pm_is_crossed_lock cd_is_crossed_lock ct_is_crossed_lock : Value} {od_is_crossed_lock an_is_crossed_lock : Option Addr} {sl_is_crossed_lock : Array (Option Value)}
  {a_has_room : Addr} {oc_has_room kV_has_room dc_has_room pm_has_room cd_has_room ct_has_room : Value} {od_has_room an_has_room : Option Addr} {sl_has_room : Array (Option Value)}
  {a_law_latch : Addr} {oc_law_latch kV_law_latch dc_law_latch pm_law_latch cd_law_latch ct_law_latch : Value} {od_law_latch an_law_latch : Option Addr} {sl_law_latch : Array (Option Value)}
  {a_law_click : Addr} {oc_law_click kV_law_click dc_law_click pm_law_click cd_law_click ct_law_click : Value} {od_law_click an_law_click : Option Addr} {sl_law_click : Array (Option Value)}
  {a_law_pick : Addr} {oc_law_pick kV_law_pick dc_law_pick pm_law_pick cd_law_pick ct_law_pick : Value} {od_law_pick an_law_pick : Option Addr} {sl_law_pick : Array (Option Value)}
  {a_law_form : Addr} {oc_law_form kV_law_form dc_law_form pm_law_form cd_law_form ct_law_form : Value} {od_law_form an_law_form : Option Addr} {sl_law_form : Array (Option Value)}
  {a_law_halves : Addr} {oc_law_halves kV_law_halves dc_law_halves pm_law_halves cd_law_halves ct_law_halves : Value} {od_law_halves an_law_halves : Option Addr} {sl_law_halves : Array (Option Value)}
  {a_law_add : Addr} {oc_law_add kV_law_add dc_law_add pm_law_add cd_law_add ct_law_add : Value} {od_law_add an_law_add : Option Addr} {sl_law_add : Array (Option Value)}
  {a_law_less : Addr} {oc_law_less kV_law_less dc_law_less pm_law_less cd_law_less ct_law_less : Value} {od_law_less an_law_less : Option Addr} {sl_law_less : Array (Option Value)}
  {a_law_mul : Addr} {oc_law_mul kV_law_mul dc_law_mul pm_law_mul cd_law_mul ct_law_mul : Value} {od_law_mul an_law_mul : Option Addr} {sl_law_mul : Array (Option Value)}
  {a_law_part : Addr} {oc_law_part kV_law_part dc_law_part pm_law_part cd_law_part ct_law_part : Value} {od_law_part an_law_part : Option Addr} {sl_law_part : Array (Option Value)}
  {a_law_under : Addr} {oc_law_under kV_law_under dc_law_under pm_law_under cd_law_under ct_law_under : Value} {od_law_under an_law_under : Option Addr} {sl_law_under : Array (Option Value)}
  {a_law_row : Addr} {oc_law_row kV_law_row dc_law_row pm_law_row cd_law_row ct_law_row : Value} {od_law_row an_law_row : Option Addr} {sl_law_row : Array (Option Value)}
  {a_law_gone : Addr} {oc_law_gone kV_law_gone dc_law_gone pm_law_gone cd_law_gone ct_law_gone : Value} {od_law_gone an_law_gone : Option Addr} {sl_law_gone : Array (Option Value)}
  {a_law_dot : Addr} {oc_law_dot kV_law_dot dc_law_dot pm_law_dot cd_law_dot ct_law_dot : Value} {od_law_dot an_law_dot : Option Addr} {sl_law_dot : Array (Option Value)}
  {a_law_cross : Addr} {oc_law_cross kV_law_cross dc_law_cross pm_law_cross cd_law_cross ct_law_cross : Value} {od_law_cross an_law_cross : Option Addr} {sl_law_cross : Array (Option Value)}
  {a_law_far : Addr} {oc_law_far kV_law_far dc_law_far pm_law_far cd_law_far ct_law_far : Value} {od_law_far an_law_far : Option Addr} {sl_law_far : Array (Option Value)}
  {a_law_number : Addr} {oc_law_number kV_law_number dc_law_number pm_law_number cd_law_number ct_law_number : Value} {od_law_number an_law_number : Option Addr} {sl_law_number : Array (Option Value)}
  {a_law_turn : Addr} {oc_law_turn kV_law_turn dc_law_turn pm_law_turn cd_law_turn ct_law_turn : Value} {od_law_turn an_law_turn : Option Addr} {sl_law_turn : Array (Option Value)}
  {a_law_point : Addr} {oc_law_point kV_law_point dc_law_point pm_law_point cd_law_point ct_law_point : Value} {od_law_point an_law_point : Option Addr} {sl_law_point : Array (Option Value)}
  {a_law_opening : Addr} {oc_law_opening kV_law_opening dc_law_opening pm_law_opening cd_law_opening ct_law_opening : Value} {od_law_opening an_law_opening : Option Addr} {sl_law_opening : Array (Option Value)}
  {a_law_parallel : Addr} {oc_law_parallel kV_law_parallel dc_law_parallel pm_law_parallel cd_law_parallel ct_law_parallel : Value} {od_law_parallel an_law_parallel : Option Addr} {sl_law_parallel : Array (Option Value)}
  {a_law_mirrored : Addr} {oc_law_mirrored kV_law_mirrored dc_law_mirrored pm_law_mirrored cd_law_mirrored ct_law_mirrored : Value} {od_law_mirrored an_law_mirrored : Option Addr} {sl_law_mirrored : Array (Option Value)}
  {a_law_corners : Addr} {oc_law_corners kV_law_corners dc_law_corners pm_law_corners cd_law_corners ct_law_corners : Value} {od_law_corners an_law_corners : Option Addr} {sl_law_corners : Array (Option Value)}
  {a_law_half : Addr} {oc_law_half kV_law_half dc_law_half pm_law_half cd_law_half ct_law_half : Value} {od_law_half an_law_half : Option Addr} {sl_law_half : Array (Option Value)}
  {a_law_has_room : Addr} {oc_law_has_room kV_law_has_room dc_law_has_room pm_law_has_room cd_law_has_room ct_law_has_room : Value} {od_law_has_room an_law_has_room : Option Addr} {sl_law_has_room : Array (Option Value)}
  {a_law_lock : Addr} {oc_law_lock kV_law_lock dc_law_lock pm_law_lock cd_law_lock ct_law_lock : Value} {od_law_lock an_law_lock : Option Addr} {sl_law_lock : Array (Option Value)}
  {a_law_goes_with : Addr} {oc_law_goes_with kV_law_goes_with dc_law_goes_with pm_law_goes_with cd_law_goes_with ct_law_goes_with : Value} {od_law_goes_with an_law_goes_with : Option Addr} {sl_law_goes_with : Array (Option Value)}
  {a_law_lock_right : Addr} {oc_law_lock_right kV_law_lock_right dc_law_lock_right pm_law_lock_right cd_law_lock_right ct_law_lock_right : Value} {od_law_lock_right an_law_lock_right : Option Addr} {sl_law_lock_right : Array (Option Value)}
  {a_law_own_right : Addr} {oc_law_own_right kV_law_own_right dc_law_own_right pm_law_own_right cd_law_own_right ct_law_own_right : Value} {od_law_own_right an_law_own_right : Option Addr} {sl_law_own_right : Array (Option Value)}
  {a_law : Addr} {oc_law kV_law dc_law pm_law cd_law ct_law : Value} {od_law an_law : Option Addr} {sl_law : Array (Option Value)}
  {a_EIGHTH : Addr} {od_EIGHTH : Option Addr} {ta_EIGHTH tb_EIGHTH : Tok} {nn_EIGHTH : Nat} {sl_EIGHTH : Array (Option Value)}
  {a_HALF : Addr} {od_HALF : Option Addr} {ta_HALF tb_HALF : Tok} {nn_HALF : Nat} {sl_HALF : Array (Option Value)}
  {a_QUARTER : Addr} {od_QUARTER : Option Addr} {ta_QUARTER tb_QUARTER : Tok} {nn_QUARTER : Nat} {sl_QUARTER : Array (Option Value)}
  {c_BadNumber : Addr}
  {c_BadPoint : Addr}
  {c_Misfit : Addr}
  {nm_BadNumber qn_BadNumber : Str} {NS_BadNumber i_BadNumber : Addr} {bs_BadNumber bm_BadNumber sb_BadNumber : List Value} {sn_BadNumber : List Str} {ab_BadNumber : Bool} {col_BadNumber : Option Bool} {dd_BadNumber : Option Addr} {k0_BadNumber k1_BadNumber k2_BadNumber k3_BadNumber k5_BadNumber : Option Value} {oc_iBadNumber kV_iBadNumber dc_iBadNumber pm_iBadNumber cd_iBadNumber ct_iBadNumber : Value} {od_iBadNumber an_iBadNumber : Option Addr} {sl_iBadNumber : Array (Option Value)}
  {nm_BadPoint qn_BadPoint : Str} {NS_BadPoint i_BadPoint : Addr} {bs_BadPoint bm_BadPoint sb_BadPoint : List Value} {sn_BadPoint : List Str} {ab_BadPoint : Bool} {col_BadPoint : Option Bool} {dd_BadPoint : Option Addr} {k0_BadPoint k1_BadPoint k2_BadPoint k3_BadPoint k5_BadPoint : Option Value} {oc_iBadPoint kV_iBadPoint dc_iBadPoint pm_iBadPoint cd_iBadPoint ct_iBadPoint : Value} {od_iBadPoint an_iBadPoint : Option Addr} {sl_iBadPoint : Array (Option Value)}
  {nm_Misfit qn_Misfit : Str} {NS_Misfit i_Misfit : Addr} {bs_Misfit bm_Misfit sb_Misfit : List Value} {sn_Misfit : List Str} {ab_Misfit : Bool} {col_Misfit : Option Bool} {dd_Misfit : Option Addr} {k0_Misfit k1_Misfit k2_Misfit k3_Misfit k5_Misfit : Option Value} {oc_iMisfit kV_iMisfit dc_iMisfit pm_iMisfit cd_iMisfit ct_iMisfit : Value} {od_iMisfit an_iMisfit : Option Addr} {sl_iMisfit : Array (Option Value)}
  (n_is_list : PySem.W.nsIn K mainGlobals "is_list" = some (some (.ref a_is_list)))
  (l_is_list : K.lookup a_is_list = some ⟨oc_is_list, od_is_list, .func (PySem.W.fnOf "is_list" "is_list" (defArgs s_is_list) (defBody s_is_list) (defScope s_is_list) .none kV_is_list dc_is_list pm_is_list an_is_list cd_is_list ct_is_list), sl_is_list⟩)
  (c_is_list : PySem.W.codeIn K cd_is_list "is_list" = true)
  (k_is_list : PySem.W.keepIn K (.ref a_is_list) = true)
  (n_is_integer : PySem.W.nsIn K mainGlobals "is_integer" = some (some (.ref a_is_integer)))
  (l_is_integer : K.lookup a_is_integer = some ⟨oc_is_integer, od_is_integer, .func (PySem.W.fnOf "is_integer" "is_integer" (defArgs s_is_integer) (defBody s_is_integer) (defScope s_is_integer) .none kV_is_integer dc_is_integer pm_is_integer an_is_integer cd_is_integer ct_is_integer), sl_is_integer⟩)
  (c_is_integer : PySem.W.codeIn K cd_is_integer "is_integer" = true)
  (k_is_integer : PySem.W.keepIn K (.ref a_is_integer) = true)
  (n_is_within : PySem.W.nsIn K mainGlobals "is_within" = some (some (.ref a_is_within)))
  (l_is_within : K.lookup a_is_within = some ⟨oc_is_within, od_is_within, .func (PySem.W.fnOf "is_within" "is_within" (defArgs s_is_within) (defBody s_is_within) (defScope s_is_within) .none kV_is_within dc_is_within pm_is_within an_is_within cd_is_within ct_is_within), sl_is_within⟩)
  (c_is_within : PySem.W.codeIn K cd_is_within "is_within" = true)
  (k_is_within : PySem.W.keepIn K (.ref a_is_within) = true)
  (n_is_number : PySem.W.nsIn K mainGlobals "is_number" = some (some (.ref a_is_number)))
  (l_is_number : K.lookup a_is_number = some ⟨oc_is_number, od_is_number, .func (PySem.W.fnOf "is_number" "is_number" (defArgs s_is_number) (defBody s_is_number) (defScope s_is_number) .none kV_is_number dc_is_number pm_is_number an_is_number cd_is_number ct_is_number), sl_is_number⟩)
  (c_is_number : PySem.W.codeIn K cd_is_number "is_number" = true)
  (k_is_number : PySem.W.keepIn K (.ref a_is_number) = true)
  (n_is_point : PySem.W.nsIn K mainGlobals "is_point" = some (some (.ref a_is_point)))
  (l_is_point : K.lookup a_is_point = some ⟨oc_is_point, od_is_point, .func (PySem.W.fnOf "is_point" "is_point" (defArgs s_is_point) (defBody s_is_point) (defScope s_is_point) .none kV_is_point dc_is_point pm_is_point an_is_point cd_is_point ct_is_point), sl_is_point⟩)
  (c_is_point : PySem.W.codeIn K cd_is_point "is_point" = true)
  (k_is_point : PySem.W.keepIn K (.ref a_is_point) = true)
  (n_parts_of : PySem.W.nsIn K mainGlobals "parts_of" = some (some (.ref a_parts_of)))
  (l_parts_of : K.lookup a_parts_of = some ⟨oc_parts_of, od_parts_of, .func (PySem.W.fnOf "parts_of" "parts_of" (defArgs s_parts_of) (defBody s_parts_of) (defScope s_parts_of) .none kV_parts_of dc_parts_of pm_parts_of an_parts_of cd_parts_of ct_parts_of), sl_parts_of⟩)
  (c_parts_of : PySem.W.codeIn K cd_parts_of "parts_of" = true)
  (k_parts_of : PySem.W.keepIn K (.ref a_parts_of) = true)
  (n_number_of : PySem.W.nsIn K mainGlobals "number_of" = some (some (.ref a_number_of)))
  (l_number_of : K.lookup a_number_of = some ⟨oc_number_of, od_number_of, .func (PySem.W.fnOf "number_of" "number_of" (defArgs s_number_of) (defBody s_number_of) (defScope s_number_of) .none kV_number_of dc_number_of pm_number_of an_number_of cd_number_of ct_number_of), sl_number_of⟩)
  (c_number_of : PySem.W.codeIn K cd_number_of "number_of" = true)
  (k_number_of : PySem.W.keepIn K (.ref a_number_of) = true)
  (n_sum_of : PySem.W.nsIn K mainGlobals "sum_of" = some (some (.ref a_sum_of)))
  (l_sum_of : K.lookup a_sum_of = some ⟨oc_sum_of, od_sum_of, .func (PySem.W.fnOf "sum_of" "sum_of" (defArgs s_sum_of) (defBody s_sum_of) (defScope s_sum_of) .none kV_sum_of dc_sum_of pm_sum_of an_sum_of cd_sum_of ct_sum_of), sl_sum_of⟩)
  (c_sum_of : PySem.W.codeIn K cd_sum_of "sum_of" = true)
  (k_sum_of : PySem.W.keepIn K (.ref a_sum_of) = true)
  (n_negative_of : PySem.W.nsIn K mainGlobals "negative_of" = some (some (.ref a_negative_of)))
  (l_negative_of : K.lookup a_negative_of = some ⟨oc_negative_of, od_negative_of, .func (PySem.W.fnOf "negative_of" "negative_of" (defArgs s_negative_of) (defBody s_negative_of) (defScope s_negative_of) .none kV_negative_of dc_negative_of pm_negative_of an_negative_of cd_negative_of ct_negative_of), sl_negative_of⟩)
  (c_negative_of : PySem.W.codeIn K cd_negative_of "negative_of" = true)
  (k_negative_of : PySem.W.keepIn K (.ref a_negative_of) = true)
  (n_difference_of : PySem.W.nsIn K mainGlobals "difference_of" = some (some (.ref a_difference_of)))
  (l_difference_of : K.lookup a_difference_of = some ⟨oc_difference_of, od_difference_of, .func (PySem.W.fnOf "difference_of" "difference_of" (defArgs s_difference_of) (defBody s_difference_of) (defScope s_difference_of) .none kV_difference_of dc_difference_of pm_difference_of an_difference_of cd_difference_of ct_difference_of), sl_difference_of⟩)
  (c_difference_of : PySem.W.codeIn K cd_difference_of "difference_of" = true)
  (k_difference_of : PySem.W.keepIn K (.ref a_difference_of) = true)
  (n_product_of : PySem.W.nsIn K mainGlobals "product_of" = some (some (.ref a_product_of)))
  (l_product_of : K.lookup a_product_of = some ⟨oc_product_of, od_product_of, .func (PySem.W.fnOf "product_of" "product_of" (defArgs s_product_of) (defBody s_product_of) (defScope s_product_of) .none kV_product_of dc_product_of pm_product_of an_product_of cd_product_of ct_product_of), sl_product_of⟩)
  (c_product_of : PySem.W.codeIn K cd_product_of "product_of" = true)
  (k_product_of : PySem.W.keepIn K (.ref a_product_of) = true)
  (n_quotient_of : PySem.W.nsIn K mainGlobals "quotient_of" = some (some (.ref a_quotient_of)))
  (l_quotient_of : K.lookup a_quotient_of = some ⟨oc_quotient_of, od_quotient_of, .func (PySem.W.fnOf "quotient_of" "quotient_of" (defArgs s_quotient_of) (defBody s_quotient_of) (defScope s_quotient_of) .none kV_quotient_of dc_quotient_of pm_quotient_of an_quotient_of cd_quotient_of ct_quotient_of), sl_quotient_of⟩)
  (c_quotient_of : PySem.W.codeIn K cd_quotient_of "quotient_of" = true)
  (k_quotient_of : PySem.W.keepIn K (.ref a_quotient_of) = true)
  (n_sign_in : PySem.W.nsIn K mainGlobals "sign_in" = some (some (.ref a_sign_in)))
  (l_sign_in : K.lookup a_sign_in = some ⟨oc_sign_in, od_sign_in, .func (PySem.W.fnOf "sign_in" "sign_in" (defArgs s_sign_in) (defBody s_sign_in) (defScope s_sign_in) .none kV_sign_in dc_sign_in pm_sign_in an_sign_in cd_sign_in ct_sign_in), sl_sign_in⟩)
  (c_sign_in : PySem.W.codeIn K cd_sign_in "sign_in" = true)
  (k_sign_in : PySem.W.keepIn K (.ref a_sign_in) = true)
  (n_is_less : PySem.W.nsIn K mainGlobals "is_less" = some (some (.ref a_is_less)))
  (l_is_less : K.lookup a_is_less = some ⟨oc_is_less, od_is_less, .func (PySem.W.fnOf "is_less" "is_less" (defArgs s_is_less) (defBody s_is_less) (defScope s_is_less) .none kV_is_less dc_is_less pm_is_less an_is_less cd_is_less ct_is_less), sl_is_less⟩)
  (c_is_less : PySem.W.codeIn K cd_is_less "is_less" = true)
  (k_is_less : PySem.W.keepIn K (.ref a_is_less) = true)
  (n_need_above_nothing : PySem.W.nsIn K mainGlobals "need_above_nothing" = some (some (.ref a_need_above_nothing)))
  (l_need_above_nothing : K.lookup a_need_above_nothing = some ⟨oc_need_above_nothing, od_need_above_nothing, .func (PySem.W.fnOf "need_above_nothing" "need_above_nothing" (defArgs s_need_above_nothing) (defBody s_need_above_nothing) (defScope s_need_above_nothing) .none kV_need_above_nothing dc_need_above_nothing pm_need_above_nothing an_need_above_nothing cd_need_above_nothing ct_need_above_nothing), sl_need_above_nothing⟩)
  (c_need_above_nothing : PySem.W.codeIn K cd_need_above_nothing "need_above_nothing" = true)
  (k_need_above_nothing : PySem.W.keepIn K (.ref a_need_above_nothing) = true)
  (n_need_point : PySem.W.nsIn K mainGlobals "need_point" = some (some (.ref a_need_point)))
  (l_need_point : K.lookup a_need_point = some ⟨oc_need_point, od_need_point, .func (PySem.W.fnOf "need_point" "need_point" (defArgs s_need_point) (defBody s_need_point) (defScope s_need_point) .none kV_need_point dc_need_point pm_need_point an_need_point cd_need_point ct_need_point), sl_need_point⟩)
  (c_need_point : PySem.W.codeIn K cd_need_point "need_point" = true)
  (k_need_point : PySem.W.keepIn K (.ref a_need_point) = true)
  (n_fixed : PySem.W.nsIn K mainGlobals "fixed" = some (some (.ref a_fixed)))
  (l_fixed : K.lookup a_fixed = some ⟨oc_fixed, od_fixed, .func (PySem.W.fnOf "fixed" "fixed" (defArgs s_fixed) (defBody s_fixed) (defScope s_fixed) .none kV_fixed dc_fixed pm_fixed an_fixed cd_fixed ct_fixed), sl_fixed⟩)
  (c_fixed : PySem.W.codeIn K cd_fixed "fixed" = true)
  (k_fixed : PySem.W.keepIn K (.ref a_fixed) = true)
  (n_point_sum : PySem.W.nsIn K mainGlobals "point_sum" = some (some (.ref a_point_sum)))
  (l_point_sum : K.lookup a_point_sum = some ⟨oc_point_sum, od_point_sum, .func (PySem.W.fnOf "point_sum" "point_sum" (defArgs s_point_sum) (defBody s_point_sum) (defScope s_point_sum) .none kV_point_sum dc_point_sum pm_point_sum an_point_sum cd_point_sum ct_point_sum), sl_point_sum⟩)
  (c_point_sum : PySem.W.codeIn K cd_point_sum "point_sum" = true)
  (k_point_sum : PySem.W.keepIn K (.ref a_point_sum) = true)
  (n_way_from : PySem.W.nsIn K mainGlobals "way_from" = some (some (.ref a_way_from)))
  (l_way_from : K.lookup a_way_from = some ⟨oc_way_from, od_way_from, .func (PySem.W.fnOf "way_from" "way_from" (defArgs s_way_from) (defBody s_way_from) (defScope s_way_from) .none kV_way_from dc_way_from pm_way_from an_way_from cd_way_from ct_way_from), sl_way_from⟩)
  (c_way_from : PySem.W.codeIn K cd_way_from "way_from" = true)
  (k_way_from : PySem.W.keepIn K (.ref a_way_from) = true)
  (n_point_times : PySem.W.nsIn K mainGlobals "point_times" = some (some (.ref a_point_times)))
  (l_point_times : K.lookup a_point_times = some ⟨oc_point_times, od_point_times, .func (PySem.W.fnOf "point_times" "point_times" (defArgs s_point_times) (defBody s_point_times) (defScope s_point_times) .none kV_point_times dc_point_times pm_point_times an_point_times cd_point_times ct_point_times), sl_point_times⟩)
  (c_point_times : PySem.W.codeIn K cd_point_times "point_times" = true)
  (k_point_times : PySem.W.keepIn K (.ref a_point_times) = true)
  (n_gone_on : PySem.W.nsIn K mainGlobals "gone_on" = some (some (.ref a_gone_on)))
  (l_gone_on : K.lookup a_gone_on = some ⟨oc_gone_on, od_gone_on, .func (PySem.W.fnOf "gone_on" "gone_on" (defArgs s_gone_on) (defBody s_gone_on) (defScope s_gone_on) .none kV_gone_on dc_gone_on pm_gone_on an_gone_on cd_gone_on ct_gone_on), sl_gone_on⟩)
  (c_gone_on : PySem.W.codeIn K cd_gone_on "gone_on" = true)
  (k_gone_on : PySem.W.keepIn K (.ref a_gone_on) = true)
  (n_halfway : PySem.W.nsIn K mainGlobals "halfway" = some (some (.ref a_halfway)))
  (l_halfway : K.lookup a_halfway = some ⟨oc_halfway, od_halfway, .func (PySem.W.fnOf "halfway" "halfway" (defArgs s_halfway) (defBody s_halfway) (defScope s_halfway) .none kV_halfway dc_halfway pm_halfway an_halfway cd_halfway ct_halfway), sl_halfway⟩)
  (c_halfway : PySem.W.codeIn K cd_halfway "halfway" = true)
  (k_halfway : PySem.W.keepIn K (.ref a_halfway) = true)
  (n_leftward : PySem.W.nsIn K mainGlobals "leftward" = some (some (.ref a_leftward)))
  (l_leftward : K.lookup a_leftward = some ⟨oc_leftward, od_leftward, .func (PySem.W.fnOf "leftward" "leftward" (defArgs s_leftward) (defBody s_leftward) (defScope s_leftward) .none kV_leftward dc_leftward pm_leftward an_leftward cd_leftward ct_leftward), sl_leftward⟩)
  (c_leftward : PySem.W.codeIn K cd_leftward "leftward" = true)
  (k_leftward : PySem.W.keepIn K (.ref a_leftward) = true)
  (n_dot : PySem.W.nsIn K mainGlobals "dot" = some (some (.ref a_dot)))
  (l_dot : K.lookup a_dot = some ⟨oc_dot, od_dot, .func (PySem.W.fnOf "dot" "dot" (defArgs s_dot) (defBody s_dot) (defScope s_dot) .none kV_dot dc_dot pm_dot an_dot cd_dot ct_dot), sl_dot⟩)
  (c_dot : PySem.W.codeIn K cd_dot "dot" = true)
  (k_dot : PySem.W.keepIn K (.ref a_dot) = true)
  (n_square_off : PySem.W.nsIn K mainGlobals "square_off" = some (some (.ref a_square_off)))
  (l_square_off : K.lookup a_square_off = some ⟨oc_square_off, od_square_off, .func (PySem.W.fnOf "square_off" "square_off" (defArgs s_square_off) (defBody s_square_off) (defScope s_square_off) .none kV_square_off dc_square_off pm_square_off an_square_off cd_square_off ct_square_off), sl_square_off⟩)
  (c_square_off : PySem.W.codeIn K cd_square_off "square_off" = true)
  (k_square_off : PySem.W.keepIn K (.ref a_square_off) = true)
  (n_mirrored : PySem.W.nsIn K mainGlobals "mirrored" = some (some (.ref a_mirrored)))
  (l_mirrored : K.lookup a_mirrored = some ⟨oc_mirrored, od_mirrored, .func (PySem.W.fnOf "mirrored" "mirrored" (defArgs s_mirrored) (defBody s_mirrored) (defScope s_mirrored) .none kV_mirrored dc_mirrored pm_mirrored an_mirrored cd_mirrored ct_mirrored), sl_mirrored⟩)
  (c_mirrored : PySem.W.codeIn K cd_mirrored "mirrored" = true)
  (k_mirrored : PySem.W.keepIn K (.ref a_mirrored) = true)
  (n_corners : PySem.W.nsIn K mainGlobals "corners" = some (some (.ref a_corners)))
  (l_corners : K.lookup a_corners = some ⟨oc_corners, od_corners, .func (PySem.W.fnOf "corners" "corners" (defArgs s_corners) (defBody s_corners) (defScope s_corners) .none kV_corners dc_corners pm_corners an_corners cd_corners ct_corners), sl_corners⟩)
  (c_corners : PySem.W.codeIn K cd_corners "corners" = true)
  (k_corners : PySem.W.keepIn K (.ref a_corners) = true)
  (n_is_flat : PySem.W.nsIn K mainGlobals "is_flat" = some (some (.ref a_is_flat)))
  (l_is_flat : K.lookup a_is_flat = some ⟨oc_is_flat, od_is_flat, .func (PySem.W.fnOf "is_flat" "is_flat" (defArgs s_is_flat) (defBody s_is_flat) (defScope s_is_flat) .none kV_is_flat dc_is_flat pm_is_flat an_is_flat cd_is_flat ct_is_flat), sl_is_flat⟩)
  (c_is_flat : PySem.W.codeIn K cd_is_flat "is_flat" = true)
  (k_is_flat : PySem.W.keepIn K (.ref a_is_flat) = true)
  (n_midpoints : PySem.W.nsIn K mainGlobals "midpoints" = some (some (.ref a_midpoints)))
  (l_midpoints : K.lookup a_midpoints = some ⟨oc_midpoints, od_midpoints, .func (PySem.W.fnOf "midpoints" "midpoints" (defArgs s_midpoints) (defBody s_midpoints) (defScope s_midpoints) .none kV_midpoints dc_midpoints pm_midpoints an_midpoints cd_midpoints ct_midpoints), sl_midpoints⟩)
  (c_midpoints : PySem.W.codeIn K cd_midpoints "midpoints" = true)
  (k_midpoints : PySem.W.keepIn K (.ref a_midpoints) = true)
  (n_spread : PySem.W.nsIn K mainGlobals "spread" = some (some (.ref a_spread)))
  (l_spread : K.lookup a_spread = some ⟨oc_spread, od_spread, .func (PySem.W.fnOf "spread" "spread" (defArgs s_spread) (defBody s_spread) (defScope s_spread) .none kV_spread dc_spread pm_spread an_spread cd_spread ct_spread), sl_spread⟩)
  (c_spread : PySem.W.codeIn K cd_spread "spread" = true)
  (k_spread : PySem.W.keepIn K (.ref a_spread) = true)
  (n_need_four : PySem.W.nsIn K mainGlobals "need_four" = some (some (.ref a_need_four)))
  (l_need_four : K.lookup a_need_four = some ⟨oc_need_four, od_need_four, .func (PySem.W.fnOf "need_four" "need_four" (defArgs s_need_four) (defBody s_need_four) (defScope s_need_four) .none kV_need_four dc_need_four pm_need_four an_need_four cd_need_four ct_need_four), sl_need_four⟩)
  (c_need_four : PySem.W.codeIn K cd_need_four "need_four" = true)
  (k_need_four : PySem.W.keepIn K (.ref a_need_four) = true)
  (n_parallel_corner : PySem.W.nsIn K mainGlobals "parallel_corner" = some (some (.ref a_parallel_corner)))
  (l_parallel_corner : K.lookup a_parallel_corner = some ⟨oc_parallel_corner, od_parallel_corner, .func (PySem.W.fnOf "parallel_corner" "parallel_corner" (defArgs s_parallel_corner) (defBody s_parallel_corner) (defScope s_parallel_corner) .none kV_parallel_corner dc_parallel_corner pm_parallel_corner an_parallel_corner cd_parallel_corner ct_parallel_corner), sl_parallel_corner⟩)
  (c_parallel_corner : PySem.W.codeIn K cd_parallel_corner "parallel_corner" = true)
  (k_parallel_corner : PySem.W.keepIn K (.ref a_parallel_corner) = true)
  (n_lock_for : PySem.W.nsIn K mainGlobals "lock_for" = some (some (.ref a_lock_for)))
  (l_lock_for : K.lookup a_lock_for = some ⟨oc_lock_for, od_lock_for, .func (PySem.W.fnOf "lock_for" "lock_for" (defArgs s_lock_for) (defBody s_lock_for) (defScope s_lock_for) .none kV_lock_for dc_lock_for pm_lock_for an_lock_for cd_lock_for ct_lock_for), sl_lock_for⟩)
  (c_lock_for : PySem.W.codeIn K cd_lock_for "lock_for" = true)
  (k_lock_for : PySem.W.keepIn K (.ref a_lock_for) = true)
  (n_lock_kind : PySem.W.nsIn K mainGlobals "lock_kind" = some (some (.ref a_lock_kind)))
  (l_lock_kind : K.lookup a_lock_kind = some ⟨oc_lock_kind, od_lock_kind, .func (PySem.W.fnOf "lock_kind" "lock_kind" (defArgs s_lock_kind) (defBody s_lock_kind) (defScope s_lock_kind) .none kV_lock_kind dc_lock_kind pm_lock_kind an_lock_kind cd_lock_kind ct_lock_kind), sl_lock_kind⟩)
  (c_lock_kind : PySem.W.codeIn K cd_lock_kind "lock_kind" = true)
  (k_lock_kind : PySem.W.keepIn K (.ref a_lock_kind) = true)
  (n_locked_corners : PySem.W.nsIn K mainGlobals "locked_corners" = some (some (.ref a_locked_corners)))
  (l_locked_corners : K.lookup a_locked_corners = some ⟨oc_locked_corners, od_locked_corners, .func (PySem.W.fnOf "locked_corners" "locked_corners" (defArgs s_locked_corners) (defBody s_locked_corners) (defScope s_locked_corners) .none kV_locked_corners dc_locked_corners pm_locked_corners an_locked_corners cd_locked_corners ct_locked_corners), sl_locked_corners⟩)
  (c_locked_corners : PySem.W.codeIn K cd_locked_corners "locked_corners" = true)
  (k_locked_corners : PySem.W.keepIn K (.ref a_locked_corners) = true)
  (n_need_lengths : PySem.W.nsIn K mainGlobals "_need_lengths" = some (some (.ref a_need_lengths)))
  (l_need_lengths : K.lookup a_need_lengths = some ⟨oc_need_lengths, od_need_lengths, .func (PySem.W.fnOf "_need_lengths" "_need_lengths" (defArgs s_need_lengths) (defBody s_need_lengths) (defScope s_need_lengths) .none kV_need_lengths dc_need_lengths pm_need_lengths an_need_lengths cd_need_lengths ct_need_lengths), sl_need_lengths⟩)
  (c_need_lengths : PySem.W.codeIn K cd_need_lengths "_need_lengths" = true)
  (k_need_lengths : PySem.W.keepIn K (.ref a_need_lengths) = true)
  (n_need_less : PySem.W.nsIn K mainGlobals "_need_less" = some (some (.ref a_need_less)))
  (l_need_less : K.lookup a_need_less = some ⟨oc_need_less, od_need_less, .func (PySem.W.fnOf "_need_less" "_need_less" (defArgs s_need_less) (defBody s_need_less) (defScope s_need_less) .none kV_need_less dc_need_less pm_need_less an_need_less cd_need_less ct_need_less), sl_need_less⟩)
  (c_need_less : PySem.W.codeIn K cd_need_less "_need_less" = true)
  (k_need_less : PySem.W.keepIn K (.ref a_need_less) = true)
  (n_apart : PySem.W.nsIn K mainGlobals "_apart" = some (some (.ref a_apart)))
  (l_apart : K.lookup a_apart = some ⟨oc_apart, od_apart, .func (PySem.W.fnOf "_apart" "_apart" (defArgs s_apart) (defBody s_apart) (defScope s_apart) .none kV_apart dc_apart pm_apart an_apart cd_apart ct_apart), sl_apart⟩)
  (c_apart : PySem.W.codeIn K cd_apart "_apart" = true)
  (k_apart : PySem.W.keepIn K (.ref a_apart) = true)
  (n_is_crossed_lock : PySem.W.nsIn K mainGlobals "_is_crossed_lock" = some (some (.ref a_is_crossed_lock)))
  (l_is_crossed_lock : K.lookup a_is_crossed_lock = some ⟨oc_is_crossed_lock, od_is_crossed_lock, .func (PySem.W.fnOf "_is_crossed_lock" "_is_crossed_lock" (defArgs s_is_crossed_lock) (defBody s_is_crossed_lock) (defScope s_is_crossed_lock) .none kV_is_crossed_lock dc_is_crossed_lock pm_is_crossed_lock an_is_crossed_lock cd_is_crossed_lock ct_is_crossed_lock), sl_is_crossed_lock⟩)
  (c_is_crossed_lock : PySem.W.codeIn K cd_is_crossed_lock "_is_crossed_lock" = true)
  (k_is_crossed_lock : PySem.W.keepIn K (.ref a_is_crossed_lock) = true)
  (n_has_room : PySem.W.nsIn K mainGlobals "_has_room" = some (some (.ref a_has_room)))
  (l_has_room : K.lookup a_has_room = some ⟨oc_has_room, od_has_room, .func (PySem.W.fnOf "_has_room" "_has_room" (defArgs s_has_room) (defBody s_has_room) (defScope s_has_room) .none kV_has_room dc_has_room pm_has_room an_has_room cd_has_room ct_has_room), sl_has_room⟩)
  (c_has_room : PySem.W.codeIn K cd_has_room "_has_room" = true)
  (k_has_room : PySem.W.keepIn K (.ref a_has_room) = true)
  (n_law_latch : PySem.W.nsIn K mainGlobals "_law_latch" = some (some (.ref a_law_latch)))
  (l_law_latch : K.lookup a_law_latch = some ⟨oc_law_latch, od_law_latch, .func (PySem.W.fnOf "_law_latch" "_law_latch" (defArgs s_law_latch) (defBody s_law_latch) (defScope s_law_latch) .none kV_law_latch dc_law_latch pm_law_latch an_law_latch cd_law_latch ct_law_latch), sl_law_latch⟩)
  (c_law_latch : PySem.W.codeIn K cd_law_latch "_law_latch" = true)
  (k_law_latch : PySem.W.keepIn K (.ref a_law_latch) = true)
  (n_law_click : PySem.W.nsIn K mainGlobals "_law_click" = some (some (.ref a_law_click)))
  (l_law_click : K.lookup a_law_click = some ⟨oc_law_click, od_law_click, .func (PySem.W.fnOf "_law_click" "_law_click" (defArgs s_law_click) (defBody s_law_click) (defScope s_law_click) .none kV_law_click dc_law_click pm_law_click an_law_click cd_law_click ct_law_click), sl_law_click⟩)
  (c_law_click : PySem.W.codeIn K cd_law_click "_law_click" = true)
  (k_law_click : PySem.W.keepIn K (.ref a_law_click) = true)
  (n_law_pick : PySem.W.nsIn K mainGlobals "_law_pick" = some (some (.ref a_law_pick)))
  (l_law_pick : K.lookup a_law_pick = some ⟨oc_law_pick, od_law_pick, .func (PySem.W.fnOf "_law_pick" "_law_pick" (defArgs s_law_pick) (defBody s_law_pick) (defScope s_law_pick) .none kV_law_pick dc_law_pick pm_law_pick an_law_pick cd_law_pick ct_law_pick), sl_law_pick⟩)
  (c_law_pick : PySem.W.codeIn K cd_law_pick "_law_pick" = true)
  (k_law_pick : PySem.W.keepIn K (.ref a_law_pick) = true)
  (n_law_form : PySem.W.nsIn K mainGlobals "_law_form" = some (some (.ref a_law_form)))
  (l_law_form : K.lookup a_law_form = some ⟨oc_law_form, od_law_form, .func (PySem.W.fnOf "_law_form" "_law_form" (defArgs s_law_form) (defBody s_law_form) (defScope s_law_form) .none kV_law_form dc_law_form pm_law_form an_law_form cd_law_form ct_law_form), sl_law_form⟩)
  (c_law_form : PySem.W.codeIn K cd_law_form "_law_form" = true)
  (k_law_form : PySem.W.keepIn K (.ref a_law_form) = true)
  (n_law_halves : PySem.W.nsIn K mainGlobals "_law_halves" = some (some (.ref a_law_halves)))
  (l_law_halves : K.lookup a_law_halves = some ⟨oc_law_halves, od_law_halves, .func (PySem.W.fnOf "_law_halves" "_law_halves" (defArgs s_law_halves) (defBody s_law_halves) (defScope s_law_halves) .none kV_law_halves dc_law_halves pm_law_halves an_law_halves cd_law_halves ct_law_halves), sl_law_halves⟩)
  (c_law_halves : PySem.W.codeIn K cd_law_halves "_law_halves" = true)
  (k_law_halves : PySem.W.keepIn K (.ref a_law_halves) = true)
  (n_law_add : PySem.W.nsIn K mainGlobals "_law_add" = some (some (.ref a_law_add)))
  (l_law_add : K.lookup a_law_add = some ⟨oc_law_add, od_law_add, .func (PySem.W.fnOf "_law_add" "_law_add" (defArgs s_law_add) (defBody s_law_add) (defScope s_law_add) .none kV_law_add dc_law_add pm_law_add an_law_add cd_law_add ct_law_add), sl_law_add⟩)
  (c_law_add : PySem.W.codeIn K cd_law_add "_law_add" = true)
  (k_law_add : PySem.W.keepIn K (.ref a_law_add) = true)
  (n_law_less : PySem.W.nsIn K mainGlobals "_law_less" = some (some (.ref a_law_less)))
  (l_law_less : K.lookup a_law_less = some ⟨oc_law_less, od_law_less, .func (PySem.W.fnOf "_law_less" "_law_less" (defArgs s_law_less) (defBody s_law_less) (defScope s_law_less) .none kV_law_less dc_law_less pm_law_less an_law_less cd_law_less ct_law_less), sl_law_less⟩)
  (c_law_less : PySem.W.codeIn K cd_law_less "_law_less" = true)
  (k_law_less : PySem.W.keepIn K (.ref a_law_less) = true)
  (n_law_mul : PySem.W.nsIn K mainGlobals "_law_mul" = some (some (.ref a_law_mul)))
  (l_law_mul : K.lookup a_law_mul = some ⟨oc_law_mul, od_law_mul, .func (PySem.W.fnOf "_law_mul" "_law_mul" (defArgs s_law_mul) (defBody s_law_mul) (defScope s_law_mul) .none kV_law_mul dc_law_mul pm_law_mul an_law_mul cd_law_mul ct_law_mul), sl_law_mul⟩)
  (c_law_mul : PySem.W.codeIn K cd_law_mul "_law_mul" = true)
  (k_law_mul : PySem.W.keepIn K (.ref a_law_mul) = true)
  (n_law_part : PySem.W.nsIn K mainGlobals "_law_part" = some (some (.ref a_law_part)))
  (l_law_part : K.lookup a_law_part = some ⟨oc_law_part, od_law_part, .func (PySem.W.fnOf "_law_part" "_law_part" (defArgs s_law_part) (defBody s_law_part) (defScope s_law_part) .none kV_law_part dc_law_part pm_law_part an_law_part cd_law_part ct_law_part), sl_law_part⟩)
  (c_law_part : PySem.W.codeIn K cd_law_part "_law_part" = true)
  (k_law_part : PySem.W.keepIn K (.ref a_law_part) = true)
  (n_law_under : PySem.W.nsIn K mainGlobals "_law_under" = some (some (.ref a_law_under)))
  (l_law_under : K.lookup a_law_under = some ⟨oc_law_under, od_law_under, .func (PySem.W.fnOf "_law_under" "_law_under" (defArgs s_law_under) (defBody s_law_under) (defScope s_law_under) .none kV_law_under dc_law_under pm_law_under an_law_under cd_law_under ct_law_under), sl_law_under⟩)
  (c_law_under : PySem.W.codeIn K cd_law_under "_law_under" = true)
  (k_law_under : PySem.W.keepIn K (.ref a_law_under) = true)
  (n_law_row : PySem.W.nsIn K mainGlobals "_law_row" = some (some (.ref a_law_row)))
  (l_law_row : K.lookup a_law_row = some ⟨oc_law_row, od_law_row, .func (PySem.W.fnOf "_law_row" "_law_row" (defArgs s_law_row) (defBody s_law_row) (defScope s_law_row) .none kV_law_row dc_law_row pm_law_row an_law_row cd_law_row ct_law_row), sl_law_row⟩)
  (c_law_row : PySem.W.codeIn K cd_law_row "_law_row" = true)
  (k_law_row : PySem.W.keepIn K (.ref a_law_row) = true)
  (n_law_gone : PySem.W.nsIn K mainGlobals "_law_gone" = some (some (.ref a_law_gone)))
  (l_law_gone : K.lookup a_law_gone = some ⟨oc_law_gone, od_law_gone, .func (PySem.W.fnOf "_law_gone" "_law_gone" (defArgs s_law_gone) (defBody s_law_gone) (defScope s_law_gone) .none kV_law_gone dc_law_gone pm_law_gone an_law_gone cd_law_gone ct_law_gone), sl_law_gone⟩)
  (c_law_gone : PySem.W.codeIn K cd_law_gone "_law_gone" = true)
  (k_law_gone : PySem.W.keepIn K (.ref a_law_gone) = true)
  (n_law_dot : PySem.W.nsIn K mainGlobals "_law_dot" = some (some (.ref a_law_dot)))
  (l_law_dot : K.lookup a_law_dot = some ⟨oc_law_dot, od_law_dot, .func (PySem.W.fnOf "_law_dot" "_law_dot" (defArgs s_law_dot) (defBody s_law_dot) (defScope s_law_dot) .none kV_law_dot dc_law_dot pm_law_dot an_law_dot cd_law_dot ct_law_dot), sl_law_dot⟩)
  (c_law_dot : PySem.W.codeIn K cd_law_dot "_law_dot" = true)
  (k_law_dot : PySem.W.keepIn K (.ref a_law_dot) = true)
  (n_law_cross : PySem.W.nsIn K mainGlobals "_law_cross" = some (some (.ref a_law_cross)))
  (l_law_cross : K.lookup a_law_cross = some ⟨oc_law_cross, od_law_cross, .func (PySem.W.fnOf "_law_cross" "_law_cross" (defArgs s_law_cross) (defBody s_law_cross) (defScope s_law_cross) .none kV_law_cross dc_law_cross pm_law_cross an_law_cross cd_law_cross ct_law_cross), sl_law_cross⟩)
  (c_law_cross : PySem.W.codeIn K cd_law_cross "_law_cross" = true)
  (k_law_cross : PySem.W.keepIn K (.ref a_law_cross) = true)
  (n_law_far : PySem.W.nsIn K mainGlobals "_law_far" = some (some (.ref a_law_far)))
  (l_law_far : K.lookup a_law_far = some ⟨oc_law_far, od_law_far, .func (PySem.W.fnOf "_law_far" "_law_far" (defArgs s_law_far) (defBody s_law_far) (defScope s_law_far) .none kV_law_far dc_law_far pm_law_far an_law_far cd_law_far ct_law_far), sl_law_far⟩)
  (c_law_far : PySem.W.codeIn K cd_law_far "_law_far" = true)
  (k_law_far : PySem.W.keepIn K (.ref a_law_far) = true)
  (n_law_number : PySem.W.nsIn K mainGlobals "_law_number" = some (some (.ref a_law_number)))
  (l_law_number : K.lookup a_law_number = some ⟨oc_law_number, od_law_number, .func (PySem.W.fnOf "_law_number" "_law_number" (defArgs s_law_number) (defBody s_law_number) (defScope s_law_number) .none kV_law_number dc_law_number pm_law_number an_law_number cd_law_number ct_law_number), sl_law_number⟩)
  (c_law_number : PySem.W.codeIn K cd_law_number "_law_number" = true)
  (k_law_number : PySem.W.keepIn K (.ref a_law_number) = true)
  (n_law_turn : PySem.W.nsIn K mainGlobals "_law_turn" = some (some (.ref a_law_turn)))
  (l_law_turn : K.lookup a_law_turn = some ⟨oc_law_turn, od_law_turn, .func (PySem.W.fnOf "_law_turn" "_law_turn" (defArgs s_law_turn) (defBody s_law_turn) (defScope s_law_turn) .none kV_law_turn dc_law_turn pm_law_turn an_law_turn cd_law_turn ct_law_turn), sl_law_turn⟩)
  (c_law_turn : PySem.W.codeIn K cd_law_turn "_law_turn" = true)
  (k_law_turn : PySem.W.keepIn K (.ref a_law_turn) = true)
  (n_law_point : PySem.W.nsIn K mainGlobals "_law_point" = some (some (.ref a_law_point)))
  (l_law_point : K.lookup a_law_point = some ⟨oc_law_point, od_law_point, .func (PySem.W.fnOf "_law_point" "_law_point" (defArgs s_law_point) (defBody s_law_point) (defScope s_law_point) .none kV_law_point dc_law_point pm_law_point an_law_point cd_law_point ct_law_point), sl_law_point⟩)
  (c_law_point : PySem.W.codeIn K cd_law_point "_law_point" = true)
  (k_law_point : PySem.W.keepIn K (.ref a_law_point) = true)
  (n_law_opening : PySem.W.nsIn K mainGlobals "_law_opening" = some (some (.ref a_law_opening)))
  (l_law_opening : K.lookup a_law_opening = some ⟨oc_law_opening, od_law_opening, .func (PySem.W.fnOf "_law_opening" "_law_opening" (defArgs s_law_opening) (defBody s_law_opening) (defScope s_law_opening) .none kV_law_opening dc_law_opening pm_law_opening an_law_opening cd_law_opening ct_law_opening), sl_law_opening⟩)
  (c_law_opening : PySem.W.codeIn K cd_law_opening "_law_opening" = true)
  (k_law_opening : PySem.W.keepIn K (.ref a_law_opening) = true)
  (n_law_parallel : PySem.W.nsIn K mainGlobals "_law_parallel" = some (some (.ref a_law_parallel)))
  (l_law_parallel : K.lookup a_law_parallel = some ⟨oc_law_parallel, od_law_parallel, .func (PySem.W.fnOf "_law_parallel" "_law_parallel" (defArgs s_law_parallel) (defBody s_law_parallel) (defScope s_law_parallel) .none kV_law_parallel dc_law_parallel pm_law_parallel an_law_parallel cd_law_parallel ct_law_parallel), sl_law_parallel⟩)
  (c_law_parallel : PySem.W.codeIn K cd_law_parallel "_law_parallel" = true)
  (k_law_parallel : PySem.W.keepIn K (.ref a_law_parallel) = true)
  (n_law_mirrored : PySem.W.nsIn K mainGlobals "_law_mirrored" = some (some (.ref a_law_mirrored)))
  (l_law_mirrored : K.lookup a_law_mirrored = some ⟨oc_law_mirrored, od_law_mirrored, .func (PySem.W.fnOf "_law_mirrored" "_law_mirrored" (defArgs s_law_mirrored) (defBody s_law_mirrored) (defScope s_law_mirrored) .none kV_law_mirrored dc_law_mirrored pm_law_mirrored an_law_mirrored cd_law_mirrored ct_law_mirrored), sl_law_mirrored⟩)
  (c_law_mirrored : PySem.W.codeIn K cd_law_mirrored "_law_mirrored" = true)
  (k_law_mirrored : PySem.W.keepIn K (.ref a_law_mirrored) = true)
  (n_law_corners : PySem.W.nsIn K mainGlobals "_law_corners" = some (some (.ref a_law_corners)))
  (l_law_corners : K.lookup a_law_corners = some ⟨oc_law_corners, od_law_corners, .func (PySem.W.fnOf "_law_corners" "_law_corners" (defArgs s_law_corners) (defBody s_law_corners) (defScope s_law_corners) .none kV_law_corners dc_law_corners pm_law_corners an_law_corners cd_law_corners ct_law_corners), sl_law_corners⟩)
  (c_law_corners : PySem.W.codeIn K cd_law_corners "_law_corners" = true)
  (k_law_corners : PySem.W.keepIn K (.ref a_law_corners) = true)
  (n_law_half : PySem.W.nsIn K mainGlobals "_law_half" = some (some (.ref a_law_half)))
  (l_law_half : K.lookup a_law_half = some ⟨oc_law_half, od_law_half, .func (PySem.W.fnOf "_law_half" "_law_half" (defArgs s_law_half) (defBody s_law_half) (defScope s_law_half) .none kV_law_half dc_law_half pm_law_half an_law_half cd_law_half ct_law_half), sl_law_half⟩)
  (c_law_half : PySem.W.codeIn K cd_law_half "_law_half" = true)
  (k_law_half : PySem.W.keepIn K (.ref a_law_half) = true)
  (n_law_has_room : PySem.W.nsIn K mainGlobals "_law_has_room" = some (some (.ref a_law_has_room)))
  (l_law_has_room : K.lookup a_law_has_room = some ⟨oc_law_has_room, od_law_has_room, .func (PySem.W.fnOf "_law_has_room" "_law_has_room" (defArgs s_law_has_room) (defBody s_law_has_room) (defScope s_law_has_room) .none kV_law_has_room dc_law_has_room pm_law_has_room an_law_has_room cd_law_has_room ct_law_has_room), sl_law_has_room⟩)
  (c_law_has_room : PySem.W.codeIn K cd_law_has_room "_law_has_room" = true)
  (k_law_has_room : PySem.W.keepIn K (.ref a_law_has_room) = true)
  (n_law_lock : PySem.W.nsIn K mainGlobals "_law_lock" = some (some (.ref a_law_lock)))
  (l_law_lock : K.lookup a_law_lock = some ⟨oc_law_lock, od_law_lock, .func (PySem.W.fnOf "_law_lock" "_law_lock" (defArgs s_law_lock) (defBody s_law_lock) (defScope s_law_lock) .none kV_law_lock dc_law_lock pm_law_lock an_law_lock cd_law_lock ct_law_lock), sl_law_lock⟩)
  (c_law_lock : PySem.W.codeIn K cd_law_lock "_law_lock" = true)
  (k_law_lock : PySem.W.keepIn K (.ref a_law_lock) = true)
  (n_law_goes_with : PySem.W.nsIn K mainGlobals "_law_goes_with" = some (some (.ref a_law_goes_with)))
  (l_law_goes_with : K.lookup a_law_goes_with = some ⟨oc_law_goes_with, od_law_goes_with, .func (PySem.W.fnOf "_law_goes_with" "_law_goes_with" (defArgs s_law_goes_with) (defBody s_law_goes_with) (defScope s_law_goes_with) .none kV_law_goes_with dc_law_goes_with pm_law_goes_with an_law_goes_with cd_law_goes_with ct_law_goes_with), sl_law_goes_with⟩)
  (c_law_goes_with : PySem.W.codeIn K cd_law_goes_with "_law_goes_with" = true)
  (k_law_goes_with : PySem.W.keepIn K (.ref a_law_goes_with) = true)
  (n_law_lock_right : PySem.W.nsIn K mainGlobals "_law_lock_right" = some (some (.ref a_law_lock_right)))
  (l_law_lock_right : K.lookup a_law_lock_right = some ⟨oc_law_lock_right, od_law_lock_right, .func (PySem.W.fnOf "_law_lock_right" "_law_lock_right" (defArgs s_law_lock_right) (defBody s_law_lock_right) (defScope s_law_lock_right) .none kV_law_lock_right dc_law_lock_right pm_law_lock_right an_law_lock_right cd_law_lock_right ct_law_lock_right), sl_law_lock_right⟩)
  (c_law_lock_right : PySem.W.codeIn K cd_law_lock_right "_law_lock_right" = true)
  (k_law_lock_right : PySem.W.keepIn K (.ref a_law_lock_right) = true)
  (n_law_own_right : PySem.W.nsIn K mainGlobals "_law_own_right" = some (some (.ref a_law_own_right)))
  (l_law_own_right : K.lookup a_law_own_right = some ⟨oc_law_own_right, od_law_own_right, .func (PySem.W.fnOf "_law_own_right" "_law_own_right" (defArgs s_law_own_right) (defBody s_law_own_right) (defScope s_law_own_right) .none kV_law_own_right dc_law_own_right pm_law_own_right an_law_own_right cd_law_own_right ct_law_own_right), sl_law_own_right⟩)
  (c_law_own_right : PySem.W.codeIn K cd_law_own_right "_law_own_right" = true)
  (k_law_own_right : PySem.W.keepIn K (.ref a_law_own_right) = true)
  (n_law : PySem.W.nsIn K mainGlobals "law" = some (some (.ref a_law)))
  (l_law : K.lookup a_law = some ⟨oc_law, od_law, .func (PySem.W.fnOf "law" "law" (defArgs s_law) (defBody s_law) (defScope s_law) .none kV_law dc_law pm_law an_law cd_law ct_law), sl_law⟩)
  (c_law : PySem.W.codeIn K cd_law "law" = true)
  (k_law : PySem.W.keepIn K (.ref a_law) = true)
  (n_EIGHTH : PySem.W.nsIn K mainGlobals "EIGHTH" = some (some (.ref a_EIGHTH)))
  (l_EIGHTH : K.lookup a_EIGHTH = some ⟨.type "tuple", od_EIGHTH, .seq #[.int 1 ta_EIGHTH, .int 8 tb_EIGHTH] nn_EIGHTH, sl_EIGHTH⟩)
  (n_HALF : PySem.W.nsIn K mainGlobals "HALF" = some (some (.ref a_HALF)))
  (l_HALF : K.lookup a_HALF = some ⟨.type "tuple", od_HALF, .seq #[.int 1 ta_HALF, .int 2 tb_HALF] nn_HALF, sl_HALF⟩)
  (n_QUARTER : PySem.W.nsIn K mainGlobals "QUARTER" = some (some (.ref a_QUARTER)))
  (l_QUARTER : K.lookup a_QUARTER = some ⟨.type "tuple", od_QUARTER, .seq #[.int 1 ta_QUARTER, .int 4 tb_QUARTER] nn_QUARTER, sl_QUARTER⟩)
  (n_BadNumber : PySem.W.nsIn K mainGlobals "BadNumber" = some (some (.ref c_BadNumber)))
  (n_BadPoint : PySem.W.nsIn K mainGlobals "BadPoint" = some (some (.ref c_BadPoint)))
  (n_Misfit : PySem.W.nsIn K mainGlobals "Misfit" = some (some (.ref c_Misfit)))
  (xL_BadNumber : K.lookup c_BadNumber = some (excClassObj nm_BadNumber qn_BadNumber c_BadNumber NS_BadNumber bs_BadNumber bm_BadNumber true sn_BadNumber sb_BadNumber ab_BadNumber col_BadNumber dd_BadNumber k0_BadNumber k1_BadNumber k2_BadNumber k3_BadNumber k5_BadNumber "ValueError.__new__"))
  (xr_BadNumber : PySem.HandSPX.refsVE bm_BadNumber = true)
  (sa_BadNumber : PySem.W.findIn K (.ref c_BadNumber) "__setattr__" = some (some (.builtin "object.__setattr__")))
  (ge_BadNumber : PySem.W.findIn K (.ref c_BadNumber) "__getattribute__" = some (some (.builtin "BaseException.__getattribute__")))
  (gg_BadNumber : PySem.W.findIn K (.ref c_BadNumber) "__getattr__" = some none)
  (fi_BadNumber : PySem.W.findIn K (.ref c_BadNumber) "__init__" = some (some (.ref i_BadNumber)))
  (ti_BadNumber : PySem.W.typeIn K (.ref i_BadNumber) = some (.type "function"))
  (kc_BadNumber : PySem.W.keepIn K (.ref c_BadNumber) = true)
  (ec_BadNumber : PySem.W.subIn K (.ref c_BadNumber) (.type "BaseException") = some true)
  (tc_BadNumber : PySem.W.typeIn K (.ref c_BadNumber) = some (.type "type"))
  (hd_BadNumber : PySem.W.hasDictIn K c_BadNumber = true)
  (ic_BadNumber : PySem.W.isClsIn K c_BadNumber = true)
  (kl_BadNumber : PySem.W.findIn K (.ref c_BadNumber) "__class__" = some (some (.builtin "object.__class__")))
  (mr_BadNumber : PySem.W.mroIn K c_BadNumber (.type "object") = some true)
  (li_BadNumber : K.lookup i_BadNumber = some ⟨oc_iBadNumber, od_iBadNumber, .func (PySem.W.fnOf "__init__" "BadNumber.__init__" (defArgs si_BadNumber) (defBody si_BadNumber) (defScope si_BadNumber) .none kV_iBadNumber dc_iBadNumber pm_iBadNumber an_iBadNumber cd_iBadNumber ct_iBadNumber), sl_iBadNumber⟩)
  (ci_BadNumber : PySem.W.codeIn K cd_iBadNumber "BadNumber.__init__" = true)
  (ki_BadNumber : PySem.W.keepIn K (.ref i_BadNumber) = true)
  (no_BadNumber_part : PySem.W.findIn K (.ref c_BadNumber) "part" = some none)
  (xL_BadPoint : K.lookup c_BadPoint = some (excClassObj nm_BadPoint qn_BadPoint c_BadPoint NS_BadPoint bs_BadPoint bm_BadPoint true sn_BadPoint sb_BadPoint ab_BadPoint col_BadPoint dd_BadPoint k0_BadPoint k1_BadPoint k2_BadPoint k3_BadPoint k5_BadPoint "ValueError.__new__"))
  (xr_BadPoint : PySem.HandSPX.refsVE bm_BadPoint = true)
  (sa_BadPoint : PySem.W.findIn K (.ref c_BadPoint) "__setattr__" = some (some (.builtin "object.__setattr__")))
  (ge_BadPoint : PySem.W.findIn K (.ref c_BadPoint) "__getattribute__" = some (some (.builtin "BaseException.__getattribute__")))
  (gg_BadPoint : PySem.W.findIn K (.ref c_BadPoint) "__getattr__" = some none)
  (fi_BadPoint : PySem.W.findIn K (.ref c_BadPoint) "__init__" = some (some (.ref i_BadPoint)))
  (ti_BadPoint : PySem.W.typeIn K (.ref i_BadPoint) = some (.type "function"))
  (kc_BadPoint : PySem.W.keepIn K (.ref c_BadPoint) = true)
  (ec_BadPoint : PySem.W.subIn K (.ref c_BadPoint) (.type "BaseException") = some true)
  (tc_BadPoint : PySem.W.typeIn K (.ref c_BadPoint) = some (.type "type"))
  (hd_BadPoint : PySem.W.hasDictIn K c_BadPoint = true)
  (ic_BadPoint : PySem.W.isClsIn K c_BadPoint = true)
  (kl_BadPoint : PySem.W.findIn K (.ref c_BadPoint) "__class__" = some (some (.builtin "object.__class__")))
  (mr_BadPoint : PySem.W.mroIn K c_BadPoint (.type "object") = some true)
  (li_BadPoint : K.lookup i_BadPoint = some ⟨oc_iBadPoint, od_iBadPoint, .func (PySem.W.fnOf "__init__" "BadPoint.__init__" (defArgs si_BadPoint) (defBody si_BadPoint) (defScope si_BadPoint) .none kV_iBadPoint dc_iBadPoint pm_iBadPoint an_iBadPoint cd_iBadPoint ct_iBadPoint), sl_iBadPoint⟩)
  (ci_BadPoint : PySem.W.codeIn K cd_iBadPoint "BadPoint.__init__" = true)
  (ki_BadPoint : PySem.W.keepIn K (.ref i_BadPoint) = true)
  (no_BadPoint_part : PySem.W.findIn K (.ref c_BadPoint) "part" = some none)
  (xL_Misfit : K.lookup c_Misfit = some (excClassObj nm_Misfit qn_Misfit c_Misfit NS_Misfit bs_Misfit bm_Misfit true sn_Misfit sb_Misfit ab_Misfit col_Misfit dd_Misfit k0_Misfit k1_Misfit k2_Misfit k3_Misfit k5_Misfit "ValueError.__new__"))
  (xr_Misfit : PySem.HandSPX.refsVE bm_Misfit = true)
  (sa_Misfit : PySem.W.findIn K (.ref c_Misfit) "__setattr__" = some (some (.builtin "object.__setattr__")))
  (ge_Misfit : PySem.W.findIn K (.ref c_Misfit) "__getattribute__" = some (some (.builtin "BaseException.__getattribute__")))
  (gg_Misfit : PySem.W.findIn K (.ref c_Misfit) "__getattr__" = some none)
  (fi_Misfit : PySem.W.findIn K (.ref c_Misfit) "__init__" = some (some (.ref i_Misfit)))
  (ti_Misfit : PySem.W.typeIn K (.ref i_Misfit) = some (.type "function"))
  (kc_Misfit : PySem.W.keepIn K (.ref c_Misfit) = true)
  (ec_Misfit : PySem.W.subIn K (.ref c_Misfit) (.type "BaseException") = some true)
  (tc_Misfit : PySem.W.typeIn K (.ref c_Misfit) = some (.type "type"))
  (hd_Misfit : PySem.W.hasDictIn K c_Misfit = true)
  (ic_Misfit : PySem.W.isClsIn K c_Misfit = true)
  (kl_Misfit : PySem.W.findIn K (.ref c_Misfit) "__class__" = some (some (.builtin "object.__class__")))
  (mr_Misfit : PySem.W.mroIn K c_Misfit (.type "object") = some true)
  (li_Misfit : K.lookup i_Misfit = some ⟨oc_iMisfit, od_iMisfit, .func (PySem.W.fnOf "__init__" "Misfit.__init__" (defArgs si_Misfit) (defBody si_Misfit) (defScope si_Misfit) .none kV_iMisfit dc_iMisfit pm_iMisfit an_iMisfit cd_iMisfit ct_iMisfit), sl_iMisfit⟩)
  (ci_Misfit : PySem.W.codeIn K cd_iMisfit "Misfit.__init__" = true)
  (ki_Misfit : PySem.W.keepIn K (.ref i_Misfit) = true)
  (no_Misfit_part : PySem.W.findIn K (.ref c_Misfit) "part" = some none)
  (hxs : PySem.W.specialIn K (.builtin "object.__class__") "__get__" = some (some (.builtin "getset_descriptor.__get__")))
  (hxt : PySem.W.takesIn K (.builtin "object.__class__") = some true)
  (g_gcd : PySem.W.nsIn K mainGlobals "gcd" = some (some (.builtin "math.gcd")))
  (z_abs : PySem.W.nsIn K mainGlobals "abs" = some none)
  (z_bool : PySem.W.nsIn K mainGlobals "bool" = some none)
  (z_int : PySem.W.nsIn K mainGlobals "int" = some none)
  (z_isinstance : PySem.W.nsIn K mainGlobals "isinstance" = some none)
  (z_len : PySem.W.nsIn K mainGlobals "len" = some none)
  (z_list : PySem.W.nsIn K mainGlobals "list" = some none)
  (z_range : PySem.W.nsIn K mainGlobals "range" = some none)
  (z_repr : PySem.W.nsIn K mainGlobals "repr" = some none)
  (z_tuple : PySem.W.nsIn K mainGlobals "tuple" = some none) :
    ∃ fd : FuncData, (∀ (s : Shared) (v : Value), BindsTo s fd ⟨[v], []⟩ [("script", v)]) ∧ ∀ base : Heap, K.In base → base.Ns mainGlobals mg → FnG l.prog w K mg base CX0 12 fa fd ["script"] (spLaw K) := by
  have e := hfa.symm.trans (PySem.W.mg_of X G n_law)
  cases e
  exact ⟨PySem.W.fnOf "law" "law" (defArgs s_law) (defBody s_law) (defScope s_law) .none kV_law dc_law pm_law an_law cd_law ct_law, fun s v => .of_eq rfl, fun base _ _ => ok_law (base := base) (w := w) (P := l.prog) { a_is_list := a_is_list, d_is_list := _, m_is_list := PySem.W.mg_of X G n_is_list, F_is_list := fun_mk (st := s_is_list) l_is_list c_is_list k_is_list, a_is_integer := a_is_integer, d_is_integer := _, m_is_integer := PySem.W.mg_of X G n_is_integer, F_is_integer := fun_mk (st := s_is_integer) l_is_integer c_is_integer k_is_integer, a_is_within := a_is_within, d_is_within := _, m_is_within := PySem.W.mg_of X G n_is_within, F_is_within := fun_mk (st := s_is_within) l_is_within c_is_within k_is_within, a_is_number := a_is_number, d_is_number := _, m_is_number := PySem.W.mg_of X G n_is_number, F_is_number := fun_mk (st := s_is_number) l_is_number c_is_number k_is_number, a_is_point := a_is_point, d_is_point := _, m_is_point := PySem.W.mg_of X G n_is_point, F_is_point := fun_mk (st := s_is_point) l_is_point c_is_point k_is_point, a_parts_of := a_parts_of, d_parts_of := _, m_parts_of := PySem.W.mg_of X G n_parts_of, F_parts_of := fun_mk (st := s_parts_of) l_parts_of c_parts_of k_parts_of, a_number_of := a_number_of, d_number_of := _, m_number_of := PySem.W.mg_of X G n_number_of, F_number_of := fun_mk (st := s_number_of) l_number_of c_number_of k_number_of, a_sum_of := a_sum_of, d_sum_of := _, m_sum_of := PySem.W.mg_of X G n_sum_of, F_sum_of := fun_mk (st := s_sum_of) l_sum_of c_sum_of k_sum_of, a_negative_of := a_negative_of, d_negative_of := _, m_negative_of := PySem.W.mg_of X G n_negative_of, F_negative_of := fun_mk (st := s_negative_of) l_negative_of c_negative_of k_negative_of, a_difference_of := a_difference_of, d_difference_of := _, m_difference_of := PySem.W.mg_of X G n_difference_of, F_difference_of := fun_mk (st := s_difference_of) l_difference_of c_difference_of k_difference_of, a_product_of := a_product_of, d_product_of := _, m_product_of := PySem.W.mg_of X G n_product_of, F_product_of := fun_mk (st := s_product_of) l_product_of c_product_of k_product_of, a_quotient_of := a_quotient_of, d_quotient_of := _, m_quotient_of := PySem.W.mg_of X G n_quotient_of, F_quotient_of := fun_mk (st := s_quotient_of) l_quotient_of c_quotient_of k_quotient_of, a_sign_in := a_sign_in, d_sign_in := _, m_sign_in := PySem.W.mg_of X G n_sign_in, F_sign_in := fun_mk (st := s_sign_in) l_sign_in c_sign_in k_sign_in, a_is_less := a_is_less, d_is_less := _, m_is_less := PySem.W.mg_of X G n_is_less, F_is_less := fun_mk (st := s_is_less) l_is_less c_is_less k_is_less, a_need_above_nothing := a_need_above_nothing, d_need_above_nothing := _, m_need_above_nothing := PySem.W.mg_of X G n_need_above_nothing, F_need_above_nothing := fun_mk (st := s_need_above_nothing) l_need_above_nothing c_need_above_nothing k_need_above_nothing, a_need_point := a_need_point, d_need_point := _, m_need_point := PySem.W.mg_of X G n_need_point, F_need_point := fun_mk (st := s_need_point) l_need_point c_need_point k_need_point, a_fixed := a_fixed, d_fixed := _, m_fixed := PySem.W.mg_of X G n_fixed, F_fixed := fun_mk (st := s_fixed) l_fixed c_fixed k_fixed, a_point_sum := a_point_sum, d_point_sum := _, m_point_sum := PySem.W.mg_of X G n_point_sum, F_point_sum := fun_mk (st := s_point_sum) l_point_sum c_point_sum k_point_sum, a_way_from := a_way_from, d_way_from := _, m_way_from := PySem.W.mg_of X G n_way_from, F_way_from := fun_mk (st := s_way_from) l_way_from c_way_from k_way_from, a_point_times := a_point_times, d_point_times := _, m_point_times := PySem.W.mg_of X G n_point_times, F_point_times := fun_mk (st := s_point_times) l_point_times c_point_times k_point_times, a_gone_on := a_gone_on, d_gone_on := _, m_gone_on := PySem.W.mg_of X G n_gone_on, F_gone_on := fun_mk (st := s_gone_on) l_gone_on c_gone_on k_gone_on, a_halfway := a_halfway, d_halfway := _, m_halfway := PySem.W.mg_of X G n_halfway, F_halfway := fun_mk (st := s_halfway) l_halfway c_halfway k_halfway, a_leftward := a_leftward, d_leftward := _, m_leftward := PySem.W.mg_of X G n_leftward, F_leftward := fun_mk (st := s_leftward) l_leftward c_leftward k_leftward, a_dot := a_dot, d_dot := _, m_dot := PySem.W.mg_of X G n_dot, F_dot := fun_mk (st := s_dot) l_dot c_dot k_dot, a_square_off := a_square_off, d_square_off := _, m_square_off := PySem.W.mg_of X G n_square_off, F_square_off := fun_mk (st := s_square_off) l_square_off c_square_off k_square_off, a_mirrored := a_mirrored, d_mirrored := _, m_mirrored := PySem.W.mg_of X G n_mirrored, F_mirrored := fun_mk (st := s_mirrored) l_mirrored c_mirrored k_mirrored, a_corners := a_corners, d_corners := _, m_corners := PySem.W.mg_of X G n_corners, F_corners := fun_mk (st := s_corners) l_corners c_corners k_corners, a_is_flat := a_is_flat, d_is_flat := _, m_is_flat := PySem.W.mg_of X G n_is_flat, F_is_flat := fun_mk (st := s_is_flat) l_is_flat c_is_flat k_is_flat, a_midpoints := a_midpoints, d_midpoints := _, m_midpoints := PySem.W.mg_of X G n_midpoints, F_midpoints := fun_mk (st := s_midpoints) l_midpoints c_midpoints k_midpoints, a_spread := a_spread, d_spread := _, m_spread := PySem.W.mg_of X G n_spread, F_spread := fun_mk (st := s_spread) l_spread c_spread k_spread, a_need_four := a_need_four, d_need_four := _, m_need_four := PySem.W.mg_of X G n_need_four, F_need_four := fun_mk (st := s_need_four) l_need_four c_need_four k_need_four, a_parallel_corner := a_parallel_corner, d_parallel_corner := _, m_parallel_corner := PySem.W.mg_of X G n_parallel_corner, F_parallel_corner := fun_mk (st := s_parallel_corner) l_parallel_corner c_parallel_corner k_parallel_corner, a_lock_for := a_lock_for, d_lock_for := _, m_lock_for := PySem.W.mg_of X G n_lock_for, F_lock_for := fun_mk (st := s_lock_for) l_lock_for c_lock_for k_lock_for, a_lock_kind := a_lock_kind, d_lock_kind := _, m_lock_kind := PySem.W.mg_of X G n_lock_kind, F_lock_kind := fun_mk (st := s_lock_kind) l_lock_kind c_lock_kind k_lock_kind, a_locked_corners := a_locked_corners, d_locked_corners := _, m_locked_corners := PySem.W.mg_of X G n_locked_corners, F_locked_corners := fun_mk (st := s_locked_corners) l_locked_corners c_locked_corners k_locked_corners, a_need_lengths := a_need_lengths, d_need_lengths := _, m_need_lengths := PySem.W.mg_of X G n_need_lengths, F_need_lengths := fun_mk (st := s_need_lengths) l_need_lengths c_need_lengths k_need_lengths, a_need_less := a_need_less, d_need_less := _, m_need_less := PySem.W.mg_of X G n_need_less, F_need_less := fun_mk (st := s_need_less) l_need_less c_need_less k_need_less, a_apart := a_apart, d_apart := _, m_apart := PySem.W.mg_of X G n_apart, F_apart := fun_mk (st := s_apart) l_apart c_apart k_apart, a_is_crossed_lock := a_is_crossed_lock, d_is_crossed_lock := _, m_is_crossed_lock := PySem.W.mg_of X G n_is_crossed_lock, F_is_crossed_lock := fun_mk (st := s_is_crossed_lock) l_is_crossed_lock c_is_crossed_lock k_is_crossed_lock, a_has_room := a_has_room, d_has_room := _, m_has_room := PySem.W.mg_of X G n_has_room, F_has_room := fun_mk (st := s_has_room) l_has_room c_has_room k_has_room, a_law_latch := a_law_latch, d_law_latch := _, m_law_latch := PySem.W.mg_of X G n_law_latch, F_law_latch := fun_mk (st := s_law_latch) l_law_latch c_law_latch k_law_latch, a_law_click := a_law_click, d_law_click := _, m_law_click := PySem.W.mg_of X G n_law_click, F_law_click := fun_mk (st := s_law_click) l_law_click c_law_click k_law_click, a_law_pick := a_law_pick, d_law_pick := _, m_law_pick := PySem.W.mg_of X G n_law_pick, F_law_pick := fun_mk (st := s_law_pick) l_law_pick c_law_pick k_law_pick, a_law_form := a_law_form, d_law_form := _, m_law_form := PySem.W.mg_of X G n_law_form, F_law_form := fun_mk (st := s_law_form) l_law_form c_law_form k_law_form, a_law_halves := a_law_halves, d_law_halves := _, m_law_halves := PySem.W.mg_of X G n_law_halves, F_law_halves := fun_mk (st := s_law_halves) l_law_halves c_law_halves k_law_halves, a_law_add := a_law_add, d_law_add := _, m_law_add := PySem.W.mg_of X G n_law_add, F_law_add := fun_mk (st := s_law_add) l_law_add c_law_add k_law_add, a_law_less := a_law_less, d_law_less := _, m_law_less := PySem.W.mg_of X G n_law_less, F_law_less := fun_mk (st := s_law_less) l_law_less c_law_less k_law_less, a_law_mul := a_law_mul, d_law_mul := _, m_law_mul := PySem.W.mg_of X G n_law_mul, F_law_mul := fun_mk (st := s_law_mul) l_law_mul c_law_mul k_law_mul, a_law_part := a_law_part, d_law_part := _, m_law_part := PySem.W.mg_of X G n_law_part, F_law_part := fun_mk (st := s_law_part) l_law_part c_law_part k_law_part, a_law_under := a_law_under, d_law_under := _, m_law_under := PySem.W.mg_of X G n_law_under, F_law_under := fun_mk (st := s_law_under) l_law_under c_law_under k_law_under, a_law_row := a_law_row, d_law_row := _, m_law_row := PySem.W.mg_of X G n_law_row, F_law_row := fun_mk (st := s_law_row) l_law_row c_law_row k_law_row, a_law_gone := a_law_gone, d_law_gone := _, m_law_gone := PySem.W.mg_of X G n_law_gone, F_law_gone := fun_mk (st := s_law_gone) l_law_gone c_law_gone k_law_gone, a_law_dot := a_law_dot, d_law_dot := _, m_law_dot := PySem.W.mg_of X G n_law_dot, F_law_dot := fun_mk (st := s_law_dot) l_law_dot c_law_dot k_law_dot, a_law_cross := a_law_cross, d_law_cross := _, m_law_cross := PySem.W.mg_of X G n_law_cross, F_law_cross := fun_mk (st := s_law_cross) l_law_cross c_law_cross k_law_cross, a_law_far := a_law_far, d_law_far := _, m_law_far := PySem.W.mg_of X G n_law_far, F_law_far := fun_mk (st := s_law_far) l_law_far c_law_far k_law_far, a_law_number := a_law_number, d_law_number := _, m_law_number := PySem.W.mg_of X G n_law_number, F_law_number := fun_mk (st := s_law_number) l_law_number c_law_number k_law_number, a_law_turn := a_law_turn, d_law_turn := _, m_law_turn := PySem.W.mg_of X G n_law_turn, F_law_turn := fun_mk (st := s_law_turn) l_law_turn c_law_turn k_law_turn, a_law_point := a_law_point, d_law_point := _, m_law_point := PySem.W.mg_of X G n_law_point, F_law_point := fun_mk (st := s_law_point) l_law_point c_law_point k_law_point, a_law_opening := a_law_opening, d_law_opening := _, m_law_opening := PySem.W.mg_of X G n_law_opening, F_law_opening := fun_mk (st := s_law_opening) l_law_opening c_law_opening k_law_opening, a_law_parallel := a_law_parallel, d_law_parallel := _, m_law_parallel := PySem.W.mg_of X G n_law_parallel, F_law_parallel := fun_mk (st := s_law_parallel) l_law_parallel c_law_parallel k_law_parallel, a_law_mirrored := a_law_mirrored, d_law_mirrored := _, m_law_mirrored := PySem.W.mg_of X G n_law_mirrored, F_law_mirrored := fun_mk (st := s_law_mirrored) l_law_mirrored c_law_mirrored k_law_mirrored, a_law_corners := a_law_corners, d_law_corners := _, m_law_corners := PySem.W.mg_of X G n_law_corners, F_law_corners := fun_mk (st := s_law_corners) l_law_corners c_law_corners k_law_corners, a_law_half := a_law_half, d_law_half := _, m_law_half := PySem.W.mg_of X G n_law_half, F_law_half := fun_mk (st := s_law_half) l_law_half c_law_half k_law_half, a_law_has_room := a_law_has_room, d_law_has_room := _, m_law_has_room := PySem.W.mg_of X G n_law_has_room, F_law_has_room := fun_mk (st := s_law_has_room) l_law_has_room c_law_has_room k_law_has_room, a_law_lock := a_law_lock, d_law_lock := _, m_law_lock := PySem.W.mg_of X G n_law_lock, F_law_lock := fun_mk (st := s_law_lock) l_law_lock c_law_lock k_law_lock, a_law_goes_with := a_law_goes_with, d_law_goes_with := _, m_law_goes_with := PySem.W.mg_of X G n_law_goes_with, F_law_goes_with := fun_mk (st := s_law_goes_with) l_law_goes_with c_law_goes_with k_law_goes_with, a_law_lock_right := a_law_lock_right, d_law_lock_right := _, m_law_lock_right := PySem.W.mg_of X G n_law_lock_right, F_law_lock_right := fun_mk (st := s_law_lock_right) l_law_lock_right c_law_lock_right k_law_lock_right, a_law_own_right := a_law_own_right, d_law_own_right := _, m_law_own_right := PySem.W.mg_of X G n_law_own_right, F_law_own_right := fun_mk (st := s_law_own_right) l_law_own_right c_law_own_right k_law_own_right, a_law := _, d_law := _, m_law := PySem.W.mg_of X G n_law, F_law := fun_mk (st := s_law) l_law c_law k_law, a_EIGHTH := a_EIGHTH, m_EIGHTH := PySem.W.mg_of X G n_EIGHTH, k_EIGHTH := ktup_of l_EIGHTH, a_HALF := a_HALF, m_HALF := PySem.W.mg_of X G n_HALF, k_HALF := ktup_of l_HALF, a_QUARTER := a_QUARTER, m_QUARTER := PySem.W.mg_of X G n_QUARTER, k_QUARTER := ktup_of l_QUARTER, c_BadNumber := c_BadNumber, m_BadNumber := PySem.W.mg_of X G n_BadNumber, c_BadPoint := c_BadPoint, m_BadPoint := PySem.W.mg_of X G n_BadPoint, c_Misfit := c_Misfit, m_Misfit := PySem.W.mg_of X G n_Misfit, i_BadNumber := i_BadNumber, di_BadNumber := _, Fi_BadNumber := fun_mk (st := si_BadNumber) li_BadNumber ci_BadNumber ki_BadNumber, ox_BadNumber := ⟨⟨_, _, _, _, _, _, _, _, _, _, _, _, _, _, _, xL_BadNumber, xr_BadNumber⟩, sa_BadNumber, ec_BadNumber, tc_BadNumber, kc_BadNumber⟩, fi_BadNumber := fi_BadNumber, ti_BadNumber := ti_BadNumber, xk_BadNumber := ⟨ic_BadNumber, ge_BadNumber, gg_BadNumber, ec_BadNumber, hd_BadNumber, kl_BadNumber, hxs, hxt, mr_BadNumber⟩, no_BadNumber_part := no_BadNumber_part, i_BadPoint := i_BadPoint, di_BadPoint := _, Fi_BadPoint := fun_mk (st := si_BadPoint) li_BadPoint ci_BadPoint ki_BadPoint, ox_BadPoint := ⟨⟨_, _, _, _, _, _, _, _, _, _, _, _, _, _, _, xL_BadPoint, xr_BadPoint⟩, sa_BadPoint, ec_BadPoint, tc_BadPoint, kc_BadPoint⟩, fi_BadPoint := fi_BadPoint, ti_BadPoint := ti_BadPoint, xk_BadPoint := ⟨ic_BadPoint, ge_BadPoint, gg_BadPoint, ec_BadPoint, hd_BadPoint, kl_BadPoint, hxs, hxt, mr_BadPoint⟩, no_BadPoint_part := no_BadPoint_part, i_Misfit := i_Misfit, di_Misfit := _, Fi_Misfit := fun_mk (st := si_Misfit) li_Misfit ci_Misfit ki_Misfit, ox_Misfit := ⟨⟨_, _, _, _, _, _, _, _, _, _, _, _, _, _, _, xL_Misfit, xr_Misfit⟩, sa_Misfit, ec_Misfit, tc_Misfit, kc_Misfit⟩, fi_Misfit := fi_Misfit, ti_Misfit := ti_Misfit, xk_Misfit := ⟨ic_Misfit, ge_Misfit, gg_Misfit, ec_Misfit, hd_Misfit, kl_Misfit, hxs, hxt, mr_Misfit⟩, no_Misfit_part := no_Misfit_part, m_gcd := PySem.W.mg_of X G g_gcd, z_abs := PySem.W.mg_none_of X G z_abs, z_bool := PySem.W.mg_none_of X G z_bool, z_int := PySem.W.mg_none_of X G z_int, z_isinstance := PySem.W.mg_none_of X G z_isinstance, z_len := PySem.W.mg_none_of X G z_len, z_list := PySem.W.mg_none_of X G z_list, z_range := PySem.W.mg_none_of X G z_range, z_repr := PySem.W.mg_none_of X G z_repr, z_tuple := PySem.W.mg_none_of X G z_tuple }⟩
theorem walk_law {l : PySem.W.OpenLaw} {q : Program} {loose : List Str} {XP : (Str → Option Value) → Heap → Prop} {YP : World → Heap → Prop} {d : DefRec} {K : Params → PySem.W.Frag} (hn : l.most = some 63) (hdf : d.params.defaults = [])
    (hY : ∀ (w : World) (h : Heap), YP w h → (K w.params).In h)
    (F : ∀ (w : World) (mg : Str → Option Value) (fa : Addr) (h : Heap), (K w.params).In h → h.Ns mainGlobals mg → mg d.name = some (.ref fa) →
      ∃ fd : FuncData, (∀ (s : Shared) (u : Value), BindsTo s fd ⟨[u], []⟩ [("script", u)]) ∧ ∀ base : Heap, (K w.params).In base → base.Ns mainGlobals mg → FnG l.prog w (K w.params) mg base CX0 12 fa fd ["script"] (spLaw (K w.params))) :
    PySem.W.WalkO q loose XP YP l.row.toRowW d [] (fun f vs => PySem.call f vs) :=
  walkG (n := 63) (k := 12) (x := "script") (CX := fun _ => CX0) (sp := fun w => spLaw (K w.params)) hn (by decide) hdf ⟨rfl, by decide, by decide⟩ hY F (fun _ _ a ns hl _ hS => ⟨a, ns, rfl, hS, hl, fun _ => rfl⟩) fun _ _ _ _ _ z => z
end Ty
open PySem PySem.W PyProof.Rows in
set_option maxRecDepth 100000 in
set_option maxHeartbeats 0 in
theorem PySem.Challenge.cw_typedcurve_k36_whole_what_locks_let_holds : PySem.Challenge.rw_typedcurve_k36_whole_what_locks_let.Holds := by
  w_on; o_law; k_head; (case hw => w_witness2)
  k_fill
  refine Ty.walk_law (l := PySem.Challenge.rw_typedcurve_k36_whole_what_locks_let) rfl rfl (fun w h Y => PySem.W.kIn_of Y) ?F
  case F =>
    intro w mg fa h KX G hmg
    refine' Ty.all_mk KX G hmg ?n_is_list ?l_is_list ?c_is_list ?k_is_list ?n_is_integer ?l_is_integer ?c_is_integer ?k_is_integer ?n_is_within ?l_is_within ?c_is_within ?k_is_within ?n_is_number ?l_is_number ?c_is_number ?k_is_number ?n_is_point ?l_is_point ?c_is_point ?k_is_point ?n_parts_of ?l_parts_of ?c_parts_of ?k_parts_of ?n_number_of ?l_number_of ?c_number_of ?k_number_of ?n_sum_of ?l_sum_of ?c_sum_of ?k_sum_of ?n_negative_of ?l_negative_of ?c_negative_of ?k_negative_of ?n_difference_of ?l_difference_of ?c_difference_of ?k_difference_of ?n_product_of ?l_product_of ?c_product_of ?k_product_of ?n_quotient_of ?l_quotient_of ?c_quotient_of ?k_quotient_of ?n_sign_in ?l_sign_in ?c_sign_in ?k_sign_in ?n_is_less ?l_is_less ?c_is_less ?k_is_less ?n_need_above_nothing ?l_need_above_nothing ?c_need_above_nothing ?k_need_above_nothing ?n_need_point ?l_need_point ?c_need_point ?k_need_point ?n_fixed ?l_fixed ?c_fixed ?k_fixed ?n_point_sum ?l_point_sum ?c_point_sum ?k_point_sum ?n_way_from ?l_way_from ?c_way_from ?k_way_from ?n_point_times ?l_point_times ?c_point_times ?k_point_times ?n_gone_on ?l_gone_on ?c_gone_on ?k_gone_on ?n_halfway ?l_halfway ?c_halfway ?k_halfway ?n_leftward ?l_leftward ?c_leftward ?k_leftward ?n_dot ?l_dot ?c_dot ?k_dot ?n_square_off ?l_square_off ?c_square_off ?k_square_off ?n_mirrored ?l_mirrored ?c_mirrored ?k_mirrored ?n_corners ?l_corners ?c_corners ?k_corners ?n_is_flat ?l_is_flat ?c_is_flat ?k_is_flat ?n_midpoints ?l_midpoints ?c_midpoints ?k_midpoints ?n_spread ?l_spread ?c_spread ?k_spread ?n_need_four ?l_need_four ?c_need_four ?k_need_four ?n_parallel_corner ?l_parallel_corner ?c_parallel_corner ?k_parallel_corner ?n_lock_for ?l_lock_for ?c_lock_for ?k_lock_for ?n_lock_kind ?l_lock_kind ?c_lock_kind ?k_lock_kind ?n_locked_corners ?l_locked_corners ?c_locked_corners ?k_locked_corners ?n_need_lengths ?l_need_lengths ?c_need_lengths ?k_need_lengths ?n_need_less ?l_need_less ?c_need_less ?k_need_less ?n_apart ?l_apart ?c_apart ?k_apart ?n_is_crossed_lock ?l_is_crossed_lock ?c_is_crossed_lock ?k_is_crossed_lock ?n_has_room ?l_has_room ?c_has_room ?k_has_room ?n_law_latch ?l_law_latch ?c_law_latch ?k_law_latch ?n_law_click ?l_law_click ?c_law_click ?k_law_click ?n_law_pick ?l_law_pick ?c_law_pick ?k_law_pick ?n_law_form ?l_law_form ?c_law_form ?k_law_form ?n_law_halves ?l_law_halves ?c_law_halves ?k_law_halves ?n_law_add ?l_law_add ?c_law_add ?k_law_add ?n_law_less ?l_law_less ?c_law_less ?k_law_less ?n_law_mul ?l_law_mul ?c_law_mul ?k_law_mul ?n_law_part ?l_law_part ?c_law_part ?k_law_part ?n_law_under ?l_law_under ?c_law_under ?k_law_under ?n_law_row ?l_law_row ?c_law_row ?k_law_row ?n_law_gone ?l_law_gone ?c_law_gone ?k_law_gone ?n_law_dot ?l_law_dot ?c_law_dot ?k_law_dot ?n_law_cross ?l_law_cross ?c_law_cross ?k_law_cross ?n_law_far ?l_law_far ?c_law_far ?k_law_far ?n_law_number ?l_law_number ?c_law_number ?k_law_number ?n_law_turn ?l_law_turn ?c_law_turn ?k_law_turn ?n_law_point ?l_law_point ?c_law_point ?k_law_point ?n_law_opening ?l_law_opening ?c_law_opening ?k_law_opening ?n_law_parallel ?l_law_parallel ?c_law_parallel ?k_law_parallel ?n_law_mirrored ?l_law_mirrored ?c_law_mirrored ?k_law_mirrored ?n_law_corners ?l_law_corners ?c_law_corners ?k_law_corners ?n_law_half ?l_law_half ?c_law_half ?k_law_half ?n_law_has_room ?l_law_has_room ?c_law_has_room ?k_law_has_room ?n_law_lock ?l_law_lock ?c_law_lock ?k_law_lock ?n_law_goes_with ?l_law_goes_with ?c_law_goes_with ?k_law_goes_with ?n_law_lock_right ?l_law_lock_right ?c_law_lock_right ?k_law_lock_right ?n_law_own_right ?l_law_own_right ?c_law_own_right ?k_law_own_right ?n_law ?l_law ?c_law ?k_law ?n_EIGHTH ?l_EIGHTH ?n_HALF ?l_HALF ?n_QUARTER ?l_QUARTER ?n_BadNumber ?n_BadPoint ?n_Misfit ?xL_BadNumber ?xr_BadNumber ?sa_BadNumber ?ge_BadNumber ?gg_BadNumber ?fi_BadNumber ?ti_BadNumber ?kc_BadNumber ?ec_BadNumber ?tc_BadNumber ?hd_BadNumber ?ic_BadNumber ?kl_BadNumber ?mr_BadNumber ?li_BadNumber ?ci_BadNumber ?ki_BadNumber ?no_BadNumber_part ?xL_BadPoint ?xr_BadPoint ?sa_BadPoint ?ge_BadPoint ?gg_BadPoint ?fi_BadPoint ?ti_BadPoint ?kc_BadPoint ?ec_BadPoint ?tc_BadPoint ?hd_BadPoint ?ic_BadPoint ?kl_BadPoint ?mr_BadPoint ?li_BadPoint ?ci_BadPoint ?ki_BadPoint ?no_BadPoint_part ?xL_Misfit ?xr_Misfit ?sa_Misfit ?ge_Misfit ?gg_Misfit ?fi_Misfit ?ti_Misfit ?kc_Misfit ?ec_Misfit ?tc_Misfit ?hd_Misfit ?ic_Misfit ?kl_Misfit ?mr_Misfit ?li_Misfit ?ci_Misfit ?ki_Misfit ?no_Misfit_part ?hxs ?hxt ?g_gcd ?z_abs ?z_bool ?z_int ?z_isinstance ?z_len ?z_list ?z_range ?z_repr ?z_tuple
    (case n_is_list => k_is)
    (case l_is_list => k_is)
    (case c_is_list => k_is)
    (case k_is_list => k_is)
    (case n_is_integer => k_is)
    (case l_is_integer => k_is)
    (case c_is_integer => k_is)
    (case k_is_integer => k_is)
    (case n_is_within => k_is)
    (case l_is_within => k_is)
    (case c_is_within => k_is)
    (case k_is_within => k_is)
    (case n_is_number => k_is)
    (case l_is_number => k_is)
    (case c_is_number => k_is)
    (case k_is_number => k_is)
    (case n_is_point => k_is)
    (case l_is_point => k_is)
    (case c_is_point => k_is)
    (case k_is_point => k_is)
    (case n_parts_of => k_is)
    (case l_parts_of => k_is)
    (case c_parts_of => k_is)
    (case k_parts_of => k_is)
    (case n_number_of => k_is)
    (case l_number_of => k_is)
    (case c_number_of => k_is)
    (case k_number_of => k_is)
    (case n_sum_of => k_is)
    (case l_sum_of => k_is)
    (case c_sum_of => k_is)
    (case k_sum_of => k_is)
    (case n_negative_of => k_is)
    (case l_negative_of => k_is)
    (case c_negative_of => k_is)
    (case k_negative_of => k_is)
    (case n_difference_of => k_is)
    (case l_difference_of => k_is)
    (case c_difference_of => k_is)
    (case k_difference_of => k_is)
    (case n_product_of => k_is)
    (case l_product_of => k_is)
    (case c_product_of => k_is)
    (case k_product_of => k_is)
    (case n_quotient_of => k_is)
    (case l_quotient_of => k_is)
    (case c_quotient_of => k_is)
    (case k_quotient_of => k_is)
    (case n_sign_in => k_is)
    (case l_sign_in => k_is)
    (case c_sign_in => k_is)
    (case k_sign_in => k_is)
    (case n_is_less => k_is)
    (case l_is_less => k_is)
    (case c_is_less => k_is)
    (case k_is_less => k_is)
    (case n_need_above_nothing => k_is)
    (case l_need_above_nothing => k_is)
    (case c_need_above_nothing => k_is)
    (case k_need_above_nothing => k_is)
    (case n_need_point => k_is)
    (case l_need_point => k_is)
    (case c_need_point => k_is)
    (case k_need_point => k_is)
    (case n_fixed => k_is)
    (case l_fixed => k_is)
    (case c_fixed => k_is)
    (case k_fixed => k_is)
    (case n_point_sum => k_is)
    (case l_point_sum => k_is)
    (case c_point_sum => k_is)
    (case k_point_sum => k_is)
    (case n_way_from => k_is)
    (case l_way_from => k_is)
    (case c_way_from => k_is)
    (case k_way_from => k_is)
    (case n_point_times => k_is)
    (case l_point_times => k_is)
    (case c_point_times => k_is)
    (case k_point_times => k_is)
    (case n_gone_on => k_is)
    (case l_gone_on => k_is)
    (case c_gone_on => k_is)
    (case k_gone_on => k_is)
    (case n_halfway => k_is)
    (case l_halfway => k_is)
    (case c_halfway => k_is)
    (case k_halfway => k_is)
    (case n_leftward => k_is)
    (case l_leftward => k_is)
    (case c_leftward => k_is)
    (case k_leftward => k_is)
    (case n_dot => k_is)
    (case l_dot => k_is)
    (case c_dot => k_is)
    (case k_dot => k_is)
    (case n_square_off => k_is)
    (case l_square_off => k_is)
    (case c_square_off => k_is)
    (case k_square_off => k_is)
    (case n_mirrored => k_is)
    (case l_mirrored => k_is)
    (case c_mirrored => k_is)
    (case k_mirrored => k_is)
    (case n_corners => k_is)
    (case l_corners => k_is)
    (case c_corners => k_is)
    (case k_corners => k_is)
    (case n_is_flat => k_is)
    (case l_is_flat => k_is)
    (case c_is_flat => k_is)
    (case k_is_flat => k_is)
    (case n_midpoints => k_is)
    (case l_midpoints => k_is)
    (case c_midpoints => k_is)
    (case k_midpoints => k_is)
    (case n_spread => k_is)
    (case l_spread => k_is)
    (case c_spread => k_is)
    (case k_spread => k_is)
    (case n_need_four => k_is)
    (case l_need_four => k_is)
    (case c_need_four => k_is)
    (case k_need_four => k_is)
    (case n_parallel_corner => k_is)
    (case l_parallel_corner => k_is)
    (case c_parallel_corner => k_is)
    (case k_parallel_corner => k_is)
    (case n_lock_for => k_is)
    (case l_lock_for => k_is)
    (case c_lock_for => k_is)
    (case k_lock_for => k_is)
    (case n_lock_kind => k_is)
    (case l_lock_kind => k_is)
    (case c_lock_kind => k_is)
    (case k_lock_kind => k_is)
    (case n_locked_corners => k_is)
    (case l_locked_corners => k_is)
    (case c_locked_corners => k_is)
    (case k_locked_corners => k_is)
    (case n_need_lengths => k_is)
    (case l_need_lengths => k_is)
    (case c_need_lengths => k_is)
    (case k_need_lengths => k_is)
    (case n_need_less => k_is)
    (case l_need_less => k_is)
    (case c_need_less => k_is)
    (case k_need_less => k_is)
    (case n_apart => k_is)
    (case l_apart => k_is)
    (case c_apart => k_is)
    (case k_apart => k_is)
    (case n_is_crossed_lock => k_is)
    (case l_is_crossed_lock => k_is)
    (case c_is_crossed_lock => k_is)
    (case k_is_crossed_lock => k_is)
    (case n_has_room => k_is)
    (case l_has_room => k_is)
    (case c_has_room => k_is)
    (case k_has_room => k_is)
    (case n_law_latch => k_is)
    (case l_law_latch => k_is)
    (case c_law_latch => k_is)
    (case k_law_latch => k_is)
    (case n_law_click => k_is)
    (case l_law_click => k_is)
    (case c_law_click => k_is)
    (case k_law_click => k_is)
    (case n_law_pick => k_is)
    (case l_law_pick => k_is)
    (case c_law_pick => k_is)
    (case k_law_pick => k_is)
    (case n_law_form => k_is)
    (case l_law_form => k_is)
    (case c_law_form => k_is)
    (case k_law_form => k_is)
    (case n_law_halves => k_is)
    (case l_law_halves => k_is)
    (case c_law_halves => k_is)
    (case k_law_halves => k_is)
    (case n_law_add => k_is)
    (case l_law_add => k_is)
    (case c_law_add => k_is)
    (case k_law_add => k_is)
    (case n_law_less => k_is)
    (case l_law_less => k_is)
    (case c_law_less => k_is)
    (case k_law_less => k_is)
    (case n_law_mul => k_is)
    (case l_law_mul => k_is)
    (case c_law_mul => k_is)
    (case k_law_mul => k_is)
    (case n_law_part => k_is)
    (case l_law_part => k_is)
    (case c_law_part => k_is)
    (case k_law_part => k_is)
    (case n_law_under => k_is)
    (case l_law_under => k_is)
    (case c_law_under => k_is)
    (case k_law_under => k_is)
    (case n_law_row => k_is)
    (case l_law_row => k_is)
    (case c_law_row => k_is)
    (case k_law_row => k_is)
    (case n_law_gone => k_is)
    (case l_law_gone => k_is)
    (case c_law_gone => k_is)
    (case k_law_gone => k_is)
    (case n_law_dot => k_is)
    (case l_law_dot => k_is)
    (case c_law_dot => k_is)
    (case k_law_dot => k_is)
    (case n_law_cross => k_is)
    (case l_law_cross => k_is)
    (case c_law_cross => k_is)
    (case k_law_cross => k_is)
    (case n_law_far => k_is)
    (case l_law_far => k_is)
    (case c_law_far => k_is)
    (case k_law_far => k_is)
    (case n_law_number => k_is)
    (case l_law_number => k_is)
    (case c_law_number => k_is)
    (case k_law_number => k_is)
    (case n_law_turn => k_is)
    (case l_law_turn => k_is)
    (case c_law_turn => k_is)
    (case k_law_turn => k_is)
    (case n_law_point => k_is)
    (case l_law_point => k_is)
    (case c_law_point => k_is)
    (case k_law_point => k_is)
    (case n_law_opening => k_is)
    (case l_law_opening => k_is)
    (case c_law_opening => k_is)
    (case k_law_opening => k_is)
    (case n_law_parallel => k_is)
    (case l_law_parallel => k_is)
    (case c_law_parallel => k_is)
    (case k_law_parallel => k_is)
    (case n_law_mirrored => k_is)
    (case l_law_mirrored => k_is)
    (case c_law_mirrored => k_is)
    (case k_law_mirrored => k_is)
    (case n_law_corners => k_is)
    (case l_law_corners => k_is)
    (case c_law_corners => k_is)
    (case k_law_corners => k_is)
    (case n_law_half => k_is)
    (case l_law_half => k_is)
    (case c_law_half => k_is)
    (case k_law_half => k_is)
    (case n_law_has_room => k_is)
    (case l_law_has_room => k_is)
    (case c_law_has_room => k_is)
    (case k_law_has_room => k_is)
    (case n_law_lock => k_is)
    (case l_law_lock => k_is)
    (case c_law_lock => k_is)
    (case k_law_lock => k_is)
    (case n_law_goes_with => k_is)
    (case l_law_goes_with => k_is)
    (case c_law_goes_with => k_is)
    (case k_law_goes_with => k_is)
    (case n_law_lock_right => k_is)
    (case l_law_lock_right => k_is)
    (case c_law_lock_right => k_is)
    (case k_law_lock_right => k_is)
    (case n_law_own_right => k_is)
    (case l_law_own_right => k_is)
    (case c_law_own_right => k_is)
    (case k_law_own_right => k_is)
    (case n_law => k_is)
    (case l_law => k_is)
    (case c_law => k_is)
    (case k_law => k_is)
    (case n_EIGHTH => k_is)
    (case l_EIGHTH => k_is)
    (case n_HALF => k_is)
    (case l_HALF => k_is)
    (case n_QUARTER => k_is)
    (case l_QUARTER => k_is)
    (case n_BadNumber => k_is)
    (case n_BadPoint => k_is)
    (case n_Misfit => k_is)
    (case xL_BadNumber => k_is)
    (case xr_BadNumber => decide +kernel)
    (case sa_BadNumber => k_is)
    (case ge_BadNumber => k_is)
    (case gg_BadNumber => k_is)
    (case fi_BadNumber => k_is)
    (case ti_BadNumber => k_is)
    (case kc_BadNumber => k_is)
    (case ec_BadNumber => k_is)
    (case tc_BadNumber => k_is)
    (case hd_BadNumber => k_is)
    (case ic_BadNumber => k_is)
    (case kl_BadNumber => k_is)
    (case mr_BadNumber => k_is)
    (case li_BadNumber => k_is)
    (case ci_BadNumber => k_is)
    (case ki_BadNumber => k_is)
    (case no_BadNumber_part => k_is)
    (case xL_BadPoint => k_is)
    (case xr_BadPoint => decide +kernel)
    (case sa_BadPoint => k_is)
    (case ge_BadPoint => k_is)
    (case gg_BadPoint => k_is)
    (case fi_BadPoint => k_is)
    (case ti_BadPoint => k_is)
    (case kc_BadPoint => k_is)
    (case ec_BadPoint => k_is)
    (case tc_BadPoint => k_is)
    (case hd_BadPoint => k_is)
    (case ic_BadPoint => k_is)
    (case kl_BadPoint => k_is)
    (case mr_BadPoint => k_is)
    (case li_BadPoint => k_is)
    (case ci_BadPoint => k_is)
    (case ki_BadPoint => k_is)
    (case no_BadPoint_part => k_is)
    (case xL_Misfit => k_is)
    (case xr_Misfit => decide +kernel)
    (case sa_Misfit => k_is)
    (case ge_Misfit => k_is)
    (case gg_Misfit => k_is)
    (case fi_Misfit => k_is)
    (case ti_Misfit => k_is)
    (case kc_Misfit => k_is)
    (case ec_Misfit => k_is)
    (case tc_Misfit => k_is)
    (case hd_Misfit => k_is)
    (case ic_Misfit => k_is)
    (case kl_Misfit => k_is)
    (case mr_Misfit => k_is)
    (case li_Misfit => k_is)
    (case ci_Misfit => k_is)
    (case ki_Misfit => k_is)
    (case no_Misfit_part => k_is)
    (case hxs => k_is)
    (case hxt => k_is)
    (case g_gcd => k_is)
    (case z_abs => k_is)
    (case z_bool => k_is)
    (case z_int => k_is)
    (case z_isinstance => k_is)
    (case z_len => k_is)
    (case z_list => k_is)
    (case z_range => k_is)
    (case z_repr => k_is)
    (case z_tuple => k_is)

