import PyProof.Rows.All
import Wide.All
import OpenK.AllK
import Wide.FinOn
import PyProof.ReprRoads
import HandS.ForMost
import HandS.ForExc
import HandS.Wide
import HandS.Gcd
import HandS.IsInst
import HandS.Defaults
import HandS.NoneIn
import HandS.Style
import HandS.Evl
import KE.KExcIs
import HandS.Exc
import HandS.ExcValue
import HandS.ExcInit
import HandS.ExcField
import HandS.ExcOwn
import HandS.WordsExc
import PyProof.Rows.RuleB_bool
import PyProof.FitsInt
import PyProof.ReprLen
import PySem.Challenge.RW_typedcurve_k04_numbers_reckoned
set_option Elab.async false
set_option linter.all false
set_option maxRecDepth 100000
set_option maxHeartbeats 4000000
namespace Ty
open PySem PySem.Spec PyProof.Rows L2
section
variable {X : Cx}
/-- repr of data -/
def rRepr (K : PySem.W.Frag) : List V → Hp → VK → Prop := fun xs H Q => ∃ a d, xs = [.ref a] ∧ Dp K H (.ref a) d ∧ d.showable = true ∧ d.hasDict = false ∧ d.depth ≤ 60 ∧ d.shown.length ≤ sizeLine ∧ Q (.str d.shown) H
theorem call_repr (hu : X.A.units + 64 < cLine) (hg : X.A.guards = some []) : CallR X (.builtin "repr") (rRepr X.K) := by
  intro pins s σ H xs us Q I r h
  obtain ⟨a, d, rfl, hd, h1, h2, h3, h4, q⟩ := h
  cases r with
  | cons rv rn =>
    cases rn
    cases (show _ = Value.ref a from rv)
    obtain ⟨as, rr⟩ := Dp.reads I d _ _ hd rfl
    refine repr_of_reads' rr h1 (fun z => by rw [h2] at z; cases z) hg (by omega) (fun _ _ e => e) (fun h' u tk hk => ?_) h4
    exact ⟨.str d.shown, H, I.kept hk, ⟨u, rfl⟩, q⟩
/-- a target of several names: a list or a tuple -/
theorem pg_or {tg : Expr} {g g' : TG} (h : PG X tg g) (h' : PG X tg g') : PG X tg (fun v σ H Q => g v σ H Q ∨ g' v σ H Q) := by
  refine ⟨fun pins s σ H v u Q I r hw => ?_⟩
  rcases hw with hw | hw
  · exact h.run pins s σ H v u Q I r hw
  · exact h'.run pins s σ H v u Q I r hw
variable {CX : CXT} {k : Nat} {f : Addr} {fd : FuncData} {ps ks : List Str} {sp : Sp} {E : XK} {x : Str} {p pos : Pos} {kws : List Keyword} {t tk : TA} {g : List Value → List Value → List Value} {gV : List V → List V → List V}
/-- f(k = v, ..) -/
theorem pe_callN0 (F : FnOk X.prog X.w X.K X.mg X.base CX k f fd ps sp) (hr : Room k X.A) (hg : Gl X x) (hm : X.mg x = some (.ref f)) (hk : PySem.W.keepIn X.K (.ref f) = true) (hb : KBn X.K fd ps 0 ks g gV) (hx : Passes CX X E)
    (hkw : PK X kws tk) (hall : (backToKw pos (keywordEach kws X.env)).all (·.1.isSome) = true := by rfl) (hks : (backToKw pos (keywordEach kws X.env)).filterMap (·.1) = ks := by rfl)
    (hdb : (x == ("__debug__" : Str)) = false := by decide)
    (hpl : ((backTo pos (starEach [] X.env)).any (·.1) || (backToKw pos (keywordEach kws X.env)).any (·.1.isNone)) = false := by rfl) :
    PE X (.Call (.Name x p) [] kws pos) (tCallN 0 ks.length sp gV E tNil tk) := by
  refine ⟨fun pins s σ H Q I h => ?_⟩
  refine wpAny_Call_Name_kw (ld_glob I hg hm ?_ hdb)
  refine PySem.W.callWith_KW0 (h₀ := X.base) I.ok.mod.kin hk hall (thn (hkw.run pos pins s σ H _ I h) fun ws s2 hh => ?_) hpl
  obtain ⟨zs, H2, I2, rz, l1, l2, q2⟩ := hh
  refine ⟨I2.kIn, ?_⟩
  rw [hks]
  exact run_fnN F hr hb hx I2 .nil rz l1 l2 q2
end
/-- how a call with keywords binds, no defaults -/
theorem kbn_of {K : PySem.W.Frag} {y qual : Str} {st : Stmt} {f : Addr} {fd : FuncData} {ps : List Str} {n : Nat} {ks : List Str} {g : List Value → List Value → List Value} {gV : List V → List V → List V} (F : Fun K y qual st f fd)
    (h : ∀ (kV doc pm : Value) (an : Option Addr) (cdv ct : Value) (us ws : List Value), us.length = n → ws.length = ks.length → bindArgs (PySem.W.fnOf y qual (defArgs st) (defBody st) (defScope st) .none kV doc pm an cdv ct) ⟨us, ks.zip ws⟩ = pure (ps.zip (g us ws)))
    (hrel : ∀ {vs : List V} {us : List Value} {zs : List V} {ws : List Value}, Vals vs us → Vals zs ws → Vals (gV vs zs) (g us ws)) : KBn K fd ps n ks g gV := by
  obtain ⟨oc, od, kV, doc, pm, an, cdv, ct, osl, rfl, lk, hcd⟩ := F.ex
  exact ⟨fun s us ws _ h1 h2 => .of_eq (h kV doc pm an cdv ct us ws h1 h2), hrel⟩
end Ty

namespace Ty
open PySem PySem.Spec PyProof.Rows L2
theorem Same.new {H : Hp} {p : Addr} {o : HO} (h : H p = none) : Same H (upd H p o) := fun a u e => by
  rw [upd_ne (ne_of_none e h)]
  exact e
/-! ### operators -/
def CPowW (i j : Int) : Prop := 0 ≤ j ∧ j ≤ 100 ∧ i.natAbs.log2 < 1000000
theorem op_powW {X : Cx} : OpR X (binaryOp .Pow) (rI CPowW fun i j => .int (i ^ j.toNat)) := opI fun i j _ _ _ _ _ hc q => by
  refine pow_int hc.1 ?_ q
  have b : Builtin.Int.intBits i ≤ i.natAbs.log2 + 1 := by
    unfold Builtin.Int.intBits
    split <;> omega
  have h1 := hc.1
  have h2 := hc.2.1
  have h3 := hc.2.2
  have h4 : (Builtin.Int.intBits i : Int) ≤ 1000000 := by omega
  have h5 : (Builtin.Int.intBits i : Int) * j ≤ 1000000 * 100 := Int.mul_le_mul h4 h2 h1 (by decide)
  exact Int.le_trans h5 (by decide)
/-- == and != of a list and an empty one -/
def rEqE (K : PySem.W.Frag) : R2 := fun x y H Q => ∃ a b xs, x = .ref a ∧ y = .ref b ∧ SqL K H a xs ∧ SqL K H b [] ∧ Q (.bl xs.isEmpty) H
def rNeE (K : PySem.W.Frag) : R2 := fun x y H Q => ∃ a b xs, x = .ref a ∧ y = .ref b ∧ SqL K H a xs ∧ SqL K H b [] ∧ Q (.bl (!xs.isEmpty)) H
theorem op_eqE {X : Cx} (hu : X.A.units < cLine) : OpR X (compareOp .Eq) (rEqE X.K) := by
  intro pins s σ H x y v u Q I rx ry h
  obtain ⟨a, b, xs, rfl, rfl, ha, hb, q⟩ := h
  cases (show v = Value.ref a from rx)
  cases (show u = Value.ref b from ry)
  obtain ⟨us, r1, p1, _⟩ := I.list ha
  obtain ⟨ws, r2, p2, _⟩ := I.list hb
  cases r2
  cases xs with
  | nil =>
    cases r1
    refine SeqAt.eq_listAt (e := fun _ => true) p1.isList p2.isList rfl hu (fun j h1 _ => absurd h1 (Nat.not_lt_zero _)) ?_
    exact ⟨.bl true, H, I, rfl, q⟩
  | cons z zs =>
    refine SeqAt.eq_list_lengthsAt p1.isList p2.isList ?_ hu ⟨.bl false, H, I, rfl, q⟩
    have e := r1.length
    rw [List.length_cons] at e
    rw [List.size_toArray, ← e]
    rfl
theorem op_neE {X : Cx} (hu : X.A.units < cLine) : OpR X (compareOp .NotEq) (rNeE X.K) := by
  intro pins s σ H x y v u Q I rx ry h
  obtain ⟨a, b, xs, rfl, rfl, ha, hb, q⟩ := h
  cases (show v = Value.ref a from rx)
  cases (show u = Value.ref b from ry)
  obtain ⟨us, r1, p1, _⟩ := I.list ha
  obtain ⟨ws, r2, p2, _⟩ := I.list hb
  cases r2
  cases xs with
  | nil =>
    cases r1
    refine SeqAt.RcNeAt.lists (e := fun _ => true) p1.isList p2.isList rfl hu (fun j h1 _ => absurd h1 (Nat.not_lt_zero _)) _ _ _ _ ?_
    exact ⟨.bl false, H, I, rfl, q⟩
  | cons z zs =>
    refine SeqAt.RcNeAt.lists_lengths p1.isList p2.isList ?_ hu _ _ _ _ ⟨.bl true, H, I, rfl, q⟩
    have e := r1.length
    rw [List.length_cons] at e
    rw [List.size_toArray, ← e]
    rfl
/-! ### any value -/
inductive Da where
  | non
  | bl (b : Bool)
  | int (i : Int)
  | str (x : Str)
  | tup (l : List Da)
  | lst (l : List Da)
  | dic
mutual
inductive Is (H : Hp) : V → Da → Prop
  | non : Is H .non .non
  | bl (b : Bool) : Is H (.bl b) (.bl b)
  | int (i : Int) : Is H (.int i) (.int i)
  | str (x : Str) : Is H (.str x) (.str x)
  | tup {a : Addr} {xs : List V} {ds : List Da} : H a = some (.tup xs) → IsAll H xs ds → Is H (.ref a) (.tup ds)
  | lst {a : Addr} {xs : List V} {ds : List Da} : H a = some (.lst xs) → IsAll H xs ds → Is H (.ref a) (.lst ds)
  | dic {a : Addr} : H a = some (.dK []) → Is H (.ref a) .dic
inductive IsAll (H : Hp) : List V → List Da → Prop
  | nil : IsAll H [] []
  | cons {v : V} {vs : List V} {d : Da} {ds : List Da} : Is H v d → IsAll H vs ds → IsAll H (v :: vs) (d :: ds)
end
mutual
theorem Is.mono {H H' : Hp} (s : Same H H') : ∀ (d : Da) (v : V), Is H v d → Is H' v d
  | .non, _, h => by cases h; exact .non
  | .bl _, _, h => by cases h; exact .bl _
  | .int _, _, h => by cases h; exact .int _
  | .str _, _, h => by cases h; exact .str _
  | .tup ds, _, h => by
    cases h with
    | tup e h => exact .tup (s _ _ e) (IsAll.mono s ds _ h)
  | .lst ds, _, h => by
    cases h with
    | lst e h => exact .lst (s _ _ e) (IsAll.mono s ds _ h)
  | .dic, _, h => by
    cases h with
    | dic e => exact .dic (s _ _ e)
theorem IsAll.mono {H H' : Hp} (s : Same H H') : ∀ (ds : List Da) (vs : List V), IsAll H vs ds → IsAll H' vs ds
  | [], _, h => by cases h; exact .nil
  | d :: ds, _, h => by
    cases h with
    | cons h t => exact .cons (Is.mono s d _ h) (IsAll.mono s ds _ t)
end
theorem Is.up {H H' : Hp} {v : V} {d : Da} (h : Is H v d) (s : Same H H') : Is H' v d := Is.mono s d v h
theorem IsAll.up {H H' : Hp} {v : List V} {d : List Da} (h : IsAll H v d) (s : Same H H') : IsAll H' v d := IsAll.mono s d v h
theorem IsAll.length {H : Hp} : ∀ {vs : List V} {ds : List Da}, IsAll H vs ds → vs.length = ds.length
  | _, [], h => by cases h; rfl
  | _, d :: ds, h => by
    cases h with
    | cons _ t => rw [List.length_cons, List.length_cons, IsAll.length t]
theorem IsAll.at {H : Hp} : ∀ {vs : List V} {ds : List Da} {i : Nat} {v : V}, IsAll H vs ds → vs[i]? = some v → ∃ d, ds[i]? = some d ∧ Is H v d
  | _, [], _, _, h, e => by cases h; simp at e
  | _, d :: ds, 0, _, h, e => by
    cases h with
    | cons h _ =>
      cases (Option.some.inj e)
      exact ⟨d, rfl, h⟩
  | _, d :: ds, i + 1, _, h, e => by
    cases h with
    | @cons _ vs _ _ _ t =>
      have e' : vs[i]? = some _ := e
      obtain ⟨d', h1, h2⟩ := IsAll.at t e'
      exact ⟨d', h1, h2⟩
/-! ### what kind a value is of -/
def kd : Da → String
  | .non => "NoneType" | .bl _ => "bool" | .int _ => "int" | .str _ => "str" | .tup _ => "tuple" | .lst _ => "list" | .dic => "dict"
def isI : Da → Bool
  | .int _ => true | .bl _ => true | _ => false
def isB : Da → Bool
  | .bl _ => true | _ => false
def isN : Da → Bool
  | .int _ => true | _ => false
def isS : Da → Bool
  | .tup _ => true | .lst _ => true | _ => false
def items : Da → List Da
  | .tup l => l | .lst l => l | _ => []
theorem Is.ty {K : PySem.W.Frag} {H : Hp} {v : V} {d : Da} (h : Is H v d) : TyX K H v (.type (kd d)) := by
  cases h with
  | non => exact .base .non
  | bl b => exact .base (.bl b)
  | int i => exact .base (.int i)
  | str x => exact .base (.str x)
  | tup e _ => exact .base (.tup e)
  | lst e _ => exact .base (.lst e)
  | dic e => exact .base (.dK e)
theorem kit_int : ∀ d : Da, kitB (kd d) "int" = some (isI d)
  | .non => show kitB "NoneType" "int" = some false by decide +kernel
  | .bl _ => show kitB "bool" "int" = some true by decide +kernel
  | .int _ => show kitB "int" "int" = some true by decide +kernel
  | .str _ => show kitB "str" "int" = some false by decide +kernel
  | .tup _ => show kitB "tuple" "int" = some false by decide +kernel
  | .lst _ => show kitB "list" "int" = some false by decide +kernel
  | .dic => show kitB "dict" "int" = some false by decide +kernel
theorem kit_bool : ∀ d : Da, kitB (kd d) "bool" = some (isB d)
  | .non => show kitB "NoneType" "bool" = some false by decide +kernel
  | .bl _ => show kitB "bool" "bool" = some true by decide +kernel
  | .int _ => show kitB "int" "bool" = some false by decide +kernel
  | .str _ => show kitB "str" "bool" = some false by decide +kernel
  | .tup _ => show kitB "tuple" "bool" = some false by decide +kernel
  | .lst _ => show kitB "list" "bool" = some false by decide +kernel
  | .dic => show kitB "dict" "bool" = some false by decide +kernel
def isL : Da → Bool
  | .lst _ => true | _ => false
def isT : Da → Bool
  | .tup _ => true | _ => false
theorem kit_list : ∀ d : Da, kitB (kd d) "list" = some (isL d)
  | .non => show kitB "NoneType" "list" = some false by decide +kernel
  | .bl _ => show kitB "bool" "list" = some false by decide +kernel
  | .int _ => show kitB "int" "list" = some false by decide +kernel
  | .str _ => show kitB "str" "list" = some false by decide +kernel
  | .tup _ => show kitB "tuple" "list" = some false by decide +kernel
  | .lst _ => show kitB "list" "list" = some true by decide +kernel
  | .dic => show kitB "dict" "list" = some false by decide +kernel
theorem kit_tuple : ∀ d : Da, kitB (kd d) "tuple" = some (isT d)
  | .non => show kitB "NoneType" "tuple" = some false by decide +kernel
  | .bl _ => show kitB "bool" "tuple" = some false by decide +kernel
  | .int _ => show kitB "int" "tuple" = some false by decide +kernel
  | .str _ => show kitB "str" "tuple" = some false by decide +kernel
  | .tup _ => show kitB "tuple" "tuple" = some true by decide +kernel
  | .lst _ => show kitB "list" "tuple" = some false by decide +kernel
  | .dic => show kitB "dict" "tuple" = some false by decide +kernel
theorem kit_seq {K : PySem.W.Frag} (d : Da) : PySem.W.kitAny K (.type (kd d)) [.type "list", .type "tuple"] = some (isS d) := by
  refine kitAny_cons (kit_ty (kit_list d)) (fun h => kitAny_cons (kit_ty (kit_tuple d)) (fun h2 => ?_) fun h2 => ?_) fun h => ?_
  · rw [kitAny_nil]
    cases d with
    | lst _ => cases h
    | tup _ => cases h2
    | _ => rfl
  · cases d with
    | tup _ => rfl
    | _ => cases h2
  · cases d with
    | lst _ => rfl
    | _ => cases h
section
variable {K : PySem.W.Frag} {H : Hp} {v : V} {d : Da} {Q : VK}
theorem isi_int (h : Is H v d) (q : Q (.bl (isI d)) H) : rIsi K [v, .ty "int"] H Q := ⟨v, .ty "int", _, _, _, rfl, .ty "int", h.ty, kit_ty (kit_int d), q⟩
theorem isi_bool (h : Is H v d) (q : Q (.bl (isB d)) H) : rIsi K [v, .ty "bool"] H Q := ⟨v, .ty "bool", _, _, _, rfl, .ty "bool", h.ty, kit_ty (kit_bool d), q⟩
theorem isi_tuple (h : Is H v d) (q : Q (.bl (isT d)) H) : rIsi K [v, .ty "tuple"] H Q := ⟨v, .ty "tuple", _, _, _, rfl, .ty "tuple", h.ty, kit_ty (kit_tuple d), q⟩
theorem isi_list (h : Is H v d) (q : Q (.bl (isL d)) H) : rIsi K [v, .ty "list"] H Q := ⟨v, .ty "list", _, _, _, rfl, .ty "list", h.ty, kit_ty (kit_list d), q⟩
theorem isi_seq {p : Addr} (h : Is H v d) (hp : H p = some (.tup [.ty "list", .ty "tuple"])) (q : Q (.bl (isS d)) H) : rIsiT K [v, .ref p] H Q :=
  ⟨v, p, _, _, [.type "list", .type "tuple"], _, rfl, hp, .cons (.ty "list") (.cons (.ty "tuple") .nil), h.ty, kit_seq d, q⟩
end
section
variable {X : Cx}
theorem call_isiInt : CallR X (.builtin "isinstance") (fun xs H Q => ∃ x d, xs = [x, .ty "int"] ∧ Is H x d ∧ Q (.bl (isI d)) H) := by
  intro pins s σ H xs us Q I r h
  obtain ⟨x, d, rfl, h, q⟩ := h
  exact call_isi pins s σ H _ us Q I r (isi_int h q)
theorem call_isiBool : CallR X (.builtin "isinstance") (fun xs H Q => ∃ x d, xs = [x, .ty "bool"] ∧ Is H x d ∧ Q (.bl (isB d)) H) := by
  intro pins s σ H xs us Q I r h
  obtain ⟨x, d, rfl, h, q⟩ := h
  exact call_isi pins s σ H _ us Q I r (isi_bool h q)
theorem call_isiList : CallR X (.builtin "isinstance") (fun xs H Q => ∃ x d, xs = [x, .ty "list"] ∧ Is H x d ∧ Q (.bl (isL d)) H) := by
  intro pins s σ H xs us Q I r h
  obtain ⟨x, d, rfl, h, q⟩ := h
  exact call_isi pins s σ H _ us Q I r (isi_list h q)
theorem call_isiTuple : CallR X (.builtin "isinstance") (fun xs H Q => ∃ x d, xs = [x, .ty "tuple"] ∧ Is H x d ∧ Q (.bl (isT d)) H) := by
  intro pins s σ H xs us Q I r h
  obtain ⟨x, d, rfl, h, q⟩ := h
  exact call_isi pins s σ H _ us Q I r (isi_tuple h q)
/-- isinstance(x, (list, tuple)) -/
theorem call_isiSeq : CallR X (.builtin "isinstance") (fun xs H Q => ∃ x d p, xs = [x, .ref p] ∧ H p = some (.tup [.ty "list", .ty "tuple"]) ∧ Is H x d ∧ Q (.bl (isS d)) H) := by
  intro pins s σ H xs us Q I r h
  obtain ⟨x, d, p, rfl, hp, h, q⟩ := h
  exact call_isiT pins s σ H _ us Q I r (isi_seq h hp q)
end
/-- what a sequence holds -/
theorem Is.seq {K : PySem.W.Frag} {H : Hp} {v : V} {d : Da} (h : Is H v d) (s : isS d = true) : ∃ a xs, v = .ref a ∧ (SqL K H a xs ∨ SqT K H a xs) ∧ IsAll H xs (items d) := by
  cases h with
  | tup e h => exact ⟨_, _, rfl, .inr (.inl (.inl e)), h⟩
  | lst e h => exact ⟨_, _, rfl, .inl (.inl (.inl e)), h⟩
  | _ => cases s
end Ty

namespace Ty
open PySem PySem.Spec PyProof.Rows L2
/-- a def's promise where nothing is being shown (repr) around the call -/
structure FnG (P : Program) (w : World) (K : PySem.W.Frag) (mg : Str → Option Value) (base : Heap) (CX : CXT) (k : Nat) (f : Addr) (fd : FuncData) (ps : List Str) (sp : Sp) : Prop where
  len : ∀ vs H Q E, sp vs H Q E → vs.length = ps.length
  run : ∀ (A : Around), A.guards = some [] → ∀ (outer : List Env) (s : Shared) (H : Hp) (args : Args) (us : List Value) (vs : List V) (Q : VK) (E : XK), Room k A → Env0 P w K mg base A outer s H → BindsTo s fd args (ps.zip us) → Vals vs us → sp vs H Q E →
    codeAny (model P w) A (.call (.ref f) args) (CR CX outer P w H s Q E) s
section
variable {P : Program} {w : World} {K : PySem.W.Frag} {mg : Str → Option Value} {base : Heap}
theorem FnG.of {CX : CXT} {k : Nat} {f : Addr} {fd : FuncData} {ps : List Str} {sp : Sp} (F : FnOk P w K mg base CX k f fd ps sp) : FnG P w K mg base CX k f fd ps sp :=
  ⟨F.len, fun A _ outer s H args us vs Q E => F.run A outer s H args us vs Q E⟩
theorem Fun.okX {CX : CXT} {y qual : Str} {st : Stmt} {f : Addr} {fd : FuncData} {N ps : List Str} {k : Nat} {sp : Sp} (F : Fun K y qual st f fd) (S : FnScope N ps (defScope st)) (len : ∀ vs H Q E, sp vs H Q E → vs.length = ps.length)
    (body : ∀ (cdv : Value) (A : Around) (outer : List Env) (s : Shared) (H : Hp) (vs : List V) (Q : VK) (E : XK), A.guards = some [] → Room k (A.deeper (envOfC qual (defScope st) s.heap.objs.size f cdv)) → sp vs H Q E →
      ∃ t, PSs (cxOf CX P w K mg base N qual (defScope st) f cdv A outer s H E) (defBody st) t ∧ t { nx := fun _ H' => Q .non H', rt := Q } (start N vs) H) : FnG P w K mg base CX (k + 1) f fd ps sp := by
  obtain ⟨oc, od, kV, doc, pm, an, cdv, ct, osl, rfl, lk, hcd⟩ := F.ex
  constructor
  · exact len
  intro A hgd outer s H args us vs Q E hr e0 hb r hsp
  obtain ⟨t, ht, hq⟩ := body cdv A outer s H vs Q E hgd (hr.deeper _) hsp
  have up : ∀ b o, base.get? b = some o → s.heap.get? b = some o := fun b o e => (e0.bs b o e).1
  have KX : K.In s.heap := e0.mod.kin.keeps up
  refine codeAny_call_function hr.depth (KX _ _ lk) rfl S.co S.gen rfl (PySem.W.codeRec_of KX hcd) (hb _ _ _ _ (wpAny_newFunctionEnv_cells S.kind ?_ ?_))
  · rintro ⟨n, v⟩ hy
    rcases S.par n (List.of_mem_zip hy).1 with q | q
    · exact Or.inl q
    · exact Or.inr ⟨q, PySem.W.cellsFrom_some _ _ _ (Or.inl q)⟩
  · intro env he s1 x
    subst he
    refine ⟨(e0.mod.nolimit.keeps up).keeps x.toInCall.keep, codeAny_func ?_⟩
    refine wpAny_mono (ht.run [] s1 (start N vs) H _ (inv_start S hr.hd e0 (len _ _ _ _ hsp) r x) hq) ?_ fun _ _ h => h
    intro fl s' hs
    cases fl with
    | ret u => obtain ⟨v, σ', H', J, rv, q⟩ := hs; exact ⟨v, H', J.os, J.bare, J.base, J.hok, rv, q⟩
    | next => obtain ⟨σ', H', J, q⟩ := hs; exact ⟨V.non, H', J.os, J.bare, J.base, J.hok, rfl, q⟩
    | brk => obtain ⟨_, _, _, q⟩ := hs; cases q
    | cont => obtain ⟨_, _, _, q⟩ := hs; cases q
theorem Fun.okG {y qual : Str} {st : Stmt} {f : Addr} {fd : FuncData} {N ps : List Str} {k : Nat} {sp : Sp} (F : Fun K y qual st f fd) (S : FnScope N ps (defScope st)) (len : ∀ vs H Q E, sp vs H Q E → vs.length = ps.length)
    (body : ∀ (cdv : Value) (A : Around) (outer : List Env) (s : Shared) (H : Hp) (vs : List V) (Q : VK) (E : XK), A.guards = some [] → Room k (A.deeper (envOfC qual (defScope st) s.heap.objs.size f cdv)) → sp vs H Q E →
      ∃ t, PSs (cxOf CX0 P w K mg base N qual (defScope st) f cdv A outer s H E).nox (defBody st) t ∧ t { nx := fun _ H' => Q .non H', rt := Q } (start N vs) H) : FnG P w K mg base CX0 (k + 1) f fd ps sp := by
  refine Ty.Fun.okX F S len ?_
  intro cdv A outer s H vs Q E h1 h2 h3
  obtain ⟨t, h4, h5⟩ := body cdv A outer s H vs Q E h1 h2 h3
  exact ⟨t, h4.nox, h5⟩
end
section
variable {X : Cx} {CX : CXT} {k n : Nat} {f : Addr} {fd : FuncData} {ps ks : List Str} {sp : Sp} {E : XK} {x : Str} {p pos : Pos} {e : Expr} {es : List Expr} {t : TA} {dvs : List V} {ds : List Value}
/-- f(e, ..) of such a def -/
theorem pe_callG (hgd : X.A.guards = some []) (F : FnG X.prog X.w X.K X.mg X.base CX k f fd ps sp) (hr : Room k X.A) (hg : Gl X x) (hm : X.mg x = some (.ref f)) (hk : PySem.W.keepIn X.K (.ref f) = true) (hb : Binds X.K fd ps ds) (hd : Vals dvs ds) (hx : Passes CX X E)
    (ha : PA X (e :: es) t) (hdb : (x == ("__debug__" : Str)) = false := by decide) (he : starEach (e :: es) X.env = (false, eval e X.env) :: starEach es X.env := by rfl) (hpl : (backTo pos (starEach es X.env)).any (·.1) = false := by rfl) :
    PE X (.Call (.Name x p) (e :: es) [] pos) (tCall sp dvs E t) := by
  constructor
  intro pins s σ H Q I h
  refine wpAny_Call_Name_kw (ld_glob I hg hm (PySem.W.callWith_K (h₀ := X.base) I.ok.mod.kin hk (thn (ha.run pos pins s σ H _ I h) ?_) he hpl) hdb)
  rintro us s1 ⟨vs, H1, I1, r, q⟩
  have r2 : Vals (vs ++ dvs) (us ++ ds) := r.append hd
  refine ⟨I1.kIn, wpAny_call (codeAny_mono (F.run X.A hgd X.stack s1 H1 ⟨us, []⟩ (us ++ ds) (vs ++ dvs) Q E hr I1.env0 (hb s1 us I1.kIn (r2.length.symm.trans (F.len _ _ _ _ q))) r2 q) ?_)⟩
  intro r s' hq
  cases r with
  | error e => exact hx pins σ H1 s1 e s' I1 hq
  | ok fl =>
    cases fl with
    | ret u => exact I1.after hq
    | _ => cases hq
end
/-- the law's call, where the law's def is promised so -/
theorem lawG {P : Program} {w : World} {K : PySem.W.Frag} {mg mb : Str → Option Value} {CX : CXT} {k : Nat} {fa a : Addr} {fd : FuncData} {x : Str} {sp : Sp} {s1 : Shared} {vs : List Value} {ns : List Int}
    (KX : K.In s1.heap) (hns : s1.heap.Ns mainGlobals mg) (hb : s1.heap.Ns builtinsNs mb) (hbb : ∀ x : Str, x ≠ "__name__" → mb x = bootBuiltins x) (hlim : s1.heap.NoLimit) (hg : s1.gens = #[])
    (ha : s1.heap.get? a = some { cls := .type "list", data := .seq vs.toArray }) (hi : IntsAre vs ns) (hl : ns.length ≤ sizeLine) (hr : Room k callerA)
    (F : ∀ base : Heap, K.In base → base.Ns mainGlobals mg → FnG P w K mg base CX k fa fd [x] sp) (hbind : ∀ (s : Shared) (u : Value), BindsTo s fd ⟨[u], []⟩ [(x, u)])
    (hsp : ∀ H : Hp, Only H → SqL K H a (ns.map V.int) → sp [.ref a] H (fun v _ => v = .bl true) fun _ _ _ => False)
    (hCX : ∀ H e s', CX [] H s1 (fun _ _ _ => False) e s' → False) :
    codeAny (model P w) callerA (.call (.ref fa) ⟨[.ref a], []⟩) (fun r s' => r = .ok (.ret (.bool true)) ∧ OldK s1.heap s'.heap ∧ s'.os = s1.os ∧ AllBare s'.gens) s1 := by
  have rv := vals_ints hi
  suffices main : ∃ H : Hp, Only H ∧ SqL K H a (ns.map V.int) ∧ HOk P w H s1.heap ∧ (∀ b, H b ≠ none → b = a) ∧ (H a ≠ none → K.lookup a = none) by
    obtain ⟨H, hO, hS, hok, hA, hK⟩ := main
    have free : ∀ {b : Addr}, b ≠ a → H b = none := fun {b} z => by
      cases q : H b with
      | none => rfl
      | some _ => exact absurd (hA b (by rw [q]; exact nofun)) z
    have dictFree : ∀ {b : Addr} {o : Obj} {es : Array DictEntry} {ep : Nat}, s1.heap.get? b = some o → o.data = .dict es ep → H b = none := fun {b o es ep} e d => by
      refine free fun z => ?_
      rw [z, ha] at e
      cases e
      cases (show Data.seq vs.toArray _ = Data.dict es ep from d)
    have keepNs : ∀ {b : Addr} {m : Str → Option Value}, s1.heap.Ns b m → (hidT s1.heap H).Ns b m := by
      rintro b m ⟨o, es, ep, e, d, r⟩
      exact ⟨o, es, ep, hidT_get e (dictFree e d), d, r⟩
    have KB : K.In (hidT s1.heap H) := fun b o e => by
      refine hidT_get (KX b o e) ?_
      by_cases z : b = a
      · cases q : H b with
        | none => rfl
        | some _ =>
          have z2 := hK (by rw [← z, q]; exact nofun)
          rw [← z, e] at z2
          cases z2
      · exact free z
    have M : Mod K mg (hidT s1.heap H) := by
      obtain ⟨mc, h1, h2⟩ := hlim
      exact ⟨KB, keepNs hns, ⟨mb, keepNs hb, hbb⟩, ⟨mc, keepNs h1, h2⟩⟩
    have e0 : Env0 P w K mg (hidT s1.heap H) callerA [] s1 H := by
      refine ⟨rfl, M, fun b o e => of_hidT e, Nat.le_of_eq (hidT_size _ _), trivial, ?_, hok, .of_eq hg⟩
      intro b hb
      cases hb
    refine codeAny_mono ((F _ KB (keepNs hns)).run callerA rfl [] s1 H ⟨[.ref a], []⟩ [.ref a] [.ref a] _ _ hr e0 (hbind s1 (.ref a)) (.cons rfl .nil) (hsp H hO hS)) ?_
    intro r s' h
    cases r with
    | error e => exact (hCX H e s' h).elim
    | ok fl =>
      cases fl with
      | ret u =>
        obtain ⟨v, H', os, bare, un, hok', r', q⟩ := h
        subst q
        obtain rfl : u = Value.bool true := r'
        refine ⟨rfl, OldK.of_keep ?_, os, bare⟩
        intro b o e
        cases q : H b with
        | none => exact un.keep b o e q (fun z => by cases z) (by simp)
        | some u =>
          rcases hO b with z | ⟨ob, xs, z⟩
          · rw [q] at z
            cases z
          · obtain ⟨e1, _⟩ := hok b _ z
            obtain ⟨e2, _⟩ := hok' b _ (un.frzs b ob _ z)
            rw [e] at e1
            cases e1
            exact e2
      | _ => cases h
  cases hk : K.lookup a with
  | some o =>
    have e := KX a o hk
    rw [ha] at e
    cases e
    have hz : vs.toArray.size ≤ sizeLine := by
      rw [List.size_toArray, hi.length]
      exact hl
    exact ⟨fun _ => none, fun _ => .inl rfl, .inr ⟨_, vs.toArray, _, hk, rfl, rfl, rfl, hz, by simpa using rv⟩, fun b u z => (nomatch z), fun b z => absurd rfl z, fun z => absurd rfl z⟩
  | none =>
    refine ⟨upd (fun _ => none) a (.frz { cls := .type "list", data := .seq vs.toArray } (.lst (ns.map V.int))), fun b => ?_, .inl (.inr ⟨_, upd_same⟩), fun b u z => ?_, fun b z => ?_, fun _ => rfl⟩
    · by_cases q : b = a
      · subst q
        exact .inr ⟨_, _, upd_same⟩
      · exact .inl (upd_ne q)
    · by_cases q : b = a
      · subst q
        rw [upd_same] at z
        cases z
        exact ⟨ha, by rw [List.length_map]; exact hl, vs, _, rv, ha⟩
      · rw [upd_ne q] at z
        cases z
    · by_cases q : b = a
      · exact q
      · exact absurd (upd_ne q) z
theorem walkG {l : PySem.W.OpenLaw} {n k : Nat} {q : Program} {loose : List Str} {XP : (Str → Option Value) → Heap → Prop} {YP : World → Heap → Prop} {d : DefRec} {K : Params → PySem.W.Frag} {CX : World → CXT} {sp : World → Sp} {x : Str}
    (hn : l.most = some n) (hn2 : n ≤ sizeLine) (hdf : d.params.defaults = []) (hr : Room k callerA)
    (hY : ∀ (w : World) (h : Heap), YP w h → (K w.params).In h)
    (F : ∀ (w : World) (mg : Str → Option Value) (fa : Addr) (h : Heap), (K w.params).In h → h.Ns mainGlobals mg → mg d.name = some (.ref fa) →
      ∃ fd : FuncData, (∀ (s : Shared) (u : Value), BindsTo s fd ⟨[u], []⟩ [(x, u)]) ∧
        ∀ base : Heap, (K w.params).In base → base.Ns mainGlobals mg → FnG l.prog w (K w.params) mg base (CX w) k fa fd [x] (sp w))
    (hsp : ∀ (w : World) (H : Hp) (a : Addr) (ns : List Int), ns.length ≤ n → Only H → SqL (K w.params) H a (ns.map V.int) → sp w [.ref a] H (fun v _ => v = .bl true) fun _ _ _ => False)
    (hCX : ∀ (w : World) (H : Hp) (s : Shared) (e : Value) (s' : Shared), CX w [] H s (fun _ _ _ => False) e s' → False) :
    PySem.W.WalkO q loose XP YP l.row.toRowW d [] (fun f vs => PySem.call f vs) := by
  refine Att.attach_call hn hdf ?_
  intro w s0 s1 mg mb fa o pm cd doc a vs ns G Y ho hd hcd hmg hobj hints hlen hg
  obtain ⟨fd, hb, hF⟩ := F w mg fa _ (hY w _ Y) G.T.g hmg
  refine lawG (hY w _ Y) G.T.g G.T.b G.T.builtins G.T.nolimit hg hobj hints (Nat.le_trans hlen hn2) hr hF hb (hsp w · a ns hlen) ?_
  exact fun H e s' => hCX w H s1 e s'
end Ty
namespace Ty
open PySem PySem.Spec PyProof.Rows L2
/-- the values in the parameters' order -/
def perm {α : Type} (is : List Nat) (l : List α) : List α := is.filterMap fun i => l[i]?
theorem Vals.perm {vs : List V} {us : List Value} (r : Vals vs us) : ∀ is : List Nat, Vals (Ty.perm is vs) (Ty.perm is us)
  | [] => .nil
  | i :: is => by
    have ih := Vals.perm r is
    cases e : vs[i]? with
    | none =>
      have e2 : us[i]? = none := by
        rw [List.getElem?_eq_none_iff] at e ⊢
        rw [← r.length]
        exact e
      have h1 : Ty.perm (i :: is) vs = Ty.perm is vs := by
        unfold Ty.perm
        rw [List.filterMap_cons, e]
      have h2 : Ty.perm (i :: is) us = Ty.perm is us := by
        unfold Ty.perm
        rw [List.filterMap_cons, e2]
      rw [h1, h2]
      exact ih
    | some v =>
      obtain ⟨u, e2, ru⟩ := r.get e
      have h1 : Ty.perm (i :: is) vs = v :: Ty.perm is vs := by
        unfold Ty.perm
        rw [List.filterMap_cons, e]
      have h2 : Ty.perm (i :: is) us = u :: Ty.perm is us := by
        unfold Ty.perm
        rw [List.filterMap_cons, e2]
      rw [h1, h2]
      exact .cons ru ih
/-- what a for or a comprehension walks: a list or a tuple -/
theorem pi_or {X : Cx} {tg l : Expr} {w w' : TI} (h : PI X tg l w) (h' : PI X tg l w') : PI X tg l (fun σ H R => w σ H R ∨ w' σ H R) := by
  refine ⟨?_⟩
  intro pins s σ H R I hw
  rcases hw with hw | hw
  · exact h.run pins s σ H R I hw
  · exact h'.run pins s σ H R I hw
end Ty

namespace Ty
open PySem PySem.Spec PyProof.Rows L2
/-! ### tests -/
section
variable {b : Bool} {c A B : Prop}
theorem iteN (h1 : b = false → A) (h2 : b = true → B) : if (!b) = true then A else B := by
  cases b with
  | false => rw [if_pos (by rfl)]; exact h1 rfl
  | true => rw [if_neg (by decide)]; exact h2 rfl
theorem iteB (h1 : b = true → A) (h2 : b = false → B) : if b = true then A else B := by
  cases b with
  | false => rw [if_neg (by decide)]; exact h2 rfl
  | true => rw [if_pos rfl]; exact h1 rfl
theorem iteD [Decidable c] (h1 : c → A) (h2 : ¬ c → B) : if decide c = true then A else B := by
  by_cases h : c
  · rw [if_pos (decide_eq_true h)]; exact h1 h
  · rw [if_neg (by rw [decide_eq_false h]; decide)]; exact h2 h
theorem iteE [Decidable c] (h1 : ¬ c → A) (h2 : c → B) : if (!decide c) = true then A else B := by
  by_cases h : c
  · rw [if_neg (by rw [decide_eq_true h]; decide)]; exact h2 h
  · rw [if_pos (by rw [decide_eq_false h]; rfl)]; exact h1 h
end
theorem int_ne {i j : Int} (h : ¬ V.int i = V.int j) : i ≠ j := fun e => h (congrArg V.int e)
theorem int_eq {i j : Int} (h : V.int i = V.int j) : i = j := by injection h
/-! ### numbers, points, turns among all values -/
def coprime (a b : Int) : Bool := decide (Nat.gcd a.natAbs b.natAbs = 1)
def isPair : List Da → Bool
  | [.int a, .int b] => decide (2 ≤ b) && coprime a b
  | _ => false
theorem isPair_len : ∀ l : List Da, l.length ≠ 2 → isPair l = false := by
  intro l h
  unfold isPair
  split
  · exact absurd rfl h
  · rfl
def isNum (d : Da) : Bool := isN d || (isS d && isPair (items d))
def isTwo : List Da → Bool
  | [a, b] => isNum a && isNum b
  | _ => false
def isPt (d : Da) : Bool := isS d && isTwo (items d)
/-- above and below the line -/
def above : Da → Int
  | .int i => i
  | .tup [.int a, _] => a
  | .lst [.int a, _] => a
  | _ => 0
def below : Da → Int
  | .int _ => 1
  | .tup [_, .int b] => b
  | .lst [_, .int b] => b
  | _ => 1
def onRing : List Da → Bool
  | [x, y] => decide ((above x * below y) ^ 2 + (above y * below x) ^ 2 = (below x * below y) ^ 2)
  | _ => false
def isTurn (d : Da) : Bool := isPt d && onRing (items d)
def optV : Option Int → V
  | none => .non
  | some i => .int i
def okLo (i : Int) : Option Int → Bool
  | none => true
  | some l => decide (l ≤ i)
def okHi (i : Int) : Option Int → Bool
  | none => true
  | some m => decide (i ≤ m)
def within (d : Da) (lo hi : Option Int) : Bool := match d with
  | .int i => okLo i lo && okHi i hi
  | _ => false
/-! ### promises -/
def spD (f : Da → Bool) : Sp := fun vs H Q _ => ∃ v d, vs = [v] ∧ Is H v d ∧ ∀ H', Same H H' → Q (.bl (f d)) H'
def spW : Sp := fun vs H Q _ => ∃ v d lo hi, vs = [v, optV lo, optV hi] ∧ Is H v d ∧ ∀ H', Same H H' → Q (.bl (within d lo hi)) H'
theorem isN_of {H : Hp} {v : V} {d : Da} (h : Is H v d) (e : isN d = true) : ∃ i, v = .int i ∧ d = .int i := by
  cases h with
  | int i => exact ⟨i, rfl, rfl⟩
  | _ => cases e
/-- the integers of a value are below 2 ^ n -/
def smallA (n : Nat) : List Da → Bool
  | [] => true
  | .int i :: l => decide (i.natAbs < 2 ^ n) && smallA n l
  | _ :: l => smallA n l
def small2 (n : Nat) : Da → Bool
  | .int i => decide (i.natAbs < 2 ^ n)
  | .tup l => smallA n l
  | .lst l => smallA n l
  | _ => true
def small3 (n : Nat) (d : Da) : Bool := (items d).all (small2 n)
/-- more bits than any integer has here -/
def huge : Nat := 200000
def spT : Sp := fun vs H Q _ => ∃ v d, vs = [v] ∧ Is H v d ∧ small3 huge d = true ∧ ∀ H', Same H H' → Q (.bl (isTurn d)) H'
/-- above and below of a number that stands there -/
theorem num_cases {H : Hp} {v : V} {d : Da} (h : Is H v d) (e : isNum d = true) : (∃ i, v = .int i ∧ d = .int i) ∨
    ∃ a i j, v = .ref a ∧ (H a = some (.tup [.int i, .int j]) ∧ d = .tup [.int i, .int j] ∨ H a = some (.lst [.int i, .int j]) ∧ d = .lst [.int i, .int j]) ∧ 2 ≤ j ∧ Nat.gcd i.natAbs j.natAbs = 1 := by
  have two : ∀ {xs : List V} {ds : List Da}, IsAll H xs ds → isPair ds = true → ∃ i j, xs = [.int i, .int j] ∧ ds = [.int i, .int j] ∧ 2 ≤ j ∧ Nat.gcd i.natAbs j.natAbs = 1 := by
    intro xs ds hx hp
    match ds, hp with
    | [.int a, .int b], hp =>
      have hp' : (decide (2 ≤ b) && coprime a b) = true := hp
      rw [Bool.and_eq_true] at hp'
      cases hx with
      | cons h1 hx =>
        cases hx with
        | cons h2 hx =>
          cases hx
          cases h1
          cases h2
          exact ⟨a, b, rfl, rfl, of_decide_eq_true hp'.1, of_decide_eq_true hp'.2⟩
  cases h with
  | int i => exact .inl ⟨i, rfl, rfl⟩
  | tup ha hx =>
    obtain ⟨i, j, rfl, rfl, h2, h3⟩ := two hx (by simpa [isNum, isN, isS, items] using e)
    exact .inr ⟨_, i, j, rfl, .inl ⟨ha, rfl⟩, h2, h3⟩
  | lst ha hx =>
    obtain ⟨i, j, rfl, rfl, h2, h3⟩ := two hx (by simpa [isNum, isN, isS, items] using e)
    exact .inr ⟨_, i, j, rfl, .inr ⟨ha, rfl⟩, h2, h3⟩
  | _ => cases e
/-- a number's two parts, given as a pair: a tuple, or the list itself -/
def spParts : Sp := fun vs H Q _ => ∃ v d, vs = [v] ∧ Is H v d ∧ isNum d = true ∧ ∀ H' p, Same H H' → (H' p = some (.tup [.int (above d), .int (below d)]) ∨ H' p = some (.lst [.int (above d), .int (below d)])) → Q (.ref p) H'
end Ty
namespace Ty
open PySem PySem.Spec PyProof.Rows L2
theorem dec_int (i j : Int) : decide (V.int i = V.int j) = decide (i = j) := by
  by_cases h : i = j
  · rw [decide_eq_true h]
    exact decide_eq_true (by rw [h])
  · rw [decide_eq_false h]
    exact decide_eq_false fun z => h (int_eq z)
/-- a number's two parts as a pair -/
def PtP (H : Hp) (u : V) (d : Da) : Prop := ∃ p, u = .ref p ∧ (H p = some (.tup [.int (above d), .int (below d)]) ∨ H p = some (.lst [.int (above d), .int (below d)]))
theorem PtP.up {H H' : Hp} {u : V} {d : Da} (h : PtP H u d) (s : Same H H') : PtP H' u d := by
  obtain ⟨p, rfl, h | h⟩ := h
  · exact ⟨p, rfl, .inl (s _ _ h)⟩
  · exact ⟨p, rfl, .inr (s _ _ h)⟩
theorem PtP.upd {H : Hp} {u : V} {d : Da} {D : Addr} {o : HO} {acc : List V} (h : PtP H u d) (hD : H D = some (.lst acc)) (hl : acc.length ≠ 2) : PtP (L2.upd H D o) u d := by
  obtain ⟨p, rfl, h | h⟩ := h
  · refine ⟨p, rfl, .inl ?_⟩
    rw [upd_ne (ne_of h hD (by intro z; cases z))]
    exact h
  · refine ⟨p, rfl, .inr ?_⟩
    rw [upd_ne (fun z => by
      rw [z, hD] at h
      injection h with h
      injection h with h
      exact hl (by rw [h]; rfl))]
    exact h
theorem un2 {K : PySem.W.Frag} {H : Hp} {u : V} {d : Da} {i j : Nat} {σ : L2.St} {Q : L2.St → Hp → Prop} (h : PtP H u d) (q : Q ((σ.set i (some (.int (above d)))).set j (some (.int (below d)))) H) :
    gUnl K 2 (gCons (gName i) (gCons (gName j) gNil)) u σ H Q ∨ gTup K 2 (gCons (gName i) (gCons (gName j) gNil)) u σ H Q := by
  obtain ⟨p, rfl, h | h⟩ := h
  · exact .inr ⟨p, _, rfl, .inl (.inl h), rfl, _, _, rfl, _, _, rfl, rfl, q⟩
  · exact .inl ⟨p, _, rfl, .inl (.inl h), rfl, _, _, rfl, _, _, rfl, rfl, q⟩
theorem parts_small {n : Nat} {d : Da} (h0 : 0 < n) (h : isNum d = true) (hs : small2 n d = true) : (above d).natAbs < 2 ^ n ∧ (below d).natAbs < 2 ^ n := by
  have one : (1 : Int).natAbs < 2 ^ n := Nat.one_lt_two_pow (by omega)
  match d, h, hs with
  | .int i, _, hs => exact ⟨of_decide_eq_true hs, one⟩
  | .tup [.int a, .int b], _, hs =>
    have hs' : (decide (a.natAbs < 2 ^ n) && (decide (b.natAbs < 2 ^ n) && true)) = true := hs
    rw [Bool.and_eq_true, Bool.and_eq_true] at hs'
    exact ⟨of_decide_eq_true hs'.1, of_decide_eq_true hs'.2.1⟩
  | .lst [.int a, .int b], _, hs =>
    have hs' : (decide (a.natAbs < 2 ^ n) && (decide (b.natAbs < 2 ^ n) && true)) = true := hs
    rw [Bool.and_eq_true, Bool.and_eq_true] at hs'
    exact ⟨of_decide_eq_true hs'.1, of_decide_eq_true hs'.2.1⟩
theorem pow_ok {i : Int} {a : Nat} (h : i.natAbs < 2 ^ a) (h0 : 0 < a) (ha : a ≤ 1000000) : CPowW i 2 :=
  ⟨by decide, by decide, Nat.lt_of_lt_of_le (PySem.Flt.log2_lt_of h0 h) ha⟩
theorem Same.mut {H H' : Hp} {p : Addr} {o : HO} (e : Same H H') (h : H p = none) : Same H (upd H' p o) := fun a u ha => by
  rw [upd_ne (ne_of_none ha h)]
  exact e a u ha
theorem isPt_of {d : Da} (h : isPt d = true) : isS d = true ∧ ∃ x y, items d = [x, y] ∧ isNum x = true ∧ isNum y = true := by
  have h' : (isS d && isTwo (items d)) = true := h
  rw [Bool.and_eq_true] at h'
  refine ⟨h'.1, ?_⟩
  have h2 := h'.2
  match items d, h2 with
  | [x, y], h2 =>
    have h3 : (isNum x && isNum y) = true := h2
    rw [Bool.and_eq_true] at h3
    exact ⟨x, y, rfl, h3.1, h3.2⟩
theorem IsAll.two {H : Hp} {xs : List V} {x y : Da} (h : IsAll H xs [x, y]) : ∃ u v, xs = [u, v] ∧ Is H u x ∧ Is H v y := by
  cases h with
  | cons h1 h =>
    cases h with
    | cons h2 h =>
      cases h
      exact ⟨_, _, rfl, h1, h2⟩
end Ty

namespace Ty
open PySem PySem.Spec PyProof.Rows L2
/-! ### what is drawn from: one list that changes, all else stays -/
/-- the heap without some addresses -/
def mn (S : Addr → Bool) (H : Hp) : Hp := fun b => if S b = true then none else H b
theorem mn_at {S : Addr → Bool} {H : Hp} {b : Addr} (h : S b = false) : mn S H b = H b := if_neg (by rw [h]; decide)
theorem mn_of {S : Addr → Bool} {H : Hp} {b : Addr} {o : HO} (h : mn S H b = some o) : S b = false ∧ H b = some o := by
  cases e : S b with
  | true =>
    have z : mn S H b = none := if_pos e
    rw [z] at h
    cases h
  | false => exact ⟨rfl, (mn_at e).symm.trans h⟩
theorem mn_same {S : Addr → Bool} {H : Hp} : Same (mn S H) H := fun _ _ h => (mn_of h).2
/-- they all stand -/
def Live (S : Addr → Bool) (H : Hp) : Prop := ∀ b, S b = true → H b ≠ none
theorem mn_put {S : Addr → Bool} {H : Hp} {p : Addr} {o : HO} (l : Live S H) (h : H p = none) : mn S (upd H p o) p = some o := by
  have e : S p = false := by
    cases e : S p with
    | false => rfl
    | true => exact absurd h (l p e)
  rw [mn_at e]
  exact upd_same
theorem Same.less {S : Addr → Bool} {H H' : Hp} (s : Same H H') : Same (mn S H) (mn S H') := fun b o h => by
  obtain ⟨h1, h2⟩ := mn_of h
  rw [mn_at h1]
  exact s _ _ h2
/-- what is not the list at j stays -/
def Keep (j : Addr) (H H' : Hp) : Prop := ∀ b o, b ≠ j → H b = some o → H' b = some o
theorem Keep.refl {j : Addr} (H : Hp) : Keep j H H := fun _ _ _ h => h
theorem Keep.trans {j : Addr} {H H1 H2 : Hp} (a : Keep j H H1) (b : Keep j H1 H2) : Keep j H H2 := fun c o h e => b c o h (a c o h e)
theorem Same.keep {j : Addr} {H H' : Hp} (s : Same H H') : Keep j H H' := fun b o _ h => s b o h
theorem keep_upd {H : Hp} {j : Addr} {o : HO} : Keep j H (upd H j o) := fun b u h e => by
  rw [upd_ne h]
  exact e
theorem Keep.less {S : Addr → Bool} {j : Addr} {H H' : Hp} (k : Keep j H H') (hj : S j = true) : Same (mn S H) (mn S H') := fun b o h => by
  obtain ⟨h1, h2⟩ := mn_of h
  rw [mn_at h1]
  exact k b o (fun z => by rw [z, hj] at h1; cases h1) h2
/-- the list at j: the cells, how many were begun (n at most), what is left of a great one -/
def Jar (j b : Addr) (H : Hp) (n : Nat) : Prop := ∃ (cells : List Int) (at_ left : Int), H j = some (.lst [.ref b, .int at_, .int left]) ∧ H b = some (.lst (cells.map V.int)) ∧ b ≠ j ∧ 0 ≤ at_ ∧ at_ ≤ (n : Int)
theorem Jar.up {j bk : Addr} {H H' : Hp} {n : Nat} (h : Jar j bk H n) (s : Same H H') : Jar j bk H' n := by
  obtain ⟨cells, a, l, h1, h2, h3, h4⟩ := h
  exact ⟨cells, a, l, s _ _ h1, s _ _ h2, h3, h4⟩
theorem Live.up {S : Addr → Bool} {j bk : Addr} {H H' : Hp} {n : Nat} (l : Live S H) (k : Keep j H H') (J : Jar j bk H' n) : Live S H' := fun b hb => by
  by_cases e : b = j
  · subst e
    obtain ⟨cells, a, lf, h1, _⟩ := J
    rw [h1]
    exact nofun
  · cases q : H b with
    | none => exact absurd q (l b hb)
    | some o =>
      rw [k b o e q]
      exact nofun
theorem Jar.put {j bk a : Addr} {H : Hp} {n : Nat} {o : HO} (h : Jar j bk H n) (h1 : a ≠ j) (h2 : a ≠ bk) : Jar j bk (upd H a o) n := by
  obtain ⟨cells, at_, l, e1, e2, e3⟩ := h
  refine ⟨cells, at_, l, ?_, ?_, e3⟩
  · rw [upd_ne h1.symm]
    exact e1
  · rw [upd_ne h2.symm]
    exact e2
theorem Jar.newB {j bk p : Addr} {H : Hp} {n : Nat} (h : Jar j bk H n) (hp : H p = none) : p ≠ bk := by
  obtain ⟨cells, at_, l, _, h1, _⟩ := h
  exact fun e => by rw [e, h1] at hp; cases hp
theorem Jar.le {j bk : Addr} {H : Hp} {n m : Nat} (h : Jar j bk H n) (s : n ≤ m) : Jar j bk H m := by
  obtain ⟨cells, a, l, h1, h2, h3, h4, h5⟩ := h
  exact ⟨cells, a, l, h1, h2, h3, h4, by omega⟩
theorem Jar.new {j bk p : Addr} {H : Hp} {n : Nat} (h : Jar j bk H n) (hp : H p = none) : p ≠ j := by
  obtain ⟨cells, a, l, h1, _⟩ := h
  exact fun e => by rw [e, h1] at hp; cases hp
/-- an integer from 0 below many -/
def spReach : Sp := fun vs H Q _ => ∃ (j bk : Addr) (many : Int) (n : Nat), vs = [.ref j, .int many] ∧ Jar j bk H n ∧ n ≤ 100000 ∧ 0 < many ∧ many.natAbs < 2 ^ 8000 ∧
  ∀ (r : Int) (H' : Hp), Keep j H H' → Jar j bk H' (n + 1) → 0 ≤ r → r < many → Q (.int r) H'
/-- one of some things -/
def spPick : Sp := fun vs H Q _ => ∃ (j bk p : Addr) (xs : List V) (n : Nat), vs = [.ref j, .ref p] ∧ Jar j bk H n ∧ n ≤ 100000 ∧ H p = some (.lst xs) ∧ p ≠ j ∧ 0 < xs.length ∧ xs.length ≤ 1000 ∧
  ∀ (v : V) (H' : Hp), Keep j H H' → Jar j bk H' (n + 1) → v ∈ xs → Q v H'
/-- what draws, made of the script -/
def spSack (K : PySem.W.Frag) : Sp := fun vs H Q _ => ∃ (a : Addr) (ns : List Int), vs = [.ref a] ∧ SqL K H a (ns.map V.int) ∧ ns.length ≤ 1000 ∧
  ∀ (j bk : Addr) (H' : Hp), Same H H' → H j = none → H bk = none → Jar j bk H' 0 → Q (.ref j) H'
theorem mod_lt_of {a b : Int} (h : 0 < b) : 0 ≤ a % b ∧ a % b < b := ⟨Int.emod_nonneg _ (by omega), Int.emod_lt_of_pos _ h⟩
theorem atI_of {xs : List V} {i : Int} {v : V} {n : Nat} (h0 : 0 ≤ i) (hn : i.toNat = n) (h : xs[n]? = some v) : atI xs i = some v := by
  have e : i = ((n : Nat) : Int) := by omega
  rw [e]
  exact atI_nat h
theorem cut_ints (ns : List Int) (lo hi : Option Int) : ∃ ms : List Int, cutV (ns.map V.int) lo hi = ms.map V.int ∧ ms.length ≤ ns.length := by
  refine ⟨(ns.drop (HT.sIx (ns.map V.int).length 0 lo)).take (HT.sIx (ns.map V.int).length (ns.map V.int).length hi - HT.sIx (ns.map V.int).length 0 lo), ?_, ?_⟩
  · unfold cutV
    rw [List.map_take, List.map_drop]
  · rw [List.length_take, List.length_drop]
    omega
end Ty

namespace Ty
open PySem PySem.Spec PyProof.Rows L2
/-! ### drawing: an expression that may draw from the list at j; S: what is out of the data (j is) -/
/-- from any heap behind H0 the expression gives a value of which P holds; c draws at most -/
def Dr (S : Addr → Bool) (j bk : Addr) (H0 : Hp) (c : Nat) (σ : L2.St) (te : TE) (P : Da → Prop) : Prop := ∀ (H : Hp) (n : Nat) (Q : VK), Keep j H0 H → Live S H → Jar j bk H n → n + c ≤ 100000 →
  (∀ v d H', Keep j H H' → Live S H' → Jar j bk H' (n + c) → Is (mn S H') v d → P d → Q v H') → te σ H Q
def DrA (S : Addr → Bool) (j bk : Addr) (H0 : Hp) (c : Nat) (σ : L2.St) (ta : TA) (P : List Da → Prop) : Prop := ∀ (H : Hp) (n : Nat) (Q : List V → Hp → Prop), Keep j H0 H → Live S H → Jar j bk H n → n + c ≤ 100000 →
  (∀ vs ds H', Keep j H H' → Live S H' → Jar j bk H' (n + c) → IsAll (mn S H') vs ds → P ds → Q vs H') → ta σ H Q
/-- a test -/
def DrT (S : Addr → Bool) (j bk : Addr) (H0 : Hp) (c : Nat) (σ : L2.St) (tt : TT) (P : Bool → Prop) : Prop := ∀ (H : Hp) (n : Nat) (Q : Bool → Hp → Prop), Keep j H0 H → Live S H → Jar j bk H n → n + c ≤ 100000 →
  (∀ b H', Keep j H H' → Live S H' → Jar j bk H' (n + c) → P b → Q b H') → tt σ H Q
theorem Live.more {S : Addr → Bool} {H H' : Hp} (l : Live S H) (s : Same H H') : Live S H' := fun b hb z => by
  cases q : H b with
  | none => exact l b hb q
  | some o =>
    rw [s b o q] at z
    cases z
section
variable {S : Addr → Bool} {j bk : Addr} {H0 H : Hp} {c c1 c2 n : Nat} {σ : L2.St} {te ta tb : TE} {tr : TA} {tt : TT} {P P1 P2 : Da → Prop} {K : PySem.W.Frag}
theorem Dr.imp (h : Dr S j bk H0 c σ te P) (g : ∀ d, P d → P1 d) : Dr S j bk H0 c σ te P1 := fun H n Q kp lv J hn k => h H n Q kp lv J hn fun v d H' kp' lv' J' hi hp => k v d H' kp' lv' J' hi (g d hp)
theorem Dr.later (h : Dr S j bk H0 c σ te P) (kp : Keep j H0 H) : Dr S j bk H c σ te P := fun H1 n Q kp1 lv J hn k => h H1 n Q (kp.trans kp1) lv J hn k
theorem Dr.more (h : Dr S j bk H0 c σ te P) (hc : c ≤ c1) : Dr S j bk H0 c1 σ te P := fun H n Q kp lv J hn k => h H n Q kp lv J (by omega) fun v d H' kp' lv' J' hi hp => k v d H' kp' lv' (J'.le (by omega)) hi hp
theorem dr_non : Dr S j bk H0 0 σ (tC .non) (· = .non) := fun H n Q kp lv J hn k => k _ _ H (Keep.refl _) lv J .non rfl
theorem dr_bl {b : Bool} : Dr S j bk H0 0 σ (tC (.bl b)) (· = .bl b) := fun H n Q kp lv J hn k => k _ _ H (Keep.refl _) lv J (.bl b) rfl
theorem dr_int {i : Int} : Dr S j bk H0 0 σ (tC (.int i)) (· = .int i) := fun H n Q kp lv J hn k => k _ _ H (Keep.refl _) lv J (.int i) rfl
theorem dr_str {x : Str} : Dr S j bk H0 0 σ (tC (.str x)) (· = .str x) := fun H n Q kp lv J hn k => k _ _ H (Keep.refl _) lv J (.str x) rfl
theorem dr_var {i : Nat} {v : V} {d : Da} (hj : S j = true) (h : σ[i]? = some (some v)) (hv : Is (mn S H0) v d) : Dr S j bk H0 0 σ (tVar i) (· = d) := fun H n Q kp lv J hn k => ⟨v, h, k _ _ H (Keep.refl _) lv J (hv.up (kp.less hj)) rfl⟩
theorem dr_varI {i : Nat} {z : Int} (h : σ[i]? = some (some (.int z))) : Dr S j bk H0 0 σ (tVar i) (· = .int z) := fun H n Q kp lv J hn k => ⟨_, h, k _ _ H (Keep.refl _) lv J (.int z) rfl⟩
theorem drA_nil : DrA S j bk H0 0 σ tNil (· = []) := fun H n Q kp lv J hn k => k _ _ H (Keep.refl _) lv J .nil rfl
theorem drA_cons {P2 : List Da → Prop} (hj : S j = true) (h : Dr S j bk H0 c1 σ te P) (hr : DrA S j bk H0 c2 σ tr P2) : DrA S j bk H0 (c1 + c2) σ (tCons te tr) (fun ds => ∃ d r, ds = d :: r ∧ P d ∧ P2 r) := fun H n Q kp lv J hn k =>
  h H n _ kp lv J (by omega) fun v d H1 k1 l1 J1 h1 p1 => hr H1 (n + c1) _ (kp.trans k1) l1 J1 (by omega) fun vs ds H2 k2 l2 J2 h2 p2 => k _ _ H2 (k1.trans k2) l2 (by rwa [Nat.add_assoc] at J2) (.cons (h1.up (k2.less hj)) h2) ⟨d, ds, rfl, p1, p2⟩
theorem dr_tup {P2 : List Da → Prop} (h : DrA S j bk H0 c σ tr P2) (hl : ∀ ds, P2 ds → ds.length ≤ 1000) : Dr S j bk H0 c σ (tTup tr) (fun d => ∃ ds, d = .tup ds ∧ P2 ds) := fun H n Q kp lv J hn k =>
  h H n _ kp lv J hn fun vs ds H1 k1 l1 J1 h1 p1 => ⟨by rw [h1.length]; exact Nat.le_trans (hl ds p1) (by decide), fun p hp =>
    k _ _ _ (k1.trans (Same.keep (Same.new hp))) (l1.more (Same.new hp)) (J1.up (Same.new hp)) (.tup (mn_put l1 hp) (h1.up (Same.less (Same.new hp)))) ⟨ds, rfl, p1⟩⟩
theorem dr_lst {P2 : List Da → Prop} (h : DrA S j bk H0 c σ tr P2) (hl : ∀ ds, P2 ds → ds.length ≤ 1000) : Dr S j bk H0 c σ (tLst tr) (fun d => ∃ ds, d = .lst ds ∧ P2 ds) := fun H n Q kp lv J hn k =>
  h H n _ kp lv J hn fun vs ds H1 k1 l1 J1 h1 p1 => ⟨by rw [h1.length]; exact Nat.le_trans (hl ds p1) (by decide), fun p hp =>
    k _ _ _ (k1.trans (Same.keep (Same.new hp))) (l1.more (Same.new hp)) (J1.up (Same.new hp)) (.lst (mn_put l1 hp) (h1.up (Same.less (Same.new hp)))) ⟨ds, rfl, p1⟩⟩
theorem dr_dict : Dr S j bk H0 0 σ tDNewK (· = .dic) := fun H n Q kp lv J hn k p hp =>
  k _ _ _ (Same.keep (Same.new hp)) (lv.more (Same.new hp)) (J.up (Same.new hp)) (.dic (mn_put lv hp)) rfl
/-- an operation on two integers -/
theorem dr_op {C : Int → Int → Prop} {g : Int → Int → Int} {Pa Pb : Int → Prop} (ha : Dr S j bk H0 c1 σ ta (fun d => ∃ i, d = .int i ∧ Pa i)) (hb : Dr S j bk H0 c2 σ tb (fun d => ∃ i, d = .int i ∧ Pb i)) (hc : ∀ a b, Pa a → Pb b → C a b) :
    Dr S j bk H0 (c1 + c2) σ (tOp (rI C fun i j => .int (g i j)) ta tb) (fun d => ∃ i, d = .int i ∧ ∃ a b, Pa a ∧ Pb b ∧ i = g a b) := fun H n Q kp lv J hn k =>
  ha H n _ kp lv J (by omega) fun v d H1 k1 l1 J1 h1 p1 => hb H1 (n + c1) _ (kp.trans k1) l1 J1 (by omega) fun u e H2 k2 l2 J2 h2 p2 => by
    obtain ⟨a, rfl, pa⟩ := p1
    obtain ⟨b, rfl, pb⟩ := p2
    cases h1
    cases h2
    exact ⟨a, b, rfl, rfl, hc a b pa pb, k _ _ H2 (k1.trans k2) l2 (by rwa [Nat.add_assoc] at J2) (.int _) ⟨_, rfl, a, b, pa, pb, rfl⟩⟩
theorem dr_op0 {g : Int → Int → Int} {Pa Pb : Int → Prop} (ha : Dr S j bk H0 c1 σ ta (fun d => ∃ i, d = .int i ∧ Pa i)) (hb : Dr S j bk H0 c2 σ tb (fun d => ∃ i, d = .int i ∧ Pb i)) :
    Dr S j bk H0 (c1 + c2) σ (tOp (rI0 fun i j => .int (g i j)) ta tb) (fun d => ∃ i, d = .int i ∧ ∃ a b, Pa a ∧ Pb b ∧ i = g a b) := fun H n Q kp lv J hn k =>
  ha H n _ kp lv J (by omega) fun v d H1 k1 l1 J1 h1 p1 => hb H1 (n + c1) _ (kp.trans k1) l1 J1 (by omega) fun u e H2 k2 l2 J2 h2 p2 => by
    obtain ⟨a, rfl, pa⟩ := p1
    obtain ⟨b, rfl, pb⟩ := p2
    cases h1
    cases h2
    exact ⟨a, b, rfl, rfl, k _ _ H2 (k1.trans k2) l2 (by rwa [Nat.add_assoc] at J2) (.int _) ⟨_, rfl, a, b, pa, pb, rfl⟩⟩
theorem dr_neg {i : Int} : Dr S j bk H0 0 σ (tUn (rU fun i => .int (-i)) (tC (.int i))) (· = .int (-i)) := fun H n Q kp lv J hn k => ⟨i, rfl, k _ _ H (Keep.refl _) lv J (.int _) rfl⟩
theorem dr_pow {a b : Int} (h : CPow a b) : Dr S j bk H0 0 σ (tOp (rI CPow fun i j => .int (i ^ j.toNat)) (tC (.int a)) (tC (.int b))) (· = .int (a ^ b.toNat)) := fun H n Q kp lv J hn k => ⟨a, b, rfl, rfl, h, k _ _ H (Keep.refl _) lv J (.int _) rfl⟩
theorem dr_cI {i : Int} : Dr S j bk H0 0 σ (tC (.int i)) (fun d => ∃ z, d = .int z ∧ z = i) := dr_int.imp fun d h => ⟨i, h, rfl⟩
theorem dr_vI {i : Nat} {z : Int} (h : σ[i]? = some (some (.int z))) : Dr S j bk H0 0 σ (tVar i) (fun d => ∃ y, d = .int y ∧ y = z) := (dr_varI h).imp fun d h => ⟨z, h, rfl⟩
/-- a draw: f(jar, many) -/
theorem dr_reach {i : Nat} {many : Int} (h : σ[i]? = some (some (.ref j))) (hp : 0 < many) (hb : many.natAbs < 2 ^ 8000) : Dr S j bk H0 1 σ (tCall spReach [] E0 (tCons (tVar i) (tCons (tC (.int many)) tNil))) (fun d => ∃ r, d = .int r ∧ 0 ≤ r ∧ r < many) := fun H n Q kp lv J hn k =>
  ⟨_, h, j, bk, many, n, rfl, J, by omega, hp, hb, fun r H' k1 J1 h0 h1 => k _ _ H' k1 (lv.up k1 J1) J1 (.int r) ⟨r, rfl, h0, h1⟩⟩
/-- one of some things -/
theorem dr_pick {i : Nat} {P2 : List Da → Prop} (hj : S j = true) (h : σ[i]? = some (some (.ref j))) (hr : DrA S j bk H0 c σ tr P2) (hl : ∀ ds, P2 ds → 0 < ds.length ∧ ds.length ≤ 1000) :
    Dr S j bk H0 (c + 1) σ (tCall spPick [] E0 (tCons (tVar i) (tCons (tLst tr) tNil))) (fun d => ∃ ds, P2 ds ∧ d ∈ ds) := fun H n Q kp lv J hn k =>
  ⟨_, h, hr H n _ kp lv J (by omega) fun vs ds H1 k1 l1 J1 h1 p1 => ⟨by rw [h1.length]; exact Nat.le_trans (hl ds p1).2 (by decide), fun p hp => by
    have hpj := J1.new hp
    have s1 : Same H1 (upd H1 p (.lst vs)) := Same.new hp
    have hl1 := hl ds p1
    have hl2 := h1.length
    refine ⟨j, bk, p, vs, n + c, rfl, J1.up s1, by omega, upd_same, hpj, by omega, by omega, fun v H' k2 J2 hv => ?_⟩
    obtain ⟨i, hi⟩ := List.getElem?_of_mem hv
    obtain ⟨d, hd, hi2⟩ := h1.at hi
    have k3 : Keep j H1 H' := (Same.keep s1).trans k2
    exact k v d H' (k1.trans k3) (l1.up k3 J2) (by rwa [Nat.add_assoc] at J2) (hi2.up (k3.less hj)) ⟨ds, p1, List.mem_of_getElem? hd⟩⟩⟩
/-- if, between two expressions -/
theorem dr_if {PT : Bool → Prop} (h : DrT S j bk H0 c1 σ tt PT) (ha : ∀ H1, Keep j H0 H1 → PT true → Dr S j bk H1 c2 σ ta P) (hb : ∀ H1, Keep j H0 H1 → PT false → Dr S j bk H1 c2 σ tb P) : Dr S j bk H0 (c1 + c2) σ (tIf tt ta tb) P := fun H n Q kp lv J hn k =>
  h H n _ kp lv J (by omega) fun b H1 k1 l1 J1 p1 => by
    have fin : ∀ v d H', Keep j H1 H' → Live S H' → Jar j bk H' (n + c1 + c2) → Is (mn S H') v d → P d → Q v H' := fun v d H' k2 l2 J2 h2 p2 => k v d H' (k1.trans k2) l2 (by rwa [Nat.add_assoc] at J2) h2 p2
    cases b with
    | true => exact ha H1 (kp.trans k1) p1 H1 (n + c1) Q (Keep.refl _) l1 J1 (by omega) fin
    | false => exact hb H1 (kp.trans k1) p1 H1 (n + c1) Q (Keep.refl _) l1 J1 (by omega) fin
/-- a comparison of two integers -/
theorem drT_cmp {g : Int → Int → Bool} {Pa Pb : Int → Prop} (ha : Dr S j bk H0 c1 σ ta (fun d => ∃ i, d = .int i ∧ Pa i)) (hb : Dr S j bk H0 c2 σ tb (fun d => ∃ i, d = .int i ∧ Pb i)) :
    DrT S j bk H0 (c1 + c2) σ (tTest (tOp (rI0 fun i j => .bl (g i j)) ta tb)) (fun k => ∃ a b, Pa a ∧ Pb b ∧ k = g a b) := fun H n Q kp lv J hn k =>
  ha H n _ kp lv J (by omega) fun v d H1 k1 l1 J1 h1 p1 => hb H1 (n + c1) _ (kp.trans k1) l1 J1 (by omega) fun u e H2 k2 l2 J2 h2 p2 => by
    obtain ⟨a, rfl, pa⟩ := p1
    obtain ⟨b, rfl, pb⟩ := p2
    cases h1
    cases h2
    exact ⟨a, b, rfl, rfl, _, rfl, k _ H2 (k1.trans k2) l2 (by rwa [Nat.add_assoc] at J2) ⟨a, b, pa, pb, rfl⟩⟩
theorem drT_eq {Pa Pb : Int → Prop} (ha : Dr S j bk H0 c1 σ ta (fun d => ∃ i, d = .int i ∧ Pa i)) (hb : Dr S j bk H0 c2 σ tb (fun d => ∃ i, d = .int i ∧ Pb i)) :
    DrT S j bk H0 (c1 + c2) σ (tTest (tOp rEq ta tb)) (fun k => ∃ a b, Pa a ∧ Pb b ∧ k = decide (a = b)) := fun H n Q kp lv J hn k =>
  ha H n _ kp lv J (by omega) fun v d H1 k1 l1 J1 h1 p1 => hb H1 (n + c1) _ (kp.trans k1) l1 J1 (by omega) fun u e H2 k2 l2 J2 h2 p2 => by
    obtain ⟨a, rfl, pa⟩ := p1
    obtain ⟨b, rfl, pb⟩ := p2
    cases h1
    cases h2
    exact ⟨rfl, _, rfl, k _ H2 (k1.trans k2) l2 (by rwa [Nat.add_assoc] at J2) ⟨a, b, pa, pb, dec_int a b⟩⟩
/-- list(pair): a new list of a tuple's items -/
theorem dr_listOf {i : Nat} {v : V} {ds : List Da} (hj : S j = true) (h : σ[i]? = some (some v)) (hv : Is (mn S H0) v (.tup ds)) :
    Dr S j bk H0 0 σ (tCB (fun xs H Q => ∃ p ys, xs = [.ref p] ∧ (SqL K H p ys ∨ SqT K H p ys) ∧ ∀ l, H l = none → Q (.ref l) (upd H l (.lst ys))) (tCons (tVar i) tNil)) (· = .lst ds) := fun H n Q kp lv J hn k => by
  have hv' := hv.up (kp.less hj)
  cases hv' with
  | tup e hx =>
    refine ⟨_, h, _, _, rfl, .inr (.inl (.inl (mn_same _ _ e))), fun l hl => ?_⟩
    exact k _ _ _ (Same.keep (Same.new hl)) (lv.more (Same.new hl)) (J.up (Same.new hl)) (.lst (mn_put lv hl) (hx.up (Same.less (Same.new hl)))) rfl
/-! statements -/
theorem dr_asg {i : Nat} {tz : TS} {D : Ends} (h : Dr S j bk H c σ te P) (lv : Live S H) (J : Jar j bk H n) (hn : n + c ≤ 100000) (k : ∀ v d H', Keep j H H' → Live S H' → Jar j bk H' (n + c) → Is (mn S H') v d → P d → tz D (σ.set i (some v)) H') : tSeq (tAsg te (gName i)) tz D σ H :=
  h H n _ (Keep.refl _) lv J hn k
theorem dr_ret {D : Ends} (h : Dr S j bk H c σ te P) (lv : Live S H) (J : Jar j bk H n) (hn : n + c ≤ 100000) (k : ∀ v d H', Keep j H H' → Live S H' → Jar j bk H' (n + c) → Is (mn S H') v d → P d → D.rt v H') : tRet te D σ H :=
  h H n _ (Keep.refl _) lv J hn k
theorem dr_par {i l : Nat} {tz : TS} {D : Ends} {Pa Pb : Da → Prop} (hj : S j = true) (ha : Dr S j bk H c1 σ ta Pa) (hb : Dr S j bk H c2 σ tb Pb) (lv : Live S H) (J : Jar j bk H n) (hn : n + (c1 + c2) ≤ 100000)
    (k : ∀ v d u e H', Keep j H H' → Live S H' → Jar j bk H' (n + (c1 + c2)) → Is (mn S H') v d → Pa d → Is (mn S H') u e → Pb e → tz D ((σ.set i (some v)).set l (some u)) H') : tSeq (tPar i l (tCons ta (tCons tb tNil))) tz D σ H :=
  ha H n _ (Keep.refl _) lv J (by omega) fun v d H1 k1 l1 J1 h1 p1 => hb H1 (n + c1) _ k1 l1 J1 (by omega) fun u e H2 k2 l2 J2 h2 p2 => ⟨v, u, rfl, k v d u e H2 (k1.trans k2) l2 (by rwa [Nat.add_assoc] at J2) (h1.up (k2.less hj)) p1 h2 p2⟩
/-- an if whose test draws -/
theorem dr_ifS {PT : Bool → Prop} {tu tw : TS} {D : Ends} (h : DrT S j bk H c σ tt PT) (lv : Live S H) (J : Jar j bk H n) (hn : n + c ≤ 100000) (h1 : ∀ H', Keep j H H' → Live S H' → Jar j bk H' (n + c) → PT true → tu D σ H') (h2 : ∀ H', Keep j H H' → Live S H' → Jar j bk H' (n + c) → PT false → tw D σ H') : tIfS tt tu tw D σ H :=
  h H n _ (Keep.refl _) lv J hn fun b H' k' l' J' p => by
    cases b with
    | true => exact h1 H' k' l' J' p
    | false => exact h2 H' k' l' J' p
theorem dr_when {PT : Bool → Prop} {tu tz : TS} {D : Ends} (h : DrT S j bk H c σ tt PT) (lv : Live S H) (J : Jar j bk H n) (hn : n + c ≤ 100000) (h1 : ∀ H', Keep j H H' → Live S H' → Jar j bk H' (n + c) → PT true → tu { D with nx := tz D } σ H') (h2 : ∀ H', Keep j H H' → Live S H' → Jar j bk H' (n + c) → PT false → tz D σ H') : tSeq (tIfS tt tu tNext) tz D σ H :=
  dr_ifS h lv J hn h1 h2
end
/-- what is out of the data, j alone -/
def only (j : Addr) : Addr → Bool := fun b => decide (b = j)
theorem only_self {j : Addr} : only j j = true := decide_eq_true rfl
theorem only_live {j bk : Addr} {H : Hp} {n : Nat} (J : Jar j bk H n) : Live (only j) H := fun b hb => by
  have e : b = j := of_decide_eq_true hb
  subst e
  obtain ⟨cells, a, l, h, _⟩ := J
  rw [h]
  exact nofun
end Ty
namespace Ty
open PySem PySem.Spec PyProof.Rows L2
section
variable {S : Addr → Bool} {j bk : Addr} {H0 H : Hp} {c c1 c2 n : Nat} {σ : L2.St} {te ta tb : TE} {tr : TA} {d : Da} {ds : List Da}
theorem drA_consE (hj : S j = true) (h : Dr S j bk H0 0 σ te (· = d)) (hr : DrA S j bk H0 0 σ tr (· = ds)) : DrA S j bk H0 0 σ (tCons te tr) (· = d :: ds) := fun H n Q kp lv J hn k =>
  drA_cons hj h hr H n Q kp lv J hn fun vs es H' k' l' J' h' p' => by
    obtain ⟨_, _, rfl, rfl, rfl⟩ := p'
    exact k vs _ H' k' l' J' h' rfl
theorem dr_tupE (h : DrA S j bk H0 0 σ tr (· = ds)) (hl : ds.length ≤ 1000) : Dr S j bk H0 0 σ (tTup tr) (· = .tup ds) := (dr_tup h fun _ e => by rw [e]; exact hl).imp fun d ⟨_, e1, e2⟩ => by rw [e1, e2]
theorem dr_lstE (h : DrA S j bk H0 0 σ tr (· = ds)) (hl : ds.length ≤ 1000) : Dr S j bk H0 0 σ (tLst tr) (· = .lst ds) := (dr_lst h fun _ e => by rw [e]; exact hl).imp fun d ⟨_, e1, e2⟩ => by rw [e1, e2]
/-- one of written things -/
theorem dr_pickE {i : Nat} (hj : S j = true) (h : σ[i]? = some (some (.ref j))) (hr : DrA S j bk H0 0 σ tr (· = ds)) (hl : 0 < ds.length) (hl2 : ds.length ≤ 1000) :
    Dr S j bk H0 1 σ (tCall spPick [] E0 (tCons (tVar i) (tCons (tLst tr) tNil))) (· ∈ ds) := (dr_pick hj h hr fun _ e => by rw [e]; exact ⟨hl, hl2⟩).imp fun d ⟨_, e1, e2⟩ => by rwa [← e1]
theorem dr_opE {C : Int → Int → Prop} {g : Int → Int → Int} {a b : Int} (ha : Dr S j bk H0 c1 σ ta (· = .int a)) (hb : Dr S j bk H0 c2 σ tb (· = .int b)) (hc : C a b) :
    Dr S j bk H0 (c1 + c2) σ (tOp (rI C fun i j => .int (g i j)) ta tb) (· = .int (g a b)) :=
  (dr_op (Pa := (· = a)) (Pb := (· = b)) (ha.imp fun d e => ⟨a, e, rfl⟩) (hb.imp fun d e => ⟨b, e, rfl⟩) fun _ _ e1 e2 => by rw [e1, e2]; exact hc).imp fun d ⟨i, e, _, _, e1, e2, e3⟩ => by rw [e, e3, e1, e2]
theorem dr_op0E {g : Int → Int → Int} {a b : Int} (ha : Dr S j bk H0 c1 σ ta (· = .int a)) (hb : Dr S j bk H0 c2 σ tb (· = .int b)) :
    Dr S j bk H0 (c1 + c2) σ (tOp (rI0 fun i j => .int (g i j)) ta tb) (· = .int (g a b)) :=
  (dr_op0 (Pa := (· = a)) (Pb := (· = b)) (ha.imp fun d e => ⟨a, e, rfl⟩) (hb.imp fun d e => ⟨b, e, rfl⟩)).imp fun d ⟨i, e, _, _, e1, e2, e3⟩ => by rw [e, e3, e1, e2]
end
end Ty

namespace Ty
open PySem PySem.Spec PyProof.Rows L2
/-- [x for x in xs if test]: whether anything is in it -/
theorem r_filter {K : PySem.W.Frag} {l i : Nat} {tt : TT} {σ : L2.St} {H : Hp} {Q : VK} {a : Addr} {xs : List V} {ds : List Da} (t : Da → Bool) (hv : σ[l]? = some (some (.ref a))) (hs : SqL K H a xs ∨ SqT K H a xs) (hx : IsAll H xs ds) (hlen : xs.length ≤ 1000)
    (hw : ∀ x, wipe ((wipe σ [i]).set i (some x)) [i] = wipe σ [i]) (hi : ∀ x : V, ((wipe σ [i]).set i (some x))[i]? = some (some x))
    (ht : ∀ (x : V) (dx : Da) (H' : Hp) (Q' : Bool → Hp → Prop), Same H H' → Is H' x dx → dx ∈ ds → (∀ H'', Same H' H'' → Q' (t dx) H'') → tt ((wipe σ [i]).set i (some x)) H' Q')
    (k : ∀ (D : Addr) (H' : Hp) (acc : List V), Same H H' → H D = none → H' D = some (.lst acc) → acc.isEmpty = (ds.all fun d => !t d) → Q (.ref D) H') :
    tLc (fun σ H R => iList K (tVar l) σ H R ∨ iTup K (tVar l) σ H R) (gName i) tt (tVar i) [i] σ H Q := by
  have turn : ∀ (D : Addr) (m : Nat) (x : V) (H' : Hp), H D = none → xs[m]? = some x → (Same H H' ∧ ∃ acc, H' D = some (.lst acc) ∧ acc.length ≤ m ∧ acc.isEmpty = ((ds.take m).all fun d => !t d)) →
      gName i x (wipe σ [i]) H' fun σ2 H2 => wipe σ2 [i] = wipe σ [i] ∧ tt σ2 H2 fun b H3 => if b = true then tVar i σ2 H3 fun y H4 => ∃ acc, H4 D = some (.lst acc) ∧ acc.length < sizeLine ∧ (Same H (upd H4 D (.lst (acc ++ [y]))) ∧ ∃ acc', (upd H4 D (.lst (acc ++ [y]))) D = some (.lst acc') ∧ acc'.length ≤ m + 1 ∧ acc'.isEmpty = ((ds.take (m + 1)).all fun d => !t d))
        else (Same H H3 ∧ ∃ acc', H3 D = some (.lst acc') ∧ acc'.length ≤ m + 1 ∧ acc'.isEmpty = ((ds.take (m + 1)).all fun d => !t d)) := by
    rintro D m x H' hD hm ⟨s1, acc, hacc, hl, he⟩
    obtain ⟨dx, hdx, hix⟩ := hx.at hm
    have more : ((ds.take (m + 1)).all fun d => !t d) = (((ds.take m).all fun d => !t d) && !t dx) := by
      rw [List.take_add_one, hdx, List.all_append]
      simp
    have mlt := (List.getElem?_eq_some_iff.mp hm).1
    refine ⟨hw x, ht x dx H' _ s1 (hix.up s1) (List.mem_of_getElem? hdx) fun H3 s3 => iteB (fun c => ?_) fun c => ?_⟩
    · refine ⟨x, hi x, acc, s3 _ _ hacc, Nat.lt_of_le_of_lt (show acc.length ≤ 1000 by omega) (by decide), Same.mut (s1.trans s3) hD, _, upd_same, by rw [List.length_append]; simp; omega, ?_⟩
      rw [more, c]
      simp
    · refine ⟨s1.trans s3, acc, s3 _ _ hacc, by omega, ?_⟩
      rw [more, c, he]
      simp
  have fin : ∀ (D : Addr) (H' : Hp), H D = none → (Same H H' ∧ ∃ acc, H' D = some (.lst acc) ∧ acc.length ≤ xs.length ∧ acc.isEmpty = ((ds.take xs.length).all fun d => !t d)) → Q (.ref D) H' := by
    rintro D H' hD ⟨s1, acc, hacc, _, he⟩
    refine k D H' acc s1 hD hacc ?_
    rwa [hx.length, List.take_length] at he
  rcases hs with hs | hs
  · exact .inl ⟨_, hv, a, rfl, ⟨_, hs⟩, fun D hD => lc_list (xs := xs) (fun m H' => Same H H' ∧ ∃ acc, H' D = some (.lst acc) ∧ acc.length ≤ m ∧ acc.isEmpty = ((ds.take m).all fun d => !t d))
      ⟨Same.new hD, [], upd_same, Nat.le_refl _, by simp⟩ (fun m H' _ p => p.1.seq hs) (fun m x H' hm p => turn D m x H' hD hm p) (fun H' p => fin D H' hD p)⟩
  · exact .inr ⟨_, hv, a, rfl, ⟨_, hs⟩, fun D hD => lc_tup (xs := xs) (fun m H' => Same H H' ∧ ∃ acc, H' D = some (.lst acc) ∧ acc.length ≤ m ∧ acc.isEmpty = ((ds.take m).all fun d => !t d))
      ⟨Same.new hD, [], upd_same, Nat.le_refl _, by simp⟩ (fun m H' _ p => Evl.ex_t p.1 hs) (fun m x H' hm p => turn D m x H' hD hm p) (fun H' p => fin D H' hD p)⟩
/-! ### no divisor -/
def noDiv (a b : Int) (n : Nat) : Bool := (List.range n).all fun k => !(decide (a % (2 + (k : Int)) = 0) && decide (b % (2 + (k : Int)) = 0))
theorem noDiv_gcd {a b : Int} (h2 : 2 ≤ b) {n : Nat} (hn : (n : Int) = b + 1 - 2) : noDiv a b n = coprime a b := by
  unfold noDiv coprime
  by_cases g : Nat.gcd a.natAbs b.natAbs = 1
  · rw [decide_eq_true g, List.all_eq_true]
    intro k hk
    rw [Bool.not_eq_true', Bool.and_eq_false_iff]
    by_cases h1 : a % (2 + (k : Int)) = 0
    · right
      refine decide_eq_false fun h3 => ?_
      have d1 : (2 + k) ∣ a.natAbs := Int.ofNat_dvd_left.mp (by have := Int.dvd_of_emod_eq_zero h1; push_cast; exact this)
      have d2 : (2 + k) ∣ b.natAbs := Int.ofNat_dvd_left.mp (by have := Int.dvd_of_emod_eq_zero h3; push_cast; exact this)
      have d3 := Nat.dvd_gcd d1 d2
      rw [g] at d3
      have := Nat.le_of_dvd (by decide) d3
      omega
    · left
      exact decide_eq_false h1
  · rw [decide_eq_false g, List.all_eq_false]
    have pos : 0 < Nat.gcd a.natAbs b.natAbs := Nat.gcd_pos_of_pos_right _ (by omega)
    have le : Nat.gcd a.natAbs b.natAbs ≤ b.natAbs := Nat.le_of_dvd (by omega) (Nat.gcd_dvd_right _ _)
    refine ⟨Nat.gcd a.natAbs b.natAbs - 2, List.mem_range.mpr (by omega), ?_⟩
    have e : (2 + ((Nat.gcd a.natAbs b.natAbs - 2 : Nat) : Int)) = ((Nat.gcd a.natAbs b.natAbs : Nat) : Int) := by omega
    rw [e]
    have d1 : a % ((Nat.gcd a.natAbs b.natAbs : Nat) : Int) = 0 := Int.emod_eq_zero_of_dvd (Int.ofNat_dvd_left.mpr (Nat.gcd_dvd_left _ _))
    have d2 : b % ((Nat.gcd a.natAbs b.natAbs : Nat) : Int) = 0 := Int.emod_eq_zero_of_dvd (Int.ofNat_dvd_left.mpr (Nat.gcd_dvd_right _ _))
    rw [decide_eq_true d1, decide_eq_true d2]
    decide
def okPair : List Da → Bool
  | [.int _, .int b] => decide (b ≤ 400)
  | _ => true
/-- of a value with such a pair -/
def spForm : Sp := fun vs H Q _ => ∃ v d, vs = [v] ∧ Is H v d ∧ okPair (items d) = true ∧ (items d).length ≤ 1000 ∧ ∀ H', Same H H' → Q (.bl (isNum d)) H'
end Ty
namespace Ty
open PySem PySem.Spec PyProof.Rows L2
section
variable {σ : L2.St} {H : Hp} {D : Ends} {t u : TS} {c c' : TT} {te ta tb : TE} {tr : TA} {Q : VK} {QT : Bool → Hp → Prop} {QA : List V → Hp → Prop} {r : R2} {f : List V → Hp → VK → Prop} {g : TG}
theorem go_next (h : D.nx σ H) : tNext D σ H := h
theorem go_seq (h : t { D with nx := u D } σ H) : tSeq t u D σ H := h
theorem go_if (h : c σ H fun b H1 => if b = true then t D σ H1 else u D σ H1) : tIfS c t u D σ H := h
theorem go_asg (h : te σ H fun x H1 => g x σ H1 D.nx) : tAsg te g D σ H := h
theorem go_ret (h : te σ H D.rt) : tRet te D σ H := h
theorem go_or (h : c σ H fun b H1 => if b = true then QT true H1 else c' σ H1 QT) : tOr c c' σ H QT := h
theorem go_and (h : c σ H fun b H1 => if b = true then c' σ H1 QT else QT false H1) : tAnd c c' σ H QT := h
theorem go_not (h : c σ H fun b H1 => QT (!b) H1) : tNot c σ H QT := h
theorem go_test (h : te σ H fun x H1 => ∃ k, x = .bl k ∧ QT k H1) : tTest te σ H QT := h
theorem go_B (h : te σ H fun x H1 => ∃ k, x = .bl k ∧ QT k H1) : tB te σ H QT := h
theorem go_op (h : ta σ H fun x H1 => tb σ H1 fun y H2 => r x y H2 Q) : tOp r ta tb σ H Q := h
theorem go_cb (h : tr σ H fun vs H1 => f vs H1 Q) : tCB f tr σ H Q := h
theorem go_cons (h : te σ H fun x H1 => tr σ H1 fun xs H2 => QA (x :: xs) H2) : tCons te tr σ H QA := h
end
end Ty
namespace Ty
open PySem PySem.Spec PyProof.Rows L2
def good1 (d : Da) : Bool := okPair (items d) && decide ((items d).length ≤ 1000) && small2 huge d
def good (d : Da) : Bool := good1 d && (items d).all good1
theorem small_big {i : Int} (h : i.natAbs < 2 ^ 200) : decide (i.natAbs < 2 ^ huge) = true := decide_eq_true (Nat.lt_of_lt_of_le h (Nat.pow_le_pow_right (by decide) (by decide)))
theorem good1_int {i : Int} (h : i.natAbs < 2 ^ 200) : good1 (.int i) = true := by
  show (true && true && decide (i.natAbs < 2 ^ huge)) = true
  rw [small_big h]
  decide
theorem good_int {i : Int} (h : i.natAbs < 2 ^ 200) : good (.int i) = true := by
  show (good1 (.int i) && true) = true
  rw [good1_int h]
  decide
theorem good1_pair {a b : Int} (ha : a.natAbs < 2 ^ 200) (hb : b.natAbs < 2 ^ 200) (h4 : b ≤ 400) : good1 (.tup [.int a, .int b]) = true ∧ good1 (.lst [.int a, .int b]) = true := by
  constructor
  · show (decide (b ≤ 400) && true && (decide (a.natAbs < 2 ^ huge) && (decide (b.natAbs < 2 ^ huge) && true))) = true
    rw [small_big ha, small_big hb, decide_eq_true h4]
    decide
  · show (decide (b ≤ 400) && true && (decide (a.natAbs < 2 ^ huge) && (decide (b.natAbs < 2 ^ huge) && true))) = true
    rw [small_big ha, small_big hb, decide_eq_true h4]
    decide
theorem good_pair {a b : Int} (ha : a.natAbs < 2 ^ 200) (hb : b.natAbs < 2 ^ 200) (h4 : b ≤ 400) : good (.tup [.int a, .int b]) = true ∧ good (.lst [.int a, .int b]) = true := by
  have e := good1_pair ha hb h4
  constructor
  · show (good1 (.tup [.int a, .int b]) && (good1 (.int a) && (good1 (.int b) && true))) = true
    rw [e.1, good1_int ha, good1_int hb]
    decide
  · show (good1 (.lst [.int a, .int b]) && (good1 (.int a) && (good1 (.int b) && true))) = true
    rw [e.2, good1_int ha, good1_int hb]
    decide
def spValue : Sp := fun vs H Q _ => ∃ (S : Addr → Bool) (j bk : Addr) (n : Nat), vs = [.ref j] ∧ S j = true ∧ Live S H ∧ Jar j bk H n ∧ n + 3 ≤ 100000 ∧
  ∀ v d H', Keep j H H' → Live S H' → Jar j bk H' (n + 3) → Is (mn S H') v d → good d = true → Q v H'
def spHalves : Sp := fun vs H Q _ => ∃ v d, vs = [v] ∧ Is H v d ∧ isNum d = true ∧ ∀ H' p, Same H H' → H' p = some (.tup [.int (above d), .int (below d)]) → Q (.ref p) H'
def okEach (d : Da) : Bool := decide ((items d).length ≤ 1000) && (items d).all fun e => okPair (items e) && decide ((items e).length ≤ 1000)
def spRound : Sp := fun vs H Q _ => ∃ v d, vs = [v] ∧ Is H v d ∧ okEach d = true ∧ small3 huge d = true ∧ ∀ H', Same H H' → Q (.bl (isTurn d)) H'
def spPair : Sp := fun vs H Q _ => ∃ v d, vs = [v] ∧ Is H v d ∧ okEach d = true ∧ ∀ H', Same H H' → Q (.bl (isPt d)) H'
def spFrac : Sp := fun vs H Q _ => ∃ a b : Int, vs = [.int a, .int b] ∧ 0 < b ∧ a.natAbs < 2 ^ 31 ∧ b < 2 ^ 31 ∧ (∀ i : Int, i.natAbs ≤ a.natAbs → Q (.int i) H) ∧
  ∀ (i m : Int) (p : Addr) (H' : Hp), Same H H' → H p = none → H' p = some (.tup [.int i, .int m]) → i.natAbs ≤ a.natAbs → 0 ≤ m → m ≤ b → Q (.ref p) H'
end Ty
namespace Ty
open PySem PySem.Spec PyProof.Rows L2
theorem ediv_abs {a p : Int} (hp : 0 < p) : (a / p).natAbs ≤ a.natAbs := by
  by_cases h : 0 ≤ a
  · have h1 := Int.ediv_nonneg h (Int.le_of_lt hp)
    have h2 := Int.ediv_le_self p h
    omega
  · have h1 : a / p < 0 := Int.ediv_neg_of_neg_of_pos (by omega) hp
    have h2 : a ≤ a / p := by
      have h3 := Int.lt_ediv_add_one_mul_self a hp
      have h4 : a / p * p ≤ a / p * 1 := Int.mul_le_mul_of_nonpos_left (by omega) (by omega)
      have h5 : (a / p + 1) * p = a / p * p + p := by rw [Int.add_mul, Int.one_mul]
      by_cases h6 : a ≤ a / p
      · exact h6
      · exfalso
        have h7 : a / p + 1 ≤ a := by omega
        have h8 : (a / p + 1) * p ≤ (a / p + 1) * 1 := Int.mul_le_mul_of_nonpos_left (by omega) (by omega)
        omega
    omega
/-- a fraction made of two integers -/
def FracOf (a b : Int) (d : Da) : Prop := (∃ i, d = .int i ∧ i.natAbs ≤ a.natAbs) ∨ ∃ i m, d = .tup [.int i, .int m] ∧ i.natAbs ≤ a.natAbs ∧ 0 ≤ m ∧ m ≤ b
theorem dr_frac {S : Addr → Bool} {j bk : Addr} {H0 : Hp} {σ : L2.St} {ta tb : TE} {a b : Int} (ha : Dr S j bk H0 0 σ ta (· = .int a)) (hb : Dr S j bk H0 0 σ tb (· = .int b)) (h0 : 0 < b) (h1 : a.natAbs < 2 ^ 31) (h2 : b < 2 ^ 31) :
    Dr S j bk H0 0 σ (tCall spFrac [] E0 (tCons ta (tCons tb tNil))) (FracOf a b) := fun H n Q kp lv J hn k =>
  ha H n _ kp lv J hn fun v d H1 k1 l1 J1 i1 p1 => hb H1 n _ (kp.trans k1) l1 J1 hn fun u e H2 k2 l2 J2 i2 p2 => by
    subst p1
    subst p2
    cases i1
    cases i2
    exact ⟨a, b, rfl, h0, h1, h2, fun i hi => k _ _ H2 (k1.trans k2) l2 J2 (.int i) (.inl ⟨i, rfl, hi⟩), fun i m p H' s hp hp' hi hm0 hm1 => by
      have Sp : S p = false := by
        cases e : S p with
        | false => rfl
        | true => exact absurd hp (l2 p e)
      refine k _ _ H' ((k1.trans k2).trans (Same.keep s)) (l2.more s) (J2.up s) (.tup ?_ (.cons (.int i) (.cons (.int m) .nil))) (.inr ⟨i, m, rfl, hi, hm0, hm1⟩)
      rw [mn_at Sp]
      exact hp'⟩
theorem FracOf.good {a b : Int} {d : Da} (h : FracOf a b d) (ha : a.natAbs < 2 ^ 31) (hb : b ≤ 400) : good1 d = true := by
  rcases h with ⟨i, rfl, hi⟩ | ⟨i, m, rfl, hi, hm0, hm1⟩
  · exact good1_int (Nat.lt_of_le_of_lt hi (Nat.lt_trans ha (by decide)))
  · exact (good1_pair (Nat.lt_of_le_of_lt hi (Nat.lt_trans ha (by decide))) (Nat.lt_of_le_of_lt (show m.natAbs ≤ 400 by omega) (by decide)) (by omega)).1
/-- such a value is no list -/
theorem FracOf.off {S S' : Addr → Bool} {H : Hp} {a b : Int} {d : Da} {v : V} {p : Addr} {xs : List V} (h : FracOf a b d) (hv : Is (mn S H) v d) (hp : H p = some (.lst xs)) (hS : ∀ q, S' q = true → S q = true ∨ q = p) : Is (mn S' H) v d := by
  rcases h with ⟨i, rfl, hi⟩ | ⟨i, m, rfl, hi, hm0, hm1⟩
  · cases hv
    exact .int i
  · cases hv with
    | tup e hx =>
      obtain ⟨e1, e2⟩ := mn_of e
      rename_i q ys
      have off : S' q = false := by
        cases z : S' q with
        | false => rfl
        | true =>
          rcases hS q z with w | w
          · rw [w] at e1
            cases e1
          · subst w
            rw [e2] at hp
            cases hp
      have e3 : mn S' H q = some (.tup ys) := by
        rw [mn_at off]
        exact e2
      cases hx with
      | cons x1 hx =>
        cases x1
        cases hx with
        | cons x2 hx =>
          cases x2
          cases hx
          exact .tup e3 (.cons (.int _) (.cons (.int _) .nil))
def spTurn : Sp := fun vs H Q _ => ∃ (S : Addr → Bool) (j bk : Addr) (n : Nat), vs = [.ref j] ∧ S j = true ∧ Live S H ∧ Jar j bk H n ∧ n + 8 ≤ 100000 ∧
  ∀ v d H', Keep j H H' → Live S H' → Jar j bk H' (n + 8) → Is (mn S H') v d → okEach d = true → small3 huge d = true → Q v H'
theorem good1_small {d : Da} (h : good1 d = true) : small2 huge d = true := by
  unfold good1 at h
  rw [Bool.and_eq_true] at h
  exact h.2
theorem good1_ok {d : Da} (h : good1 d = true) : (okPair (items d) && decide ((items d).length ≤ 1000)) = true := by
  unfold good1 at h
  rw [Bool.and_eq_true] at h
  exact h.1
theorem two_ok {x y : Da} (h1 : good1 x = true) (h2 : good1 y = true) : okEach (.lst [x, y]) = true ∧ okEach (.tup [x, y]) = true ∧ small3 huge (.lst [x, y]) = true ∧ small3 huge (.tup [x, y]) = true := by
  have e1 : okEach (.lst [x, y]) = true := by
    show (true && ((okPair (items x) && decide ((items x).length ≤ 1000)) && ((okPair (items y) && decide ((items y).length ≤ 1000)) && true))) = true
    rw [good1_ok h1, good1_ok h2]
    decide
  have e2 : small3 huge (.lst [x, y]) = true := by
    show (small2 huge x && (small2 huge y && true)) = true
    rw [good1_small h1, good1_small h2]
    decide
  exact ⟨e1, e1, e2, e2⟩
theorem good_good1 {d : Da} (h : good d = true) : good1 d = true := by
  unfold good at h
  rw [Bool.and_eq_true] at h
  exact h.1
end Ty
namespace Ty
open PySem PySem.Spec PyProof.Rows L2
theorem sq_bounds {p : Int} (h1 : -7 ≤ p) (h2 : p ≤ 7) : 0 ≤ p * p ∧ p * p ≤ 49 := by
  have e := Int.natAbs_mul_self (a := p)
  have h3 : p.natAbs * p.natAbs ≤ 7 * 7 := Nat.mul_le_mul (by omega) (by omega)
  omega
theorem prod_bounds {p q : Int} (h1 : -7 ≤ p) (h2 : p ≤ 7) (h3 : -7 ≤ q) (h4 : q ≤ 7) : (2 * p * q).natAbs ≤ 98 := by
  rw [Int.natAbs_mul, Int.natAbs_mul]
  have h5 : (2 : Int).natAbs * p.natAbs ≤ 2 * 7 := Nat.mul_le_mul (by decide) (by omega)
  exact Nat.le_trans (Nat.mul_le_mul h5 (show q.natAbs ≤ 7 by omega)) (by decide)
theorem Is.wide {S S' : Addr → Bool} {H : Hp} {v : V} {d : Da} (h : Is (mn S H) v d) (hs : ∀ b, S' b = true → S b = true) : Is (mn S' H) v d := h.up fun b o e => by
  obtain ⟨h1, h2⟩ := mn_of e
  rw [mn_at]
  · exact h2
  · cases z : S' b with
    | false => rfl
    | true =>
      rw [hs b z] at h1
      cases h1
end Ty

namespace Ty
open PySem PySem.Spec PyProof.Rows L2
/-- a caught exception that a name holds: its class, its dict -/
def ExT (cls : Value) (d : Option Addr) (a : Addr) : HO := .ext fun h => ∃ (oe : Obj) (vs : Array Value), h.get? a = some oe ∧ Zc cls d oe ∧ oe.data = .fields vs
theorem exT_ok {P : Program} {w : World} {H : Hp} {h : Heap} {a : Addr} {cls : Value} {d : Option Addr} {oe : Obj} {vs : Array Value} (e : h.get? a = some oe) (z : Zc cls d oe) (dd : oe.data = .fields vs) : ObjOk P w H h a (ExT cls d a) :=
  ⟨⟨oe, vs, e, z, dd⟩, ⟨oe, e⟩, fun _ _ ⟨o, v, q, r⟩ k => ⟨o, v, k o q, r⟩⟩
section
variable {X : Cx} {pins : List (Addr × Obj)} {σ : L2.St} {H : Hp} {s : Shared}
/-- an object that stands, made since the entry and not tracked, is tracked from now on -/
theorem Inv.track {a : Addr} {oe : Obj} {o : HO} (I : Inv X pins σ H s) (ha : s.heap.get? a = some oe) (hn : H a = none) (h0 : X.s_0.heap.get? a = none) (nL : a ≠ X.env.locals) (nC : ∀ v, oe.data ≠ .cell v) (np : ∀ p ∈ X.pn ++ pins, p.1 ≠ a)
    (new : ObjOk X.prog X.w (upd H a o) s.heap a o) : Inv X pins σ (upd H a o) s := by
  have ne0 : ∀ {b : Addr} {u : Obj}, X.s_0.heap.get? b = some u → b ≠ a := fun {b u} e z => by
    rw [z, h0] at e
    cases e
  have neC : ∀ x c, X.env.cells.lookup x = some c → c ≠ a := fun x c e z => by
    obtain ⟨v, oc, ho, hd⟩ := I.cell x c e
    rw [z, ha] at ho
    cases ho
    exact nC v hd
  constructor
  · exact I.ok
  · exact I.os
  · exact I.bare
  · refine ⟨I.base.keep, I.base.slot, ?_, I.base.there, ?_, ?_, ?_⟩
    · intro b u e n hx
      rw [upd_ne (ne0 e)]
      exact I.base.free b u e n hx
    · intro b xs e
      have q := I.base.tups b xs e
      rw [upd_ne (ne_of_none q hn)]
      exact q
    · intro b u v e
      have q := I.base.frzs b u v e
      rw [upd_ne (ne_of_none q hn)]
      exact q
    · intro b ps e
      obtain ⟨m, q⟩ := I.base.tbls b ps e
      refine ⟨m, ?_⟩
      rw [upd_ne (ne_of_none q hn)]
      exact q
  · exact I.loc
  · exact I.cell
  · rw [upd_ne nL.symm]
    exact I.free
  · intro x c e
    rw [upd_ne (neC x c e)]
    exact I.freeC x c e
  · intro p hp
    obtain ⟨h1, h2, h3⟩ := I.pin p hp
    refine ⟨h1, ?_, h3⟩
    rw [upd_ne (np p hp)]
    exact h2
  · exact I.hok.laidN (fun _ _ e => e) hn new
  · exact I.len
end
/-- what the clause «except x as n: m = n» wishes: slot i is n's, slot l is m's; behind it the exception is tracked -/
def wKeep (K : PySem.W.Frag) (c : Value) (i l : Nat) (Wout : WX) (D : Ends) : WX := fun cls d σ H =>
  ∃ b, PySem.W.exmOne K cls c = some b ∧ (b = true → ∀ a, H a = none → D.nx ((((σ.set i (some (.ref a))).set l (some (.ref a)))).set i none) (upd H a (ExT cls d a))) ∧ (b = false → Wout cls d σ H)
section
variable {X : Cx} {x n : Str} {c : Value} {i l : Nat} {body : List Stmt} {st : Stmt} {np pos pos' : Pos} {tb : WX → TS} {Wout : WX}
theorem ps_try_keep (hex : X.ex = []) (hpn : X.pn = []) (hs : X.stack = X.env :: X.outer) (hf : X.env.frame = some X.env.locals) (hN : X.N.Nodup) (hi : X.N[i]? = some n) (hln : X.env.kindOf n = some .local) (hc : Names X x c) (tk : Takes X Wout)
    (hb : ∀ (W : WX) (pn : List (Addr × Obj)) (xe : Value → Shared → Prop), Takes (X.tr pn xe) W → PassesOwn (model X.prog X.w) X.A X.env xe → PSs (X.tr pn xe) body (tb W))
    (hsu : ∀ (a : Addr) (oe : Obj) (cls : Value) (d : Option Addr) (pn : List (Addr × Obj)), Zc cls d oe → (∃ vs, oe.data = .fields vs) → PSs (X.suite a ((a, oe) :: pn)) [st] (tAsg (tVar i) (gName l))) :
    PS X (.Try body [.ExceptHandler (some (.Name x np)) (some n) [st] pos'] [] [] pos) (fun D σ H => tb (wKeep X.K c i l Wout D) D σ H) := by
  constructor
  intro pins s σ H D I h
  have ok := I.ok
  have hfr : X.A.frames = some (X.env :: X.outer) := by rw [ok.frames, hs]
  refine wpAny_Try_except (wpAny_mono ((hb (wKeep X.K c i l Wout D) (X.pn ++ pins) (fun e s1 => wpAny (model X.prog X.w) X.A (noteFrame e X.env) (fun _ s2 => wpAny (model X.prog X.w) X.A (setFlight e none) (fun _ s3 =>
    wpAny (model X.prog X.w) X.A (handleBy e X.env [.ExceptHandler (some (.Name x np)) (some n) [st] pos']) (SP X pins D) X.xe s3) X.xe s2) X.xe s1) ?_ PassesOwn.looking).run [] s σ H D (I.toTry _) h) ?_ fun e s1 he => he)
  · rintro u s' ⟨a, B, sI, pins', σ', H', cls, d, rfl, J', nb, up, sky, na, os, ag, b, hb1, hyes, hno⟩
    have J : Inv X pins σ' H' sI := J'.ofTry ok
    rw [hs] at sky
    show wpAny (model X.prog X.w) X.A (noteFrame (.ref a) X.env) _ _ _
    refine Sky.land Zc.steady hfr hf sky ?_
    intro h3 fl3 up3
    have J3 : Inv X pins σ' H' { s' with heap := h3 } := J.landed nb fl3.1 (up.trans up3) os ag
    obtain ⟨oe3, vs3, he3, hz3, hd3⟩ := fl3.there
    have nfr : a ∉ frs (X.env :: X.outer) := fun hm => by
      obtain ⟨_, o', e', hnf⟩ := fl3.2.2.1.mem hm
      rw [he3] at e'
      cases e'
      exact hnf _ hd3
    have nL : a ≠ X.env.locals := fun z => nfr (List.mem_filterMap.mpr ⟨X.env, List.mem_cons_self, by rw [hf, z]⟩)
    have nF : a ∉ X.fs := fun hm => by
      obtain ⟨e, he, q⟩ := List.mem_filterMap.mp hm
      exact nfr (List.mem_filterMap.mpr ⟨e, List.mem_cons_of_mem _ he, q⟩)
    have new0 : X.s_0.heap.get? a = none := by
      cases e : X.s_0.heap.get? a with
      | none => rfl
      | some o =>
        obtain ⟨o', e1⟩ := J.base.there a o e (by rw [hex]; exact nofun)
        have e2 := nb a o' e1 (by rw [hs]; exact nfr)
        rw [fl3.2.1] at e2
        cases e2
    have S3 := J3.suite he3 hd3 na nL nF
    have LM := PySem.W.exm_one (M := model X.prog X.w) J3.kIn (fun A Q E s k q => wpAny_typeOf_ref (k _ _ he3) (by rw [hz3.1]; exact q)) hb1
    refine wpAny_handleBy_cons (codeAny_handlers_test ?_) (by intro q; cases q)
    have test : ∀ {Q : Value → Shared → Prop} {E : Value → Shared → Prop}, Q c { s' with heap := h3 } → wpAny (model X.prog X.w) (X.A.mark (some (.ref a))) (eval (.Name x np) X.env) Q E { s' with heap := h3 } := by
      intro Q E q
      obtain ⟨hg, hdbg, hm | ⟨hm, hv, hnn⟩⟩ := hc
      · exact ld_glob (X := X.suite a ((a, oe3) :: (X.pn ++ pins))) S3 hg hm q hdbg
      · exact ld_blt (X := X.suite a ((a, oe3) :: (X.pn ++ pins))) S3 hg hm hv q hnn hdbg
    refine test (LM.here ?_)
    cases b with
    | true =>
      refine codeAny_handlers_suite_as (HandSPX.lands_againZ fl3 ?_)
      intro h4 fl4 up4
      have J4 : Inv X pins σ' H' { s' with heap := h4 } := J.landed nb fl4.1 ((up.trans up3).trans up4) os ag
      obtain ⟨oe4, vs4, he4, hz4, hd4⟩ := fl4.there
      refine store_ok (X := X.suite a ((a, oe4) :: (X.pn ++ pins))) (v := .ref a) (J4.suite he4 hd4 na nL nF) hN hi (.inl hln) rfl ?_ (.inr hln)
      intro s5 S5
      have ilt : i < σ'.length := by
        rw [J.len]
        exact (List.getElem?_eq_some_iff.mp hi).1
      refine wpAny_mono ((hsu a oe4 cls d (X.pn ++ pins) hz4 ⟨_, hd4⟩).run [] s5 _ H' { nx := fun σ6 H6 => σ6 = ((σ'.set i (some (.ref a))).set l (some (.ref a))) ∧ H6 = H', rt := fun _ _ => False, bk := fun _ _ => False, ct := fun _ _ => False } S5 ⟨.ref a, List.getElem?_set_self ilt, rfl, rfl⟩) ?_ fun _ _ z => False.elim z
      intro f s6 hsp
      cases f with
      | next =>
        obtain ⟨σ6, H6, S6, rfl, rfl⟩ := hsp
        have S7 : Inv X ((a, oe4) :: pins) ((σ'.set i (some (.ref a))).set l (some (.ref a))) H6 s6 := (S6.unsuite ok).pins_of fun p hp => by
          rcases List.mem_cons.mp hp with e | hp
          · rw [e]
            exact S6.pin (a, oe4) (List.mem_append_left _ List.mem_cons_self)
          · exact S6.pin p (List.mem_append_left _ (List.mem_cons_of_mem _ (List.mem_append_right _ hp)))
        refine gone_ok S7 hN hi hln ?_
        intro s7 J7
        obtain ⟨g1, g2, g3, g4, g5⟩ := J7.pin (a, oe4) (List.mem_append_right _ List.mem_cons_self)
        have J8 : Inv X [] (((σ'.set i (some (.ref a))).set l (some (.ref a))).set i none) H6 s7 := J7.pins_of fun p hp => by cases hp
        have J9 := Inv.track (o := ExT cls d a) J8 g1 g2 new0 g3 g5 (fun p hp => by rw [hpn] at hp; cases hp) (exT_ok g1 hz4 hd4)
        have J10 : Inv X pins (((σ'.set i (some (.ref a))).set l (some (.ref a))).set i none) (upd H6 a (ExT cls d a)) s7 := J9.pins_of fun p hp => by
          obtain ⟨k1, k2, k3⟩ := J7.pin p (List.mem_append_right _ (List.mem_cons_of_mem _ hp))
          have kp := J4.pin p (List.mem_append_right _ hp)
          refine ⟨k1, ?_, k3⟩
          by_cases e : p.1 = a
          · -- a pinned object was there before the exception
            exfalso
            have e1 := (I.pin p (List.mem_append_right _ hp)).1
            have e2 := (J.pin p (List.mem_append_right _ hp)).1
            rw [e] at e2
            have e3 := nb a _ e2 (by rw [hs]; exact nfr)
            rw [fl3.2.1] at e3
            cases e3
          · rw [upd_ne e]
            exact k2
        exact ⟨_, _, J10, hyes rfl a na⟩
      | brk => obtain ⟨_, _, _, q⟩ := hsp; cases q
      | cont => obtain ⟨_, _, _, q⟩ := hsp; cases q
      | ret u => obtain ⟨_, _, _, _, _, q⟩ := hsp; cases q
    | false =>
      show wpAny _ X.A (handleBy (.ref a) X.env []) _ _ _
      refine wpAny_handleBy_nil ?_
      obtain ⟨k1, k2, k3, oe, vs, T, oT, ts', he, hz, hd, h1, hr⟩ := id fl3
      unfold PySem.passOn
      refine wpAny_bind (wpAny_field he hd h1 ?_)
      rw [if_neg (show ¬ ((Value.ref T == Value.none) = true) from by simp)]
      have fin : wpAny (model X.prog X.w) X.A (setFlight (.ref a) X.env.frame) (fun _ s4 => wpAny (model X.prog X.w) X.A (throw (.ref a) : Sem Flow) (SP X pins D) X.xe s4) X.xe { s' with heap := h3 } := by
        rw [hf]
        exact HandSPX.setFlight_upZ fl3 fun h4 hh4 up4 => wpAny_throw (tk _ _ ⟨a, B, sI, pins, σ', H', cls, d, rfl, J, nb, (up.trans up3).trans up4, .inr (.inr (by rw [hs]; exact hh4)), na, os, ag, hno rfl⟩)
      first
        | exact wpAny_bind (wpAny_pure (wpAny_bind fin))
        | exact wpAny_bind fin
  · intro f s1 hsp
    cases f with
    | next => obtain ⟨σ', H', J', q⟩ := hsp; exact wpAny_execs_nil ⟨σ', H', J'.ofTry ok, q⟩
    | brk => obtain ⟨σ', H', J', q⟩ := hsp; exact ⟨σ', H', J'.ofTry ok, q⟩
    | cont => obtain ⟨σ', H', J', q⟩ := hsp; exact ⟨σ', H', J'.ofTry ok, q⟩
    | ret u => obtain ⟨v, σ', H', J', r, q⟩ := hsp; exact ⟨v, σ', H', J'.ofTry ok, r, q⟩
end
/-! ### a caught exception that a name holds -/
/-- what its class must say -/
structure ExcK (K : PySem.W.Frag) (D : Addr) : Prop where
  cl : (PySem.W.clsIn K D).isSome = true
  ga : PySem.W.findIn K (.ref D) "__getattribute__" = some (some (.builtin "BaseException.__getattribute__"))
  gg : PySem.W.findIn K (.ref D) "__getattr__" = some none
  sb : PySem.W.subIn K (.ref D) (.type "BaseException") = some true
  hd : PySem.W.hasDictIn K D = true
  kl : PySem.W.findIn K (.ref D) "__class__" = some (some (.builtin "object.__class__"))
  sp : PySem.W.specialIn K (.builtin "object.__class__") "__get__" = some (some (.builtin "getset_descriptor.__get__"))
  tk : PySem.W.takesIn K (.builtin "object.__class__") = some true
  mr : PySem.W.mroIn K D (.type "object") = some true
section
variable {X : Cx}
/-- isinstance(e, C) of such -/
def rIsX (K : PySem.W.Frag) : List V → Hp → VK → Prop := fun xs H Q => ∃ (a D : Addr) (d : Addr) (fs : List (Str × V)) (c : V) (u : Value) (b : Bool), xs = [.ref a, c] ∧ ClsV c u ∧ H a = some (ExT (.ref D) (some d) a) ∧ H d = some (.xd fs) ∧ ExcK K D ∧ PySem.W.kitOne K (.ref D) u = some b ∧ Q (.bl b) H
theorem inst_of {pins : List (Addr × Obj)} {σ : L2.St} {H : Hp} {s : Shared} {a D d : Addr} {fs : List (Str × V)} (I : Inv X pins σ H s) (ha : H a = some (ExT (.ref D) (some d) a)) (hd : H d = some (.xd fs)) :
    ∃ (oe od : Obj) (mA : Str → Option Value), PySem.W.InstAt s.heap a oe D (some od) ∧ (∀ f, RelO (fs.lookup f) (mA f)) ∧ ∀ n, PySem.W.lookIn n od = some (mA n) := by
  obtain ⟨⟨oe, vs, h1, h2, h3⟩, _⟩ := I.hok a _ ha
  obtain ⟨mA, hns, hr⟩ := (show ObjOk X.prog X.w H s.heap d (.xd fs) from I.hok d _ hd)
  obtain ⟨od, ho, hl⟩ := lookIn_ns hns
  refine ⟨oe, od, mA, ⟨h1, h2.1, ?_, ?_⟩, hr, hl⟩
  · unfold PySem.W.notCls
    rw [h3]
  · rw [h2.2]
    exact ho
theorem call_isX : CallR X (.builtin "isinstance") (rIsX X.K) := by
  intro pins s σ H xs us Q I r h
  obtain ⟨a, D, d, fs, c, u, b, rfl, hc, ha, hd, k, e, q⟩ := h
  obtain ⟨u1, u2, rfl, r1, r2⟩ := vals2 r
  cases (show u1 = Value.ref a from r1)
  have e2 := hc.eq r2
  subst e2
  obtain ⟨oe, od, mA, J, _, _⟩ := inst_of I ha hd
  exact PySem.W.kia_one (PySem.W.kitx_exc k.cl k.ga k.gg k.sb k.kl k.sp k.tk k.mr) I.kIn J e (fun z => nomatch z) fun tk => ⟨.bl b, H, I.tok tk, rfl, q⟩
/-- e.f -/
def tXt (K : PySem.W.Frag) (te : TE) (f : Str) : TE := fun σ H Q => te σ H fun x H1 => ∃ (a D d : Addr) (fs : List (Str × V)) (v : V), x = .ref a ∧ H1 a = some (ExT (.ref D) (some d) a) ∧ H1 d = some (.xd fs) ∧ ExcK K D ∧ PySem.W.findIn K (.ref D) f = some none ∧ fs.lookup f = some v ∧ Q v H1
theorem pe_xt {e : Expr} {te : TE} {pos : Pos} {f : Str} (he : PE X e te) (hb : attributeBase e f X.env (eval e X.env) = eval e X.env := by rfl) : PE X (.Attribute e f pos) (tXt X.K te f) := by
  constructor
  intro pins s σ H Q I h
  refine attr_of hb (thn (he.run pins s σ H _ I h) ?_)
  rintro u s1 ⟨x, H1, I1, rx, a, D, d, fs, v, rfl, ha, hd, k, hno, hl, q⟩
  cases (show u = Value.ref a from rx)
  obtain ⟨oe, od, mA, J, hr, hlk⟩ := inst_of I1 ha hd
  obtain ⟨u, hu, ru⟩ := RelO.some_of (v := v) (o := mA f) (by rw [← hl]; exact hr f)
  exact HandSPX.exc_get I1.kIn J k.ga k.gg k.sb (PySem.W.findObj_own k.hd hno rfl (by rw [hlk, hu])) (handed_of ru) ⟨v, H1, I1.tok _, ru, q⟩
end
end Ty

/-! ### an own exception's __init__ of one field, of two -/
namespace Ty
open PySem PySem.Spec PyProof.Rows L2
def spIni1 (C : Addr) (fs : List Str) : Sp := fun vs H Q _ => ∃ (a : Addr) (v : V) (f : Str), vs = [.ref a, v] ∧ fs = [f] ∧ H a = some (exo a C none) ∧ ∀ d, H d = none → d ≠ a → Q .non (upd (upd H d (exd d [(f, v)])) a (exo a C (some d)))
def spIni2 (C : Addr) (fs : List Str) : Sp := fun vs H Q _ => ∃ (a : Addr) (v u : V) (f g : Str), vs = [.ref a, v, u] ∧ fs = [f, g] ∧ H a = some (exo a C none) ∧
  ∀ d, H d = none → d ≠ a → Q .non (upd (upd (upd H d (exd d [(f, v)])) a (exo a C (some d))) d (exd d [(g, u), (f, v)]))
theorem spIni1_len {C : Addr} {fs : List Str} {x y : Str} {vs : List V} {H : Hp} {Q : VK} {E : XK} (h : spIni1 C fs vs H Q E) : vs.length = [x, y].length := by
  obtain ⟨_, _, _, rfl, _⟩ := h
  rfl
theorem spIni2_len {C : Addr} {fs : List Str} {x y z : Str} {vs : List V} {H : Hp} {Q : VK} {E : XK} (h : spIni2 C fs vs H Q E) : vs.length = [x, y, z].length := by
  obtain ⟨_, _, _, _, _, rfl, _⟩ := h
  rfl
theorem r_ini1 {K : PySem.W.Frag} {C : Addr} {f x y : Str} {vs : List V} {H : Hp} {Q : VK} {E : XK} (T : OexC K C) (no : PySem.W.findIn K (.ref C) f = some none) (h : spIni1 C [f] vs H Q E) :
    tOst K f (tVar 0) (tVar 1) { nx := fun _ H' => Q .non H', rt := Q } (start [x, y] vs) H := by
  obtain ⟨a, v, f', rfl, e, ha, k⟩ := h
  cases e
  exact ⟨v, rfl, .ref a, rfl, a, C, rfl, T, no, .inl ⟨ha, fun dx hd hn => k dx hd hn⟩⟩
theorem r_ini2 {K : PySem.W.Frag} {C : Addr} {f g x y z : Str} {vs : List V} {H : Hp} {Q : VK} {E : XK} (T : OexC K C) (no : PySem.W.findIn K (.ref C) f = some none) (no2 : PySem.W.findIn K (.ref C) g = some none) (h : spIni2 C [f, g] vs H Q E) :
    tSeq (tOst K f (tVar 0) (tVar 1)) (tOst K g (tVar 0) (tVar 2)) { nx := fun _ H' => Q .non H', rt := Q } (start [x, y, z] vs) H := by
  obtain ⟨a, v, u, f', g', rfl, e, ha, k⟩ := h
  cases e
  refine ⟨v, rfl, .ref a, rfl, a, C, rfl, T, no, .inl ⟨ha, fun dx hd hn => ?_⟩⟩
  refine ⟨u, rfl, .ref a, rfl, a, C, rfl, T, no2, .inr ⟨dx, [(f, v)], upd_same, ?_, by show 1 ≤ 900; decide, k dx hd hn⟩⟩
  rw [upd_ne hn]
  exact upd_same
/-- what stands behind C(v): the exception's dict -/
theorem mk1 {C : Addr} {f : Str} {v : V} {H1 : Hp} {Q : XK} (h : ∀ d H', Same H1 H' → H1 d = none → H' d = some (.xd [(f, v)]) → Q (.ref C) (some d) H') :
    [v].length ≤ 1000 ∧ ∀ a, H1 a = none → spIni1 C [f] (.ref a :: ([v] ++ [])) (upd H1 a (exo a C none))
      (fun u H2 => u = .non ∧ ∃ (d : Addr) (fs : List (Str × V)), H2 a = some (exo a C (some d)) ∧ H2 d = some (exd d fs) ∧ H1 d = none ∧ Q (.ref C) (some d) (upd (del H2 a) d (.xd fs))) (fun _ _ _ => False) := by
  refine ⟨by show 1 ≤ 1000; decide, fun a ha => ⟨a, v, f, rfl, rfl, upd_same, fun d hd hn => ⟨rfl, d, _, upd_same, by rw [upd_ne hn]; exact upd_same, by rwa [upd_ne hn] at hd, ?_⟩⟩⟩
  have hd0 : H1 d = none := by rwa [upd_ne hn] at hd
  refine h d _ (fun b o e => ?_) hd0 upd_same
  have ba := ne_of_none e ha
  rw [upd_ne (ne_of_none e hd0), del_ne ba, upd_ne ba, upd_ne (ne_of_none e hd0), upd_ne ba]
  exact e
theorem mk2 {C : Addr} {f g : Str} {v u : V} {H1 : Hp} {Q : XK} (h : ∀ d H', Same H1 H' → H1 d = none → H' d = some (.xd [(g, u), (f, v)]) → Q (.ref C) (some d) H') :
    [v, u].length ≤ 1000 ∧ ∀ a, H1 a = none → spIni2 C [f, g] (.ref a :: ([v, u] ++ [])) (upd H1 a (exo a C none))
      (fun x H2 => x = .non ∧ ∃ (d : Addr) (fs : List (Str × V)), H2 a = some (exo a C (some d)) ∧ H2 d = some (exd d fs) ∧ H1 d = none ∧ Q (.ref C) (some d) (upd (del H2 a) d (.xd fs))) (fun _ _ _ => False) := by
  refine ⟨by show 2 ≤ 1000; decide, fun a ha => ⟨a, v, u, f, g, rfl, rfl, upd_same, fun d hd hn => ⟨rfl, d, _, by rw [upd_ne hn.symm]; exact upd_same, upd_same, by rwa [upd_ne hn] at hd, ?_⟩⟩⟩
  have hd0 : H1 d = none := by rwa [upd_ne hn] at hd
  refine h d _ (fun b o e => ?_) hd0 upd_same
  have ba := ne_of_none e ha
  have bd := ne_of_none e hd0
  rw [upd_ne bd, del_ne ba, upd_ne bd, upd_ne ba, upd_ne bd, upd_ne ba]
  exact e
/-- what a def that raises an error of one field lets out: the error's dict, all else stays -/
def Out1 (C : Addr) (f : Str) (v : V) (H : Hp) (E : XK) : Prop := ∀ d H', Same H H' → H d = none → H' d = some (.xd [(f, v)]) → E (.ref C) (some d) H'
theorem Out1.up {C : Addr} {f : Str} {v : V} {H H1 : Hp} {E : XK} (h : Out1 C f v H E) (s : Same H H1) : Out1 C f v H1 E := fun d H' s' hd hx => h d H' (s.trans s') (by
  cases e : H d with
  | none => rfl
  | some o => rw [s _ _ e] at hd; cases hd) hx
end Ty
namespace Ty
open PySem PySem.Spec PyProof.Rows L2
section
variable {K : PySem.W.Frag} {C D : Addr} {b : Bool}
theorem cls_here (i : PySem.W.isClsIn K D = true) (t : PySem.W.typeIn K (.ref D) = some (.type "type")) (s : PySem.W.subIn K (.ref C) (.ref D) = some b) : PySem.W.kitCls K (.ref C) (.ref D) = some b := by
  have i' : (PySem.W.clsIn K D).isSome = true := i
  have e : ((PySem.W.clsIn K D).isSome && PySem.W.typeIn K (.ref D) == some (.type "type")) = true := by rw [i', t]; rfl
  show (if _ = true then PySem.W.subIn K (.ref C) (.ref D) else none) = some b
  rw [if_pos e]
  exact s
theorem exm_is (x : PySem.W.subIn K (.ref D) (.type "BaseException") = some true) (i : PySem.W.isClsIn K D = true) (t : PySem.W.typeIn K (.ref D) = some (.type "type")) (s : PySem.W.subIn K (.ref C) (.ref D) = some b) : PySem.W.exmOne K (.ref C) (.ref D) = some b := by
  have e : (PySem.W.subIn K (.ref D) (.type "BaseException") == some true) = true := by rw [x]; rfl
  show (if _ = true then PySem.W.kitCls K (.ref C) (.ref D) else none) = some b
  rw [if_pos e]
  exact cls_here i t s
theorem kit_isT (i : PySem.W.isClsIn K D = true) (t : PySem.W.typeIn K (.ref D) = some (.type "type")) (s : PySem.W.subIn K (.ref C) (.ref D) = some true) : PySem.W.kitOne K (.ref C) (.ref D) = some true := by
  unfold PySem.W.kitOne
  split
  · rfl
  · exact cls_here i t s
theorem kit_isF (i : PySem.W.isClsIn K D = true) (t : PySem.W.typeIn K (.ref D) = some (.type "type")) (s : PySem.W.subIn K (.ref C) (.ref D) = some false) (s2 : PySem.W.subIn K (.ref D) (.ref D) = some true) : PySem.W.kitOne K (.ref C) (.ref D) = some false := by
  unfold PySem.W.kitOne
  split
  · rename_i h
    have e : (Value.ref C) = (Value.ref D) := by simpa using h
    rw [e, s2] at s
    cases s
  · exact cls_here i t s
end
end Ty

namespace Ty
open PySem PySem.Spec PyProof.Rows L2
/-! ### operators -/
def CDivX (_ j : Int) : Prop := j ≠ 0 ∧ j.natAbs.log2 < 9000
theorem op_fdivX {X : Cx} : OpR X (binaryOp .FloorDiv) (rI CDivX fun i j => .int (i.fdiv j)) := opI fun i j _ _ _ _ _ hc q => floordiv_int hc.1 q (.inl (PyProof.noPylong_of_log2 hc.2))
theorem divX {i j : Int} {b : Nat} (h : j ≠ 0) (hb : j.natAbs < 2 ^ b) (h0 : 0 < b) (h9 : b ≤ 9000) : CDivX i j := ⟨h, Nat.lt_of_lt_of_le (PySem.Flt.log2_lt_of h0 hb) h9⟩
theorem op_subBl {X : Cx} : OpR X (binaryOp .Sub) (fun x y H Q => ∃ p q, x = .bl p ∧ y = .bl q ∧ Q (.int ((if p = true then (1 : Int) else 0) - if q = true then (1 : Int) else 0)) H) := by
  intro pins s σ H x y v u Q I rx ry h
  obtain ⟨p, q, rfl, rfl, k⟩ := h
  cases rx
  cases ry
  exact PyProof.Rows.sub_bool ⟨.int _, H, I.tok _, ⟨_, rfl⟩, k⟩
/-! ### the one form of a fraction -/
def frac (a b : Int) : Da := if b = 1 then .int a else .tup [.int a, .int b]
/-- d is the number a / b in its one form -/
def Low (a b : Int) (d : Da) : Prop := ∃ p q g : Int, g ≠ 0 ∧ a = p * g ∧ b = q * g ∧ 0 < q ∧ Nat.gcd p.natAbs q.natAbs = 1 ∧ d = frac p q
theorem frac_above {a b : Int} : above (frac a b) = a := by
  unfold frac
  split <;> rfl
theorem frac_below {a b : Int} : below (frac a b) = b := by
  unfold frac
  split
  · rename_i h
    rw [h]
    rfl
  · rfl
theorem frac_num {a b : Int} (h : 0 < b) (g : Nat.gcd a.natAbs b.natAbs = 1) : isNum (frac a b) = true := by
  unfold frac
  split
  · rfl
  · rename_i n
    show (false || (true && (decide (2 ≤ b) && decide (Nat.gcd a.natAbs b.natAbs = 1)))) = true
    rw [decide_eq_true (by omega : 2 ≤ b), decide_eq_true g]
    rfl
theorem co_dvd {p q p' q' : Int} (g : Nat.gcd p.natAbs q.natAbs = 1) (h : p * q' = p' * q) : q.natAbs ∣ q'.natAbs := by
  have h1 : q ∣ p * q' := ⟨p', by rw [h, Int.mul_comm]⟩
  have h2 : q.natAbs ∣ p.natAbs * q'.natAbs := by
    rw [← Int.natAbs_mul]
    exact Int.natAbs_dvd_natAbs.mpr h1
  exact (Nat.Coprime.symm (show Nat.Coprime p.natAbs q.natAbs from g)).dvd_of_dvd_mul_left h2
theorem co_eq {p q p' q' : Int} (g : Nat.gcd p.natAbs q.natAbs = 1) (g' : Nat.gcd p'.natAbs q'.natAbs = 1) (hq : 0 < q) (hq' : 0 < q') (h : p * q' = p' * q) : p = p' ∧ q = q' := by
  have d1 := co_dvd g h
  have d2 := co_dvd g' h.symm
  have e := Nat.dvd_antisymm d1 d2
  have eq : q = q' := by omega
  subst eq
  exact ⟨Int.eq_of_mul_eq_mul_right (by omega) h, rfl⟩
theorem Low.uniq {a b a' b' : Int} {d d' : Da} (h : Low a b d) (h' : Low a' b' d') (e : a * b' = a' * b) : d = d' := by
  obtain ⟨p, q, g, g0, rfl, rfl, q0, co, rfl⟩ := h
  obtain ⟨p', q', g', g0', rfl, rfl, q0', co', rfl⟩ := h'
  have e2 : (p * q') * (g * g') = (p' * q) * (g * g') := by
    have e3 : p * g * (q' * g') = (p * q') * (g * g') := by rw [Int.mul_assoc, Int.mul_left_comm g, ← Int.mul_assoc p]
    have e4 : p' * g' * (q * g) = (p' * q) * (g * g') := by rw [Int.mul_assoc, Int.mul_left_comm g', ← Int.mul_assoc p', Int.mul_comm g']
    rw [← e3, ← e4, e]
  have e3 := Int.eq_of_mul_eq_mul_right (Int.mul_ne_zero g0 g0') e2
  obtain ⟨rfl, rfl⟩ := co_eq co co' q0 q0' e3
  rfl
theorem Low.at (a b : Int) (h : b ≠ 0) : ∃ d, Low a b d := by
  have gp : 0 < Nat.gcd a.natAbs b.natAbs := Nat.gcd_pos_of_pos_right _ (by omega)
  have d1 : ((Nat.gcd a.natAbs b.natAbs : Nat) : Int) ∣ a := Int.ofNat_dvd_left.mpr (Nat.gcd_dvd_left _ _)
  have d2 : ((Nat.gcd a.natAbs b.natAbs : Nat) : Int) ∣ b := Int.ofNat_dvd_left.mpr (Nat.gcd_dvd_right _ _)
  have co := Nat.coprime_div_gcd_div_gcd gp
  obtain ⟨p, hp⟩ := d1
  obtain ⟨q, hq⟩ := d2
  generalize hg : Nat.gcd a.natAbs b.natAbs = g at *
  have cop : Nat.gcd p.natAbs q.natAbs = 1 := by
    have e1 : a.natAbs / g = p.natAbs := by rw [hp, Int.natAbs_mul, Int.natAbs_natCast, Nat.mul_div_cancel_left _ gp]
    have e2 : b.natAbs / g = q.natAbs := by rw [hq, Int.natAbs_mul, Int.natAbs_natCast, Nat.mul_div_cancel_left _ gp]
    rw [e1, e2] at co
    exact co
  by_cases hb : 0 < b
  · refine ⟨frac p q, p, q, g, by omega, by rw [hp, Int.mul_comm], by rw [hq, Int.mul_comm], ?_, cop, rfl⟩
    rw [hq] at hb
    exact Int.pos_of_mul_pos_right hb (by omega)
  · refine ⟨frac (-p) (-q), -p, -q, -g, by omega, by rw [hp, Int.neg_mul_neg, Int.mul_comm], by rw [hq, Int.neg_mul_neg, Int.mul_comm], ?_, by rw [Int.natAbs_neg, Int.natAbs_neg]; exact cop, rfl⟩
    have hb' : q * (g : Int) < 0 := by rw [Int.mul_comm]; omega
    have := Int.neg_of_mul_neg_left hb' (by omega)
    omega
theorem Low.num {a b : Int} {d : Da} (h : Low a b d) : isNum d = true ∧ 0 < below d ∧ above d * b = a * below d ∧ (above d).natAbs ≤ a.natAbs ∧ (below d).natAbs ≤ b.natAbs := by
  obtain ⟨p, q, g, g0, rfl, rfl, q0, co, rfl⟩ := h
  rw [frac_above, frac_below]
  have g1 : 1 ≤ g.natAbs := by omega
  refine ⟨frac_num q0 co, q0, by rw [Int.mul_assoc, Int.mul_comm g, ← Int.mul_assoc], ?_, ?_⟩
  · rw [Int.natAbs_mul]
    exact Nat.le_mul_of_pos_right _ g1
  · rw [Int.natAbs_mul]
    exact Nat.le_mul_of_pos_right _ g1
/-- a number's parts share no divisor -/
theorem num_parts {d : Da} (h : isNum d = true) : 0 < below d ∧ Nat.gcd (above d).natAbs (below d).natAbs = 1 := by
  have two : ∀ l, isPair l = true → ∃ a b : Int, l = [.int a, .int b] ∧ 2 ≤ b ∧ Nat.gcd a.natAbs b.natAbs = 1 := fun l hl => by
    match l, hl with
    | [.int a, .int b], hl =>
      have hl' : (decide (2 ≤ b) && decide (Nat.gcd a.natAbs b.natAbs = 1)) = true := hl
      rw [Bool.and_eq_true] at hl'
      exact ⟨a, b, rfl, of_decide_eq_true hl'.1, of_decide_eq_true hl'.2⟩
  cases d with
  | int i => exact ⟨by show (0 : Int) < 1; decide, Nat.gcd_one_right _⟩
  | tup l =>
    obtain ⟨a, b, rfl, h2, h3⟩ := two l (by simpa [isNum, isN, isS, items] using h)
    exact ⟨by show 0 < b; omega, h3⟩
  | lst l =>
    obtain ⟨a, b, rfl, h2, h3⟩ := two l (by simpa [isNum, isN, isS, items] using h)
    exact ⟨by show 0 < b; omega, h3⟩
  | _ => cases h
/-- a number's one form -/
theorem Low.self {d : Da} (h : isNum d = true) : Low (above d) (below d) (frac (above d) (below d)) := by
  obtain ⟨h1, h2⟩ := num_parts h
  exact ⟨_, _, 1, by decide, (Int.mul_one _).symm, (Int.mul_one _).symm, h1, h2, rfl⟩
/-- is it in the one form -/
def isOne : Da → Bool
  | .int _ => true
  | .tup l => isPair l
  | _ => false
theorem isOne_num {d : Da} (h : isOne d = true) : isNum d = true := by
  cases d with
  | int i => rfl
  | tup l =>
    have h' : isPair l = true := h
    simpa [isNum, isN, isS, items] using h'
  | _ => cases h
theorem isOne_frac {d : Da} (h : isOne d = true) : d = frac (above d) (below d) := by
  cases d with
  | int i => rfl
  | tup l =>
    match l, h with
    | [.int a, .int b], h =>
      have hl' : (decide (2 ≤ b) && decide (Nat.gcd a.natAbs b.natAbs = 1)) = true := h
      rw [Bool.and_eq_true] at hl'
      have h2 := of_decide_eq_true hl'.1
      show Da.tup [.int a, .int b] = if b = 1 then .int a else .tup [.int a, .int b]
      rw [if_neg (by omega)]
  | _ => cases h
theorem Low.one {a b : Int} {d : Da} (h : Low a b d) : isOne d = true := by
  obtain ⟨p, q, g, g0, rfl, rfl, q0, co, rfl⟩ := h
  have e := frac_num q0 co
  unfold frac at e ⊢
  split
  · rfl
  · rename_i n
    rw [if_neg n] at e
    rw [isOne]
    simpa [isNum, isN, isS, items] using e
/-- the values that a program makes of it -/
theorem low_quot {a b g : Int} (hg : g ≠ 0) (ha : g ∣ a) (hb : g ∣ b) : a = a.fdiv g * g ∧ b = b.fdiv g * g := by
  rw [Int.fdiv_eq_ediv_of_dvd ha, Int.fdiv_eq_ediv_of_dvd hb]
  exact ⟨(Int.ediv_mul_cancel ha).symm, (Int.ediv_mul_cancel hb).symm⟩
/-- the number that the two quotients by the signed divisor make -/
theorem low_of {a b g : Int} (hb : b ≠ 0) (hg : g = if b < 0 then -((Nat.gcd a.natAbs b.natAbs : Nat) : Int) else ((Nat.gcd a.natAbs b.natAbs : Nat) : Int)) :
    g ≠ 0 ∧ 0 < b.fdiv g ∧ Low a b (frac (a.fdiv g) (b.fdiv g)) ∧ (b = g ↔ b.fdiv g = 1) ∧ g.natAbs ≤ b.natAbs := by
  have gp : 0 < Nat.gcd a.natAbs b.natAbs := Nat.gcd_pos_of_pos_right _ (by omega)
  have gn : g.natAbs = Nat.gcd a.natAbs b.natAbs := by
    rw [hg]
    split
    · rw [Int.natAbs_neg, Int.natAbs_natCast]
    · rw [Int.natAbs_natCast]
  have g0 : g ≠ 0 := by omega
  have d1 : g ∣ a := Int.natAbs_dvd_natAbs.mp (by rw [gn]; exact Nat.gcd_dvd_left _ _)
  have d2 : g ∣ b := Int.natAbs_dvd_natAbs.mp (by rw [gn]; exact Nat.gcd_dvd_right _ _)
  obtain ⟨e1, e2⟩ := low_quot g0 d1 d2
  have co : Nat.gcd (a.fdiv g).natAbs (b.fdiv g).natAbs = 1 := by
    have c := Nat.coprime_div_gcd_div_gcd gp
    have f1 : a.natAbs / Nat.gcd a.natAbs b.natAbs = (a.fdiv g).natAbs := by
      have : a.natAbs = (a.fdiv g).natAbs * g.natAbs := by rw [← Int.natAbs_mul, ← e1]
      rw [← gn, this, Nat.mul_div_cancel _ (by omega)]
    have f2 : b.natAbs / Nat.gcd a.natAbs b.natAbs = (b.fdiv g).natAbs := by
      have : b.natAbs = (b.fdiv g).natAbs * g.natAbs := by rw [← Int.natAbs_mul, ← e2]
      rw [← gn, this, Nat.mul_div_cancel _ (by omega)]
    rw [f1, f2] at c
    exact c
  have qp : 0 < b.fdiv g := by
    by_cases hb2 : b < 0
    · have gneg : g < 0 := by rw [hg, if_pos hb2]; omega
      generalize b.fdiv g = q at e2
      rw [e2] at hb2
      by_cases z : 0 < q
      · exact z
      · exact absurd (Int.mul_nonneg_of_nonpos_of_nonpos (by omega : q ≤ 0) (by omega : g ≤ 0)) (by omega)
    · have gpos : 0 < g := by rw [hg, if_neg hb2]; omega
      generalize b.fdiv g = q at e2
      have hb3 : 0 < q * g := by rw [← e2]; omega
      exact Int.pos_of_mul_pos_left hb3 gpos
  refine ⟨g0, qp, ⟨_, _, g, g0, e1, e2, qp, co, rfl⟩, ⟨fun e => ?_, fun e => ?_⟩, ?_⟩
  · have e3 : g = b.fdiv g * g := by rw [← e2, e]
    have e4 : 1 * g = b.fdiv g * g := by rw [Int.one_mul]; exact e3
    exact (Int.eq_of_mul_eq_mul_right g0 e4).symm
  · rw [e, Int.one_mul] at e2
    exact e2
  · rw [gn]
    exact Nat.gcd_le_right _ (by omega)
end Ty

namespace Ty
open PySem PySem.Spec PyProof.Rows L2
/-! ### repr of any value without a dict -/
mutual
def pd : Da → PyData
  | .non => .none
  | .bl b => .bool b
  | .int i => .int i
  | .str x => .str x
  | .tup l => .tuple (pdA l)
  | .lst l => .list (pdA l)
  | .dic => .dict []
def pdA : List Da → List PyData
  | [] => []
  | d :: l => pd d :: pdA l
end
mutual
/-- more than the text is long -/
def wt : Da → Nat
  | .int _ => 1930
  | .str x => (reprText x).length
  | .tup l => wtA l + 10
  | .lst l => wtA l + 10
  | _ => 10
def wtA : List Da → Nat
  | [] => 0
  | d :: l => wt d + 2 + wtA l
end
mutual
/-- its integers have less than 1920 bits, there is no dict -/
def nums : Da → Bool
  | .int i => decide (i.natAbs.log2 < 1920)
  | .tup l => numsA l
  | .lst l => numsA l
  | .dic => false
  | _ => true
def numsA : List Da → Bool
  | [] => true
  | d :: l => nums d && numsA l
end
mutual
def dp : Da → Nat
  | .tup l => dpA l + 1
  | .lst l => dpA l + 1
  | .dic => 1
  | _ => 0
def dpA : List Da → Nat
  | [] => 0
  | d :: l => max (dp d) (dpA l)
end
mutual
theorem nums_show : ∀ d : Da, nums d = true → (pd d).showable = true ∧ (pd d).hasDict = false
  | .non, _ => ⟨rfl, rfl⟩
  | .bl _, _ => ⟨rfl, rfl⟩
  | .int i, h => ⟨h, rfl⟩
  | .str _, _ => ⟨rfl, rfl⟩
  | .tup l, h => numsA_show l h
  | .lst l, h => numsA_show l h
  | .dic, h => by cases h
theorem numsA_show : ∀ l : List Da, numsA l = true → PyData.showableAll (pdA l) = true ∧ PyData.hasDictAll (pdA l) = false
  | [], _ => ⟨rfl, rfl⟩
  | d :: l, h => by
    have h' : (nums d && numsA l) = true := h
    rw [Bool.and_eq_true] at h'
    obtain ⟨a1, a2⟩ := nums_show d h'.1
    obtain ⟨b1, b2⟩ := numsA_show l h'.2
    constructor
    · show (PyData.showable (pd d) && PyData.showableAll (pdA l)) = true
      rw [a1, b1]
      rfl
    · show (PyData.hasDict (pd d) || PyData.hasDictAll (pdA l)) = false
      rw [a2, b2]
      rfl
end
mutual
theorem dp_eq : ∀ d : Da, PyData.depth (pd d) = dp d
  | .non => rfl
  | .bl _ => rfl
  | .int _ => rfl
  | .str _ => rfl
  | .tup l => by
    show PyData.depthAll (pdA l) + 1 = dpA l + 1
    rw [dpA_eq l]
  | .lst l => by
    show PyData.depthAll (pdA l) + 1 = dpA l + 1
    rw [dpA_eq l]
  | .dic => rfl
theorem dpA_eq : ∀ l : List Da, PyData.depthAll (pdA l) = dpA l
  | [] => rfl
  | d :: l => by
    show max (PyData.depth (pd d)) (PyData.depthAll (pdA l)) = max (dp d) (dpA l)
    rw [dp_eq d, dpA_eq l]
end
theorem wtA_sum : ∀ l : List Da, (∀ d ∈ l, (PyData.shown (pd d)).length ≤ wt d) → ((PyData.shownAll (pdA l)).map (·.length)).sum + 2 * (PyData.shownAll (pdA l)).length ≤ wtA l
  | [], _ => Nat.le_refl _
  | d :: l, h => by
    have h1 := h d List.mem_cons_self
    have h2 := wtA_sum l fun e he => h e (List.mem_cons_of_mem _ he)
    show ((PyData.shown (pd d) :: PyData.shownAll (pdA l)).map (·.length)).sum + 2 * (PyData.shown (pd d) :: PyData.shownAll (pdA l)).length ≤ wt d + 2 + wtA l
    rw [List.map_cons, List.sum_cons, List.length_cons]
    omega
mutual
theorem shown_wt : ∀ d : Da, nums d = true → (PyData.shown (pd d)).length ≤ wt d
  | .non, _ => by show (PyData.shown .none).length ≤ 10; decide +kernel
  | .bl b, _ => by
    cases b
    · show (PyData.shown (.bool false)).length ≤ 10; decide +kernel
    · show (PyData.shown (.bool true)).length ≤ 10; decide +kernel
  | .int i, h => by
    have h1 := PySem.int_text_length_le (a := i) (k := 1920) (by decide) (of_decide_eq_true h)
    show (PySem.Str.ofString (toString i)).length ≤ 1930
    rw [PySem.ofString_length]
    omega
  | .str x, _ => Nat.le_refl _
  | .tup l, h => by
    have h1 := wtA_sum l (shown_wtA l h)
    have h2 := tupleText_len_le (PyData.shownAll (pdA l))
    show (tupleText (PyData.shownAll (pdA l))).length ≤ wtA l + 10
    omega
  | .lst l, h => by
    have h1 := wtA_sum l (shown_wtA l h)
    have h2 := listText_len_le (PyData.shownAll (pdA l))
    show (listText (PyData.shownAll (pdA l))).length ≤ wtA l + 10
    omega
  | .dic, h => by cases h
theorem shown_wtA : ∀ l : List Da, numsA l = true → ∀ d ∈ l, (PyData.shown (pd d)).length ≤ wt d
  | [], _, d, hd => by cases hd
  | e :: l, h, d, hd => by
    have h' : (nums e && numsA l) = true := h
    rw [Bool.and_eq_true] at h'
    cases hd with
    | head => exact shown_wt e h'.1
    | tail _ hd => exact shown_wtA l h'.2 d hd
end
def okr (d : Da) : Bool := nums d && (decide (dp d ≤ 60) && decide (wt d ≤ 16000000))
mutual
theorem Is.dp {K : PySem.W.Frag} {H : Hp} : ∀ (d : Da) (v : V), Is H v d → nums d = true → Dp K H v (pd d)
  | .non, _, h, _ => by cases h; exact .non
  | .bl b, _, h, _ => by cases h; exact .bl b
  | .int i, _, h, _ => by cases h; exact .int i
  | .str x, _, h, _ => by cases h; exact .str x
  | .tup l, _, h, n => by
    cases h with
    | tup e h => exact .tup (.inl (.inl e)) (IsAll.dp l _ h n)
  | .lst l, _, h, n => by
    cases h with
    | lst e h => exact .lst (.inl (.inl e)) (IsAll.dp l _ h n)
  | .dic, _, _, n => by cases n
theorem IsAll.dp {K : PySem.W.Frag} {H : Hp} : ∀ (l : List Da) (vs : List V), IsAll H vs l → numsA l = true → DpAll K H vs (pdA l)
  | [], _, h, _ => by cases h; exact .nil
  | d :: l, _, h, n => by
    have h' : (nums d && numsA l) = true := n
    rw [Bool.and_eq_true] at h'
    cases h with
    | cons h t => exact .cons (Is.dp d _ h h'.1) (IsAll.dp l _ t h'.2)
end
section
variable {X : Cx}
/-- repr(x) -/
theorem call_reprD (hu : X.A.units + 64 < cLine) (hg : X.A.guards = some []) : CallR X (.builtin "repr") (fun xs H Q => ∃ v d, xs = [v] ∧ Is H v d ∧ okr d = true ∧ Q (.str (pd d).shown) H) := by
  intro pins s σ H xs us Q I r h
  obtain ⟨v, d, rfl, hd, ok, q⟩ := h
  obtain ⟨u, rfl, ru⟩ := vals1 r
  unfold okr at ok
  rw [Bool.and_eq_true, Bool.and_eq_true] at ok
  have h1 := ok.1
  have h2 := of_decide_eq_true ok.2.1
  have h3 := of_decide_eq_true ok.2.2
  obtain ⟨s1, s2⟩ := nums_show d h1
  have sz := shown_wt d h1
  have line : (PyData.shown (pd d)).length ≤ sizeLine := Nat.le_trans sz (Nat.le_trans h3 (by decide))
  have fin : ∀ {t : Tok} {s' : Shared}, Inv X pins σ H s' → EP X pins σ Q (.str (pd d).shown t) s' := fun {t s'} I' => ⟨.str (pd d).shown, H, I', ⟨t, rfl⟩, q⟩
  have rr : ∀ {a : Addr}, u = .ref a → Dp X.K H v (pd d) → wpAny (model X.prog X.w) X.A (PySem.call (.builtin "repr") [u]) (EP X pins σ Q) X.xe s := fun {a} e D => by
    subst e
    obtain ⟨as, rr⟩ := Dp.reads I (pd d) _ _ D ru
    refine repr_of_reads' rr s1 (fun z => by rw [s2] at z; cases z) hg (by rw [dp_eq]; omega) (fun _ _ e => e) (fun h' u tk hk => ?_) line
    exact fin (I.kept hk)
  have D := Is.dp (K := X.K) d v hd h1
  cases hd with
  | non =>
    cases ru
    exact PySem.P.repr_of_none (fin (I.tok _))
  | bl b =>
    cases ru
    exact PySem.P.repr_of_bool (fin (I.tok _))
  | int i =>
    obtain ⟨t, rfl⟩ := ru
    exact PySem.P.repr_of_int (of_decide_eq_true h1) (fin (I.tok _))
  | str x =>
    obtain ⟨t, rfl⟩ := ru
    exact PySem.P.repr_of_str (fin (I.tok _)) line
  | tup e hx => exact rr (show u = _ from ru) D
  | lst e hx => exact rr (show u = _ from ru) D
  | dic e => cases h1
end
/-! ### what is new -/
/-- all that v is made of has been made since H -/
def New (H H' : Hp) (v : V) (d : Da) : Prop := ∀ S, Live S H → Is (mn S H') v d
section
variable {H H1 H2 : Hp} {v : V} {d : Da}
theorem New.is (h : New H H1 v d) : Is H1 v d := (h (fun _ => false) (fun _ z => by cases z)).up mn_same
theorem New.up (h : New H H1 v d) (s : Same H1 H2) : New H H2 v d := fun S l => (h S l).up (Same.less s)
theorem New.from (h : New H1 H2 v d) (s : Same H H1) : New H H2 v d := fun S l => h S (l.more s)
theorem New.int {i : Int} : New H H1 (.int i) (.int i) := fun _ _ => .int i
theorem New.bl {b : Bool} : New H H1 (.bl b) (.bl b) := fun _ _ => .bl b
theorem New.str {x : Str} : New H H1 (.str x) (.str x) := fun _ _ => .str x
theorem New.tup2 {p : Addr} {v w : V} {d e : Da} (hp : H p = none) (e1 : H1 p = some (.tup [v, w])) (a : New H H1 v d) (b : New H H1 w e) : New H H1 (.ref p) (.tup [d, e]) := fun S l => by
  refine .tup ?_ (.cons (a S l) (.cons (b S l) .nil))
  rw [mn_at]
  · exact e1
  · cases q : S p with
    | false => rfl
    | true => exact absurd hp (l p q)
end
/-! ### drawing, more -/
section
variable {S : Addr → Bool} {j bk : Addr} {H0 H : Hp} {c c1 c2 n : Nat} {σ : L2.St} {te ta tb : TE}
/-- f(jar, e) -/
theorem dr_reachE {i : Nat} {P : Int → Prop} (h : σ[i]? = some (some (.ref j))) (hm : Dr S j bk H0 c σ te (fun d => ∃ m, d = .int m ∧ P m)) (hP : ∀ m, P m → 0 < m ∧ m.natAbs < 2 ^ 8000) :
    Dr S j bk H0 (c + 1) σ (tCall spReach [] E0 (tCons (tVar i) (tCons te tNil))) (fun d => ∃ r, d = .int r ∧ ∃ m, P m ∧ 0 ≤ r ∧ r < m) := fun H n Q kp lv J hn k =>
  ⟨_, h, hm H n _ kp lv J (by omega) fun v d H1 k1 l1 J1 i1 p1 => by
    obtain ⟨m, rfl, pm⟩ := p1
    cases i1
    exact ⟨j, bk, m, n + c, rfl, J1, by omega, (hP m pm).1, (hP m pm).2, fun r H' k2 J2 h0 h1 => k _ _ H' (k1.trans k2) (l1.up k2 J2) (by rwa [Nat.add_assoc] at J2) (.int r) ⟨r, rfl, m, pm, h0, h1⟩⟩⟩
end
/-! ### numbers -/
def bitsN : Nat := 4000
/-- the parts of a number have less than so many bits -/
def NB (n : Nat) (d : Da) : Prop := (above d).natAbs < 2 ^ n ∧ (below d).natAbs < 2 ^ n
theorem NB.more {n m : Nat} {d : Da} (h : NB n d) (l : n ≤ m) : NB m d := ⟨Nat.lt_of_lt_of_le h.1 (Nat.pow_le_pow_right (by decide) l), Nat.lt_of_lt_of_le h.2 (Nat.pow_le_pow_right (by decide) l)⟩
/-- a / b in its one form, made new -/
def spNo : Sp := fun vs H Q _ => ∃ a b : Int, vs = [.int a, .int b] ∧ b ≠ 0 ∧ b.natAbs < 2 ^ 8900 ∧ ∀ v d H', Same H H' → New H H' v d → Low a b d → Q v H'
/-- what a def of numbers gives -/
def spOn (F : Da → Da → Prop) : Sp := fun vs H Q _ => ∃ v d, vs = [v] ∧ Is H v d ∧ isNum d = true ∧ NB bitsN d ∧ ∀ w r H', Same H H' → New H H' w r → F d r → Q w H'
def spOn2 (C : Da → Da → Prop) (F : Da → Da → Da → Prop) : Sp := fun vs H Q _ => ∃ u v d e, vs = [u, v] ∧ Is H u d ∧ Is H v e ∧ isNum d = true ∧ isNum e = true ∧ NB bitsN d ∧ NB bitsN e ∧ C d e ∧ ∀ w r H', Same H H' → New H H' w r → F d e r → Q w H'
def CT (_ _ : Da) : Prop := True
def fSum (d e r : Da) : Prop := Low (above d * below e + above e * below d) (below d * below e) r
def fDiff (d e r : Da) : Prop := Low (above d * below e - above e * below d) (below d * below e) r
def fProd (d e r : Da) : Prop := Low (above d * above e) (below d * below e) r
def fQuot (d e r : Da) : Prop := Low (above d * below e) (below d * above e) r
def fLess (d e r : Da) : Prop := r = .bl (decide (above d * below e < above e * below d))
def fNeg (d r : Da) : Prop := Low (-above d) (below d) r
def sgn (i : Int) : Int := (if decide (0 < i) = true then (1 : Int) else 0) - if decide (i < 0) = true then (1 : Int) else 0
def fSign (d r : Da) : Prop := r = .int (sgn (above d))
theorem Low.nb {a b : Int} {d : Da} {n : Nat} (h : Low a b d) (ha : a.natAbs < 2 ^ n) (hb : b.natAbs < 2 ^ n) : NB n d := ⟨Nat.lt_of_le_of_lt h.num.2.2.2.1 ha, Nat.lt_of_le_of_lt h.num.2.2.2.2 hb⟩
/-- the number that comes of a number that stands for a fraction -/
theorem quot_of {a b p q u v : Int} {f r : Da} (h : Low p q f) (hr : Low (a * above f) (b * below f) r) (hb : b ≠ 0) (hq : q ≠ 0) (hu : u = a * p) (hv : v = b * q) : Low u v r := by
  obtain ⟨d, hd⟩ := Low.at u v (by rw [hv]; exact Int.mul_ne_zero hb hq)
  have e : r = d := hr.uniq hd (by
    rw [hu, hv]
    have e1 := h.num.2.2.1
    calc a * above f * (b * q) = a * b * (above f * q) := by rw [Int.mul_assoc, Int.mul_left_comm (above f) b q, ← Int.mul_assoc a]
      _ = a * b * (p * below f) := by rw [e1]
      _ = a * p * (b * below f) := by rw [Int.mul_assoc, Int.mul_left_comm b p, ← Int.mul_assoc a])
  rw [e]
  exact hd
theorem diff_of {a b c e : Int} {f r : Da} (h : Low (-c) e f) (hr : Low (a * below f + above f * b) (b * below f) r) (hb : b ≠ 0) (he : e ≠ 0) : Low (a * e - c * b) (b * e) r := by
  obtain ⟨d, hd⟩ := Low.at (a * e - c * b) (b * e) (Int.mul_ne_zero hb he)
  have q : r = d := hr.uniq hd (by
    have e1 := h.num.2.2.1
    have e2 : (a * below f + above f * b) * (b * e) = a * below f * (b * e) + above f * e * (b * b) := by
      rw [Int.add_mul]
      congr 1
      rw [Int.mul_assoc, Int.mul_assoc, Int.mul_left_comm b b e, Int.mul_comm e, Int.mul_comm (b * b) e]
      simp only [Int.mul_assoc, Int.mul_comm, Int.mul_left_comm]
    rw [e2, e1, Int.sub_mul]
    simp only [Int.mul_assoc, Int.mul_comm, Int.mul_left_comm, Int.neg_mul, Int.mul_neg, Int.sub_eq_add_neg])
  rw [q]
  exact hd
end Ty
namespace Ty
open PySem PySem.Spec PyProof.Rows L2
/-- a demand on a value -/
def spNeed (f : Da → Bool) (C : Addr) : Sp := fun vs H Q E => ∃ v p d, vs = [v, p] ∧ Is H v d ∧ (f d = true → ∀ H', Same H H' → Q .non H') ∧ (f d = false → Out1 C "part" p H E)
def spBoth (C : Addr) : Sp := fun vs H Q E => ∃ u v d e, vs = [u, v] ∧ Is H u d ∧ Is H v e ∧ (isNum d = false → Out1 C "part" (.str "one") H E) ∧ (isNum d = true → isNum e = false → Out1 C "part" (.str "other") H E) ∧
  (isNum d = true → isNum e = true → ∀ H', Same H H' → Q .non H')
/-- two numbers reckoned -/
def spBin (C : Addr) (G : Da → Da → Prop) (F : Da → Da → Da → Prop) : Sp := fun vs H Q E => ∃ u v d e, vs = [u, v] ∧ Is H u d ∧ Is H v e ∧ (isNum d = true → isNum e = true → NB bitsN d ∧ NB bitsN e) ∧
  (isNum d = false → Out1 C "part" (.str "one") H E) ∧ (isNum d = true → isNum e = false → Out1 C "part" (.str "other") H E) ∧
  (isNum d = true → isNum e = true → G d e → ∀ w r H', Same H H' → New H H' w r → F d e r → Q w H')
def spQuo (C C2 : Addr) : Sp := fun vs H Q E => ∃ u v d e, vs = [u, v] ∧ Is H u d ∧ Is H v e ∧ (isNum d = true → isNum e = true → NB bitsN d ∧ NB bitsN e) ∧
  (isNum d = false → Out1 C "part" (.str "one") H E) ∧ (isNum d = true → isNum e = false → Out1 C "part" (.str "other") H E) ∧ (isNum d = true → isNum e = true → above e = 0 → Out1 C2 "part" (.str "other") H E) ∧
  (isNum d = true → isNum e = true → above e ≠ 0 → ∀ w r H', Same H H' → New H H' w r → fQuot d e r → Q w H')
def spSgn (C : Addr) : Sp := fun vs H Q E => ∃ v d, vs = [v] ∧ Is H v d ∧ (isNum d = true → NB bitsN d) ∧ (isNum d = false → Out1 C "part" (.str "number") H E) ∧ (isNum d = true → ∀ w r H', Same H H' → New H H' w r → fSign d r → Q w H')
theorem sgn_zero {i : Int} : sgn i = 0 ↔ i = 0 := by
  unfold sgn
  by_cases h1 : 0 < i
  · rw [decide_eq_true h1, decide_eq_false (by omega : ¬ i < 0)]
    constructor
    · intro z; cases z
    · intro z; omega
  · by_cases h2 : i < 0
    · rw [decide_eq_false h1, decide_eq_true h2]
      constructor
      · intro z; cases z
      · intro z; omega
    · rw [decide_eq_false h1, decide_eq_false h2]
      constructor
      · intro z; omega
      · intro z; rfl
end Ty

namespace Ty
open PySem PySem.Spec PyProof.Rows L2
section
variable {S : Addr → Bool} {j bk : Addr} {H0 H : Hp} {c c1 c2 c3 n : Nat} {σ : L2.St} {te ta tb tc : TE}
/-- a / b in its one form -/
theorem dr_low {Pa Pb : Int → Prop} (ha : Dr S j bk H0 c1 σ ta (fun d => ∃ i, d = .int i ∧ Pa i)) (hb : Dr S j bk H0 c2 σ tb (fun d => ∃ i, d = .int i ∧ Pb i)) (hp : ∀ b, Pb b → b ≠ 0 ∧ b.natAbs < 2 ^ 8900) :
    Dr S j bk H0 (c1 + c2) σ (tCall spNo [] E0 (tCons ta (tCons tb tNil))) (fun d => ∃ a b, Pa a ∧ Pb b ∧ Low a b d) := fun H n Q kp lv J hn k =>
  ha H n _ kp lv J (by omega) fun v d H1 k1 l1 J1 h1 p1 => hb H1 (n + c1) _ (kp.trans k1) l1 J1 (by omega) fun u e H2 k2 l2 J2 h2 p2 => by
    obtain ⟨a, rfl, pa⟩ := p1
    obtain ⟨b, rfl, pb⟩ := p2
    cases h1
    cases h2
    exact ⟨a, b, rfl, (hp b pb).1, (hp b pb).2, fun w r H3 s3 n3 l3 => k w r H3 ((k1.trans k2).trans (Same.keep s3)) (l2.more s3) ((by rwa [Nat.add_assoc] at J2 : Jar j bk H2 (n + (c1 + c2))).up s3) (n3 S l2) ⟨a, b, pa, pb, l3⟩⟩
/-- one of a list that is made -/
theorem dr_pickV {i : Nat} {P2 : List Da → Prop} (hj : S j = true) (h : σ[i]? = some (some (.ref j))) (hl : Dr S j bk H0 c σ te (fun d => ∃ ds, d = .lst ds ∧ P2 ds)) (hp : ∀ ds, P2 ds → 0 < ds.length ∧ ds.length ≤ 1000) :
    Dr S j bk H0 (c + 1) σ (tCall spPick [] E0 (tCons (tVar i) (tCons te tNil))) (fun d => ∃ ds, P2 ds ∧ d ∈ ds) := fun H n Q kp lv J hn k =>
  ⟨_, h, hl H n _ kp lv J (by omega) fun v d H1 k1 l1 J1 h1 p1 => by
    obtain ⟨ds, rfl, p2⟩ := p1
    cases h1 with
    | @lst a xs _ e hx =>
      obtain ⟨e1, e2⟩ := mn_of e
      have aj : a ≠ j := fun z => by rw [z, hj] at e1; cases e1
      have hl := hp ds p2
      have hl2 := hx.length
      refine ⟨j, bk, a, xs, n + c, rfl, J1, by omega, e2, aj, by omega, by omega, fun v H' k2 J2 hv => ?_⟩
      obtain ⟨i, hi⟩ := List.getElem?_of_mem hv
      obtain ⟨d, hd, hi2⟩ := hx.at hi
      exact k v d H' (k1.trans k2) (l1.up k2 J2) (by rwa [Nat.add_assoc] at J2) (hi2.up (k2.less hj)) ⟨ds, p2, List.mem_of_getElem? hd⟩⟩
theorem dr_cat {d1 d2 : List Da} (hj : S j = true) (ha : Dr S j bk H0 0 σ ta (· = .lst d1)) (hb : Dr S j bk H0 0 σ tb (· = .lst d2)) (hl : d1.length + d2.length ≤ 1000) : Dr S j bk H0 0 σ (tOp rCat ta tb) (· = .lst (d1 ++ d2)) := fun H n Q kp lv J hn k =>
  ha H n _ kp lv J hn fun v d H1 k1 l1 J1 h1 p1 => hb H1 n _ (kp.trans k1) l1 J1 hn fun u e H2 k2 l2 J2 h2 p2 => by
    subst p1
    subst p2
    have h1' := h1.up (k2.less hj)
    cases h1' with
    | @lst a xs _ e1 x1 =>
      cases h2 with
      | @lst b ys _ e2 x2 =>
        refine ⟨a, b, xs, ys, rfl, rfl, (mn_of e1).2, (mn_of e2).2, ?_, fun p hp => ?_⟩
        · rw [x1.length, x2.length]
          exact Nat.le_trans hl (by decide)
        · refine k _ _ _ ((k1.trans k2).trans (Same.keep (Same.new hp))) (l2.more (Same.new hp)) (J2.up (Same.new hp)) (.lst (mn_put l2 hp) ?_) rfl
          have app : ∀ {xs ys : List V} {d1 d2 : List Da} {G : Hp}, IsAll G xs d1 → IsAll G ys d2 → IsAll G (xs ++ ys) (d1 ++ d2) := by
            intro xs ys d1
            induction d1 generalizing xs with
            | nil => intro d2 G q1 q2; cases q1; exact q2
            | cons d ds ih => intro d2 G q1 q2; cases q1 with | cons q1 q3 => exact .cons q1 (ih q3 q2)
          exact app (x1.up (Same.less (Same.new hp))) (x2.up (Same.less (Same.new hp)))
/-- three at once -/
theorem dr_par3 {i l m : Nat} {tz : TS} {D : Ends} {Pa Pb Pc : Da → Prop} (hj : S j = true) (ha : Dr S j bk H c1 σ ta Pa) (hb : Dr S j bk H c2 σ tb Pb) (hc : Dr S j bk H c3 σ tc Pc) (lv : Live S H) (J : Jar j bk H n) (hn : n + (c1 + c2 + c3) ≤ 100000)
    (k : ∀ v d u e w f H', Keep j H H' → Live S H' → Jar j bk H' (n + (c1 + c2 + c3)) → Is (mn S H') v d → Pa d → Is (mn S H') u e → Pb e → Is (mn S H') w f → Pc f → tz D (((σ.set i (some v)).set l (some u)).set m (some w)) H') : tSeq (tPar3 i l m (tCons ta (tCons tb (tCons tc tNil)))) tz D σ H :=
  ha H n _ (Keep.refl _) lv J (by omega) fun v d H1 k1 l1 J1 h1 p1 => hb H1 (n + c1) _ k1 l1 J1 (by omega) fun u e H2 k2 l2 J2 h2 p2 => hc H2 (n + c1 + c2) _ (k1.trans k2) l2 J2 (by omega) fun w f H3 k3 l3 J3 h3 p3 =>
    ⟨v, u, w, rfl, k v d u e w f H3 ((k1.trans k2).trans k3) l3 (by rwa [Nat.add_assoc, Nat.add_assoc, ← Nat.add_assoc c1] at J3) (h1.up ((k2.trans k3).less hj)) p1 (h2.up (k3.less hj)) p2 h3 p3⟩
end
/-- a number of not too many digits can be shown -/
theorem log2_lt_nat {i : Int} {n : Nat} (h : i.natAbs < 2 ^ n) (h0 : 0 < n) : i.natAbs.log2 < n := PySem.Flt.log2_lt_of h0 h
theorem num_show {d : Da} (h : isNum d = true) (b : NB 1900 d) : nums d = true ∧ dp d ≤ 1 ∧ wt d ≤ 4000 := by
  have two : ∀ l, isPair l = true → ∃ a b : Int, l = [.int a, .int b] := fun l hl => by
    match l, hl with
    | [.int a, .int b], hl => exact ⟨a, b, rfl⟩
  have lg : ∀ {i : Int}, i.natAbs < 2 ^ 1900 → nums (.int i) = true := fun {i} h => decide_eq_true (Nat.lt_of_lt_of_le (log2_lt_nat h (by decide)) (by decide))
  cases d with
  | int i => exact ⟨lg b.1, by show 0 ≤ 1; decide, by show 1930 ≤ 4000; decide⟩
  | tup l =>
    obtain ⟨x, y, rfl⟩ := two l (by simpa [isNum, isN, isS, items] using h)
    refine ⟨?_, by show 1 ≤ 1; decide, by show 1930 + 2 + (1930 + 2 + 0) + 10 ≤ 4000; decide⟩
    show (nums (.int x) && (nums (.int y) && true)) = true
    rw [(lg b.1 : nums (.int x) = true), (lg b.2 : nums (.int y) = true)]
    rfl
  | lst l =>
    obtain ⟨x, y, rfl⟩ := two l (by simpa [isNum, isN, isS, items] using h)
    refine ⟨?_, by show 1 ≤ 1; decide, by show 1930 + 2 + (1930 + 2 + 0) + 10 ≤ 4000; decide⟩
    show (nums (.int x) && (nums (.int y) && true)) = true
    rw [(lg b.1 : nums (.int x) = true), (lg b.2 : nums (.int y) = true)]
    rfl
  | _ => cases h
theorem num_okr {d : Da} (h : isNum d = true) (b : NB 1900 d) : okr d = true := by
  obtain ⟨h1, h2, h3⟩ := num_show h b
  unfold okr
  rw [h1, decide_eq_true (by omega : dp d ≤ 60), decide_eq_true (by omega : wt d ≤ 16000000)]
  rfl
theorem num_okr2 {d e : Da} (h : isNum d = true) (b : NB 1900 d) (h' : isNum e = true) (b' : NB 1900 e) : okr (.lst [d, e]) = true ∧ okr (.tup [d, e]) = true := by
  obtain ⟨h1, h2, h3⟩ := num_show h b
  obtain ⟨h4, h5, h6⟩ := num_show h' b'
  have e1 : nums (.lst [d, e]) = true := by
    show (nums d && (nums e && true)) = true
    rw [h1, h4]
    rfl
  have e2 : dp (.lst [d, e]) ≤ 60 := by
    show max (dp d) (max (dp e) 0) + 1 ≤ 60
    omega
  have e3 : wt (.lst [d, e]) ≤ 16000000 := by
    show wt d + 2 + (wt e + 2 + 0) + 10 ≤ 16000000
    omega
  constructor
  · unfold okr
    rw [e1, decide_eq_true e2, decide_eq_true e3]
    rfl
  · have q1 : nums (.tup [d, e]) = true := e1
    have q2 : dp (.tup [d, e]) ≤ 60 := e2
    have q3 : wt (.tup [d, e]) ≤ 16000000 := e3
    unfold okr
    rw [q1, decide_eq_true q2, decide_eq_true q3]
    rfl
/-- gcd by rests -/
theorem gcd_step {p o : Int} (p0 : 0 ≤ p) (o0 : 0 < o) : Nat.gcd o.natAbs (p % o).natAbs = Nat.gcd p.natAbs o.natAbs := by
  obtain ⟨p', rfl⟩ := Int.eq_ofNat_of_zero_le p0
  obtain ⟨o', rfl⟩ := Int.eq_ofNat_of_zero_le (Int.le_of_lt o0)
  have e : ((p' : Int) % (o' : Int)).natAbs = p' % o' := by rw [← Int.natCast_emod, Int.natAbs_natCast]
  rw [e, Int.natAbs_natCast, Int.natAbs_natCast, Nat.gcd_comm, ← Nat.gcd_rec, Nat.gcd_comm]
def spCommon : Sp := fun vs H Q _ => ∃ a b : Int, vs = [.int a, .int b] ∧ Q (.int ((Nat.gcd a.natAbs b.natAbs : Nat) : Int)) H
/-- the five words, and what comes -/
def res (w : Str) (a b c e : Int) (r : Da) : Prop :=
  (w = "plus" ∧ Low (a * e + c * b) (b * e) r) ∨ (w = "minus" ∧ Low (a * e - c * b) (b * e) r) ∨ (w = "times" ∧ Low (a * c) (b * e) r) ∨ (w = "below" ∧ r = .bl (decide (a * e < c * b))) ∨
  (w = "quotient" ∧ c ≠ 0 ∧ Low (a * e) (b * c) r) ∨ (w = "quotient" ∧ c = 0 ∧ r = .tup [.str "misfit", .str "other"])
theorem res.uniq {w : Str} {a b c e : Int} {r r' : Da} (h : res w a b c e r) (h' : res w a b c e r') : r = r' := by
  rcases h with ⟨rfl, h⟩ | ⟨rfl, h⟩ | ⟨rfl, h⟩ | ⟨rfl, h⟩ | ⟨rfl, hc, h⟩ | ⟨rfl, hc, h⟩ <;> rcases h' with ⟨e', h'⟩ | ⟨e', h'⟩ | ⟨e', h'⟩ | ⟨e', h'⟩ | ⟨e', hc', h'⟩ | ⟨e', hc', h'⟩ <;>
    first
      | exact h.uniq h' rfl
      | exact h.trans h'.symm
      | exact absurd e' (by decide)
      | exact absurd hc hc'
      | exact absurd hc' hc
theorem res.okr {w : Str} {a b c e : Int} {r : Da} {n : Nat} (h : res w a b c e r) (hn : n + n + 1 ≤ 1900) (ha : a.natAbs < 2 ^ n) (hb : b.natAbs < 2 ^ n) (hc : c.natAbs < 2 ^ n) (he : e.natAbs < 2 ^ n) : okr r = true := by
  have m : ∀ {x y : Int}, x.natAbs < 2 ^ n → y.natAbs < 2 ^ n → (x * y).natAbs < 2 ^ (n + n) := fun h1 h2 => wide_lt h1 h2
  have up : ∀ {x : Int}, x.natAbs < 2 ^ (n + n) → x.natAbs < 2 ^ 1900 := fun h => Nat.lt_of_lt_of_le h (Nat.pow_le_pow_right (by decide) (by omega))
  have two : (2 : Nat) ^ (n + n) + 2 ^ (n + n) ≤ 2 ^ 1900 := by
    rw [← Nat.two_mul, ← Nat.pow_succ']
    exact Nat.pow_le_pow_right (by decide) hn
  rcases h with ⟨rfl, h⟩ | ⟨rfl, h⟩ | ⟨rfl, h⟩ | ⟨rfl, rfl⟩ | ⟨rfl, _, h⟩ | ⟨rfl, _, rfl⟩
  · have h1 := m ha he
    have h2 := m hc hb
    exact num_okr h.num.1 (h.nb (by omega) (up (m hb he)))
  · have h1 := m ha he
    have h2 := m hc hb
    exact num_okr h.num.1 (h.nb (by omega) (up (m hb he)))
  · exact num_okr h.num.1 (h.nb (up (m ha hc)) (up (m hb he)))
  · generalize decide (a * e < c * b) = k
    cases k <;> decide
  · exact num_okr h.num.1 (h.nb (up (m ha he)) (up (m hb hc)))
  · decide +kernel
def W5 : List Str := ["plus", "minus", "times", "below", "quotient"]
end Ty
namespace Ty
open PySem PySem.Spec PyProof.Rows L2
def spNumber : Sp := fun vs H Q _ => ∃ (S : Addr → Bool) (j bk : Addr) (n : Nat), vs = [.ref j] ∧ S j = true ∧ Live S H ∧ Jar j bk H n ∧ n + 5 ≤ 100000 ∧
  ∀ v d H', Keep j H H' → Live S H' → Jar j bk H' (n + 5) → Is (mn S H') v d → isOne d = true → NB 140 d → Q v H'
def spTold : Sp := fun vs H Q _ => ∃ (S : Addr → Bool) (j bk : Addr) (n : Nat) (v : V) (d : Da), vs = [.ref j, v] ∧ S j = true ∧ Live S H ∧ Jar j bk H n ∧ n + 1 ≤ 100000 ∧ Is (mn S H) v d ∧ isOne d = true ∧
  ∀ w f H', Keep j H H' → Live S H' → Jar j bk H' (n + 1) → Is (mn S H') w f → isNum f = true → above f = above d → below f = below d → Q w H'
end Ty
namespace Ty
open PySem PySem.Spec PyProof.Rows L2
def spPairN : Sp := fun vs H Q _ => ∃ (S : Addr → Bool) (j bk : Addr) (n : Nat), vs = [.ref j] ∧ S j = true ∧ Live S H ∧ Jar j bk H n ∧ n + 12 ≤ 100000 ∧
  ∀ p v u d e H', Keep j H H' → Live S H' → Jar j bk H' (n + 12) → H' p = some (.tup [v, u]) → Is (mn S H') v d → Is (mn S H') u e → isOne d = true → isOne e = true → NB 140 d → NB 140 e → Q (.ref p) H'
/-- within the pair's making -/
def PairI (S : Addr → Bool) (j bk : Addr) (H : Hp) (v : V) (d : Da) (way : Int) (m : Nat) : L2.St → Hp → Prop := fun σ' H' => ∃ u e, σ' = [some (.ref j), some v, some u, some (.int way), some (.int (above d)), some (.int (below d))] ∧
  Keep j H H' ∧ Live S H' ∧ Jar j bk H' m ∧ Is (mn S H') v d ∧ Is (mn S H') u e ∧ isOne e = true ∧ NB 140 e
def spDone (C C2 : Addr) : Sp := fun vs H Q E => ∃ w u v d e, vs = [.str w, u, v] ∧ w ∈ W5 ∧ Is H u d ∧ Is H v e ∧ (isNum d = true → isNum e = true → NB bitsN d ∧ NB bitsN e) ∧
  (isNum d = false → Out1 C "part" (.str "one") H E) ∧ (isNum d = true → isNum e = false → Out1 C "part" (.str "other") H E) ∧ (isNum d = true → isNum e = true → w = "quotient" → above e = 0 → Out1 C2 "part" (.str "other") H E) ∧
  (isNum d = true → isNum e = true → ∀ x r H', Same H H' → New H H' x r → res w (above d) (below d) (above e) (below e) r → Q x H')
def spHeard : Sp := fun vs H Q _ => ∃ w u v d e, vs = [.str w, u, v] ∧ w ∈ W5 ∧ Is H u d ∧ Is H v e ∧ (isNum d = true → isNum e = true → NB bitsN d ∧ NB bitsN e) ∧
  (isNum d = false → ∀ x H', Same H H' → Is H' x (.tup [.str "number", .str "one"]) → Q x H') ∧ (isNum d = true → isNum e = false → ∀ x H', Same H H' → Is H' x (.tup [.str "number", .str "other"]) → Q x H') ∧
  (isNum d = true → isNum e = true → ∀ x r H', Same H H' → Is H' x r → res w (above d) (below d) (above e) (below e) r → Q x H')
def spDue : Sp := fun vs H Q _ => ∃ w u v d e, vs = [.str w, u, v] ∧ w ∈ W5 ∧ Is H u d ∧ Is H v e ∧ isNum d = true ∧ isNum e = true ∧ NB bitsN d ∧ NB bitsN e ∧
  ∀ x r H', Same H H' → Is H' x r → res w (above d) (below d) (above e) (below e) r → Q x H'
def spOdd : Sp := fun vs H Q _ => ∃ (S : Addr → Bool) (j bk : Addr) (n : Nat) (v : V) (d : Da), vs = [.ref j, v] ∧ S j = true ∧ Live S H ∧ Jar j bk H n ∧ n + 2 ≤ 100000 ∧ Is (mn S H) v d ∧ isOne d = true ∧ NB 140 d ∧
  ∀ w f H', Keep j H H' → Live S H' → Jar j bk H' (n + 2) → Is (mn S H') w f → isNum f = false → Q w H'
theorem str_ne {a b : Str} (h : a ≠ b) : ¬ V.str a = V.str b := fun z => h (by injection z)
section
variable {S : Addr → Bool} {j bk : Addr} {H0 H : Hp} {c c1 n : Nat} {σ : L2.St} {te : TE}
theorem dr_number {i : Nat} (hS : S j = true) (h : σ[i]? = some (some (.ref j))) : Dr S j bk H0 5 σ (tCall spNumber [] E0 (tCons (tVar i) tNil)) (fun d => isOne d = true ∧ NB 140 d) := fun H n Q kp lv J hn k =>
  ⟨_, h, S, j, bk, n, rfl, hS, lv, J, hn, fun v d H' k' l' J' h' g1 g2 => k v d H' k' l' J' h' ⟨g1, g2⟩⟩
theorem dr_told {i l : Nat} {v : V} {d : Da} (hS : S j = true) (h : σ[i]? = some (some (.ref j))) (h2 : σ[l]? = some (some v)) (hv : Is (mn S H0) v d) (od : isOne d = true) :
    Dr S j bk H0 1 σ (tCall spTold [] E0 (tCons (tVar i) (tCons (tVar l) tNil))) (fun f => isNum f = true ∧ above f = above d ∧ below f = below d) := fun H n Q kp lv J hn k =>
  ⟨_, h, _, h2, S, j, bk, n, v, d, rfl, hS, lv, J, hn, hv.up (kp.less hS), od, fun w f H' k' l' J' h' g1 g2 g3 => k w f H' k' l' J' h' ⟨g1, g2, g3⟩⟩
theorem dr_odd {i l : Nat} {v : V} {d : Da} (hS : S j = true) (h : σ[i]? = some (some (.ref j))) (h2 : σ[l]? = some (some v)) (hv : Is (mn S H0) v d) (od : isOne d = true) (bd : NB 140 d) :
    Dr S j bk H0 2 σ (tCall spOdd [] E0 (tCons (tVar i) (tCons (tVar l) tNil))) (fun f => isNum f = false) := fun H n Q kp lv J hn k =>
  ⟨_, h, _, h2, S, j, bk, n, v, d, rfl, hS, lv, J, hn, hv.up (kp.less hS), od, bd, fun w f H' k' l' J' h' g1 => k w f H' k' l' J' h' g1⟩
theorem dr_negE {i : Int} (h : Dr S j bk H0 c σ te (· = .int i)) : Dr S j bk H0 c σ (tUn (rU fun i => .int (-i)) te) (· = .int (-i)) := fun H n Q kp lv J hn k =>
  h H n _ kp lv J hn fun v d H1 k1 l1 J1 h1 p1 => by
    subst p1
    cases h1
    exact ⟨i, rfl, k _ _ H1 k1 l1 J1 (.int _) rfl⟩
end
theorem pair_not {a b : Int} {t : Int} (ht : 2 ≤ t) : isNum (.tup [.int (a * t), .int (b * t)]) = false := by
  show (false || (true && (decide (2 ≤ b * t) && decide (Nat.gcd (a * t).natAbs (b * t).natAbs = 1)))) = false
  have e : Nat.gcd (a * t).natAbs (b * t).natAbs ≠ 1 := by
    rw [Int.natAbs_mul, Int.natAbs_mul, Nat.gcd_mul_right]
    intro z
    have := Nat.eq_one_of_mul_eq_one_left z
    omega
  rw [decide_eq_false e]
  cases decide (2 ≤ b * t) <;> rfl
theorem low_not {a b : Int} (hb : b < 2) : isNum (.tup [.int a, .int b]) = false := by
  show (false || (true && (decide (2 ≤ b) && decide (Nat.gcd a.natAbs b.natAbs = 1)))) = false
  rw [decide_eq_false (by omega)]
  rfl
end Ty
namespace Ty
open PySem PySem.Spec PyProof.Rows L2
/-- whether all is right with two numbers -/
def spRight2 : Sp := fun vs H Q _ => ∃ (S : Addr → Bool) (j bk : Addr) (n : Nat) (u v : V) (d e : Da), vs = [.ref j, u, v] ∧ S j = true ∧ Live S H ∧ Jar j bk H n ∧ n + 2 ≤ 100000 ∧ Is (mn S H) u d ∧ Is (mn S H) v e ∧ isOne d = true ∧ isOne e = true ∧ NB 140 d ∧ NB 140 e ∧
  ∀ H', Keep j H H' → Live S H' → Jar j bk H' (n + 2) → Q (.bl true) H'
def spRight1 : Sp := fun vs H Q _ => ∃ (S : Addr → Bool) (j bk : Addr) (n : Nat) (u : V) (d : Da), vs = [.ref j, u] ∧ S j = true ∧ Live S H ∧ Jar j bk H n ∧ n + 4 ≤ 100000 ∧ Is (mn S H) u d ∧ isOne d = true ∧ NB 140 d ∧
  ∀ H', Keep j H H' → Live S H' → Jar j bk H' (n + 4) → Q (.bl true) H'
def spLaw (K : PySem.W.Frag) : Sp := fun vs H Q _ => ∃ (a : Addr) (ns : List Int), vs = [.ref a] ∧ SqL K H a (ns.map V.int) ∧ ns.length ≤ 63 ∧ ∀ H', Q (.bl true) H'
/-- the words, walked -/
def W5v : List V := [.str "plus", .str "minus", .str "times", .str "below", .str "quotient"]
theorem W5_at {i : Nat} {x : V} (h : W5v[i]? = some x) : ∃ w, x = .str w ∧ w ∈ W5 := by
  have m := List.mem_of_getElem? h
  simp only [W5v, List.mem_cons, List.not_mem_nil, or_false] at m
  rcases m with rfl | rfl | rfl | rfl | rfl <;> exact ⟨_, rfl, by simp [W5]⟩
end Ty

namespace Ty
open PySem PySem.Spec PyProof.Rows L2
def top (i : Nat) : Stmt := PySem.Challenge.pw_typedcurve_k04_numbers_reckoned.main.body.getD i (.Pass ⟨0, 0, 0, 0⟩)
abbrev s_is_list : Stmt := top 2
abbrev N_is_list : List Str := ["value"]
theorem sc_is_list : FnScope N_is_list ["value"] (defScope s_is_list) := ⟨rfl, rfl, rfl, by decide +kernel, rfl, by decide +kernel, by decide +kernel⟩
abbrev s_is_integer : Stmt := top 3
abbrev N_is_integer : List Str := ["value"]
theorem sc_is_integer : FnScope N_is_integer ["value"] (defScope s_is_integer) := ⟨rfl, rfl, rfl, by decide +kernel, rfl, by decide +kernel, by decide +kernel⟩
abbrev s_is_within : Stmt := top 4
abbrev N_is_within : List Str := ["value", "least", "most"]
theorem sc_is_within : FnScope N_is_within ["value", "least", "most"] (defScope s_is_within) := ⟨rfl, rfl, rfl, by decide +kernel, rfl, by decide +kernel, by decide +kernel⟩
abbrev s_is_number : Stmt := top 5
abbrev N_is_number : List Str := ["value", "above", "below"]
theorem sc_is_number : FnScope N_is_number ["value"] (defScope s_is_number) := ⟨rfl, rfl, rfl, by decide +kernel, rfl, by decide +kernel, by decide +kernel⟩
abbrev s_parts_of : Stmt := top 11
abbrev N_parts_of : List Str := ["number", "above", "below"]
theorem sc_parts_of : FnScope N_parts_of ["number"] (defScope s_parts_of) := ⟨rfl, rfl, rfl, by decide +kernel, rfl, by decide +kernel, by decide +kernel⟩
abbrev s_number_of : Stmt := top 12
abbrev N_number_of : List Str := ["above", "below", "shared"]
theorem sc_number_of : FnScope N_number_of ["above", "below"] (defScope s_number_of) := ⟨rfl, rfl, rfl, by decide +kernel, rfl, by decide +kernel, by decide +kernel⟩
abbrev s_sum_of : Stmt := top 13
abbrev N_sum_of : List Str := ["one", "other", "one_above", "one_below", "other_above", "other_below"]
theorem sc_sum_of : FnScope N_sum_of ["one", "other"] (defScope s_sum_of) := ⟨rfl, rfl, rfl, by decide +kernel, rfl, by decide +kernel, by decide +kernel⟩
abbrev s_negative_of : Stmt := top 14
abbrev N_negative_of : List Str := ["number", "above", "below"]
theorem sc_negative_of : FnScope N_negative_of ["number"] (defScope s_negative_of) := ⟨rfl, rfl, rfl, by decide +kernel, rfl, by decide +kernel, by decide +kernel⟩
abbrev s_difference_of : Stmt := top 15
abbrev N_difference_of : List Str := ["one", "other"]
theorem sc_difference_of : FnScope N_difference_of ["one", "other"] (defScope s_difference_of) := ⟨rfl, rfl, rfl, by decide +kernel, rfl, by decide +kernel, by decide +kernel⟩
abbrev s_product_of : Stmt := top 16
abbrev N_product_of : List Str := ["one", "other", "one_above", "one_below", "other_above", "other_below"]
theorem sc_product_of : FnScope N_product_of ["one", "other"] (defScope s_product_of) := ⟨rfl, rfl, rfl, by decide +kernel, rfl, by decide +kernel, by decide +kernel⟩
abbrev s_quotient_of : Stmt := top 17
abbrev N_quotient_of : List Str := ["one", "other", "other_above", "other_below"]
theorem sc_quotient_of : FnScope N_quotient_of ["one", "other"] (defScope s_quotient_of) := ⟨rfl, rfl, rfl, by decide +kernel, rfl, by decide +kernel, by decide +kernel⟩
abbrev s_sign_in : Stmt := top 18
abbrev N_sign_in : List Str := ["number", "above", "_"]
theorem sc_sign_in : FnScope N_sign_in ["number"] (defScope s_sign_in) := ⟨rfl, rfl, rfl, by decide +kernel, rfl, by decide +kernel, by decide +kernel⟩
abbrev s_is_less : Stmt := top 19
abbrev N_is_less : List Str := ["one", "other", "one_above", "one_below", "other_above", "other_below"]
theorem sc_is_less : FnScope N_is_less ["one", "other"] (defScope s_is_less) := ⟨rfl, rfl, rfl, by decide +kernel, rfl, by decide +kernel, by decide +kernel⟩
abbrev s_need_number : Stmt := top 21
abbrev N_need_number : List Str := ["value", "part"]
theorem sc_need_number : FnScope N_need_number ["value", "part"] (defScope s_need_number) := ⟨rfl, rfl, rfl, by decide +kernel, rfl, by decide +kernel, by decide +kernel⟩
abbrev s_plus : Stmt := top 23
abbrev N_plus : List Str := ["one", "other"]
theorem sc_plus : FnScope N_plus ["one", "other"] (defScope s_plus) := ⟨rfl, rfl, rfl, by decide +kernel, rfl, by decide +kernel, by decide +kernel⟩
abbrev s_minus : Stmt := top 24
abbrev N_minus : List Str := ["one", "other"]
theorem sc_minus : FnScope N_minus ["one", "other"] (defScope s_minus) := ⟨rfl, rfl, rfl, by decide +kernel, rfl, by decide +kernel, by decide +kernel⟩
abbrev s_times : Stmt := top 25
abbrev N_times : List Str := ["one", "other"]
theorem sc_times : FnScope N_times ["one", "other"] (defScope s_times) := ⟨rfl, rfl, rfl, by decide +kernel, rfl, by decide +kernel, by decide +kernel⟩
abbrev s_quotient : Stmt := top 26
abbrev N_quotient : List Str := ["one", "other"]
theorem sc_quotient : FnScope N_quotient ["one", "other"] (defScope s_quotient) := ⟨rfl, rfl, rfl, by decide +kernel, rfl, by decide +kernel, by decide +kernel⟩
abbrev s_is_below : Stmt := top 27
abbrev N_is_below : List Str := ["one", "other"]
theorem sc_is_below : FnScope N_is_below ["one", "other"] (defScope s_is_below) := ⟨rfl, rfl, rfl, by decide +kernel, rfl, by decide +kernel, by decide +kernel⟩
abbrev s_sign_of : Stmt := top 28
abbrev N_sign_of : List Str := ["number"]
theorem sc_sign_of : FnScope N_sign_of ["number"] (defScope s_sign_of) := ⟨rfl, rfl, rfl, by decide +kernel, rfl, by decide +kernel, by decide +kernel⟩
abbrev s_need_both : Stmt := top 29
abbrev N_need_both : List Str := ["one", "other"]
theorem sc_need_both : FnScope N_need_both ["one", "other"] (defScope s_need_both) := ⟨rfl, rfl, rfl, by decide +kernel, rfl, by decide +kernel, by decide +kernel⟩
abbrev s_law_jar : Stmt := top 31
abbrev N_law_jar : List Str := ["script", "cell"]
theorem sc_law_jar : FnScope N_law_jar ["script"] (defScope s_law_jar) := ⟨rfl, rfl, rfl, by decide +kernel, rfl, by decide +kernel, by decide +kernel⟩
abbrev s_law_pour : Stmt := top 32
abbrev N_law_pour : List Str := ["jar", "many", "left", "at", "cell", "mixed"]
theorem sc_law_pour : FnScope N_law_pour ["jar", "many"] (defScope s_law_pour) := ⟨rfl, rfl, rfl, by decide +kernel, rfl, by decide +kernel, by decide +kernel⟩
abbrev s_law_one : Stmt := top 33
abbrev N_law_one : List Str := ["jar", "some"]
theorem sc_law_one : FnScope N_law_one ["jar", "some"] (defScope s_law_one) := ⟨rfl, rfl, rfl, by decide +kernel, rfl, by decide +kernel, by decide +kernel⟩
abbrev s_law_common : Stmt := top 34
abbrev N_law_common : List Str := ["one", "other"]
theorem sc_law_common : FnScope N_law_common ["one", "other"] (defScope s_law_common) := ⟨rfl, rfl, rfl, by decide +kernel, rfl, by decide +kernel, by decide +kernel⟩
abbrev s_law_lowest : Stmt := top 35
abbrev N_law_lowest : List Str := ["above", "under", "part"]
theorem sc_law_lowest : FnScope N_law_lowest ["above", "under"] (defScope s_law_lowest) := ⟨rfl, rfl, rfl, by decide +kernel, rfl, by decide +kernel, by decide +kernel⟩
abbrev s_law_ends : Stmt := top 36
abbrev N_law_ends : List Str := ["number"]
theorem sc_law_ends : FnScope N_law_ends ["number"] (defScope s_law_ends) := ⟨rfl, rfl, rfl, by decide +kernel, rfl, by decide +kernel, by decide +kernel⟩
abbrev s_law_number : Stmt := top 37
abbrev N_law_number : List Str := ["jar", "size", "above"]
theorem sc_law_number : FnScope N_law_number ["jar"] (defScope s_law_number) := ⟨rfl, rfl, rfl, by decide +kernel, rfl, by decide +kernel, by decide +kernel⟩
abbrev s_law_pair : Stmt := top 38
abbrev N_law_pair : List Str := ["jar", "one", "other", "way", "above", "under"]
theorem sc_law_pair : FnScope N_law_pair ["jar"] (defScope s_law_pair) := ⟨rfl, rfl, rfl, by decide +kernel, rfl, by decide +kernel, by decide +kernel⟩
abbrev s_law_told : Stmt := top 39
abbrev N_law_told : List Str := ["jar", "number"]
theorem sc_law_told : FnScope N_law_told ["jar", "number"] (defScope s_law_told) := ⟨rfl, rfl, rfl, by decide +kernel, rfl, by decide +kernel, by decide +kernel⟩
abbrev s_law_done : Stmt := top 40
abbrev N_law_done : List Str := ["word", "one", "other"]
theorem sc_law_done : FnScope N_law_done ["word", "one", "other"] (defScope s_law_done) := ⟨rfl, rfl, rfl, by decide +kernel, rfl, by decide +kernel, by decide +kernel⟩
abbrev s_law_due : Stmt := top 41
abbrev N_law_due : List Str := ["word", "one", "other", "above", "under", "its", "its_under"]
theorem sc_law_due : FnScope N_law_due ["word", "one", "other"] (defScope s_law_due) := ⟨rfl, rfl, rfl, by decide +kernel, rfl, by decide +kernel, by decide +kernel⟩
abbrev s_law_heard : Stmt := top 42
abbrev N_law_heard : List Str := ["word", "one", "other", "caught", "error"]
theorem sc_law_heard : FnScope N_law_heard ["word", "one", "other"] (defScope s_law_heard) := ⟨rfl, rfl, rfl, by decide +kernel, rfl, by decide +kernel, by decide +kernel⟩
abbrev s_law_odd : Stmt := top 43
abbrev N_law_odd : List Str := ["jar", "number", "above", "under", "times_it", "odd"]
theorem sc_law_odd : FnScope N_law_odd ["jar", "number"] (defScope s_law_odd) := ⟨rfl, rfl, rfl, by decide +kernel, rfl, by decide +kernel, by decide +kernel⟩
abbrev s_law_pair_right : Stmt := top 44
abbrev N_law_pair_right : List Str := ["jar", "one", "other", "mine", "its", "before", "word", "above"]
theorem sc_law_pair_right : FnScope N_law_pair_right ["jar", "one", "other"] (defScope s_law_pair_right) := ⟨rfl, rfl, rfl, by decide +kernel, rfl, by decide +kernel, by decide +kernel⟩
abbrev s_law_refused_right : Stmt := top 45
abbrev N_law_refused_right : List Str := ["jar", "number", "odd", "more", "word", "caught", "error"]
theorem sc_law_refused_right : FnScope N_law_refused_right ["jar", "number"] (defScope s_law_refused_right) := ⟨rfl, rfl, rfl, by decide +kernel, rfl, by decide +kernel, by decide +kernel⟩
abbrev s_law : Stmt := top 46
abbrev N_law : List Str := ["script", "jar", "turn", "one", "other"]
theorem sc_law : FnScope N_law ["script"] (defScope s_law) := ⟨rfl, rfl, rfl, by decide +kernel, rfl, by decide +kernel, by decide +kernel⟩
abbrev si_BadNumber : Stmt := inClass (top 8) 0
abbrev Ni_BadNumber : List Str := ["self", "part"]
theorem sci_BadNumber : FnScope Ni_BadNumber Ni_BadNumber (defScope si_BadNumber) := ⟨rfl, rfl, rfl, by decide +kernel, rfl, by decide +kernel, by decide +kernel⟩
abbrev si_Misfit : Stmt := inClass (top 9) 0
abbrev Ni_Misfit : List Str := ["self", "part"]
theorem sci_Misfit : FnScope Ni_Misfit Ni_Misfit (defScope si_Misfit) := ⟨rfl, rfl, rfl, by decide +kernel, rfl, by decide +kernel, by decide +kernel⟩
structure Txt (K : PySem.W.Frag) (mg : Str → Option Value) where
  a_is_list : Addr
  d_is_list : FuncData
  m_is_list : mg "is_list" = some (.ref a_is_list)
  F_is_list : Fun K "is_list" "is_list" s_is_list a_is_list d_is_list
  a_is_integer : Addr
  d_is_integer : FuncData
  m_is_integer : mg "is_integer" = some (.ref a_is_integer)
  F_is_integer : Fun K "is_integer" "is_integer" s_is_integer a_is_integer d_is_integer
  a_is_within : Addr
  d_is_within : FuncData
  m_is_within : mg "is_within" = some (.ref a_is_within)
  F_is_within : Fun K "is_within" "is_within" s_is_within a_is_within d_is_within
  a_is_number : Addr
  d_is_number : FuncData
  m_is_number : mg "is_number" = some (.ref a_is_number)
  F_is_number : Fun K "is_number" "is_number" s_is_number a_is_number d_is_number
  a_parts_of : Addr
  d_parts_of : FuncData
  m_parts_of : mg "parts_of" = some (.ref a_parts_of)
  F_parts_of : Fun K "parts_of" "parts_of" s_parts_of a_parts_of d_parts_of
  a_number_of : Addr
  d_number_of : FuncData
  m_number_of : mg "number_of" = some (.ref a_number_of)
  F_number_of : Fun K "number_of" "number_of" s_number_of a_number_of d_number_of
  a_sum_of : Addr
  d_sum_of : FuncData
  m_sum_of : mg "sum_of" = some (.ref a_sum_of)
  F_sum_of : Fun K "sum_of" "sum_of" s_sum_of a_sum_of d_sum_of
  a_negative_of : Addr
  d_negative_of : FuncData
  m_negative_of : mg "negative_of" = some (.ref a_negative_of)
  F_negative_of : Fun K "negative_of" "negative_of" s_negative_of a_negative_of d_negative_of
  a_difference_of : Addr
  d_difference_of : FuncData
  m_difference_of : mg "difference_of" = some (.ref a_difference_of)
  F_difference_of : Fun K "difference_of" "difference_of" s_difference_of a_difference_of d_difference_of
  a_product_of : Addr
  d_product_of : FuncData
  m_product_of : mg "product_of" = some (.ref a_product_of)
  F_product_of : Fun K "product_of" "product_of" s_product_of a_product_of d_product_of
  a_quotient_of : Addr
  d_quotient_of : FuncData
  m_quotient_of : mg "quotient_of" = some (.ref a_quotient_of)
  F_quotient_of : Fun K "quotient_of" "quotient_of" s_quotient_of a_quotient_of d_quotient_of
  a_sign_in : Addr
  d_sign_in : FuncData
  m_sign_in : mg "sign_in" = some (.ref a_sign_in)
  F_sign_in : Fun K "sign_in" "sign_in" s_sign_in a_sign_in d_sign_in
  a_is_less : Addr
  d_is_less : FuncData
  m_is_less : mg "is_less" = some (.ref a_is_less)
  F_is_less : Fun K "is_less" "is_less" s_is_less a_is_less d_is_less
  a_need_number : Addr
  d_need_number : FuncData
  m_need_number : mg "need_number" = some (.ref a_need_number)
  F_need_number : Fun K "need_number" "need_number" s_need_number a_need_number d_need_number
  a_plus : Addr
  d_plus : FuncData
  m_plus : mg "plus" = some (.ref a_plus)
  F_plus : Fun K "plus" "plus" s_plus a_plus d_plus
  a_minus : Addr
  d_minus : FuncData
  m_minus : mg "minus" = some (.ref a_minus)
  F_minus : Fun K "minus" "minus" s_minus a_minus d_minus
  a_times : Addr
  d_times : FuncData
  m_times : mg "times" = some (.ref a_times)
  F_times : Fun K "times" "times" s_times a_times d_times
  a_quotient : Addr
  d_quotient : FuncData
  m_quotient : mg "quotient" = some (.ref a_quotient)
  F_quotient : Fun K "quotient" "quotient" s_quotient a_quotient d_quotient
  a_is_below : Addr
  d_is_below : FuncData
  m_is_below : mg "is_below" = some (.ref a_is_below)
  F_is_below : Fun K "is_below" "is_below" s_is_below a_is_below d_is_below
  a_sign_of : Addr
  d_sign_of : FuncData
  m_sign_of : mg "sign_of" = some (.ref a_sign_of)
  F_sign_of : Fun K "sign_of" "sign_of" s_sign_of a_sign_of d_sign_of
  a_need_both : Addr
  d_need_both : FuncData
  m_need_both : mg "_need_both" = some (.ref a_need_both)
  F_need_both : Fun K "_need_both" "_need_both" s_need_both a_need_both d_need_both
  a_law_jar : Addr
  d_law_jar : FuncData
  m_law_jar : mg "_law_jar" = some (.ref a_law_jar)
  F_law_jar : Fun K "_law_jar" "_law_jar" s_law_jar a_law_jar d_law_jar
  a_law_pour : Addr
  d_law_pour : FuncData
  m_law_pour : mg "_law_pour" = some (.ref a_law_pour)
  F_law_pour : Fun K "_law_pour" "_law_pour" s_law_pour a_law_pour d_law_pour
  a_law_one : Addr
  d_law_one : FuncData
  m_law_one : mg "_law_one" = some (.ref a_law_one)
  F_law_one : Fun K "_law_one" "_law_one" s_law_one a_law_one d_law_one
  a_law_common : Addr
  d_law_common : FuncData
  m_law_common : mg "_law_common" = some (.ref a_law_common)
  F_law_common : Fun K "_law_common" "_law_common" s_law_common a_law_common d_law_common
  a_law_lowest : Addr
  d_law_lowest : FuncData
  m_law_lowest : mg "_law_lowest" = some (.ref a_law_lowest)
  F_law_lowest : Fun K "_law_lowest" "_law_lowest" s_law_lowest a_law_lowest d_law_lowest
  a_law_ends : Addr
  d_law_ends : FuncData
  m_law_ends : mg "_law_ends" = some (.ref a_law_ends)
  F_law_ends : Fun K "_law_ends" "_law_ends" s_law_ends a_law_ends d_law_ends
  a_law_number : Addr
  d_law_number : FuncData
  m_law_number : mg "_law_number" = some (.ref a_law_number)
  F_law_number : Fun K "_law_number" "_law_number" s_law_number a_law_number d_law_number
  a_law_pair : Addr
  d_law_pair : FuncData
  m_law_pair : mg "_law_pair" = some (.ref a_law_pair)
  F_law_pair : Fun K "_law_pair" "_law_pair" s_law_pair a_law_pair d_law_pair
  a_law_told : Addr
  d_law_told : FuncData
  m_law_told : mg "_law_told" = some (.ref a_law_told)
  F_law_told : Fun K "_law_told" "_law_told" s_law_told a_law_told d_law_told
  a_law_done : Addr
  d_law_done : FuncData
  m_law_done : mg "_law_done" = some (.ref a_law_done)
  F_law_done : Fun K "_law_done" "_law_done" s_law_done a_law_done d_law_done
  a_law_due : Addr
  d_law_due : FuncData
  m_law_due : mg "_law_due" = some (.ref a_law_due)
  F_law_due : Fun K "_law_due" "_law_due" s_law_due a_law_due d_law_due
  a_law_heard : Addr
  d_law_heard : FuncData
  m_law_heard : mg "_law_heard" = some (.ref a_law_heard)
  F_law_heard : Fun K "_law_heard" "_law_heard" s_law_heard a_law_heard d_law_heard
  a_law_odd : Addr
  d_law_odd : FuncData
  m_law_odd : mg "_law_odd" = some (.ref a_law_odd)
  F_law_odd : Fun K "_law_odd" "_law_odd" s_law_odd a_law_odd d_law_odd
  a_law_pair_right : Addr
  d_law_pair_right : FuncData
  m_law_pair_right : mg "_law_pair_right" = some (.ref a_law_pair_right)
  F_law_pair_right : Fun K "_law_pair_right" "_law_pair_right" s_law_pair_right a_law_pair_right d_law_pair_right
  a_law_refused_right : Addr
  d_law_refused_right : FuncData
  m_law_refused_right : mg "_law_refused_right" = some (.ref a_law_refused_right)
  F_law_refused_right : Fun K "_law_refused_right" "_law_refused_right" s_law_refused_right a_law_refused_right d_law_refused_right
  a_law : Addr
  d_law : FuncData
  m_law : mg "law" = some (.ref a_law)
  F_law : Fun K "law" "law" s_law a_law d_law
  m_gcd : mg "gcd" = some (.builtin "math.gcd")
  c_CurveError : Addr
  m_CurveError : mg "CurveError" = some (.ref c_CurveError)
  c_BadNumber : Addr
  m_BadNumber : mg "BadNumber" = some (.ref c_BadNumber)
  c_Misfit : Addr
  m_Misfit : mg "Misfit" = some (.ref c_Misfit)
  i_BadNumber : Addr
  di_BadNumber : FuncData
  Fi_BadNumber : Fun K "__init__" "BadNumber.__init__" si_BadNumber i_BadNumber di_BadNumber
  ox_BadNumber : OexC K c_BadNumber
  fi_BadNumber : PySem.W.findIn K (.ref c_BadNumber) "__init__" = some (some (.ref i_BadNumber))
  ti_BadNumber : PySem.W.typeIn K (.ref i_BadNumber) = some (.type "function")
  xk_BadNumber : ExcK K c_BadNumber
  no_BadNumber_part : PySem.W.findIn K (.ref c_BadNumber) "part" = some none
  i_Misfit : Addr
  di_Misfit : FuncData
  Fi_Misfit : Fun K "__init__" "Misfit.__init__" si_Misfit i_Misfit di_Misfit
  ox_Misfit : OexC K c_Misfit
  fi_Misfit : PySem.W.findIn K (.ref c_Misfit) "__init__" = some (some (.ref i_Misfit))
  ti_Misfit : PySem.W.typeIn K (.ref i_Misfit) = some (.type "function")
  xk_Misfit : ExcK K c_Misfit
  no_Misfit_part : PySem.W.findIn K (.ref c_Misfit) "part" = some none
  em_BadNumber_CurveError : PySem.W.exmOne K (.ref c_BadNumber) (.ref c_CurveError) = some true
  ki_BadNumber_BadNumber : PySem.W.kitOne K (.ref c_BadNumber) (.ref c_BadNumber) = some true
  ki_BadNumber_Misfit : PySem.W.kitOne K (.ref c_BadNumber) (.ref c_Misfit) = some false
  em_Misfit_CurveError : PySem.W.exmOne K (.ref c_Misfit) (.ref c_CurveError) = some true
  ki_Misfit_BadNumber : PySem.W.kitOne K (.ref c_Misfit) (.ref c_BadNumber) = some false
  ki_Misfit_Misfit : PySem.W.kitOne K (.ref c_Misfit) (.ref c_Misfit) = some true
  z_abs : mg "abs" = none
  z_bool : mg "bool" = none
  z_int : mg "int" = none
  z_isinstance : mg "isinstance" = none
  z_len : mg "len" = none
  z_list : mg "list" = none
  z_range : mg "range" = none
  z_repr : mg "repr" = none
  z_tuple : mg "tuple" = none
section
variable {K : PySem.W.Frag} {mg : Str → Option Value}
theorem b_is_list (T : Txt K mg) : Binds K T.d_is_list ["value"] [] := T.F_is_list.binds fun _ _ _ _ _ _ us hl => match us, hl with | [_], _ => rfl
theorem b_is_integer (T : Txt K mg) : Binds K T.d_is_integer ["value"] [] := T.F_is_integer.binds fun _ _ _ _ _ _ us hl => match us, hl with | [_], _ => rfl
theorem b_is_within (T : Txt K mg) : Binds K T.d_is_within ["value", "least", "most"] [] := T.F_is_within.binds fun _ _ _ _ _ _ us hl => match us, hl with | [_, _, _], _ => rfl
theorem b_is_number (T : Txt K mg) : Binds K T.d_is_number ["value"] [] := T.F_is_number.binds fun _ _ _ _ _ _ us hl => match us, hl with | [_], _ => rfl
theorem b_parts_of (T : Txt K mg) : Binds K T.d_parts_of ["number"] [] := T.F_parts_of.binds fun _ _ _ _ _ _ us hl => match us, hl with | [_], _ => rfl
theorem b_number_of (T : Txt K mg) : Binds K T.d_number_of ["above", "below"] [] := T.F_number_of.binds fun _ _ _ _ _ _ us hl => match us, hl with | [_, _], _ => rfl
theorem b_sum_of (T : Txt K mg) : Binds K T.d_sum_of ["one", "other"] [] := T.F_sum_of.binds fun _ _ _ _ _ _ us hl => match us, hl with | [_, _], _ => rfl
theorem b_negative_of (T : Txt K mg) : Binds K T.d_negative_of ["number"] [] := T.F_negative_of.binds fun _ _ _ _ _ _ us hl => match us, hl with | [_], _ => rfl
theorem b_difference_of (T : Txt K mg) : Binds K T.d_difference_of ["one", "other"] [] := T.F_difference_of.binds fun _ _ _ _ _ _ us hl => match us, hl with | [_, _], _ => rfl
theorem b_product_of (T : Txt K mg) : Binds K T.d_product_of ["one", "other"] [] := T.F_product_of.binds fun _ _ _ _ _ _ us hl => match us, hl with | [_, _], _ => rfl
theorem b_quotient_of (T : Txt K mg) : Binds K T.d_quotient_of ["one", "other"] [] := T.F_quotient_of.binds fun _ _ _ _ _ _ us hl => match us, hl with | [_, _], _ => rfl
theorem b_sign_in (T : Txt K mg) : Binds K T.d_sign_in ["number"] [] := T.F_sign_in.binds fun _ _ _ _ _ _ us hl => match us, hl with | [_], _ => rfl
theorem b_is_less (T : Txt K mg) : Binds K T.d_is_less ["one", "other"] [] := T.F_is_less.binds fun _ _ _ _ _ _ us hl => match us, hl with | [_, _], _ => rfl
theorem b_need_number (T : Txt K mg) : Binds K T.d_need_number ["value", "part"] [] := T.F_need_number.binds fun _ _ _ _ _ _ us hl => match us, hl with | [_, _], _ => rfl
theorem b_plus (T : Txt K mg) : Binds K T.d_plus ["one", "other"] [] := T.F_plus.binds fun _ _ _ _ _ _ us hl => match us, hl with | [_, _], _ => rfl
theorem b_minus (T : Txt K mg) : Binds K T.d_minus ["one", "other"] [] := T.F_minus.binds fun _ _ _ _ _ _ us hl => match us, hl with | [_, _], _ => rfl
theorem b_times (T : Txt K mg) : Binds K T.d_times ["one", "other"] [] := T.F_times.binds fun _ _ _ _ _ _ us hl => match us, hl with | [_, _], _ => rfl
theorem b_quotient (T : Txt K mg) : Binds K T.d_quotient ["one", "other"] [] := T.F_quotient.binds fun _ _ _ _ _ _ us hl => match us, hl with | [_, _], _ => rfl
theorem b_is_below (T : Txt K mg) : Binds K T.d_is_below ["one", "other"] [] := T.F_is_below.binds fun _ _ _ _ _ _ us hl => match us, hl with | [_, _], _ => rfl
theorem b_sign_of (T : Txt K mg) : Binds K T.d_sign_of ["number"] [] := T.F_sign_of.binds fun _ _ _ _ _ _ us hl => match us, hl with | [_], _ => rfl
theorem b_need_both (T : Txt K mg) : Binds K T.d_need_both ["one", "other"] [] := T.F_need_both.binds fun _ _ _ _ _ _ us hl => match us, hl with | [_, _], _ => rfl
theorem b_law_jar (T : Txt K mg) : Binds K T.d_law_jar ["script"] [] := T.F_law_jar.binds fun _ _ _ _ _ _ us hl => match us, hl with | [_], _ => rfl
theorem b_law_pour (T : Txt K mg) : Binds K T.d_law_pour ["jar", "many"] [] := T.F_law_pour.binds fun _ _ _ _ _ _ us hl => match us, hl with | [_, _], _ => rfl
theorem b_law_one (T : Txt K mg) : Binds K T.d_law_one ["jar", "some"] [] := T.F_law_one.binds fun _ _ _ _ _ _ us hl => match us, hl with | [_, _], _ => rfl
theorem b_law_common (T : Txt K mg) : Binds K T.d_law_common ["one", "other"] [] := T.F_law_common.binds fun _ _ _ _ _ _ us hl => match us, hl with | [_, _], _ => rfl
theorem b_law_lowest (T : Txt K mg) : Binds K T.d_law_lowest ["above", "under"] [] := T.F_law_lowest.binds fun _ _ _ _ _ _ us hl => match us, hl with | [_, _], _ => rfl
theorem b_law_ends (T : Txt K mg) : Binds K T.d_law_ends ["number"] [] := T.F_law_ends.binds fun _ _ _ _ _ _ us hl => match us, hl with | [_], _ => rfl
theorem b_law_number (T : Txt K mg) : Binds K T.d_law_number ["jar"] [] := T.F_law_number.binds fun _ _ _ _ _ _ us hl => match us, hl with | [_], _ => rfl
theorem b_law_pair (T : Txt K mg) : Binds K T.d_law_pair ["jar"] [] := T.F_law_pair.binds fun _ _ _ _ _ _ us hl => match us, hl with | [_], _ => rfl
theorem b_law_told (T : Txt K mg) : Binds K T.d_law_told ["jar", "number"] [] := T.F_law_told.binds fun _ _ _ _ _ _ us hl => match us, hl with | [_, _], _ => rfl
theorem b_law_done (T : Txt K mg) : Binds K T.d_law_done ["word", "one", "other"] [] := T.F_law_done.binds fun _ _ _ _ _ _ us hl => match us, hl with | [_, _, _], _ => rfl
theorem b_law_due (T : Txt K mg) : Binds K T.d_law_due ["word", "one", "other"] [] := T.F_law_due.binds fun _ _ _ _ _ _ us hl => match us, hl with | [_, _, _], _ => rfl
theorem b_law_heard (T : Txt K mg) : Binds K T.d_law_heard ["word", "one", "other"] [] := T.F_law_heard.binds fun _ _ _ _ _ _ us hl => match us, hl with | [_, _, _], _ => rfl
theorem b_law_odd (T : Txt K mg) : Binds K T.d_law_odd ["jar", "number"] [] := T.F_law_odd.binds fun _ _ _ _ _ _ us hl => match us, hl with | [_, _], _ => rfl
theorem b_law_pair_right (T : Txt K mg) : Binds K T.d_law_pair_right ["jar", "one", "other"] [] := T.F_law_pair_right.binds fun _ _ _ _ _ _ us hl => match us, hl with | [_, _, _], _ => rfl
theorem b_law_refused_right (T : Txt K mg) : Binds K T.d_law_refused_right ["jar", "number"] [] := T.F_law_refused_right.binds fun _ _ _ _ _ _ us hl => match us, hl with | [_, _], _ => rfl
theorem b_law (T : Txt K mg) : Binds K T.d_law ["script"] [] := T.F_law.binds fun _ _ _ _ _ _ us hl => match us, hl with | [_], _ => rfl
theorem bi_BadNumber (T : Txt K mg) : Binds K T.di_BadNumber ["self", "part"] [] := T.Fi_BadNumber.binds fun _ _ _ _ _ _ us hl => match us, hl with | [_, _], _ => rfl
theorem ini_BadNumber {P : Program} {w : World} {base : Heap} (T : Txt K mg) : FnOk P w K mg base CX0 1 T.i_BadNumber T.di_BadNumber ["self", "part"] (spIni1 T.c_BadNumber ["part"]) := by
  refine T.Fi_BadNumber.ok sci_BadNumber (fun vs H Q E h => ?_) (fun cdv A outer s H vs Q E hr h => ?_)
  · exact spIni1_len h
  · exact ⟨_, (pss_one (ps_ost (pv 0) (pv 1))), r_ini1 T.ox_BadNumber T.no_BadNumber_part h⟩
theorem bi_Misfit (T : Txt K mg) : Binds K T.di_Misfit ["self", "part"] [] := T.Fi_Misfit.binds fun _ _ _ _ _ _ us hl => match us, hl with | [_, _], _ => rfl
theorem ini_Misfit {P : Program} {w : World} {base : Heap} (T : Txt K mg) : FnOk P w K mg base CX0 1 T.i_Misfit T.di_Misfit ["self", "part"] (spIni1 T.c_Misfit ["part"]) := by
  refine T.Fi_Misfit.ok sci_Misfit (fun vs H Q E h => ?_) (fun cdv A outer s H vs Q E hr h => ?_)
  · exact spIni1_len h
  · exact ⟨_, (pss_one (ps_ost (pv 0) (pv 1))), r_ini1 T.ox_Misfit T.no_Misfit_part h⟩
theorem kb_minus_0_other_one (T : Txt K mg) : KBn K T.d_minus ["one", "other"] 0 ["other", "one"] (fun us ws => perm [1, 0] (us ++ ws)) (fun us ws => perm [1, 0] (us ++ ws)) := kbn_of T.F_minus (fun _ _ _ _ _ _ us ws h1 h2 => match us, ws, h1, h2 with | [], [_, _], _, _ => rfl) (fun r1 r2 => Vals.perm (r1.append r2) [1, 0])
theorem kb_times_1_other (T : Txt K mg) : KBn K T.d_times ["one", "other"] 1 ["other"] (fun us ws => perm [0, 1] (us ++ ws)) (fun us ws => perm [0, 1] (us ++ ws)) := kbn_of T.F_times (fun _ _ _ _ _ _ us ws h1 h2 => match us, ws, h1, h2 with | [_], [_], _, _ => rfl) (fun r1 r2 => Vals.perm (r1.append r2) [0, 1])
theorem kb_sign_of_0_number (T : Txt K mg) : KBn K T.d_sign_of ["number"] 0 ["number"] (fun us ws => perm [0] (us ++ ws)) (fun us ws => perm [0] (us ++ ws)) := kbn_of T.F_sign_of (fun _ _ _ _ _ _ us ws h1 h2 => match us, ws, h1, h2 with | [], [_], _, _ => rfl) (fun r1 r2 => Vals.perm (r1.append r2) [0])
end
end Ty

namespace Ty
open PySem PySem.Spec PyProof.Rows L2
section
variable {P : Program} {w : World} {K : PySem.W.Frag} {mg : Str → Option Value} {base : Heap}
theorem ok_is_list (T : Txt K mg) : FnOk P w K mg base CX0 1 T.a_is_list T.d_is_list ["value"] (spD isS) := by
  refine T.F_is_list.ok sc_is_list (fun vs H Q E h => ?_) (fun cdv A outer s H vs Q E hr h => ?_)
  · obtain ⟨v, d, rfl, _⟩ := h
    rfl
  · obtain ⟨v, d, rfl, h, k⟩ := h
    refine ⟨_, (pss_one (ps_ret (pe_callB call_isiSeq (by rfl) T.z_isinstance (by decide +kernel) (pa_cons (pv 0) (pa_cons (pe_tup (pa_cons (pe_bltn (v := .ty "list") (by rfl) T.z_list (by decide +kernel) rfl) (pa_cons (pe_bltn (v := .ty "tuple") (by rfl) T.z_tuple (by decide +kernel) rfl) pa_nil))) pa_nil))))), ?_⟩
    exact ⟨_, rfl, (by decide : 2 ≤ sizeLine), fun p hp => ⟨v, d, p, rfl, upd_same, h.up (Same.new hp), k _ (Same.new hp)⟩⟩
theorem ok_is_integer (T : Txt K mg) : FnOk P w K mg base CX0 1 T.a_is_integer T.d_is_integer ["value"] (spD isN) := by
  refine T.F_is_integer.ok sc_is_integer (fun vs H Q E h => ?_) (fun cdv A outer s H vs Q E hr h => ?_)
  · obtain ⟨v, d, rfl, _⟩ := h
    rfl
  · obtain ⟨v, d, rfl, h, k⟩ := h
    refine ⟨_, (pss_one (ps_ret (pe_and (pe_callB call_isiInt (by rfl) T.z_isinstance (by decide +kernel) (pa_cons (pv 0) (pa_cons (pe_bltn (v := .ty "int") (by rfl) T.z_int (by decide +kernel) rfl) pa_nil))) (pe_one (pe_not (pe_callB call_isiBool (by rfl) T.z_isinstance (by decide +kernel) (pa_cons (pv 0) (pa_cons (pe_bltn (v := .ty "bool") (by rfl) T.z_bool (by decide +kernel) rfl) pa_nil)))))))), ?_⟩
    have kk : ∀ {b : Bool}, isN d = b → Q (.bl b) H := fun e => e ▸ k H (Same.refl H)
    refine ⟨_, rfl, v, d, rfl, h, _, rfl, iteB (fun c => ?_) fun c => ?_⟩
    · refine ⟨_, rfl, v, d, rfl, h, _, rfl, ?_⟩
      refine kk ?_
      cases d with
      | int _ => rfl
      | bl _ => rfl
      | _ => cases c
    · refine kk ?_
      cases d with
      | int _ => cases c
      | _ => rfl
theorem ok_parts_of (T : Txt K mg) : FnOk P w K mg base CX0 1 T.a_parts_of T.d_parts_of ["number"] spHalves := by
  refine T.F_parts_of.ok sc_parts_of (fun vs H Q E h => ?_) (fun cdv A outer s H vs Q E hr h => ?_)
  · obtain ⟨v, d, rfl, _⟩ := h
    rfl
  · obtain ⟨v, d, rfl, h, hn, k⟩ := h
    refine ⟨_, (pss_cons (ps_if (pt_val (pe_callB call_isiInt (by rfl) T.z_isinstance (by decide +kernel) (pa_cons (pv 0) (pa_cons (pe_bltn (v := .ty "int") (by rfl) T.z_int (by decide +kernel) rfl) pa_nil)))) (pss_one (ps_ret (pe_tup (pa_cons (pv 0) (pa_cons pe_int pa_nil))))) pss_nil)
      (pss_cons (ps_asg (pv 0) (pg_or (pg_unl rfl (pgs_cons (pg_name (i := 1) sc_parts_of.nd rfl (Or.inl rfl)) (pgs_cons (pg_name (i := 2) sc_parts_of.nd rfl (Or.inl rfl)) pgs_nil))) (pg_tup rfl (pgs_cons (pg_name (i := 1) sc_parts_of.nd rfl (Or.inl rfl)) (pgs_cons (pg_name (i := 2) sc_parts_of.nd rfl (Or.inl rfl)) pgs_nil)))))
      (pss_one (ps_ret (pe_tup (pa_cons (pv 1) (pa_cons (pv 2) pa_nil))))))), ?_⟩
    refine ⟨_, rfl, v, d, rfl, h, _, rfl, iteB (fun c => ?_) fun c => ?_⟩
    · rcases num_cases h hn with ⟨i, rfl, rfl⟩ | ⟨a, i, j, rfl, ⟨ha, rfl⟩ | ⟨ha, rfl⟩, _, _⟩
      · exact ⟨_, rfl, (by decide : 2 ≤ sizeLine), fun p hp => k _ p (Same.new hp) upd_same⟩
      · cases c
      · cases c
    · rcases num_cases h hn with ⟨i, rfl, rfl⟩ | ⟨a, i, j, rfl, ⟨ha, rfl⟩ | ⟨ha, rfl⟩, _, _⟩
      · cases c
      · exact ⟨_, rfl, .inr ⟨a, _, rfl, .inl (.inl ha), rfl, _, _, rfl, _, _, rfl, rfl, _, rfl, _, rfl, (by decide : 2 ≤ sizeLine), fun p hp => k _ p (Same.new hp) upd_same⟩⟩
      · exact ⟨_, rfl, .inl ⟨a, _, rfl, .inl (.inl ha), rfl, _, _, rfl, _, _, rfl, rfl, _, rfl, _, rfl, (by decide : 2 ≤ sizeLine), fun p hp => k _ p (Same.new hp) upd_same⟩⟩
theorem ok_number_of (T : Txt K mg) : FnOk P w K mg base CX0 1 T.a_number_of T.d_number_of ["above", "below"] spNo := by
  refine T.F_number_of.ok sc_number_of (fun vs H Q E h => ?_) (fun cdv A outer s H vs Q E hr h => ?_)
  · obtain ⟨a, b, rfl, _⟩ := h
    rfl
  · obtain ⟨a, b, rfl, hb, hs, k⟩ := h
    refine ⟨_, (pss_cons (ps_set (i := 2) sc_number_of.nd rfl (Or.inl rfl) (pe_callBfun cr_gcd (by rfl) T.m_gcd (pa_cons (pv 0) (pa_cons (pv 1) pa_nil))))
      (Evl.pss_cut (ps_if (pt_cmpR op_lt (pv 1) pe_int (nomark _)) (pss_one (ps_set (i := 2) sc_number_of.nd rfl (Or.inl rfl) (pe_un un_neg (pv 2)))) pss_nil)
      (pss_cons (ps_if (pt_cmpR op_eq (pv 1) (pv 2) (nomark _)) (pss_one (ps_ret (pe_op op_fdivX (pv 0) (pv 2)))) pss_nil)
      (pss_one (ps_ret (pe_tup (pa_cons (pe_op op_fdivX (pv 0) (pv 2)) (pa_cons (pe_op op_fdivX (pv 1) (pv 2)) pa_nil)))))))), ?_⟩
    refine ⟨_, rfl, _, rfl, a, b, rfl, ?_⟩
    obtain ⟨g, hg⟩ : ∃ g : Int, g = if b < 0 then -((Nat.gcd a.natAbs b.natAbs : Nat) : Int) else ((Nat.gcd a.natAbs b.natAbs : Nat) : Int) := ⟨_, rfl⟩
    obtain ⟨g0, qp, low, one, gl⟩ := low_of hb hg
    have gs : g.natAbs < 2 ^ 8900 := Nat.lt_of_le_of_lt gl hs
    refine ⟨fun σ' H' => H' = H ∧ σ' = [some (.int a), some (.int b), some (.int g)], ?_, ?_⟩
    · refine ⟨_, rfl, _, _, rfl, rfl, _, rfl, iteD (fun c => ?_) fun c => ?_⟩
      · rw [if_pos c] at hg
        exact ⟨_, rfl, _, rfl, rfl, by rw [hg]; rfl⟩
      · rw [if_neg c] at hg
        exact ⟨rfl, by rw [hg]; rfl⟩
    rintro σ' H' ⟨rfl, rfl⟩
    refine ⟨_, rfl, _, rfl, rfl, _, rfl, iteD (fun c => ?_) fun c => ?_⟩
    · have c1 := one.mp (int_eq c)
      refine ⟨_, rfl, _, rfl, _, _, rfl, rfl, divX g0 gs (by decide) (by decide), k _ (.int (a.fdiv g)) _ (Same.refl _) New.int ?_⟩
      unfold frac at low
      rw [if_pos c1] at low
      exact low
    · have c1 : b.fdiv g ≠ 1 := fun z => int_ne c (one.mpr z)
      refine ⟨_, rfl, _, rfl, _, _, rfl, rfl, divX g0 gs (by decide) (by decide), _, rfl, _, rfl, _, _, rfl, rfl, divX g0 gs (by decide) (by decide), (by decide : 2 ≤ sizeLine), fun p hp => k _ (.tup [.int (a.fdiv g), .int (b.fdiv g)]) _ (Same.new hp) (New.tup2 hp upd_same New.int New.int) ?_⟩
      unfold frac at low
      rw [if_neg c1] at low
      exact low
theorem ok_is_within (T : Txt K mg) : FnOk P w K mg base CX0 2 T.a_is_within T.d_is_within ["value", "least", "most"] spW := by
  have G_is_integer := ok_is_integer (P := P) (w := w) (base := base) T
  refine T.F_is_within.ok sc_is_within (fun vs H Q E h => ?_) (fun cdv A outer s H vs Q E hr h => ?_)
  · obtain ⟨v, d, lo, hi, rfl, _⟩ := h
    rfl
  · obtain ⟨v, d, lo, hi, rfl, h, k⟩ := h
    refine ⟨_, (pss_cons (ps_if (pt_not (pt_val (pe_call G_is_integer (hr.mono (by decide)) (by rfl) T.m_is_integer T.F_is_integer.kp (b_is_integer T) .nil pass0 (pa_cons (pv 0) pa_nil)))) (pss_one (ps_ret pe_bl)) pss_nil)
      (pss_one (ps_ret (pe_and (pe_or (pe_cmpR op_isN (pv 1) pe_non (nomark _)) (pe_one (pe_cmpR op_ge (pv 0) (pv 1) (nomark _)))) (pe_one (pe_or (pe_cmpR op_isN (pv 2) pe_non (nomark _)) (pe_one (pe_cmpR op_le (pv 0) (pv 2) (nomark _))))))))), ?_⟩
    refine ⟨_, rfl, v, d, rfl, h, fun H1 s1 => ⟨_, rfl, iteN (fun c => ?_) fun c => ?_⟩⟩
    · have kk : ∀ {b : Bool}, within d lo hi = b → Q (.bl b) H1 := fun e => e ▸ k H1 s1
      refine kk ?_
      cases d with
      | int _ => cases c
      | _ => rfl
    · obtain ⟨i, rfl, rfl⟩ := isN_of h c
      have kk : ∀ {b : Bool}, within (.int i) lo hi = b → Q (.bl b) H1 := fun e => e ▸ k H1 s1
      have fin : ∀ b : Bool, okLo i lo = b → if b = true then tOrV (tOp (fun x y H Q => y = .non ∧ Q (.bl (decide (x = .non))) H) (tVar 2) (tC .non)) (tOp (rI0 fun i j => .bl (decide (i ≤ j))) (tVar 0) (tVar 2)) (start N_is_within [.int i, optV lo, optV hi]) H1 Q else Q (.bl false) H1 := by
        intro b e
        refine iteB (fun c => ?_) fun c => ?_
        · subst c
          have w : within (.int i) lo hi = okHi i hi := by
            show (okLo i lo && okHi i hi) = _
            rw [e, Bool.true_and]
          cases hi with
          | none => exact ⟨_, rfl, rfl, _, rfl, iteD (fun _ => kk w) fun z => absurd rfl z⟩
          | some m => exact ⟨_, rfl, rfl, _, rfl, iteD (fun z => nomatch z) fun _ => ⟨_, rfl, _, rfl, _, _, rfl, rfl, kk w⟩⟩
        · subst c
          refine kk ?_
          show (okLo i lo && okHi i hi) = _
          rw [e, Bool.false_and]
      cases lo with
      | none => exact ⟨_, rfl, rfl, _, rfl, iteD (fun _ => ⟨_, rfl, fin _ rfl⟩) fun z => absurd rfl z⟩
      | some l => exact ⟨_, rfl, rfl, _, rfl, iteD (fun z => nomatch z) fun _ => ⟨_, rfl, _, rfl, _, _, rfl, rfl, ⟨_, rfl, fin _ rfl⟩⟩⟩
theorem ok_sum_of (T : Txt K mg) : FnOk P w K mg base CX0 2 T.a_sum_of T.d_sum_of ["one", "other"] (spOn2 CT fSum) := by
  have G_parts_of := ok_parts_of (P := P) (w := w) (base := base) T
  have G_number_of := ok_number_of (P := P) (w := w) (base := base) T
  refine T.F_sum_of.ok sc_sum_of (fun vs H Q E h => ?_) (fun cdv A outer s H vs Q E hr h => ?_)
  · obtain ⟨u, v, d, e, rfl, _⟩ := h
    rfl
  · obtain ⟨u, v, d, e, rfl, hu, hv, nd, ne, bd, be, -, k⟩ := h
    refine ⟨_, (pss_cons (ps_asg (pe_call G_parts_of (hr.mono (by decide)) (by rfl) T.m_parts_of T.F_parts_of.kp (b_parts_of T) .nil pass0 (pa_cons (pv 0) pa_nil)) (pg_tup rfl (pgs_cons (pg_name (i := 2) sc_sum_of.nd rfl (Or.inl rfl)) (pgs_cons (pg_name (i := 3) sc_sum_of.nd rfl (Or.inl rfl)) pgs_nil))))
      (pss_cons (ps_asg (pe_call G_parts_of (hr.mono (by decide)) (by rfl) T.m_parts_of T.F_parts_of.kp (b_parts_of T) .nil pass0 (pa_cons (pv 1) pa_nil)) (pg_tup rfl (pgs_cons (pg_name (i := 4) sc_sum_of.nd rfl (Or.inl rfl)) (pgs_cons (pg_name (i := 5) sc_sum_of.nd rfl (Or.inl rfl)) pgs_nil))))
      (pss_one (ps_ret (pe_call G_number_of (hr.mono (by decide)) (by rfl) T.m_number_of T.F_number_of.kp (b_number_of T) .nil pass0 (pa_cons (pe_op op_add (pe_op op_mulW (pv 2) (pv 5)) (pe_op op_mulW (pv 4) (pv 3))) (pa_cons (pe_op op_mulW (pv 3) (pv 5)) pa_nil))))))), ?_⟩
    refine ⟨_, rfl, u, d, rfl, hu, nd, fun H1 p1 s1 hp1 => ?_⟩
    refine ⟨p1, _, rfl, .inl (.inl hp1), rfl, _, _, rfl, _, _, rfl, rfl, ?_⟩
    refine ⟨_, rfl, v, e, rfl, hv.up s1, ne, fun H2 p2 s2 hp2 => ?_⟩
    refine ⟨p2, _, rfl, .inl (.inl hp2), rfl, _, _, rfl, _, _, rfl, rfl, ?_⟩
    have m := wide_lt bd.2 be.2
    have q1 := (num_parts nd).1
    have q2 := (num_parts ne).1
    refine ⟨_, rfl, _, rfl, _, _, rfl, rfl, wide_mul bd.1 be.2 (by decide) (by decide) (by decide), _, rfl, _, rfl, _, _, rfl, rfl, wide_mul be.1 bd.2 (by decide) (by decide) (by decide), _, _, rfl, rfl, _, rfl, _, rfl, _, _, rfl, rfl, wide_mul bd.2 be.2 (by decide) (by decide) (by decide), _, _, rfl, Int.mul_ne_zero (by omega) (by omega), Nat.lt_of_lt_of_le m (Nat.pow_le_pow_right (by decide) (by decide)), fun w r H3 s3 n3 l3 => ?_⟩
    exact k w r H3 ((s1.trans s2).trans s3) (n3.from (s1.trans s2)) l3
theorem ok_negative_of (T : Txt K mg) : FnOk P w K mg base CX0 2 T.a_negative_of T.d_negative_of ["number"] (spOn fNeg) := by
  have G_parts_of := ok_parts_of (P := P) (w := w) (base := base) T
  have G_number_of := ok_number_of (P := P) (w := w) (base := base) T
  refine T.F_negative_of.ok sc_negative_of (fun vs H Q E h => ?_) (fun cdv A outer s H vs Q E hr h => ?_)
  · obtain ⟨v, d, rfl, _⟩ := h
    rfl
  · obtain ⟨v, d, rfl, hv, nd, bd, k⟩ := h
    refine ⟨_, (pss_cons (ps_asg (pe_call G_parts_of (hr.mono (by decide)) (by rfl) T.m_parts_of T.F_parts_of.kp (b_parts_of T) .nil pass0 (pa_cons (pv 0) pa_nil)) (pg_tup rfl (pgs_cons (pg_name (i := 1) sc_negative_of.nd rfl (Or.inl rfl)) (pgs_cons (pg_name (i := 2) sc_negative_of.nd rfl (Or.inl rfl)) pgs_nil))))
      (pss_one (ps_ret (pe_call G_number_of (hr.mono (by decide)) (by rfl) T.m_number_of T.F_number_of.kp (b_number_of T) .nil pass0 (pa_cons (pe_un un_neg (pv 1)) (pa_cons (pv 2) pa_nil)))))), ?_⟩
    refine ⟨_, rfl, v, d, rfl, hv, nd, fun H1 p1 s1 hp1 => ?_⟩
    refine ⟨p1, _, rfl, .inl (.inl hp1), rfl, _, _, rfl, _, _, rfl, rfl, ?_⟩
    have q1 := (num_parts nd).1
    refine ⟨_, rfl, _, rfl, _, rfl, _, _, rfl, by omega, Nat.lt_of_lt_of_le bd.2 (Nat.pow_le_pow_right (by decide) (by decide)), fun w r H3 s3 n3 l3 => ?_⟩
    exact k w r H3 (s1.trans s3) (n3.from s1) l3
theorem ok_product_of (T : Txt K mg) : FnOk P w K mg base CX0 2 T.a_product_of T.d_product_of ["one", "other"] (spOn2 CT fProd) := by
  have G_parts_of := ok_parts_of (P := P) (w := w) (base := base) T
  have G_number_of := ok_number_of (P := P) (w := w) (base := base) T
  refine T.F_product_of.ok sc_product_of (fun vs H Q E h => ?_) (fun cdv A outer s H vs Q E hr h => ?_)
  · obtain ⟨u, v, d, e, rfl, _⟩ := h
    rfl
  · obtain ⟨u, v, d, e, rfl, hu, hv, nd, ne, bd, be, -, k⟩ := h
    refine ⟨_, (pss_cons (ps_asg (pe_call G_parts_of (hr.mono (by decide)) (by rfl) T.m_parts_of T.F_parts_of.kp (b_parts_of T) .nil pass0 (pa_cons (pv 0) pa_nil)) (pg_tup rfl (pgs_cons (pg_name (i := 2) sc_product_of.nd rfl (Or.inl rfl)) (pgs_cons (pg_name (i := 3) sc_product_of.nd rfl (Or.inl rfl)) pgs_nil))))
      (pss_cons (ps_asg (pe_call G_parts_of (hr.mono (by decide)) (by rfl) T.m_parts_of T.F_parts_of.kp (b_parts_of T) .nil pass0 (pa_cons (pv 1) pa_nil)) (pg_tup rfl (pgs_cons (pg_name (i := 4) sc_product_of.nd rfl (Or.inl rfl)) (pgs_cons (pg_name (i := 5) sc_product_of.nd rfl (Or.inl rfl)) pgs_nil))))
      (pss_one (ps_ret (pe_call G_number_of (hr.mono (by decide)) (by rfl) T.m_number_of T.F_number_of.kp (b_number_of T) .nil pass0 (pa_cons (pe_op op_mulW (pv 2) (pv 4)) (pa_cons (pe_op op_mulW (pv 3) (pv 5)) pa_nil))))))), ?_⟩
    refine ⟨_, rfl, u, d, rfl, hu, nd, fun H1 p1 s1 hp1 => ?_⟩
    refine ⟨p1, _, rfl, .inl (.inl hp1), rfl, _, _, rfl, _, _, rfl, rfl, ?_⟩
    refine ⟨_, rfl, v, e, rfl, hv.up s1, ne, fun H2 p2 s2 hp2 => ?_⟩
    refine ⟨p2, _, rfl, .inl (.inl hp2), rfl, _, _, rfl, _, _, rfl, rfl, ?_⟩
    have m := wide_lt bd.2 be.2
    have q1 := (num_parts nd).1
    have q2 := (num_parts ne).1
    refine ⟨_, rfl, _, rfl, _, _, rfl, rfl, wide_mul bd.1 be.1 (by decide) (by decide) (by decide), _, rfl, _, rfl, _, _, rfl, rfl, wide_mul bd.2 be.2 (by decide) (by decide) (by decide), _, _, rfl, Int.mul_ne_zero (by omega) (by omega), Nat.lt_of_lt_of_le m (Nat.pow_le_pow_right (by decide) (by decide)), fun w r H3 s3 n3 l3 => ?_⟩
    exact k w r H3 ((s1.trans s2).trans s3) (n3.from (s1.trans s2)) l3
theorem ok_sign_in (T : Txt K mg) : FnOk P w K mg base CX0 2 T.a_sign_in T.d_sign_in ["number"] (spOn fSign) := by
  have G_parts_of := ok_parts_of (P := P) (w := w) (base := base) T
  refine T.F_sign_in.ok sc_sign_in (fun vs H Q E h => ?_) (fun cdv A outer s H vs Q E hr h => ?_)
  · obtain ⟨v, d, rfl, _⟩ := h
    rfl
  · obtain ⟨v, d, rfl, hv, nd, bd, k⟩ := h
    refine ⟨_, (pss_cons (ps_asg (pe_call G_parts_of (hr.mono (by decide)) (by rfl) T.m_parts_of T.F_parts_of.kp (b_parts_of T) .nil pass0 (pa_cons (pv 0) pa_nil)) (pg_tup rfl (pgs_cons (pg_name (i := 1) sc_sign_in.nd rfl (Or.inl rfl)) (pgs_cons (pg_name (i := 2) sc_sign_in.nd rfl (Or.inl rfl)) pgs_nil))))
      (pss_one (ps_ret (pe_op op_subBl (pe_cmpR op_gt (pv 1) pe_int (nomark _)) (pe_cmpR op_lt (pv 1) pe_int (nomark _)))))), ?_⟩
    refine ⟨_, rfl, v, d, rfl, hv, nd, fun H1 p1 s1 hp1 => ?_⟩
    refine ⟨p1, _, rfl, .inl (.inl hp1), rfl, _, _, rfl, _, _, rfl, rfl, ?_⟩
    exact ⟨_, rfl, _, _, rfl, rfl, _, rfl, _, _, rfl, rfl, _, _, rfl, rfl, k _ _ H1 s1 New.int rfl⟩
theorem ok_is_less (T : Txt K mg) : FnOk P w K mg base CX0 2 T.a_is_less T.d_is_less ["one", "other"] (spOn2 CT fLess) := by
  have G_parts_of := ok_parts_of (P := P) (w := w) (base := base) T
  refine T.F_is_less.ok sc_is_less (fun vs H Q E h => ?_) (fun cdv A outer s H vs Q E hr h => ?_)
  · obtain ⟨u, v, d, e, rfl, _⟩ := h
    rfl
  · obtain ⟨u, v, d, e, rfl, hu, hv, nd, ne, bd, be, -, k⟩ := h
    refine ⟨_, (pss_cons (ps_asg (pe_call G_parts_of (hr.mono (by decide)) (by rfl) T.m_parts_of T.F_parts_of.kp (b_parts_of T) .nil pass0 (pa_cons (pv 0) pa_nil)) (pg_tup rfl (pgs_cons (pg_name (i := 2) sc_is_less.nd rfl (Or.inl rfl)) (pgs_cons (pg_name (i := 3) sc_is_less.nd rfl (Or.inl rfl)) pgs_nil))))
      (pss_cons (ps_asg (pe_call G_parts_of (hr.mono (by decide)) (by rfl) T.m_parts_of T.F_parts_of.kp (b_parts_of T) .nil pass0 (pa_cons (pv 1) pa_nil)) (pg_tup rfl (pgs_cons (pg_name (i := 4) sc_is_less.nd rfl (Or.inl rfl)) (pgs_cons (pg_name (i := 5) sc_is_less.nd rfl (Or.inl rfl)) pgs_nil))))
      (pss_one (ps_ret (pe_cmpR op_lt (pe_op op_mulW (pv 2) (pv 5)) (pe_op op_mulW (pv 4) (pv 3)) (nomark _)))))), ?_⟩
    refine ⟨_, rfl, u, d, rfl, hu, nd, fun H1 p1 s1 hp1 => ?_⟩
    refine ⟨p1, _, rfl, .inl (.inl hp1), rfl, _, _, rfl, _, _, rfl, rfl, ?_⟩
    refine ⟨_, rfl, v, e, rfl, hv.up s1, ne, fun H2 p2 s2 hp2 => ?_⟩
    refine ⟨p2, _, rfl, .inl (.inl hp2), rfl, _, _, rfl, _, _, rfl, rfl, ?_⟩
    refine ⟨_, rfl, _, rfl, _, _, rfl, rfl, wide_mul bd.1 be.2 (by decide) (by decide) (by decide), _, rfl, _, rfl, _, _, rfl, rfl, wide_mul be.1 bd.2 (by decide) (by decide) (by decide), _, _, rfl, rfl, ?_⟩
    exact k _ _ H2 (s1.trans s2) New.bl rfl
theorem ok_is_number (T : Txt K mg) : FnOk P w K mg base CX0 3 T.a_is_number T.d_is_number ["value"] (spD isNum) := by
  have G_is_integer := ok_is_integer (P := P) (w := w) (base := base) T
  have G_is_within := ok_is_within (P := P) (w := w) (base := base) T
  have G_is_list := ok_is_list (P := P) (w := w) (base := base) T
  refine T.F_is_number.ok sc_is_number (fun vs H Q E h => ?_) (fun cdv A outer s H vs Q E hr h => ?_)
  · obtain ⟨v, d, rfl, _⟩ := h
    rfl
  · obtain ⟨v, d, rfl, h, k⟩ := h
    refine ⟨_, (pss_cons (ps_if (pt_val (pe_call G_is_integer (hr.mono (by decide)) (by rfl) T.m_is_integer T.F_is_integer.kp (b_is_integer T) .nil pass0 (pa_cons (pv 0) pa_nil))) (pss_one (ps_ret pe_bl)) pss_nil)
      (pss_cons (ps_if (PW.pt (pw_or (pt_not (pt_val (pe_call G_is_list (hr.mono (by decide)) (by rfl) T.m_is_list T.F_is_list.kp (b_is_list T) .nil pass0 (pa_cons (pv 0) pa_nil)))) (pw_or1 (pt_cmpR op_ne (pe_callB call_len_seq (by rfl) T.z_len PySem.boot_len (pa_cons (pv 0) pa_nil)) pe_int (nomark _))))) (pss_one (ps_ret pe_bl)) pss_nil)
      (pss_cons (ps_asg (pv 0) (pg_or (pg_unl rfl (pgs_cons (pg_name (i := 1) sc_is_number.nd rfl (Or.inl rfl)) (pgs_cons (pg_name (i := 2) sc_is_number.nd rfl (Or.inl rfl)) pgs_nil))) (pg_tup rfl (pgs_cons (pg_name (i := 1) sc_is_number.nd rfl (Or.inl rfl)) (pgs_cons (pg_name (i := 2) sc_is_number.nd rfl (Or.inl rfl)) pgs_nil)))))
      (pss_one (ps_ret (pe_and (pe_call G_is_integer (hr.mono (by decide)) (by rfl) T.m_is_integer T.F_is_integer.kp (b_is_integer T) .nil pass0 (pa_cons (pv 1) pa_nil)) (pe_and (pe_call G_is_within (hr.mono (by decide)) (by rfl) T.m_is_within T.F_is_within.kp (b_is_within T) .nil pass0 (pa_cons (pv 2) (pa_cons pe_int (pa_cons pe_non pa_nil)))) (pe_one (pe_cmpR op_eq (pe_callBfun cr_gcd (by rfl) T.m_gcd (pa_cons (pv 1) (pa_cons (pv 2) pa_nil))) pe_int (nomark _)))))))))), ?_⟩
    have kk : ∀ {b : Bool} {H1 : Hp}, Same H H1 → isNum d = b → Q (.bl b) H1 := fun s e => e ▸ k _ s
    refine ⟨_, rfl, v, d, rfl, h, fun H1 s1 => ⟨_, rfl, iteB (fun c => ?_) fun c => ?_⟩⟩
    · exact kk s1 (by rw [isNum, c, Bool.true_or])
    refine ⟨_, rfl, v, d, rfl, h.up s1, fun H2 s2 => ⟨_, rfl, iteN (fun e => ?_) fun e => ?_⟩⟩
    · exact iteT (kk (s1.trans s2) (by rw [isNum, c, e, Bool.false_and, Bool.or_false]))
    have s12 := s1.trans s2
    obtain ⟨a, xs, rfl, hs, hx⟩ := (h.up s12).seq (K := K) e
    refine ⟨_, rfl, a, xs, rfl, hs, rfl, _, rfl, iteE (fun l => ?_) fun l => ?_⟩
    · refine kk s12 ?_
      have l' : (items d).length ≠ 2 := fun z => int_ne l (by rw [hx.length, z]; rfl)
      rw [isNum, c, e, Bool.true_and, Bool.false_or]
      exact isPair_len _ l'
    have l2 := int_eq l
    match xs, l2, hx with
    | [x, y], _, hx =>
      obtain ⟨dx, dy, e1, h1, h2⟩ : ∃ dx dy, items d = [dx, dy] ∧ Is H2 x dx ∧ Is H2 y dy := by
        generalize items d = ds at hx
        cases hx with
        | cons h1 hx =>
          cases hx with
          | cons h2 hx =>
            cases hx
            exact ⟨_, _, rfl, h1, h2⟩
      have nm : isNum d = isPair [dx, dy] := by rw [isNum, c, e, e1, Bool.true_and, Bool.false_or]
      have fin : tRet (tAndV (tCall (spD isN) [] E0 (tCons (tVar 1) tNil)) (tAndV (tCall spW [] E0 (tCons (tVar 2) (tCons (tC (.int 2)) (tCons (tC .non) tNil)))) (tOp rEq (tCB rGcd (tCons (tVar 1) (tCons (tVar 2) tNil))) (tC (.int 1))))) { nx := fun _ H' => Q .non H', rt := Q } [some (.ref a), some x, some y] H2 := by
        refine ⟨_, rfl, x, dx, rfl, h1, fun H3 s3 => ⟨_, rfl, iteB (fun c1 => ?_) fun c1 => ?_⟩⟩
        · obtain ⟨i, rfl, rfl⟩ := isN_of h1 c1
          refine ⟨_, rfl, y, dy, some 2, none, rfl, h2.up s3, fun H4 s4 => ⟨_, rfl, iteB (fun c2 => ?_) fun c2 => ?_⟩⟩
          · cases h2 with
            | int j =>
              have c3 : (2 : Int) ≤ j := of_decide_eq_true (by rwa [within, okHi, okLo, Bool.and_true] at c2)
              refine ⟨_, rfl, _, rfl, i, j, rfl, rfl, kk ((s12.trans s3).trans s4) ?_⟩
              rw [nm, isPair, decide_eq_true c3, Bool.true_and, coprime]
              by_cases g : Nat.gcd i.natAbs j.natAbs = 1
              · rw [decide_eq_true g]
                exact (decide_eq_true (by rw [g]; rfl)).symm
              · rw [decide_eq_false g]
                exact (decide_eq_false fun z => g (by have := int_eq z; omega)).symm
            | _ => cases c2
          · refine kk ((s12.trans s3).trans s4) ?_
            rw [nm]
            cases h2 with
            | int j =>
              have c3 : decide ((2 : Int) ≤ j) = false := by rwa [within, okHi, okLo, Bool.and_true] at c2
              rw [isPair, c3, Bool.false_and]
            | _ => rfl
        · refine kk (s12.trans s3) ?_
          rw [nm]
          cases h1 with
          | int j => cases c1
          | _ => rfl
      rcases hs with hs | hs
      · exact ⟨_, rfl, .inl ⟨a, _, rfl, hs, rfl, x, _, rfl, y, _, rfl, rfl, fin⟩⟩
      · exact ⟨_, rfl, .inr ⟨a, _, rfl, hs, rfl, x, _, rfl, y, _, rfl, rfl, fin⟩⟩
theorem ok_difference_of (T : Txt K mg) : FnOk P w K mg base CX0 3 T.a_difference_of T.d_difference_of ["one", "other"] (spOn2 CT fDiff) := by
  have G_sum_of := ok_sum_of (P := P) (w := w) (base := base) T
  have G_negative_of := ok_negative_of (P := P) (w := w) (base := base) T
  refine T.F_difference_of.ok sc_difference_of (fun vs H Q E h => ?_) (fun cdv A outer s H vs Q E hr h => ?_)
  · obtain ⟨u, v, d, e, rfl, _⟩ := h
    rfl
  · obtain ⟨u, v, d, e, rfl, hu, hv, nd, ne, bd, be, -, k⟩ := h
    refine ⟨_, (pss_one (ps_ret (pe_call G_sum_of (hr.mono (by decide)) (by rfl) T.m_sum_of T.F_sum_of.kp (b_sum_of T) .nil pass0 (pa_cons (pv 0) (pa_cons (pe_call G_negative_of (hr.mono (by decide)) (by rfl) T.m_negative_of T.F_negative_of.kp (b_negative_of T) .nil pass0 (pa_cons (pv 1) pa_nil)) pa_nil))))), ?_⟩
    refine ⟨_, rfl, _, rfl, v, e, rfl, hv, ne, be, fun x f H1 s1 n1 l1 => ?_⟩
    have bf : NB bitsN f := l1.nb (by rw [Int.natAbs_neg]; exact be.1) be.2
    have q1 := (num_parts nd).1
    have q2 := (num_parts ne).1
    refine ⟨u, x, d, f, rfl, hu.up s1, n1.is, nd, l1.num.1, bd, bf, trivial, fun w r H3 s3 n3 l3 => ?_⟩
    exact k w r H3 (s1.trans s3) (n3.from s1) (diff_of l1 l3 (by omega) (by omega))
theorem ok_quotient_of (T : Txt K mg) : FnOk P w K mg base CX0 3 T.a_quotient_of T.d_quotient_of ["one", "other"] (spOn2 (fun _ e => above e ≠ 0) fQuot) := by
  have G_parts_of := ok_parts_of (P := P) (w := w) (base := base) T
  have G_product_of := ok_product_of (P := P) (w := w) (base := base) T
  have G_number_of := ok_number_of (P := P) (w := w) (base := base) T
  refine T.F_quotient_of.ok sc_quotient_of (fun vs H Q E h => ?_) (fun cdv A outer s H vs Q E hr h => ?_)
  · obtain ⟨u, v, d, e, rfl, _⟩ := h
    rfl
  · obtain ⟨u, v, d, e, rfl, hu, hv, nd, ne, bd, be, hc, k⟩ := h
    refine ⟨_, (pss_cons (ps_asg (pe_call G_parts_of (hr.mono (by decide)) (by rfl) T.m_parts_of T.F_parts_of.kp (b_parts_of T) .nil pass0 (pa_cons (pv 1) pa_nil)) (pg_tup rfl (pgs_cons (pg_name (i := 2) sc_quotient_of.nd rfl (Or.inl rfl)) (pgs_cons (pg_name (i := 3) sc_quotient_of.nd rfl (Or.inl rfl)) pgs_nil))))
      (pss_one (ps_ret (pe_call G_product_of (hr.mono (by decide)) (by rfl) T.m_product_of T.F_product_of.kp (b_product_of T) .nil pass0 (pa_cons (pv 0) (pa_cons (pe_call G_number_of (hr.mono (by decide)) (by rfl) T.m_number_of T.F_number_of.kp (b_number_of T) .nil pass0 (pa_cons (pv 3) (pa_cons (pv 2) pa_nil))) pa_nil)))))), ?_⟩
    refine ⟨_, rfl, v, e, rfl, hv, ne, fun H1 p1 s1 hp1 => ?_⟩
    refine ⟨p1, _, rfl, .inl (.inl hp1), rfl, _, _, rfl, _, _, rfl, rfl, ?_⟩
    refine ⟨_, rfl, _, rfl, _, rfl, _, _, rfl, hc, Nat.lt_of_lt_of_le be.1 (Nat.pow_le_pow_right (by decide) (by decide)), fun x f H2 s2 n2 l2 => ?_⟩
    have q1 := (num_parts nd).1
    refine ⟨u, x, d, f, rfl, hu.up (s1.trans s2), n2.is, nd, l2.num.1, bd, l2.nb be.2 be.1, trivial, fun w r H3 s3 n3 l3 => ?_⟩
    exact k w r H3 ((s1.trans s2).trans s3) (n3.from (s1.trans s2)) (quot_of l2 l3 (by omega) hc rfl rfl)
theorem ok_need_number (T : Txt K mg) : FnOk P w K mg base (L2.CX P w) 4 T.a_need_number T.d_need_number ["value", "part"] (spNeed isNum T.c_BadNumber) := by
  have G_is_number := ok_is_number (P := P) (w := w) (base := base) T
  refine T.F_need_number.okX sc_need_number (fun vs H Q E h => ?_) (fun cdv A outer s H vs Q E hr h => ?_)
  · obtain ⟨v, p, d, rfl, _⟩ := h
    rfl
  · obtain ⟨v, p, d, rfl, hv, k, ko⟩ := h
    refine ⟨_, (pss_one (ps_if (pt_not (pt_val (pe_call G_is_number (hr.mono (by decide)) (by rfl) T.m_is_number T.F_is_number.kp (b_is_number T) .nil pass0 (pa_cons (pv 0) pa_nil)))) (pss_one (ps_raise rfl (takes_of rfl rfl rfl rfl) (pmk_oex T.ox_BadNumber T.fi_BadNumber T.ti_BadNumber (ini_BadNumber (P := P) (w := w) (base := base) T) (hr.mono (by decide)) (bi_BadNumber T) .nil pass0 (by rfl) T.m_BadNumber (pa_cons (pv 1) pa_nil)))) pss_nil)), ?_⟩
    refine ⟨_, rfl, v, d, rfl, hv, fun H1 s1 => ⟨_, rfl, iteN (fun c => ?_) fun c => ?_⟩⟩
    · exact ⟨_, rfl, mk1 ((ko c).up s1)⟩
    · exact k c H1 s1
theorem ok_sign_of (T : Txt K mg) : FnOk P w K mg base (L2.CX P w) 5 T.a_sign_of T.d_sign_of ["number"] (spSgn T.c_BadNumber) := by
  have G_need_number := ok_need_number (P := P) (w := w) (base := base) T
  have G_sign_in := ok_sign_in (P := P) (w := w) (base := base) T
  refine T.F_sign_of.okX sc_sign_of (fun vs H Q E h => ?_) (fun cdv A outer s H vs Q E hr h => ?_)
  · obtain ⟨v, d, rfl, _⟩ := h
    rfl
  · obtain ⟨v, d, rfl, hv, nb, k1, k⟩ := h
    refine ⟨_, (pss_cons (ps_expr (pe_call G_need_number (hr.mono (by decide)) (by rfl) T.m_need_number T.F_need_number.kp (b_need_number T) .nil (passes_call (takes_of rfl rfl rfl rfl) fun _ _ _ _ h => h) (pa_cons (pv 0) (pa_cons pe_str pa_nil))))
      (pss_one (ps_ret (pe_call G_sign_in (hr.mono (by decide)) (by rfl) T.m_sign_in T.F_sign_in.kp (b_sign_in T) .nil pass0 (pa_cons (pv 0) pa_nil))))), ?_⟩
    refine ⟨_, rfl, v, .str "number", d, rfl, hv, fun c H1 s1 => ?_, fun c => k1 c⟩
    exact ⟨_, rfl, v, d, rfl, hv.up s1, c, nb c, fun w r H2 s2 n2 l2 => k c w r H2 (s1.trans s2) (n2.from s1) l2⟩
theorem ok_need_both (T : Txt K mg) : FnOk P w K mg base (L2.CX P w) 5 T.a_need_both T.d_need_both ["one", "other"] (spBoth T.c_BadNumber) := by
  have G_need_number := ok_need_number (P := P) (w := w) (base := base) T
  refine T.F_need_both.okX sc_need_both (fun vs H Q E h => ?_) (fun cdv A outer s H vs Q E hr h => ?_)
  · obtain ⟨u, v, d, e, rfl, _⟩ := h
    rfl
  · obtain ⟨u, v, d, e, rfl, hu, hv, k1, k2, k⟩ := h
    refine ⟨_, (pss_cons (ps_expr (pe_call G_need_number (hr.mono (by decide)) (by rfl) T.m_need_number T.F_need_number.kp (b_need_number T) .nil (passes_call (takes_of rfl rfl rfl rfl) fun _ _ _ _ h => h) (pa_cons (pv 0) (pa_cons pe_str pa_nil))))
      (pss_one (ps_expr (pe_call G_need_number (hr.mono (by decide)) (by rfl) T.m_need_number T.F_need_number.kp (b_need_number T) .nil (passes_call (takes_of rfl rfl rfl rfl) fun _ _ _ _ h => h) (pa_cons (pv 1) (pa_cons pe_str pa_nil)))))), ?_⟩
    refine ⟨_, rfl, u, .str "one", d, rfl, hu, fun c H1 s1 => ?_, fun c => k1 c⟩
    refine ⟨_, rfl, v, .str "other", e, rfl, hv.up s1, fun c2 H2 s2 => ?_, fun c2 => (k2 c c2).up s1⟩
    exact k c c2 H2 (s1.trans s2)
theorem ok_plus (T : Txt K mg) : FnOk P w K mg base (L2.CX P w) 6 T.a_plus T.d_plus ["one", "other"] (spBin T.c_BadNumber CT fSum) := by
  have G_need_both := ok_need_both (P := P) (w := w) (base := base) T
  have G_sum_of := ok_sum_of (P := P) (w := w) (base := base) T
  refine T.F_plus.okX sc_plus (fun vs H Q E h => ?_) (fun cdv A outer s H vs Q E hr h => ?_)
  · obtain ⟨u, v, d, e, rfl, _⟩ := h
    rfl
  · obtain ⟨u, v, d, e, rfl, hu, hv, nb, k1, k2, k⟩ := h
    refine ⟨_, (pss_cons (ps_expr (pe_call G_need_both (hr.mono (by decide)) (by rfl) T.m_need_both T.F_need_both.kp (b_need_both T) .nil (passes_call (takes_of rfl rfl rfl rfl) fun _ _ _ _ h => h) (pa_cons (pv 0) (pa_cons (pv 1) pa_nil))))
      (pss_one (ps_ret (pe_call G_sum_of (hr.mono (by decide)) (by rfl) T.m_sum_of T.F_sum_of.kp (b_sum_of T) .nil pass0 (pa_cons (pv 0) (pa_cons (pv 1) pa_nil)))))), ?_⟩
    refine ⟨_, rfl, _, rfl, u, v, d, e, rfl, hu, hv, k1, k2, fun c1 c2 H1 s1 => ?_⟩
    exact ⟨_, rfl, _, rfl, u, v, d, e, rfl, hu.up s1, hv.up s1, c1, c2, (nb c1 c2).1, (nb c1 c2).2, trivial, fun w r H2 s2 n2 l2 => k c1 c2 trivial w r H2 (s1.trans s2) (n2.from s1) l2⟩
theorem ok_minus (T : Txt K mg) : FnOk P w K mg base (L2.CX P w) 6 T.a_minus T.d_minus ["one", "other"] (spBin T.c_BadNumber CT fDiff) := by
  have G_need_both := ok_need_both (P := P) (w := w) (base := base) T
  have G_difference_of := ok_difference_of (P := P) (w := w) (base := base) T
  refine T.F_minus.okX sc_minus (fun vs H Q E h => ?_) (fun cdv A outer s H vs Q E hr h => ?_)
  · obtain ⟨u, v, d, e, rfl, _⟩ := h
    rfl
  · obtain ⟨u, v, d, e, rfl, hu, hv, nb, k1, k2, k⟩ := h
    refine ⟨_, (pss_cons (ps_expr (pe_call G_need_both (hr.mono (by decide)) (by rfl) T.m_need_both T.F_need_both.kp (b_need_both T) .nil (passes_call (takes_of rfl rfl rfl rfl) fun _ _ _ _ h => h) (pa_cons (pv 0) (pa_cons (pv 1) pa_nil))))
      (pss_one (ps_ret (pe_call G_difference_of (hr.mono (by decide)) (by rfl) T.m_difference_of T.F_difference_of.kp (b_difference_of T) .nil pass0 (pa_cons (pv 0) (pa_cons (pv 1) pa_nil)))))), ?_⟩
    refine ⟨_, rfl, _, rfl, u, v, d, e, rfl, hu, hv, k1, k2, fun c1 c2 H1 s1 => ?_⟩
    exact ⟨_, rfl, _, rfl, u, v, d, e, rfl, hu.up s1, hv.up s1, c1, c2, (nb c1 c2).1, (nb c1 c2).2, trivial, fun w r H2 s2 n2 l2 => k c1 c2 trivial w r H2 (s1.trans s2) (n2.from s1) l2⟩
theorem ok_times (T : Txt K mg) : FnOk P w K mg base (L2.CX P w) 6 T.a_times T.d_times ["one", "other"] (spBin T.c_BadNumber CT fProd) := by
  have G_need_both := ok_need_both (P := P) (w := w) (base := base) T
  have G_product_of := ok_product_of (P := P) (w := w) (base := base) T
  refine T.F_times.okX sc_times (fun vs H Q E h => ?_) (fun cdv A outer s H vs Q E hr h => ?_)
  · obtain ⟨u, v, d, e, rfl, _⟩ := h
    rfl
  · obtain ⟨u, v, d, e, rfl, hu, hv, nb, k1, k2, k⟩ := h
    refine ⟨_, (pss_cons (ps_expr (pe_call G_need_both (hr.mono (by decide)) (by rfl) T.m_need_both T.F_need_both.kp (b_need_both T) .nil (passes_call (takes_of rfl rfl rfl rfl) fun _ _ _ _ h => h) (pa_cons (pv 0) (pa_cons (pv 1) pa_nil))))
      (pss_one (ps_ret (pe_call G_product_of (hr.mono (by decide)) (by rfl) T.m_product_of T.F_product_of.kp (b_product_of T) .nil pass0 (pa_cons (pv 0) (pa_cons (pv 1) pa_nil)))))), ?_⟩
    refine ⟨_, rfl, _, rfl, u, v, d, e, rfl, hu, hv, k1, k2, fun c1 c2 H1 s1 => ?_⟩
    exact ⟨_, rfl, _, rfl, u, v, d, e, rfl, hu.up s1, hv.up s1, c1, c2, (nb c1 c2).1, (nb c1 c2).2, trivial, fun w r H2 s2 n2 l2 => k c1 c2 trivial w r H2 (s1.trans s2) (n2.from s1) l2⟩
theorem ok_quotient (T : Txt K mg) : FnOk P w K mg base (L2.CX P w) 6 T.a_quotient T.d_quotient ["one", "other"] (spQuo T.c_BadNumber T.c_Misfit) := by
  have G_need_both := ok_need_both (P := P) (w := w) (base := base) T
  have G_quotient_of := ok_quotient_of (P := P) (w := w) (base := base) T
  have G_sign_in := ok_sign_in (P := P) (w := w) (base := base) T
  refine T.F_quotient.okX sc_quotient (fun vs H Q E h => ?_) (fun cdv A outer s H vs Q E hr h => ?_)
  · obtain ⟨u, v, d, e, rfl, _⟩ := h
    rfl
  · obtain ⟨u, v, d, e, rfl, hu, hv, nb, k1, k2, k3, k⟩ := h
    refine ⟨_, (pss_cons (ps_expr (pe_call G_need_both (hr.mono (by decide)) (by rfl) T.m_need_both T.F_need_both.kp (b_need_both T) .nil (passes_call (takes_of rfl rfl rfl rfl) fun _ _ _ _ h => h) (pa_cons (pv 0) (pa_cons (pv 1) pa_nil))))
      (pss_cons (ps_if (pt_cmpR op_eq (pe_call G_sign_in (hr.mono (by decide)) (by rfl) T.m_sign_in T.F_sign_in.kp (b_sign_in T) .nil pass0 (pa_cons (pv 1) pa_nil)) pe_int (nomark _)) (pss_one (ps_raise rfl (takes_of rfl rfl rfl rfl) (pmk_oex T.ox_Misfit T.fi_Misfit T.ti_Misfit (ini_Misfit (P := P) (w := w) (base := base) T) (hr.mono (by decide)) (bi_Misfit T) .nil pass0 (by rfl) T.m_Misfit (pa_cons pe_str pa_nil)))) pss_nil)
      (pss_one (ps_ret (pe_call G_quotient_of (hr.mono (by decide)) (by rfl) T.m_quotient_of T.F_quotient_of.kp (b_quotient_of T) .nil pass0 (pa_cons (pv 0) (pa_cons (pv 1) pa_nil))))))), ?_⟩
    refine ⟨_, rfl, _, rfl, u, v, d, e, rfl, hu, hv, k1, k2, fun c1 c2 H1 s1 => ?_⟩
    refine ⟨_, rfl, v, e, rfl, hv.up s1, c2, (nb c1 c2).2, fun w r H2 s2 n2 l2 => ?_⟩
    cases l2
    cases n2.is
    refine ⟨rfl, _, rfl, iteD (fun z => ?_) fun z => ?_⟩
    · exact mk1 ((k3 c1 c2 (sgn_zero.mp (int_eq z))).up (s1.trans s2))
    · exact ⟨_, rfl, _, rfl, u, v, d, e, rfl, hu.up (s1.trans s2), hv.up (s1.trans s2), c1, c2, (nb c1 c2).1, (nb c1 c2).2, fun y => int_ne z (sgn_zero.mpr y), fun w r H3 s3 n3 l3 => k c1 c2 (fun y => int_ne z (sgn_zero.mpr y)) w r H3 ((s1.trans s2).trans s3) (n3.from (s1.trans s2)) l3⟩
theorem ok_is_below (T : Txt K mg) : FnOk P w K mg base (L2.CX P w) 6 T.a_is_below T.d_is_below ["one", "other"] (spBin T.c_BadNumber CT fLess) := by
  have G_need_both := ok_need_both (P := P) (w := w) (base := base) T
  have G_is_less := ok_is_less (P := P) (w := w) (base := base) T
  refine T.F_is_below.okX sc_is_below (fun vs H Q E h => ?_) (fun cdv A outer s H vs Q E hr h => ?_)
  · obtain ⟨u, v, d, e, rfl, _⟩ := h
    rfl
  · obtain ⟨u, v, d, e, rfl, hu, hv, nb, k1, k2, k⟩ := h
    refine ⟨_, (pss_cons (ps_expr (pe_call G_need_both (hr.mono (by decide)) (by rfl) T.m_need_both T.F_need_both.kp (b_need_both T) .nil (passes_call (takes_of rfl rfl rfl rfl) fun _ _ _ _ h => h) (pa_cons (pv 0) (pa_cons (pv 1) pa_nil))))
      (pss_one (ps_ret (pe_call G_is_less (hr.mono (by decide)) (by rfl) T.m_is_less T.F_is_less.kp (b_is_less T) .nil pass0 (pa_cons (pv 0) (pa_cons (pv 1) pa_nil)))))), ?_⟩
    refine ⟨_, rfl, _, rfl, u, v, d, e, rfl, hu, hv, k1, k2, fun c1 c2 H1 s1 => ?_⟩
    exact ⟨_, rfl, _, rfl, u, v, d, e, rfl, hu.up s1, hv.up s1, c1, c2, (nb c1 c2).1, (nb c1 c2).2, trivial, fun w r H2 s2 n2 l2 => k c1 c2 trivial w r H2 (s1.trans s2) (n2.from s1) l2⟩
end
end Ty

namespace Ty
open PySem PySem.Spec PyProof.Rows L2
section
variable {P : Program} {w : World} {K : PySem.W.Frag} {mg : Str → Option Value} {base : Heap}
theorem ok_law_jar (T : Txt K mg) : FnOk P w K mg base CX0 1 T.a_law_jar T.d_law_jar ["script"] (spSack K) := by
  refine T.F_law_jar.ok sc_law_jar (fun vs H Q E h => ?_) (fun cdv A outer s H vs Q E hr h => ?_)
  · obtain ⟨a, ns, rfl, _⟩ := h
    rfl
  · obtain ⟨a, ns, rfl, hS, hl, k⟩ := h
    refine ⟨_, (pss_one (ps_ret (pe_lst (pa_cons (pe_lc (own := [("cell", 1)]) (g := gName 1) rfl sc_law_jar.nd (pi_list (pe_slice sl_list (pv 0) po_none (po_some pe_int))) (blkOk_by (N := N_law_jar) (sc := defScope s_law_jar) (by decide +kernel)) (fun _ _ _ _ _ => (pg_name (i := 1) sc_law_jar.nd rfl (Or.inl rfl))) (fun _ _ _ _ _ => pts_nil) (fun _ _ _ _ _ => (pe_callTy call_int1 (by rfl) T.z_int (by decide +kernel) (pa_cons (pv 1) pa_nil)))) (pa_cons pe_int (pa_cons pe_int pa_nil)))))), ?_⟩
    obtain ⟨ms, e, hm⟩ := cut_ints ns none (some 60)
    refine ⟨_, rfl, _, rfl, a, _, rfl, hS, fun p hp => ?_⟩
    refine ⟨p, rfl, ⟨_, .inl (.inl upd_same)⟩, fun D hD => ?_⟩
    have hDp : D ≠ p := fun z => by rw [z, upd_same] at hD; cases hD
    have hD0 : H D = none := by rwa [upd_ne hDp] at hD
    refine lc_list (xs := cutV (ns.map V.int) none (some 60)) (fun i H' => Same H H' ∧ H' p = some (.lst (cutV (ns.map V.int) none (some 60))) ∧ H' D = some (.lst ((ms.take i).map V.int))) ?_ ?_ ?_ ?_
    · refine ⟨(Same.new hp).trans (Same.new hD), ?_, upd_same⟩
      rw [upd_ne hDp.symm]
      exact upd_same
    · intro i H' _ q
      exact .inl (.inl q.2.1)
    · intro i x H' hx q
      rw [e] at hx
      obtain ⟨z, hz, rfl⟩ : ∃ z, ms[i]? = some z ∧ x = V.int z := by
        rw [List.getElem?_map] at hx
        cases e : ms[i]? with
        | none => rw [e] at hx; cases hx
        | some z => rw [e] at hx; exact ⟨z, rfl, (Option.some.inj hx).symm⟩
      refine ⟨rfl, _, rfl, .inl ⟨z, rfl, _, q.2.2, ?_, Same.mut q.1 hD0, ?_, ?_⟩⟩
      · rw [List.length_map, List.length_take]
        exact Nat.lt_of_le_of_lt (Nat.min_le_right _ _) (Nat.lt_of_le_of_lt (Nat.le_trans hm hl) (by decide))
      · rw [upd_ne hDp.symm]
        exact q.2.1
      · rw [upd_same, List.take_add_one, hz, List.map_append]
        rfl
    · intro H' q
      have eD : H' D = some (.lst (ms.map V.int)) := by
        have q3 := q.2.2
        rwa [e, List.length_map, List.take_length] at q3
      refine ⟨(by decide : 3 ≤ sizeLine), fun j hj => k j D _ (q.1.trans (Same.new hj)) (q.1.free hj) hD0 ⟨ms, 0, 0, upd_same, ?_, ?_, by decide, by decide⟩⟩
      · rw [upd_ne (ne_of_none eD hj)]
        exact eD
      · exact ne_of_none eD hj
theorem ok_law_pour (T : Txt K mg) : FnOk P w K mg base CX0 1 T.a_law_pour T.d_law_pour ["jar", "many"] spReach := by
  refine T.F_law_pour.ok sc_law_pour (fun vs H Q E h => ?_) (fun cdv A outer s H vs Q E hr h => ?_)
  · obtain ⟨j, c, many, n, rfl, _⟩ := h
    rfl
  · obtain ⟨j, c, many, n, rfl, ⟨cells, at_, left, hj, hc, hcj, h0, hn⟩, hn2, hpos, hbig, k⟩ := h
    refine ⟨_, (pss_cons (ps_if (pt_cmpR op_gt (pe_ix ix_list (pv 0) pe_int (fun _ _ => rfl)) pe_int (nomark _)) (pss_cons (ps_set (i := 2) sc_law_pour.nd rfl (Or.inl rfl) (pe_callTy call_int1 (by rfl) T.z_int (by decide +kernel) (pa_cons (pe_ix ix_list (pv 0) pe_int (fun _ _ => rfl)) pa_nil)))
      (pss_cons (ps_asg (pe_op op_fdivW (pv 2) (pv 1)) (pg_sub (pv 0) pe_int set_list))
      (pss_one (ps_ret (pe_op op_mod (pe_callTy call_int1 (by rfl) T.z_int (by decide +kernel) (pa_cons (pv 2) pa_nil)) (pv 1)))))) pss_nil)
      (pss_cons (ps_set (i := 3) sc_law_pour.nd rfl (Or.inl rfl) (pe_ix ix_list (pv 0) pe_int (fun _ _ => rfl)))
      (pss_cons (ps_asg (pe_op op_add (pv 3) pe_int) (pg_sub (pv 0) pe_int set_list))
      (pss_cons (ps_set (i := 4) sc_law_pour.nd rfl (Or.inl rfl) (pe_op op_add (pe_op op_mul pe_int (pv 3)) pe_int))
      (Evl.pss_cut (ps_if (pt_cmpR (op_neE hr.units0) (pe_ix ix_list (pv 0) pe_int (fun _ _ => rfl)) (pe_lst pa_nil) (nomark _)) (pss_one (ps_set (i := 4) sc_law_pour.nd rfl (Or.inl rfl) (pe_ix ix_list (pe_ix ix_list (pv 0) pe_int (fun _ _ => rfl)) (pe_op op_mod (pe_callTy call_int1 (by rfl) T.z_int (by decide +kernel) (pa_cons (pv 3) pa_nil)) (pe_callB call_len_seq (by rfl) T.z_len PySem.boot_len (pa_cons (pe_ix ix_list (pv 0) pe_int (fun _ _ => rfl)) pa_nil))) (fun _ _ => rfl)))) pss_nil)
      (Evl.pss_cut (ps_if (PW.pt (pw_and (pt_cmpR op_lt (pv 3) (pe_callB call_len_seq (by rfl) T.z_len PySem.boot_len (pa_cons (pe_ix ix_list (pv 0) pe_int (fun _ _ => rfl)) pa_nil)) (nomark _)) (pw_and1 (pt_cmpR op_ge (pe_callB call_abs (by rfl) T.z_abs (by decide +kernel) (pa_cons (pv 4) pa_nil)) (pe_op op_pow pe_int pe_int) (nomark _))))) (pss_cons (ps_set (i := 2) sc_law_pour.nd rfl (Or.inl rfl) (pe_op op_add (pe_op op_mul pe_int (pe_op op_sub (pe_callB call_abs (by rfl) T.z_abs (by decide +kernel) (pa_cons (pv 4) pa_nil)) (pe_op op_pow pe_int pe_int))) (pe_callTy call_int1 (by rfl) T.z_int (by decide +kernel) (pa_cons (pe_cmpR op_lt (pv 4) pe_int (nomark _)) pa_nil))))
      (pss_cons (ps_asg (pe_op op_fdivW (pv 2) (pv 1)) (pg_sub (pv 0) pe_int set_list))
      (pss_one (ps_ret (pe_op op_mod (pe_callTy call_int1 (by rfl) T.z_int (by decide +kernel) (pa_cons (pv 2) pa_nil)) (pv 1)))))) pss_nil)
      (pss_cons (ps_set (i := 5) sc_law_pour.nd rfl (Or.inl rfl) (pe_op op_mod (pe_callTy call_int1 (by rfl) T.z_int (by decide +kernel) (pa_cons (pe_op op_pow (pe_op op_add (pe_op op_add (pe_op op_mod (pe_callTy call_int1 (by rfl) T.z_int (by decide +kernel) (pa_cons (pv 4) pa_nil)) pe_int) (pe_op op_mul pe_int (pv 3))) pe_int) pe_int) pa_nil)) pe_int))
      (pss_cons (ps_set (i := 5) sc_law_pour.nd rfl (Or.inl rfl) (pe_op op_mod (pe_callTy call_int1 (by rfl) T.z_int (by decide +kernel) (pa_cons (pe_op op_pow (pe_op op_add (pe_op op_add (pe_op op_mul (pv 5) (pe_op op_add (pe_op op_mul pe_int (pv 3)) pe_int)) (pe_op op_mul (pe_op op_mul pe_int (pv 3)) (pv 3))) pe_int) pe_int) pa_nil)) pe_int))
      (pss_one (ps_ret (pe_op op_mod (pe_callTy call_int1 (by rfl) T.z_int (by decide +kernel) (pa_cons (pe_op op_fdivW (pv 5) pe_int) pa_nil)) (pv 1)))))))))))), ?_⟩
    have cdiv : ∀ i : Int, CDivW i many := fun i => wide_div hpos hbig (by decide) (by decide)
    refine ⟨_, rfl, j, _, _, _, rfl, rfl, .inl (.inl hj), rfl, _, _, rfl, rfl, _, rfl, iteD (fun pos => ?_) fun _ => ?_⟩
    · refine ⟨_, rfl, j, _, _, _, rfl, rfl, .inl (.inl hj), rfl, .inl ⟨_, rfl, ?_⟩⟩
      refine ⟨_, rfl, _, rfl, _, _, rfl, rfl, cdiv _, _, rfl, j, _, _, _, rfl, rfl, hj, rfl, ?_⟩
      refine ⟨_, rfl, .inl ⟨_, rfl, _, rfl, _, _, rfl, rfl, hpos, k _ _ keep_upd ⟨cells, at_, _, upd_same, ?_, hcj, h0, by omega⟩ (mod_lt_of hpos).1 (mod_lt_of hpos).2⟩⟩
      rw [upd_ne hcj]
      exact hc
    refine ⟨_, rfl, j, _, _, _, rfl, rfl, .inl (.inl hj), rfl, ?_⟩
    refine ⟨_, rfl, _, _, rfl, rfl, _, rfl, j, _, _, _, rfl, rfl, hj, rfl, ?_⟩
    refine ⟨_, rfl, _, _, rfl, rfl, .inl ⟨by decide, by decide⟩, _, _, rfl, rfl, ?_⟩
    -- the cell
    have hj2 : upd H j (.lst ([V.ref c, .int at_, .int left].set (Int.toNat 1) ((fun i j => V.int (i + j)) at_ 1))) j = some (.lst [.ref c, .int (at_ + 1), .int left]) := upd_same
    have hc2 : upd H j (.lst ([V.ref c, .int at_, .int left].set (Int.toNat 1) ((fun i j => V.int (i + j)) at_ 1))) c = some (.lst (cells.map V.int)) := by
      rw [upd_ne hcj]
      exact hc
    have kp : Keep j H (upd H j (.lst ([V.ref c, .int at_, .int left].set (Int.toNat 1) ((fun i j => V.int (i + j)) at_ 1)))) := keep_upd
    generalize upd H j (.lst ([V.ref c, .int at_, .int left].set (Int.toNat 1) ((fun i j => V.int (i + j)) at_ 1))) = H1 at hj2 hc2 kp ⊢
    refine ⟨fun σ' H' => Same H1 H' ∧ ∃ z : Int, σ' = [some (.ref j), some (.int many), none, some (.int at_), some (.int z), none], ?_, ?_⟩
    · refine ⟨_, rfl, j, _, _, _, rfl, rfl, .inl (.inl hj2), rfl, Nat.zero_le _, fun l hl => ⟨c, l, _, rfl, rfl, .inl (.inl (Same.new hl _ _ hc2)), .inl (.inl upd_same), _, rfl, iteN (fun ne => ?_) fun _ => ?_⟩⟩
      · have hj3 := Same.new (o := .lst []) hl _ _ hj2
        have hc3 := Same.new (o := .lst []) hl _ _ hc2
        have pl : (0 : Int) < ((cells.map V.int).length : Int) := by
          cases cells with
          | nil => cases ne
          | cons _ _ => rw [List.length_map, List.length_cons]; omega
        have m := mod_lt_of (a := at_) pl
        have lt : (at_ % ((cells.map V.int).length : Int)).toNat < cells.length := by
          have m1 := m.1
          have m2 := m.2
          rw [List.length_map] at m1 m2 ⊢
          omega
        refine ⟨_, rfl, j, _, _, _, rfl, rfl, .inl (.inl hj3), rfl, _, rfl, .inl ⟨_, rfl, _, rfl, j, _, _, _, rfl, rfl, .inl (.inl hj3), rfl, c, _, rfl, .inl (.inl (.inl hc3)), _, _, rfl, rfl, pl, c, _, _, .int cells[(at_ % ((cells.map V.int).length : Int)).toNat], rfl, rfl, .inl (.inl hc3), ?_, Same.new hl, _, rfl⟩⟩
        refine atI_of m.1 rfl ?_
        rw [List.getElem?_map, List.getElem?_eq_getElem lt]
        rfl
      · exact ⟨Same.new hl, _, rfl⟩
    rintro σ' H2 ⟨s2, z, rfl⟩
    have hj3 := s2 _ _ hj2
    have hc3 := s2 _ _ hc2
    have kp2 : Keep j H H2 := kp.trans (Same.keep s2)
    have J2 : Jar j c H2 (n + 1) := ⟨cells, at_ + 1, left, hj3, hc3, hcj, by omega, by omega⟩
    refine ⟨fun σ' H' => σ' = [some (.ref j), some (.int many), none, some (.int at_), some (.int z), none] ∧ H' = H2, ?_, ?_⟩
    · have great : ∀ (w : Int), (upd H2 j (.lst ([V.ref c, .int (at_ + 1), .int left].set (Int.toNat 2) ((fun i j => V.int (i / j)) w many)))) c = some (.lst (cells.map V.int)) := fun w => by
        rw [upd_ne hcj]
        exact hc3
      refine ⟨_, rfl, _, rfl, j, _, _, _, rfl, rfl, .inl (.inl hj3), rfl, c, _, rfl, .inl (.inl (.inl hc3)), _, _, rfl, rfl, _, rfl, iteD (fun _ => ?_) fun _ => ⟨rfl, rfl⟩⟩
      refine ⟨_, rfl, _, rfl, _, _, rfl, rfl, ⟨by decide, by decide, by decide⟩, _, _, rfl, rfl, _, rfl, iteD (fun _ => ?_) fun _ => ⟨rfl, rfl⟩⟩
      refine ⟨_, rfl, _, rfl, _, _, rfl, rfl, ⟨by decide, by decide, by decide⟩, _, _, rfl, rfl, _, _, rfl, rfl, .inl ⟨by decide, by decide⟩, ?_⟩
      refine ⟨_, rfl, _, _, rfl, rfl, .inr ⟨_, rfl, _, _, rfl, rfl, ?_⟩⟩
      refine ⟨_, rfl, _, rfl, _, _, rfl, rfl, cdiv _, _, rfl, j, _, _, _, rfl, rfl, hj3, rfl, ?_⟩
      refine ⟨_, rfl, .inl ⟨_, rfl, _, rfl, _, _, rfl, rfl, hpos, k _ _ (kp2.trans keep_upd) ⟨cells, at_ + 1, _, upd_same, great _, hcj, by omega, by omega⟩ (mod_lt_of hpos).1 (mod_lt_of hpos).2⟩⟩
    rintro σ' H3 ⟨rfl, rfl⟩
    have m1 := mod_lt_of (a := z) (b := 2147483587) (by decide)
    refine ⟨_, rfl, .inl ⟨_, rfl, _, _, rfl, rfl, (by show (0 : Int) < 2147483587; decide), _, rfl, _, _, rfl, rfl, .inl ⟨by decide, by decide⟩, _, _, rfl, rfl, _, _, rfl, rfl, _, _, rfl, rfl, ⟨by decide, by decide, ?_⟩, .inl ⟨_, rfl, _, _, rfl, rfl, (by show (0 : Int) < 2147483563; decide), ?_⟩⟩⟩
    · show (z % 2147483587 + 70879 * at_ + 4519).natAbs < 2 ^ 64
      omega
    have m2 := mod_lt_of (a := (z % 2147483587 + 70879 * at_ + 4519) ^ (5 : Int).toNat) (b := 2147483563) (by decide)
    obtain ⟨y, hy⟩ : ∃ y : Int, (z % 2147483587 + 70879 * at_ + 4519) ^ (5 : Int).toNat % 2147483563 = y := ⟨_, rfl⟩
    rw [hy] at m2
    have b1 : 0 ≤ y * (2 * at_ + 3361) ∧ y * (2 * at_ + 3361) ≤ 2147483563 * 300000 := ⟨Int.mul_nonneg m2.1 (by omega), Int.mul_le_mul (by omega) (by omega) (by omega) (by decide)⟩
    have b2 : 0 ≤ 81239 * at_ * at_ ∧ 81239 * at_ * at_ ≤ 8123900000 * 100000 := ⟨Int.mul_nonneg (by omega) (by omega), Int.mul_le_mul (by omega) (by omega) (by omega) (by decide)⟩
    refine ⟨_, rfl, _, rfl, _, _, rfl, rfl, .inl ⟨by decide, by decide⟩, _, _, rfl, rfl, _, _, rfl, rfl, .inr ⟨by omega, by omega⟩, _, rfl, _, _, rfl, rfl, .inl ⟨by decide, by decide⟩, _, rfl, _, _, rfl, rfl, .inr ⟨by omega, by omega⟩, _, _, rfl, rfl, _, _, rfl, rfl, _, _, rfl, rfl, ⟨by decide, by decide, ?_⟩, .inl ⟨_, rfl, _, _, rfl, rfl, (by show (0 : Int) < 2147483549; decide), ?_⟩⟩
    · show ((z % 2147483587 + 70879 * at_ + 4519) ^ (5 : Int).toNat % 2147483563 * (2 * at_ + 3361) + 81239 * at_ * at_ + 70879).natAbs < 2 ^ 64
      rw [hy]
      omega
    refine ⟨_, rfl, _, _, rfl, rfl, ⟨by decide, by decide⟩, .inl ⟨_, rfl, _, rfl, _, _, rfl, rfl, hpos, k _ _ kp2 J2 (mod_lt_of hpos).1 (mod_lt_of hpos).2⟩⟩
theorem ok_law_one (T : Txt K mg) : FnOk P w K mg base CX0 2 T.a_law_one T.d_law_one ["jar", "some"] spPick := by
  have G_law_pour := ok_law_pour (P := P) (w := w) (base := base) T
  refine T.F_law_one.ok sc_law_one (fun vs H Q E h => ?_) (fun cdv A outer s H vs Q E hr h => ?_)
  · obtain ⟨j, bk, p, xs, n, rfl, _⟩ := h
    rfl
  · obtain ⟨j, bk, p, xs, n, rfl, hJ, hn, hp, hpj, hl0, hl, k⟩ := h
    refine ⟨_, (pss_one (ps_ret (pe_ix ix_list (pv 1) (pe_call G_law_pour (hr.mono (by decide)) (by rfl) T.m_law_pour T.F_law_pour.kp (b_law_pour T) .nil pass0 (pa_cons (pv 0) (pa_cons (pe_callB call_len_seq (by rfl) T.z_len PySem.boot_len (pa_cons (pv 1) pa_nil)) pa_nil))) (fun _ _ => rfl)))), ?_⟩
    have b : ((xs.length : Int)).natAbs < 2 ^ 8000 := Nat.lt_of_le_of_lt (show (xs.length : Int).natAbs ≤ 2 ^ 10 by omega) (Nat.pow_lt_pow_right (by decide) (by decide))
    refine ⟨_, rfl, _, rfl, _, rfl, p, xs, rfl, .inl (.inl (.inl hp)), j, bk, _, n, rfl, hJ, hn, by omega, b, fun r H' kp hJ' h0 h1 => ?_⟩
    have hp' : H' p = some (.lst xs) := kp p _ hpj hp
    have lt : r.toNat < xs.length := by omega
    exact ⟨p, xs, r, xs[r.toNat], rfl, rfl, .inl (.inl hp'), atI_of h0 rfl (List.getElem?_eq_getElem lt), k _ _ kp hJ' (List.getElem_mem lt)⟩
end
end Ty

namespace Ty
open PySem PySem.Spec PyProof.Rows L2
section
variable {P : Program} {w : World} {K : PySem.W.Frag} {mg : Str → Option Value} {base : Heap}
theorem ok_law_common (T : Txt K mg) : FnOk P w K mg base CX0 1 T.a_law_common T.d_law_common ["one", "other"] spCommon := by
  refine T.F_law_common.ok sc_law_common (fun vs H Q E h => ?_) (fun cdv A outer s H vs Q E hr h => ?_)
  · obtain ⟨a, b, rfl, _⟩ := h
    rfl
  · obtain ⟨a, b, rfl, k⟩ := h
    refine ⟨_, (pss_cons (ps_par (i := 0) (j := 1) rfl sc_law_common.nd rfl rfl (by decide) rfl rfl (pa_cons (pe_callB call_abs (by rfl) T.z_abs (by decide +kernel) (pa_cons (pv 0) pa_nil)) (pa_cons (pe_callB call_abs (by rfl) T.z_abs (by decide +kernel) (pa_cons (pv 1) pa_nil)) pa_nil)) (by rfl))
      (pss_cons (ps_while PassesOwn.never (pt_cmpR op_gt (pv 1) pe_int (nomark _)) (pss_one (ps_par (i := 0) (j := 1) rfl sc_law_common.nd rfl rfl (by decide) rfl rfl (pa_cons (pv 1) (pa_cons (pe_op op_mod (pe_callTy call_int1 (by rfl) T.z_int (by decide +kernel) (pa_cons (pv 0) pa_nil)) (pv 1)) pa_nil)) (by rfl))))
      (pss_one (ps_ret (pv 0))))), ?_⟩
    refine ⟨_, rfl, a, rfl, _, rfl, b, rfl, _, _, rfl, ?_⟩
    refine ⟨fun m σ' H' => ∃ p o : Int, σ' = [some (.int p), some (.int o)] ∧ H' = H ∧ m = o.toNat ∧ 0 ≤ o ∧ 0 ≤ p ∧ Nat.gcd p.natAbs o.natAbs = Nat.gcd a.natAbs b.natAbs, ⟨_, (if a < 0 then -a else a), (if b < 0 then -b else b), rfl, rfl, rfl, by split <;> omega, by split <;> omega, ?_⟩, ?_⟩
    · have e1 : (if a < 0 then -a else a).natAbs = a.natAbs := by split <;> omega
      have e2 : (if b < 0 then -b else b).natAbs = b.natAbs := by split <;> omega
      rw [e1, e2]
    rintro m σ' H' ⟨p, o, rfl, rfl, rfl, o0, p0, hg⟩
    refine ⟨_, rfl, _, _, rfl, rfl, _, rfl, iteD (fun pos => ?_) fun npos => ?_⟩
    · have q := mod_lt_of (a := p) pos
      refine ⟨fun σ2 H2 => σ2 = [some (.int o), some (.int (p % o))] ∧ H2 = H', ?_, ?_⟩
      · rintro σ2 H2 ⟨rfl, rfl⟩
        exact ⟨(p % o).toNat, by omega, o, p % o, rfl, rfl, rfl, q.1, o0, by rw [gcd_step p0 pos]; exact hg⟩
      · exact ⟨_, rfl, _, rfl, .inl ⟨_, rfl, _, rfl, _, _, rfl, rfl, pos, _, _, rfl, rfl, rfl⟩⟩
    · have z : o = 0 := by omega
      subst z
      have e : p = ((Nat.gcd a.natAbs b.natAbs : Nat) : Int) := by
        rw [← hg]
        show p = ((Nat.gcd p.natAbs 0 : Nat) : Int)
        rw [Nat.gcd_zero_right]
        omega
      refine ⟨_, rfl, ?_⟩
      rw [e]
      exact k
theorem ok_law_lowest (T : Txt K mg) : FnOk P w K mg base CX0 2 T.a_law_lowest T.d_law_lowest ["above", "under"] spNo := by
  have G_law_common := ok_law_common (P := P) (w := w) (base := base) T
  refine T.F_law_lowest.ok sc_law_lowest (fun vs H Q E h => ?_) (fun cdv A outer s H vs Q E hr h => ?_)
  · obtain ⟨a, b, rfl, _⟩ := h
    rfl
  · obtain ⟨a, b, rfl, hb, hs, k⟩ := h
    refine ⟨_, (pss_cons (ps_set (i := 2) sc_law_lowest.nd rfl (Or.inl rfl) (pe_call G_law_common (hr.mono (by decide)) (by rfl) T.m_law_common T.F_law_common.kp (b_law_common T) .nil pass0 (pa_cons (pv 0) (pa_cons (pv 1) pa_nil))))
      (Evl.pss_cut (ps_if (pt_cmpR op_lt (pv 1) pe_int (nomark _)) (pss_one (ps_set (i := 2) sc_law_lowest.nd rfl (Or.inl rfl) (pe_un un_neg (pv 2)))) pss_nil)
      (pss_cons (ps_par (i := 0) (j := 1) rfl sc_law_lowest.nd rfl rfl (by decide) rfl rfl (pa_cons (pe_op op_fdivX (pe_callTy call_int1 (by rfl) T.z_int (by decide +kernel) (pa_cons (pv 0) pa_nil)) (pv 2)) (pa_cons (pe_op op_fdivX (pe_callTy call_int1 (by rfl) T.z_int (by decide +kernel) (pa_cons (pv 1) pa_nil)) (pv 2)) pa_nil)) (by rfl))
      (pss_one (ps_ret (pe_ifExp (pt_cmpR op_eq (pv 1) pe_int (nomark _)) (pv 0) (pe_tup (pa_cons (pv 0) (pa_cons (pv 1) pa_nil))))))))), ?_⟩
    refine ⟨_, rfl, _, rfl, a, b, rfl, ?_⟩
    obtain ⟨g, hg⟩ : ∃ g : Int, g = if b < 0 then -((Nat.gcd a.natAbs b.natAbs : Nat) : Int) else ((Nat.gcd a.natAbs b.natAbs : Nat) : Int) := ⟨_, rfl⟩
    obtain ⟨g0, qp, low, one, gl⟩ := low_of hb hg
    have gs : g.natAbs < 2 ^ 8900 := Nat.lt_of_le_of_lt gl hs
    refine ⟨fun σ' H' => H' = H ∧ σ' = [some (.int a), some (.int b), some (.int g)], ?_, ?_⟩
    · refine ⟨_, rfl, _, _, rfl, rfl, _, rfl, iteD (fun c => ?_) fun c => ?_⟩
      · rw [if_pos c] at hg
        exact ⟨_, rfl, _, rfl, rfl, by rw [hg]; rfl⟩
      · rw [if_neg c] at hg
        exact ⟨rfl, by rw [hg]; rfl⟩
    rintro σ' H' ⟨rfl, rfl⟩
    refine ⟨_, rfl, .inl ⟨_, rfl, _, rfl, _, _, rfl, rfl, divX g0 gs (by decide) (by decide), _, rfl, .inl ⟨_, rfl, _, rfl, _, _, rfl, rfl, divX g0 gs (by decide) (by decide), _, _, rfl, ?_⟩⟩⟩
    refine ⟨_, rfl, rfl, _, rfl, iteD (fun c => ?_) fun c => ?_⟩
    · have c1 := int_eq c
      refine ⟨_, rfl, k _ (.int (a.fdiv g)) _ (Same.refl _) New.int ?_⟩
      unfold frac at low
      rw [if_pos c1] at low
      exact low
    · have c1 := int_ne c
      refine ⟨_, rfl, _, rfl, (by decide : 2 ≤ sizeLine), fun p hp => k _ (.tup [.int (a.fdiv g), .int (b.fdiv g)]) _ (Same.new hp) (New.tup2 hp upd_same New.int New.int) ?_⟩
      unfold frac at low
      rw [if_neg c1] at low
      exact low
theorem ok_law_ends (T : Txt K mg) : FnOk P w K mg base CX0 1 T.a_law_ends T.d_law_ends ["number"] spHalves := by
  refine T.F_law_ends.ok sc_law_ends (fun vs H Q E h => ?_) (fun cdv A outer s H vs Q E hr h => ?_)
  · obtain ⟨v, d, rfl, _⟩ := h
    rfl
  · obtain ⟨v, d, rfl, h, hn, k⟩ := h
    refine ⟨_, (pss_one (ps_ret (pe_ifExp (pt_val (pe_callB call_isiInt (by rfl) T.z_isinstance (by decide +kernel) (pa_cons (pv 0) (pa_cons (pe_bltn (v := .ty "int") (by rfl) T.z_int (by decide +kernel) rfl) pa_nil)))) (pe_tup (pa_cons (pv 0) (pa_cons pe_int pa_nil))) (pe_tup (pa_cons (pe_ix (IxR.or (r := rIxL K) (r' := rIxT K) ix_list ix_tup) (pv 0) pe_int (fun _ _ => rfl)) (pa_cons (pe_ix (IxR.or (r := rIxL K) (r' := rIxT K) ix_list ix_tup) (pv 0) pe_int (fun _ _ => rfl)) pa_nil)))))), ?_⟩
    refine ⟨_, rfl, v, d, rfl, h, _, rfl, iteB (fun c => ?_) fun c => ?_⟩
    · rcases num_cases h hn with ⟨i, rfl, rfl⟩ | ⟨a, i, j, rfl, ⟨ha, rfl⟩ | ⟨ha, rfl⟩, _, _⟩
      · exact ⟨_, rfl, (by decide : 2 ≤ sizeLine), fun p hp => k _ p (Same.new hp) upd_same⟩
      · cases c
      · cases c
    · rcases num_cases h hn with ⟨i, rfl, rfl⟩ | ⟨a, i, j, rfl, ⟨ha, rfl⟩ | ⟨ha, rfl⟩, _, _⟩
      · cases c
      · exact ⟨_, rfl, .inr ⟨a, _, _, _, rfl, rfl, .inl (.inl ha), rfl, _, rfl, .inr ⟨a, _, _, _, rfl, rfl, .inl (.inl ha), rfl, (by decide : 2 ≤ sizeLine), fun p hp => k _ p (Same.new hp) upd_same⟩⟩⟩
      · exact ⟨_, rfl, .inl ⟨a, _, _, _, rfl, rfl, .inl (.inl ha), rfl, _, rfl, .inl ⟨a, _, _, _, rfl, rfl, .inl (.inl ha), rfl, (by decide : 2 ≤ sizeLine), fun p hp => k _ p (Same.new hp) upd_same⟩⟩⟩
theorem ok_law_number (T : Txt K mg) : FnOk P w K mg base CX0 3 T.a_law_number T.d_law_number ["jar"] spNumber := by
  have G_law_one := ok_law_one (P := P) (w := w) (base := base) T
  have G_law_lowest := ok_law_lowest (P := P) (w := w) (base := base) T
  have G_law_pour := ok_law_pour (P := P) (w := w) (base := base) T
  refine T.F_law_number.ok sc_law_number (fun vs H Q E h => ?_) (fun cdv A outer s H vs Q E hr h => ?_)
  · obtain ⟨S, j, bk, n, rfl, _⟩ := h
    rfl
  · obtain ⟨S, j, bk, n, rfl, hS, lv, J, hn, k⟩ := h
    refine ⟨_, (pss_cons (ps_set (i := 1) sc_law_number.nd rfl (Or.inl rfl) (pe_call G_law_one (hr.mono (by decide)) (by rfl) T.m_law_one T.F_law_one.kp (b_law_one T) .nil pass0 (pa_cons (pv 0) (pa_cons (pe_lst (pa_cons pe_int (pa_cons pe_int (pa_cons pe_int (pa_cons (pe_op op_pow pe_int pe_int) (pa_cons (pe_op op_pow pe_int pe_int) pa_nil)))))) pa_nil))))
      (pss_cons (ps_set (i := 2) sc_law_number.nd rfl (Or.inl rfl) (pe_op op_mulW (pe_call G_law_pour (hr.mono (by decide)) (by rfl) T.m_law_pour T.F_law_pour.kp (b_law_pour T) .nil pass0 (pa_cons (pv 0) (pa_cons (pv 1) pa_nil))) (pe_op op_sub pe_int (pe_op op_mul pe_int (pe_call G_law_pour (hr.mono (by decide)) (by rfl) T.m_law_pour T.F_law_pour.kp (b_law_pour T) .nil pass0 (pa_cons (pv 0) (pa_cons pe_int pa_nil)))))))
      (pss_one (ps_ret (pe_call G_law_lowest (hr.mono (by decide)) (by rfl) T.m_law_lowest T.F_law_lowest.kp (b_law_lowest T) .nil pass0 (pa_cons (pv 2) (pa_cons (pe_op op_add pe_int (pe_call G_law_pour (hr.mono (by decide)) (by rfl) T.m_law_pour T.F_law_pour.kp (b_law_pour T) .nil pass0 (pa_cons (pv 0) (pa_cons (pe_call G_law_one (hr.mono (by decide)) (by rfl) T.m_law_one T.F_law_one.kp (b_law_one T) .nil pass0 (pa_cons (pv 0) (pa_cons (pe_lst (pa_cons pe_int (pa_cons pe_int (pa_cons pe_int (pa_cons (pe_op op_pow pe_int pe_int) (pa_cons (pe_op op_sub (pe_op op_pow pe_int pe_int) pe_int) pa_nil)))))) pa_nil))) pa_nil)))) pa_nil))))))), ?_⟩
    refine dr_asg (dr_pickE hS rfl (drA_consE hS dr_int (drA_consE hS dr_int (drA_consE hS dr_int (drA_consE hS (dr_pow ⟨by decide, by decide, by decide⟩) (drA_consE hS (dr_pow ⟨by decide, by decide, by decide⟩) drA_nil))))) (by decide) (by decide)) lv J (by omega) fun v d H1 k1 l1 J1 h1 p1 => ?_
    obtain ⟨z, rfl, z0, z1⟩ : ∃ z : Int, d = .int z ∧ 0 < z ∧ z ≤ 10 ^ 40 := by
      simp only [List.mem_cons, List.not_mem_nil, or_false] at p1
      rcases p1 with rfl | rfl | rfl | rfl | rfl <;> exact ⟨_, rfl, by decide, by decide⟩
    cases h1
    refine dr_asg (dr_op (Pa := fun r => 0 ≤ r ∧ r < 10 ^ 40) (Pb := fun t => t = 1 ∨ t = -1) ((dr_reachE rfl (dr_vI rfl) (fun m e => by subst e; exact ⟨z0, Nat.lt_of_le_of_lt (show m.natAbs ≤ 10 ^ 40 by omega) (Nat.lt_of_lt_of_le (by decide : 10 ^ 40 < 2 ^ 200) (Nat.pow_le_pow_right (by decide) (by decide)))⟩)).imp fun d ⟨r, e, m, em, r0, r1⟩ => ⟨r, e, r0, by omega⟩)
      ((dr_op0 dr_cI (dr_op dr_cI (dr_reach rfl (by decide) (by decide)) fun a b ea eb => .inl ⟨by omega, by omega⟩)).imp fun d ⟨i, e, a, b, ea, ⟨x, y, ex, ey, eb⟩, ei⟩ => ⟨i, e, by subst ex; subst ea; omega⟩) fun a b ea eb => wide_mul (a := 200) (b := 3) (Nat.lt_of_le_of_lt (show a.natAbs ≤ 10 ^ 40 by omega) (by decide)) (show b.natAbs < 2 ^ 3 by omega) (by decide) (by decide) (by decide)) l1 J1 (by omega) fun v d H2 k2 l2 J2 h2 p2 => ?_
    obtain ⟨ab, rfl, r, t, ⟨r0, r1⟩, ht, eab⟩ := p2
    have abs : ab.natAbs < 2 ^ 140 := by
      have : ab.natAbs ≤ 10 ^ 40 := by rcases ht with rfl | rfl <;> omega
      exact Nat.lt_of_le_of_lt this (by decide)
    cases h2
    refine dr_ret (dr_low (Pa := (· = ab)) (Pb := fun b => 0 < b ∧ b ≤ 10 ^ 40) (dr_vI rfl) ((dr_op0 dr_cI (dr_reachE rfl ((dr_pickE hS rfl (drA_consE hS dr_int (drA_consE hS dr_int (drA_consE hS dr_int (drA_consE hS (dr_pow ⟨by decide, by decide, by decide⟩) (drA_consE hS (dr_op0E (dr_pow ⟨by decide, by decide, by decide⟩) dr_int) drA_nil))))) (by decide) (by decide)).imp (P1 := fun d => ∃ m, d = .int m ∧ (0 < m ∧ m < 10 ^ 40)) fun d hm => by
      simp only [List.mem_cons, List.not_mem_nil, or_false] at hm
      rcases hm with rfl | rfl | rfl | rfl | rfl <;> exact ⟨_, rfl, by decide, by decide⟩) fun m hm => ⟨hm.1, Nat.lt_of_le_of_lt (show m.natAbs ≤ 10 ^ 40 by omega) (Nat.lt_of_lt_of_le (by decide : 10 ^ 40 < 2 ^ 200) (Nat.pow_le_pow_right (by decide) (by decide)))⟩)).imp fun d ⟨i, e, a, b, ea, ⟨m, hm, b0, b1⟩, ei⟩ => ⟨i, e, by omega⟩)
      fun b hb => ⟨by omega, Nat.lt_of_le_of_lt (show b.natAbs ≤ 10 ^ 40 by omega) (Nat.lt_of_lt_of_le (by decide : 10 ^ 40 < 2 ^ 200) (Nat.pow_le_pow_right (by decide) (by decide)))⟩) l2 J2 (by omega) fun v d H3 k3 l3 J3 h3 p3 => ?_
    obtain ⟨a, b, rfl, ⟨b0, b1⟩, low⟩ := p3
    exact k v d H3 ((k1.trans k2).trans k3) l3 (J3.le (by omega)) h3 low.one (low.nb abs (Nat.lt_of_le_of_lt (show b.natAbs ≤ 10 ^ 40 by omega) (by decide)))
theorem ok_law_told (T : Txt K mg) : FnOk P w K mg base CX0 2 T.a_law_told T.d_law_told ["jar", "number"] spTold := by
  have G_law_pour := ok_law_pour (P := P) (w := w) (base := base) T
  refine T.F_law_told.ok sc_law_told (fun vs H Q E h => ?_) (fun cdv A outer s H vs Q E hr h => ?_)
  · obtain ⟨S, j, bk, n, v, d, rfl, _⟩ := h
    rfl
  · obtain ⟨S, j, bk, n, v, d, rfl, hS, lv, J, hn, hv, od, k⟩ := h
    refine ⟨_, (pss_one (ps_ret (pe_ifExp (PW.pt (pw_or (pt_val (pe_callB call_isiInt (by rfl) T.z_isinstance (by decide +kernel) (pa_cons (pv 1) (pa_cons (pe_bltn (v := .ty "int") (by rfl) T.z_int (by decide +kernel) rfl) pa_nil)))) (pw_or1 (pt_cmpR op_eq (pe_call G_law_pour (hr.mono (by decide)) (by rfl) T.m_law_pour T.F_law_pour.kp (b_law_pour T) .nil pass0 (pa_cons (pv 0) (pa_cons pe_int pa_nil))) pe_int (nomark _))))) (pv 1) (pe_lst (pa_cons (pe_ix (IxR.or (r := rIxL K) (r' := rIxT K) ix_list ix_tup) (pv 1) pe_int (fun _ _ => rfl)) (pa_cons (pe_ix (IxR.or (r := rIxL K) (r' := rIxT K) ix_list ix_tup) (pv 1) pe_int (fun _ _ => rfl)) pa_nil)))))), ?_⟩
    have nd := isOne_num od
    refine ⟨_, rfl, v, d, rfl, hv.up mn_same, _, rfl, iteB (fun c => ?_) fun c => ?_⟩
    · exact ⟨_, rfl, k v d H (Keep.refl _) lv (J.le (by omega)) hv nd rfl rfl⟩
    · refine ⟨_, rfl, j, bk, 2, n, rfl, J, by omega, by decide, by decide, fun r H1 k1 J1 r0 r1 => ⟨rfl, _, rfl, iteD (fun z => ?_) fun z => ?_⟩⟩
      · exact ⟨_, rfl, k v d H1 k1 (lv.up k1 J1) J1 (hv.up (k1.less hS)) nd rfl rfl⟩
      · have l1 := lv.up k1 J1
        have hv1 := (hv.up (k1.less hS)).up mn_same
        rcases num_cases hv1 nd with ⟨i, rfl, rfl⟩ | ⟨a, i, m, rfl, ⟨ha, rfl⟩ | ⟨ha, rfl⟩, h2, h3⟩
        · cases c
        · refine ⟨_, rfl, .inr ⟨a, _, _, _, rfl, rfl, .inl (.inl ha), rfl, _, rfl, .inr ⟨a, _, _, _, rfl, rfl, .inl (.inl ha), rfl, (by decide : 2 ≤ sizeLine), fun p hp => ?_⟩⟩⟩
          refine k _ (.lst [.int i, .int m]) _ (k1.trans (Same.keep (Same.new hp))) (l1.more (Same.new hp)) (J1.up (Same.new hp)) (.lst (mn_put l1 hp) (.cons (.int _) (.cons (.int _) .nil))) ?_ rfl rfl
          show (false || (true && (decide (2 ≤ m) && decide (Nat.gcd i.natAbs m.natAbs = 1)))) = true
          rw [decide_eq_true h2, decide_eq_true h3]
          rfl
        · cases od
end
end Ty

namespace Ty
open PySem PySem.Spec PyProof.Rows L2
section
variable {P : Program} {w : World} {K : PySem.W.Frag} {mg : Str → Option Value} {base : Heap}
theorem ok_law_pair (T : Txt K mg) : FnOk P w K mg base CX0 4 T.a_law_pair T.d_law_pair ["jar"] spPairN := by
  have G_law_ends := ok_law_ends (P := P) (w := w) (base := base) T
  have G_law_number := ok_law_number (P := P) (w := w) (base := base) T
  have G_law_pour := ok_law_pour (P := P) (w := w) (base := base) T
  have G_law_lowest := ok_law_lowest (P := P) (w := w) (base := base) T
  refine T.F_law_pair.ok sc_law_pair (fun vs H Q E h => ?_) (fun cdv A outer s H vs Q E hr h => ?_)
  · obtain ⟨S, j, bk, n, rfl, _⟩ := h
    rfl
  · obtain ⟨S, j, bk, n, rfl, hS, lv, J, hn, k⟩ := h
    refine ⟨_, (pss_cons (ps_par3 (i := 1) (j := 2) (l := 3) rfl sc_law_pair.nd rfl rfl rfl (by decide) (by decide) (by decide) rfl rfl rfl (pa_cons (pe_call G_law_number (hr.mono (by decide)) (by rfl) T.m_law_number T.F_law_number.kp (b_law_number T) .nil pass0 (pa_cons (pv 0) pa_nil)) (pa_cons (pe_call G_law_number (hr.mono (by decide)) (by rfl) T.m_law_number T.F_law_number.kp (b_law_number T) .nil pass0 (pa_cons (pv 0) pa_nil)) (pa_cons (pe_call G_law_pour (hr.mono (by decide)) (by rfl) T.m_law_pour T.F_law_pour.kp (b_law_pour T) .nil pass0 (pa_cons (pv 0) (pa_cons pe_int pa_nil))) pa_nil))) (by rfl))
      (pss_cons (ps_asg (pe_call G_law_ends (hr.mono (by decide)) (by rfl) T.m_law_ends T.F_law_ends.kp (b_law_ends T) .nil pass0 (pa_cons (pv 1) pa_nil)) (pg_tup rfl (pgs_cons (pg_name (i := 4) sc_law_pair.nd rfl (Or.inl rfl)) (pgs_cons (pg_name (i := 5) sc_law_pair.nd rfl (Or.inl rfl)) pgs_nil))))
      (Evl.pss_cut (ps_if (pt_cmpR op_eq (pv 3) pe_int (nomark _)) (pss_one (ps_set (i := 2) sc_law_pair.nd rfl (Or.inl rfl) (pv 1))) pss_nil)
      (Evl.pss_cut (ps_if (pt_cmpR op_eq (pv 3) pe_int (nomark _)) (pss_one (ps_set (i := 2) sc_law_pair.nd rfl (Or.inl rfl) (pe_call G_law_lowest (hr.mono (by decide)) (by rfl) T.m_law_lowest T.F_law_lowest.kp (b_law_lowest T) .nil pass0 (pa_cons (pe_un un_neg (pv 4)) (pa_cons (pv 5) pa_nil))))) pss_nil)
      (Evl.pss_cut (ps_if (PW.pt (pw_and (pt_cmpR op_eq (pv 3) pe_int (nomark _)) (pw_and1 (pt_cmpR op_ne (pv 4) pe_int (nomark _))))) (pss_one (ps_set (i := 2) sc_law_pair.nd rfl (Or.inl rfl) (pe_call G_law_lowest (hr.mono (by decide)) (by rfl) T.m_law_lowest T.F_law_lowest.kp (b_law_lowest T) .nil pass0 (pa_cons (pv 5) (pa_cons (pv 4) pa_nil))))) pss_nil)
      (Evl.pss_cut (ps_if (pt_cmpR op_eq (pv 3) pe_int (nomark _)) (pss_one (ps_set (i := 2) sc_law_pair.nd rfl (Or.inl rfl) (pe_call G_law_lowest (hr.mono (by decide)) (by rfl) T.m_law_lowest T.F_law_lowest.kp (b_law_lowest T) .nil pass0 (pa_cons (pe_op op_add pe_int (pe_call G_law_pour (hr.mono (by decide)) (by rfl) T.m_law_pour T.F_law_pour.kp (b_law_pour T) .nil pass0 (pa_cons (pv 0) (pa_cons pe_int pa_nil)))) (pa_cons (pv 5) pa_nil))))) pss_nil)
      (pss_one (ps_ret (pe_tup (pa_cons (pv 1) (pa_cons (pv 2) pa_nil))))))))))), ?_⟩
    refine dr_par3 hS (dr_number hS rfl) (dr_number hS rfl) (dr_reach rfl (by decide) (by decide)) lv J (by omega) fun v d u e w f H1 k1 l1 J1 hv pd hu pe hw pw => ?_
    obtain ⟨od, bd⟩ := pd
    obtain ⟨oe, be⟩ := pe
    obtain ⟨way, rfl, w0, w1⟩ := pw
    cases hw
    have nd := isOne_num od
    have q1 := (num_parts nd).1
    refine ⟨_, rfl, v, d, rfl, hv.up mn_same, nd, fun H2 p2 s2 hp2 => ?_⟩
    refine ⟨p2, _, rfl, .inl (.inl hp2), rfl, _, _, rfl, _, _, rfl, rfl, ?_⟩
    refine ⟨PairI S j bk H v d way (n + 11), ?_, ?_⟩
    · refine ⟨_, rfl, rfl, _, rfl, iteD (fun _ => ?_) fun _ => ?_⟩
      · exact ⟨_, rfl, v, d, rfl, k1.trans (Same.keep s2), l1.more s2, J1.up s2, hv.up (Same.less s2), hv.up (Same.less s2), od, bd⟩
      · exact ⟨u, e, rfl, k1.trans (Same.keep s2), l1.more s2, J1.up s2, hv.up (Same.less s2), hu.up (Same.less s2), oe, be⟩
    rintro σ' H' ⟨u, e, rfl, K3, L3, J3, hv3, hu3, oe, be⟩
    refine ⟨PairI S j bk H v d way (n + 11), ?_, ?_⟩
    · refine ⟨_, rfl, rfl, _, rfl, iteD (fun _ => ?_) fun _ => ?_⟩
      · exact ⟨_, rfl, _, rfl, _, rfl, _, _, rfl, by omega, Nat.lt_of_lt_of_le bd.2 (Nat.pow_le_pow_right (by decide) (by decide)), fun x r H4 s4 n4 l4 => ⟨x, r, rfl, K3.trans (Same.keep s4), L3.more s4, J3.up s4, hv3.up (Same.less s4), n4 S L3, l4.one, l4.nb (by rw [Int.natAbs_neg]; exact bd.1) bd.2⟩⟩
      · exact ⟨u, e, rfl, K3, L3, J3, hv3, hu3, oe, be⟩
    rintro σ' H' ⟨u, e, rfl, K3, L3, J3, hv3, hu3, oe, be⟩
    refine ⟨PairI S j bk H v d way (n + 11), ?_, ?_⟩
    · refine ⟨_, rfl, rfl, _, rfl, iteD (fun _ => ⟨_, rfl, rfl, _, rfl, iteE (fun z => ?_) fun _ => ?_⟩) fun _ => ?_⟩
      · exact ⟨_, rfl, _, rfl, _, _, rfl, int_ne z, Nat.lt_of_lt_of_le bd.1 (Nat.pow_le_pow_right (by decide) (by decide)), fun x r H4 s4 n4 l4 => ⟨x, r, rfl, K3.trans (Same.keep s4), L3.more s4, J3.up s4, hv3.up (Same.less s4), n4 S L3, l4.one, l4.nb bd.2 bd.1⟩⟩
      · exact ⟨u, e, rfl, K3, L3, J3, hv3, hu3, oe, be⟩
      · exact ⟨u, e, rfl, K3, L3, J3, hv3, hu3, oe, be⟩
    rintro σ' H' ⟨u, e, rfl, K3, L3, J3, hv3, hu3, oe, be⟩
    refine ⟨PairI S j bk H v d way (n + 12), ?_, ?_⟩
    · refine dr_ifS (drT_eq (dr_vI rfl) dr_cI) L3 J3 (by omega) (fun H4 k4 l4 J4 _ => ?_) fun H4 k4 l4 J4 _ => ?_
      · refine dr_low (Pa := fun a => 0 < a ∧ a ≤ 50) (Pb := (· = below d)) ((dr_op0 dr_cI (dr_reach rfl (by decide) (by decide))).imp fun d ⟨i, e, a, b, ea, ⟨b0, b1⟩, ei⟩ => ⟨i, e, by omega⟩) (dr_vI rfl) (fun b hb => by subst hb; exact ⟨by omega, Nat.lt_of_lt_of_le bd.2 (Nat.pow_le_pow_right (by decide) (by decide))⟩) H4 (n + 11) _ (Keep.refl _) l4 J4 (by omega) fun x r H5 k5 l5 J5 h5 p5 => ?_
        obtain ⟨a, b, ⟨a0, a1⟩, rfl, low⟩ := p5
        exact ⟨x, r, rfl, (K3.trans k4).trans k5, l5, J5, hv3.up ((k4.trans k5).less hS), h5, low.one, low.nb (Nat.lt_of_le_of_lt (show a.natAbs ≤ 50 by omega) (by decide)) bd.2⟩
      · exact ⟨u, e, rfl, K3.trans k4, l4, J4.le (by omega), hv3.up (k4.less hS), hu3.up (k4.less hS), oe, be⟩
    rintro σ' H' ⟨u, e, rfl, K3, L3, J3, hv3, hu3, oe, be⟩
    exact ⟨_, rfl, _, rfl, (by decide : 2 ≤ sizeLine), fun p hp => k p v u d e _ (K3.trans (Same.keep (Same.new hp))) (L3.more (Same.new hp)) (J3.up (Same.new hp)) upd_same (hv3.up (Same.less (Same.new hp))) (hu3.up (Same.less (Same.new hp))) od oe bd be⟩
theorem ok_law_done (T : Txt K mg) : FnOk P w K mg base (L2.CX P w) 7 T.a_law_done T.d_law_done ["word", "one", "other"] (spDone T.c_BadNumber T.c_Misfit) := by
  have G_quotient := ok_quotient (P := P) (w := w) (base := base) T
  have G_plus := ok_plus (P := P) (w := w) (base := base) T
  have G_minus := ok_minus (P := P) (w := w) (base := base) T
  have G_times := ok_times (P := P) (w := w) (base := base) T
  have G_is_below := ok_is_below (P := P) (w := w) (base := base) T
  refine T.F_law_done.okX sc_law_done (fun vs H Q E h => ?_) (fun cdv A outer s H vs Q E hr h => ?_)
  · obtain ⟨w, u, v, d, e, rfl, _⟩ := h
    rfl
  · obtain ⟨w, u, v, d, e, rfl, hw, hu, hv, nb, k1, k2, k3, k⟩ := h
    refine ⟨_, (pss_cons (ps_if (pt_cmpR op_eq (pv 0) pe_str (nomark _)) (pss_one (ps_ret (pe_call G_plus (hr.mono (by decide)) (by rfl) T.m_plus T.F_plus.kp (b_plus T) .nil (passes_call (takes_of rfl rfl rfl rfl) fun _ _ _ _ h => h) (pa_cons (pv 1) (pa_cons (pv 2) pa_nil))))) pss_nil)
      (pss_cons (ps_if (pt_cmpR op_eq (pv 0) pe_str (nomark _)) (pss_one (ps_ret (pe_callN0 G_minus (hr.mono (by decide)) (by rfl) T.m_minus T.F_minus.kp (kb_minus_0_other_one T) (passes_call (takes_of rfl rfl rfl rfl) fun _ _ _ _ h => h) (pk_cons (pv 2) (pk_cons (pv 1) pk_nil))))) pss_nil)
      (pss_cons (ps_if (pt_cmpR op_eq (pv 0) pe_str (nomark _)) (pss_one (ps_ret (pe_callN G_times (hr.mono (by decide)) (by rfl) T.m_times T.F_times.kp (kb_times_1_other T) (passes_call (takes_of rfl rfl rfl rfl) fun _ _ _ _ h => h) (pa_cons (pv 1) pa_nil) (pk_cons (pv 2) pk_nil)))) pss_nil)
      (pss_cons (ps_if (pt_cmpR op_eq (pv 0) pe_str (nomark _)) (pss_one (ps_ret (pe_call G_is_below (hr.mono (by decide)) (by rfl) T.m_is_below T.F_is_below.kp (b_is_below T) .nil (passes_call (takes_of rfl rfl rfl rfl) fun _ _ _ _ h => h) (pa_cons (pv 1) (pa_cons (pv 2) pa_nil))))) pss_nil)
      (pss_one (ps_ret (pe_call G_quotient (hr.mono (by decide)) (by rfl) T.m_quotient T.F_quotient.kp (b_quotient T) .nil (passes_call (takes_of rfl rfl rfl rfl) fun _ _ _ _ h => h) (pa_cons (pv 1) (pa_cons (pv 2) pa_nil))))))))), ?_⟩
    have ne : ∀ {a b : Str} {A B : Prop}, a ≠ b → B → if decide (V.str a = V.str b) = true then A else B := fun h hB => by
      rw [if_neg (by rw [decide_eq_false (str_ne h)]; decide)]
      exact hB
    simp only [W5, List.mem_cons, List.not_mem_nil, or_false] at hw
    rcases hw with rfl | rfl | rfl | rfl | rfl
    · refine ⟨_, rfl, rfl, _, rfl, iteD (fun _ => ?_) fun z => absurd rfl z⟩
      exact ⟨_, rfl, _, rfl, u, v, d, e, rfl, hu, hv, nb, k1, k2, fun c1 c2 _ x r H1 s1 n1 l1 => k c1 c2 x r H1 s1 n1 (.inl ⟨rfl, l1⟩)⟩
    · refine ⟨_, rfl, rfl, _, rfl, ne (by decide) ⟨_, rfl, rfl, _, rfl, iteD (fun _ => ?_) fun z => absurd rfl z⟩⟩
      exact ⟨_, rfl, _, rfl, rfl, rfl, u, v, d, e, rfl, hu, hv, nb, k1, k2, fun c1 c2 _ x r H1 s1 n1 l1 => k c1 c2 x r H1 s1 n1 (.inr (.inl ⟨rfl, l1⟩))⟩
    · refine ⟨_, rfl, rfl, _, rfl, ne (by decide) ⟨_, rfl, rfl, _, rfl, ne (by decide) ⟨_, rfl, rfl, _, rfl, iteD (fun _ => ?_) fun z => absurd rfl z⟩⟩⟩
      exact ⟨_, rfl, _, rfl, rfl, rfl, u, v, d, e, rfl, hu, hv, nb, k1, k2, fun c1 c2 _ x r H1 s1 n1 l1 => k c1 c2 x r H1 s1 n1 (.inr (.inr (.inl ⟨rfl, l1⟩)))⟩
    · refine ⟨_, rfl, rfl, _, rfl, ne (by decide) ⟨_, rfl, rfl, _, rfl, ne (by decide) ⟨_, rfl, rfl, _, rfl, ne (by decide) ⟨_, rfl, rfl, _, rfl, iteD (fun _ => ?_) fun z => absurd rfl z⟩⟩⟩⟩
      exact ⟨_, rfl, _, rfl, u, v, d, e, rfl, hu, hv, nb, k1, k2, fun c1 c2 _ x r H1 s1 n1 l1 => k c1 c2 x r H1 s1 n1 (.inr (.inr (.inr (.inl ⟨rfl, l1⟩))))⟩
    · refine ⟨_, rfl, rfl, _, rfl, ne (by decide) ⟨_, rfl, rfl, _, rfl, ne (by decide) ⟨_, rfl, rfl, _, rfl, ne (by decide) ⟨_, rfl, rfl, _, rfl, ne (by decide) ?_⟩⟩⟩⟩
      exact ⟨_, rfl, _, rfl, u, v, d, e, rfl, hu, hv, nb, k1, k2, fun c1 c2 z => k3 c1 c2 rfl z, fun c1 c2 z x r H1 s1 n1 l1 => k c1 c2 x r H1 s1 n1 (.inr (.inr (.inr (.inr (.inl ⟨rfl, z, l1⟩)))))⟩
theorem ok_law_due (T : Txt K mg) : FnOk P w K mg base CX0 3 T.a_law_due T.d_law_due ["word", "one", "other"] spDue := by
  have G_law_ends := ok_law_ends (P := P) (w := w) (base := base) T
  have G_law_lowest := ok_law_lowest (P := P) (w := w) (base := base) T
  refine T.F_law_due.ok sc_law_due (fun vs H Q E h => ?_) (fun cdv A outer s H vs Q E hr h => ?_)
  · obtain ⟨w, u, v, d, e, rfl, _⟩ := h
    rfl
  · obtain ⟨w, u, v, d, e, rfl, hw, hu, hv, nd, ne', bd, be, k⟩ := h
    refine ⟨_, (pss_cons (ps_asg (pe_tup (pa_cons (pe_call G_law_ends (hr.mono (by decide)) (by rfl) T.m_law_ends T.F_law_ends.kp (b_law_ends T) .nil pass0 (pa_cons (pv 1) pa_nil)) (pa_cons (pe_call G_law_ends (hr.mono (by decide)) (by rfl) T.m_law_ends T.F_law_ends.kp (b_law_ends T) .nil pass0 (pa_cons (pv 2) pa_nil)) pa_nil))) (pg_tup rfl (pgs_cons (pg_tup rfl (pgs_cons (pg_name (i := 3) sc_law_due.nd rfl (Or.inl rfl)) (pgs_cons (pg_name (i := 4) sc_law_due.nd rfl (Or.inl rfl)) pgs_nil))) (pgs_cons (pg_tup rfl (pgs_cons (pg_name (i := 5) sc_law_due.nd rfl (Or.inl rfl)) (pgs_cons (pg_name (i := 6) sc_law_due.nd rfl (Or.inl rfl)) pgs_nil))) pgs_nil))))
      (pss_cons (ps_if (pt_cmpR op_eq (pv 0) pe_str (nomark _)) (pss_one (ps_ret (pe_call G_law_lowest (hr.mono (by decide)) (by rfl) T.m_law_lowest T.F_law_lowest.kp (b_law_lowest T) .nil pass0 (pa_cons (pe_op op_add (pe_op op_mulW (pv 3) (pv 6)) (pe_op op_mulW (pv 5) (pv 4))) (pa_cons (pe_op op_mulW (pv 4) (pv 6)) pa_nil))))) pss_nil)
      (pss_cons (ps_if (pt_cmpR op_eq (pv 0) pe_str (nomark _)) (pss_one (ps_ret (pe_call G_law_lowest (hr.mono (by decide)) (by rfl) T.m_law_lowest T.F_law_lowest.kp (b_law_lowest T) .nil pass0 (pa_cons (pe_op op_sub (pe_op op_mulW (pv 3) (pv 6)) (pe_op op_mulW (pv 5) (pv 4))) (pa_cons (pe_op op_mulW (pv 4) (pv 6)) pa_nil))))) pss_nil)
      (pss_cons (ps_if (pt_cmpR op_eq (pv 0) pe_str (nomark _)) (pss_one (ps_ret (pe_call G_law_lowest (hr.mono (by decide)) (by rfl) T.m_law_lowest T.F_law_lowest.kp (b_law_lowest T) .nil pass0 (pa_cons (pe_op op_mulW (pv 3) (pv 5)) (pa_cons (pe_op op_mulW (pv 4) (pv 6)) pa_nil))))) pss_nil)
      (pss_cons (ps_if (pt_cmpR op_eq (pv 0) pe_str (nomark _)) (pss_one (ps_ret (pe_cmpR op_lt (pe_op op_mulW (pv 3) (pv 6)) (pe_op op_mulW (pv 5) (pv 4)) (nomark _)))) pss_nil)
      (pss_one (ps_ret (pe_ifExp (pt_cmpR op_ne (pv 5) pe_int (nomark _)) (pe_call G_law_lowest (hr.mono (by decide)) (by rfl) T.m_law_lowest T.F_law_lowest.kp (b_law_lowest T) .nil pass0 (pa_cons (pe_op op_mulW (pv 3) (pv 6)) (pa_cons (pe_op op_mulW (pv 4) (pv 5)) pa_nil))) (pe_tup (pa_cons pe_str (pa_cons pe_str pa_nil))))))))))), ?_⟩
    have ne : ∀ {a b : Str} {A B : Prop}, a ≠ b → B → if decide (V.str a = V.str b) = true then A else B := fun h hB => by
      rw [if_neg (by rw [decide_eq_false (str_ne h)]; decide)]
      exact hB
    have q1 := (num_parts nd).1
    have q2 := (num_parts ne').1
    have m := wide_lt bd.2 be.2
    have m2 := wide_lt bd.2 be.1
    have up : ∀ {x : Int}, x.natAbs < 2 ^ (bitsN + bitsN) → x.natAbs < 2 ^ 8900 := fun h => Nat.lt_of_lt_of_le h (Nat.pow_le_pow_right (by decide) (by decide))
    refine ⟨_, rfl, u, d, rfl, hu, nd, fun H1 p1 s1 hp1 => ⟨_, rfl, v, e, rfl, hv.up s1, ne', fun H2 p2 s2 hp2 => ⟨(by decide : 2 ≤ sizeLine), fun t ht => ?_⟩⟩⟩
    have n5 : (upd H2 t (.tup [.ref p1, .ref p2])) p1 = some (.tup [.int (above d), .int (below d)]) := Same.new ht _ _ (s2 _ _ hp1)
    have n6 : (upd H2 t (.tup [.ref p1, .ref p2])) p2 = some (.tup [.int (above e), .int (below e)]) := Same.new ht _ _ hp2
    refine ⟨t, _, rfl, .inl (.inl upd_same), rfl, .ref p1, _, rfl, ⟨p1, _, rfl, .inl (.inl n5), rfl, _, _, rfl, _, _, rfl, rfl, .ref p2, _, rfl, ⟨p2, _, rfl, .inl (.inl n6), rfl, _, _, rfl, _, _, rfl, rfl, rfl, ?_⟩⟩⟩
    have s3 : Same H (upd H2 t (.tup [.ref p1, .ref p2])) := (s1.trans s2).trans (Same.new ht)
    generalize upd H2 t (.tup [.ref p1, .ref p2]) = H3 at s3 ⊢
    simp only [W5, List.mem_cons, List.not_mem_nil, or_false] at hw
    rcases hw with rfl | rfl | rfl | rfl | rfl
    · refine ⟨_, rfl, rfl, _, rfl, iteD (fun _ => ?_) fun z => absurd rfl z⟩
      exact ⟨_, rfl, _, rfl, _, _, rfl, rfl, wide_mul bd.1 be.2 (by decide) (by decide) (by decide), _, rfl, _, rfl, _, _, rfl, rfl, wide_mul be.1 bd.2 (by decide) (by decide) (by decide), _, _, rfl, rfl, _, rfl, _, rfl, _, _, rfl, rfl, wide_mul bd.2 be.2 (by decide) (by decide) (by decide), _, _, rfl, Int.mul_ne_zero (by omega) (by omega), up m, fun x r H4 s4 n4 l4 => k x r H4 (s3.trans s4) n4.is (.inl ⟨rfl, l4⟩)⟩
    · refine ⟨_, rfl, rfl, _, rfl, ne (by decide) ⟨_, rfl, rfl, _, rfl, iteD (fun _ => ?_) fun z => absurd rfl z⟩⟩
      exact ⟨_, rfl, _, rfl, _, _, rfl, rfl, wide_mul bd.1 be.2 (by decide) (by decide) (by decide), _, rfl, _, rfl, _, _, rfl, rfl, wide_mul be.1 bd.2 (by decide) (by decide) (by decide), _, _, rfl, rfl, _, rfl, _, rfl, _, _, rfl, rfl, wide_mul bd.2 be.2 (by decide) (by decide) (by decide), _, _, rfl, Int.mul_ne_zero (by omega) (by omega), up m, fun x r H4 s4 n4 l4 => k x r H4 (s3.trans s4) n4.is (.inr (.inl ⟨rfl, l4⟩))⟩
    · refine ⟨_, rfl, rfl, _, rfl, ne (by decide) ⟨_, rfl, rfl, _, rfl, ne (by decide) ⟨_, rfl, rfl, _, rfl, iteD (fun _ => ?_) fun z => absurd rfl z⟩⟩⟩
      exact ⟨_, rfl, _, rfl, _, _, rfl, rfl, wide_mul bd.1 be.1 (by decide) (by decide) (by decide), _, rfl, _, rfl, _, _, rfl, rfl, wide_mul bd.2 be.2 (by decide) (by decide) (by decide), _, _, rfl, Int.mul_ne_zero (by omega) (by omega), up m, fun x r H4 s4 n4 l4 => k x r H4 (s3.trans s4) n4.is (.inr (.inr (.inl ⟨rfl, l4⟩)))⟩
    · refine ⟨_, rfl, rfl, _, rfl, ne (by decide) ⟨_, rfl, rfl, _, rfl, ne (by decide) ⟨_, rfl, rfl, _, rfl, ne (by decide) ⟨_, rfl, rfl, _, rfl, iteD (fun _ => ?_) fun z => absurd rfl z⟩⟩⟩⟩
      exact ⟨_, rfl, _, rfl, _, _, rfl, rfl, wide_mul bd.1 be.2 (by decide) (by decide) (by decide), _, rfl, _, rfl, _, _, rfl, rfl, wide_mul be.1 bd.2 (by decide) (by decide) (by decide), _, _, rfl, rfl, k _ _ H3 s3 (.bl _) (.inr (.inr (.inr (.inl ⟨rfl, rfl⟩))))⟩
    · refine ⟨_, rfl, rfl, _, rfl, ne (by decide) ⟨_, rfl, rfl, _, rfl, ne (by decide) ⟨_, rfl, rfl, _, rfl, ne (by decide) ⟨_, rfl, rfl, _, rfl, ne (by decide) ?_⟩⟩⟩⟩
      refine ⟨_, rfl, rfl, _, rfl, iteE (fun z => ?_) fun z => ?_⟩
      · exact ⟨_, rfl, _, rfl, _, _, rfl, rfl, wide_mul bd.1 be.2 (by decide) (by decide) (by decide), _, rfl, _, rfl, _, _, rfl, rfl, wide_mul bd.2 be.1 (by decide) (by decide) (by decide), _, _, rfl, Int.mul_ne_zero (by omega) (int_ne z), up m2, fun x r H4 s4 n4 l4 => k x r H4 (s3.trans s4) n4.is (.inr (.inr (.inr (.inr (.inl ⟨rfl, int_ne z, l4⟩)))))⟩
      · exact ⟨(by decide : 2 ≤ sizeLine), fun p hp => k _ _ _ (s3.trans (Same.new hp)) (.tup upd_same (.cons (.str _) (.cons (.str _) .nil))) (.inr (.inr (.inr (.inr (.inr ⟨rfl, int_eq z, rfl⟩)))))⟩
theorem ok_law_heard (T : Txt K mg) : FnOk P w K mg base CX0 8 T.a_law_heard T.d_law_heard ["word", "one", "other"] spHeard := by
  have G_law_done := ok_law_done (P := P) (w := w) (base := base) T
  refine T.F_law_heard.ok sc_law_heard (fun vs H Q E h => ?_) (fun cdv A outer s H vs Q E hr h => ?_)
  · obtain ⟨w, u, v, d, e, rfl, _⟩ := h
    rfl
  · obtain ⟨w, u, v, d, e, rfl, hw, hu, hv, nb, k1, k2, k⟩ := h
    refine ⟨_, (pss_cons (ps_set (i := 3) sc_law_heard.nd rfl (Or.inl rfl) pe_non)
      (pss_cons (ps_try_keep (i := 4) (l := 3) (c := .ref T.c_CurveError) rfl rfl rfl rfl sc_law_heard.nd rfl rfl ⟨rfl, by decide, .inl T.m_CurveError⟩ takes0 (fun W pn xe tk _ => (pss_one (ps_ret (pe_callS G_law_done (hr.mono (by decide)) (by rfl) T.m_law_done T.F_law_done.kp (b_law_done T) (fun σ => passAt tk σ) (pa_cons (pv 0) (pa_cons (pv 1) (pa_cons (pv 2) pa_nil))))))) (fun a oe cls d pn hz hf => pss_one (ps_set (i := 3) sc_law_heard.nd rfl (Or.inl rfl) (pv 4))))
      (pss_cons (ps_if (pt_val (pe_callB call_isX (by rfl) T.z_isinstance (by decide +kernel) (pa_cons (pv 3) (pa_cons (pe_glob (v := .ref T.c_BadNumber) (by rfl) T.m_BadNumber rfl) pa_nil)))) (pss_one (ps_ret (pe_tup (pa_cons pe_str (pa_cons (pe_xt (pv 3)) pa_nil))))) pss_nil)
      (pss_one (ps_ret (pe_ifExp (pt_val (pe_callB call_isX (by rfl) T.z_isinstance (by decide +kernel) (pa_cons (pv 3) (pa_cons (pe_glob (v := .ref T.c_Misfit) (by rfl) T.m_Misfit rfl) pa_nil)))) (pe_tup (pa_cons pe_str (pa_cons (pe_xt (pv 3)) pa_nil))) (pe_tup (pa_cons pe_str (pa_cons pe_str pa_nil))))))))), ?_⟩
    -- what is said of a caught error
    have num : ∀ (m : V) (dd : Addr) (H1 : Hp) (a : Addr), Same H H1 → H1 dd = some (.xd [("part", m)]) → H1 a = none → (∀ p H2, Same H H2 → H2 p = some (.tup [.str "number", m]) → Q (.ref p) H2) →
        tSeq (tIfS (tTest (tCB (rIsX K) (tCons (tVar 3) (tCons (tC (.ref T.c_BadNumber)) tNil)))) (tRet (tTup (tCons (tC (.str "number")) (tCons (tXt K (tVar 3) "part") tNil)))) tNext)
          (tRet (tIf (tTest (tCB (rIsX K) (tCons (tVar 3) (tCons (tC (.ref T.c_Misfit)) tNil)))) (tTup (tCons (tC (.str "misfit")) (tCons (tXt K (tVar 3) "part") tNil))) (tTup (tCons (tC (.str "other")) (tCons (tC (.str "")) tNil)))))
          { nx := fun _ H' => Q .non H', rt := Q } [some (.str w), some u, some v, some (.ref a), none] (upd H1 a (ExT (.ref T.c_BadNumber) (some dd) a)) := by
      intro m dd H1 a s1 hd ha q
      have da : dd ≠ a := fun z => by rw [z, ha] at hd; cases hd
      have hd2 : (upd H1 a (ExT (.ref T.c_BadNumber) (some dd) a)) dd = some (.xd [("part", m)]) := by rw [upd_ne da]; exact hd
      refine ⟨_, rfl, a, _, dd, _, .ref T.c_BadNumber, .ref T.c_BadNumber, true, rfl, .own _, upd_same, hd2, T.xk_BadNumber, T.ki_BadNumber_BadNumber, _, rfl, iteB (fun _ => ?_) fun z => nomatch z⟩
      exact ⟨_, rfl, a, _, dd, _, m, rfl, upd_same, hd2, T.xk_BadNumber, T.no_BadNumber_part, rfl, (by decide : 2 ≤ sizeLine), fun p hp => q p _ ((s1.trans (Same.new ha)).trans (Same.new hp)) upd_same⟩
    have mis : ∀ (m : V) (dd : Addr) (H1 : Hp) (a : Addr), Same H H1 → H1 dd = some (.xd [("part", m)]) → H1 a = none → (∀ p H2, Same H H2 → H2 p = some (.tup [.str "misfit", m]) → Q (.ref p) H2) →
        tSeq (tIfS (tTest (tCB (rIsX K) (tCons (tVar 3) (tCons (tC (.ref T.c_BadNumber)) tNil)))) (tRet (tTup (tCons (tC (.str "number")) (tCons (tXt K (tVar 3) "part") tNil)))) tNext)
          (tRet (tIf (tTest (tCB (rIsX K) (tCons (tVar 3) (tCons (tC (.ref T.c_Misfit)) tNil)))) (tTup (tCons (tC (.str "misfit")) (tCons (tXt K (tVar 3) "part") tNil))) (tTup (tCons (tC (.str "other")) (tCons (tC (.str "")) tNil)))))
          { nx := fun _ H' => Q .non H', rt := Q } [some (.str w), some u, some v, some (.ref a), none] (upd H1 a (ExT (.ref T.c_Misfit) (some dd) a)) := by
      intro m dd H1 a s1 hd ha q
      have da : dd ≠ a := fun z => by rw [z, ha] at hd; cases hd
      have hd2 : (upd H1 a (ExT (.ref T.c_Misfit) (some dd) a)) dd = some (.xd [("part", m)]) := by rw [upd_ne da]; exact hd
      refine ⟨_, rfl, a, _, dd, _, .ref T.c_BadNumber, .ref T.c_BadNumber, false, rfl, .own _, upd_same, hd2, T.xk_Misfit, T.ki_Misfit_BadNumber, _, rfl, iteB (fun z => nomatch z) fun _ => ?_⟩
      refine ⟨_, rfl, a, _, dd, _, .ref T.c_Misfit, .ref T.c_Misfit, true, rfl, .own _, upd_same, hd2, T.xk_Misfit, T.ki_Misfit_Misfit, _, rfl, iteB (fun _ => ?_) fun z => nomatch z⟩
      exact ⟨_, rfl, a, _, dd, _, m, rfl, upd_same, hd2, T.xk_Misfit, T.no_Misfit_part, rfl, (by decide : 2 ≤ sizeLine), fun p hp => q p _ ((s1.trans (Same.new ha)).trans (Same.new hp)) upd_same⟩
    refine ⟨_, rfl, _, rfl, _, rfl, w, u, v, d, e, rfl, hw, hu, hv, nb, fun c dd H1 s1 hd hx => ?_, fun c c2 dd H1 s1 hd hx => ?_, fun c c2 cw cz dd H1 s1 hd hx => ?_, fun c1 c2 x r H1 s1 n1 hr => k c1 c2 x r H1 s1 n1.is hr⟩
    · exact ⟨true, T.em_BadNumber_CurveError, fun _ a ha => num _ dd H1 a s1 hx ha fun p H2 s2 hp => k1 c _ H2 s2 (.tup hp (.cons (.str _) (.cons (.str _) .nil))), fun z => nomatch z⟩
    · exact ⟨true, T.em_BadNumber_CurveError, fun _ a ha => num _ dd H1 a s1 hx ha fun p H2 s2 hp => k2 c c2 _ H2 s2 (.tup hp (.cons (.str _) (.cons (.str _) .nil))), fun z => nomatch z⟩
    · exact ⟨true, T.em_Misfit_CurveError, fun _ a ha => mis _ dd H1 a s1 hx ha fun p H2 s2 hp => k c c2 _ _ H2 s2 (.tup hp (.cons (.str _) (.cons (.str _) .nil))) (.inr (.inr (.inr (.inr (.inr ⟨cw, cz, rfl⟩))))), fun z => nomatch z⟩
theorem ok_law_odd (T : Txt K mg) : FnOk P w K mg base CX0 3 T.a_law_odd T.d_law_odd ["jar", "number"] spOdd := by
  have G_law_ends := ok_law_ends (P := P) (w := w) (base := base) T
  have G_law_one := ok_law_one (P := P) (w := w) (base := base) T
  have G_law_pour := ok_law_pour (P := P) (w := w) (base := base) T
  refine T.F_law_odd.ok sc_law_odd (fun vs H Q E h => ?_) (fun cdv A outer s H vs Q E hr h => ?_)
  · obtain ⟨S, j, bk, n, v, d, rfl, _⟩ := h
    rfl
  · obtain ⟨S, j, bk, n, v, d, rfl, hS, lv, J, hn, hv, od, bd, k⟩ := h
    refine ⟨_, (pss_cons (ps_asg (pe_call G_law_ends (hr.mono (by decide)) (by rfl) T.m_law_ends T.F_law_ends.kp (b_law_ends T) .nil pass0 (pa_cons (pv 1) pa_nil)) (pg_tup rfl (pgs_cons (pg_name (i := 2) sc_law_odd.nd rfl (Or.inl rfl)) (pgs_cons (pg_name (i := 3) sc_law_odd.nd rfl (Or.inl rfl)) pgs_nil))))
      (pss_cons (ps_set (i := 4) sc_law_odd.nd rfl (Or.inl rfl) (pe_op op_add pe_int (pe_call G_law_pour (hr.mono (by decide)) (by rfl) T.m_law_pour T.F_law_pour.kp (b_law_pour T) .nil pass0 (pa_cons (pv 0) (pa_cons pe_int pa_nil)))))
      (pss_cons (ps_set (i := 5) sc_law_odd.nd rfl (Or.inl rfl) (pe_lst (pa_cons pe_non (pa_cons pe_bl (pa_cons pe_bl (pa_cons pe_str (pa_cons (pe_tup (pa_cons (pe_op op_mulW (pv 2) (pv 4)) (pa_cons (pe_op op_mulW (pv 3) (pv 4)) pa_nil))) (pa_cons (pe_tup (pa_cons (pv 2) (pa_cons pe_int pa_nil))) (pa_cons (pe_tup (pa_cons (pv 2) (pa_cons (pe_un un_neg (pv 3)) pa_nil))) (pa_cons (pe_tup (pa_cons (pv 2) (pa_cons pe_int pa_nil))) (pa_cons (pe_lst (pa_cons (pv 2) (pa_cons (pv 3) (pa_cons pe_int pa_nil)))) (pa_cons (pe_tup (pa_cons (pv 2) pa_nil)) pa_nil))))))))))))
      (pss_one (ps_ret (pe_call G_law_one (hr.mono (by decide)) (by rfl) T.m_law_one T.F_law_one.kp (b_law_one T) .nil pass0 (pa_cons (pv 0) (pa_cons (pe_op op_cat (pv 5) (pe_lst (pa_cons (pe_lst pa_nil) (pa_cons pe_dnewK (pa_cons (pe_tup (pa_cons pe_bl (pa_cons pe_int pa_nil))) (pa_cons (pe_tup (pa_cons pe_int (pa_cons pe_bl pa_nil))) (pa_cons (pe_tup (pa_cons (pe_tup (pa_cons (pv 2) (pa_cons (pv 3) pa_nil))) (pa_cons pe_int pa_nil))) (pa_cons pe_str (pa_cons (pe_tup (pa_cons pe_int (pa_cons pe_str pa_nil))) (pa_cons (pe_lst (pa_cons pe_non (pa_cons pe_int pa_nil))) pa_nil)))))))))) pa_nil)))))))), ?_⟩
    have nd := isOne_num od
    have q1 := (num_parts nd).1
    refine ⟨_, rfl, v, d, rfl, hv.up mn_same, nd, fun H1 p1 s1 hp1 => ⟨p1, _, rfl, .inl (.inl hp1), rfl, _, _, rfl, _, _, rfl, rfl, ?_⟩⟩
    have l1 := lv.more s1
    have J1 := J.up s1
    obtain ⟨ab, eab⟩ : ∃ ab, ab = above d := ⟨_, rfl⟩
    obtain ⟨un, eun⟩ : ∃ un, un = below d := ⟨_, rfl⟩
    have b1 := bd.1
    have b2 := bd.2
    rw [← eab] at b1 ⊢
    rw [← eun] at b2 q1 ⊢
    refine dr_asg (dr_op0 dr_cI (dr_reach rfl (by decide) (by decide))) l1 J1 (by omega) fun x f H2 k2 l2 J2 h2 p2 => ?_
    obtain ⟨t, rfl, a, b, rfl, ⟨b0, b1'⟩, et⟩ := p2
    cases h2
    have t2 : 2 ≤ t := by omega
    have ts : t.natAbs < 2 ^ 10 := by omega
    have m1 : CMulW ab t := wide_mul b1 ts (by decide) (by decide) (by decide)
    have m2 : CMulW un t := wide_mul b2 ts (by decide) (by decide) (by decide)
    refine dr_asg (dr_lstE (drA_consE hS dr_non (drA_consE hS dr_bl (drA_consE hS dr_bl (drA_consE hS dr_str (drA_consE hS (dr_tupE (drA_consE hS (dr_opE (dr_varI rfl) (dr_varI rfl) (by assumption)) (drA_consE hS (dr_opE (dr_varI rfl) (dr_varI rfl) (by assumption)) drA_nil)) (by show 2 ≤ 1000; decide)) (drA_consE hS (dr_tupE (drA_consE hS (dr_varI rfl) (drA_consE hS dr_int drA_nil)) (by show 2 ≤ 1000; decide)) (drA_consE hS (dr_tupE (drA_consE hS (dr_varI rfl) (drA_consE hS (dr_negE (dr_varI rfl)) drA_nil)) (by show 2 ≤ 1000; decide)) (drA_consE hS (dr_tupE (drA_consE hS (dr_varI rfl) (drA_consE hS dr_int drA_nil)) (by show 2 ≤ 1000; decide)) (drA_consE hS (dr_lstE (drA_consE hS (dr_varI rfl) (drA_consE hS (dr_varI rfl) (drA_consE hS dr_int drA_nil))) (by show 3 ≤ 1000; decide)) (drA_consE hS (dr_tupE (drA_consE hS (dr_varI rfl) drA_nil) (by show 1 ≤ 1000; decide)) drA_nil)))))))))) (by show 10 ≤ 1000; decide)) l2 J2 (by omega) fun x f H3 k3 l3 J3 h3 p3 => ?_
    subst p3
    refine dr_ret (dr_pickV hS rfl ((dr_cat hS (dr_var hS rfl h3) (dr_lstE (drA_consE hS (dr_lstE drA_nil (by show 0 ≤ 1000; decide)) (drA_consE hS dr_dict (drA_consE hS (dr_tupE (drA_consE hS dr_bl (drA_consE hS dr_int drA_nil)) (by show 2 ≤ 1000; decide)) (drA_consE hS (dr_tupE (drA_consE hS dr_int (drA_consE hS dr_bl drA_nil)) (by show 2 ≤ 1000; decide)) (drA_consE hS (dr_tupE (drA_consE hS (dr_tupE (drA_consE hS (dr_varI rfl) (drA_consE hS (dr_varI rfl) drA_nil)) (by show 2 ≤ 1000; decide)) (drA_consE hS dr_int drA_nil)) (by show 2 ≤ 1000; decide)) (drA_consE hS dr_str (drA_consE hS (dr_tupE (drA_consE hS dr_int (drA_consE hS dr_str drA_nil)) (by show 2 ≤ 1000; decide)) (drA_consE hS (dr_lstE (drA_consE hS dr_non (drA_consE hS dr_int drA_nil)) (by show 2 ≤ 1000; decide)) drA_nil)))))))) (by show 8 ≤ 1000; decide)) (by show 18 ≤ 1000; decide)).imp (P1 := fun e => ∃ ds, e = .lst ds ∧ ds = _) fun e he => ⟨_, he, rfl⟩) (fun ds e => by rw [e]; exact ⟨by show 0 < 18; decide, by show 18 ≤ 1000; decide⟩)) l3 J3 (by omega) fun x f H4 k4 l4 J4 h4 p4 => ?_
    obtain ⟨ds, rfl, hm⟩ := p4
    refine k x f H4 (((Same.keep s1).trans k2).trans (k3.trans k4)) l4 (J4.le (by omega)) h4 ?_
    simp only [List.cons_append, List.nil_append, List.mem_cons, List.not_mem_nil, or_false] at hm
    rcases hm with rfl | rfl | rfl | rfl | rfl | rfl | rfl | rfl | rfl | rfl | rfl | rfl | rfl | rfl | rfl | rfl | rfl | rfl
    all_goals first
      | rfl
      | exact pair_not t2
      | exact low_not (by omega)
      | exact low_not (by decide)
      | decide
end
end Ty

namespace Ty
open PySem PySem.Spec PyProof.Rows L2
section
variable {P : Program} {w : World} {K : PySem.W.Frag} {mg : Str → Option Value} {base : Heap}
theorem ok_law_pair_right (T : Txt K mg) : FnG P w K mg base CX0 9 T.a_law_pair_right T.d_law_pair_right ["jar", "one", "other"] spRight2 := by
  have G_law_told := ok_law_told (P := P) (w := w) (base := base) T
  have G_law_ends := ok_law_ends (P := P) (w := w) (base := base) T
  have G_sign_of := ok_sign_of (P := P) (w := w) (base := base) T
  have G_law_heard := ok_law_heard (P := P) (w := w) (base := base) T
  have G_law_due := ok_law_due (P := P) (w := w) (base := base) T
  refine Ty.Fun.okG T.F_law_pair_right sc_law_pair_right (fun vs H Q E h => ?_) (fun cdv A outer s H vs Q E hgd hr h => ?_)
  · obtain ⟨S, j, bk, n, u, v, d, e, rfl, _⟩ := h
    rfl
  · obtain ⟨S, j, bk, n, u, v, d, e, rfl, hS, lv, J, hn, hu, hv, od, oe, bd, be, k⟩ := h
    refine ⟨_, (pss_cons (ps_par (i := 3) (j := 4) rfl sc_law_pair_right.nd rfl rfl (by decide) rfl rfl (pa_cons (pe_call G_law_told (hr.mono (by decide)) (by rfl) T.m_law_told T.F_law_told.kp (b_law_told T) .nil pass0 (pa_cons (pv 0) (pa_cons (pv 1) pa_nil))) (pa_cons (pe_call G_law_told (hr.mono (by decide)) (by rfl) T.m_law_told T.F_law_told.kp (b_law_told T) .nil pass0 (pa_cons (pv 0) (pa_cons (pv 2) pa_nil))) pa_nil)) (by rfl))
      (pss_cons (ps_set (i := 5) sc_law_pair_right.nd rfl (Or.inl rfl) (pe_callB (call_reprD hr.units hgd) (by rfl) T.z_repr (by decide +kernel) (pa_cons (pe_lst (pa_cons (pv 3) (pa_cons (pv 4) pa_nil))) pa_nil)))
      (pss_cons (ps_for PassesOwn.never rfl (pi_tup (pe_tup (pa_cons pe_str (pa_cons pe_str (pa_cons pe_str (pa_cons pe_str (pa_cons pe_str pa_nil))))))) (pg_name (i := 6) sc_law_pair_right.nd rfl (Or.inl rfl)) (pss_one (ps_if (pt_cmpR op_ne (pe_callB (call_reprD hr.units hgd) (by rfl) T.z_repr (by decide +kernel) (pa_cons (pe_call G_law_heard (hr.mono (by decide)) (by rfl) T.m_law_heard T.F_law_heard.kp (b_law_heard T) .nil pass0 (pa_cons (pv 6) (pa_cons (pv 3) (pa_cons (pv 4) pa_nil)))) pa_nil)) (pe_callB (call_reprD hr.units hgd) (by rfl) T.z_repr (by decide +kernel) (pa_cons (pe_call G_law_due (hr.mono (by decide)) (by rfl) T.m_law_due T.F_law_due.kp (b_law_due T) .nil pass0 (pa_cons (pv 6) (pa_cons (pv 1) (pa_cons (pv 2) pa_nil)))) pa_nil)) (nomark _)) (pss_one (ps_ret pe_bl)) pss_nil)))
      (pss_cons (ps_set (i := 7) sc_law_pair_right.nd rfl (Or.inl rfl) (pe_ix ix_tup (pe_call G_law_ends (hr.mono (by decide)) (by rfl) T.m_law_ends T.F_law_ends.kp (b_law_ends T) .nil pass0 (pa_cons (pv 1) pa_nil)) pe_int (fun _ _ => rfl)))
      (pss_cons (ps_if (pt_cmpR op_ne (pe_callB (call_reprD hr.units hgd) (by rfl) T.z_repr (by decide +kernel) (pa_cons (pe_callN0 G_sign_of (hr.mono (by decide)) (by rfl) T.m_sign_of T.F_sign_of.kp (kb_sign_of_0_number T) passL (pk_cons (pv 3) pk_nil)) pa_nil)) (pe_callB (call_reprD hr.units hgd) (by rfl) T.z_repr (by decide +kernel) (pa_cons (pe_op op_sub (pe_callTy call_int1 (by rfl) T.z_int (by decide +kernel) (pa_cons (pe_cmpR op_gt (pv 7) pe_int (nomark _)) pa_nil)) (pe_callTy call_int1 (by rfl) T.z_int (by decide +kernel) (pa_cons (pe_cmpR op_lt (pv 7) pe_int (nomark _)) pa_nil))) pa_nil)) (nomark _)) (pss_one (ps_ret pe_bl)) pss_nil)
      (pss_one (ps_ret (pe_cmpR op_eq (pe_callB (call_reprD hr.units hgd) (by rfl) T.z_repr (by decide +kernel) (pa_cons (pe_lst (pa_cons (pv 3) (pa_cons (pv 4) pa_nil))) pa_nil)) (pv 5) (nomark _))))))))), ?_⟩
    have nd := isOne_num od
    have ne := isOne_num oe
    refine dr_par hS (dr_told hS rfl rfl hu od) (dr_told hS rfl rfl hv oe) lv J (by omega) fun mine f its g H1 k1 l1 J1 hm pf hi pg => ?_
    obtain ⟨nf, fa, fb⟩ := pf
    obtain ⟨ng, ga, gb⟩ := pg
    have bf : NB 140 f := ⟨by rw [fa]; exact bd.1, by rw [fb]; exact bd.2⟩
    have bg : NB 140 g := ⟨by rw [ga]; exact be.1, by rw [gb]; exact be.2⟩
    have noF : ∀ {P : Prop}, isNum f = false → P := fun z => by rw [nf] at z; cases z
    have noG : ∀ {P : Prop}, isNum g = false → P := fun z => by rw [ng] at z; cases z
    have big : ∀ {x : Da}, NB 140 x → NB bitsN x := fun h => h.more (by decide)
    have ok2 := (num_okr2 nf (bf.more (by decide)) ng (bg.more (by decide))).1
    have hm1 := hm.up mn_same
    have hi1 := hi.up mn_same
    have hu1 := (hu.up (k1.less hS)).up mn_same
    have hv1 := (hv.up (k1.less hS)).up mn_same
    refine ⟨_, rfl, _, rfl, (by decide : 2 ≤ sizeLine), fun l hl => ⟨.ref l, .lst [f, g], rfl, .lst upd_same (.cons (hm1.up (Same.new hl)) (.cons (hi1.up (Same.new hl)) .nil)), ok2, ?_⟩⟩
    obtain ⟨B, eB⟩ : ∃ B, B = (pd (.lst [f, g])).shown := ⟨_, rfl⟩
    rw [← eB]
    have s2 : Same H1 (upd H1 l (.lst [mine, its])) := Same.new hl
    generalize upd H1 l (.lst [mine, its]) = H2 at s2 ⊢
    refine ⟨(by decide : 5 ≤ sizeLine), fun t ht => ⟨t, rfl, ⟨_, .inl (.inl upd_same)⟩, for_tup (K := K) (a := t) (xs := W5v) (fun i σ H' => Same (upd H2 t (.tup W5v)) H' ∧ ∃ s6, σ = [some (.ref j), some u, some v, some mine, some its, some (.str B), s6, none]) ⟨Same.refl _, none, rfl⟩ (fun i σ H' _ p => Evl.ex_t p.1 (.inl (.inl upd_same))) ?_ ?_⟩⟩
    · rintro i x σ H' hx ⟨s3, s6, rfl⟩
      obtain ⟨w, rfl, hw⟩ := W5_at hx
      have s4 : Same H1 H' := (s2.trans (Same.new ht)).trans s3
      refine ⟨_, rfl, _, rfl, _, rfl, w, mine, its, f, g, rfl, hw, hm1.up s4, hi1.up s4, fun _ _ => ⟨big bf, big bg⟩, fun z => noF z, fun _ z => noG z, fun _ _ y r H5 s5 hy hr => ?_⟩
      have okr1 := hr.okr (n := 140) (by decide) bf.1 bf.2 bg.1 bg.2
      refine ⟨y, r, rfl, hy, okr1, ?_⟩
      refine ⟨_, rfl, _, rfl, _, rfl, w, u, v, d, e, rfl, hw, hu1.up (s4.trans s5), hv1.up (s4.trans s5), nd, ne, big bd, big be, fun y' r' H6 s7 hy' hr' => ?_⟩
      rw [fa, fb, ga, gb] at hr
      have er := hr.uniq hr'
      subst er
      exact ⟨y', r, rfl, hy', okr1, rfl, _, rfl, iteE (fun z => absurd rfl z) fun _ => ⟨(s3.trans s5).trans s7, _, rfl⟩⟩
    · rintro σ H' ⟨s3, s6, rfl⟩
      have s4 : Same H1 H' := (s2.trans (Same.new ht)).trans s3
      refine ⟨_, rfl, u, d, rfl, hu1.up s4, nd, fun H5 p5 s5 hp5 => ⟨p5, _, 0, .int (above d), rfl, rfl, .inl (.inl hp5), rfl, ?_⟩⟩
      refine ⟨_, rfl, rfl, rfl, mine, f, rfl, hm1.up (s4.trans s5), fun _ => big bf, fun z => noF z, fun _ x r H6 s7 n6 l6 => ?_⟩
      cases l6
      have oks : okr (.int (sgn (above f))) = true := by
        unfold sgn
        cases decide (0 < above f) <;> cases decide (above f < 0) <;> decide +kernel
      refine ⟨x, _, rfl, n6.is, oks, ?_⟩
      refine ⟨_, rfl, _, _, rfl, rfl, .inr ⟨_, rfl, _, rfl, _, _, rfl, rfl, .inr ⟨_, rfl, _, _, rfl, rfl, ⟨.int _, .int (sgn (above f)), rfl, ?_, oks, rfl, _, rfl, iteE (fun z => absurd rfl z) fun _ => ?_⟩⟩⟩⟩
      · rw [fa]
        exact .int _
      have s8 : Same H1 H6 := (s4.trans s5).trans s7
      refine ⟨_, rfl, _, rfl, (by decide : 2 ≤ sizeLine), fun l2 hl2 => ⟨.ref l2, .lst [f, g], rfl, .lst upd_same (.cons ((hm1.up s8).up (Same.new hl2)) (.cons ((hi1.up s8).up (Same.new hl2)) .nil)), ok2, _, rfl, rfl, ?_⟩⟩
      rw [← eB, show decide (V.str B = V.str B) = true from decide_eq_true rfl]
      have s9 := s8.trans (Same.new hl2 (o := .lst [mine, its]))
      exact k _ (k1.trans (Same.keep s9)) (l1.more s9) (J1.up s9)
theorem ok_law_refused_right (T : Txt K mg) : FnOk P w K mg base CX0 9 T.a_law_refused_right T.d_law_refused_right ["jar", "number"] spRight1 := by
  have G_law_odd := ok_law_odd (P := P) (w := w) (base := base) T
  have G_sign_of := ok_sign_of (P := P) (w := w) (base := base) T
  have G_law_heard := ok_law_heard (P := P) (w := w) (base := base) T
  refine T.F_law_refused_right.ok sc_law_refused_right (fun vs H Q E h => ?_) (fun cdv A outer s H vs Q E hr h => ?_)
  · obtain ⟨S, j, bk, n, u, d, rfl, _⟩ := h
    rfl
  · obtain ⟨S, j, bk, n, u, d, rfl, hS, lv, J, hn, hu, od, bd, k⟩ := h
    refine ⟨_, (pss_cons (ps_par (i := 2) (j := 3) rfl sc_law_refused_right.nd rfl rfl (by decide) rfl rfl (pa_cons (pe_call G_law_odd (hr.mono (by decide)) (by rfl) T.m_law_odd T.F_law_odd.kp (b_law_odd T) .nil pass0 (pa_cons (pv 0) (pa_cons (pv 1) pa_nil))) (pa_cons (pe_call G_law_odd (hr.mono (by decide)) (by rfl) T.m_law_odd T.F_law_odd.kp (b_law_odd T) .nil pass0 (pa_cons (pv 0) (pa_cons (pv 1) pa_nil))) pa_nil)) (by rfl))
      (pss_cons (ps_for PassesOwn.never rfl (pi_tup (pe_tup (pa_cons pe_str (pa_cons pe_str (pa_cons pe_str (pa_cons pe_str (pa_cons pe_str pa_nil))))))) (pg_name (i := 4) sc_law_refused_right.nd rfl (Or.inl rfl)) (pss_cons (ps_if (PW.pt (pw_or (pt_cmpR (op_neD hr.units) (pe_call G_law_heard (hr.mono (by decide)) (by rfl) T.m_law_heard T.F_law_heard.kp (b_law_heard T) .nil pass0 (pa_cons (pv 4) (pa_cons (pv 2) (pa_cons (pv 3) pa_nil)))) (pe_tup (pa_cons pe_str (pa_cons pe_str pa_nil))) (nomark _)) (pw_or1 (pt_cmpR (op_neD hr.units) (pe_call G_law_heard (hr.mono (by decide)) (by rfl) T.m_law_heard T.F_law_heard.kp (b_law_heard T) .nil pass0 (pa_cons (pv 4) (pa_cons (pv 2) (pa_cons (pv 1) pa_nil)))) (pe_tup (pa_cons pe_str (pa_cons pe_str pa_nil))) (nomark _))))) (pss_one (ps_ret pe_bl)) pss_nil)
      (pss_one (ps_if (pt_cmpR (op_neD hr.units) (pe_call G_law_heard (hr.mono (by decide)) (by rfl) T.m_law_heard T.F_law_heard.kp (b_law_heard T) .nil pass0 (pa_cons (pv 4) (pa_cons (pv 1) (pa_cons (pv 3) pa_nil)))) (pe_tup (pa_cons pe_str (pa_cons pe_str pa_nil))) (nomark _)) (pss_one (ps_ret pe_bl)) pss_nil))))
      (pss_cons (ps_set (i := 5) sc_law_refused_right.nd rfl (Or.inl rfl) pe_non)
      (pss_cons (ps_try_keep (i := 6) (l := 5) (c := .ref T.c_CurveError) rfl rfl rfl rfl sc_law_refused_right.nd rfl rfl ⟨rfl, by decide, .inl T.m_CurveError⟩ takes0 (fun W pn xe tk _ => (pss_one (ps_expr (pe_callS G_sign_of (hr.mono (by decide)) (by rfl) T.m_sign_of T.F_sign_of.kp (b_sign_of T) (fun σ => passAt tk σ) (pa_cons (pv 2) pa_nil))))) (fun a oe cls d pn hz hf => pss_one (ps_set (i := 5) sc_law_refused_right.nd rfl (Or.inl rfl) (pv 6))))
      (pss_one (ps_ret (pe_and (pe_callB call_isX (by rfl) T.z_isinstance (by decide +kernel) (pa_cons (pv 5) (pa_cons (pe_glob (v := .ref T.c_BadNumber) (by rfl) T.m_BadNumber rfl) pa_nil))) (pe_one (pe_cmpR op_eq (pe_xt (pv 5)) pe_str (nomark _)))))))))), ?_⟩
    have nd := isOne_num od
    refine dr_par hS (dr_odd hS rfl rfl hu od bd) (dr_odd hS rfl rfl hu od bd) lv J (by omega) fun x f y g H1 k1 l1 J1 hx nf hy ng => ?_
    have hx1 := hx.up mn_same
    have hy1 := hy.up mn_same
    have hu1 := (hu.up (k1.less hS)).up mn_same
    have no : ∀ {P : Prop}, isNum f = true → P := fun z => by rw [nf] at z; cases z
    have no2 : ∀ {P : Prop}, isNum g = true → P := fun z => by rw [ng] at z; cases z
    have yes : ∀ {P : Prop}, isNum d = false → P := fun z => by rw [nd] at z; cases z
    refine ⟨(by decide : 5 ≤ sizeLine), fun t ht => ⟨t, rfl, ⟨_, .inl (.inl upd_same)⟩, for_tup (K := K) (a := t) (xs := W5v) (fun i σ H' => Same (upd H1 t (.tup W5v)) H' ∧ ∃ s4, σ = [some (.ref j), some u, some x, some y, s4, none, none]) ⟨Same.refl _, none, rfl⟩ (fun i σ H' _ p => Evl.ex_t p.1 (.inl (.inl upd_same))) ?_ ?_⟩⟩
    · rintro i z σ H' hz ⟨s3, s4', rfl⟩
      obtain ⟨w, rfl, hw⟩ := W5_at hz
      have s4 : Same H1 H' := (Same.new ht).trans s3
      refine ⟨_, rfl, _, rfl, _, rfl, w, x, y, f, g, rfl, hw, hx1.up s4, hy1.up s4, fun z _ => no z, fun _ a H5 s5 ha => ?_, fun z => no z, fun z => no z⟩
      refine ⟨(by decide : 2 ≤ sizeLine), fun p hp => ⟨.tuple [.str "number", .str "one"], .tuple [.str "number", .str "one"], Is.dp (.tup [.str "number", .str "one"]) _ (ha.up (Same.new hp)) rfl, Is.dp (.tup [.str "number", .str "one"]) _ (.tup upd_same (.cons (.str _) (.cons (.str _) .nil))) rfl, by decide +kernel, by decide +kernel, _, rfl, iteB (fun z => absurd z (by decide +kernel)) fun _ => ?_⟩⟩
      have s6 : Same H1 (upd H5 p (.tup [.str "number", .str "one"])) := (s4.trans s5).trans (Same.new hp)
      have s6' : Same (upd H1 t (.tup W5v)) (upd H5 p (.tup [.str "number", .str "one"])) := (s3.trans s5).trans (Same.new hp)
      generalize upd H5 p (.tup [.str "number", .str "one"]) = H6 at s6 s6' ⊢
      refine ⟨_, rfl, _, rfl, _, rfl, w, x, u, f, d, rfl, hw, hx1.up s6, hu1.up s6, fun z _ => no z, fun _ a H7 s7 ha => ?_, fun z => no z, fun z => no z⟩
      refine ⟨(by decide : 2 ≤ sizeLine), fun p hp => ⟨.tuple [.str "number", .str "one"], .tuple [.str "number", .str "one"], Is.dp (.tup [.str "number", .str "one"]) _ (ha.up (Same.new hp)) rfl, Is.dp (.tup [.str "number", .str "one"]) _ (.tup upd_same (.cons (.str _) (.cons (.str _) .nil))) rfl, by decide +kernel, by decide +kernel, _, rfl, iteB (fun z => absurd z (by decide +kernel)) fun _ => ?_⟩⟩
      have s8 : Same H1 (upd H7 p (.tup [.str "number", .str "one"])) := (s6.trans s7).trans (Same.new hp)
      have s8' : Same (upd H1 t (.tup W5v)) (upd H7 p (.tup [.str "number", .str "one"])) := (s6'.trans s7).trans (Same.new hp)
      generalize upd H7 p (.tup [.str "number", .str "one"]) = H8 at s8 s8' ⊢
      refine ⟨_, rfl, _, rfl, _, rfl, w, u, y, d, g, rfl, hw, hu1.up s8, hy1.up s8, fun _ z => no2 z, fun z => yes z, fun _ _ a H9 s9 ha => ?_, fun _ z => no2 z⟩
      exact ⟨(by decide : 2 ≤ sizeLine), fun p hp => ⟨.tuple [.str "number", .str "other"], .tuple [.str "number", .str "other"], Is.dp (.tup [.str "number", .str "other"]) _ (ha.up (Same.new hp)) rfl, Is.dp (.tup [.str "number", .str "other"]) _ (.tup upd_same (.cons (.str _) (.cons (.str _) .nil))) rfl, by decide +kernel, by decide +kernel, _, rfl, iteB (fun z => absurd z (by decide +kernel)) fun _ => ⟨(s8'.trans s9).trans (Same.new hp), _, rfl⟩⟩⟩
    · rintro σ H' ⟨s3, s4', rfl⟩
      have s4 : Same H1 H' := (Same.new ht).trans s3
      refine ⟨_, rfl, x, f, rfl, hx1.up s4, fun z => no z, fun _ dd H5 s5 hd hx => ?_, fun z => no z⟩
      refine ⟨true, T.em_BadNumber_CurveError, fun _ a ha => ?_, fun z => nomatch z⟩
      have da : dd ≠ a := fun z => by rw [z, ha] at hx; cases hx
      have hd2 : (upd H5 a (ExT (.ref T.c_BadNumber) (some dd) a)) dd = some (.xd [("part", .str "number")]) := by rw [upd_ne da]; exact hx
      refine ⟨_, rfl, a, _, dd, _, .ref T.c_BadNumber, .ref T.c_BadNumber, true, rfl, .own _, upd_same, hd2, T.xk_BadNumber, T.ki_BadNumber_BadNumber, _, rfl, iteB (fun _ => ?_) fun z => nomatch z⟩
      refine ⟨_, rfl, a, _, dd, _, _, rfl, upd_same, hd2, T.xk_BadNumber, T.no_BadNumber_part, rfl, rfl, ?_⟩
      rw [show decide (V.str "number" = V.str "number") = true from decide_eq_true rfl]
      have s9 := (s4.trans s5).trans (Same.new ha (o := ExT (.ref T.c_BadNumber) (some dd) a))
      exact k _ (k1.trans (Same.keep s9)) (l1.more s9) ((J1.le (by omega)).up s9)
theorem ok_law (T : Txt K mg) : FnG P w K mg base CX0 10 T.a_law T.d_law ["script"] (spLaw K) := by
  have G_law_jar := ok_law_jar (P := P) (w := w) (base := base) T
  have G_law_pair := ok_law_pair (P := P) (w := w) (base := base) T
  have G_law_pair_right := ok_law_pair_right (P := P) (w := w) (base := base) T
  have G_law_refused_right := ok_law_refused_right (P := P) (w := w) (base := base) T
  refine Ty.Fun.okG T.F_law sc_law (fun vs H Q E h => ?_) (fun cdv A outer s H vs Q E hgd hr h => ?_)
  · obtain ⟨a, ns, rfl, _⟩ := h
    rfl
  · obtain ⟨a, ns, rfl, hsq, hlen, k⟩ := h
    refine ⟨_, (pss_cons (ps_set (i := 1) sc_law.nd rfl (Or.inl rfl) (pe_call G_law_jar (hr.mono (by decide)) (by rfl) T.m_law_jar T.F_law_jar.kp (b_law_jar T) .nil pass0 (pa_cons (pv 0) pa_nil)))
      (pss_cons (ps_for PassesOwn.never rfl (pi_range1 (by rfl) T.z_range (pa_cons pe_int pa_nil)) (pg_name (i := 2) sc_law.nd rfl (Or.inl rfl)) (pss_cons (ps_asg (pe_call G_law_pair (hr.mono (by decide)) (by rfl) T.m_law_pair T.F_law_pair.kp (b_law_pair T) .nil pass0 (pa_cons (pv 1) pa_nil)) (pg_tup rfl (pgs_cons (pg_name (i := 3) sc_law.nd rfl (Or.inl rfl)) (pgs_cons (pg_name (i := 4) sc_law.nd rfl (Or.inl rfl)) pgs_nil))))
      (pss_cons (ps_if (pt_not (pt_val (pe_callG hgd G_law_pair_right (hr.mono (by decide)) (by rfl) T.m_law_pair_right T.F_law_pair_right.kp (b_law_pair_right T) .nil pass0 (pa_cons (pv 1) (pa_cons (pv 3) (pa_cons (pv 4) pa_nil)))))) (pss_one (ps_ret pe_bl)) pss_nil)
      (pss_one (ps_if (pt_not (pt_val (pe_call G_law_refused_right (hr.mono (by decide)) (by rfl) T.m_law_refused_right T.F_law_refused_right.kp (b_law_refused_right T) .nil pass0 (pa_cons (pv 1) (pa_cons (pv 4) pa_nil))))) (pss_one (ps_ret pe_bl)) pss_nil)))))
      (pss_one (ps_ret pe_bl)))), ?_⟩
    refine ⟨_, rfl, a, ns, rfl, hsq, by omega, fun j bk H1 s1 hj hb J1 => ?_⟩
    have hS : only j j = true := only_self
    refine ⟨5, rfl, by decide, by decide, for_range (n := 5) (fun i σ H' => Jar j bk H' (18 * i) ∧ ∃ s2 s3 s4 : Option V, σ = [some (.ref a), some (.ref j), s2, s3, s4]) ⟨J1, none, none, none, rfl⟩ ?_ ?_⟩
    · rintro i σ H2 hi ⟨J2, s2, s3, s4, rfl⟩
      refine ⟨_, rfl, only j, j, bk, 18 * i, rfl, hS, only_live J2, J2, by omega, fun p v u d e H3 k3 l3 J3 hp hv hu od oe bd be => ?_⟩
      refine ⟨p, _, rfl, .inl (.inl hp), rfl, _, _, rfl, _, _, rfl, rfl, ?_⟩
      refine ⟨_, rfl, _, rfl, _, rfl, only j, j, bk, 18 * i + 12, v, u, d, e, rfl, hS, l3, J3, by omega, hv, hu, od, oe, bd, be, fun H4 k4 l4 J4 => ⟨_, rfl, iteN (fun z => nomatch z) fun _ => ?_⟩⟩
      refine ⟨_, rfl, _, rfl, only j, j, bk, 18 * i + 12 + 2, u, e, rfl, hS, l4, J4, by omega, hu.up (k4.less hS), oe, be, fun H5 k5 l5 J5 => ⟨_, rfl, iteN (fun z => nomatch z) fun _ => ?_⟩⟩
      exact ⟨J5.le (by omega), _, _, _, rfl⟩
    · rintro σ H2 ⟨J2, s2, s3, s4, rfl⟩
      exact k H2
end
end Ty

namespace Ty
open PySem PySem.Spec PyProof.Rows L2
/-! what the top has written, and the end -/
theorem all_mk {l : PySem.W.OpenLaw} {w : World} {K : PySem.W.Frag} {h : Heap} {mg : Str → Option Value} {fa : Addr} (X : K.In h) (G : h.Ns mainGlobals mg) (hfa : mg "law" = some (.ref fa))
  {a_is_list : Addr} {oc_is_list kV_is_list dc_is_list pm_is_list cd_is_list ct_is_list : Value} {od_is_list an_is_list : Option Addr} {sl_is_list : Array (Option Value)}
  {a_is_integer : Addr} {oc_is_integer kV_is_integer dc_is_integer pm_is_integer cd_is_integer ct_is_integer : Value} {od_is_integer an_is_integer : Option Addr} {sl_is_integer : Array (Option Value)}
  {a_is_within : Addr} {oc_is_within kV_is_within dc_is_within pm_is_within cd_is_within ct_is_within : Value} {od_is_within an_is_within : Option Addr} {sl_is_within : Array (Option Value)}
  {a_is_number : Addr} {oc_is_number kV_is_number dc_is_number pm_is_number cd_is_number ct_is_number : Value} {od_is_number an_is_number : Option Addr} {sl_is_number : Array (Option Value)}
  {a_parts_of : Addr} {oc_parts_of kV_parts_of dc_parts_of pm_parts_of cd_parts_of ct_parts_of : Value} {od_parts_of an_parts_of : Option Addr} {sl_parts_of : Array (Option Value)}
  {a_number_of : Addr} {oc_number_of kV_number_of dc_number_of pm_number_of cd_number_of ct_number_of : Value} {od_number_of an_number_of : Option Addr} {sl_number_of : Array (Option Value)}
  {a_sum_of : Addr} {oc_sum_of kV_sum_of dc_sum_of pm_sum_of cd_sum_of ct_sum_of : Value} {od_sum_of an_sum_of : Option Addr} {sl_sum_of : Array (Option Value)}
  {a_negative_of : Addr} {oc_negative_of kV_negative_of dc_negative_of pm_negative_of cd_negative_of ct_negative_of : Value} {od_negative_of an_negative_of : Option Addr} {sl_negative_of : Array (Option Value)}
  {a_difference_of : Addr} {oc_difference_of kV_difference_of dc_difference_of pm_difference_of cd_difference_of ct_difference_of : Value} {od_difference_of an_difference_of : Option Addr} {sl_difference_of : Array (Option Value)}
  {a_product_of : Addr} {oc_product_of kV_product_of dc_product_of pm_product_of cd_product_of ct_product_of : Value} {od_product_of an_product_of : Option Addr} {sl_product_of : Array (Option Value)}
  {a_quotient_of : Addr} {oc_quotient_of kV_quotient_of dc_quotient_of pm_quotient_of cd_quotient_of ct_quotient_of : Value} {od_quotient_of an_quotient_of : Option Addr} {sl_quotient_of : Array (Option Value)}
  {a_sign_in : Addr} {oc_sign_in kV_sign_in dc_sign_in pm_sign_in cd_sign_in ct_sign_in : Value} {od_sign_in an_sign_in : Option Addr} {sl_sign_in : Array (Option Value)}
  {a_is_less : Addr} {oc_is_less kV_is_less dc_is_less pm_is_less cd_is_less ct_is_less : Value} {od_is_less an_is_less : Option Addr} {sl_is_less : Array (Option Value)}
  {a_need_number : Addr} {oc_need_number kV_need_number dc_need_number pm_need_number cd_need_number ct_need_number : Value} {od_need_number an_need_number : Option Addr} {sl_need_number : Array (Option Value)}
  {a_plus : Addr} {oc_plus kV_plus dc_plus pm_plus cd_plus ct_plus : Value} {od_plus an_plus : Option Addr} {sl_plus : Array (Option Value)}
  {a_minus : Addr} {oc_minus kV_minus dc_minus pm_minus cd_minus ct_minus : Value} {od_minus an_minus : Option Addr} {sl_minus : Array (Option Value)}
  {a_times : Addr} {oc_times kV_times dc_times pm_times cd_times ct_times : Value} {od_times an_times : Option Addr} {sl_times : Array (Option Value)}
  {a_quotient : Addr} {oc_quotient kV_quotient dc_quotient pm_quotient cd_quotient ct_quotient : Value} {od_quotient an_quotient : Option Addr} {sl_quotient : Array (Option Value)}
  {a_is_below : Addr} {oc_is_below kV_is_below dc_is_below pm_is_below cd_is_below ct_is_below : Value} {od_is_below an_is_below : Option Addr} {sl_is_below : Array (Option Value)}
  {a_sign_of : Addr} {oc_sign_of kV_sign_of dc_sign_of pm_sign_of cd_sign_of ct_sign_of : Value} {od_sign_of an_sign_of : Option Addr} {sl_sign_of : Array (Option Value)}
  {a_need_both : Addr} {oc_need_both kV_need_both dc_need_both pm_need_both cd_need_both ct_need_both : Value} {od_need_both an_need_both : Option Addr} {sl_need_both : Array (Option Value)}
  {a_law_jar : Addr} {oc_law_jar kV_law_jar dc_law_jar pm_law_jar cd_law_jar ct_law_jar : Value} {od_law_jar an_law_jar : Option Addr} {sl_law_jar : Array (Option Value)}
  {a_law_pour : Addr} {oc_law_pour kV_law_pour dc_law_pour pm_law_pour cd_law_pour ct_law_pour : Value} {od_law_pour an_law_pour : Option Addr} {sl_law_pour : Array (Option Value)}
  {a_law_one : Addr} {oc_law_one kV_law_one dc_law_one pm_law_one cd_law_one ct_law_one : Value} {od_law_one an_law_one : Option Addr} {sl_law_one : Array (Option Value)}
  {a_law_common : Addr} {oc_law_common kV_law_common dc_law_common pm_law_common cd_law_common ct_law_common : Value} {od_law_common an_law_common : Option Addr} {sl_law_common : Array (Option Value)}
  {a_law_lowest : Addr} {oc_law_lowest kV_law_lowest dc_law_lowest pm_law_lowest cd_law_lowest ct_law_lowest : Value} {od_law_lowest an_law_lowest : Option Addr} {sl_law_lowest : Array (Option Value)}
  {a_law_ends : Addr} {oc_law_ends kV_law_ends dc_law_ends pm_law_ends cd_law_ends ct_law_ends : Value} {od_law_ends an_law_ends : Option Addr} {sl_law_ends : Array (Option Value)}
  {a_law_number : Addr} {oc_law_number kV_law_number dc_law_number pm_law_number cd_law_number ct_law_number : Value} {od_law_number an_law_number : Option Addr} {sl_law_number : Array (Option Value)}
  {a_law_pair : Addr} {oc_law_pair kV_law_pair dc_law_pair pm_law_pair cd_law_pair ct_law_pair : Value} {od_law_pair an_law_pair : Option Addr} {sl_law_pair : Array (Option Value)}
  {a_law_told : Addr} {oc_law_told kV_law_told dc_law_told pm_law_told cd_law_told ct_law_told : Value} {od_law_told an_law_told : Option Addr} {sl_law_told : Array (Option Value)}
  {a_law_done : Addr} {oc_law_done kV_law_done dc_law_done pm_law_done cd_law_done ct_law_done : Value} {od_law_done an_law_done : Option Addr} {sl_law_done : Array (Option Value)}
  {a_law_due : Addr} {oc_law_due kV_law_due dc_law_due pm_law_due cd_law_due ct_law_due : Value} {od_law_due an_law_due : Option Addr} {sl_law_due : Array (Option Value)}
  {a_law_heard : Addr} {oc_law_heard kV_law_heard dc_law_heard pm_law_heard cd_law_heard ct_law_heard : Value} {od_law_heard an_law_heard : Option Addr} {sl_law_heard : Array (Option Value)}
  {a_law_odd : Addr} {oc_law_odd kV_law_odd dc_law_odd pm_law_odd cd_law_odd ct_law_odd : Value} {od_law_odd an_law_odd : Option Addr} {sl_law_odd : Array (Option Value)}
  {a_law_pair_right : Addr} {oc_law_pair_right kV_law_pair_right dc_law_pair_right pm_law_pair_right cd_law_pair_right ct_law_pair_right : Value} {od_law_pair_right an_law_pair_right : Option Addr} {sl_law_pair_right : Array (Option Value)}
  {a_law_refused_right : Addr} {oc_law_refused_right kV_law_refused_right dc_law_refused_right pm_law_refused_right cd_law_refused_right ct_law_refused_right : Value} {od_law_refused_right an_law_refused_right : Option Addr} {sl_law_refused_right : Array (Option Value)}
  {a_law : Addr} {oc_law kV_law dc_law pm_law cd_law ct_law : Value} {od_law an_law : Option Addr} {sl_law : Array (Option Value)}
  {c_CurveError : Addr}
  {c_BadNumber : Addr}
  {c_Misfit : Addr}
  {nm_BadNumber qn_BadNumber : Str} {NS_BadNumber i_BadNumber : Addr} {bs_BadNumber bm_BadNumber sb_BadNumber : List Value} {sn_BadNumber : List Str} {ab_BadNumber : Bool} {col_BadNumber : Option Bool} {dd_BadNumber : Option Addr} {k0_BadNumber k1_BadNumber k2_BadNumber k3_BadNumber k5_BadNumber : Option Value} {oc_iBadNumber kV_iBadNumber dc_iBadNumber pm_iBadNumber cd_iBadNumber ct_iBadNumber : Value} {od_iBadNumber an_iBadNumber : Option Addr} {sl_iBadNumber : Array (Option Value)}
  {nm_Misfit qn_Misfit : Str} {NS_Misfit i_Misfit : Addr} {bs_Misfit bm_Misfit sb_Misfit : List Value} {sn_Misfit : List Str} {ab_Misfit : Bool} {col_Misfit : Option Bool} {dd_Misfit : Option Addr} {k0_Misfit k1_Misfit k2_Misfit k3_Misfit k5_Misfit : Option Value} {oc_iMisfit kV_iMisfit dc_iMisfit pm_iMisfit cd_iMisfit ct_iMisfit : Value} {od_iMisfit an_iMisfit : Option Addr} {sl_iMisfit : Array (Option Value)}
  (n_is_list : PySem.W.nsIn K mainGlobals "is_list" = some (some (.ref a_is_list)))
  (l_is_list : K.lookup a_is_list = some ⟨oc_is_list, od_is_list, .func (PySem.W.fnOf "is_list" "is_list" (defArgs s_is_list) (defBody s_is_list) (defScope s_is_list) .none kV_is_list dc_is_list pm_is_list an_is_list cd_is_list ct_is_list), sl_is_list⟩)
  (c_is_list : PySem.W.codeIn K cd_is_list "is_list" = true)
  (k_is_list : PySem.W.keepIn K (.ref a_is_list) = true)
  (n_is_integer : PySem.W.nsIn K mainGlobals "is_integer" = some (some (.ref a_is_integer)))
  (l_is_integer : K.lookup a_is_integer = some ⟨oc_is_integer, od_is_integer, .func (PySem.W.fnOf "is_integer" "is_integer" (defArgs s_is_integer) (defBody s_is_integer) (defScope s_is_integer) .none kV_is_integer dc_is_integer pm_is_integer an_is_integer cd_is_integer ct_is_integer), sl_is_integer⟩)
  (c_is_integer : PySem.W.codeIn K cd_is_integer "is_integer" = true)
  (k_is_integer : PySem.W.keepIn K (.ref a_is_integer) = true)
  (n_is_within : PySem.W.nsIn K mainGlobals "is_within" = some (some (.ref a_is_within)))
  (l_is_within : K.lookup a_is_within = some ⟨oc_is_within, od_is_within, .func (PySem.W.fnOf "is_within" "is_within" (defArgs s_is_within) (defBody s_is_within) (defScope s_is_within) .none kV_is_within dc_is_within pm_is_within an_is_within cd_is_within ct_is_within), sl_is_within⟩)
  (c_is_within : PySem.W.codeIn K cd_is_within "is_within" = true)
  (k_is_within : PySem.W.keepIn K (.ref a_is_within) = true)
  (n_is_number : PySem.W.nsIn K mainGlobals "is_number" = some (some (.ref a_is_number)))
  (l_is_number : K.lookup a_is_number = some ⟨oc_is_number, od_is_number, .func (PySem.W.fnOf "is_number" "is_number" (defArgs s_is_number) (defBody s_is_number) (defScope s_is_number) .none kV_is_number dc_is_number pm_is_number an_is_number cd_is_number ct_is_number), sl_is_number⟩)
  (c_is_number : PySem.W.codeIn K cd_is_number "is_number" = true)
  (k_is_number : PySem.W.keepIn K (.ref a_is_number) = true)
  (n_parts_of : PySem.W.nsIn K mainGlobals "parts_of" = some (some (.ref a_parts_of)))
  (l_parts_of : K.lookup a_parts_of = some ⟨oc_parts_of, od_parts_of, .func (PySem.W.fnOf "parts_of" "parts_of" (defArgs s_parts_of) (defBody s_parts_of) (defScope s_parts_of) .none kV_parts_of dc_parts_of pm_parts_of an_parts_of cd_parts_of ct_parts_of), sl_parts_of⟩)
  (c_parts_of : PySem.W.codeIn K cd_parts_of "parts_of" = true)
  (k_parts_of : PySem.W.keepIn K (.ref a_parts_of) = true)
  (n_number_of : PySem.W.nsIn K mainGlobals "number_of" = some (some (.ref a_number_of)))
  (l_number_of : K.lookup a_number_of = some ⟨oc_number_of, od_number_of, .func (PySem.W.fnOf "number_of" "number_of" (defArgs s_number_of) (defBody s_number_of) (defScope s_number_of) .none kV_number_of dc_number_of pm_number_of an_number_of cd_number_of ct_number_of), sl_number_of⟩)
  (c_number_of : PySem.W.codeIn K cd_number_of "number_of" = true)
  (k_number_of : PySem.W.keepIn K (.ref a_number_of) = true)
  (n_sum_of : PySem.W.nsIn K mainGlobals "sum_of" = some (some (.ref a_sum_of)))
  (l_sum_of : K.lookup a_sum_of = some ⟨oc_sum_of, od_sum_of, .func (PySem.W.fnOf "sum_of" "sum_of" (defArgs s_sum_of) (defBody s_sum_of) (defScope s_sum_of) .none kV_sum_of dc_sum_of pm_sum_of an_sum_of cd_sum_of ct_sum_of), sl_sum_of⟩)
  (c_sum_of : PySem.W.codeIn K cd_sum_of "sum_of" = true)
  (k_sum_of : PySem.W.keepIn K (.ref a_sum_of) = true)
  (n_negative_of : PySem.W.nsIn K mainGlobals "negative_of" = some (some (.ref a_negative_of)))
  (l_negative_of : K.lookup a_negative_of = some ⟨oc_negative_of, od_negative_of, .func (PySem.W.fnOf "negative_of" "negative_of" (defArgs s_negative_of) (defBody s_negative_of) (defScope s_negative_of) .none kV_negative_of dc_negative_of pm_negative_of an_negative_of cd_negative_of ct_negative_of), sl_negative_of⟩)
  (c_negative_of : PySem.W.codeIn K cd_negative_of "negative_of" = true)
  (k_negative_of : PySem.W.keepIn K (.ref a_negative_of) = true)
  (n_difference_of : PySem.W.nsIn K mainGlobals "difference_of" = some (some (.ref a_difference_of)))
  (l_difference_of : K.lookup a_difference_of = some ⟨oc_difference_of, od_difference_of, .func (PySem.W.fnOf "difference_of" "difference_of" (defArgs s_difference_of) (defBody s_difference_of) (defScope s_difference_of) .none kV_difference_of dc_difference_of pm_difference_of an_difference_of cd_difference_of ct_difference_of), sl_difference_of⟩)
  (c_difference_of : PySem.W.codeIn K cd_difference_of "difference_of" = true)
  (k_difference_of : PySem.W.keepIn K (.ref a_difference_of) = true)
  (n_product_of : PySem.W.nsIn K mainGlobals "product_of" = some (some (.ref a_product_of)))
  (l_product_of : K.lookup a_product_of = some ⟨oc_product_of, od_product_of, .func (PySem.W.fnOf "product_of" "product_of" (defArgs s_product_of) (defBody s_product_of) (defScope s_product_of) .none kV_product_of dc_product_of pm_product_of an_product_of cd_product_of ct_product_of), sl_product_of⟩)
  (c_product_of : PySem.W.codeIn K cd_product_of "product_of" = true)
  (k_product_of : PySem.W.keepIn K (.ref a_product_of) = true)
  (n_quotient_of : PySem.W.nsIn K mainGlobals "quotient_of" = some (some (.ref a_quotient_of)))
  (l_quotient_of : K.lookup a_quotient_of = some ⟨oc_quotient_of, od_quotient_of, .func (PySem.W.fnOf "quotient_of" "quotient_of" (defArgs s_quotient_of) (defBody s_quotient_of) (defScope s_quotient_of) .none kV_quotient_of dc_quotient_of pm_quotient_of an_quotient_of cd_quotient_of ct_quotient_of), sl_quotient_of⟩)
  (c_quotient_of : PySem.W.codeIn K cd_quotient_of "quotient_of" = true)
  (k_quotient_of : PySem.W.keepIn K (.ref a_quotient_of) = true)
  (n_sign_in : PySem.W.nsIn K mainGlobals "sign_in" = some (some (.ref a_sign_in)))
  (l_sign_in : K.lookup a_sign_in = some ⟨oc_sign_in, od_sign_in, .func (PySem.W.fnOf "sign_in" "sign_in" (defArgs s_sign_in) (defBody s_sign_in) (defScope s_sign_in) .none kV_sign_in dc_sign_in pm_sign_in an_sign_in cd_sign_in ct_sign_in), sl_sign_in⟩)
  (c_sign_in : PySem.W.codeIn K cd_sign_in "sign_in" = true)
  (k_sign_in : PySem.W.keepIn K (.ref a_sign_in) = true)
  (n_is_less : PySem.W.nsIn K mainGlobals "is_less" = some (some (.ref a_is_less)))
  (l_is_less : K.lookup a_is_less = some ⟨oc_is_less, od_is_less, .func (PySem.W.fnOf "is_less" "is_less" (defArgs s_is_less) (defBody s_is_less) (defScope s_is_less) .none kV_is_less dc_is_less pm_is_less an_is_less cd_is_less ct_is_less), sl_is_less⟩)
  (c_is_less : PySem.W.codeIn K cd_is_less "is_less" = true)
  (k_is_less : PySem.W.keepIn K (.ref a_is_less) = true)
  (n_need_number : PySem.W.nsIn K mainGlobals "need_number" = some (some (.ref a_need_number)))
  (l_need_number : K.lookup a_need_number = some ⟨oc_need_number, od_need_number, .func (PySem.W.fnOf "need_number" "need_number" (defArgs s_need_number) (defBody s_need_number) (defScope s_need_number) .none kV_need_number dc_need_number pm_need_number an_need_number cd_need_number ct_need_number), sl_need_number⟩)
  (c_need_number : PySem.W.codeIn K cd_need_number "need_number" = true)
  (k_need_number : PySem.W.keepIn K (.ref a_need_number) = true)
  (n_plus : PySem.W.nsIn K mainGlobals "plus" = some (some (.ref a_plus)))
  (l_plus : K.lookup a_plus = some ⟨oc_plus, od_plus, .func (PySem.W.fnOf "plus" "plus" (defArgs s_plus) (defBody s_plus) (defScope s_plus) .none kV_plus dc_plus pm_plus an_plus cd_plus ct_plus), sl_plus⟩)
  (c_plus : PySem.W.codeIn K cd_plus "plus" = true)
  (k_plus : PySem.W.keepIn K (.ref a_plus) = true)
  (n_minus : PySem.W.nsIn K mainGlobals "minus" = some (some (.ref a_minus)))
  (l_minus : K.lookup a_minus = some ⟨oc_minus, od_minus, .func (PySem.W.fnOf "minus" "minus" (defArgs s_minus) (defBody s_minus) (defScope s_minus) .none kV_minus dc_minus pm_minus an_minus cd_minus ct_minus), sl_minus⟩)
  (c_minus : PySem.W.codeIn K cd_minus "minus" = true)
  (k_minus : PySem.W.keepIn K (.ref a_minus) = true)
  (n_times : PySem.W.nsIn K mainGlobals "times" = some (some (.ref a_times)))
  (l_times : K.lookup a_times = some ⟨oc_times, od_times, .func (PySem.W.fnOf "times" "times" (defArgs s_times) (defBody s_times) (defScope s_times) .none kV_times dc_times pm_times an_times cd_times ct_times), sl_times⟩)
  (c_times : PySem.W.codeIn K cd_times "times" = true)
  (k_times : PySem.W.keepIn K (.ref a_times) = true)
  (n_quotient : PySem.W.nsIn K mainGlobals "quotient" = some (some (.ref a_quotient)))
  (l_quotient : K.lookup a_quotient = some ⟨oc_quotient, od_quotient, .func (PySem.W.fnOf "quotient" "quotient" (defArgs s_quotient) (defBody s_quotient) (defScope s_quotient) .none kV_quotient dc_quotient pm_quotient an_quotient cd_quotient ct_quotient), sl_quotient⟩)
  (c_quotient : PySem.W.codeIn K cd_quotient "quotient" = true)
  (k_quotient : PySem.W.keepIn K (.ref a_quotient) = true)
  (n_is_below : PySem.W.nsIn K mainGlobals "is_below" = some (some (.ref a_is_below)))
  (l_is_below : K.lookup a_is_below = some ⟨oc_is_below, od_is_below, .func (PySem.W.fnOf "is_below" "is_below" (defArgs s_is_below) (defBody s_is_below) (defScope s_is_below) .none kV_is_below dc_is_below pm_is_below an_is_below cd_is_below ct_is_below), sl_is_below⟩)
  (c_is_below : PySem.W.codeIn K cd_is_below "is_below" = true)
  (k_is_below : PySem.W.keepIn K (.ref a_is_below) = true)
  (n_sign_of : PySem.W.nsIn K mainGlobals "sign_of" = some (some (.ref a_sign_of)))
  (l_sign_of : K.lookup a_sign_of = some ⟨oc_sign_of, od_sign_of, .func (PySem.W.fnOf "sign_of" "sign_of" (defArgs s_sign_of) (defBody s_sign_of) (defScope s_sign_of) .none kV_sign_of dc_sign_of pm_sign_of an_sign_of cd_sign_of ct_sign_of), sl_sign_of⟩)
  (c_sign_of : PySem.W.codeIn K cd_sign_of "sign_of" = true)
  (k_sign_of : PySem.W.keepIn K (.ref a_sign_of) = true)
  (n_need_both : PySem.W.nsIn K mainGlobals "_need_both" = some (some (.ref a_need_both)))
  (l_need_both : K.lookup a_need_both = some ⟨oc_need_both, od_need_both, .func (PySem.W.fnOf "_need_both" "_need_both" (defArgs s_need_both) (defBody s_need_both) (defScope s_need_both) .none kV_need_both dc_need_both pm_need_both an_need_both cd_need_both ct_need_both), sl_need_both⟩)
  (c_need_both : PySem.W.codeIn K cd_need_both "_need_both" = true)
  (k_need_both : PySem.W.keepIn K (.ref a_need_both) = true)
  (n_law_jar : PySem.W.nsIn K mainGlobals "_law_jar" = some (some (.ref a_law_jar)))
  (l_law_jar : K.lookup a_law_jar = some ⟨oc_law_jar, od_law_jar, .func (PySem.W.fnOf "_law_jar" "_law_jar" (defArgs s_law_jar) (defBody s_law_jar) (defScope s_law_jar) .none kV_law_jar dc_law_jar pm_law_jar an_law_jar cd_law_jar ct_law_jar), sl_law_jar⟩)
  (c_law_jar : PySem.W.codeIn K cd_law_jar "_law_jar" = true)
  (k_law_jar : PySem.W.keepIn K (.ref a_law_jar) = true)
  (n_law_pour : PySem.W.nsIn K mainGlobals "_law_pour" = some (some (.ref a_law_pour)))
  (l_law_pour : K.lookup a_law_pour = some ⟨oc_law_pour, od_law_pour, .func (PySem.W.fnOf "_law_pour" "_law_pour" (defArgs s_law_pour) (defBody s_law_pour) (defScope s_law_pour) .none kV_law_pour dc_law_pour pm_law_pour an_law_pour cd_law_pour ct_law_pour), sl_law_pour⟩)
  (c_law_pour : PySem.W.codeIn K cd_law_pour "_law_pour" = true)
  (k_law_pour : PySem.W.keepIn K (.ref a_law_pour) = true)
  (n_law_one : PySem.W.nsIn K mainGlobals "_law_one" = some (some (.ref a_law_one)))
  (l_law_one : K.lookup a_law_one = some ⟨oc_law_one, od_law_one, .func (PySem.W.fnOf "_law_one" "_law_one" (defArgs s_law_one) (defBody s_law_one) (defScope s_law_one) .none kV_law_one dc_law_one pm_law_one an_law_one cd_law_one ct_law_one), sl_law_one⟩)
  (c_law_one : PySem.W.codeIn K cd_law_one "_law_one" = true)
  (k_law_one : PySem.W.keepIn K (.ref a_law_one) = true)
  (n_law_common : PySem.W.nsIn K mainGlobals "_law_common" = some (some (.ref a_law_common)))
  (l_law_common : K.lookup a_law_common = some ⟨oc_law_common, od_law_common, .func (PySem.W.fnOf "_law_common" "_law_common" (defArgs s_law_common) (defBody s_law_common) (defScope s_law_common) .none kV_law_common dc_law_common pm_law_common an_law_common cd_law_common ct_law_common), sl_law_common⟩)
  (c_law_common : PySem.W.codeIn K cd_law_common "_law_common" = true)
  (k_law_common : PySem.W.keepIn K (.ref a_law_common) = true)
  (n_law_lowest : PySem.W.nsIn K mainGlobals "_law_lowest" = some (some (.ref a_law_lowest)))
  (l_law_lowest : K.lookup a_law_lowest = some ⟨oc_law_lowest, od_law_lowest, .func (PySem.W.fnOf "_law_lowest" "_law_lowest" (defArgs s_law_lowest) (defBody s_law_lowest) (defScope s_law_lowest) .none kV_law_lowest dc_law_lowest pm_law_lowest an_law_lowest cd_law_lowest ct_law_lowest), sl_law_lowest⟩)
  (c_law_lowest : PySem.W.codeIn K cd_law_lowest "_law_lowest" = true)
  (k_law_lowest : PySem.W.keepIn K (.ref a_law_lowest) = true)
  (n_law_ends : PySem.W.nsIn K mainGlobals "_law_ends" = some (some (.ref a_law_ends)))
  (l_law_ends : K.lookup a_law_ends = some ⟨oc_law_ends, od_law_ends, .func (PySem.W.fnOf "_law_ends" "_law_ends" (defArgs s_law_ends) (defBody s_law_ends) (defScope s_law_ends) .none kV_law_ends dc_law_ends pm_law_ends an_law_ends cd_law_ends ct_law_ends), sl_law_ends⟩)
  (c_law_ends : PySem.W.codeIn K cd_law_ends "_law_ends" = true)
  (k_law_ends : PySem.W.keepIn K (.ref a_law_ends) = true)
  (n_law_number : PySem.W.nsIn K mainGlobals "_law_number" = some (some (.ref a_law_number)))
  (l_law_number : K.lookup a_law_number = some ⟨oc_law_number, od_law_number, .func (PySem.W.fnOf "_law_number" "_law_number" (defArgs s_law_number) (defBody s_law_number) (defScope s_law_number) .none kV_law_number dc_law_number pm_law_number an_law_number cd_law_number ct_law_number), sl_law_number⟩)
  (c_law_number : PySem.W.codeIn K cd_law_number "_law_number" = true)
  (k_law_number : PySem.W.keepIn K (.ref a_law_number) = true)
  (n_law_pair : PySem.W.nsIn K mainGlobals "_law_pair" = some (some (.ref a_law_pair)))
  (l_law_pair : K.lookup a_law_pair = some ⟨oc_law_pair, od_law_pair, .func (PySem.W.fnOf "_law_pair" "_law_pair" (defArgs s_law_pair) (defBody s_law_pair) (defScope s_law_pair) .none kV_law_pair dc_law_pair pm_law_pair an_law_pair cd_law_pair ct_law_pair), sl_law_pair⟩)
  (c_law_pair : PySem.W.codeIn K cd_law_pair "_law_pair" = true)
  (k_law_pair : PySem.W.keepIn K (.ref a_law_pair) = true)
  (n_law_told : PySem.W.nsIn K mainGlobals "_law_told" = some (some (.ref a_law_told)))
  (l_law_told : K.lookup a_law_told = some ⟨oc_law_told, od_law_told, .func (PySem.W.fnOf "_law_told" "_law_told" (defArgs s_law_told) (defBody s_law_told) (defScope s_law_told) .none kV_law_told dc_law_told pm_law_told an_law_told cd_law_told ct_law_told), sl_law_told⟩)
  (c_law_told : PySem.W.codeIn K cd_law_told "_law_told" = true)
  (k_law_told : PySem.W.keepIn K (.ref a_law_told) = true)
  (n_law_done : PySem.W.nsIn K mainGlobals "_law_done" = some (some (.ref a_law_done)))
  (l_law_done : K.lookup a_law_done = some ⟨oc_law_done, od_law_done, .func (PySem.W.fnOf "_law_done" "_law_done" (defArgs s_law_done) (defBody s_law_done) (defScope s_law_done) .none kV_law_done dc_law_done pm_law_done an_law_done cd_law_done ct_law_done), sl_law_done⟩)
  (c_law_done : PySem.W.codeIn K cd_law_done "_law_done" = true)
  (k_law_done : PySem.W.keepIn K (.ref a_law_done) = true)
  (n_law_due : PySem.W.nsIn K mainGlobals "_law_due" = some (some (.ref a_law_due)))
  (l_law_due : K.lookup a_law_due = some ⟨oc_law_due, od_law_due, .func (PySem.W.fnOf "_law_due" "_law_due" (defArgs s_law_due) (defBody s_law_due) (defScope s_law_due) .none kV_law_due dc_law_due pm_law_due an_law_due cd_law_due ct_law_due), sl_law_due⟩)
  (c_law_due : PySem.W.codeIn K cd_law_due "_law_due" = true)
  (k_law_due : PySem.W.keepIn K (.ref a_law_due) = true)
  (n_law_heard : PySem.W.nsIn K mainGlobals "_law_heard" = some (some (.ref a_law_heard)))
  (l_law_heard : K.lookup a_law_heard = some ⟨oc_law_heard, od_law_heard, .func (PySem.W.fnOf "_law_heard" "_law_heard" (defArgs s_law_heard) (defBody s_law_heard) (defScope s_law_heard) .none kV_law_heard dc_law_heard pm_law_heard an_law_heard cd_law_heard ct_law_heard), sl_law_heard⟩)
  (c_law_heard : PySem.W.codeIn K cd_law_heard "_law_heard" = true)
  (k_law_heard : PySem.W.keepIn K (.ref a_law_heard) = true)
  (n_law_odd : PySem.W.nsIn K mainGlobals "_law_odd" = some (some (.ref a_law_odd)))
  (l_law_odd : K.lookup a_law_odd = some ⟨oc_law_odd, od_law_odd, .func (PySem.W.fnOf "_law_odd" "_law_odd" (defArgs s_law_odd) (defBody s_law_odd) (defScope s_law_odd) .none kV_law_odd dc_law_odd pm_law_odd an_law_odd cd_law_odd ct_law_odd), sl_law_odd⟩)
  (c_law_odd : PySem.W.codeIn K cd_law_odd "_law_odd" = true)
  (k_law_odd : PySem.W.keepIn K (.ref a_law_odd) = true)
  (n_law_pair_right : PySem.W.nsIn K mainGlobals "_law_pair_right" = some (some (.ref a_law_pair_right)))
  (l_law_pair_right : K.lookup a_law_pair_right = some ⟨oc_law_pair_right, od_law_pair_right, .func (PySem.W.fnOf "_law_pair_right" "_law_pair_right" (defArgs s_law_pair_right) (defBody s_law_pair_right) (defScope s_law_pair_right) .none kV_law_pair_right dc_law_pair_right pm_law_pair_right an_law_pair_right cd_law_pair_right ct_law_pair_right), sl_law_pair_right⟩)
  (c_law_pair_right : PySem.W.codeIn K cd_law_pair_right "_law_pair_right" = true)
  (k_law_pair_right : PySem.W.keepIn K (.ref a_law_pair_right) = true)
  (n_law_refused_right : PySem.W.nsIn K mainGlobals "_law_refused_right" = some (some (.ref a_law_refused_right)))
  (l_law_refused_right : K.lookup a_law_refused_right = some ⟨oc_law_refused_right, od_law_refused_right, .func (PySem.W.fnOf "_law_refused_right" "_law_refused_right" (defArgs s_law_refused_right) (defBody s_law_refused_right) (defScope s_law_refused_right) .none kV_law_refused_right dc_law_refused_right pm_law_refused_right an_law_refused_right cd_law_refused_right ct_law_refused_right), sl_law_refused_right⟩)
  (c_law_refused_right : PySem.W.codeIn K cd_law_refused_right "_law_refused_right" = true)
  (k_law_refused_right : PySem.W.keepIn K (.ref a_law_refused_right) = true)
  (n_law : PySem.W.nsIn K mainGlobals "law" = some (some (.ref a_law)))
  (l_law : K.lookup a_law = some ⟨oc_law, od_law, .func (PySem.W.fnOf "law" "law" (defArgs s_law) (defBody s_law) (defScope s_law) .none kV_law dc_law pm_law an_law cd_law ct_law), sl_law⟩)
  (c_law : PySem.W.codeIn K cd_law "law" = true)
  (k_law : PySem.W.keepIn K (.ref a_law) = true)
  (n_CurveError : PySem.W.nsIn K mainGlobals "CurveError" = some (some (.ref c_CurveError)))
  (n_BadNumber : PySem.W.nsIn K mainGlobals "BadNumber" = some (some (.ref c_BadNumber)))
  (n_Misfit : PySem.W.nsIn K mainGlobals "Misfit" = some (some (.ref c_Misfit)))
  (xL_BadNumber : K.lookup c_BadNumber = some (excClassObj nm_BadNumber qn_BadNumber c_BadNumber NS_BadNumber bs_BadNumber bm_BadNumber true sn_BadNumber sb_BadNumber ab_BadNumber col_BadNumber dd_BadNumber k0_BadNumber k1_BadNumber k2_BadNumber k3_BadNumber k5_BadNumber "ValueError.__new__"))
  (xr_BadNumber : PySem.HandSPX.refsVE bm_BadNumber = true)
  (sa_BadNumber : PySem.W.findIn K (.ref c_BadNumber) "__setattr__" = some (some (.builtin "object.__setattr__")))
  (ge_BadNumber : PySem.W.findIn K (.ref c_BadNumber) "__getattribute__" = some (some (.builtin "BaseException.__getattribute__")))
  (gg_BadNumber : PySem.W.findIn K (.ref c_BadNumber) "__getattr__" = some none)
  (fi_BadNumber : PySem.W.findIn K (.ref c_BadNumber) "__init__" = some (some (.ref i_BadNumber)))
  (ti_BadNumber : PySem.W.typeIn K (.ref i_BadNumber) = some (.type "function"))
  (kc_BadNumber : PySem.W.keepIn K (.ref c_BadNumber) = true)
  (ec_BadNumber : PySem.W.subIn K (.ref c_BadNumber) (.type "BaseException") = some true)
  (tc_BadNumber : PySem.W.typeIn K (.ref c_BadNumber) = some (.type "type"))
  (hd_BadNumber : PySem.W.hasDictIn K c_BadNumber = true)
  (ic_BadNumber : PySem.W.isClsIn K c_BadNumber = true)
  (kl_BadNumber : PySem.W.findIn K (.ref c_BadNumber) "__class__" = some (some (.builtin "object.__class__")))
  (mr_BadNumber : PySem.W.mroIn K c_BadNumber (.type "object") = some true)
  (li_BadNumber : K.lookup i_BadNumber = some ⟨oc_iBadNumber, od_iBadNumber, .func (PySem.W.fnOf "__init__" "BadNumber.__init__" (defArgs si_BadNumber) (defBody si_BadNumber) (defScope si_BadNumber) .none kV_iBadNumber dc_iBadNumber pm_iBadNumber an_iBadNumber cd_iBadNumber ct_iBadNumber), sl_iBadNumber⟩)
  (ci_BadNumber : PySem.W.codeIn K cd_iBadNumber "BadNumber.__init__" = true)
  (ki_BadNumber : PySem.W.keepIn K (.ref i_BadNumber) = true)
  (no_BadNumber_part : PySem.W.findIn K (.ref c_BadNumber) "part" = some none)
  (xL_Misfit : K.lookup c_Misfit = some (excClassObj nm_Misfit qn_Misfit c_Misfit NS_Misfit bs_Misfit bm_Misfit true sn_Misfit sb_Misfit ab_Misfit col_Misfit dd_Misfit k0_Misfit k1_Misfit k2_Misfit k3_Misfit k5_Misfit "ValueError.__new__"))
  (xr_Misfit : PySem.HandSPX.refsVE bm_Misfit = true)
  (sa_Misfit : PySem.W.findIn K (.ref c_Misfit) "__setattr__" = some (some (.builtin "object.__setattr__")))
  (ge_Misfit : PySem.W.findIn K (.ref c_Misfit) "__getattribute__" = some (some (.builtin "BaseException.__getattribute__")))
  (gg_Misfit : PySem.W.findIn K (.ref c_Misfit) "__getattr__" = some none)
  (fi_Misfit : PySem.W.findIn K (.ref c_Misfit) "__init__" = some (some (.ref i_Misfit)))
  (ti_Misfit : PySem.W.typeIn K (.ref i_Misfit) = some (.type "function"))
  (kc_Misfit : PySem.W.keepIn K (.ref c_Misfit) = true)
  (ec_Misfit : PySem.W.subIn K (.ref c_Misfit) (.type "BaseException") = some true)
  (tc_Misfit : PySem.W.typeIn K (.ref c_Misfit) = some (.type "type"))
  (hd_Misfit : PySem.W.hasDictIn K c_Misfit = true)
  (ic_Misfit : PySem.W.isClsIn K c_Misfit = true)
  (kl_Misfit : PySem.W.findIn K (.ref c_Misfit) "__class__" = some (some (.builtin "object.__class__")))
  (mr_Misfit : PySem.W.mroIn K c_Misfit (.type "object") = some true)
  (li_Misfit : K.lookup i_Misfit = some ⟨oc_iMisfit, od_iMisfit, .func (PySem.W.fnOf "__init__" "Misfit.__init__" (defArgs si_Misfit) (defBody si_Misfit) (defScope si_Misfit) .none kV_iMisfit dc_iMisfit pm_iMisfit an_iMisfit cd_iMisfit ct_iMisfit), sl_iMisfit⟩)
  (ci_Misfit : PySem.W.codeIn K cd_iMisfit "Misfit.__init__" = true)
  (ki_Misfit : PySem.W.keepIn K (.ref i_Misfit) = true)
  (no_Misfit_part : PySem.W.findIn K (.ref c_Misfit) "part" = some none)
  (hxs : PySem.W.specialIn K (.builtin "object.__class__") "__get__" = some (some (.builtin "getset_descriptor.__get__")))
  (hxt : PySem.W.takesIn K (.builtin "object.__class__") = some true)
  (ec_CurveError : PySem.W.subIn K (.ref c_CurveError) (.type "BaseException") = some true)
  (tc_CurveError : PySem.W.typeIn K (.ref c_CurveError) = some (.type "type"))
  (ic_CurveError : PySem.W.isClsIn K c_CurveError = true)
  (sb_BadNumber_CurveError : PySem.W.subIn K (.ref c_BadNumber) (.ref c_CurveError) = some true)
  (sb_BadNumber_BadNumber : PySem.W.subIn K (.ref c_BadNumber) (.ref c_BadNumber) = some true)
  (sb_BadNumber_Misfit : PySem.W.subIn K (.ref c_BadNumber) (.ref c_Misfit) = some false)
  (sb_Misfit_Misfit : PySem.W.subIn K (.ref c_Misfit) (.ref c_Misfit) = some true)
  (sb_Misfit_CurveError : PySem.W.subIn K (.ref c_Misfit) (.ref c_CurveError) = some true)
  (sb_Misfit_BadNumber : PySem.W.subIn K (.ref c_Misfit) (.ref c_BadNumber) = some false)
  (g_gcd : PySem.W.nsIn K mainGlobals "gcd" = some (some (.builtin "math.gcd")))
  (z_abs : PySem.W.nsIn K mainGlobals "abs" = some none)
  (z_bool : PySem.W.nsIn K mainGlobals "bool" = some none)
  (z_int : PySem.W.nsIn K mainGlobals "int" = some none)
  (z_isinstance : PySem.W.nsIn K mainGlobals "isinstance" = some none)
  (z_len : PySem.W.nsIn K mainGlobals "len" = some none)
  (z_list : PySem.W.nsIn K mainGlobals "list" = some none)
  (z_range : PySem.W.nsIn K mainGlobals "range" = some none)
  (z_repr : PySem.W.nsIn K mainGlobals "repr" = some none)
  (z_tuple : PySem.W.nsIn K mainGlobals "tuple" = some none) :
    ∃ fd : FuncData, (∀ (s : Shared) (v : Value), BindsTo s fd ⟨[v], []⟩ [("script", v)]) ∧ ∀ base : Heap, K.In base → base.Ns mainGlobals mg → FnG l.prog w K mg base CX0 10 fa fd ["script"] (spLaw K) := by
  have e := hfa.symm.trans (PySem.W.mg_of X G n_law)
  cases e
  exact ⟨PySem.W.fnOf "law" "law" (defArgs s_law) (defBody s_law) (defScope s_law) .none kV_law dc_law pm_law an_law cd_law ct_law, fun s v => .of_eq rfl, fun base _ _ => ok_law (base := base) (w := w) (P := l.prog) { a_is_list := a_is_list, d_is_list := _, m_is_list := PySem.W.mg_of X G n_is_list, F_is_list := fun_mk (st := s_is_list) l_is_list c_is_list k_is_list, a_is_integer := a_is_integer, d_is_integer := _, m_is_integer := PySem.W.mg_of X G n_is_integer, F_is_integer := fun_mk (st := s_is_integer) l_is_integer c_is_integer k_is_integer, a_is_within := a_is_within, d_is_within := _, m_is_within := PySem.W.mg_of X G n_is_within, F_is_within := fun_mk (st := s_is_within) l_is_within c_is_within k_is_within, a_is_number := a_is_number, d_is_number := _, m_is_number := PySem.W.mg_of X G n_is_number, F_is_number := fun_mk (st := s_is_number) l_is_number c_is_number k_is_number, a_parts_of := a_parts_of, d_parts_of := _, m_parts_of := PySem.W.mg_of X G n_parts_of, F_parts_of := fun_mk (st := s_parts_of) l_parts_of c_parts_of k_parts_of, a_number_of := a_number_of, d_number_of := _, m_number_of := PySem.W.mg_of X G n_number_of, F_number_of := fun_mk (st := s_number_of) l_number_of c_number_of k_number_of, a_sum_of := a_sum_of, d_sum_of := _, m_sum_of := PySem.W.mg_of X G n_sum_of, F_sum_of := fun_mk (st := s_sum_of) l_sum_of c_sum_of k_sum_of, a_negative_of := a_negative_of, d_negative_of := _, m_negative_of := PySem.W.mg_of X G n_negative_of, F_negative_of := fun_mk (st := s_negative_of) l_negative_of c_negative_of k_negative_of, a_difference_of := a_difference_of, d_difference_of := _, m_difference_of := PySem.W.mg_of X G n_difference_of, F_difference_of := fun_mk (st := s_difference_of) l_difference_of c_difference_of k_difference_of, a_product_of := a_product_of, d_product_of := _, m_product_of := PySem.W.mg_of X G n_product_of, F_product_of := fun_mk (st := s_product_of) l_product_of c_product_of k_product_of, a_quotient_of := a_quotient_of, d_quotient_of := _, m_quotient_of := PySem.W.mg_of X G n_quotient_of, F_quotient_of := fun_mk (st := s_quotient_of) l_quotient_of c_quotient_of k_quotient_of, a_sign_in := a_sign_in, d_sign_in := _, m_sign_in := PySem.W.mg_of X G n_sign_in, F_sign_in := fun_mk (st := s_sign_in) l_sign_in c_sign_in k_sign_in, a_is_less := a_is_less, d_is_less := _, m_is_less := PySem.W.mg_of X G n_is_less, F_is_less := fun_mk (st := s_is_less) l_is_less c_is_less k_is_less, a_need_number := a_need_number, d_need_number := _, m_need_number := PySem.W.mg_of X G n_need_number, F_need_number := fun_mk (st := s_need_number) l_need_number c_need_number k_need_number, a_plus := a_plus, d_plus := _, m_plus := PySem.W.mg_of X G n_plus, F_plus := fun_mk (st := s_plus) l_plus c_plus k_plus, a_minus := a_minus, d_minus := _, m_minus := PySem.W.mg_of X G n_minus, F_minus := fun_mk (st := s_minus) l_minus c_minus k_minus, a_times := a_times, d_times := _, m_times := PySem.W.mg_of X G n_times, F_times := fun_mk (st := s_times) l_times c_times k_times, a_quotient := a_quotient, d_quotient := _, m_quotient := PySem.W.mg_of X G n_quotient, F_quotient := fun_mk (st := s_quotient) l_quotient c_quotient k_quotient, a_is_below := a_is_below, d_is_below := _, m_is_below := PySem.W.mg_of X G n_is_below, F_is_below := fun_mk (st := s_is_below) l_is_below c_is_below k_is_below, a_sign_of := a_sign_of, d_sign_of := _, m_sign_of := PySem.W.mg_of X G n_sign_of, F_sign_of := fun_mk (st := s_sign_of) l_sign_of c_sign_of k_sign_of, a_need_both := a_need_both, d_need_both := _, m_need_both := PySem.W.mg_of X G n_need_both, F_need_both := fun_mk (st := s_need_both) l_need_both c_need_both k_need_both, a_law_jar := a_law_jar, d_law_jar := _, m_law_jar := PySem.W.mg_of X G n_law_jar, F_law_jar := fun_mk (st := s_law_jar) l_law_jar c_law_jar k_law_jar, a_law_pour := a_law_pour, d_law_pour := _, m_law_pour := PySem.W.mg_of X G n_law_pour, F_law_pour := fun_mk (st := s_law_pour) l_law_pour c_law_pour k_law_pour, a_law_one := a_law_one, d_law_one := _, m_law_one := PySem.W.mg_of X G n_law_one, F_law_one := fun_mk (st := s_law_one) l_law_one c_law_one k_law_one, a_law_common := a_law_common, d_law_common := _, m_law_common := PySem.W.mg_of X G n_law_common, F_law_common := fun_mk (st := s_law_common) l_law_common c_law_common k_law_common, a_law_lowest := a_law_lowest, d_law_lowest := _, m_law_lowest := PySem.W.mg_of X G n_law_lowest, F_law_lowest := fun_mk (st := s_law_lowest) l_law_lowest c_law_lowest k_law_lowest, a_law_ends := a_law_ends, d_law_ends := _, m_law_ends := PySem.W.mg_of X G n_law_ends, F_law_ends := fun_mk (st := s_law_ends) l_law_ends c_law_ends k_law_ends, a_law_number := a_law_number, d_law_number := _, m_law_number := PySem.W.mg_of X G n_law_number, F_law_number := fun_mk (st := s_law_number) l_law_number c_law_number k_law_number, a_law_pair := a_law_pair, d_law_pair := _, m_law_pair := PySem.W.mg_of X G n_law_pair, F_law_pair := fun_mk (st := s_law_pair) l_law_pair c_law_pair k_law_pair, a_law_told := a_law_told, d_law_told := _, m_law_told := PySem.W.mg_of X G n_law_told, F_law_told := fun_mk (st := s_law_told) l_law_told c_law_told k_law_told, a_law_done := a_law_done, d_law_done := _, m_law_done := PySem.W.mg_of X G n_law_done, F_law_done := fun_mk (st := s_law_done) l_law_done c_law_done k_law_done, a_law_due := a_law_due, d_law_due := _, m_law_due := PySem.W.mg_of X G n_law_due, F_law_due := fun_mk (st := s_law_due) l_law_due c_law_due k_law_due, a_law_heard := a_law_heard, d_law_heard := _, m_law_heard := PySem.W.mg_of X G n_law_heard, F_law_heard := fun_mk (st := s_law_heard) l_law_heard c_law_heard k_law_heard, a_law_odd := a_law_odd, d_law_odd := _, m_law_odd := PySem.W.mg_of X G n_law_odd, F_law_odd := fun_mk (st := s_law_odd) l_law_odd c_law_odd k_law_odd, a_law_pair_right := a_law_pair_right, d_law_pair_right := _, m_law_pair_right := PySem.W.mg_of X G n_law_pair_right, F_law_pair_right := fun_mk (st := s_law_pair_right) l_law_pair_right c_law_pair_right k_law_pair_right, a_law_refused_right := a_law_refused_right, d_law_refused_right := _, m_law_refused_right := PySem.W.mg_of X G n_law_refused_right, F_law_refused_right := fun_mk (st := s_law_refused_right) l_law_refused_right c_law_refused_right k_law_refused_right, a_law := _, d_law := _, m_law := PySem.W.mg_of X G n_law, F_law := fun_mk (st := s_law) l_law c_law k_law, c_CurveError := c_CurveError, m_CurveError := PySem.W.mg_of X G n_CurveError, c_BadNumber := c_BadNumber, m_BadNumber := PySem.W.mg_of X G n_BadNumber, c_Misfit := c_Misfit, m_Misfit := PySem.W.mg_of X G n_Misfit, i_BadNumber := i_BadNumber, di_BadNumber := _, Fi_BadNumber := fun_mk (st := si_BadNumber) li_BadNumber ci_BadNumber ki_BadNumber, ox_BadNumber := ⟨⟨_, _, _, _, _, _, _, _, _, _, _, _, _, _, _, xL_BadNumber, xr_BadNumber⟩, sa_BadNumber, ec_BadNumber, tc_BadNumber, kc_BadNumber⟩, fi_BadNumber := fi_BadNumber, ti_BadNumber := ti_BadNumber, xk_BadNumber := ⟨ic_BadNumber, ge_BadNumber, gg_BadNumber, ec_BadNumber, hd_BadNumber, kl_BadNumber, hxs, hxt, mr_BadNumber⟩, no_BadNumber_part := no_BadNumber_part, i_Misfit := i_Misfit, di_Misfit := _, Fi_Misfit := fun_mk (st := si_Misfit) li_Misfit ci_Misfit ki_Misfit, ox_Misfit := ⟨⟨_, _, _, _, _, _, _, _, _, _, _, _, _, _, _, xL_Misfit, xr_Misfit⟩, sa_Misfit, ec_Misfit, tc_Misfit, kc_Misfit⟩, fi_Misfit := fi_Misfit, ti_Misfit := ti_Misfit, xk_Misfit := ⟨ic_Misfit, ge_Misfit, gg_Misfit, ec_Misfit, hd_Misfit, kl_Misfit, hxs, hxt, mr_Misfit⟩, no_Misfit_part := no_Misfit_part, em_BadNumber_CurveError := exm_is ec_CurveError ic_CurveError tc_CurveError sb_BadNumber_CurveError, ki_BadNumber_BadNumber := kit_isT ic_BadNumber tc_BadNumber sb_BadNumber_BadNumber, ki_BadNumber_Misfit := kit_isF ic_Misfit tc_Misfit sb_BadNumber_Misfit sb_Misfit_Misfit, em_Misfit_CurveError := exm_is ec_CurveError ic_CurveError tc_CurveError sb_Misfit_CurveError, ki_Misfit_BadNumber := kit_isF ic_BadNumber tc_BadNumber sb_Misfit_BadNumber sb_BadNumber_BadNumber, ki_Misfit_Misfit := kit_isT ic_Misfit tc_Misfit sb_Misfit_Misfit, m_gcd := PySem.W.mg_of X G g_gcd, z_abs := PySem.W.mg_none_of X G z_abs, z_bool := PySem.W.mg_none_of X G z_bool, z_int := PySem.W.mg_none_of X G z_int, z_isinstance := PySem.W.mg_none_of X G z_isinstance, z_len := PySem.W.mg_none_of X G z_len, z_list := PySem.W.mg_none_of X G z_list, z_range := PySem.W.mg_none_of X G z_range, z_repr := PySem.W.mg_none_of X G z_repr, z_tuple := PySem.W.mg_none_of X G z_tuple }⟩
theorem walk_law {l : PySem.W.OpenLaw} {q : Program} {loose : List Str} {XP : (Str → Option Value) → Heap → Prop} {YP : World → Heap → Prop} {d : DefRec} {K : Params → PySem.W.Frag} (hn : l.most = some 63) (hdf : d.params.defaults = [])
    (hY : ∀ (w : World) (h : Heap), YP w h → (K w.params).In h)
    (F : ∀ (w : World) (mg : Str → Option Value) (fa : Addr) (h : Heap), (K w.params).In h → h.Ns mainGlobals mg → mg d.name = some (.ref fa) →
      ∃ fd : FuncData, (∀ (s : Shared) (u : Value), BindsTo s fd ⟨[u], []⟩ [("script", u)]) ∧ ∀ base : Heap, (K w.params).In base → base.Ns mainGlobals mg → FnG l.prog w (K w.params) mg base CX0 10 fa fd ["script"] (spLaw (K w.params))) :
    PySem.W.WalkO q loose XP YP l.row.toRowW d [] (fun f vs => PySem.call f vs) :=
  walkG (n := 63) (k := 10) (x := "script") (CX := fun _ => CX0) (sp := fun w => spLaw (K w.params)) hn (by decide) hdf ⟨rfl, by decide, by decide⟩ hY F (fun _ _ a ns hl _ hS => ⟨a, ns, rfl, hS, hl, fun _ => rfl⟩) fun _ _ _ _ _ z => z
end Ty
open PySem PySem.W PyProof.Rows in
set_option maxRecDepth 100000 in
set_option maxHeartbeats 0 in
theorem PySem.Challenge.cw_typedcurve_k04_numbers_reckoned_holds : PySem.Challenge.rw_typedcurve_k04_numbers_reckoned.Holds := by
  w_on; o_law; k_head; (case hw => w_witness2)
  k_fill
  refine Ty.walk_law (l := PySem.Challenge.rw_typedcurve_k04_numbers_reckoned) rfl rfl (fun w h Y => PySem.W.kIn_of Y) ?F
  case F =>
    intro w mg fa h KX G hmg
    refine' Ty.all_mk KX G hmg ?n_is_list ?l_is_list ?c_is_list ?k_is_list ?n_is_integer ?l_is_integer ?c_is_integer ?k_is_integer ?n_is_within ?l_is_within ?c_is_within ?k_is_within ?n_is_number ?l_is_number ?c_is_number ?k_is_number ?n_parts_of ?l_parts_of ?c_parts_of ?k_parts_of ?n_number_of ?l_number_of ?c_number_of ?k_number_of ?n_sum_of ?l_sum_of ?c_sum_of ?k_sum_of ?n_negative_of ?l_negative_of ?c_negative_of ?k_negative_of ?n_difference_of ?l_difference_of ?c_difference_of ?k_difference_of ?n_product_of ?l_product_of ?c_product_of ?k_product_of ?n_quotient_of ?l_quotient_of ?c_quotient_of ?k_quotient_of ?n_sign_in ?l_sign_in ?c_sign_in ?k_sign_in ?n_is_less ?l_is_less ?c_is_less ?k_is_less ?n_need_number ?l_need_number ?c_need_number ?k_need_number ?n_plus ?l_plus ?c_plus ?k_plus ?n_minus ?l_minus ?c_minus ?k_minus ?n_times ?l_times ?c_times ?k_times ?n_quotient ?l_quotient ?c_quotient ?k_quotient ?n_is_below ?l_is_below ?c_is_below ?k_is_below ?n_sign_of ?l_sign_of ?c_sign_of ?k_sign_of ?n_need_both ?l_need_both ?c_need_both ?k_need_both ?n_law_jar ?l_law_jar ?c_law_jar ?k_law_jar ?n_law_pour ?l_law_pour ?c_law_pour ?k_law_pour ?n_law_one ?l_law_one ?c_law_one ?k_law_one ?n_law_common ?l_law_common ?c_law_common ?k_law_common ?n_law_lowest ?l_law_lowest ?c_law_lowest ?k_law_lowest ?n_law_ends ?l_law_ends ?c_law_ends ?k_law_ends ?n_law_number ?l_law_number ?c_law_number ?k_law_number ?n_law_pair ?l_law_pair ?c_law_pair ?k_law_pair ?n_law_told ?l_law_told ?c_law_told ?k_law_told ?n_law_done ?l_law_done ?c_law_done ?k_law_done ?n_law_due ?l_law_due ?c_law_due ?k_law_due ?n_law_heard ?l_law_heard ?c_law_heard ?k_law_heard ?n_law_odd ?l_law_odd ?c_law_odd ?k_law_odd ?n_law_pair_right ?l_law_pair_right ?c_law_pair_right ?k_law_pair_right ?n_law_refused_right ?l_law_refused_right ?c_law_refused_right ?k_law_refused_right ?n_law ?l_law ?c_law ?k_law ?n_CurveError ?n_BadNumber ?n_Misfit ?xL_BadNumber ?xr_BadNumber ?sa_BadNumber ?ge_BadNumber ?gg_BadNumber ?fi_BadNumber ?ti_BadNumber ?kc_BadNumber ?ec_BadNumber ?tc_BadNumber ?hd_BadNumber ?ic_BadNumber ?kl_BadNumber ?mr_BadNumber ?li_BadNumber ?ci_BadNumber ?ki_BadNumber ?no_BadNumber_part ?xL_Misfit ?xr_Misfit ?sa_Misfit ?ge_Misfit ?gg_Misfit ?fi_Misfit ?ti_Misfit ?kc_Misfit ?ec_Misfit ?tc_Misfit ?hd_Misfit ?ic_Misfit ?kl_Misfit ?mr_Misfit ?li_Misfit ?ci_Misfit ?ki_Misfit ?no_Misfit_part ?hxs ?hxt ?ec_CurveError ?tc_CurveError ?ic_CurveError ?sb_BadNumber_CurveError ?sb_BadNumber_BadNumber ?sb_BadNumber_Misfit ?sb_Misfit_Misfit ?sb_Misfit_CurveError ?sb_Misfit_BadNumber ?g_gcd ?z_abs ?z_bool ?z_int ?z_isinstance ?z_len ?z_list ?z_range ?z_repr ?z_tuple
    (case n_is_list => k_is)
    (case l_is_list => k_is)
    (case c_is_list => k_is)
    (case k_is_list => k_is)
    (case n_is_integer => k_is)
    (case l_is_integer => k_is)
    (case c_is_integer => k_is)
    (case k_is_integer => k_is)
    (case n_is_within => k_is)
    (case l_is_within => k_is)
    (case c_is_within => k_is)
    (case k_is_within => k_is)
    (case n_is_number => k_is)
    (case l_is_number => k_is)
    (case c_is_number => k_is)
    (case k_is_number => k_is)
    (case n_parts_of => k_is)
    (case l_parts_of => k_is)
    (case c_parts_of => k_is)
    (case k_parts_of => k_is)
    (case n_number_of => k_is)
    (case l_number_of => k_is)
    (case c_number_of => k_is)
    (case k_number_of => k_is)
    (case n_sum_of => k_is)
    (case l_sum_of => k_is)
    (case c_sum_of => k_is)
    (case k_sum_of => k_is)
    (case n_negative_of => k_is)
    (case l_negative_of => k_is)
    (case c_negative_of => k_is)
    (case k_negative_of => k_is)
    (case n_difference_of => k_is)
    (case l_difference_of => k_is)
    (case c_difference_of => k_is)
    (case k_difference_of => k_is)
    (case n_product_of => k_is)
    (case l_product_of => k_is)
    (case c_product_of => k_is)
    (case k_product_of => k_is)
    (case n_quotient_of => k_is)
    (case l_quotient_of => k_is)
    (case c_quotient_of => k_is)
    (case k_quotient_of => k_is)
    (case n_sign_in => k_is)
    (case l_sign_in => k_is)
    (case c_sign_in => k_is)
    (case k_sign_in => k_is)
    (case n_is_less => k_is)
    (case l_is_less => k_is)
    (case c_is_less => k_is)
    (case k_is_less => k_is)
    (case n_need_number => k_is)
    (case l_need_number => k_is)
    (case c_need_number => k_is)
    (case k_need_number => k_is)
    (case n_plus => k_is)
    (case l_plus => k_is)
    (case c_plus => k_is)
    (case k_plus => k_is)
    (case n_minus => k_is)
    (case l_minus => k_is)
    (case c_minus => k_is)
    (case k_minus => k_is)
    (case n_times => k_is)
    (case l_times => k_is)
    (case c_times => k_is)
    (case k_times => k_is)
    (case n_quotient => k_is)
    (case l_quotient => k_is)
    (case c_quotient => k_is)
    (case k_quotient => k_is)
    (case n_is_below => k_is)
    (case l_is_below => k_is)
    (case c_is_below => k_is)
    (case k_is_below => k_is)
    (case n_sign_of => k_is)
    (case l_sign_of => k_is)
    (case c_sign_of => k_is)
    (case k_sign_of => k_is)
    (case n_need_both => k_is)
    (case l_need_both => k_is)
    (case c_need_both => k_is)
    (case k_need_both => k_is)
    (case n_law_jar => k_is)
    (case l_law_jar => k_is)
    (case c_law_jar => k_is)
    (case k_law_jar => k_is)
    (case n_law_pour => k_is)
    (case l_law_pour => k_is)
    (case c_law_pour => k_is)
    (case k_law_pour => k_is)
    (case n_law_one => k_is)
    (case l_law_one => k_is)
    (case c_law_one => k_is)
    (case k_law_one => k_is)
    (case n_law_common => k_is)
    (case l_law_common => k_is)
    (case c_law_common => k_is)
    (case k_law_common => k_is)
    (case n_law_lowest => k_is)
    (case l_law_lowest => k_is)
    (case c_law_lowest => k_is)
    (case k_law_lowest => k_is)
    (case n_law_ends => k_is)
    (case l_law_ends => k_is)
    (case c_law_ends => k_is)
    (case k_law_ends => k_is)
    (case n_law_number => k_is)
    (case l_law_number => k_is)
    (case c_law_number => k_is)
    (case k_law_number => k_is)
    (case n_law_pair => k_is)
    (case l_law_pair => k_is)
    (case c_law_pair => k_is)
    (case k_law_pair => k_is)
    (case n_law_told => k_is)
    (case l_law_told => k_is)
    (case c_law_told => k_is)
    (case k_law_told => k_is)
    (case n_law_done => k_is)
    (case l_law_done => k_is)
    (case c_law_done => k_is)
    (case k_law_done => k_is)
    (case n_law_due => k_is)
    (case l_law_due => k_is)
    (case c_law_due => k_is)
    (case k_law_due => k_is)
    (case n_law_heard => k_is)
    (case l_law_heard => k_is)
    (case c_law_heard => k_is)
    (case k_law_heard => k_is)
    (case n_law_odd => k_is)
    (case l_law_odd => k_is)
    (case c_law_odd => k_is)
    (case k_law_odd => k_is)
    (case n_law_pair_right => k_is)
    (case l_law_pair_right => k_is)
    (case c_law_pair_right => k_is)
    (case k_law_pair_right => k_is)
    (case n_law_refused_right => k_is)
    (case l_law_refused_right => k_is)
    (case c_law_refused_right => k_is)
    (case k_law_refused_right => k_is)
    (case n_law => k_is)
    (case l_law => k_is)
    (case c_law => k_is)
    (case k_law => k_is)
    (case n_CurveError => k_is)
    (case n_BadNumber => k_is)
    (case n_Misfit => k_is)
    (case xL_BadNumber => k_is)
    (case xr_BadNumber => decide +kernel)
    (case sa_BadNumber => k_is)
    (case ge_BadNumber => k_is)
    (case gg_BadNumber => k_is)
    (case fi_BadNumber => k_is)
    (case ti_BadNumber => k_is)
    (case kc_BadNumber => k_is)
    (case ec_BadNumber => k_is)
    (case tc_BadNumber => k_is)
    (case hd_BadNumber => k_is)
    (case ic_BadNumber => k_is)
    (case kl_BadNumber => k_is)
    (case mr_BadNumber => k_is)
    (case li_BadNumber => k_is)
    (case ci_BadNumber => k_is)
    (case ki_BadNumber => k_is)
    (case no_BadNumber_part => k_is)
    (case xL_Misfit => k_is)
    (case xr_Misfit => decide +kernel)
    (case sa_Misfit => k_is)
    (case ge_Misfit => k_is)
    (case gg_Misfit => k_is)
    (case fi_Misfit => k_is)
    (case ti_Misfit => k_is)
    (case kc_Misfit => k_is)
    (case ec_Misfit => k_is)
    (case tc_Misfit => k_is)
    (case hd_Misfit => k_is)
    (case ic_Misfit => k_is)
    (case kl_Misfit => k_is)
    (case mr_Misfit => k_is)
    (case li_Misfit => k_is)
    (case ci_Misfit => k_is)
    (case ki_Misfit => k_is)
    (case no_Misfit_part => k_is)
    (case hxs => k_is)
    (case hxt => k_is)
    (case ec_CurveError => k_is)
    (case tc_CurveError => k_is)
    (case ic_CurveError => k_is)
    (case sb_BadNumber_CurveError => k_is)
    (case sb_BadNumber_BadNumber => k_is)
    (case sb_BadNumber_Misfit => k_is)
    (case sb_Misfit_Misfit => k_is)
    (case sb_Misfit_CurveError => k_is)
    (case sb_Misfit_BadNumber => k_is)
    (case g_gcd => k_is)
    (case z_abs => k_is)
    (case z_bool => k_is)
    (case z_int => k_is)
    (case z_isinstance => k_is)
    (case z_len => k_is)
    (case z_list => k_is)
    (case z_range => k_is)
    (case z_repr => k_is)
    (case z_tuple => k_is)

