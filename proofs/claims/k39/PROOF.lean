import PyProof.Rows.All
import Wide.All
import OpenK.AllK
import Wide.FinOn
import PyProof.ReprRoads
import HandS.ForMost
import HandS.ForExc
import HandS.Wide
import HandS.Gcd
import HandS.IsInst
import HandS.Defaults
import HandS.NoneIn
import HandS.Style
import HandS.Evl
import KE.KExcIs
import HandS.Exc
import HandS.ExcValue
import HandS.ExcInit
import HandS.ExcField
import HandS.ExcOwn
import HandS.WordsExc
import PyProof.Rows.RuleB_bool
import PyProof.FitsInt
import PyProof.ReprLen
import HandS.Walk
import HandS.Rev
import HandS.Zip0
import KE.GoesMore
import KE.GoesEnum
import HandS.Lambda
import HandS.Deep
import HandS.TupAny
import HandS.Zip
import HandS.SortInts
import PyProof.TupleOfSeq
import PyProof.Rows.SortShellAny
import HandS.EndTab
import HandS.TupLe
import HandS.Text
import PySem.Challenge.RW_typedcurve_k39_words_and_what_they_are_m
set_option Elab.async false
set_option linter.all false
set_option maxRecDepth 100000
set_option maxHeartbeats 4000000
namespace Ty
open PySem PySem.Spec PyProof.Rows L2
section
variable {X : Cx}
/-- repr of data -/
def rRepr (K : PySem.W.Frag) : List V → Hp → VK → Prop := fun xs H Q => ∃ a d, xs = [.ref a] ∧ Dp K H (.ref a) d ∧ d.showable = true ∧ d.hasDict = false ∧ d.depth ≤ 60 ∧ d.shown.length ≤ sizeLine ∧ Q (.str d.shown) H
theorem call_repr (hu : X.A.units + 64 < cLine) (hg : X.A.guards = some []) : CallR X (.builtin "repr") (rRepr X.K) := by
  intro pins s σ H xs us Q I r h
  obtain ⟨a, d, rfl, hd, h1, h2, h3, h4, q⟩ := h
  cases r with
  | cons rv rn =>
    cases rn
    cases (show _ = Value.ref a from rv)
    obtain ⟨as, rr⟩ := Dp.reads I d _ _ hd rfl
    refine repr_of_reads' rr h1 (fun z => by rw [h2] at z; cases z) hg (by omega) (fun _ _ e => e) (fun h' u tk hk => ?_) h4
    exact ⟨.str d.shown, H, I.kept hk, ⟨u, rfl⟩, q⟩
/-- a target of several names: a list or a tuple -/
theorem pg_or {tg : Expr} {g g' : TG} (h : PG X tg g) (h' : PG X tg g') : PG X tg (fun v σ H Q => g v σ H Q ∨ g' v σ H Q) := by
  refine ⟨fun pins s σ H v u Q I r hw => ?_⟩
  rcases hw with hw | hw
  · exact h.run pins s σ H v u Q I r hw
  · exact h'.run pins s σ H v u Q I r hw
variable {CX : CXT} {k : Nat} {f : Addr} {fd : FuncData} {ps ks : List Str} {sp : Sp} {E : XK} {x : Str} {p pos : Pos} {kws : List Keyword} {t tk : TA} {g : List Value → List Value → List Value} {gV : List V → List V → List V}
/-- f(k = v, ..) -/
theorem pe_callN0 (F : FnOk X.prog X.w X.K X.mg X.base CX k f fd ps sp) (hr : Room k X.A) (hg : Gl X x) (hm : X.mg x = some (.ref f)) (hk : PySem.W.keepIn X.K (.ref f) = true) (hb : KBn X.K fd ps 0 ks g gV) (hx : Passes CX X E)
    (hkw : PK X kws tk) (hall : (backToKw pos (keywordEach kws X.env)).all (·.1.isSome) = true := by rfl) (hks : (backToKw pos (keywordEach kws X.env)).filterMap (·.1) = ks := by rfl)
    (hdb : (x == ("__debug__" : Str)) = false := by decide)
    (hpl : ((backTo pos (starEach [] X.env)).any (·.1) || (backToKw pos (keywordEach kws X.env)).any (·.1.isNone)) = false := by rfl) :
    PE X (.Call (.Name x p) [] kws pos) (tCallN 0 ks.length sp gV E tNil tk) := by
  refine ⟨fun pins s σ H Q I h => ?_⟩
  refine wpAny_Call_Name_kw (ld_glob I hg hm ?_ hdb)
  refine PySem.W.callWith_KW0 (h₀ := X.base) I.ok.mod.kin hk hall (thn (hkw.run pos pins s σ H _ I h) fun ws s2 hh => ?_) hpl
  obtain ⟨zs, H2, I2, rz, l1, l2, q2⟩ := hh
  refine ⟨I2.kIn, ?_⟩
  rw [hks]
  exact run_fnN F hr hb hx I2 .nil rz l1 l2 q2
end
/-- how a call with keywords binds, no defaults -/
theorem kbn_of {K : PySem.W.Frag} {y qual : Str} {st : Stmt} {f : Addr} {fd : FuncData} {ps : List Str} {n : Nat} {ks : List Str} {g : List Value → List Value → List Value} {gV : List V → List V → List V} (F : Fun K y qual st f fd)
    (h : ∀ (kV doc pm : Value) (an : Option Addr) (cdv ct : Value) (us ws : List Value), us.length = n → ws.length = ks.length → bindArgs (PySem.W.fnOf y qual (defArgs st) (defBody st) (defScope st) .none kV doc pm an cdv ct) ⟨us, ks.zip ws⟩ = pure (ps.zip (g us ws)))
    (hrel : ∀ {vs : List V} {us : List Value} {zs : List V} {ws : List Value}, Vals vs us → Vals zs ws → Vals (gV vs zs) (g us ws)) : KBn K fd ps n ks g gV := by
  obtain ⟨oc, od, kV, doc, pm, an, cdv, ct, osl, rfl, lk, hcd⟩ := F.ex
  exact ⟨fun s us ws _ h1 h2 => .of_eq (h kV doc pm an cdv ct us ws h1 h2), hrel⟩
end Ty

namespace Ty
open PySem PySem.Spec PyProof.Rows L2
theorem Same.new {H : Hp} {p : Addr} {o : HO} (h : H p = none) : Same H (upd H p o) := fun a u e => by
  rw [upd_ne (ne_of_none e h)]
  exact e
/-! ### operators -/
def CPowW (i j : Int) : Prop := 0 ≤ j ∧ j ≤ 100 ∧ i.natAbs.log2 < 1000000
theorem op_powW {X : Cx} : OpR X (binaryOp .Pow) (rI CPowW fun i j => .int (i ^ j.toNat)) := opI fun i j _ _ _ _ _ hc q => by
  refine pow_int hc.1 ?_ q
  have b : Builtin.Int.intBits i ≤ i.natAbs.log2 + 1 := by
    unfold Builtin.Int.intBits
    split <;> omega
  have h1 := hc.1
  have h2 := hc.2.1
  have h3 := hc.2.2
  have h4 : (Builtin.Int.intBits i : Int) ≤ 1000000 := by omega
  have h5 : (Builtin.Int.intBits i : Int) * j ≤ 1000000 * 100 := Int.mul_le_mul h4 h2 h1 (by decide)
  exact Int.le_trans h5 (by decide)
/-- == and != of a list and an empty one -/
def rEqE (K : PySem.W.Frag) : R2 := fun x y H Q => ∃ a b xs, x = .ref a ∧ y = .ref b ∧ SqL K H a xs ∧ SqL K H b [] ∧ Q (.bl xs.isEmpty) H
def rNeE (K : PySem.W.Frag) : R2 := fun x y H Q => ∃ a b xs, x = .ref a ∧ y = .ref b ∧ SqL K H a xs ∧ SqL K H b [] ∧ Q (.bl (!xs.isEmpty)) H
theorem op_eqE {X : Cx} (hu : X.A.units < cLine) : OpR X (compareOp .Eq) (rEqE X.K) := by
  intro pins s σ H x y v u Q I rx ry h
  obtain ⟨a, b, xs, rfl, rfl, ha, hb, q⟩ := h
  cases (show v = Value.ref a from rx)
  cases (show u = Value.ref b from ry)
  obtain ⟨us, r1, p1, _⟩ := I.list ha
  obtain ⟨ws, r2, p2, _⟩ := I.list hb
  cases r2
  cases xs with
  | nil =>
    cases r1
    refine SeqAt.eq_listAt (e := fun _ => true) p1.isList p2.isList rfl hu (fun j h1 _ => absurd h1 (Nat.not_lt_zero _)) ?_
    exact ⟨.bl true, H, I, rfl, q⟩
  | cons z zs =>
    refine SeqAt.eq_list_lengthsAt p1.isList p2.isList ?_ hu ⟨.bl false, H, I, rfl, q⟩
    have e := r1.length
    rw [List.length_cons] at e
    rw [List.size_toArray, ← e]
    rfl
theorem op_neE {X : Cx} (hu : X.A.units < cLine) : OpR X (compareOp .NotEq) (rNeE X.K) := by
  intro pins s σ H x y v u Q I rx ry h
  obtain ⟨a, b, xs, rfl, rfl, ha, hb, q⟩ := h
  cases (show v = Value.ref a from rx)
  cases (show u = Value.ref b from ry)
  obtain ⟨us, r1, p1, _⟩ := I.list ha
  obtain ⟨ws, r2, p2, _⟩ := I.list hb
  cases r2
  cases xs with
  | nil =>
    cases r1
    refine SeqAt.RcNeAt.lists (e := fun _ => true) p1.isList p2.isList rfl hu (fun j h1 _ => absurd h1 (Nat.not_lt_zero _)) _ _ _ _ ?_
    exact ⟨.bl false, H, I, rfl, q⟩
  | cons z zs =>
    refine SeqAt.RcNeAt.lists_lengths p1.isList p2.isList ?_ hu _ _ _ _ ⟨.bl true, H, I, rfl, q⟩
    have e := r1.length
    rw [List.length_cons] at e
    rw [List.size_toArray, ← e]
    rfl
/-! ### any value -/
inductive Da where
  | non
  | bl (b : Bool)
  | int (i : Int)
  | str (x : Str)
  | tup (l : List Da)
  | lst (l : List Da)
  | dic
mutual
inductive Is (H : Hp) : V → Da → Prop
  | non : Is H .non .non
  | bl (b : Bool) : Is H (.bl b) (.bl b)
  | int (i : Int) : Is H (.int i) (.int i)
  | str (x : Str) : Is H (.str x) (.str x)
  | tup {a : Addr} {xs : List V} {ds : List Da} : H a = some (.tup xs) → IsAll H xs ds → Is H (.ref a) (.tup ds)
  | lst {a : Addr} {xs : List V} {ds : List Da} : H a = some (.lst xs) → IsAll H xs ds → Is H (.ref a) (.lst ds)
  | dic {a : Addr} : H a = some (.dK []) → Is H (.ref a) .dic
inductive IsAll (H : Hp) : List V → List Da → Prop
  | nil : IsAll H [] []
  | cons {v : V} {vs : List V} {d : Da} {ds : List Da} : Is H v d → IsAll H vs ds → IsAll H (v :: vs) (d :: ds)
end
mutual
theorem Is.mono {H H' : Hp} (s : Same H H') : ∀ (d : Da) (v : V), Is H v d → Is H' v d
  | .non, _, h => by cases h; exact .non
  | .bl _, _, h => by cases h; exact .bl _
  | .int _, _, h => by cases h; exact .int _
  | .str _, _, h => by cases h; exact .str _
  | .tup ds, _, h => by
    cases h with
    | tup e h => exact .tup (s _ _ e) (IsAll.mono s ds _ h)
  | .lst ds, _, h => by
    cases h with
    | lst e h => exact .lst (s _ _ e) (IsAll.mono s ds _ h)
  | .dic, _, h => by
    cases h with
    | dic e => exact .dic (s _ _ e)
theorem IsAll.mono {H H' : Hp} (s : Same H H') : ∀ (ds : List Da) (vs : List V), IsAll H vs ds → IsAll H' vs ds
  | [], _, h => by cases h; exact .nil
  | d :: ds, _, h => by
    cases h with
    | cons h t => exact .cons (Is.mono s d _ h) (IsAll.mono s ds _ t)
end
theorem Is.up {H H' : Hp} {v : V} {d : Da} (h : Is H v d) (s : Same H H') : Is H' v d := Is.mono s d v h
theorem IsAll.up {H H' : Hp} {v : List V} {d : List Da} (h : IsAll H v d) (s : Same H H') : IsAll H' v d := IsAll.mono s d v h
theorem IsAll.length {H : Hp} : ∀ {vs : List V} {ds : List Da}, IsAll H vs ds → vs.length = ds.length
  | _, [], h => by cases h; rfl
  | _, d :: ds, h => by
    cases h with
    | cons _ t => rw [List.length_cons, List.length_cons, IsAll.length t]
theorem IsAll.at {H : Hp} : ∀ {vs : List V} {ds : List Da} {i : Nat} {v : V}, IsAll H vs ds → vs[i]? = some v → ∃ d, ds[i]? = some d ∧ Is H v d
  | _, [], _, _, h, e => by cases h; simp at e
  | _, d :: ds, 0, _, h, e => by
    cases h with
    | cons h _ =>
      cases (Option.some.inj e)
      exact ⟨d, rfl, h⟩
  | _, d :: ds, i + 1, _, h, e => by
    cases h with
    | @cons _ vs _ _ _ t =>
      have e' : vs[i]? = some _ := e
      obtain ⟨d', h1, h2⟩ := IsAll.at t e'
      exact ⟨d', h1, h2⟩
/-! ### what kind a value is of -/
def kd : Da → String
  | .non => "NoneType" | .bl _ => "bool" | .int _ => "int" | .str _ => "str" | .tup _ => "tuple" | .lst _ => "list" | .dic => "dict"
def isI : Da → Bool
  | .int _ => true | .bl _ => true | _ => false
def isB : Da → Bool
  | .bl _ => true | _ => false
def isN : Da → Bool
  | .int _ => true | _ => false
def isS : Da → Bool
  | .tup _ => true | .lst _ => true | _ => false
def items : Da → List Da
  | .tup l => l | .lst l => l | _ => []
theorem Is.ty {K : PySem.W.Frag} {H : Hp} {v : V} {d : Da} (h : Is H v d) : TyX K H v (.type (kd d)) := by
  cases h with
  | non => exact .base .non
  | bl b => exact .base (.bl b)
  | int i => exact .base (.int i)
  | str x => exact .base (.str x)
  | tup e _ => exact .base (.tup e)
  | lst e _ => exact .base (.lst e)
  | dic e => exact .base (.dK e)
theorem kit_int : ∀ d : Da, kitB (kd d) "int" = some (isI d)
  | .non => show kitB "NoneType" "int" = some false by decide +kernel
  | .bl _ => show kitB "bool" "int" = some true by decide +kernel
  | .int _ => show kitB "int" "int" = some true by decide +kernel
  | .str _ => show kitB "str" "int" = some false by decide +kernel
  | .tup _ => show kitB "tuple" "int" = some false by decide +kernel
  | .lst _ => show kitB "list" "int" = some false by decide +kernel
  | .dic => show kitB "dict" "int" = some false by decide +kernel
theorem kit_bool : ∀ d : Da, kitB (kd d) "bool" = some (isB d)
  | .non => show kitB "NoneType" "bool" = some false by decide +kernel
  | .bl _ => show kitB "bool" "bool" = some true by decide +kernel
  | .int _ => show kitB "int" "bool" = some false by decide +kernel
  | .str _ => show kitB "str" "bool" = some false by decide +kernel
  | .tup _ => show kitB "tuple" "bool" = some false by decide +kernel
  | .lst _ => show kitB "list" "bool" = some false by decide +kernel
  | .dic => show kitB "dict" "bool" = some false by decide +kernel
def isL : Da → Bool
  | .lst _ => true | _ => false
def isT : Da → Bool
  | .tup _ => true | _ => false
theorem kit_list : ∀ d : Da, kitB (kd d) "list" = some (isL d)
  | .non => show kitB "NoneType" "list" = some false by decide +kernel
  | .bl _ => show kitB "bool" "list" = some false by decide +kernel
  | .int _ => show kitB "int" "list" = some false by decide +kernel
  | .str _ => show kitB "str" "list" = some false by decide +kernel
  | .tup _ => show kitB "tuple" "list" = some false by decide +kernel
  | .lst _ => show kitB "list" "list" = some true by decide +kernel
  | .dic => show kitB "dict" "list" = some false by decide +kernel
theorem kit_tuple : ∀ d : Da, kitB (kd d) "tuple" = some (isT d)
  | .non => show kitB "NoneType" "tuple" = some false by decide +kernel
  | .bl _ => show kitB "bool" "tuple" = some false by decide +kernel
  | .int _ => show kitB "int" "tuple" = some false by decide +kernel
  | .str _ => show kitB "str" "tuple" = some false by decide +kernel
  | .tup _ => show kitB "tuple" "tuple" = some true by decide +kernel
  | .lst _ => show kitB "list" "tuple" = some false by decide +kernel
  | .dic => show kitB "dict" "tuple" = some false by decide +kernel
theorem kit_seq {K : PySem.W.Frag} (d : Da) : PySem.W.kitAny K (.type (kd d)) [.type "list", .type "tuple"] = some (isS d) := by
  refine kitAny_cons (kit_ty (kit_list d)) (fun h => kitAny_cons (kit_ty (kit_tuple d)) (fun h2 => ?_) fun h2 => ?_) fun h => ?_
  · rw [kitAny_nil]
    cases d with
    | lst _ => cases h
    | tup _ => cases h2
    | _ => rfl
  · cases d with
    | tup _ => rfl
    | _ => cases h2
  · cases d with
    | lst _ => rfl
    | _ => cases h
section
variable {K : PySem.W.Frag} {H : Hp} {v : V} {d : Da} {Q : VK}
theorem isi_int (h : Is H v d) (q : Q (.bl (isI d)) H) : rIsi K [v, .ty "int"] H Q := ⟨v, .ty "int", _, _, _, rfl, .ty "int", h.ty, kit_ty (kit_int d), q⟩
theorem isi_bool (h : Is H v d) (q : Q (.bl (isB d)) H) : rIsi K [v, .ty "bool"] H Q := ⟨v, .ty "bool", _, _, _, rfl, .ty "bool", h.ty, kit_ty (kit_bool d), q⟩
theorem isi_tuple (h : Is H v d) (q : Q (.bl (isT d)) H) : rIsi K [v, .ty "tuple"] H Q := ⟨v, .ty "tuple", _, _, _, rfl, .ty "tuple", h.ty, kit_ty (kit_tuple d), q⟩
theorem isi_list (h : Is H v d) (q : Q (.bl (isL d)) H) : rIsi K [v, .ty "list"] H Q := ⟨v, .ty "list", _, _, _, rfl, .ty "list", h.ty, kit_ty (kit_list d), q⟩
theorem isi_seq {p : Addr} (h : Is H v d) (hp : H p = some (.tup [.ty "list", .ty "tuple"])) (q : Q (.bl (isS d)) H) : rIsiT K [v, .ref p] H Q :=
  ⟨v, p, _, _, [.type "list", .type "tuple"], _, rfl, hp, .cons (.ty "list") (.cons (.ty "tuple") .nil), h.ty, kit_seq d, q⟩
end
section
variable {X : Cx}
theorem call_isiInt : CallR X (.builtin "isinstance") (fun xs H Q => ∃ x d, xs = [x, .ty "int"] ∧ Is H x d ∧ Q (.bl (isI d)) H) := by
  intro pins s σ H xs us Q I r h
  obtain ⟨x, d, rfl, h, q⟩ := h
  exact call_isi pins s σ H _ us Q I r (isi_int h q)
theorem call_isiBool : CallR X (.builtin "isinstance") (fun xs H Q => ∃ x d, xs = [x, .ty "bool"] ∧ Is H x d ∧ Q (.bl (isB d)) H) := by
  intro pins s σ H xs us Q I r h
  obtain ⟨x, d, rfl, h, q⟩ := h
  exact call_isi pins s σ H _ us Q I r (isi_bool h q)
theorem call_isiList : CallR X (.builtin "isinstance") (fun xs H Q => ∃ x d, xs = [x, .ty "list"] ∧ Is H x d ∧ Q (.bl (isL d)) H) := by
  intro pins s σ H xs us Q I r h
  obtain ⟨x, d, rfl, h, q⟩ := h
  exact call_isi pins s σ H _ us Q I r (isi_list h q)
theorem call_isiTuple : CallR X (.builtin "isinstance") (fun xs H Q => ∃ x d, xs = [x, .ty "tuple"] ∧ Is H x d ∧ Q (.bl (isT d)) H) := by
  intro pins s σ H xs us Q I r h
  obtain ⟨x, d, rfl, h, q⟩ := h
  exact call_isi pins s σ H _ us Q I r (isi_tuple h q)
/-- isinstance(x, (list, tuple)) -/
theorem call_isiSeq : CallR X (.builtin "isinstance") (fun xs H Q => ∃ x d p, xs = [x, .ref p] ∧ H p = some (.tup [.ty "list", .ty "tuple"]) ∧ Is H x d ∧ Q (.bl (isS d)) H) := by
  intro pins s σ H xs us Q I r h
  obtain ⟨x, d, p, rfl, hp, h, q⟩ := h
  exact call_isiT pins s σ H _ us Q I r (isi_seq h hp q)
end
/-- what a sequence holds -/
theorem Is.seq {K : PySem.W.Frag} {H : Hp} {v : V} {d : Da} (h : Is H v d) (s : isS d = true) : ∃ a xs, v = .ref a ∧ (SqL K H a xs ∨ SqT K H a xs) ∧ IsAll H xs (items d) := by
  cases h with
  | tup e h => exact ⟨_, _, rfl, .inr (.inl (.inl e)), h⟩
  | lst e h => exact ⟨_, _, rfl, .inl (.inl (.inl e)), h⟩
  | _ => cases s
end Ty

namespace Ty
open PySem PySem.Spec PyProof.Rows L2
/-- a def's promise where nothing is being shown (repr) around the call -/
structure FnG (P : Program) (w : World) (K : PySem.W.Frag) (mg : Str → Option Value) (base : Heap) (CX : CXT) (k : Nat) (f : Addr) (fd : FuncData) (ps : List Str) (sp : Sp) : Prop where
  len : ∀ vs H Q E, sp vs H Q E → vs.length = ps.length
  run : ∀ (A : Around), A.guards = some [] → ∀ (outer : List Env) (s : Shared) (H : Hp) (args : Args) (us : List Value) (vs : List V) (Q : VK) (E : XK), Room k A → Env0 P w K mg base A outer s H → BindsTo s fd args (ps.zip us) → Vals vs us → sp vs H Q E →
    codeAny (model P w) A (.call (.ref f) args) (CR CX outer P w H s Q E) s
section
variable {P : Program} {w : World} {K : PySem.W.Frag} {mg : Str → Option Value} {base : Heap}
theorem FnG.of {CX : CXT} {k : Nat} {f : Addr} {fd : FuncData} {ps : List Str} {sp : Sp} (F : FnOk P w K mg base CX k f fd ps sp) : FnG P w K mg base CX k f fd ps sp :=
  ⟨F.len, fun A _ outer s H args us vs Q E => F.run A outer s H args us vs Q E⟩
theorem Fun.okX {CX : CXT} {y qual : Str} {st : Stmt} {f : Addr} {fd : FuncData} {N ps : List Str} {k : Nat} {sp : Sp} (F : Fun K y qual st f fd) (S : FnScope N ps (defScope st)) (len : ∀ vs H Q E, sp vs H Q E → vs.length = ps.length)
    (body : ∀ (cdv : Value) (A : Around) (outer : List Env) (s : Shared) (H : Hp) (vs : List V) (Q : VK) (E : XK), A.guards = some [] → Room k (A.deeper (envOfC qual (defScope st) s.heap.objs.size f cdv)) → sp vs H Q E →
      ∃ t, PSs (cxOf CX P w K mg base N qual (defScope st) f cdv A outer s H E) (defBody st) t ∧ t { nx := fun _ H' => Q .non H', rt := Q } (start N vs) H) : FnG P w K mg base CX (k + 1) f fd ps sp := by
  obtain ⟨oc, od, kV, doc, pm, an, cdv, ct, osl, rfl, lk, hcd⟩ := F.ex
  constructor
  · exact len
  intro A hgd outer s H args us vs Q E hr e0 hb r hsp
  obtain ⟨t, ht, hq⟩ := body cdv A outer s H vs Q E hgd (hr.deeper _) hsp
  have up : ∀ b o, base.get? b = some o → s.heap.get? b = some o := fun b o e => (e0.bs b o e).1
  have KX : K.In s.heap := e0.mod.kin.keeps up
  refine codeAny_call_function hr.depth (KX _ _ lk) rfl S.co S.gen rfl (PySem.W.codeRec_of KX hcd) (hb _ _ _ _ (wpAny_newFunctionEnv_cells S.kind ?_ ?_))
  · rintro ⟨n, v⟩ hy
    rcases S.par n (List.of_mem_zip hy).1 with q | q
    · exact Or.inl q
    · exact Or.inr ⟨q, PySem.W.cellsFrom_some _ _ _ (Or.inl q)⟩
  · intro env he s1 x
    subst he
    refine ⟨(e0.mod.nolimit.keeps up).keeps x.toInCall.keep, codeAny_func ?_⟩
    refine wpAny_mono (ht.run [] s1 (start N vs) H _ (inv_start S hr.hd e0 (len _ _ _ _ hsp) r x) hq) ?_ fun _ _ h => h
    intro fl s' hs
    cases fl with
    | ret u => obtain ⟨v, σ', H', J, rv, q⟩ := hs; exact ⟨v, H', J.os, J.bare, J.base, J.hok, rv, q⟩
    | next => obtain ⟨σ', H', J, q⟩ := hs; exact ⟨V.non, H', J.os, J.bare, J.base, J.hok, rfl, q⟩
    | brk => obtain ⟨_, _, _, q⟩ := hs; cases q
    | cont => obtain ⟨_, _, _, q⟩ := hs; cases q
theorem Fun.okG {y qual : Str} {st : Stmt} {f : Addr} {fd : FuncData} {N ps : List Str} {k : Nat} {sp : Sp} (F : Fun K y qual st f fd) (S : FnScope N ps (defScope st)) (len : ∀ vs H Q E, sp vs H Q E → vs.length = ps.length)
    (body : ∀ (cdv : Value) (A : Around) (outer : List Env) (s : Shared) (H : Hp) (vs : List V) (Q : VK) (E : XK), A.guards = some [] → Room k (A.deeper (envOfC qual (defScope st) s.heap.objs.size f cdv)) → sp vs H Q E →
      ∃ t, PSs (cxOf CX0 P w K mg base N qual (defScope st) f cdv A outer s H E).nox (defBody st) t ∧ t { nx := fun _ H' => Q .non H', rt := Q } (start N vs) H) : FnG P w K mg base CX0 (k + 1) f fd ps sp := by
  refine Ty.Fun.okX F S len ?_
  intro cdv A outer s H vs Q E h1 h2 h3
  obtain ⟨t, h4, h5⟩ := body cdv A outer s H vs Q E h1 h2 h3
  exact ⟨t, h4.nox, h5⟩
end
section
variable {X : Cx} {CX : CXT} {k n : Nat} {f : Addr} {fd : FuncData} {ps ks : List Str} {sp : Sp} {E : XK} {x : Str} {p pos : Pos} {e : Expr} {es : List Expr} {t : TA} {dvs : List V} {ds : List Value}
/-- f(e, ..) of such a def -/
theorem pe_callG (hgd : X.A.guards = some []) (F : FnG X.prog X.w X.K X.mg X.base CX k f fd ps sp) (hr : Room k X.A) (hg : Gl X x) (hm : X.mg x = some (.ref f)) (hk : PySem.W.keepIn X.K (.ref f) = true) (hb : Binds X.K fd ps ds) (hd : Vals dvs ds) (hx : Passes CX X E)
    (ha : PA X (e :: es) t) (hdb : (x == ("__debug__" : Str)) = false := by decide) (he : starEach (e :: es) X.env = (false, eval e X.env) :: starEach es X.env := by rfl) (hpl : (backTo pos (starEach es X.env)).any (·.1) = false := by rfl) :
    PE X (.Call (.Name x p) (e :: es) [] pos) (tCall sp dvs E t) := by
  constructor
  intro pins s σ H Q I h
  refine wpAny_Call_Name_kw (ld_glob I hg hm (PySem.W.callWith_K (h₀ := X.base) I.ok.mod.kin hk (thn (ha.run pos pins s σ H _ I h) ?_) he hpl) hdb)
  rintro us s1 ⟨vs, H1, I1, r, q⟩
  have r2 : Vals (vs ++ dvs) (us ++ ds) := r.append hd
  refine ⟨I1.kIn, wpAny_call (codeAny_mono (F.run X.A hgd X.stack s1 H1 ⟨us, []⟩ (us ++ ds) (vs ++ dvs) Q E hr I1.env0 (hb s1 us I1.kIn (r2.length.symm.trans (F.len _ _ _ _ q))) r2 q) ?_)⟩
  intro r s' hq
  cases r with
  | error e => exact hx pins σ H1 s1 e s' I1 hq
  | ok fl =>
    cases fl with
    | ret u => exact I1.after hq
    | _ => cases hq
end
/-- the law's call, where the law's def is promised so -/
theorem lawG {P : Program} {w : World} {K : PySem.W.Frag} {mg mb : Str → Option Value} {CX : CXT} {k : Nat} {fa a : Addr} {fd : FuncData} {x : Str} {sp : Sp} {s1 : Shared} {vs : List Value} {ns : List Int}
    (KX : K.In s1.heap) (hns : s1.heap.Ns mainGlobals mg) (hb : s1.heap.Ns builtinsNs mb) (hbb : ∀ x : Str, x ≠ "__name__" → mb x = bootBuiltins x) (hlim : s1.heap.NoLimit) (hg : s1.gens = #[])
    (ha : s1.heap.get? a = some { cls := .type "list", data := .seq vs.toArray }) (hi : IntsAre vs ns) (hl : ns.length ≤ sizeLine) (hr : Room k callerA)
    (F : ∀ base : Heap, K.In base → base.Ns mainGlobals mg → FnG P w K mg base CX k fa fd [x] sp) (hbind : ∀ (s : Shared) (u : Value), BindsTo s fd ⟨[u], []⟩ [(x, u)])
    (hsp : ∀ H : Hp, Only H → SqL K H a (ns.map V.int) → sp [.ref a] H (fun v _ => v = .bl true) fun _ _ _ => False)
    (hCX : ∀ H e s', CX [] H s1 (fun _ _ _ => False) e s' → False) :
    codeAny (model P w) callerA (.call (.ref fa) ⟨[.ref a], []⟩) (fun r s' => r = .ok (.ret (.bool true)) ∧ OldK s1.heap s'.heap ∧ s'.os = s1.os ∧ AllBare s'.gens) s1 := by
  have rv := vals_ints hi
  suffices main : ∃ H : Hp, Only H ∧ SqL K H a (ns.map V.int) ∧ HOk P w H s1.heap ∧ (∀ b, H b ≠ none → b = a) ∧ (H a ≠ none → K.lookup a = none) by
    obtain ⟨H, hO, hS, hok, hA, hK⟩ := main
    have free : ∀ {b : Addr}, b ≠ a → H b = none := fun {b} z => by
      cases q : H b with
      | none => rfl
      | some _ => exact absurd (hA b (by rw [q]; exact nofun)) z
    have dictFree : ∀ {b : Addr} {o : Obj} {es : Array DictEntry} {ep : Nat}, s1.heap.get? b = some o → o.data = .dict es ep → H b = none := fun {b o es ep} e d => by
      refine free fun z => ?_
      rw [z, ha] at e
      cases e
      cases (show Data.seq vs.toArray _ = Data.dict es ep from d)
    have keepNs : ∀ {b : Addr} {m : Str → Option Value}, s1.heap.Ns b m → (hidT s1.heap H).Ns b m := by
      rintro b m ⟨o, es, ep, e, d, r⟩
      exact ⟨o, es, ep, hidT_get e (dictFree e d), d, r⟩
    have KB : K.In (hidT s1.heap H) := fun b o e => by
      refine hidT_get (KX b o e) ?_
      by_cases z : b = a
      · cases q : H b with
        | none => rfl
        | some _ =>
          have z2 := hK (by rw [← z, q]; exact nofun)
          rw [← z, e] at z2
          cases z2
      · exact free z
    have M : Mod K mg (hidT s1.heap H) := by
      obtain ⟨mc, h1, h2⟩ := hlim
      exact ⟨KB, keepNs hns, ⟨mb, keepNs hb, hbb⟩, ⟨mc, keepNs h1, h2⟩⟩
    have e0 : Env0 P w K mg (hidT s1.heap H) callerA [] s1 H := by
      refine ⟨rfl, M, fun b o e => of_hidT e, Nat.le_of_eq (hidT_size _ _), trivial, ?_, hok, .of_eq hg⟩
      intro b hb
      cases hb
    refine codeAny_mono ((F _ KB (keepNs hns)).run callerA rfl [] s1 H ⟨[.ref a], []⟩ [.ref a] [.ref a] _ _ hr e0 (hbind s1 (.ref a)) (.cons rfl .nil) (hsp H hO hS)) ?_
    intro r s' h
    cases r with
    | error e => exact (hCX H e s' h).elim
    | ok fl =>
      cases fl with
      | ret u =>
        obtain ⟨v, H', os, bare, un, hok', r', q⟩ := h
        subst q
        obtain rfl : u = Value.bool true := r'
        refine ⟨rfl, OldK.of_keep ?_, os, bare⟩
        intro b o e
        cases q : H b with
        | none => exact un.keep b o e q (fun z => by cases z) (by simp)
        | some u =>
          rcases hO b with z | ⟨ob, xs, z⟩
          · rw [q] at z
            cases z
          · obtain ⟨e1, _⟩ := hok b _ z
            obtain ⟨e2, _⟩ := hok' b _ (un.frzs b ob _ z)
            rw [e] at e1
            cases e1
            exact e2
      | _ => cases h
  cases hk : K.lookup a with
  | some o =>
    have e := KX a o hk
    rw [ha] at e
    cases e
    have hz : vs.toArray.size ≤ sizeLine := by
      rw [List.size_toArray, hi.length]
      exact hl
    exact ⟨fun _ => none, fun _ => .inl rfl, .inr ⟨_, vs.toArray, _, hk, rfl, rfl, rfl, hz, by simpa using rv⟩, fun b u z => (nomatch z), fun b z => absurd rfl z, fun z => absurd rfl z⟩
  | none =>
    refine ⟨upd (fun _ => none) a (.frz { cls := .type "list", data := .seq vs.toArray } (.lst (ns.map V.int))), fun b => ?_, .inl (.inr ⟨_, upd_same⟩), fun b u z => ?_, fun b z => ?_, fun _ => rfl⟩
    · by_cases q : b = a
      · subst q
        exact .inr ⟨_, _, upd_same⟩
      · exact .inl (upd_ne q)
    · by_cases q : b = a
      · subst q
        rw [upd_same] at z
        cases z
        exact ⟨ha, by rw [List.length_map]; exact hl, vs, _, rv, ha⟩
      · rw [upd_ne q] at z
        cases z
    · by_cases q : b = a
      · exact q
      · exact absurd (upd_ne q) z
theorem walkG {l : PySem.W.OpenLaw} {n k : Nat} {q : Program} {loose : List Str} {XP : (Str → Option Value) → Heap → Prop} {YP : World → Heap → Prop} {d : DefRec} {K : Params → PySem.W.Frag} {CX : World → CXT} {sp : World → Sp} {x : Str}
    (hn : l.most = some n) (hn2 : n ≤ sizeLine) (hdf : d.params.defaults = []) (hr : Room k callerA)
    (hY : ∀ (w : World) (h : Heap), YP w h → (K w.params).In h)
    (F : ∀ (w : World) (mg : Str → Option Value) (fa : Addr) (h : Heap), (K w.params).In h → h.Ns mainGlobals mg → mg d.name = some (.ref fa) →
      ∃ fd : FuncData, (∀ (s : Shared) (u : Value), BindsTo s fd ⟨[u], []⟩ [(x, u)]) ∧
        ∀ base : Heap, (K w.params).In base → base.Ns mainGlobals mg → FnG l.prog w (K w.params) mg base (CX w) k fa fd [x] (sp w))
    (hsp : ∀ (w : World) (H : Hp) (a : Addr) (ns : List Int), ns.length ≤ n → Only H → SqL (K w.params) H a (ns.map V.int) → sp w [.ref a] H (fun v _ => v = .bl true) fun _ _ _ => False)
    (hCX : ∀ (w : World) (H : Hp) (s : Shared) (e : Value) (s' : Shared), CX w [] H s (fun _ _ _ => False) e s' → False) :
    PySem.W.WalkO q loose XP YP l.row.toRowW d [] (fun f vs => PySem.call f vs) := by
  refine Att.attach_call hn hdf ?_
  intro w s0 s1 mg mb fa o pm cd doc a vs ns G Y ho hd hcd hmg hobj hints hlen hg
  obtain ⟨fd, hb, hF⟩ := F w mg fa _ (hY w _ Y) G.T.g hmg
  refine lawG (hY w _ Y) G.T.g G.T.b G.T.builtins G.T.nolimit hg hobj hints (Nat.le_trans hlen hn2) hr hF hb (hsp w · a ns hlen) ?_
  exact fun H e s' => hCX w H s1 e s'
end Ty
namespace Ty
open PySem PySem.Spec PyProof.Rows L2
/-- the values in the parameters' order -/
def perm {α : Type} (is : List Nat) (l : List α) : List α := is.filterMap fun i => l[i]?
theorem Vals.perm {vs : List V} {us : List Value} (r : Vals vs us) : ∀ is : List Nat, Vals (Ty.perm is vs) (Ty.perm is us)
  | [] => .nil
  | i :: is => by
    have ih := Vals.perm r is
    cases e : vs[i]? with
    | none =>
      have e2 : us[i]? = none := by
        rw [List.getElem?_eq_none_iff] at e ⊢
        rw [← r.length]
        exact e
      have h1 : Ty.perm (i :: is) vs = Ty.perm is vs := by
        unfold Ty.perm
        rw [List.filterMap_cons, e]
      have h2 : Ty.perm (i :: is) us = Ty.perm is us := by
        unfold Ty.perm
        rw [List.filterMap_cons, e2]
      rw [h1, h2]
      exact ih
    | some v =>
      obtain ⟨u, e2, ru⟩ := r.get e
      have h1 : Ty.perm (i :: is) vs = v :: Ty.perm is vs := by
        unfold Ty.perm
        rw [List.filterMap_cons, e]
      have h2 : Ty.perm (i :: is) us = u :: Ty.perm is us := by
        unfold Ty.perm
        rw [List.filterMap_cons, e2]
      rw [h1, h2]
      exact .cons ru ih
/-- what a for or a comprehension walks: a list or a tuple -/
theorem pi_or {X : Cx} {tg l : Expr} {w w' : TI} (h : PI X tg l w) (h' : PI X tg l w') : PI X tg l (fun σ H R => w σ H R ∨ w' σ H R) := by
  refine ⟨?_⟩
  intro pins s σ H R I hw
  rcases hw with hw | hw
  · exact h.run pins s σ H R I hw
  · exact h'.run pins s σ H R I hw
end Ty

namespace Ty
open PySem PySem.Spec PyProof.Rows L2
/-! ### tests -/
section
variable {b : Bool} {c A B : Prop}
theorem iteN (h1 : b = false → A) (h2 : b = true → B) : if (!b) = true then A else B := by
  cases b with
  | false => rw [if_pos (by rfl)]; exact h1 rfl
  | true => rw [if_neg (by decide)]; exact h2 rfl
theorem iteB (h1 : b = true → A) (h2 : b = false → B) : if b = true then A else B := by
  cases b with
  | false => rw [if_neg (by decide)]; exact h2 rfl
  | true => rw [if_pos rfl]; exact h1 rfl
theorem iteD [Decidable c] (h1 : c → A) (h2 : ¬ c → B) : if decide c = true then A else B := by
  by_cases h : c
  · rw [if_pos (decide_eq_true h)]; exact h1 h
  · rw [if_neg (by rw [decide_eq_false h]; decide)]; exact h2 h
theorem iteE [Decidable c] (h1 : ¬ c → A) (h2 : c → B) : if (!decide c) = true then A else B := by
  by_cases h : c
  · rw [if_neg (by rw [decide_eq_true h]; decide)]; exact h2 h
  · rw [if_pos (by rw [decide_eq_false h]; rfl)]; exact h1 h
end
theorem int_ne {i j : Int} (h : ¬ V.int i = V.int j) : i ≠ j := fun e => h (congrArg V.int e)
theorem int_eq {i j : Int} (h : V.int i = V.int j) : i = j := by injection h
/-! ### numbers, points, turns among all values -/
def coprime (a b : Int) : Bool := decide (Nat.gcd a.natAbs b.natAbs = 1)
def isPair : List Da → Bool
  | [.int a, .int b] => decide (2 ≤ b) && coprime a b
  | _ => false
theorem isPair_len : ∀ l : List Da, l.length ≠ 2 → isPair l = false := by
  intro l h
  unfold isPair
  split
  · exact absurd rfl h
  · rfl
def isNum (d : Da) : Bool := isN d || (isS d && isPair (items d))
def isTwo : List Da → Bool
  | [a, b] => isNum a && isNum b
  | _ => false
def isPt (d : Da) : Bool := isS d && isTwo (items d)
/-- above and below the line -/
def above : Da → Int
  | .int i => i
  | .tup [.int a, _] => a
  | .lst [.int a, _] => a
  | _ => 0
def below : Da → Int
  | .int _ => 1
  | .tup [_, .int b] => b
  | .lst [_, .int b] => b
  | _ => 1
def onRing : List Da → Bool
  | [x, y] => decide ((above x * below y) ^ 2 + (above y * below x) ^ 2 = (below x * below y) ^ 2)
  | _ => false
def isTurn (d : Da) : Bool := isPt d && onRing (items d)
def optV : Option Int → V
  | none => .non
  | some i => .int i
def okLo (i : Int) : Option Int → Bool
  | none => true
  | some l => decide (l ≤ i)
def okHi (i : Int) : Option Int → Bool
  | none => true
  | some m => decide (i ≤ m)
def within (d : Da) (lo hi : Option Int) : Bool := match d with
  | .int i => okLo i lo && okHi i hi
  | _ => false
/-! ### promises -/
def spD (f : Da → Bool) : Sp := fun vs H Q _ => ∃ v d, vs = [v] ∧ Is H v d ∧ ∀ H', Same H H' → Q (.bl (f d)) H'
def spW : Sp := fun vs H Q _ => ∃ v d lo hi, vs = [v, optV lo, optV hi] ∧ Is H v d ∧ ∀ H', Same H H' → Q (.bl (within d lo hi)) H'
theorem isN_of {H : Hp} {v : V} {d : Da} (h : Is H v d) (e : isN d = true) : ∃ i, v = .int i ∧ d = .int i := by
  cases h with
  | int i => exact ⟨i, rfl, rfl⟩
  | _ => cases e
/-- the integers of a value are below 2 ^ n -/
def smallA (n : Nat) : List Da → Bool
  | [] => true
  | .int i :: l => decide (i.natAbs < 2 ^ n) && smallA n l
  | _ :: l => smallA n l
def small2 (n : Nat) : Da → Bool
  | .int i => decide (i.natAbs < 2 ^ n)
  | .tup l => smallA n l
  | .lst l => smallA n l
  | _ => true
def small3 (n : Nat) (d : Da) : Bool := (items d).all (small2 n)
/-- more bits than any integer has here -/
def huge : Nat := 200000
def spT : Sp := fun vs H Q _ => ∃ v d, vs = [v] ∧ Is H v d ∧ small3 huge d = true ∧ ∀ H', Same H H' → Q (.bl (isTurn d)) H'
/-- above and below of a number that stands there -/
theorem num_cases {H : Hp} {v : V} {d : Da} (h : Is H v d) (e : isNum d = true) : (∃ i, v = .int i ∧ d = .int i) ∨
    ∃ a i j, v = .ref a ∧ (H a = some (.tup [.int i, .int j]) ∧ d = .tup [.int i, .int j] ∨ H a = some (.lst [.int i, .int j]) ∧ d = .lst [.int i, .int j]) ∧ 2 ≤ j ∧ Nat.gcd i.natAbs j.natAbs = 1 := by
  have two : ∀ {xs : List V} {ds : List Da}, IsAll H xs ds → isPair ds = true → ∃ i j, xs = [.int i, .int j] ∧ ds = [.int i, .int j] ∧ 2 ≤ j ∧ Nat.gcd i.natAbs j.natAbs = 1 := by
    intro xs ds hx hp
    match ds, hp with
    | [.int a, .int b], hp =>
      have hp' : (decide (2 ≤ b) && coprime a b) = true := hp
      rw [Bool.and_eq_true] at hp'
      cases hx with
      | cons h1 hx =>
        cases hx with
        | cons h2 hx =>
          cases hx
          cases h1
          cases h2
          exact ⟨a, b, rfl, rfl, of_decide_eq_true hp'.1, of_decide_eq_true hp'.2⟩
  cases h with
  | int i => exact .inl ⟨i, rfl, rfl⟩
  | tup ha hx =>
    obtain ⟨i, j, rfl, rfl, h2, h3⟩ := two hx (by simpa [isNum, isN, isS, items] using e)
    exact .inr ⟨_, i, j, rfl, .inl ⟨ha, rfl⟩, h2, h3⟩
  | lst ha hx =>
    obtain ⟨i, j, rfl, rfl, h2, h3⟩ := two hx (by simpa [isNum, isN, isS, items] using e)
    exact .inr ⟨_, i, j, rfl, .inr ⟨ha, rfl⟩, h2, h3⟩
  | _ => cases e
/-- a number's two parts, given as a pair: a tuple, or the list itself -/
def spParts : Sp := fun vs H Q _ => ∃ v d, vs = [v] ∧ Is H v d ∧ isNum d = true ∧ ∀ H' p, Same H H' → (H' p = some (.tup [.int (above d), .int (below d)]) ∨ H' p = some (.lst [.int (above d), .int (below d)])) → Q (.ref p) H'
end Ty
namespace Ty
open PySem PySem.Spec PyProof.Rows L2
theorem dec_int (i j : Int) : decide (V.int i = V.int j) = decide (i = j) := by
  by_cases h : i = j
  · rw [decide_eq_true h]
    exact decide_eq_true (by rw [h])
  · rw [decide_eq_false h]
    exact decide_eq_false fun z => h (int_eq z)
/-- a number's two parts as a pair -/
def PtP (H : Hp) (u : V) (d : Da) : Prop := ∃ p, u = .ref p ∧ (H p = some (.tup [.int (above d), .int (below d)]) ∨ H p = some (.lst [.int (above d), .int (below d)]))
theorem PtP.up {H H' : Hp} {u : V} {d : Da} (h : PtP H u d) (s : Same H H') : PtP H' u d := by
  obtain ⟨p, rfl, h | h⟩ := h
  · exact ⟨p, rfl, .inl (s _ _ h)⟩
  · exact ⟨p, rfl, .inr (s _ _ h)⟩
theorem PtP.upd {H : Hp} {u : V} {d : Da} {D : Addr} {o : HO} {acc : List V} (h : PtP H u d) (hD : H D = some (.lst acc)) (hl : acc.length ≠ 2) : PtP (L2.upd H D o) u d := by
  obtain ⟨p, rfl, h | h⟩ := h
  · refine ⟨p, rfl, .inl ?_⟩
    rw [upd_ne (ne_of h hD (by intro z; cases z))]
    exact h
  · refine ⟨p, rfl, .inr ?_⟩
    rw [upd_ne (fun z => by
      rw [z, hD] at h
      injection h with h
      injection h with h
      exact hl (by rw [h]; rfl))]
    exact h
theorem un2 {K : PySem.W.Frag} {H : Hp} {u : V} {d : Da} {i j : Nat} {σ : L2.St} {Q : L2.St → Hp → Prop} (h : PtP H u d) (q : Q ((σ.set i (some (.int (above d)))).set j (some (.int (below d)))) H) :
    gUnl K 2 (gCons (gName i) (gCons (gName j) gNil)) u σ H Q ∨ gTup K 2 (gCons (gName i) (gCons (gName j) gNil)) u σ H Q := by
  obtain ⟨p, rfl, h | h⟩ := h
  · exact .inr ⟨p, _, rfl, .inl (.inl h), rfl, _, _, rfl, _, _, rfl, rfl, q⟩
  · exact .inl ⟨p, _, rfl, .inl (.inl h), rfl, _, _, rfl, _, _, rfl, rfl, q⟩
theorem parts_small {n : Nat} {d : Da} (h0 : 0 < n) (h : isNum d = true) (hs : small2 n d = true) : (above d).natAbs < 2 ^ n ∧ (below d).natAbs < 2 ^ n := by
  have one : (1 : Int).natAbs < 2 ^ n := Nat.one_lt_two_pow (by omega)
  match d, h, hs with
  | .int i, _, hs => exact ⟨of_decide_eq_true hs, one⟩
  | .tup [.int a, .int b], _, hs =>
    have hs' : (decide (a.natAbs < 2 ^ n) && (decide (b.natAbs < 2 ^ n) && true)) = true := hs
    rw [Bool.and_eq_true, Bool.and_eq_true] at hs'
    exact ⟨of_decide_eq_true hs'.1, of_decide_eq_true hs'.2.1⟩
  | .lst [.int a, .int b], _, hs =>
    have hs' : (decide (a.natAbs < 2 ^ n) && (decide (b.natAbs < 2 ^ n) && true)) = true := hs
    rw [Bool.and_eq_true, Bool.and_eq_true] at hs'
    exact ⟨of_decide_eq_true hs'.1, of_decide_eq_true hs'.2.1⟩
theorem pow_ok {i : Int} {a : Nat} (h : i.natAbs < 2 ^ a) (h0 : 0 < a) (ha : a ≤ 1000000) : CPowW i 2 :=
  ⟨by decide, by decide, Nat.lt_of_lt_of_le (PySem.Flt.log2_lt_of h0 h) ha⟩
theorem Same.mut {H H' : Hp} {p : Addr} {o : HO} (e : Same H H') (h : H p = none) : Same H (upd H' p o) := fun a u ha => by
  rw [upd_ne (ne_of_none ha h)]
  exact e a u ha
theorem isPt_of {d : Da} (h : isPt d = true) : isS d = true ∧ ∃ x y, items d = [x, y] ∧ isNum x = true ∧ isNum y = true := by
  have h' : (isS d && isTwo (items d)) = true := h
  rw [Bool.and_eq_true] at h'
  refine ⟨h'.1, ?_⟩
  have h2 := h'.2
  match items d, h2 with
  | [x, y], h2 =>
    have h3 : (isNum x && isNum y) = true := h2
    rw [Bool.and_eq_true] at h3
    exact ⟨x, y, rfl, h3.1, h3.2⟩
theorem IsAll.two {H : Hp} {xs : List V} {x y : Da} (h : IsAll H xs [x, y]) : ∃ u v, xs = [u, v] ∧ Is H u x ∧ Is H v y := by
  cases h with
  | cons h1 h =>
    cases h with
    | cons h2 h =>
      cases h
      exact ⟨_, _, rfl, h1, h2⟩
end Ty

namespace Ty
open PySem PySem.Spec PyProof.Rows L2
/-! ### what is drawn from: one list that changes, all else stays -/
/-- the heap without some addresses -/
def mn (S : Addr → Bool) (H : Hp) : Hp := fun b => if S b = true then none else H b
theorem mn_at {S : Addr → Bool} {H : Hp} {b : Addr} (h : S b = false) : mn S H b = H b := if_neg (by rw [h]; decide)
theorem mn_of {S : Addr → Bool} {H : Hp} {b : Addr} {o : HO} (h : mn S H b = some o) : S b = false ∧ H b = some o := by
  cases e : S b with
  | true =>
    have z : mn S H b = none := if_pos e
    rw [z] at h
    cases h
  | false => exact ⟨rfl, (mn_at e).symm.trans h⟩
theorem mn_same {S : Addr → Bool} {H : Hp} : Same (mn S H) H := fun _ _ h => (mn_of h).2
/-- they all stand -/
def Live (S : Addr → Bool) (H : Hp) : Prop := ∀ b, S b = true → H b ≠ none
theorem mn_put {S : Addr → Bool} {H : Hp} {p : Addr} {o : HO} (l : Live S H) (h : H p = none) : mn S (upd H p o) p = some o := by
  have e : S p = false := by
    cases e : S p with
    | false => rfl
    | true => exact absurd h (l p e)
  rw [mn_at e]
  exact upd_same
theorem Same.less {S : Addr → Bool} {H H' : Hp} (s : Same H H') : Same (mn S H) (mn S H') := fun b o h => by
  obtain ⟨h1, h2⟩ := mn_of h
  rw [mn_at h1]
  exact s _ _ h2
/-- what is not the list at j stays -/
def Keep (j : Addr) (H H' : Hp) : Prop := ∀ b o, b ≠ j → H b = some o → H' b = some o
theorem Keep.refl {j : Addr} (H : Hp) : Keep j H H := fun _ _ _ h => h
theorem Keep.trans {j : Addr} {H H1 H2 : Hp} (a : Keep j H H1) (b : Keep j H1 H2) : Keep j H H2 := fun c o h e => b c o h (a c o h e)
theorem Same.keep {j : Addr} {H H' : Hp} (s : Same H H') : Keep j H H' := fun b o _ h => s b o h
theorem keep_upd {H : Hp} {j : Addr} {o : HO} : Keep j H (upd H j o) := fun b u h e => by
  rw [upd_ne h]
  exact e
theorem Keep.less {S : Addr → Bool} {j : Addr} {H H' : Hp} (k : Keep j H H') (hj : S j = true) : Same (mn S H) (mn S H') := fun b o h => by
  obtain ⟨h1, h2⟩ := mn_of h
  rw [mn_at h1]
  exact k b o (fun z => by rw [z, hj] at h1; cases h1) h2
/-- the list at j: the cells, how many were begun (n at most), what is left of a great one -/
def Jar (j b : Addr) (H : Hp) (n : Nat) : Prop := ∃ (cells : List Int) (at_ left : Int), H j = some (.lst [.ref b, .int at_, .int left]) ∧ H b = some (.lst (cells.map V.int)) ∧ b ≠ j ∧ 0 ≤ at_ ∧ at_ ≤ (n : Int)
theorem Jar.up {j bk : Addr} {H H' : Hp} {n : Nat} (h : Jar j bk H n) (s : Same H H') : Jar j bk H' n := by
  obtain ⟨cells, a, l, h1, h2, h3, h4⟩ := h
  exact ⟨cells, a, l, s _ _ h1, s _ _ h2, h3, h4⟩
theorem Live.up {S : Addr → Bool} {j bk : Addr} {H H' : Hp} {n : Nat} (l : Live S H) (k : Keep j H H') (J : Jar j bk H' n) : Live S H' := fun b hb => by
  by_cases e : b = j
  · subst e
    obtain ⟨cells, a, lf, h1, _⟩ := J
    rw [h1]
    exact nofun
  · cases q : H b with
    | none => exact absurd q (l b hb)
    | some o =>
      rw [k b o e q]
      exact nofun
theorem Jar.put {j bk a : Addr} {H : Hp} {n : Nat} {o : HO} (h : Jar j bk H n) (h1 : a ≠ j) (h2 : a ≠ bk) : Jar j bk (upd H a o) n := by
  obtain ⟨cells, at_, l, e1, e2, e3⟩ := h
  refine ⟨cells, at_, l, ?_, ?_, e3⟩
  · rw [upd_ne h1.symm]
    exact e1
  · rw [upd_ne h2.symm]
    exact e2
theorem Jar.newB {j bk p : Addr} {H : Hp} {n : Nat} (h : Jar j bk H n) (hp : H p = none) : p ≠ bk := by
  obtain ⟨cells, at_, l, _, h1, _⟩ := h
  exact fun e => by rw [e, h1] at hp; cases hp
theorem Jar.le {j bk : Addr} {H : Hp} {n m : Nat} (h : Jar j bk H n) (s : n ≤ m) : Jar j bk H m := by
  obtain ⟨cells, a, l, h1, h2, h3, h4, h5⟩ := h
  exact ⟨cells, a, l, h1, h2, h3, h4, by omega⟩
theorem Jar.new {j bk p : Addr} {H : Hp} {n : Nat} (h : Jar j bk H n) (hp : H p = none) : p ≠ j := by
  obtain ⟨cells, a, l, h1, _⟩ := h
  exact fun e => by rw [e, h1] at hp; cases hp
/-- an integer from 0 below many -/
def spReach : Sp := fun vs H Q _ => ∃ (j bk : Addr) (many : Int) (n : Nat), vs = [.ref j, .int many] ∧ Jar j bk H n ∧ n ≤ 100000 ∧ 0 < many ∧ many.natAbs < 2 ^ 8000 ∧
  ∀ (r : Int) (H' : Hp), Keep j H H' → Jar j bk H' (n + 1) → 0 ≤ r → r < many → Q (.int r) H'
/-- one of some things -/
def spPick : Sp := fun vs H Q _ => ∃ (j bk p : Addr) (xs : List V) (n : Nat), vs = [.ref j, .ref p] ∧ Jar j bk H n ∧ n ≤ 100000 ∧ H p = some (.lst xs) ∧ p ≠ j ∧ 0 < xs.length ∧ xs.length ≤ 1000 ∧
  ∀ (v : V) (H' : Hp), Keep j H H' → Jar j bk H' (n + 1) → v ∈ xs → Q v H'
/-- what draws, made of the script -/
def spSack (K : PySem.W.Frag) : Sp := fun vs H Q _ => ∃ (a : Addr) (ns : List Int), vs = [.ref a] ∧ SqL K H a (ns.map V.int) ∧ ns.length ≤ 1000 ∧
  ∀ (j bk : Addr) (H' : Hp), Same H H' → H j = none → H bk = none → Jar j bk H' 0 → Q (.ref j) H'
theorem mod_lt_of {a b : Int} (h : 0 < b) : 0 ≤ a % b ∧ a % b < b := ⟨Int.emod_nonneg _ (by omega), Int.emod_lt_of_pos _ h⟩
theorem atI_of {xs : List V} {i : Int} {v : V} {n : Nat} (h0 : 0 ≤ i) (hn : i.toNat = n) (h : xs[n]? = some v) : atI xs i = some v := by
  have e : i = ((n : Nat) : Int) := by omega
  rw [e]
  exact atI_nat h
theorem cut_ints (ns : List Int) (lo hi : Option Int) : ∃ ms : List Int, cutV (ns.map V.int) lo hi = ms.map V.int ∧ ms.length ≤ ns.length := by
  refine ⟨(ns.drop (HT.sIx (ns.map V.int).length 0 lo)).take (HT.sIx (ns.map V.int).length (ns.map V.int).length hi - HT.sIx (ns.map V.int).length 0 lo), ?_, ?_⟩
  · unfold cutV
    rw [List.map_take, List.map_drop]
  · rw [List.length_take, List.length_drop]
    omega
end Ty

namespace Ty
open PySem PySem.Spec PyProof.Rows L2
/-! ### drawing: an expression that may draw from the list at j; S: what is out of the data (j is) -/
/-- from any heap behind H0 the expression gives a value of which P holds; c draws at most -/
def Dr (S : Addr → Bool) (j bk : Addr) (H0 : Hp) (c : Nat) (σ : L2.St) (te : TE) (P : Da → Prop) : Prop := ∀ (H : Hp) (n : Nat) (Q : VK), Keep j H0 H → Live S H → Jar j bk H n → n + c ≤ 100000 →
  (∀ v d H', Keep j H H' → Live S H' → Jar j bk H' (n + c) → Is (mn S H') v d → P d → Q v H') → te σ H Q
def DrA (S : Addr → Bool) (j bk : Addr) (H0 : Hp) (c : Nat) (σ : L2.St) (ta : TA) (P : List Da → Prop) : Prop := ∀ (H : Hp) (n : Nat) (Q : List V → Hp → Prop), Keep j H0 H → Live S H → Jar j bk H n → n + c ≤ 100000 →
  (∀ vs ds H', Keep j H H' → Live S H' → Jar j bk H' (n + c) → IsAll (mn S H') vs ds → P ds → Q vs H') → ta σ H Q
/-- a test -/
def DrT (S : Addr → Bool) (j bk : Addr) (H0 : Hp) (c : Nat) (σ : L2.St) (tt : TT) (P : Bool → Prop) : Prop := ∀ (H : Hp) (n : Nat) (Q : Bool → Hp → Prop), Keep j H0 H → Live S H → Jar j bk H n → n + c ≤ 100000 →
  (∀ b H', Keep j H H' → Live S H' → Jar j bk H' (n + c) → P b → Q b H') → tt σ H Q
theorem Live.more {S : Addr → Bool} {H H' : Hp} (l : Live S H) (s : Same H H') : Live S H' := fun b hb z => by
  cases q : H b with
  | none => exact l b hb q
  | some o =>
    rw [s b o q] at z
    cases z
section
variable {S : Addr → Bool} {j bk : Addr} {H0 H : Hp} {c c1 c2 n : Nat} {σ : L2.St} {te ta tb : TE} {tr : TA} {tt : TT} {P P1 P2 : Da → Prop} {K : PySem.W.Frag}
theorem Dr.imp (h : Dr S j bk H0 c σ te P) (g : ∀ d, P d → P1 d) : Dr S j bk H0 c σ te P1 := fun H n Q kp lv J hn k => h H n Q kp lv J hn fun v d H' kp' lv' J' hi hp => k v d H' kp' lv' J' hi (g d hp)
theorem Dr.later (h : Dr S j bk H0 c σ te P) (kp : Keep j H0 H) : Dr S j bk H c σ te P := fun H1 n Q kp1 lv J hn k => h H1 n Q (kp.trans kp1) lv J hn k
theorem Dr.more (h : Dr S j bk H0 c σ te P) (hc : c ≤ c1) : Dr S j bk H0 c1 σ te P := fun H n Q kp lv J hn k => h H n Q kp lv J (by omega) fun v d H' kp' lv' J' hi hp => k v d H' kp' lv' (J'.le (by omega)) hi hp
theorem dr_non : Dr S j bk H0 0 σ (tC .non) (· = .non) := fun H n Q kp lv J hn k => k _ _ H (Keep.refl _) lv J .non rfl
theorem dr_bl {b : Bool} : Dr S j bk H0 0 σ (tC (.bl b)) (· = .bl b) := fun H n Q kp lv J hn k => k _ _ H (Keep.refl _) lv J (.bl b) rfl
theorem dr_int {i : Int} : Dr S j bk H0 0 σ (tC (.int i)) (· = .int i) := fun H n Q kp lv J hn k => k _ _ H (Keep.refl _) lv J (.int i) rfl
theorem dr_str {x : Str} : Dr S j bk H0 0 σ (tC (.str x)) (· = .str x) := fun H n Q kp lv J hn k => k _ _ H (Keep.refl _) lv J (.str x) rfl
theorem dr_var {i : Nat} {v : V} {d : Da} (hj : S j = true) (h : σ[i]? = some (some v)) (hv : Is (mn S H0) v d) : Dr S j bk H0 0 σ (tVar i) (· = d) := fun H n Q kp lv J hn k => ⟨v, h, k _ _ H (Keep.refl _) lv J (hv.up (kp.less hj)) rfl⟩
theorem dr_varI {i : Nat} {z : Int} (h : σ[i]? = some (some (.int z))) : Dr S j bk H0 0 σ (tVar i) (· = .int z) := fun H n Q kp lv J hn k => ⟨_, h, k _ _ H (Keep.refl _) lv J (.int z) rfl⟩
theorem drA_nil : DrA S j bk H0 0 σ tNil (· = []) := fun H n Q kp lv J hn k => k _ _ H (Keep.refl _) lv J .nil rfl
theorem drA_cons {P2 : List Da → Prop} (hj : S j = true) (h : Dr S j bk H0 c1 σ te P) (hr : DrA S j bk H0 c2 σ tr P2) : DrA S j bk H0 (c1 + c2) σ (tCons te tr) (fun ds => ∃ d r, ds = d :: r ∧ P d ∧ P2 r) := fun H n Q kp lv J hn k =>
  h H n _ kp lv J (by omega) fun v d H1 k1 l1 J1 h1 p1 => hr H1 (n + c1) _ (kp.trans k1) l1 J1 (by omega) fun vs ds H2 k2 l2 J2 h2 p2 => k _ _ H2 (k1.trans k2) l2 (by rwa [Nat.add_assoc] at J2) (.cons (h1.up (k2.less hj)) h2) ⟨d, ds, rfl, p1, p2⟩
theorem dr_tup {P2 : List Da → Prop} (h : DrA S j bk H0 c σ tr P2) (hl : ∀ ds, P2 ds → ds.length ≤ 1000) : Dr S j bk H0 c σ (tTup tr) (fun d => ∃ ds, d = .tup ds ∧ P2 ds) := fun H n Q kp lv J hn k =>
  h H n _ kp lv J hn fun vs ds H1 k1 l1 J1 h1 p1 => ⟨by rw [h1.length]; exact Nat.le_trans (hl ds p1) (by decide), fun p hp =>
    k _ _ _ (k1.trans (Same.keep (Same.new hp))) (l1.more (Same.new hp)) (J1.up (Same.new hp)) (.tup (mn_put l1 hp) (h1.up (Same.less (Same.new hp)))) ⟨ds, rfl, p1⟩⟩
theorem dr_lst {P2 : List Da → Prop} (h : DrA S j bk H0 c σ tr P2) (hl : ∀ ds, P2 ds → ds.length ≤ 1000) : Dr S j bk H0 c σ (tLst tr) (fun d => ∃ ds, d = .lst ds ∧ P2 ds) := fun H n Q kp lv J hn k =>
  h H n _ kp lv J hn fun vs ds H1 k1 l1 J1 h1 p1 => ⟨by rw [h1.length]; exact Nat.le_trans (hl ds p1) (by decide), fun p hp =>
    k _ _ _ (k1.trans (Same.keep (Same.new hp))) (l1.more (Same.new hp)) (J1.up (Same.new hp)) (.lst (mn_put l1 hp) (h1.up (Same.less (Same.new hp)))) ⟨ds, rfl, p1⟩⟩
theorem dr_dict : Dr S j bk H0 0 σ tDNewK (· = .dic) := fun H n Q kp lv J hn k p hp =>
  k _ _ _ (Same.keep (Same.new hp)) (lv.more (Same.new hp)) (J.up (Same.new hp)) (.dic (mn_put lv hp)) rfl
/-- an operation on two integers -/
theorem dr_op {C : Int → Int → Prop} {g : Int → Int → Int} {Pa Pb : Int → Prop} (ha : Dr S j bk H0 c1 σ ta (fun d => ∃ i, d = .int i ∧ Pa i)) (hb : Dr S j bk H0 c2 σ tb (fun d => ∃ i, d = .int i ∧ Pb i)) (hc : ∀ a b, Pa a → Pb b → C a b) :
    Dr S j bk H0 (c1 + c2) σ (tOp (rI C fun i j => .int (g i j)) ta tb) (fun d => ∃ i, d = .int i ∧ ∃ a b, Pa a ∧ Pb b ∧ i = g a b) := fun H n Q kp lv J hn k =>
  ha H n _ kp lv J (by omega) fun v d H1 k1 l1 J1 h1 p1 => hb H1 (n + c1) _ (kp.trans k1) l1 J1 (by omega) fun u e H2 k2 l2 J2 h2 p2 => by
    obtain ⟨a, rfl, pa⟩ := p1
    obtain ⟨b, rfl, pb⟩ := p2
    cases h1
    cases h2
    exact ⟨a, b, rfl, rfl, hc a b pa pb, k _ _ H2 (k1.trans k2) l2 (by rwa [Nat.add_assoc] at J2) (.int _) ⟨_, rfl, a, b, pa, pb, rfl⟩⟩
theorem dr_op0 {g : Int → Int → Int} {Pa Pb : Int → Prop} (ha : Dr S j bk H0 c1 σ ta (fun d => ∃ i, d = .int i ∧ Pa i)) (hb : Dr S j bk H0 c2 σ tb (fun d => ∃ i, d = .int i ∧ Pb i)) :
    Dr S j bk H0 (c1 + c2) σ (tOp (rI0 fun i j => .int (g i j)) ta tb) (fun d => ∃ i, d = .int i ∧ ∃ a b, Pa a ∧ Pb b ∧ i = g a b) := fun H n Q kp lv J hn k =>
  ha H n _ kp lv J (by omega) fun v d H1 k1 l1 J1 h1 p1 => hb H1 (n + c1) _ (kp.trans k1) l1 J1 (by omega) fun u e H2 k2 l2 J2 h2 p2 => by
    obtain ⟨a, rfl, pa⟩ := p1
    obtain ⟨b, rfl, pb⟩ := p2
    cases h1
    cases h2
    exact ⟨a, b, rfl, rfl, k _ _ H2 (k1.trans k2) l2 (by rwa [Nat.add_assoc] at J2) (.int _) ⟨_, rfl, a, b, pa, pb, rfl⟩⟩
theorem dr_neg {i : Int} : Dr S j bk H0 0 σ (tUn (rU fun i => .int (-i)) (tC (.int i))) (· = .int (-i)) := fun H n Q kp lv J hn k => ⟨i, rfl, k _ _ H (Keep.refl _) lv J (.int _) rfl⟩
theorem dr_pow {a b : Int} (h : CPow a b) : Dr S j bk H0 0 σ (tOp (rI CPow fun i j => .int (i ^ j.toNat)) (tC (.int a)) (tC (.int b))) (· = .int (a ^ b.toNat)) := fun H n Q kp lv J hn k => ⟨a, b, rfl, rfl, h, k _ _ H (Keep.refl _) lv J (.int _) rfl⟩
theorem dr_cI {i : Int} : Dr S j bk H0 0 σ (tC (.int i)) (fun d => ∃ z, d = .int z ∧ z = i) := dr_int.imp fun d h => ⟨i, h, rfl⟩
theorem dr_vI {i : Nat} {z : Int} (h : σ[i]? = some (some (.int z))) : Dr S j bk H0 0 σ (tVar i) (fun d => ∃ y, d = .int y ∧ y = z) := (dr_varI h).imp fun d h => ⟨z, h, rfl⟩
/-- a draw: f(jar, many) -/
theorem dr_reach {i : Nat} {many : Int} (h : σ[i]? = some (some (.ref j))) (hp : 0 < many) (hb : many.natAbs < 2 ^ 8000) : Dr S j bk H0 1 σ (tCall spReach [] E0 (tCons (tVar i) (tCons (tC (.int many)) tNil))) (fun d => ∃ r, d = .int r ∧ 0 ≤ r ∧ r < many) := fun H n Q kp lv J hn k =>
  ⟨_, h, j, bk, many, n, rfl, J, by omega, hp, hb, fun r H' k1 J1 h0 h1 => k _ _ H' k1 (lv.up k1 J1) J1 (.int r) ⟨r, rfl, h0, h1⟩⟩
/-- one of some things -/
theorem dr_pick {i : Nat} {P2 : List Da → Prop} (hj : S j = true) (h : σ[i]? = some (some (.ref j))) (hr : DrA S j bk H0 c σ tr P2) (hl : ∀ ds, P2 ds → 0 < ds.length ∧ ds.length ≤ 1000) :
    Dr S j bk H0 (c + 1) σ (tCall spPick [] E0 (tCons (tVar i) (tCons (tLst tr) tNil))) (fun d => ∃ ds, P2 ds ∧ d ∈ ds) := fun H n Q kp lv J hn k =>
  ⟨_, h, hr H n _ kp lv J (by omega) fun vs ds H1 k1 l1 J1 h1 p1 => ⟨by rw [h1.length]; exact Nat.le_trans (hl ds p1).2 (by decide), fun p hp => by
    have hpj := J1.new hp
    have s1 : Same H1 (upd H1 p (.lst vs)) := Same.new hp
    have hl1 := hl ds p1
    have hl2 := h1.length
    refine ⟨j, bk, p, vs, n + c, rfl, J1.up s1, by omega, upd_same, hpj, by omega, by omega, fun v H' k2 J2 hv => ?_⟩
    obtain ⟨i, hi⟩ := List.getElem?_of_mem hv
    obtain ⟨d, hd, hi2⟩ := h1.at hi
    have k3 : Keep j H1 H' := (Same.keep s1).trans k2
    exact k v d H' (k1.trans k3) (l1.up k3 J2) (by rwa [Nat.add_assoc] at J2) (hi2.up (k3.less hj)) ⟨ds, p1, List.mem_of_getElem? hd⟩⟩⟩
/-- if, between two expressions -/
theorem dr_if {PT : Bool → Prop} (h : DrT S j bk H0 c1 σ tt PT) (ha : ∀ H1, Keep j H0 H1 → PT true → Dr S j bk H1 c2 σ ta P) (hb : ∀ H1, Keep j H0 H1 → PT false → Dr S j bk H1 c2 σ tb P) : Dr S j bk H0 (c1 + c2) σ (tIf tt ta tb) P := fun H n Q kp lv J hn k =>
  h H n _ kp lv J (by omega) fun b H1 k1 l1 J1 p1 => by
    have fin : ∀ v d H', Keep j H1 H' → Live S H' → Jar j bk H' (n + c1 + c2) → Is (mn S H') v d → P d → Q v H' := fun v d H' k2 l2 J2 h2 p2 => k v d H' (k1.trans k2) l2 (by rwa [Nat.add_assoc] at J2) h2 p2
    cases b with
    | true => exact ha H1 (kp.trans k1) p1 H1 (n + c1) Q (Keep.refl _) l1 J1 (by omega) fin
    | false => exact hb H1 (kp.trans k1) p1 H1 (n + c1) Q (Keep.refl _) l1 J1 (by omega) fin
/-- a comparison of two integers -/
theorem drT_cmp {g : Int → Int → Bool} {Pa Pb : Int → Prop} (ha : Dr S j bk H0 c1 σ ta (fun d => ∃ i, d = .int i ∧ Pa i)) (hb : Dr S j bk H0 c2 σ tb (fun d => ∃ i, d = .int i ∧ Pb i)) :
    DrT S j bk H0 (c1 + c2) σ (tTest (tOp (rI0 fun i j => .bl (g i j)) ta tb)) (fun k => ∃ a b, Pa a ∧ Pb b ∧ k = g a b) := fun H n Q kp lv J hn k =>
  ha H n _ kp lv J (by omega) fun v d H1 k1 l1 J1 h1 p1 => hb H1 (n + c1) _ (kp.trans k1) l1 J1 (by omega) fun u e H2 k2 l2 J2 h2 p2 => by
    obtain ⟨a, rfl, pa⟩ := p1
    obtain ⟨b, rfl, pb⟩ := p2
    cases h1
    cases h2
    exact ⟨a, b, rfl, rfl, _, rfl, k _ H2 (k1.trans k2) l2 (by rwa [Nat.add_assoc] at J2) ⟨a, b, pa, pb, rfl⟩⟩
theorem drT_eq {Pa Pb : Int → Prop} (ha : Dr S j bk H0 c1 σ ta (fun d => ∃ i, d = .int i ∧ Pa i)) (hb : Dr S j bk H0 c2 σ tb (fun d => ∃ i, d = .int i ∧ Pb i)) :
    DrT S j bk H0 (c1 + c2) σ (tTest (tOp rEq ta tb)) (fun k => ∃ a b, Pa a ∧ Pb b ∧ k = decide (a = b)) := fun H n Q kp lv J hn k =>
  ha H n _ kp lv J (by omega) fun v d H1 k1 l1 J1 h1 p1 => hb H1 (n + c1) _ (kp.trans k1) l1 J1 (by omega) fun u e H2 k2 l2 J2 h2 p2 => by
    obtain ⟨a, rfl, pa⟩ := p1
    obtain ⟨b, rfl, pb⟩ := p2
    cases h1
    cases h2
    exact ⟨rfl, _, rfl, k _ H2 (k1.trans k2) l2 (by rwa [Nat.add_assoc] at J2) ⟨a, b, pa, pb, dec_int a b⟩⟩
/-- list(pair): a new list of a tuple's items -/
theorem dr_listOf {i : Nat} {v : V} {ds : List Da} (hj : S j = true) (h : σ[i]? = some (some v)) (hv : Is (mn S H0) v (.tup ds)) :
    Dr S j bk H0 0 σ (tCB (fun xs H Q => ∃ p ys, xs = [.ref p] ∧ (SqL K H p ys ∨ SqT K H p ys) ∧ ∀ l, H l = none → Q (.ref l) (upd H l (.lst ys))) (tCons (tVar i) tNil)) (· = .lst ds) := fun H n Q kp lv J hn k => by
  have hv' := hv.up (kp.less hj)
  cases hv' with
  | tup e hx =>
    refine ⟨_, h, _, _, rfl, .inr (.inl (.inl (mn_same _ _ e))), fun l hl => ?_⟩
    exact k _ _ _ (Same.keep (Same.new hl)) (lv.more (Same.new hl)) (J.up (Same.new hl)) (.lst (mn_put lv hl) (hx.up (Same.less (Same.new hl)))) rfl
/-! statements -/
theorem dr_asg {i : Nat} {tz : TS} {D : Ends} (h : Dr S j bk H c σ te P) (lv : Live S H) (J : Jar j bk H n) (hn : n + c ≤ 100000) (k : ∀ v d H', Keep j H H' → Live S H' → Jar j bk H' (n + c) → Is (mn S H') v d → P d → tz D (σ.set i (some v)) H') : tSeq (tAsg te (gName i)) tz D σ H :=
  h H n _ (Keep.refl _) lv J hn k
theorem dr_ret {D : Ends} (h : Dr S j bk H c σ te P) (lv : Live S H) (J : Jar j bk H n) (hn : n + c ≤ 100000) (k : ∀ v d H', Keep j H H' → Live S H' → Jar j bk H' (n + c) → Is (mn S H') v d → P d → D.rt v H') : tRet te D σ H :=
  h H n _ (Keep.refl _) lv J hn k
theorem dr_par {i l : Nat} {tz : TS} {D : Ends} {Pa Pb : Da → Prop} (hj : S j = true) (ha : Dr S j bk H c1 σ ta Pa) (hb : Dr S j bk H c2 σ tb Pb) (lv : Live S H) (J : Jar j bk H n) (hn : n + (c1 + c2) ≤ 100000)
    (k : ∀ v d u e H', Keep j H H' → Live S H' → Jar j bk H' (n + (c1 + c2)) → Is (mn S H') v d → Pa d → Is (mn S H') u e → Pb e → tz D ((σ.set i (some v)).set l (some u)) H') : tSeq (tPar i l (tCons ta (tCons tb tNil))) tz D σ H :=
  ha H n _ (Keep.refl _) lv J (by omega) fun v d H1 k1 l1 J1 h1 p1 => hb H1 (n + c1) _ k1 l1 J1 (by omega) fun u e H2 k2 l2 J2 h2 p2 => ⟨v, u, rfl, k v d u e H2 (k1.trans k2) l2 (by rwa [Nat.add_assoc] at J2) (h1.up (k2.less hj)) p1 h2 p2⟩
/-- an if whose test draws -/
theorem dr_ifS {PT : Bool → Prop} {tu tw : TS} {D : Ends} (h : DrT S j bk H c σ tt PT) (lv : Live S H) (J : Jar j bk H n) (hn : n + c ≤ 100000) (h1 : ∀ H', Keep j H H' → Live S H' → Jar j bk H' (n + c) → PT true → tu D σ H') (h2 : ∀ H', Keep j H H' → Live S H' → Jar j bk H' (n + c) → PT false → tw D σ H') : tIfS tt tu tw D σ H :=
  h H n _ (Keep.refl _) lv J hn fun b H' k' l' J' p => by
    cases b with
    | true => exact h1 H' k' l' J' p
    | false => exact h2 H' k' l' J' p
theorem dr_when {PT : Bool → Prop} {tu tz : TS} {D : Ends} (h : DrT S j bk H c σ tt PT) (lv : Live S H) (J : Jar j bk H n) (hn : n + c ≤ 100000) (h1 : ∀ H', Keep j H H' → Live S H' → Jar j bk H' (n + c) → PT true → tu { D with nx := tz D } σ H') (h2 : ∀ H', Keep j H H' → Live S H' → Jar j bk H' (n + c) → PT false → tz D σ H') : tSeq (tIfS tt tu tNext) tz D σ H :=
  dr_ifS h lv J hn h1 h2
end
/-- what is out of the data, j alone -/
def only (j : Addr) : Addr → Bool := fun b => decide (b = j)
theorem only_self {j : Addr} : only j j = true := decide_eq_true rfl
theorem only_live {j bk : Addr} {H : Hp} {n : Nat} (J : Jar j bk H n) : Live (only j) H := fun b hb => by
  have e : b = j := of_decide_eq_true hb
  subst e
  obtain ⟨cells, a, l, h, _⟩ := J
  rw [h]
  exact nofun
end Ty
namespace Ty
open PySem PySem.Spec PyProof.Rows L2
section
variable {S : Addr → Bool} {j bk : Addr} {H0 H : Hp} {c c1 c2 n : Nat} {σ : L2.St} {te ta tb : TE} {tr : TA} {d : Da} {ds : List Da}
theorem drA_consE (hj : S j = true) (h : Dr S j bk H0 0 σ te (· = d)) (hr : DrA S j bk H0 0 σ tr (· = ds)) : DrA S j bk H0 0 σ (tCons te tr) (· = d :: ds) := fun H n Q kp lv J hn k =>
  drA_cons hj h hr H n Q kp lv J hn fun vs es H' k' l' J' h' p' => by
    obtain ⟨_, _, rfl, rfl, rfl⟩ := p'
    exact k vs _ H' k' l' J' h' rfl
theorem dr_tupE (h : DrA S j bk H0 0 σ tr (· = ds)) (hl : ds.length ≤ 1000) : Dr S j bk H0 0 σ (tTup tr) (· = .tup ds) := (dr_tup h fun _ e => by rw [e]; exact hl).imp fun d ⟨_, e1, e2⟩ => by rw [e1, e2]
theorem dr_lstE (h : DrA S j bk H0 0 σ tr (· = ds)) (hl : ds.length ≤ 1000) : Dr S j bk H0 0 σ (tLst tr) (· = .lst ds) := (dr_lst h fun _ e => by rw [e]; exact hl).imp fun d ⟨_, e1, e2⟩ => by rw [e1, e2]
/-- one of written things -/
theorem dr_pickE {i : Nat} (hj : S j = true) (h : σ[i]? = some (some (.ref j))) (hr : DrA S j bk H0 0 σ tr (· = ds)) (hl : 0 < ds.length) (hl2 : ds.length ≤ 1000) :
    Dr S j bk H0 1 σ (tCall spPick [] E0 (tCons (tVar i) (tCons (tLst tr) tNil))) (· ∈ ds) := (dr_pick hj h hr fun _ e => by rw [e]; exact ⟨hl, hl2⟩).imp fun d ⟨_, e1, e2⟩ => by rwa [← e1]
theorem dr_opE {C : Int → Int → Prop} {g : Int → Int → Int} {a b : Int} (ha : Dr S j bk H0 c1 σ ta (· = .int a)) (hb : Dr S j bk H0 c2 σ tb (· = .int b)) (hc : C a b) :
    Dr S j bk H0 (c1 + c2) σ (tOp (rI C fun i j => .int (g i j)) ta tb) (· = .int (g a b)) :=
  (dr_op (Pa := (· = a)) (Pb := (· = b)) (ha.imp fun d e => ⟨a, e, rfl⟩) (hb.imp fun d e => ⟨b, e, rfl⟩) fun _ _ e1 e2 => by rw [e1, e2]; exact hc).imp fun d ⟨i, e, _, _, e1, e2, e3⟩ => by rw [e, e3, e1, e2]
theorem dr_op0E {g : Int → Int → Int} {a b : Int} (ha : Dr S j bk H0 c1 σ ta (· = .int a)) (hb : Dr S j bk H0 c2 σ tb (· = .int b)) :
    Dr S j bk H0 (c1 + c2) σ (tOp (rI0 fun i j => .int (g i j)) ta tb) (· = .int (g a b)) :=
  (dr_op0 (Pa := (· = a)) (Pb := (· = b)) (ha.imp fun d e => ⟨a, e, rfl⟩) (hb.imp fun d e => ⟨b, e, rfl⟩)).imp fun d ⟨i, e, _, _, e1, e2, e3⟩ => by rw [e, e3, e1, e2]
end
end Ty

namespace Ty
open PySem PySem.Spec PyProof.Rows L2
/-- [x for x in xs if test]: whether anything is in it -/
theorem r_filter {K : PySem.W.Frag} {l i : Nat} {tt : TT} {σ : L2.St} {H : Hp} {Q : VK} {a : Addr} {xs : List V} {ds : List Da} (t : Da → Bool) (hv : σ[l]? = some (some (.ref a))) (hs : SqL K H a xs ∨ SqT K H a xs) (hx : IsAll H xs ds) (hlen : xs.length ≤ 1000)
    (hw : ∀ x, wipe ((wipe σ [i]).set i (some x)) [i] = wipe σ [i]) (hi : ∀ x : V, ((wipe σ [i]).set i (some x))[i]? = some (some x))
    (ht : ∀ (x : V) (dx : Da) (H' : Hp) (Q' : Bool → Hp → Prop), Same H H' → Is H' x dx → dx ∈ ds → (∀ H'', Same H' H'' → Q' (t dx) H'') → tt ((wipe σ [i]).set i (some x)) H' Q')
    (k : ∀ (D : Addr) (H' : Hp) (acc : List V), Same H H' → H D = none → H' D = some (.lst acc) → acc.isEmpty = (ds.all fun d => !t d) → Q (.ref D) H') :
    tLc (fun σ H R => iList K (tVar l) σ H R ∨ iTup K (tVar l) σ H R) (gName i) tt (tVar i) [i] σ H Q := by
  have turn : ∀ (D : Addr) (m : Nat) (x : V) (H' : Hp), H D = none → xs[m]? = some x → (Same H H' ∧ ∃ acc, H' D = some (.lst acc) ∧ acc.length ≤ m ∧ acc.isEmpty = ((ds.take m).all fun d => !t d)) →
      gName i x (wipe σ [i]) H' fun σ2 H2 => wipe σ2 [i] = wipe σ [i] ∧ tt σ2 H2 fun b H3 => if b = true then tVar i σ2 H3 fun y H4 => ∃ acc, H4 D = some (.lst acc) ∧ acc.length < sizeLine ∧ (Same H (upd H4 D (.lst (acc ++ [y]))) ∧ ∃ acc', (upd H4 D (.lst (acc ++ [y]))) D = some (.lst acc') ∧ acc'.length ≤ m + 1 ∧ acc'.isEmpty = ((ds.take (m + 1)).all fun d => !t d))
        else (Same H H3 ∧ ∃ acc', H3 D = some (.lst acc') ∧ acc'.length ≤ m + 1 ∧ acc'.isEmpty = ((ds.take (m + 1)).all fun d => !t d)) := by
    rintro D m x H' hD hm ⟨s1, acc, hacc, hl, he⟩
    obtain ⟨dx, hdx, hix⟩ := hx.at hm
    have more : ((ds.take (m + 1)).all fun d => !t d) = (((ds.take m).all fun d => !t d) && !t dx) := by
      rw [List.take_add_one, hdx, List.all_append]
      simp
    have mlt := (List.getElem?_eq_some_iff.mp hm).1
    refine ⟨hw x, ht x dx H' _ s1 (hix.up s1) (List.mem_of_getElem? hdx) fun H3 s3 => iteB (fun c => ?_) fun c => ?_⟩
    · refine ⟨x, hi x, acc, s3 _ _ hacc, Nat.lt_of_le_of_lt (show acc.length ≤ 1000 by omega) (by decide), Same.mut (s1.trans s3) hD, _, upd_same, by rw [List.length_append]; simp; omega, ?_⟩
      rw [more, c]
      simp
    · refine ⟨s1.trans s3, acc, s3 _ _ hacc, by omega, ?_⟩
      rw [more, c, he]
      simp
  have fin : ∀ (D : Addr) (H' : Hp), H D = none → (Same H H' ∧ ∃ acc, H' D = some (.lst acc) ∧ acc.length ≤ xs.length ∧ acc.isEmpty = ((ds.take xs.length).all fun d => !t d)) → Q (.ref D) H' := by
    rintro D H' hD ⟨s1, acc, hacc, _, he⟩
    refine k D H' acc s1 hD hacc ?_
    rwa [hx.length, List.take_length] at he
  rcases hs with hs | hs
  · exact .inl ⟨_, hv, a, rfl, ⟨_, hs⟩, fun D hD => lc_list (xs := xs) (fun m H' => Same H H' ∧ ∃ acc, H' D = some (.lst acc) ∧ acc.length ≤ m ∧ acc.isEmpty = ((ds.take m).all fun d => !t d))
      ⟨Same.new hD, [], upd_same, Nat.le_refl _, by simp⟩ (fun m H' _ p => p.1.seq hs) (fun m x H' hm p => turn D m x H' hD hm p) (fun H' p => fin D H' hD p)⟩
  · exact .inr ⟨_, hv, a, rfl, ⟨_, hs⟩, fun D hD => lc_tup (xs := xs) (fun m H' => Same H H' ∧ ∃ acc, H' D = some (.lst acc) ∧ acc.length ≤ m ∧ acc.isEmpty = ((ds.take m).all fun d => !t d))
      ⟨Same.new hD, [], upd_same, Nat.le_refl _, by simp⟩ (fun m H' _ p => Evl.ex_t p.1 hs) (fun m x H' hm p => turn D m x H' hD hm p) (fun H' p => fin D H' hD p)⟩
/-! ### no divisor -/
def noDiv (a b : Int) (n : Nat) : Bool := (List.range n).all fun k => !(decide (a % (2 + (k : Int)) = 0) && decide (b % (2 + (k : Int)) = 0))
theorem noDiv_gcd {a b : Int} (h2 : 2 ≤ b) {n : Nat} (hn : (n : Int) = b + 1 - 2) : noDiv a b n = coprime a b := by
  unfold noDiv coprime
  by_cases g : Nat.gcd a.natAbs b.natAbs = 1
  · rw [decide_eq_true g, List.all_eq_true]
    intro k hk
    rw [Bool.not_eq_true', Bool.and_eq_false_iff]
    by_cases h1 : a % (2 + (k : Int)) = 0
    · right
      refine decide_eq_false fun h3 => ?_
      have d1 : (2 + k) ∣ a.natAbs := Int.ofNat_dvd_left.mp (by have := Int.dvd_of_emod_eq_zero h1; push_cast; exact this)
      have d2 : (2 + k) ∣ b.natAbs := Int.ofNat_dvd_left.mp (by have := Int.dvd_of_emod_eq_zero h3; push_cast; exact this)
      have d3 := Nat.dvd_gcd d1 d2
      rw [g] at d3
      have := Nat.le_of_dvd (by decide) d3
      omega
    · left
      exact decide_eq_false h1
  · rw [decide_eq_false g, List.all_eq_false]
    have pos : 0 < Nat.gcd a.natAbs b.natAbs := Nat.gcd_pos_of_pos_right _ (by omega)
    have le : Nat.gcd a.natAbs b.natAbs ≤ b.natAbs := Nat.le_of_dvd (by omega) (Nat.gcd_dvd_right _ _)
    refine ⟨Nat.gcd a.natAbs b.natAbs - 2, List.mem_range.mpr (by omega), ?_⟩
    have e : (2 + ((Nat.gcd a.natAbs b.natAbs - 2 : Nat) : Int)) = ((Nat.gcd a.natAbs b.natAbs : Nat) : Int) := by omega
    rw [e]
    have d1 : a % ((Nat.gcd a.natAbs b.natAbs : Nat) : Int) = 0 := Int.emod_eq_zero_of_dvd (Int.ofNat_dvd_left.mpr (Nat.gcd_dvd_left _ _))
    have d2 : b % ((Nat.gcd a.natAbs b.natAbs : Nat) : Int) = 0 := Int.emod_eq_zero_of_dvd (Int.ofNat_dvd_left.mpr (Nat.gcd_dvd_right _ _))
    rw [decide_eq_true d1, decide_eq_true d2]
    decide
def okPair : List Da → Bool
  | [.int _, .int b] => decide (b ≤ 400)
  | _ => true
/-- of a value with such a pair -/
def spForm : Sp := fun vs H Q _ => ∃ v d, vs = [v] ∧ Is H v d ∧ okPair (items d) = true ∧ (items d).length ≤ 1000 ∧ ∀ H', Same H H' → Q (.bl (isNum d)) H'
end Ty
namespace Ty
open PySem PySem.Spec PyProof.Rows L2
section
variable {σ : L2.St} {H : Hp} {D : Ends} {t u : TS} {c c' : TT} {te ta tb : TE} {tr : TA} {Q : VK} {QT : Bool → Hp → Prop} {QA : List V → Hp → Prop} {r : R2} {f : List V → Hp → VK → Prop} {g : TG}
theorem go_next (h : D.nx σ H) : tNext D σ H := h
theorem go_seq (h : t { D with nx := u D } σ H) : tSeq t u D σ H := h
theorem go_if (h : c σ H fun b H1 => if b = true then t D σ H1 else u D σ H1) : tIfS c t u D σ H := h
theorem go_asg (h : te σ H fun x H1 => g x σ H1 D.nx) : tAsg te g D σ H := h
theorem go_ret (h : te σ H D.rt) : tRet te D σ H := h
theorem go_or (h : c σ H fun b H1 => if b = true then QT true H1 else c' σ H1 QT) : tOr c c' σ H QT := h
theorem go_and (h : c σ H fun b H1 => if b = true then c' σ H1 QT else QT false H1) : tAnd c c' σ H QT := h
theorem go_not (h : c σ H fun b H1 => QT (!b) H1) : tNot c σ H QT := h
theorem go_test (h : te σ H fun x H1 => ∃ k, x = .bl k ∧ QT k H1) : tTest te σ H QT := h
theorem go_B (h : te σ H fun x H1 => ∃ k, x = .bl k ∧ QT k H1) : tB te σ H QT := h
theorem go_op (h : ta σ H fun x H1 => tb σ H1 fun y H2 => r x y H2 Q) : tOp r ta tb σ H Q := h
theorem go_cb (h : tr σ H fun vs H1 => f vs H1 Q) : tCB f tr σ H Q := h
theorem go_cons (h : te σ H fun x H1 => tr σ H1 fun xs H2 => QA (x :: xs) H2) : tCons te tr σ H QA := h
end
end Ty
namespace Ty
open PySem PySem.Spec PyProof.Rows L2
def good1 (d : Da) : Bool := okPair (items d) && decide ((items d).length ≤ 1000) && small2 huge d
def good (d : Da) : Bool := good1 d && (items d).all good1
theorem small_big {i : Int} (h : i.natAbs < 2 ^ 200) : decide (i.natAbs < 2 ^ huge) = true := decide_eq_true (Nat.lt_of_lt_of_le h (Nat.pow_le_pow_right (by decide) (by decide)))
theorem good1_int {i : Int} (h : i.natAbs < 2 ^ 200) : good1 (.int i) = true := by
  show (true && true && decide (i.natAbs < 2 ^ huge)) = true
  rw [small_big h]
  decide
theorem good_int {i : Int} (h : i.natAbs < 2 ^ 200) : good (.int i) = true := by
  show (good1 (.int i) && true) = true
  rw [good1_int h]
  decide
theorem good1_pair {a b : Int} (ha : a.natAbs < 2 ^ 200) (hb : b.natAbs < 2 ^ 200) (h4 : b ≤ 400) : good1 (.tup [.int a, .int b]) = true ∧ good1 (.lst [.int a, .int b]) = true := by
  constructor
  · show (decide (b ≤ 400) && true && (decide (a.natAbs < 2 ^ huge) && (decide (b.natAbs < 2 ^ huge) && true))) = true
    rw [small_big ha, small_big hb, decide_eq_true h4]
    decide
  · show (decide (b ≤ 400) && true && (decide (a.natAbs < 2 ^ huge) && (decide (b.natAbs < 2 ^ huge) && true))) = true
    rw [small_big ha, small_big hb, decide_eq_true h4]
    decide
theorem good_pair {a b : Int} (ha : a.natAbs < 2 ^ 200) (hb : b.natAbs < 2 ^ 200) (h4 : b ≤ 400) : good (.tup [.int a, .int b]) = true ∧ good (.lst [.int a, .int b]) = true := by
  have e := good1_pair ha hb h4
  constructor
  · show (good1 (.tup [.int a, .int b]) && (good1 (.int a) && (good1 (.int b) && true))) = true
    rw [e.1, good1_int ha, good1_int hb]
    decide
  · show (good1 (.lst [.int a, .int b]) && (good1 (.int a) && (good1 (.int b) && true))) = true
    rw [e.2, good1_int ha, good1_int hb]
    decide
def spValue : Sp := fun vs H Q _ => ∃ (S : Addr → Bool) (j bk : Addr) (n : Nat), vs = [.ref j] ∧ S j = true ∧ Live S H ∧ Jar j bk H n ∧ n + 3 ≤ 100000 ∧
  ∀ v d H', Keep j H H' → Live S H' → Jar j bk H' (n + 3) → Is (mn S H') v d → good d = true → Q v H'
def spHalves : Sp := fun vs H Q _ => ∃ v d, vs = [v] ∧ Is H v d ∧ isNum d = true ∧ ∀ H' p, Same H H' → H' p = some (.tup [.int (above d), .int (below d)]) → Q (.ref p) H'
def okEach (d : Da) : Bool := decide ((items d).length ≤ 1000) && (items d).all fun e => okPair (items e) && decide ((items e).length ≤ 1000)
def spRound : Sp := fun vs H Q _ => ∃ v d, vs = [v] ∧ Is H v d ∧ okEach d = true ∧ small3 huge d = true ∧ ∀ H', Same H H' → Q (.bl (isTurn d)) H'
def spPair : Sp := fun vs H Q _ => ∃ v d, vs = [v] ∧ Is H v d ∧ okEach d = true ∧ ∀ H', Same H H' → Q (.bl (isPt d)) H'
def spFrac : Sp := fun vs H Q _ => ∃ a b : Int, vs = [.int a, .int b] ∧ 0 < b ∧ a.natAbs < 2 ^ 31 ∧ b < 2 ^ 31 ∧ (∀ i : Int, i.natAbs ≤ a.natAbs → Q (.int i) H) ∧
  ∀ (i m : Int) (p : Addr) (H' : Hp), Same H H' → H p = none → H' p = some (.tup [.int i, .int m]) → i.natAbs ≤ a.natAbs → 0 ≤ m → m ≤ b → Q (.ref p) H'
end Ty
namespace Ty
open PySem PySem.Spec PyProof.Rows L2
theorem ediv_abs {a p : Int} (hp : 0 < p) : (a / p).natAbs ≤ a.natAbs := by
  by_cases h : 0 ≤ a
  · have h1 := Int.ediv_nonneg h (Int.le_of_lt hp)
    have h2 := Int.ediv_le_self p h
    omega
  · have h1 : a / p < 0 := Int.ediv_neg_of_neg_of_pos (by omega) hp
    have h2 : a ≤ a / p := by
      have h3 := Int.lt_ediv_add_one_mul_self a hp
      have h4 : a / p * p ≤ a / p * 1 := Int.mul_le_mul_of_nonpos_left (by omega) (by omega)
      have h5 : (a / p + 1) * p = a / p * p + p := by rw [Int.add_mul, Int.one_mul]
      by_cases h6 : a ≤ a / p
      · exact h6
      · exfalso
        have h7 : a / p + 1 ≤ a := by omega
        have h8 : (a / p + 1) * p ≤ (a / p + 1) * 1 := Int.mul_le_mul_of_nonpos_left (by omega) (by omega)
        omega
    omega
/-- a fraction made of two integers -/
def FracOf (a b : Int) (d : Da) : Prop := (∃ i, d = .int i ∧ i.natAbs ≤ a.natAbs) ∨ ∃ i m, d = .tup [.int i, .int m] ∧ i.natAbs ≤ a.natAbs ∧ 0 ≤ m ∧ m ≤ b
theorem dr_frac {S : Addr → Bool} {j bk : Addr} {H0 : Hp} {σ : L2.St} {ta tb : TE} {a b : Int} (ha : Dr S j bk H0 0 σ ta (· = .int a)) (hb : Dr S j bk H0 0 σ tb (· = .int b)) (h0 : 0 < b) (h1 : a.natAbs < 2 ^ 31) (h2 : b < 2 ^ 31) :
    Dr S j bk H0 0 σ (tCall spFrac [] E0 (tCons ta (tCons tb tNil))) (FracOf a b) := fun H n Q kp lv J hn k =>
  ha H n _ kp lv J hn fun v d H1 k1 l1 J1 i1 p1 => hb H1 n _ (kp.trans k1) l1 J1 hn fun u e H2 k2 l2 J2 i2 p2 => by
    subst p1
    subst p2
    cases i1
    cases i2
    exact ⟨a, b, rfl, h0, h1, h2, fun i hi => k _ _ H2 (k1.trans k2) l2 J2 (.int i) (.inl ⟨i, rfl, hi⟩), fun i m p H' s hp hp' hi hm0 hm1 => by
      have Sp : S p = false := by
        cases e : S p with
        | false => rfl
        | true => exact absurd hp (l2 p e)
      refine k _ _ H' ((k1.trans k2).trans (Same.keep s)) (l2.more s) (J2.up s) (.tup ?_ (.cons (.int i) (.cons (.int m) .nil))) (.inr ⟨i, m, rfl, hi, hm0, hm1⟩)
      rw [mn_at Sp]
      exact hp'⟩
theorem FracOf.good {a b : Int} {d : Da} (h : FracOf a b d) (ha : a.natAbs < 2 ^ 31) (hb : b ≤ 400) : good1 d = true := by
  rcases h with ⟨i, rfl, hi⟩ | ⟨i, m, rfl, hi, hm0, hm1⟩
  · exact good1_int (Nat.lt_of_le_of_lt hi (Nat.lt_trans ha (by decide)))
  · exact (good1_pair (Nat.lt_of_le_of_lt hi (Nat.lt_trans ha (by decide))) (Nat.lt_of_le_of_lt (show m.natAbs ≤ 400 by omega) (by decide)) (by omega)).1
/-- such a value is no list -/
theorem FracOf.off {S S' : Addr → Bool} {H : Hp} {a b : Int} {d : Da} {v : V} {p : Addr} {xs : List V} (h : FracOf a b d) (hv : Is (mn S H) v d) (hp : H p = some (.lst xs)) (hS : ∀ q, S' q = true → S q = true ∨ q = p) : Is (mn S' H) v d := by
  rcases h with ⟨i, rfl, hi⟩ | ⟨i, m, rfl, hi, hm0, hm1⟩
  · cases hv
    exact .int i
  · cases hv with
    | tup e hx =>
      obtain ⟨e1, e2⟩ := mn_of e
      rename_i q ys
      have off : S' q = false := by
        cases z : S' q with
        | false => rfl
        | true =>
          rcases hS q z with w | w
          · rw [w] at e1
            cases e1
          · subst w
            rw [e2] at hp
            cases hp
      have e3 : mn S' H q = some (.tup ys) := by
        rw [mn_at off]
        exact e2
      cases hx with
      | cons x1 hx =>
        cases x1
        cases hx with
        | cons x2 hx =>
          cases x2
          cases hx
          exact .tup e3 (.cons (.int _) (.cons (.int _) .nil))
def spTurn : Sp := fun vs H Q _ => ∃ (S : Addr → Bool) (j bk : Addr) (n : Nat), vs = [.ref j] ∧ S j = true ∧ Live S H ∧ Jar j bk H n ∧ n + 8 ≤ 100000 ∧
  ∀ v d H', Keep j H H' → Live S H' → Jar j bk H' (n + 8) → Is (mn S H') v d → okEach d = true → small3 huge d = true → Q v H'
theorem good1_small {d : Da} (h : good1 d = true) : small2 huge d = true := by
  unfold good1 at h
  rw [Bool.and_eq_true] at h
  exact h.2
theorem good1_ok {d : Da} (h : good1 d = true) : (okPair (items d) && decide ((items d).length ≤ 1000)) = true := by
  unfold good1 at h
  rw [Bool.and_eq_true] at h
  exact h.1
theorem two_ok {x y : Da} (h1 : good1 x = true) (h2 : good1 y = true) : okEach (.lst [x, y]) = true ∧ okEach (.tup [x, y]) = true ∧ small3 huge (.lst [x, y]) = true ∧ small3 huge (.tup [x, y]) = true := by
  have e1 : okEach (.lst [x, y]) = true := by
    show (true && ((okPair (items x) && decide ((items x).length ≤ 1000)) && ((okPair (items y) && decide ((items y).length ≤ 1000)) && true))) = true
    rw [good1_ok h1, good1_ok h2]
    decide
  have e2 : small3 huge (.lst [x, y]) = true := by
    show (small2 huge x && (small2 huge y && true)) = true
    rw [good1_small h1, good1_small h2]
    decide
  exact ⟨e1, e1, e2, e2⟩
theorem good_good1 {d : Da} (h : good d = true) : good1 d = true := by
  unfold good at h
  rw [Bool.and_eq_true] at h
  exact h.1
end Ty
namespace Ty
open PySem PySem.Spec PyProof.Rows L2
theorem sq_bounds {p : Int} (h1 : -7 ≤ p) (h2 : p ≤ 7) : 0 ≤ p * p ∧ p * p ≤ 49 := by
  have e := Int.natAbs_mul_self (a := p)
  have h3 : p.natAbs * p.natAbs ≤ 7 * 7 := Nat.mul_le_mul (by omega) (by omega)
  omega
theorem prod_bounds {p q : Int} (h1 : -7 ≤ p) (h2 : p ≤ 7) (h3 : -7 ≤ q) (h4 : q ≤ 7) : (2 * p * q).natAbs ≤ 98 := by
  rw [Int.natAbs_mul, Int.natAbs_mul]
  have h5 : (2 : Int).natAbs * p.natAbs ≤ 2 * 7 := Nat.mul_le_mul (by decide) (by omega)
  exact Nat.le_trans (Nat.mul_le_mul h5 (show q.natAbs ≤ 7 by omega)) (by decide)
theorem Is.wide {S S' : Addr → Bool} {H : Hp} {v : V} {d : Da} (h : Is (mn S H) v d) (hs : ∀ b, S' b = true → S b = true) : Is (mn S' H) v d := h.up fun b o e => by
  obtain ⟨h1, h2⟩ := mn_of e
  rw [mn_at]
  · exact h2
  · cases z : S' b with
    | false => rfl
    | true =>
      rw [hs b z] at h1
      cases h1
end Ty

namespace Ty
open PySem PySem.Spec PyProof.Rows L2
/-- a caught exception that a name holds: its class, its dict -/
def ExT (cls : Value) (d : Option Addr) (a : Addr) : HO := .ext fun h => ∃ (oe : Obj) (vs : Array Value), h.get? a = some oe ∧ Zc cls d oe ∧ oe.data = .fields vs
theorem exT_ok {P : Program} {w : World} {H : Hp} {h : Heap} {a : Addr} {cls : Value} {d : Option Addr} {oe : Obj} {vs : Array Value} (e : h.get? a = some oe) (z : Zc cls d oe) (dd : oe.data = .fields vs) : ObjOk P w H h a (ExT cls d a) :=
  ⟨⟨oe, vs, e, z, dd⟩, ⟨oe, e⟩, fun _ _ ⟨o, v, q, r⟩ k => ⟨o, v, k o q, r⟩⟩
section
variable {X : Cx} {pins : List (Addr × Obj)} {σ : L2.St} {H : Hp} {s : Shared}
/-- an object that stands, made since the entry and not tracked, is tracked from now on -/
theorem Inv.track {a : Addr} {oe : Obj} {o : HO} (I : Inv X pins σ H s) (ha : s.heap.get? a = some oe) (hn : H a = none) (h0 : X.s_0.heap.get? a = none) (nL : a ≠ X.env.locals) (nC : ∀ v, oe.data ≠ .cell v) (np : ∀ p ∈ X.pn ++ pins, p.1 ≠ a)
    (new : ObjOk X.prog X.w (upd H a o) s.heap a o) : Inv X pins σ (upd H a o) s := by
  have ne0 : ∀ {b : Addr} {u : Obj}, X.s_0.heap.get? b = some u → b ≠ a := fun {b u} e z => by
    rw [z, h0] at e
    cases e
  have neC : ∀ x c, X.env.cells.lookup x = some c → c ≠ a := fun x c e z => by
    obtain ⟨v, oc, ho, hd⟩ := I.cell x c e
    rw [z, ha] at ho
    cases ho
    exact nC v hd
  constructor
  · exact I.ok
  · exact I.os
  · exact I.bare
  · refine ⟨I.base.keep, I.base.slot, ?_, I.base.there, ?_, ?_, ?_⟩
    · intro b u e n hx
      rw [upd_ne (ne0 e)]
      exact I.base.free b u e n hx
    · intro b xs e
      have q := I.base.tups b xs e
      rw [upd_ne (ne_of_none q hn)]
      exact q
    · intro b u v e
      have q := I.base.frzs b u v e
      rw [upd_ne (ne_of_none q hn)]
      exact q
    · intro b ps e
      obtain ⟨m, q⟩ := I.base.tbls b ps e
      refine ⟨m, ?_⟩
      rw [upd_ne (ne_of_none q hn)]
      exact q
  · exact I.loc
  · exact I.cell
  · rw [upd_ne nL.symm]
    exact I.free
  · intro x c e
    rw [upd_ne (neC x c e)]
    exact I.freeC x c e
  · intro p hp
    obtain ⟨h1, h2, h3⟩ := I.pin p hp
    refine ⟨h1, ?_, h3⟩
    rw [upd_ne (np p hp)]
    exact h2
  · exact I.hok.laidN (fun _ _ e => e) hn new
  · exact I.len
end
/-- what the clause «except x as n: m = n» wishes: slot i is n's, slot l is m's; behind it the exception is tracked -/
def wKeep (K : PySem.W.Frag) (c : Value) (i l : Nat) (Wout : WX) (D : Ends) : WX := fun cls d σ H =>
  ∃ b, PySem.W.exmOne K cls c = some b ∧ (b = true → ∀ a, H a = none → D.nx ((((σ.set i (some (.ref a))).set l (some (.ref a)))).set i none) (upd H a (ExT cls d a))) ∧ (b = false → Wout cls d σ H)
section
variable {X : Cx} {x n : Str} {c : Value} {i l : Nat} {body : List Stmt} {st : Stmt} {np pos pos' : Pos} {tb : WX → TS} {Wout : WX}
theorem ps_try_keep (hex : X.ex = []) (hpn : X.pn = []) (hs : X.stack = X.env :: X.outer) (hf : X.env.frame = some X.env.locals) (hN : X.N.Nodup) (hi : X.N[i]? = some n) (hln : X.env.kindOf n = some .local) (hc : Names X x c) (tk : Takes X Wout)
    (hb : ∀ (W : WX) (pn : List (Addr × Obj)) (xe : Value → Shared → Prop), Takes (X.tr pn xe) W → PassesOwn (model X.prog X.w) X.A X.env xe → PSs (X.tr pn xe) body (tb W))
    (hsu : ∀ (a : Addr) (oe : Obj) (cls : Value) (d : Option Addr) (pn : List (Addr × Obj)), Zc cls d oe → (∃ vs, oe.data = .fields vs) → PSs (X.suite a ((a, oe) :: pn)) [st] (tAsg (tVar i) (gName l))) :
    PS X (.Try body [.ExceptHandler (some (.Name x np)) (some n) [st] pos'] [] [] pos) (fun D σ H => tb (wKeep X.K c i l Wout D) D σ H) := by
  constructor
  intro pins s σ H D I h
  have ok := I.ok
  have hfr : X.A.frames = some (X.env :: X.outer) := by rw [ok.frames, hs]
  refine wpAny_Try_except (wpAny_mono ((hb (wKeep X.K c i l Wout D) (X.pn ++ pins) (fun e s1 => wpAny (model X.prog X.w) X.A (noteFrame e X.env) (fun _ s2 => wpAny (model X.prog X.w) X.A (setFlight e none) (fun _ s3 =>
    wpAny (model X.prog X.w) X.A (handleBy e X.env [.ExceptHandler (some (.Name x np)) (some n) [st] pos']) (SP X pins D) X.xe s3) X.xe s2) X.xe s1) ?_ PassesOwn.looking).run [] s σ H D (I.toTry _) h) ?_ fun e s1 he => he)
  · rintro u s' ⟨a, B, sI, pins', σ', H', cls, d, rfl, J', nb, up, sky, na, os, ag, b, hb1, hyes, hno⟩
    have J : Inv X pins σ' H' sI := J'.ofTry ok
    rw [hs] at sky
    show wpAny (model X.prog X.w) X.A (noteFrame (.ref a) X.env) _ _ _
    refine Sky.land Zc.steady hfr hf sky ?_
    intro h3 fl3 up3
    have J3 : Inv X pins σ' H' { s' with heap := h3 } := J.landed nb fl3.1 (up.trans up3) os ag
    obtain ⟨oe3, vs3, he3, hz3, hd3⟩ := fl3.there
    have nfr : a ∉ frs (X.env :: X.outer) := fun hm => by
      obtain ⟨_, o', e', hnf⟩ := fl3.2.2.1.mem hm
      rw [he3] at e'
      cases e'
      exact hnf _ hd3
    have nL : a ≠ X.env.locals := fun z => nfr (List.mem_filterMap.mpr ⟨X.env, List.mem_cons_self, by rw [hf, z]⟩)
    have nF : a ∉ X.fs := fun hm => by
      obtain ⟨e, he, q⟩ := List.mem_filterMap.mp hm
      exact nfr (List.mem_filterMap.mpr ⟨e, List.mem_cons_of_mem _ he, q⟩)
    have new0 : X.s_0.heap.get? a = none := by
      cases e : X.s_0.heap.get? a with
      | none => rfl
      | some o =>
        obtain ⟨o', e1⟩ := J.base.there a o e (by rw [hex]; exact nofun)
        have e2 := nb a o' e1 (by rw [hs]; exact nfr)
        rw [fl3.2.1] at e2
        cases e2
    have S3 := J3.suite he3 hd3 na nL nF
    have LM := PySem.W.exm_one (M := model X.prog X.w) J3.kIn (fun A Q E s k q => wpAny_typeOf_ref (k _ _ he3) (by rw [hz3.1]; exact q)) hb1
    refine wpAny_handleBy_cons (codeAny_handlers_test ?_) (by intro q; cases q)
    have test : ∀ {Q : Value → Shared → Prop} {E : Value → Shared → Prop}, Q c { s' with heap := h3 } → wpAny (model X.prog X.w) (X.A.mark (some (.ref a))) (eval (.Name x np) X.env) Q E { s' with heap := h3 } := by
      intro Q E q
      obtain ⟨hg, hdbg, hm | ⟨hm, hv, hnn⟩⟩ := hc
      · exact ld_glob (X := X.suite a ((a, oe3) :: (X.pn ++ pins))) S3 hg hm q hdbg
      · exact ld_blt (X := X.suite a ((a, oe3) :: (X.pn ++ pins))) S3 hg hm hv q hnn hdbg
    refine test (LM.here ?_)
    cases b with
    | true =>
      refine codeAny_handlers_suite_as (HandSPX.lands_againZ fl3 ?_)
      intro h4 fl4 up4
      have J4 : Inv X pins σ' H' { s' with heap := h4 } := J.landed nb fl4.1 ((up.trans up3).trans up4) os ag
      obtain ⟨oe4, vs4, he4, hz4, hd4⟩ := fl4.there
      refine store_ok (X := X.suite a ((a, oe4) :: (X.pn ++ pins))) (v := .ref a) (J4.suite he4 hd4 na nL nF) hN hi (.inl hln) rfl ?_ (.inr hln)
      intro s5 S5
      have ilt : i < σ'.length := by
        rw [J.len]
        exact (List.getElem?_eq_some_iff.mp hi).1
      refine wpAny_mono ((hsu a oe4 cls d (X.pn ++ pins) hz4 ⟨_, hd4⟩).run [] s5 _ H' { nx := fun σ6 H6 => σ6 = ((σ'.set i (some (.ref a))).set l (some (.ref a))) ∧ H6 = H', rt := fun _ _ => False, bk := fun _ _ => False, ct := fun _ _ => False } S5 ⟨.ref a, List.getElem?_set_self ilt, rfl, rfl⟩) ?_ fun _ _ z => False.elim z
      intro f s6 hsp
      cases f with
      | next =>
        obtain ⟨σ6, H6, S6, rfl, rfl⟩ := hsp
        have S7 : Inv X ((a, oe4) :: pins) ((σ'.set i (some (.ref a))).set l (some (.ref a))) H6 s6 := (S6.unsuite ok).pins_of fun p hp => by
          rcases List.mem_cons.mp hp with e | hp
          · rw [e]
            exact S6.pin (a, oe4) (List.mem_append_left _ List.mem_cons_self)
          · exact S6.pin p (List.mem_append_left _ (List.mem_cons_of_mem _ (List.mem_append_right _ hp)))
        refine gone_ok S7 hN hi hln ?_
        intro s7 J7
        obtain ⟨g1, g2, g3, g4, g5⟩ := J7.pin (a, oe4) (List.mem_append_right _ List.mem_cons_self)
        have J8 : Inv X [] (((σ'.set i (some (.ref a))).set l (some (.ref a))).set i none) H6 s7 := J7.pins_of fun p hp => by cases hp
        have J9 := Inv.track (o := ExT cls d a) J8 g1 g2 new0 g3 g5 (fun p hp => by rw [hpn] at hp; cases hp) (exT_ok g1 hz4 hd4)
        have J10 : Inv X pins (((σ'.set i (some (.ref a))).set l (some (.ref a))).set i none) (upd H6 a (ExT cls d a)) s7 := J9.pins_of fun p hp => by
          obtain ⟨k1, k2, k3⟩ := J7.pin p (List.mem_append_right _ (List.mem_cons_of_mem _ hp))
          have kp := J4.pin p (List.mem_append_right _ hp)
          refine ⟨k1, ?_, k3⟩
          by_cases e : p.1 = a
          · -- a pinned object was there before the exception
            exfalso
            have e1 := (I.pin p (List.mem_append_right _ hp)).1
            have e2 := (J.pin p (List.mem_append_right _ hp)).1
            rw [e] at e2
            have e3 := nb a _ e2 (by rw [hs]; exact nfr)
            rw [fl3.2.1] at e3
            cases e3
          · rw [upd_ne e]
            exact k2
        exact ⟨_, _, J10, hyes rfl a na⟩
      | brk => obtain ⟨_, _, _, q⟩ := hsp; cases q
      | cont => obtain ⟨_, _, _, q⟩ := hsp; cases q
      | ret u => obtain ⟨_, _, _, _, _, q⟩ := hsp; cases q
    | false =>
      show wpAny _ X.A (handleBy (.ref a) X.env []) _ _ _
      refine wpAny_handleBy_nil ?_
      obtain ⟨k1, k2, k3, oe, vs, T, oT, ts', he, hz, hd, h1, hr⟩ := id fl3
      unfold PySem.passOn
      refine wpAny_bind (wpAny_field he hd h1 ?_)
      rw [if_neg (show ¬ ((Value.ref T == Value.none) = true) from by simp)]
      have fin : wpAny (model X.prog X.w) X.A (setFlight (.ref a) X.env.frame) (fun _ s4 => wpAny (model X.prog X.w) X.A (throw (.ref a) : Sem Flow) (SP X pins D) X.xe s4) X.xe { s' with heap := h3 } := by
        rw [hf]
        exact HandSPX.setFlight_upZ fl3 fun h4 hh4 up4 => wpAny_throw (tk _ _ ⟨a, B, sI, pins, σ', H', cls, d, rfl, J, nb, (up.trans up3).trans up4, .inr (.inr (by rw [hs]; exact hh4)), na, os, ag, hno rfl⟩)
      first
        | exact wpAny_bind (wpAny_pure (wpAny_bind fin))
        | exact wpAny_bind fin
  · intro f s1 hsp
    cases f with
    | next => obtain ⟨σ', H', J', q⟩ := hsp; exact wpAny_execs_nil ⟨σ', H', J'.ofTry ok, q⟩
    | brk => obtain ⟨σ', H', J', q⟩ := hsp; exact ⟨σ', H', J'.ofTry ok, q⟩
    | cont => obtain ⟨σ', H', J', q⟩ := hsp; exact ⟨σ', H', J'.ofTry ok, q⟩
    | ret u => obtain ⟨v, σ', H', J', r, q⟩ := hsp; exact ⟨v, σ', H', J'.ofTry ok, r, q⟩
end
/-! ### a caught exception that a name holds -/
/-- what its class must say -/
structure ExcK (K : PySem.W.Frag) (D : Addr) : Prop where
  cl : (PySem.W.clsIn K D).isSome = true
  ga : PySem.W.findIn K (.ref D) "__getattribute__" = some (some (.builtin "BaseException.__getattribute__"))
  gg : PySem.W.findIn K (.ref D) "__getattr__" = some none
  sb : PySem.W.subIn K (.ref D) (.type "BaseException") = some true
  hd : PySem.W.hasDictIn K D = true
  kl : PySem.W.findIn K (.ref D) "__class__" = some (some (.builtin "object.__class__"))
  sp : PySem.W.specialIn K (.builtin "object.__class__") "__get__" = some (some (.builtin "getset_descriptor.__get__"))
  tk : PySem.W.takesIn K (.builtin "object.__class__") = some true
  mr : PySem.W.mroIn K D (.type "object") = some true
section
variable {X : Cx}
/-- isinstance(e, C) of such -/
def rIsX (K : PySem.W.Frag) : List V → Hp → VK → Prop := fun xs H Q => ∃ (a D : Addr) (d : Addr) (fs : List (Str × V)) (c : V) (u : Value) (b : Bool), xs = [.ref a, c] ∧ ClsV c u ∧ H a = some (ExT (.ref D) (some d) a) ∧ H d = some (.xd fs) ∧ ExcK K D ∧ PySem.W.kitOne K (.ref D) u = some b ∧ Q (.bl b) H
theorem inst_of {pins : List (Addr × Obj)} {σ : L2.St} {H : Hp} {s : Shared} {a D d : Addr} {fs : List (Str × V)} (I : Inv X pins σ H s) (ha : H a = some (ExT (.ref D) (some d) a)) (hd : H d = some (.xd fs)) :
    ∃ (oe od : Obj) (mA : Str → Option Value), PySem.W.InstAt s.heap a oe D (some od) ∧ (∀ f, RelO (fs.lookup f) (mA f)) ∧ ∀ n, PySem.W.lookIn n od = some (mA n) := by
  obtain ⟨⟨oe, vs, h1, h2, h3⟩, _⟩ := I.hok a _ ha
  obtain ⟨mA, hns, hr⟩ := (show ObjOk X.prog X.w H s.heap d (.xd fs) from I.hok d _ hd)
  obtain ⟨od, ho, hl⟩ := lookIn_ns hns
  refine ⟨oe, od, mA, ⟨h1, h2.1, ?_, ?_⟩, hr, hl⟩
  · unfold PySem.W.notCls
    rw [h3]
  · rw [h2.2]
    exact ho
theorem call_isX : CallR X (.builtin "isinstance") (rIsX X.K) := by
  intro pins s σ H xs us Q I r h
  obtain ⟨a, D, d, fs, c, u, b, rfl, hc, ha, hd, k, e, q⟩ := h
  obtain ⟨u1, u2, rfl, r1, r2⟩ := vals2 r
  cases (show u1 = Value.ref a from r1)
  have e2 := hc.eq r2
  subst e2
  obtain ⟨oe, od, mA, J, _, _⟩ := inst_of I ha hd
  exact PySem.W.kia_one (PySem.W.kitx_exc k.cl k.ga k.gg k.sb k.kl k.sp k.tk k.mr) I.kIn J e (fun z => nomatch z) fun tk => ⟨.bl b, H, I.tok tk, rfl, q⟩
/-- e.f -/
def tXt (K : PySem.W.Frag) (te : TE) (f : Str) : TE := fun σ H Q => te σ H fun x H1 => ∃ (a D d : Addr) (fs : List (Str × V)) (v : V), x = .ref a ∧ H1 a = some (ExT (.ref D) (some d) a) ∧ H1 d = some (.xd fs) ∧ ExcK K D ∧ PySem.W.findIn K (.ref D) f = some none ∧ fs.lookup f = some v ∧ Q v H1
theorem pe_xt {e : Expr} {te : TE} {pos : Pos} {f : Str} (he : PE X e te) (hb : attributeBase e f X.env (eval e X.env) = eval e X.env := by rfl) : PE X (.Attribute e f pos) (tXt X.K te f) := by
  constructor
  intro pins s σ H Q I h
  refine attr_of hb (thn (he.run pins s σ H _ I h) ?_)
  rintro u s1 ⟨x, H1, I1, rx, a, D, d, fs, v, rfl, ha, hd, k, hno, hl, q⟩
  cases (show u = Value.ref a from rx)
  obtain ⟨oe, od, mA, J, hr, hlk⟩ := inst_of I1 ha hd
  obtain ⟨u, hu, ru⟩ := RelO.some_of (v := v) (o := mA f) (by rw [← hl]; exact hr f)
  exact HandSPX.exc_get I1.kIn J k.ga k.gg k.sb (PySem.W.findObj_own k.hd hno rfl (by rw [hlk, hu])) (handed_of ru) ⟨v, H1, I1.tok _, ru, q⟩
end
end Ty

/-! ### an own exception's __init__ of one field, of two -/
namespace Ty
open PySem PySem.Spec PyProof.Rows L2
def spIni1 (C : Addr) (fs : List Str) : Sp := fun vs H Q _ => ∃ (a : Addr) (v : V) (f : Str), vs = [.ref a, v] ∧ fs = [f] ∧ H a = some (exo a C none) ∧ ∀ d, H d = none → d ≠ a → Q .non (upd (upd H d (exd d [(f, v)])) a (exo a C (some d)))
def spIni2 (C : Addr) (fs : List Str) : Sp := fun vs H Q _ => ∃ (a : Addr) (v u : V) (f g : Str), vs = [.ref a, v, u] ∧ fs = [f, g] ∧ H a = some (exo a C none) ∧
  ∀ d, H d = none → d ≠ a → Q .non (upd (upd (upd H d (exd d [(f, v)])) a (exo a C (some d))) d (exd d [(g, u), (f, v)]))
theorem spIni1_len {C : Addr} {fs : List Str} {x y : Str} {vs : List V} {H : Hp} {Q : VK} {E : XK} (h : spIni1 C fs vs H Q E) : vs.length = [x, y].length := by
  obtain ⟨_, _, _, rfl, _⟩ := h
  rfl
theorem spIni2_len {C : Addr} {fs : List Str} {x y z : Str} {vs : List V} {H : Hp} {Q : VK} {E : XK} (h : spIni2 C fs vs H Q E) : vs.length = [x, y, z].length := by
  obtain ⟨_, _, _, _, _, rfl, _⟩ := h
  rfl
theorem r_ini1 {K : PySem.W.Frag} {C : Addr} {f x y : Str} {vs : List V} {H : Hp} {Q : VK} {E : XK} (T : OexC K C) (no : PySem.W.findIn K (.ref C) f = some none) (h : spIni1 C [f] vs H Q E) :
    tOst K f (tVar 0) (tVar 1) { nx := fun _ H' => Q .non H', rt := Q } (start [x, y] vs) H := by
  obtain ⟨a, v, f', rfl, e, ha, k⟩ := h
  cases e
  exact ⟨v, rfl, .ref a, rfl, a, C, rfl, T, no, .inl ⟨ha, fun dx hd hn => k dx hd hn⟩⟩
theorem r_ini2 {K : PySem.W.Frag} {C : Addr} {f g x y z : Str} {vs : List V} {H : Hp} {Q : VK} {E : XK} (T : OexC K C) (no : PySem.W.findIn K (.ref C) f = some none) (no2 : PySem.W.findIn K (.ref C) g = some none) (h : spIni2 C [f, g] vs H Q E) :
    tSeq (tOst K f (tVar 0) (tVar 1)) (tOst K g (tVar 0) (tVar 2)) { nx := fun _ H' => Q .non H', rt := Q } (start [x, y, z] vs) H := by
  obtain ⟨a, v, u, f', g', rfl, e, ha, k⟩ := h
  cases e
  refine ⟨v, rfl, .ref a, rfl, a, C, rfl, T, no, .inl ⟨ha, fun dx hd hn => ?_⟩⟩
  refine ⟨u, rfl, .ref a, rfl, a, C, rfl, T, no2, .inr ⟨dx, [(f, v)], upd_same, ?_, by show 1 ≤ 900; decide, k dx hd hn⟩⟩
  rw [upd_ne hn]
  exact upd_same
/-- what stands behind C(v): the exception's dict -/
theorem mk1 {C : Addr} {f : Str} {v : V} {H1 : Hp} {Q : XK} (h : ∀ d H', Same H1 H' → H1 d = none → H' d = some (.xd [(f, v)]) → Q (.ref C) (some d) H') :
    [v].length ≤ 1000 ∧ ∀ a, H1 a = none → spIni1 C [f] (.ref a :: ([v] ++ [])) (upd H1 a (exo a C none))
      (fun u H2 => u = .non ∧ ∃ (d : Addr) (fs : List (Str × V)), H2 a = some (exo a C (some d)) ∧ H2 d = some (exd d fs) ∧ H1 d = none ∧ Q (.ref C) (some d) (upd (del H2 a) d (.xd fs))) (fun _ _ _ => False) := by
  refine ⟨by show 1 ≤ 1000; decide, fun a ha => ⟨a, v, f, rfl, rfl, upd_same, fun d hd hn => ⟨rfl, d, _, upd_same, by rw [upd_ne hn]; exact upd_same, by rwa [upd_ne hn] at hd, ?_⟩⟩⟩
  have hd0 : H1 d = none := by rwa [upd_ne hn] at hd
  refine h d _ (fun b o e => ?_) hd0 upd_same
  have ba := ne_of_none e ha
  rw [upd_ne (ne_of_none e hd0), del_ne ba, upd_ne ba, upd_ne (ne_of_none e hd0), upd_ne ba]
  exact e
theorem mk2 {C : Addr} {f g : Str} {v u : V} {H1 : Hp} {Q : XK} (h : ∀ d H', Same H1 H' → H1 d = none → H' d = some (.xd [(g, u), (f, v)]) → Q (.ref C) (some d) H') :
    [v, u].length ≤ 1000 ∧ ∀ a, H1 a = none → spIni2 C [f, g] (.ref a :: ([v, u] ++ [])) (upd H1 a (exo a C none))
      (fun x H2 => x = .non ∧ ∃ (d : Addr) (fs : List (Str × V)), H2 a = some (exo a C (some d)) ∧ H2 d = some (exd d fs) ∧ H1 d = none ∧ Q (.ref C) (some d) (upd (del H2 a) d (.xd fs))) (fun _ _ _ => False) := by
  refine ⟨by show 2 ≤ 1000; decide, fun a ha => ⟨a, v, u, f, g, rfl, rfl, upd_same, fun d hd hn => ⟨rfl, d, _, by rw [upd_ne hn.symm]; exact upd_same, upd_same, by rwa [upd_ne hn] at hd, ?_⟩⟩⟩
  have hd0 : H1 d = none := by rwa [upd_ne hn] at hd
  refine h d _ (fun b o e => ?_) hd0 upd_same
  have ba := ne_of_none e ha
  have bd := ne_of_none e hd0
  rw [upd_ne bd, del_ne ba, upd_ne bd, upd_ne ba, upd_ne bd, upd_ne ba]
  exact e
/-- what a def that raises an error of one field lets out: the error's dict, all else stays -/
def Out1 (C : Addr) (f : Str) (v : V) (H : Hp) (E : XK) : Prop := ∀ d H', Same H H' → H d = none → H' d = some (.xd [(f, v)]) → E (.ref C) (some d) H'
theorem Out1.up {C : Addr} {f : Str} {v : V} {H H1 : Hp} {E : XK} (h : Out1 C f v H E) (s : Same H H1) : Out1 C f v H1 E := fun d H' s' hd hx => h d H' (s.trans s') (by
  cases e : H d with
  | none => rfl
  | some o => rw [s _ _ e] at hd; cases hd) hx
end Ty
namespace Ty
open PySem PySem.Spec PyProof.Rows L2
section
variable {K : PySem.W.Frag} {C D : Addr} {b : Bool}
theorem cls_here (i : PySem.W.isClsIn K D = true) (t : PySem.W.typeIn K (.ref D) = some (.type "type")) (s : PySem.W.subIn K (.ref C) (.ref D) = some b) : PySem.W.kitCls K (.ref C) (.ref D) = some b := by
  have i' : (PySem.W.clsIn K D).isSome = true := i
  have e : ((PySem.W.clsIn K D).isSome && PySem.W.typeIn K (.ref D) == some (.type "type")) = true := by rw [i', t]; rfl
  show (if _ = true then PySem.W.subIn K (.ref C) (.ref D) else none) = some b
  rw [if_pos e]
  exact s
theorem exm_is (x : PySem.W.subIn K (.ref D) (.type "BaseException") = some true) (i : PySem.W.isClsIn K D = true) (t : PySem.W.typeIn K (.ref D) = some (.type "type")) (s : PySem.W.subIn K (.ref C) (.ref D) = some b) : PySem.W.exmOne K (.ref C) (.ref D) = some b := by
  have e : (PySem.W.subIn K (.ref D) (.type "BaseException") == some true) = true := by rw [x]; rfl
  show (if _ = true then PySem.W.kitCls K (.ref C) (.ref D) else none) = some b
  rw [if_pos e]
  exact cls_here i t s
theorem kit_isT (i : PySem.W.isClsIn K D = true) (t : PySem.W.typeIn K (.ref D) = some (.type "type")) (s : PySem.W.subIn K (.ref C) (.ref D) = some true) : PySem.W.kitOne K (.ref C) (.ref D) = some true := by
  unfold PySem.W.kitOne
  split
  · rfl
  · exact cls_here i t s
theorem kit_isF (i : PySem.W.isClsIn K D = true) (t : PySem.W.typeIn K (.ref D) = some (.type "type")) (s : PySem.W.subIn K (.ref C) (.ref D) = some false) (s2 : PySem.W.subIn K (.ref D) (.ref D) = some true) : PySem.W.kitOne K (.ref C) (.ref D) = some false := by
  unfold PySem.W.kitOne
  split
  · rename_i h
    have e : (Value.ref C) = (Value.ref D) := by simpa using h
    rw [e, s2] at s
    cases s
  · exact cls_here i t s
end
end Ty

namespace Ty
open PySem PySem.Spec PyProof.Rows L2
/-! ### operators -/
def CDivX (_ j : Int) : Prop := j ≠ 0 ∧ j.natAbs.log2 < 9000
theorem op_fdivX {X : Cx} : OpR X (binaryOp .FloorDiv) (rI CDivX fun i j => .int (i.fdiv j)) := opI fun i j _ _ _ _ _ hc q => floordiv_int hc.1 q (.inl (PyProof.noPylong_of_log2 hc.2))
theorem divX {i j : Int} {b : Nat} (h : j ≠ 0) (hb : j.natAbs < 2 ^ b) (h0 : 0 < b) (h9 : b ≤ 9000) : CDivX i j := ⟨h, Nat.lt_of_lt_of_le (PySem.Flt.log2_lt_of h0 hb) h9⟩
theorem op_subBl {X : Cx} : OpR X (binaryOp .Sub) (fun x y H Q => ∃ p q, x = .bl p ∧ y = .bl q ∧ Q (.int ((if p = true then (1 : Int) else 0) - if q = true then (1 : Int) else 0)) H) := by
  intro pins s σ H x y v u Q I rx ry h
  obtain ⟨p, q, rfl, rfl, k⟩ := h
  cases rx
  cases ry
  exact PyProof.Rows.sub_bool ⟨.int _, H, I.tok _, ⟨_, rfl⟩, k⟩
/-! ### the one form of a fraction -/
def frac (a b : Int) : Da := if b = 1 then .int a else .tup [.int a, .int b]
/-- d is the number a / b in its one form -/
def Low (a b : Int) (d : Da) : Prop := ∃ p q g : Int, g ≠ 0 ∧ a = p * g ∧ b = q * g ∧ 0 < q ∧ Nat.gcd p.natAbs q.natAbs = 1 ∧ d = frac p q
theorem frac_above {a b : Int} : above (frac a b) = a := by
  unfold frac
  split <;> rfl
theorem frac_below {a b : Int} : below (frac a b) = b := by
  unfold frac
  split
  · rename_i h
    rw [h]
    rfl
  · rfl
theorem frac_num {a b : Int} (h : 0 < b) (g : Nat.gcd a.natAbs b.natAbs = 1) : isNum (frac a b) = true := by
  unfold frac
  split
  · rfl
  · rename_i n
    show (false || (true && (decide (2 ≤ b) && decide (Nat.gcd a.natAbs b.natAbs = 1)))) = true
    rw [decide_eq_true (by omega : 2 ≤ b), decide_eq_true g]
    rfl
theorem co_dvd {p q p' q' : Int} (g : Nat.gcd p.natAbs q.natAbs = 1) (h : p * q' = p' * q) : q.natAbs ∣ q'.natAbs := by
  have h1 : q ∣ p * q' := ⟨p', by rw [h, Int.mul_comm]⟩
  have h2 : q.natAbs ∣ p.natAbs * q'.natAbs := by
    rw [← Int.natAbs_mul]
    exact Int.natAbs_dvd_natAbs.mpr h1
  exact (Nat.Coprime.symm (show Nat.Coprime p.natAbs q.natAbs from g)).dvd_of_dvd_mul_left h2
theorem co_eq {p q p' q' : Int} (g : Nat.gcd p.natAbs q.natAbs = 1) (g' : Nat.gcd p'.natAbs q'.natAbs = 1) (hq : 0 < q) (hq' : 0 < q') (h : p * q' = p' * q) : p = p' ∧ q = q' := by
  have d1 := co_dvd g h
  have d2 := co_dvd g' h.symm
  have e := Nat.dvd_antisymm d1 d2
  have eq : q = q' := by omega
  subst eq
  exact ⟨Int.eq_of_mul_eq_mul_right (by omega) h, rfl⟩
theorem Low.uniq {a b a' b' : Int} {d d' : Da} (h : Low a b d) (h' : Low a' b' d') (e : a * b' = a' * b) : d = d' := by
  obtain ⟨p, q, g, g0, rfl, rfl, q0, co, rfl⟩ := h
  obtain ⟨p', q', g', g0', rfl, rfl, q0', co', rfl⟩ := h'
  have e2 : (p * q') * (g * g') = (p' * q) * (g * g') := by
    have e3 : p * g * (q' * g') = (p * q') * (g * g') := by rw [Int.mul_assoc, Int.mul_left_comm g, ← Int.mul_assoc p]
    have e4 : p' * g' * (q * g) = (p' * q) * (g * g') := by rw [Int.mul_assoc, Int.mul_left_comm g', ← Int.mul_assoc p', Int.mul_comm g']
    rw [← e3, ← e4, e]
  have e3 := Int.eq_of_mul_eq_mul_right (Int.mul_ne_zero g0 g0') e2
  obtain ⟨rfl, rfl⟩ := co_eq co co' q0 q0' e3
  rfl
theorem Low.at (a b : Int) (h : b ≠ 0) : ∃ d, Low a b d := by
  have gp : 0 < Nat.gcd a.natAbs b.natAbs := Nat.gcd_pos_of_pos_right _ (by omega)
  have d1 : ((Nat.gcd a.natAbs b.natAbs : Nat) : Int) ∣ a := Int.ofNat_dvd_left.mpr (Nat.gcd_dvd_left _ _)
  have d2 : ((Nat.gcd a.natAbs b.natAbs : Nat) : Int) ∣ b := Int.ofNat_dvd_left.mpr (Nat.gcd_dvd_right _ _)
  have co := Nat.coprime_div_gcd_div_gcd gp
  obtain ⟨p, hp⟩ := d1
  obtain ⟨q, hq⟩ := d2
  generalize hg : Nat.gcd a.natAbs b.natAbs = g at *
  have cop : Nat.gcd p.natAbs q.natAbs = 1 := by
    have e1 : a.natAbs / g = p.natAbs := by rw [hp, Int.natAbs_mul, Int.natAbs_natCast, Nat.mul_div_cancel_left _ gp]
    have e2 : b.natAbs / g = q.natAbs := by rw [hq, Int.natAbs_mul, Int.natAbs_natCast, Nat.mul_div_cancel_left _ gp]
    rw [e1, e2] at co
    exact co
  by_cases hb : 0 < b
  · refine ⟨frac p q, p, q, g, by omega, by rw [hp, Int.mul_comm], by rw [hq, Int.mul_comm], ?_, cop, rfl⟩
    rw [hq] at hb
    exact Int.pos_of_mul_pos_right hb (by omega)
  · refine ⟨frac (-p) (-q), -p, -q, -g, by omega, by rw [hp, Int.neg_mul_neg, Int.mul_comm], by rw [hq, Int.neg_mul_neg, Int.mul_comm], ?_, by rw [Int.natAbs_neg, Int.natAbs_neg]; exact cop, rfl⟩
    have hb' : q * (g : Int) < 0 := by rw [Int.mul_comm]; omega
    have := Int.neg_of_mul_neg_left hb' (by omega)
    omega
theorem Low.num {a b : Int} {d : Da} (h : Low a b d) : isNum d = true ∧ 0 < below d ∧ above d * b = a * below d ∧ (above d).natAbs ≤ a.natAbs ∧ (below d).natAbs ≤ b.natAbs := by
  obtain ⟨p, q, g, g0, rfl, rfl, q0, co, rfl⟩ := h
  rw [frac_above, frac_below]
  have g1 : 1 ≤ g.natAbs := by omega
  refine ⟨frac_num q0 co, q0, by rw [Int.mul_assoc, Int.mul_comm g, ← Int.mul_assoc], ?_, ?_⟩
  · rw [Int.natAbs_mul]
    exact Nat.le_mul_of_pos_right _ g1
  · rw [Int.natAbs_mul]
    exact Nat.le_mul_of_pos_right _ g1
/-- a number's parts share no divisor -/
theorem num_parts {d : Da} (h : isNum d = true) : 0 < below d ∧ Nat.gcd (above d).natAbs (below d).natAbs = 1 := by
  have two : ∀ l, isPair l = true → ∃ a b : Int, l = [.int a, .int b] ∧ 2 ≤ b ∧ Nat.gcd a.natAbs b.natAbs = 1 := fun l hl => by
    match l, hl with
    | [.int a, .int b], hl =>
      have hl' : (decide (2 ≤ b) && decide (Nat.gcd a.natAbs b.natAbs = 1)) = true := hl
      rw [Bool.and_eq_true] at hl'
      exact ⟨a, b, rfl, of_decide_eq_true hl'.1, of_decide_eq_true hl'.2⟩
  cases d with
  | int i => exact ⟨by show (0 : Int) < 1; decide, Nat.gcd_one_right _⟩
  | tup l =>
    obtain ⟨a, b, rfl, h2, h3⟩ := two l (by simpa [isNum, isN, isS, items] using h)
    exact ⟨by show 0 < b; omega, h3⟩
  | lst l =>
    obtain ⟨a, b, rfl, h2, h3⟩ := two l (by simpa [isNum, isN, isS, items] using h)
    exact ⟨by show 0 < b; omega, h3⟩
  | _ => cases h
/-- a number's one form -/
theorem Low.self {d : Da} (h : isNum d = true) : Low (above d) (below d) (frac (above d) (below d)) := by
  obtain ⟨h1, h2⟩ := num_parts h
  exact ⟨_, _, 1, by decide, (Int.mul_one _).symm, (Int.mul_one _).symm, h1, h2, rfl⟩
/-- is it in the one form -/
def isOne : Da → Bool
  | .int _ => true
  | .tup l => isPair l
  | _ => false
theorem isOne_num {d : Da} (h : isOne d = true) : isNum d = true := by
  cases d with
  | int i => rfl
  | tup l =>
    have h' : isPair l = true := h
    simpa [isNum, isN, isS, items] using h'
  | _ => cases h
theorem isOne_frac {d : Da} (h : isOne d = true) : d = frac (above d) (below d) := by
  cases d with
  | int i => rfl
  | tup l =>
    match l, h with
    | [.int a, .int b], h =>
      have hl' : (decide (2 ≤ b) && decide (Nat.gcd a.natAbs b.natAbs = 1)) = true := h
      rw [Bool.and_eq_true] at hl'
      have h2 := of_decide_eq_true hl'.1
      show Da.tup [.int a, .int b] = if b = 1 then .int a else .tup [.int a, .int b]
      rw [if_neg (by omega)]
  | _ => cases h
theorem Low.one {a b : Int} {d : Da} (h : Low a b d) : isOne d = true := by
  obtain ⟨p, q, g, g0, rfl, rfl, q0, co, rfl⟩ := h
  have e := frac_num q0 co
  unfold frac at e ⊢
  split
  · rfl
  · rename_i n
    rw [if_neg n] at e
    rw [isOne]
    simpa [isNum, isN, isS, items] using e
/-- the values that a program makes of it -/
theorem low_quot {a b g : Int} (hg : g ≠ 0) (ha : g ∣ a) (hb : g ∣ b) : a = a.fdiv g * g ∧ b = b.fdiv g * g := by
  rw [Int.fdiv_eq_ediv_of_dvd ha, Int.fdiv_eq_ediv_of_dvd hb]
  exact ⟨(Int.ediv_mul_cancel ha).symm, (Int.ediv_mul_cancel hb).symm⟩
/-- the number that the two quotients by the signed divisor make -/
theorem low_of {a b g : Int} (hb : b ≠ 0) (hg : g = if b < 0 then -((Nat.gcd a.natAbs b.natAbs : Nat) : Int) else ((Nat.gcd a.natAbs b.natAbs : Nat) : Int)) :
    g ≠ 0 ∧ 0 < b.fdiv g ∧ Low a b (frac (a.fdiv g) (b.fdiv g)) ∧ (b = g ↔ b.fdiv g = 1) ∧ g.natAbs ≤ b.natAbs := by
  have gp : 0 < Nat.gcd a.natAbs b.natAbs := Nat.gcd_pos_of_pos_right _ (by omega)
  have gn : g.natAbs = Nat.gcd a.natAbs b.natAbs := by
    rw [hg]
    split
    · rw [Int.natAbs_neg, Int.natAbs_natCast]
    · rw [Int.natAbs_natCast]
  have g0 : g ≠ 0 := by omega
  have d1 : g ∣ a := Int.natAbs_dvd_natAbs.mp (by rw [gn]; exact Nat.gcd_dvd_left _ _)
  have d2 : g ∣ b := Int.natAbs_dvd_natAbs.mp (by rw [gn]; exact Nat.gcd_dvd_right _ _)
  obtain ⟨e1, e2⟩ := low_quot g0 d1 d2
  have co : Nat.gcd (a.fdiv g).natAbs (b.fdiv g).natAbs = 1 := by
    have c := Nat.coprime_div_gcd_div_gcd gp
    have f1 : a.natAbs / Nat.gcd a.natAbs b.natAbs = (a.fdiv g).natAbs := by
      have : a.natAbs = (a.fdiv g).natAbs * g.natAbs := by rw [← Int.natAbs_mul, ← e1]
      rw [← gn, this, Nat.mul_div_cancel _ (by omega)]
    have f2 : b.natAbs / Nat.gcd a.natAbs b.natAbs = (b.fdiv g).natAbs := by
      have : b.natAbs = (b.fdiv g).natAbs * g.natAbs := by rw [← Int.natAbs_mul, ← e2]
      rw [← gn, this, Nat.mul_div_cancel _ (by omega)]
    rw [f1, f2] at c
    exact c
  have qp : 0 < b.fdiv g := by
    by_cases hb2 : b < 0
    · have gneg : g < 0 := by rw [hg, if_pos hb2]; omega
      generalize b.fdiv g = q at e2
      rw [e2] at hb2
      by_cases z : 0 < q
      · exact z
      · exact absurd (Int.mul_nonneg_of_nonpos_of_nonpos (by omega : q ≤ 0) (by omega : g ≤ 0)) (by omega)
    · have gpos : 0 < g := by rw [hg, if_neg hb2]; omega
      generalize b.fdiv g = q at e2
      have hb3 : 0 < q * g := by rw [← e2]; omega
      exact Int.pos_of_mul_pos_left hb3 gpos
  refine ⟨g0, qp, ⟨_, _, g, g0, e1, e2, qp, co, rfl⟩, ⟨fun e => ?_, fun e => ?_⟩, ?_⟩
  · have e3 : g = b.fdiv g * g := by rw [← e2, e]
    have e4 : 1 * g = b.fdiv g * g := by rw [Int.one_mul]; exact e3
    exact (Int.eq_of_mul_eq_mul_right g0 e4).symm
  · rw [e, Int.one_mul] at e2
    exact e2
  · rw [gn]
    exact Nat.gcd_le_right _ (by omega)
end Ty

namespace Ty
open PySem PySem.Spec PyProof.Rows L2
/-! ### repr of any value without a dict -/
mutual
def pd : Da → PyData
  | .non => .none
  | .bl b => .bool b
  | .int i => .int i
  | .str x => .str x
  | .tup l => .tuple (pdA l)
  | .lst l => .list (pdA l)
  | .dic => .dict []
def pdA : List Da → List PyData
  | [] => []
  | d :: l => pd d :: pdA l
end
mutual
/-- more than the text is long -/
def wt : Da → Nat
  | .int _ => 1930
  | .str x => (reprText x).length
  | .tup l => wtA l + 10
  | .lst l => wtA l + 10
  | _ => 10
def wtA : List Da → Nat
  | [] => 0
  | d :: l => wt d + 2 + wtA l
end
mutual
/-- its integers have less than 1920 bits, there is no dict -/
def nums : Da → Bool
  | .int i => decide (i.natAbs.log2 < 1920)
  | .tup l => numsA l
  | .lst l => numsA l
  | .dic => false
  | _ => true
def numsA : List Da → Bool
  | [] => true
  | d :: l => nums d && numsA l
end
mutual
def dp : Da → Nat
  | .tup l => dpA l + 1
  | .lst l => dpA l + 1
  | .dic => 1
  | _ => 0
def dpA : List Da → Nat
  | [] => 0
  | d :: l => max (dp d) (dpA l)
end
mutual
theorem nums_show : ∀ d : Da, nums d = true → (pd d).showable = true ∧ (pd d).hasDict = false
  | .non, _ => ⟨rfl, rfl⟩
  | .bl _, _ => ⟨rfl, rfl⟩
  | .int i, h => ⟨h, rfl⟩
  | .str _, _ => ⟨rfl, rfl⟩
  | .tup l, h => numsA_show l h
  | .lst l, h => numsA_show l h
  | .dic, h => by cases h
theorem numsA_show : ∀ l : List Da, numsA l = true → PyData.showableAll (pdA l) = true ∧ PyData.hasDictAll (pdA l) = false
  | [], _ => ⟨rfl, rfl⟩
  | d :: l, h => by
    have h' : (nums d && numsA l) = true := h
    rw [Bool.and_eq_true] at h'
    obtain ⟨a1, a2⟩ := nums_show d h'.1
    obtain ⟨b1, b2⟩ := numsA_show l h'.2
    constructor
    · show (PyData.showable (pd d) && PyData.showableAll (pdA l)) = true
      rw [a1, b1]
      rfl
    · show (PyData.hasDict (pd d) || PyData.hasDictAll (pdA l)) = false
      rw [a2, b2]
      rfl
end
mutual
theorem dp_eq : ∀ d : Da, PyData.depth (pd d) = dp d
  | .non => rfl
  | .bl _ => rfl
  | .int _ => rfl
  | .str _ => rfl
  | .tup l => by
    show PyData.depthAll (pdA l) + 1 = dpA l + 1
    rw [dpA_eq l]
  | .lst l => by
    show PyData.depthAll (pdA l) + 1 = dpA l + 1
    rw [dpA_eq l]
  | .dic => rfl
theorem dpA_eq : ∀ l : List Da, PyData.depthAll (pdA l) = dpA l
  | [] => rfl
  | d :: l => by
    show max (PyData.depth (pd d)) (PyData.depthAll (pdA l)) = max (dp d) (dpA l)
    rw [dp_eq d, dpA_eq l]
end
theorem wtA_sum : ∀ l : List Da, (∀ d ∈ l, (PyData.shown (pd d)).length ≤ wt d) → ((PyData.shownAll (pdA l)).map (·.length)).sum + 2 * (PyData.shownAll (pdA l)).length ≤ wtA l
  | [], _ => Nat.le_refl _
  | d :: l, h => by
    have h1 := h d List.mem_cons_self
    have h2 := wtA_sum l fun e he => h e (List.mem_cons_of_mem _ he)
    show ((PyData.shown (pd d) :: PyData.shownAll (pdA l)).map (·.length)).sum + 2 * (PyData.shown (pd d) :: PyData.shownAll (pdA l)).length ≤ wt d + 2 + wtA l
    rw [List.map_cons, List.sum_cons, List.length_cons]
    omega
mutual
theorem shown_wt : ∀ d : Da, nums d = true → (PyData.shown (pd d)).length ≤ wt d
  | .non, _ => by show (PyData.shown .none).length ≤ 10; decide +kernel
  | .bl b, _ => by
    cases b
    · show (PyData.shown (.bool false)).length ≤ 10; decide +kernel
    · show (PyData.shown (.bool true)).length ≤ 10; decide +kernel
  | .int i, h => by
    have h1 := PySem.int_text_length_le (a := i) (k := 1920) (by decide) (of_decide_eq_true h)
    show (PySem.Str.ofString (toString i)).length ≤ 1930
    rw [PySem.ofString_length]
    omega
  | .str x, _ => Nat.le_refl _
  | .tup l, h => by
    have h1 := wtA_sum l (shown_wtA l h)
    have h2 := tupleText_len_le (PyData.shownAll (pdA l))
    show (tupleText (PyData.shownAll (pdA l))).length ≤ wtA l + 10
    omega
  | .lst l, h => by
    have h1 := wtA_sum l (shown_wtA l h)
    have h2 := listText_len_le (PyData.shownAll (pdA l))
    show (listText (PyData.shownAll (pdA l))).length ≤ wtA l + 10
    omega
  | .dic, h => by cases h
theorem shown_wtA : ∀ l : List Da, numsA l = true → ∀ d ∈ l, (PyData.shown (pd d)).length ≤ wt d
  | [], _, d, hd => by cases hd
  | e :: l, h, d, hd => by
    have h' : (nums e && numsA l) = true := h
    rw [Bool.and_eq_true] at h'
    cases hd with
    | head => exact shown_wt e h'.1
    | tail _ hd => exact shown_wtA l h'.2 d hd
end
def okr (d : Da) : Bool := nums d && (decide (dp d ≤ 60) && decide (wt d ≤ 16000000))
mutual
theorem Is.dp {K : PySem.W.Frag} {H : Hp} : ∀ (d : Da) (v : V), Is H v d → nums d = true → Dp K H v (pd d)
  | .non, _, h, _ => by cases h; exact .non
  | .bl b, _, h, _ => by cases h; exact .bl b
  | .int i, _, h, _ => by cases h; exact .int i
  | .str x, _, h, _ => by cases h; exact .str x
  | .tup l, _, h, n => by
    cases h with
    | tup e h => exact .tup (.inl (.inl e)) (IsAll.dp l _ h n)
  | .lst l, _, h, n => by
    cases h with
    | lst e h => exact .lst (.inl (.inl e)) (IsAll.dp l _ h n)
  | .dic, _, _, n => by cases n
theorem IsAll.dp {K : PySem.W.Frag} {H : Hp} : ∀ (l : List Da) (vs : List V), IsAll H vs l → numsA l = true → DpAll K H vs (pdA l)
  | [], _, h, _ => by cases h; exact .nil
  | d :: l, _, h, n => by
    have h' : (nums d && numsA l) = true := n
    rw [Bool.and_eq_true] at h'
    cases h with
    | cons h t => exact .cons (Is.dp d _ h h'.1) (IsAll.dp l _ t h'.2)
end
section
variable {X : Cx}
/-- repr(x) -/
theorem call_reprD (hu : X.A.units + 64 < cLine) (hg : X.A.guards = some []) : CallR X (.builtin "repr") (fun xs H Q => ∃ v d, xs = [v] ∧ Is H v d ∧ okr d = true ∧ Q (.str (pd d).shown) H) := by
  intro pins s σ H xs us Q I r h
  obtain ⟨v, d, rfl, hd, ok, q⟩ := h
  obtain ⟨u, rfl, ru⟩ := vals1 r
  unfold okr at ok
  rw [Bool.and_eq_true, Bool.and_eq_true] at ok
  have h1 := ok.1
  have h2 := of_decide_eq_true ok.2.1
  have h3 := of_decide_eq_true ok.2.2
  obtain ⟨s1, s2⟩ := nums_show d h1
  have sz := shown_wt d h1
  have line : (PyData.shown (pd d)).length ≤ sizeLine := Nat.le_trans sz (Nat.le_trans h3 (by decide))
  have fin : ∀ {t : Tok} {s' : Shared}, Inv X pins σ H s' → EP X pins σ Q (.str (pd d).shown t) s' := fun {t s'} I' => ⟨.str (pd d).shown, H, I', ⟨t, rfl⟩, q⟩
  have rr : ∀ {a : Addr}, u = .ref a → Dp X.K H v (pd d) → wpAny (model X.prog X.w) X.A (PySem.call (.builtin "repr") [u]) (EP X pins σ Q) X.xe s := fun {a} e D => by
    subst e
    obtain ⟨as, rr⟩ := Dp.reads I (pd d) _ _ D ru
    refine repr_of_reads' rr s1 (fun z => by rw [s2] at z; cases z) hg (by rw [dp_eq]; omega) (fun _ _ e => e) (fun h' u tk hk => ?_) line
    exact fin (I.kept hk)
  have D := Is.dp (K := X.K) d v hd h1
  cases hd with
  | non =>
    cases ru
    exact PySem.P.repr_of_none (fin (I.tok _))
  | bl b =>
    cases ru
    exact PySem.P.repr_of_bool (fin (I.tok _))
  | int i =>
    obtain ⟨t, rfl⟩ := ru
    exact PySem.P.repr_of_int (of_decide_eq_true h1) (fin (I.tok _))
  | str x =>
    obtain ⟨t, rfl⟩ := ru
    exact PySem.P.repr_of_str (fin (I.tok _)) line
  | tup e hx => exact rr (show u = _ from ru) D
  | lst e hx => exact rr (show u = _ from ru) D
  | dic e => cases h1
end
/-! ### what is new -/
/-- all that v is made of has been made since H -/
def New (H H' : Hp) (v : V) (d : Da) : Prop := ∀ S, Live S H → Is (mn S H') v d
section
variable {H H1 H2 : Hp} {v : V} {d : Da}
theorem New.is (h : New H H1 v d) : Is H1 v d := (h (fun _ => false) (fun _ z => by cases z)).up mn_same
theorem New.up (h : New H H1 v d) (s : Same H1 H2) : New H H2 v d := fun S l => (h S l).up (Same.less s)
theorem New.from (h : New H1 H2 v d) (s : Same H H1) : New H H2 v d := fun S l => h S (l.more s)
theorem New.int {i : Int} : New H H1 (.int i) (.int i) := fun _ _ => .int i
theorem New.bl {b : Bool} : New H H1 (.bl b) (.bl b) := fun _ _ => .bl b
theorem New.str {x : Str} : New H H1 (.str x) (.str x) := fun _ _ => .str x
theorem New.tup2 {p : Addr} {v w : V} {d e : Da} (hp : H p = none) (e1 : H1 p = some (.tup [v, w])) (a : New H H1 v d) (b : New H H1 w e) : New H H1 (.ref p) (.tup [d, e]) := fun S l => by
  refine .tup ?_ (.cons (a S l) (.cons (b S l) .nil))
  rw [mn_at]
  · exact e1
  · cases q : S p with
    | false => rfl
    | true => exact absurd hp (l p q)
end
/-! ### drawing, more -/
section
variable {S : Addr → Bool} {j bk : Addr} {H0 H : Hp} {c c1 c2 n : Nat} {σ : L2.St} {te ta tb : TE}
/-- f(jar, e) -/
theorem dr_reachE {i : Nat} {P : Int → Prop} (h : σ[i]? = some (some (.ref j))) (hm : Dr S j bk H0 c σ te (fun d => ∃ m, d = .int m ∧ P m)) (hP : ∀ m, P m → 0 < m ∧ m.natAbs < 2 ^ 8000) :
    Dr S j bk H0 (c + 1) σ (tCall spReach [] E0 (tCons (tVar i) (tCons te tNil))) (fun d => ∃ r, d = .int r ∧ ∃ m, P m ∧ 0 ≤ r ∧ r < m) := fun H n Q kp lv J hn k =>
  ⟨_, h, hm H n _ kp lv J (by omega) fun v d H1 k1 l1 J1 i1 p1 => by
    obtain ⟨m, rfl, pm⟩ := p1
    cases i1
    exact ⟨j, bk, m, n + c, rfl, J1, by omega, (hP m pm).1, (hP m pm).2, fun r H' k2 J2 h0 h1 => k _ _ H' (k1.trans k2) (l1.up k2 J2) (by rwa [Nat.add_assoc] at J2) (.int r) ⟨r, rfl, m, pm, h0, h1⟩⟩⟩
end
/-! ### numbers -/
def bitsN : Nat := 4000
/-- the parts of a number have less than so many bits -/
def NB (n : Nat) (d : Da) : Prop := (above d).natAbs < 2 ^ n ∧ (below d).natAbs < 2 ^ n
theorem NB.more {n m : Nat} {d : Da} (h : NB n d) (l : n ≤ m) : NB m d := ⟨Nat.lt_of_lt_of_le h.1 (Nat.pow_le_pow_right (by decide) l), Nat.lt_of_lt_of_le h.2 (Nat.pow_le_pow_right (by decide) l)⟩
/-- two numbers that can be reckoned together -/
def Fit (d e : Da) : Prop := ∃ m n, 0 < m ∧ 0 < n ∧ m + n ≤ 8900 ∧ NB m d ∧ NB n e
theorem fit_of {d e : Da} (h : NB bitsN d ∧ NB bitsN e) : Fit d e := ⟨bitsN, bitsN, by decide, by decide, by decide, h.1, h.2⟩
/-- a / b in its one form, made new -/
def spNo : Sp := fun vs H Q _ => ∃ a b : Int, vs = [.int a, .int b] ∧ b ≠ 0 ∧ b.natAbs < 2 ^ 8900 ∧ ∀ v d H', Same H H' → New H H' v d → Low a b d → Q v H'
/-- what a def of numbers gives -/
def spOn (F : Da → Da → Prop) : Sp := fun vs H Q _ => ∃ v d, vs = [v] ∧ Is H v d ∧ isNum d = true ∧ NB 8900 d ∧ ∀ w r H', Same H H' → New H H' w r → F d r → Q w H'
def spOn2 (C : Da → Da → Prop) (F : Da → Da → Da → Prop) : Sp := fun vs H Q _ => ∃ u v d e, vs = [u, v] ∧ Is H u d ∧ Is H v e ∧ isNum d = true ∧ isNum e = true ∧ Fit d e ∧ C d e ∧ ∀ w r H', Same H H' → New H H' w r → F d e r → Q w H'
def CT (_ _ : Da) : Prop := True
def fSum (d e r : Da) : Prop := Low (above d * below e + above e * below d) (below d * below e) r
def fDiff (d e r : Da) : Prop := Low (above d * below e - above e * below d) (below d * below e) r
def fProd (d e r : Da) : Prop := Low (above d * above e) (below d * below e) r
def fQuot (d e r : Da) : Prop := Low (above d * below e) (below d * above e) r
def fLess (d e r : Da) : Prop := r = .bl (decide (above d * below e < above e * below d))
def fNeg (d r : Da) : Prop := Low (-above d) (below d) r
def sgn (i : Int) : Int := (if decide (0 < i) = true then (1 : Int) else 0) - if decide (i < 0) = true then (1 : Int) else 0
def fSign (d r : Da) : Prop := r = .int (sgn (above d))
theorem Low.nb {a b : Int} {d : Da} {n : Nat} (h : Low a b d) (ha : a.natAbs < 2 ^ n) (hb : b.natAbs < 2 ^ n) : NB n d := ⟨Nat.lt_of_le_of_lt h.num.2.2.2.1 ha, Nat.lt_of_le_of_lt h.num.2.2.2.2 hb⟩
/-- the number that comes of a number that stands for a fraction -/
theorem quot_of {a b p q u v : Int} {f r : Da} (h : Low p q f) (hr : Low (a * above f) (b * below f) r) (hb : b ≠ 0) (hq : q ≠ 0) (hu : u = a * p) (hv : v = b * q) : Low u v r := by
  obtain ⟨d, hd⟩ := Low.at u v (by rw [hv]; exact Int.mul_ne_zero hb hq)
  have e : r = d := hr.uniq hd (by
    rw [hu, hv]
    have e1 := h.num.2.2.1
    calc a * above f * (b * q) = a * b * (above f * q) := by rw [Int.mul_assoc, Int.mul_left_comm (above f) b q, ← Int.mul_assoc a]
      _ = a * b * (p * below f) := by rw [e1]
      _ = a * p * (b * below f) := by rw [Int.mul_assoc, Int.mul_left_comm b p, ← Int.mul_assoc a])
  rw [e]
  exact hd
theorem diff_of {a b c e : Int} {f r : Da} (h : Low (-c) e f) (hr : Low (a * below f + above f * b) (b * below f) r) (hb : b ≠ 0) (he : e ≠ 0) : Low (a * e - c * b) (b * e) r := by
  obtain ⟨d, hd⟩ := Low.at (a * e - c * b) (b * e) (Int.mul_ne_zero hb he)
  have q : r = d := hr.uniq hd (by
    have e1 := h.num.2.2.1
    have e2 : (a * below f + above f * b) * (b * e) = a * below f * (b * e) + above f * e * (b * b) := by
      rw [Int.add_mul]
      congr 1
      rw [Int.mul_assoc, Int.mul_assoc, Int.mul_left_comm b b e, Int.mul_comm e, Int.mul_comm (b * b) e]
      simp only [Int.mul_assoc, Int.mul_comm, Int.mul_left_comm]
    rw [e2, e1, Int.sub_mul]
    simp only [Int.mul_assoc, Int.mul_comm, Int.mul_left_comm, Int.neg_mul, Int.mul_neg, Int.sub_eq_add_neg])
  rw [q]
  exact hd
end Ty
namespace Ty
open PySem PySem.Spec PyProof.Rows L2
/-- a demand on a value -/
def spNeed (f : Da → Bool) (C : Addr) : Sp := fun vs H Q E => ∃ v p d, vs = [v, p] ∧ Is H v d ∧ (f d = true → ∀ H', Same H H' → Q .non H') ∧ (f d = false → Out1 C "part" p H E)
def spBoth (C : Addr) : Sp := fun vs H Q E => ∃ u v d e, vs = [u, v] ∧ Is H u d ∧ Is H v e ∧ (isNum d = false → Out1 C "part" (.str "one") H E) ∧ (isNum d = true → isNum e = false → Out1 C "part" (.str "other") H E) ∧
  (isNum d = true → isNum e = true → ∀ H', Same H H' → Q .non H')
/-- two numbers reckoned -/
def spBin (C : Addr) (G : Da → Da → Prop) (F : Da → Da → Da → Prop) : Sp := fun vs H Q E => ∃ u v d e, vs = [u, v] ∧ Is H u d ∧ Is H v e ∧ (isNum d = true → isNum e = true → Fit d e) ∧
  (isNum d = false → Out1 C "part" (.str "one") H E) ∧ (isNum d = true → isNum e = false → Out1 C "part" (.str "other") H E) ∧
  (isNum d = true → isNum e = true → G d e → ∀ w r H', Same H H' → New H H' w r → F d e r → Q w H')
def spQuo (C C2 : Addr) : Sp := fun vs H Q E => ∃ u v d e, vs = [u, v] ∧ Is H u d ∧ Is H v e ∧ (isNum d = true → isNum e = true → Fit d e) ∧
  (isNum d = false → Out1 C "part" (.str "one") H E) ∧ (isNum d = true → isNum e = false → Out1 C "part" (.str "other") H E) ∧ (isNum d = true → isNum e = true → above e = 0 → Out1 C2 "part" (.str "other") H E) ∧
  (isNum d = true → isNum e = true → above e ≠ 0 → ∀ w r H', Same H H' → New H H' w r → fQuot d e r → Q w H')
def spSgn (C : Addr) : Sp := fun vs H Q E => ∃ v d, vs = [v] ∧ Is H v d ∧ (isNum d = true → NB 8900 d) ∧ (isNum d = false → Out1 C "part" (.str "number") H E) ∧ (isNum d = true → ∀ w r H', Same H H' → New H H' w r → fSign d r → Q w H')
theorem sgn_zero {i : Int} : sgn i = 0 ↔ i = 0 := by
  unfold sgn
  by_cases h1 : 0 < i
  · rw [decide_eq_true h1, decide_eq_false (by omega : ¬ i < 0)]
    constructor
    · intro z; cases z
    · intro z; omega
  · by_cases h2 : i < 0
    · rw [decide_eq_false h1, decide_eq_true h2]
      constructor
      · intro z; cases z
      · intro z; omega
    · rw [decide_eq_false h1, decide_eq_false h2]
      constructor
      · intro z; omega
      · intro z; rfl
end Ty

namespace Ty
open PySem PySem.Spec PyProof.Rows L2
section
variable {S : Addr → Bool} {j bk : Addr} {H0 H : Hp} {c c1 c2 c3 n : Nat} {σ : L2.St} {te ta tb tc : TE}
/-- a / b in its one form -/
theorem dr_low {Pa Pb : Int → Prop} (ha : Dr S j bk H0 c1 σ ta (fun d => ∃ i, d = .int i ∧ Pa i)) (hb : Dr S j bk H0 c2 σ tb (fun d => ∃ i, d = .int i ∧ Pb i)) (hp : ∀ b, Pb b → b ≠ 0 ∧ b.natAbs < 2 ^ 8900) :
    Dr S j bk H0 (c1 + c2) σ (tCall spNo [] E0 (tCons ta (tCons tb tNil))) (fun d => ∃ a b, Pa a ∧ Pb b ∧ Low a b d) := fun H n Q kp lv J hn k =>
  ha H n _ kp lv J (by omega) fun v d H1 k1 l1 J1 h1 p1 => hb H1 (n + c1) _ (kp.trans k1) l1 J1 (by omega) fun u e H2 k2 l2 J2 h2 p2 => by
    obtain ⟨a, rfl, pa⟩ := p1
    obtain ⟨b, rfl, pb⟩ := p2
    cases h1
    cases h2
    exact ⟨a, b, rfl, (hp b pb).1, (hp b pb).2, fun w r H3 s3 n3 l3 => k w r H3 ((k1.trans k2).trans (Same.keep s3)) (l2.more s3) ((by rwa [Nat.add_assoc] at J2 : Jar j bk H2 (n + (c1 + c2))).up s3) (n3 S l2) ⟨a, b, pa, pb, l3⟩⟩
/-- one of a list that is made -/
theorem dr_pickV {i : Nat} {P2 : List Da → Prop} (hj : S j = true) (h : σ[i]? = some (some (.ref j))) (hl : Dr S j bk H0 c σ te (fun d => ∃ ds, d = .lst ds ∧ P2 ds)) (hp : ∀ ds, P2 ds → 0 < ds.length ∧ ds.length ≤ 1000) :
    Dr S j bk H0 (c + 1) σ (tCall spPick [] E0 (tCons (tVar i) (tCons te tNil))) (fun d => ∃ ds, P2 ds ∧ d ∈ ds) := fun H n Q kp lv J hn k =>
  ⟨_, h, hl H n _ kp lv J (by omega) fun v d H1 k1 l1 J1 h1 p1 => by
    obtain ⟨ds, rfl, p2⟩ := p1
    cases h1 with
    | @lst a xs _ e hx =>
      obtain ⟨e1, e2⟩ := mn_of e
      have aj : a ≠ j := fun z => by rw [z, hj] at e1; cases e1
      have hl := hp ds p2
      have hl2 := hx.length
      refine ⟨j, bk, a, xs, n + c, rfl, J1, by omega, e2, aj, by omega, by omega, fun v H' k2 J2 hv => ?_⟩
      obtain ⟨i, hi⟩ := List.getElem?_of_mem hv
      obtain ⟨d, hd, hi2⟩ := hx.at hi
      exact k v d H' (k1.trans k2) (l1.up k2 J2) (by rwa [Nat.add_assoc] at J2) (hi2.up (k2.less hj)) ⟨ds, p2, List.mem_of_getElem? hd⟩⟩
theorem dr_cat {d1 d2 : List Da} (hj : S j = true) (ha : Dr S j bk H0 0 σ ta (· = .lst d1)) (hb : Dr S j bk H0 0 σ tb (· = .lst d2)) (hl : d1.length + d2.length ≤ 1000) : Dr S j bk H0 0 σ (tOp rCat ta tb) (· = .lst (d1 ++ d2)) := fun H n Q kp lv J hn k =>
  ha H n _ kp lv J hn fun v d H1 k1 l1 J1 h1 p1 => hb H1 n _ (kp.trans k1) l1 J1 hn fun u e H2 k2 l2 J2 h2 p2 => by
    subst p1
    subst p2
    have h1' := h1.up (k2.less hj)
    cases h1' with
    | @lst a xs _ e1 x1 =>
      cases h2 with
      | @lst b ys _ e2 x2 =>
        refine ⟨a, b, xs, ys, rfl, rfl, (mn_of e1).2, (mn_of e2).2, ?_, fun p hp => ?_⟩
        · rw [x1.length, x2.length]
          exact Nat.le_trans hl (by decide)
        · refine k _ _ _ ((k1.trans k2).trans (Same.keep (Same.new hp))) (l2.more (Same.new hp)) (J2.up (Same.new hp)) (.lst (mn_put l2 hp) ?_) rfl
          have app : ∀ {xs ys : List V} {d1 d2 : List Da} {G : Hp}, IsAll G xs d1 → IsAll G ys d2 → IsAll G (xs ++ ys) (d1 ++ d2) := by
            intro xs ys d1
            induction d1 generalizing xs with
            | nil => intro d2 G q1 q2; cases q1; exact q2
            | cons d ds ih => intro d2 G q1 q2; cases q1 with | cons q1 q3 => exact .cons q1 (ih q3 q2)
          exact app (x1.up (Same.less (Same.new hp))) (x2.up (Same.less (Same.new hp)))
/-- three at once -/
theorem dr_par3 {i l m : Nat} {tz : TS} {D : Ends} {Pa Pb Pc : Da → Prop} (hj : S j = true) (ha : Dr S j bk H c1 σ ta Pa) (hb : Dr S j bk H c2 σ tb Pb) (hc : Dr S j bk H c3 σ tc Pc) (lv : Live S H) (J : Jar j bk H n) (hn : n + (c1 + c2 + c3) ≤ 100000)
    (k : ∀ v d u e w f H', Keep j H H' → Live S H' → Jar j bk H' (n + (c1 + c2 + c3)) → Is (mn S H') v d → Pa d → Is (mn S H') u e → Pb e → Is (mn S H') w f → Pc f → tz D (((σ.set i (some v)).set l (some u)).set m (some w)) H') : tSeq (tPar3 i l m (tCons ta (tCons tb (tCons tc tNil)))) tz D σ H :=
  ha H n _ (Keep.refl _) lv J (by omega) fun v d H1 k1 l1 J1 h1 p1 => hb H1 (n + c1) _ k1 l1 J1 (by omega) fun u e H2 k2 l2 J2 h2 p2 => hc H2 (n + c1 + c2) _ (k1.trans k2) l2 J2 (by omega) fun w f H3 k3 l3 J3 h3 p3 =>
    ⟨v, u, w, rfl, k v d u e w f H3 ((k1.trans k2).trans k3) l3 (by rwa [Nat.add_assoc, Nat.add_assoc, ← Nat.add_assoc c1] at J3) (h1.up ((k2.trans k3).less hj)) p1 (h2.up (k3.less hj)) p2 h3 p3⟩
end
/-- a number of not too many digits can be shown -/
theorem log2_lt_nat {i : Int} {n : Nat} (h : i.natAbs < 2 ^ n) (h0 : 0 < n) : i.natAbs.log2 < n := PySem.Flt.log2_lt_of h0 h
theorem num_show {d : Da} (h : isNum d = true) (b : NB 1900 d) : nums d = true ∧ dp d ≤ 1 ∧ wt d ≤ 4000 := by
  have two : ∀ l, isPair l = true → ∃ a b : Int, l = [.int a, .int b] := fun l hl => by
    match l, hl with
    | [.int a, .int b], hl => exact ⟨a, b, rfl⟩
  have lg : ∀ {i : Int}, i.natAbs < 2 ^ 1900 → nums (.int i) = true := fun {i} h => decide_eq_true (Nat.lt_of_lt_of_le (log2_lt_nat h (by decide)) (by decide))
  cases d with
  | int i => exact ⟨lg b.1, by show 0 ≤ 1; decide, by show 1930 ≤ 4000; decide⟩
  | tup l =>
    obtain ⟨x, y, rfl⟩ := two l (by simpa [isNum, isN, isS, items] using h)
    refine ⟨?_, by show 1 ≤ 1; decide, by show 1930 + 2 + (1930 + 2 + 0) + 10 ≤ 4000; decide⟩
    show (nums (.int x) && (nums (.int y) && true)) = true
    rw [(lg b.1 : nums (.int x) = true), (lg b.2 : nums (.int y) = true)]
    rfl
  | lst l =>
    obtain ⟨x, y, rfl⟩ := two l (by simpa [isNum, isN, isS, items] using h)
    refine ⟨?_, by show 1 ≤ 1; decide, by show 1930 + 2 + (1930 + 2 + 0) + 10 ≤ 4000; decide⟩
    show (nums (.int x) && (nums (.int y) && true)) = true
    rw [(lg b.1 : nums (.int x) = true), (lg b.2 : nums (.int y) = true)]
    rfl
  | _ => cases h
theorem num_okr {d : Da} (h : isNum d = true) (b : NB 1900 d) : okr d = true := by
  obtain ⟨h1, h2, h3⟩ := num_show h b
  unfold okr
  rw [h1, decide_eq_true (by omega : dp d ≤ 60), decide_eq_true (by omega : wt d ≤ 16000000)]
  rfl
theorem num_okr2 {d e : Da} (h : isNum d = true) (b : NB 1900 d) (h' : isNum e = true) (b' : NB 1900 e) : okr (.lst [d, e]) = true ∧ okr (.tup [d, e]) = true := by
  obtain ⟨h1, h2, h3⟩ := num_show h b
  obtain ⟨h4, h5, h6⟩ := num_show h' b'
  have e1 : nums (.lst [d, e]) = true := by
    show (nums d && (nums e && true)) = true
    rw [h1, h4]
    rfl
  have e2 : dp (.lst [d, e]) ≤ 60 := by
    show max (dp d) (max (dp e) 0) + 1 ≤ 60
    omega
  have e3 : wt (.lst [d, e]) ≤ 16000000 := by
    show wt d + 2 + (wt e + 2 + 0) + 10 ≤ 16000000
    omega
  constructor
  · unfold okr
    rw [e1, decide_eq_true e2, decide_eq_true e3]
    rfl
  · have q1 : nums (.tup [d, e]) = true := e1
    have q2 : dp (.tup [d, e]) ≤ 60 := e2
    have q3 : wt (.tup [d, e]) ≤ 16000000 := e3
    unfold okr
    rw [q1, decide_eq_true q2, decide_eq_true q3]
    rfl
/-- gcd by rests -/
theorem gcd_step {p o : Int} (p0 : 0 ≤ p) (o0 : 0 < o) : Nat.gcd o.natAbs (p % o).natAbs = Nat.gcd p.natAbs o.natAbs := by
  obtain ⟨p', rfl⟩ := Int.eq_ofNat_of_zero_le p0
  obtain ⟨o', rfl⟩ := Int.eq_ofNat_of_zero_le (Int.le_of_lt o0)
  have e : ((p' : Int) % (o' : Int)).natAbs = p' % o' := by rw [← Int.natCast_emod, Int.natAbs_natCast]
  rw [e, Int.natAbs_natCast, Int.natAbs_natCast, Nat.gcd_comm, ← Nat.gcd_rec, Nat.gcd_comm]
def spCommon : Sp := fun vs H Q _ => ∃ a b : Int, vs = [.int a, .int b] ∧ Q (.int ((Nat.gcd a.natAbs b.natAbs : Nat) : Int)) H
/-- the five words, and what comes -/
def res (w : Str) (a b c e : Int) (r : Da) : Prop :=
  (w = "plus" ∧ Low (a * e + c * b) (b * e) r) ∨ (w = "minus" ∧ Low (a * e - c * b) (b * e) r) ∨ (w = "times" ∧ Low (a * c) (b * e) r) ∨ (w = "below" ∧ r = .bl (decide (a * e < c * b))) ∨
  (w = "quotient" ∧ c ≠ 0 ∧ Low (a * e) (b * c) r) ∨ (w = "quotient" ∧ c = 0 ∧ r = .tup [.str "misfit", .str "other"])
theorem res.uniq {w : Str} {a b c e : Int} {r r' : Da} (h : res w a b c e r) (h' : res w a b c e r') : r = r' := by
  rcases h with ⟨rfl, h⟩ | ⟨rfl, h⟩ | ⟨rfl, h⟩ | ⟨rfl, h⟩ | ⟨rfl, hc, h⟩ | ⟨rfl, hc, h⟩ <;> rcases h' with ⟨e', h'⟩ | ⟨e', h'⟩ | ⟨e', h'⟩ | ⟨e', h'⟩ | ⟨e', hc', h'⟩ | ⟨e', hc', h'⟩ <;>
    first
      | exact h.uniq h' rfl
      | exact h.trans h'.symm
      | exact absurd e' (by decide)
      | exact absurd hc hc'
      | exact absurd hc' hc
theorem res.okr {w : Str} {a b c e : Int} {r : Da} {n : Nat} (h : res w a b c e r) (hn : n + n + 1 ≤ 1900) (ha : a.natAbs < 2 ^ n) (hb : b.natAbs < 2 ^ n) (hc : c.natAbs < 2 ^ n) (he : e.natAbs < 2 ^ n) : okr r = true := by
  have m : ∀ {x y : Int}, x.natAbs < 2 ^ n → y.natAbs < 2 ^ n → (x * y).natAbs < 2 ^ (n + n) := fun h1 h2 => wide_lt h1 h2
  have up : ∀ {x : Int}, x.natAbs < 2 ^ (n + n) → x.natAbs < 2 ^ 1900 := fun h => Nat.lt_of_lt_of_le h (Nat.pow_le_pow_right (by decide) (by omega))
  have two : (2 : Nat) ^ (n + n) + 2 ^ (n + n) ≤ 2 ^ 1900 := by
    rw [← Nat.two_mul, ← Nat.pow_succ']
    exact Nat.pow_le_pow_right (by decide) hn
  rcases h with ⟨rfl, h⟩ | ⟨rfl, h⟩ | ⟨rfl, h⟩ | ⟨rfl, rfl⟩ | ⟨rfl, _, h⟩ | ⟨rfl, _, rfl⟩
  · have h1 := m ha he
    have h2 := m hc hb
    exact num_okr h.num.1 (h.nb (by omega) (up (m hb he)))
  · have h1 := m ha he
    have h2 := m hc hb
    exact num_okr h.num.1 (h.nb (by omega) (up (m hb he)))
  · exact num_okr h.num.1 (h.nb (up (m ha hc)) (up (m hb he)))
  · generalize decide (a * e < c * b) = k
    cases k <;> decide
  · exact num_okr h.num.1 (h.nb (up (m ha he)) (up (m hb hc)))
  · decide +kernel
def W5 : List Str := ["plus", "minus", "times", "below", "quotient"]
end Ty
namespace Ty
open PySem PySem.Spec PyProof.Rows L2
def spNumber : Sp := fun vs H Q _ => ∃ (S : Addr → Bool) (j bk : Addr) (n : Nat), vs = [.ref j] ∧ S j = true ∧ Live S H ∧ Jar j bk H n ∧ n + 5 ≤ 100000 ∧
  ∀ v d H', Keep j H H' → Live S H' → Jar j bk H' (n + 5) → Is (mn S H') v d → isOne d = true → NB 140 d → Q v H'
def spTold : Sp := fun vs H Q _ => ∃ (S : Addr → Bool) (j bk : Addr) (n : Nat) (v : V) (d : Da), vs = [.ref j, v] ∧ S j = true ∧ Live S H ∧ Jar j bk H n ∧ n + 1 ≤ 100000 ∧ Is (mn S H) v d ∧ isOne d = true ∧
  ∀ w f H', Keep j H H' → Live S H' → Jar j bk H' (n + 1) → Is (mn S H') w f → isNum f = true → above f = above d → below f = below d → Q w H'
end Ty
namespace Ty
open PySem PySem.Spec PyProof.Rows L2
def spPairN : Sp := fun vs H Q _ => ∃ (S : Addr → Bool) (j bk : Addr) (n : Nat), vs = [.ref j] ∧ S j = true ∧ Live S H ∧ Jar j bk H n ∧ n + 12 ≤ 100000 ∧
  ∀ p v u d e H', Keep j H H' → Live S H' → Jar j bk H' (n + 12) → H' p = some (.tup [v, u]) → Is (mn S H') v d → Is (mn S H') u e → isOne d = true → isOne e = true → NB 140 d → NB 140 e → Q (.ref p) H'
/-- within the pair's making -/
def PairI (S : Addr → Bool) (j bk : Addr) (H : Hp) (v : V) (d : Da) (way : Int) (m : Nat) : L2.St → Hp → Prop := fun σ' H' => ∃ u e, σ' = [some (.ref j), some v, some u, some (.int way), some (.int (above d)), some (.int (below d))] ∧
  Keep j H H' ∧ Live S H' ∧ Jar j bk H' m ∧ Is (mn S H') v d ∧ Is (mn S H') u e ∧ isOne e = true ∧ NB 140 e
def spDone (C C2 : Addr) : Sp := fun vs H Q E => ∃ w u v d e, vs = [.str w, u, v] ∧ w ∈ W5 ∧ Is H u d ∧ Is H v e ∧ (isNum d = true → isNum e = true → NB bitsN d ∧ NB bitsN e) ∧
  (isNum d = false → Out1 C "part" (.str "one") H E) ∧ (isNum d = true → isNum e = false → Out1 C "part" (.str "other") H E) ∧ (isNum d = true → isNum e = true → w = "quotient" → above e = 0 → Out1 C2 "part" (.str "other") H E) ∧
  (isNum d = true → isNum e = true → ∀ x r H', Same H H' → New H H' x r → res w (above d) (below d) (above e) (below e) r → Q x H')
def spHeard : Sp := fun vs H Q _ => ∃ w u v d e, vs = [.str w, u, v] ∧ w ∈ W5 ∧ Is H u d ∧ Is H v e ∧ (isNum d = true → isNum e = true → NB bitsN d ∧ NB bitsN e) ∧
  (isNum d = false → ∀ x H', Same H H' → Is H' x (.tup [.str "number", .str "one"]) → Q x H') ∧ (isNum d = true → isNum e = false → ∀ x H', Same H H' → Is H' x (.tup [.str "number", .str "other"]) → Q x H') ∧
  (isNum d = true → isNum e = true → ∀ x r H', Same H H' → Is H' x r → res w (above d) (below d) (above e) (below e) r → Q x H')
def spDue : Sp := fun vs H Q _ => ∃ w u v d e, vs = [.str w, u, v] ∧ w ∈ W5 ∧ Is H u d ∧ Is H v e ∧ isNum d = true ∧ isNum e = true ∧ NB bitsN d ∧ NB bitsN e ∧
  ∀ x r H', Same H H' → Is H' x r → res w (above d) (below d) (above e) (below e) r → Q x H'
def spOdd : Sp := fun vs H Q _ => ∃ (S : Addr → Bool) (j bk : Addr) (n : Nat) (v : V) (d : Da), vs = [.ref j, v] ∧ S j = true ∧ Live S H ∧ Jar j bk H n ∧ n + 2 ≤ 100000 ∧ Is (mn S H) v d ∧ isOne d = true ∧ NB 140 d ∧
  ∀ w f H', Keep j H H' → Live S H' → Jar j bk H' (n + 2) → Is (mn S H') w f → isNum f = false → Q w H'
theorem str_ne {a b : Str} (h : a ≠ b) : ¬ V.str a = V.str b := fun z => h (by injection z)
section
variable {S : Addr → Bool} {j bk : Addr} {H0 H : Hp} {c c1 n : Nat} {σ : L2.St} {te : TE}
theorem dr_number {i : Nat} (hS : S j = true) (h : σ[i]? = some (some (.ref j))) : Dr S j bk H0 5 σ (tCall spNumber [] E0 (tCons (tVar i) tNil)) (fun d => isOne d = true ∧ NB 140 d) := fun H n Q kp lv J hn k =>
  ⟨_, h, S, j, bk, n, rfl, hS, lv, J, hn, fun v d H' k' l' J' h' g1 g2 => k v d H' k' l' J' h' ⟨g1, g2⟩⟩
theorem dr_told {i l : Nat} {v : V} {d : Da} (hS : S j = true) (h : σ[i]? = some (some (.ref j))) (h2 : σ[l]? = some (some v)) (hv : Is (mn S H0) v d) (od : isOne d = true) :
    Dr S j bk H0 1 σ (tCall spTold [] E0 (tCons (tVar i) (tCons (tVar l) tNil))) (fun f => isNum f = true ∧ above f = above d ∧ below f = below d) := fun H n Q kp lv J hn k =>
  ⟨_, h, _, h2, S, j, bk, n, v, d, rfl, hS, lv, J, hn, hv.up (kp.less hS), od, fun w f H' k' l' J' h' g1 g2 g3 => k w f H' k' l' J' h' ⟨g1, g2, g3⟩⟩
theorem dr_odd {i l : Nat} {v : V} {d : Da} (hS : S j = true) (h : σ[i]? = some (some (.ref j))) (h2 : σ[l]? = some (some v)) (hv : Is (mn S H0) v d) (od : isOne d = true) (bd : NB 140 d) :
    Dr S j bk H0 2 σ (tCall spOdd [] E0 (tCons (tVar i) (tCons (tVar l) tNil))) (fun f => isNum f = false) := fun H n Q kp lv J hn k =>
  ⟨_, h, _, h2, S, j, bk, n, v, d, rfl, hS, lv, J, hn, hv.up (kp.less hS), od, bd, fun w f H' k' l' J' h' g1 => k w f H' k' l' J' h' g1⟩
theorem dr_negE {i : Int} (h : Dr S j bk H0 c σ te (· = .int i)) : Dr S j bk H0 c σ (tUn (rU fun i => .int (-i)) te) (· = .int (-i)) := fun H n Q kp lv J hn k =>
  h H n _ kp lv J hn fun v d H1 k1 l1 J1 h1 p1 => by
    subst p1
    cases h1
    exact ⟨i, rfl, k _ _ H1 k1 l1 J1 (.int _) rfl⟩
end
theorem pair_not {a b : Int} {t : Int} (ht : 2 ≤ t) : isNum (.tup [.int (a * t), .int (b * t)]) = false := by
  show (false || (true && (decide (2 ≤ b * t) && decide (Nat.gcd (a * t).natAbs (b * t).natAbs = 1)))) = false
  have e : Nat.gcd (a * t).natAbs (b * t).natAbs ≠ 1 := by
    rw [Int.natAbs_mul, Int.natAbs_mul, Nat.gcd_mul_right]
    intro z
    have := Nat.eq_one_of_mul_eq_one_left z
    omega
  rw [decide_eq_false e]
  cases decide (2 ≤ b * t) <;> rfl
theorem low_not {a b : Int} (hb : b < 2) : isNum (.tup [.int a, .int b]) = false := by
  show (false || (true && (decide (2 ≤ b) && decide (Nat.gcd a.natAbs b.natAbs = 1)))) = false
  rw [decide_eq_false (by omega)]
  rfl
end Ty
namespace Ty
open PySem PySem.Spec PyProof.Rows L2
/-- whether all is right with two numbers -/
def spRight2 : Sp := fun vs H Q _ => ∃ (S : Addr → Bool) (j bk : Addr) (n : Nat) (u v : V) (d e : Da), vs = [.ref j, u, v] ∧ S j = true ∧ Live S H ∧ Jar j bk H n ∧ n + 2 ≤ 100000 ∧ Is (mn S H) u d ∧ Is (mn S H) v e ∧ isOne d = true ∧ isOne e = true ∧ NB 140 d ∧ NB 140 e ∧
  ∀ H', Keep j H H' → Live S H' → Jar j bk H' (n + 2) → Q (.bl true) H'
def spRight1 : Sp := fun vs H Q _ => ∃ (S : Addr → Bool) (j bk : Addr) (n : Nat) (u : V) (d : Da), vs = [.ref j, u] ∧ S j = true ∧ Live S H ∧ Jar j bk H n ∧ n + 4 ≤ 100000 ∧ Is (mn S H) u d ∧ isOne d = true ∧ NB 140 d ∧
  ∀ H', Keep j H H' → Live S H' → Jar j bk H' (n + 4) → Q (.bl true) H'
def spLaw (K : PySem.W.Frag) : Sp := fun vs H Q _ => ∃ (a : Addr) (ns : List Int), vs = [.ref a] ∧ SqL K H a (ns.map V.int) ∧ ns.length ≤ 63 ∧ ∀ H', Q (.bl true) H'
/-- the words, walked -/
def W5v : List V := [.str "plus", .str "minus", .str "times", .str "below", .str "quotient"]
theorem W5_at {i : Nat} {x : V} (h : W5v[i]? = some x) : ∃ w, x = .str w ∧ w ∈ W5 := by
  have m := List.mem_of_getElem? h
  simp only [W5v, List.mem_cons, List.not_mem_nil, or_false] at m
  rcases m with rfl | rfl | rfl | rfl | rfl <;> exact ⟨_, rfl, by simp [W5]⟩
end Ty

namespace Ty
open PySem PySem.Spec PyProof.Rows L2
/-! ### enumerate of a tuple -/
set_option maxHeartbeats 1000000 in
theorem enumT_new (t : Addr) (items : Array Value) : Meets (Builtin.«enumerate.__new__» ⟨[.type "enumerate", .ref t], []⟩) (fun _ R s => s.heap.IsTuple t items ∧
    R (.ok (.ret (.ref (s.heap.push { cls := .type "tuple_iterator", data := .fields #[.ref t, .int 0 0] }).objs.size))) { s with heap := (s.heap.push { cls := .type "tuple_iterator", data := .fields #[.ref t, .int 0 0] }).push { cls := .type "enumerate", data := .fields #[.none, .bool false, .ref s.heap.objs.size, rawInt 0, .none, .none] } }) :=
  .of_wp fun prog w A R s h => by
    obtain ⟨hp, g, d, tk, os⟩ := s
    obtain ⟨h1, h⟩ := h
    have hsub := sub_enumerate
    have q1 : ∀ {A' : Around} {E : Value → Shared → Prop} {Q : Value → Shared → Prop}, Q (.ref hp.objs.size) ⟨hp.push { cls := .type "tuple_iterator", data := .fields #[.ref t, .int 0 0] }, g, d, tk, os⟩ → wpAny (model prog w) A' (pyIter (.ref t)) Q E ⟨hp, g, d, tk, os⟩ :=
      fun q => wpAny_pyIter_tuple h1 q
    wp_walk using q1
    refine wpAny_stack_any fun st => wpAny_pure ?_
    split
    · rename_i c _ _ _ _ _
      cases (c == Value.type "enumerate")
      · wp_walk using q1
        exact ⟨_, rfl, h⟩
      · wp_walk using q1
        exact ⟨_, rfl, h⟩
    · wp_walk using q1
      exact ⟨_, rfl, h⟩
section
variable {prog : Program} {w : World} {A : Around} {E : Value → Shared → Prop} {s : Shared}
theorem call_enumT {t : Addr} {items : Array Value} {Q : Value → Shared → Prop} (hT : s.heap.IsTuple t items)
    (h : ∀ h', IsEnum h' (s.heap.objs.size + 1) s.heap.objs.size 0 .none → h'.IsTupleIter s.heap.objs.size t 0 → (∀ b o, s.heap.get? b = some o → h'.get? b = some o) → Q (.ref (s.heap.objs.size + 1)) { s with heap := h' }) :
    wpAny (model prog w) A (PySem.call (.type "enumerate") [.ref t]) Q E s := by
  refine callType_new F.called_enumerate (by decide) (F.typeCall_enumerate_1 _) (F.newCall_enumerate_1 _) (fun obj => F.args_object_init_2 obj _) F.entry_enumerate_new (enumT_new t items) ⟨hT, ?_⟩
  have hz : (s.heap.push { cls := .type "tuple_iterator", data := .fields #[.ref t, .int 0 0] }).objs.size = s.heap.objs.size + 1 := Heap.size_push ..
  show _ ∧ _
  rw [hz]
  have he : IsEnum ((s.heap.push { cls := .type "tuple_iterator", data := .fields #[.ref t, .int 0 0] }).push { cls := .type "enumerate", data := .fields #[.none, .bool false, .ref s.heap.objs.size, rawInt 0, .none, .none] }) (s.heap.objs.size + 1) s.heap.objs.size 0 .none := by
    have q := Heap.get?_push_size (s.heap.push { cls := .type "tuple_iterator", data := .fields #[.ref t, .int 0 0] }) (o := { cls := .type "enumerate", data := .fields #[.none, .bool false, .ref s.heap.objs.size, rawInt 0, .none, .none] }) rfl
    rw [hz] at q
    exact q
  exact ⟨⟨_, he, rfl⟩, h _ he ⟨_, Heap.get?_push_of_some _ (Heap.get?_push_size _ rfl), rfl, rfl⟩ fun b o x => Heap.get?_push_of_some _ (Heap.get?_push_of_some _ x)⟩
end
theorem drawsT {prog : Program} {w : World} {A : Around} (hh : A.handled = none) (it t : Addr) (hne : t ≠ it) (items : Array Value) :
    Draws prog w A it [it, t] items.size (fun i v => items[i]? = some v) (fun i h => h.IsTupleIter it t i ∧ h.IsTuple t items) where
  live := fun _ _ st => let ⟨o, ho, _⟩ := st.1; ⟨o, ho⟩
  frame := fun _ _ _ st hk => ⟨st.1.at fun o e => hk it (by simp) o e, by
    obtain ⟨o, ho, r⟩ := st.2
    exact ⟨o, hk t (by simp) o ho, r⟩⟩
  item := fun i s Q E hi st hQ => by
    refine RZ.nextOf_tuple_item st.1 st.2 (x := items[i]) (by simp [hi]) fun h' hit' hs' => ?_
    refine hQ _ h' s.toks (by simp [hi]) ⟨hit', ?_⟩ hs'
    obtain ⟨o, ho, r⟩ := st.2
    exact ⟨o, (hs'.2 t hne).trans ho, r⟩
  done := fun s Q E st hE => RZ.nextOf_tuple_end hh st.1 st.2 (by simp) hE
/-- the tuple at a, each item in a new pair -/
def IteT (K : PySem.W.Frag) (a : Addr) : It :=
  ⟨fun i H => ∃ (xs : List V) (x : V), SqT K H a xs ∧ xs[i]? = some x, fun i H v H' => ∃ T x, v = .ref T ∧ H T = none ∧ H' = upd H T (.tup [.int (i : Nat), x]) ∧ ∀ xs, SqT K H a xs → xs[i]? = some x, fun i H => ∃ xs : List V, SqT K H a xs ∧ xs.length = i⟩
end Ty
namespace Ty
open PySem PySem.Spec PyProof.Rows L2
theorem turn_enumT {P : Program} {w : World} {K : PySem.W.Frag} {elts : List Expr} {kk : Nat} {tpos : Pos} (a e it : Addr) :
    Turn P w K (.Tuple elts kk tpos) (IteT K a) [e, it] e (fun i h => (∃ old, IsEnum h e it ((i : Nat) : Int) old) ∧ h.IsTupleIter it a i ∧ e ≠ it) where
  mem := by simp
  obj := fun i h st b hb => by
    obtain ⟨⟨old, he⟩, ⟨o, ho, hc, hd⟩, _⟩ := st
    rcases (by simpa using hb : b = e ∨ b = it) with z | z
    · rw [z]; exact ⟨_, he, fun v q => nomatch q⟩
    · rw [z]; exact ⟨o, ho, fun v q => by rw [hd] at q; cases q⟩
  keep := fun i h h' st k => let ⟨⟨old, he⟩, hi, hne⟩ := st; ⟨⟨old, k e (by simp) _ he⟩, hi.at fun o q => k it (by simp) o q, hne⟩
  item := by
    intro X hP hw hK hc i pins s σ H E I hf st hg
    subst hP hw hK
    obtain ⟨⟨old, he⟩, hit, hne⟩ := st
    obtain ⟨xs, x, hq, hx⟩ := hg
    obtain ⟨its, rv, p, hz⟩ := I.tuple hq
    obtain ⟨u, hu, ru⟩ := rv.get hx
    have hel : e < s.heap.objs.size := Heap.lt_size he
    have hil : it < s.heap.objs.size := by obtain ⟨_, q, _⟩ := hit; exact Heap.lt_size q
    have p' : s.heap.IsTuple a its.toArray := p
    have ae : e ≠ a := fun z => by
      obtain ⟨o, ho, hc, _⟩ := p'
      rw [← z, he] at ho
      cases ho
      simp at hc
    have ai : a ≠ it := fun z => by
      obtain ⟨o, ho, hc, _⟩ := p'
      obtain ⟨o2, ho2, hc2, _⟩ := hit
      rw [z, ho2] at ho
      cases ho
      rw [hc] at hc2
      simp at hc2
    have hlt : i < its.toArray.size := by
      have := (List.getElem?_eq_some_iff.mp hu).1
      simpa using this
    refine wpAny_pyNext_enum_itemD (drawsT (A := X.A.in1) (I.ok.hd hc) it a ai its.toArray) he ⟨hit, p'⟩ hlt hne (by simp [hne, ae]) fun x' h' tk hx' ho hst' hT hsz hk => ?_
    obtain ⟨hit', _⟩ := hst'
    have ex : x' = u := by
      have q : its[i]? = some x' := by simpa using hx'
      rw [hu] at q
      exact (Option.some.inj q).symm
    subst ex
    refine ⟨_, rfl, wpAny_letOwnedTupleGo_enum (s := { s with heap := h', toks := tk + 1 }) ho fun h'' he' sb => ?_⟩
    have hT2 : h''.get? s.heap.objs.size = some { cls := .type "tuple", data := .seq #[.int i tk, x'] } := (sb.2 _ (Nat.ne_of_gt hel)).trans hT
    have new : ObjOk X.prog X.w (upd H s.heap.objs.size (.tup [.int (i : Nat), x])) h'' s.heap.objs.size (.tup [.int (i : Nat), x]) :=
      ⟨by show 2 ≤ sizeLine; decide, [.int i tk, x'], .cons ⟨_, rfl⟩ (.cons ru .nil), ⟨_, hT2, rfl, _, rfl⟩⟩
    have I1 : Inv X pins σ (upd H s.heap.objs.size (.tup [.int (i : Nat), x])) { s with heap := h'', toks := tk + 1 } :=
      I.turnedNew (ch := [e, it]) (fun b ob hb q => (sb.2 b (fun z => hb (by simp [z]))).trans (hk b ob (fun z => hb (by simp [z])) (fun z => hb (by simp [z])) q)) hf (Nat.le_refl _) new
    refine ⟨.ref s.heap.objs.size, _, I1, rfl, ⟨_, x, rfl, I.hok.fresh (Nat.le_refl _), rfl, fun ys hy => by rw [I.tuple_inj hy hq]; exact hx⟩, ⟨⟨x', ?_⟩, hit'.at fun o q => (sb.2 it (Ne.symm hne)).trans q, hne⟩, fun b hb => ?_⟩
    · have e1 : ((i + 1 : Nat) : Int) = (i : Int) + 1 := by omega
      rw [e1]; exact he'
    · have hb' : b < s.heap.objs.size := by
        rcases (by simpa using hb : b = e ∨ b = it) with z | z
        · rw [z]; exact hel
        · rw [z]; exact hil
      rw [upd_ne (Nat.ne_of_lt hb')]
      exact (hf b hb).1
  done := by
    intro X hP hw hK hc i pins s σ H E I hf st hg
    subst hP hw hK
    obtain ⟨⟨old, he⟩, hit, hne⟩ := st
    obtain ⟨xs, hq, hx⟩ := hg
    obtain ⟨its, rv, p, hz⟩ := I.tuple hq
    obtain ⟨f0, f1, f2, f3, f4, f5⟩ := hf it (by simp)
    have hl := rv.length
    have p' : s.heap.IsTuple a its.toArray := p
    have ai : a ≠ it := fun z => by
      obtain ⟨o, ho, hc, _⟩ := p'
      obtain ⟨o2, ho2, hc2, _⟩ := hit
      rw [z, ho2] at ho
      cases ho
      rw [hc] at hc2
      simp at hc2
    have en : its.toArray.size = i := by simp; omega
    refine wpAny_pyNext_enum_endD (drawsT (A := X.A.in1) (I.ok.hd hc) it a ai its.toArray) he ⟨by rw [en]; exact hit, p'⟩ fun h' eb => ⟨rfl, I.turned (t' := s.toks) (fun b o hb q => eb b o hb q) f0 f1 f3 f4 f5⟩
  self := fun A i s Q E st h => let ⟨⟨_, he⟩, _⟩ := st; wpAny_pyIter_enum he h
def iEnumT (K : PySem.W.Frag) (ta : TA) : TI := fun σ H R => ta σ H fun vs H1 => ∃ a xs, vs = [.ref a] ∧ SqT K H1 a xs ∧ R (IteT K a) H1
theorem pi_enumT {X : Cx} {e : Expr} {ta : TA} {p pos tpos : Pos} {elts : List Expr} {kk : Nat} (hg : Gl X "enumerate") (hm : X.mg "enumerate" = none) (ha : PA X [e] ta) (hs : starEach [e] X.env = [(false, eval e X.env)] := by rfl) :
    PI X (.Tuple elts kk tpos) (.Call (.Name "enumerate" p) [e] [] pos) (iEnumT X.K ta) := by
  refine ⟨fun pins s σ H R I h => ?_⟩
  refine Call_ (ld_blt I hg hm boot_enumerate (PyProof.Rows.callWith_type1 (thn (ha.run pos pins s σ H _ I h) fun us s1 hh => ?_) hs rfl))
  obtain ⟨vs, H1, I1, r1, a, xs, ex, hq, q⟩ := hh
  subst ex
  cases r1 with
  | cons r rr =>
    cases rr
    cases r
    obtain ⟨its, rv, p', hz⟩ := I1.tuple hq
    refine call_enumT p' fun h' he hit hk => wpAny_pyIter_enum he ?_
    have I2 : Inv X pins σ H1 { s1 with heap := h' } := I1.kept (t' := s1.toks) hk
    refine ⟨s1.heap.objs.size + 1, [s1.heap.objs.size + 1, s1.heap.objs.size], _, _, H1, rfl, I2, turn_enumT a (s1.heap.objs.size + 1) s1.heap.objs.size, ⟨⟨.none, he⟩, hit, Nat.succ_ne_self _⟩, fun b hb => ?_, q⟩
    have hle : s1.heap.objs.size ≤ b := by
      rcases (by simpa using hb : b = s1.heap.objs.size + 1 ∨ b = s1.heap.objs.size) with z | z
      · rw [z]; exact Nat.le_add_right _ _
      · rw [z]; exact Nat.le_refl _
    exact I1.fpOk hle (I1.hok.fresh hle)
section
variable {K : PySem.W.Frag} {a : Addr} {xs : List V}
theorem walk_enumT : Walk (IteT K a) xs.length (fun H => SqT K H a xs) (YPair (fun i => some (.int (i : Nat))) (fun i => xs[i]?)) := by
  refine ⟨fun i H hi h => ⟨xs, xs[i], h, by simp [hi]⟩, fun H h => ⟨xs, h, rfl⟩, ?_⟩
  rintro i H x H' hi h ⟨T, y, e1, e2, e3, e4⟩
  exact ⟨T, .int (i : Nat), y, e1, e2, e3, rfl, e4 xs h⟩
theorem walk_revT : Walk (RT.ItvT K a xs.length) xs.length (fun H => SqT K H a xs) (fun i H x H' => H' = H ∧ xs[xs.length - 1 - i]? = some x) := by
  refine ⟨fun i H hi h => ⟨hi, xs, xs[xs.length - 1 - i], h, List.getElem?_eq_getElem (by omega)⟩, fun H h => Nat.le_refl _, ?_⟩
  rintro i H x H' hi h ⟨e1, e2⟩
  exact ⟨e1, e2 xs h⟩
end
end Ty

namespace Ty
open PySem PySem.Spec PyProof.Rows L2
/-! ### numbers as rationals -/
def rt (d : Da) : Rat := Rat.divInt (above d) (below d)
def ofR (q : Rat) : Da := frac q.num (q.den : Int)
theorem ofR_low (q : Rat) : Low q.num (q.den : Int) (ofR q) := ⟨q.num, q.den, 1, by decide, (Int.mul_one _).symm, (Int.mul_one _).symm, by have := q.den_pos; omega, by rw [Int.natAbs_natCast]; exact q.reduced, rfl⟩
theorem ofR_one (q : Rat) : isOne (ofR q) = true := (ofR_low q).one
theorem ofR_num (q : Rat) : isNum (ofR q) = true := isOne_num (ofR_one q)
theorem ofR_above (q : Rat) : above (ofR q) = q.num := frac_above
theorem ofR_below (q : Rat) : below (ofR q) = (q.den : Int) := frac_below
theorem rt_ofR (q : Rat) : rt (ofR q) = q := by
  unfold rt
  rw [ofR_above, ofR_below]
  exact Rat.num_divInt_den q
theorem low_ofR {a b : Int} {d : Da} (hb : b ≠ 0) (h : Low a b d) : d = ofR (Rat.divInt a b) := by
  refine h.uniq (ofR_low (Rat.divInt a b)) ?_
  have e := Rat.num_divInt_den (Rat.divInt a b)
  have d0 : (((Rat.divInt a b).den : Nat) : Int) ≠ 0 := by have := (Rat.divInt a b).den_pos; omega
  have q := (Rat.divInt_eq_divInt_iff d0 hb).mp e
  exact q.symm
theorem rt_low {a b : Int} {d : Da} (hb : b ≠ 0) (h : Low a b d) : rt d = Rat.divInt a b := by rw [low_ofR hb h, rt_ofR]
theorem ofR_rt {d : Da} (h : isOne d = true) : ofR (rt d) = d := by
  have n := num_parts (isOne_num h)
  have l := Low.self (isOne_num h)
  rw [← isOne_frac h] at l
  exact (low_ofR (by omega) l).symm
theorem num_is {d : Da} (h : isNum d = true) : above d = (rt d).num ∧ below d = ((rt d).den : Int) := by
  have n := num_parts h
  have e := low_ofR (by omega) (Low.self h)
  have e1 : above (frac (above d) (below d)) = (rt d).num := by rw [e, ofR_above]; rfl
  have e2 : below (frac (above d) (below d)) = ((rt d).den : Int) := by rw [e, ofR_below]; rfl
  rw [frac_above] at e1
  rw [frac_below] at e2
  exact ⟨e1, e2⟩
section
variable {d e r : Da}
theorem fSum_rt (h1 : isNum d = true) (h2 : isNum e = true) (h : fSum d e r) : r = ofR (rt d + rt e) := by
  have a := (num_parts h1).1
  have b := (num_parts h2).1
  rw [low_ofR (Int.mul_ne_zero (by omega) (by omega)) h]
  unfold rt
  rw [Rat.divInt_add_divInt _ _ (by omega) (by omega)]
theorem fDiff_rt (h1 : isNum d = true) (h2 : isNum e = true) (h : fDiff d e r) : r = ofR (rt d - rt e) := by
  have a := (num_parts h1).1
  have b := (num_parts h2).1
  rw [low_ofR (Int.mul_ne_zero (by omega) (by omega)) h]
  unfold rt
  rw [Rat.divInt_sub_divInt _ _ (by omega) (by omega)]
theorem fProd_rt (h1 : isNum d = true) (h2 : isNum e = true) (h : fProd d e r) : r = ofR (rt d * rt e) := by
  have a := (num_parts h1).1
  have b := (num_parts h2).1
  rw [low_ofR (Int.mul_ne_zero (by omega) (by omega)) h]
  unfold rt
  rw [Rat.divInt_mul_divInt]
end
/-- the parts of a rational have less than n bits -/
def Sz (n : Nat) (q : Rat) : Prop := q.num.natAbs < 2 ^ n ∧ q.den < 2 ^ n
theorem Sz.more {n m : Nat} {q : Rat} (h : Sz n q) (l : n ≤ m) : Sz m q := ⟨Nat.lt_of_lt_of_le h.1 (Nat.pow_le_pow_right (by decide) l), Nat.lt_of_lt_of_le h.2 (Nat.pow_le_pow_right (by decide) l)⟩
theorem Sz.nb {n : Nat} {d : Da} (h : isNum d = true) (s : Sz n (rt d)) : NB n d := by
  obtain ⟨e1, e2⟩ := num_is h
  unfold NB
  rw [e1, e2]
  exact ⟨s.1, by rw [Int.natAbs_natCast]; exact s.2⟩
theorem sz_nb {n : Nat} {d : Da} (h : isNum d = true) (s : NB n d) : Sz n (rt d) := by
  obtain ⟨e1, e2⟩ := num_is h
  unfold NB at s
  rw [e1, e2] at s
  exact ⟨s.1, by have := s.2; rwa [Int.natAbs_natCast] at this⟩
theorem sz_low {n : Nat} {a b : Int} (hb : b ≠ 0) (h1 : a.natAbs < 2 ^ n) (h2 : b.natAbs < 2 ^ n) : Sz n (Rat.divInt a b) := by
  obtain ⟨d, hd⟩ := Low.at a b hb
  rw [← rt_low hb hd]
  exact sz_nb hd.num.1 (hd.nb h1 h2)
theorem Sz.add {a b : Nat} {p q : Rat} (h1 : Sz a p) (h2 : Sz b q) : Sz (a + b + 1) (p + q) := by
  have e : p + q = Rat.divInt (p.num * q.den + q.num * p.den) ((p.den : Int) * q.den) := by
    have d1 : ((p.den : Nat) : Int) ≠ 0 := by have := p.den_pos; omega
    have d2 : ((q.den : Nat) : Int) ≠ 0 := by have := q.den_pos; omega
    rw [← Rat.divInt_add_divInt _ _ d1 d2, Rat.num_divInt_den, Rat.num_divInt_den]
  rw [e]
  have x1 : (p.num * (q.den : Int)).natAbs < 2 ^ (a + b) := wide_lt h1.1 (by rw [Int.natAbs_natCast]; exact h2.2)
  have x2 : (q.num * (p.den : Int)).natAbs < 2 ^ (b + a) := wide_lt h2.1 (by rw [Int.natAbs_natCast]; exact h1.2)
  have x3 : ((p.den : Int) * (q.den : Int)).natAbs < 2 ^ (a + b) := wide_lt (by rw [Int.natAbs_natCast]; exact h1.2) (by rw [Int.natAbs_natCast]; exact h2.2)
  rw [Nat.add_comm b a] at x2
  have two : 2 ^ (a + b + 1) = 2 ^ (a + b) + 2 ^ (a + b) := by rw [Nat.pow_succ]; omega
  refine sz_low (Int.mul_ne_zero (by have := p.den_pos; omega) (by have := q.den_pos; omega)) (by omega) (by omega)
theorem Sz.mul {a b : Nat} {p q : Rat} (h1 : Sz a p) (h2 : Sz b q) : Sz (a + b) (p * q) := by
  have e : p * q = Rat.divInt (p.num * q.num) ((p.den : Int) * q.den) := by
    rw [← Rat.divInt_mul_divInt, Rat.num_divInt_den, Rat.num_divInt_den]
  rw [e]
  exact sz_low (Int.mul_ne_zero (by have := p.den_pos; omega) (by have := q.den_pos; omega)) (wide_lt h1.1 h2.1) (wide_lt (by rw [Int.natAbs_natCast]; exact h1.2) (by rw [Int.natAbs_natCast]; exact h2.2))
theorem sz_zero : Sz 1 0 := ⟨by decide, by decide⟩
theorem sz_one : Sz 1 1 := ⟨by decide, by decide⟩
end Ty
/-! ### rows: the mathematics -/
namespace Ty
/-- Horner -/
def hval (l : List Rat) (x : Rat) : Rat := l.foldr (fun c t => t * x + c) 0
theorem hval_nil (x : Rat) : hval [] x = 0 := rfl
theorem hval_cons (c : Rat) (l : List Rat) (x : Rat) : hval (c :: l) x = hval l x * x + c := rfl
/-- the slope's value -/
def dval : List Rat → Rat → Rat
  | [], _ => 0
  | _ :: l, x => hval l x + x * dval l x
/-- k c0, (k + 1) c1, .. -/
def wsl : Rat → List Rat → List Rat
  | _, [] => []
  | k, c :: l => k * c :: wsl (k + 1) l
def slope : List Rat → List Rat
  | [] => []
  | [_] => [0]
  | _ :: l => wsl 1 l
theorem wsl_len : ∀ (k : Rat) (l : List Rat), (wsl k l).length = l.length
  | _, [] => rfl
  | k, c :: l => by
    show (wsl (k + 1) l).length + 1 = l.length + 1
    rw [wsl_len]
theorem wsl_at : ∀ (k : Rat) (l : List Rat) (i : Nat) (c : Rat), l[i]? = some c → (wsl k l)[i]? = some ((k + (i : Nat)) * c)
  | k, a :: l, 0, c, h => by
    cases h
    show some (k * a) = some ((k + ((0 : Nat) : Rat)) * a)
    have e : k + ((0 : Nat) : Rat) = k := by simp [Rat.add_zero]
    rw [e]
  | k, a :: l, i + 1, c, h => by
    have h' : l[i]? = some c := h
    show (wsl (k + 1) l)[i]? = _
    rw [wsl_at (k + 1) l i c h']
    congr 2
    have : ((i + 1 : Nat) : Rat) = (i : Rat) + 1 := by push_cast; rfl
    grind
theorem hval_wsl : ∀ (k : Rat) (l : List Rat) (x : Rat), hval (wsl k l) x = k * hval l x + x * dval l x
  | k, [], x => by
    show (0 : Rat) = k * 0 + x * 0
    grind
  | k, a :: l, x => by
    show hval (wsl (k + 1) l) x * x + k * a = k * (hval l x * x + a) + x * (hval l x + x * dval l x)
    rw [hval_wsl]
    grind
theorem hval_slope : ∀ (l : List Rat) (x : Rat), hval (slope l) x = dval l x
  | [], _ => rfl
  | [a], x => by
    show (0 : Rat) * x + 0 = 0 + x * 0
    grind
  | a :: b :: l, x => by
    show hval (wsl 1 (b :: l)) x = hval (b :: l) x + x * dval (b :: l) x
    rw [hval_wsl]
    grind
/-- k x^(k-1) -/
def ee : Nat → Rat → Rat
  | 0, _ => 0
  | k + 1, x => x ^ k + x * ee k x
theorem pow_next (x : Rat) (k : Nat) : x ^ (k + 1) = x ^ k * x := Rat.pow_succ x k
theorem pow_sum (x : Rat) (i : Nat) : ∀ j, x ^ (i + j) = x ^ i * x ^ j
  | 0 => by
    rw [Nat.add_zero, Rat.pow_zero]
    grind
  | j + 1 => by
    rw [← Nat.add_assoc, pow_next, pow_next, pow_sum x i j]
    grind
theorem ee_add : ∀ (i j : Nat) (x : Rat), ee (i + j) x = ee i x * x ^ j + x ^ i * ee j x
  | 0, j, x => by
    rw [Nat.zero_add]
    show ee j x = 0 * x ^ j + x ^ 0 * ee j x
    rw [Rat.pow_zero]
    grind
  | i + 1, j, x => by
    have e : i + 1 + j = (i + j) + 1 := by omega
    rw [e]
    show x ^ (i + j) + x * ee (i + j) x = (x ^ i + x * ee i x) * x ^ j + x ^ (i + 1) * ee j x
    rw [ee_add i j x, pow_next, pow_sum]
    grind
def addAt (l : List Rat) (i : Nat) (c : Rat) : List Rat := l.set i (l.getD i 0 + c)
theorem addAt_len (l : List Rat) (i : Nat) (c : Rat) : (addAt l i c).length = l.length := List.length_set
theorem hval_addAt : ∀ (l : List Rat) (k : Nat) (c x : Rat), k < l.length → hval (addAt l k c) x = hval l x + c * x ^ k
  | a :: l, 0, c, x, _ => by
    show hval l x * x + (a + c) = hval l x * x + a + c * x ^ 0
    rw [Rat.pow_zero]
    grind
  | a :: l, k + 1, c, x, h => by
    have h' : k < l.length := by simpa using h
    show hval (addAt l k c) x * x + a = hval l x * x + a + c * x ^ (k + 1)
    rw [hval_addAt l k c x h', pow_next]
    grind
theorem dval_addAt : ∀ (l : List Rat) (k : Nat) (c x : Rat), k < l.length → dval (addAt l k c) x = dval l x + c * ee k x
  | a :: l, 0, c, x, _ => by
    show hval l x + x * dval l x = hval l x + x * dval l x + c * 0
    grind
  | a :: l, k + 1, c, x, h => by
    have h' : k < l.length := by simpa using h
    show hval (addAt l k c) x + x * dval (addAt l k c) x = hval l x + x * dval l x + c * (x ^ k + x * ee k x)
    rw [hval_addAt l k c x h', dval_addAt l k c x h']
    grind
theorem hval_snoc : ∀ (l : List Rat) (c x : Rat), hval (l ++ [c]) x = hval l x + c * x ^ l.length
  | [], c, x => by
    show (0 : Rat) * x + c = 0 + c * x ^ 0
    rw [Rat.pow_zero]
    grind
  | a :: l, c, x => by
    show hval (l ++ [c]) x * x + a = hval l x * x + a + c * x ^ (l.length + 1)
    rw [hval_snoc, pow_next]
    grind
theorem dval_snoc : ∀ (l : List Rat) (c x : Rat), dval (l ++ [c]) x = dval l x + c * ee l.length x
  | [], c, x => by
    show (0 : Rat) + x * 0 = 0 + c * 0
    grind
  | a :: l, c, x => by
    show hval (l ++ [c]) x + x * dval (l ++ [c]) x = hval l x + x * dval l x + c * (x ^ l.length + x * ee l.length x)
    rw [hval_snoc, dval_snoc]
    grind
/-- the row of a product, as both loops make it -/
def convIn (p : Rat) (i : Nat) (q l : List Rat) (m : Nat) : List Rat := (List.range m).foldl (fun l j => addAt l (i + j) (p * q.getD j 0)) l
def convOut (p q l : List Rat) (m : Nat) : List Rat := (List.range m).foldl (fun l i => convIn (p.getD i 0) i q l q.length) l
def conv (p q : List Rat) : List Rat := convOut p q (List.replicate (p.length + q.length - 1) 0) p.length
theorem convIn_next (p : Rat) (i : Nat) (q l : List Rat) (m : Nat) : convIn p i q l (m + 1) = addAt (convIn p i q l m) (i + m) (p * q.getD m 0) := by
  unfold convIn
  rw [List.range_succ, List.foldl_append]
  rfl
theorem convOut_next (p q l : List Rat) (m : Nat) : convOut p q l (m + 1) = convIn (p.getD m 0) m q (convOut p q l m) q.length := by
  unfold convOut
  rw [List.range_succ, List.foldl_append]
  rfl
theorem convIn_len (p : Rat) (i : Nat) (q l : List Rat) : ∀ m, (convIn p i q l m).length = l.length
  | 0 => rfl
  | m + 1 => by rw [convIn_next, addAt_len, convIn_len p i q l m]
theorem convOut_len (p q l : List Rat) : ∀ m, (convOut p q l m).length = l.length
  | 0 => rfl
  | m + 1 => by rw [convOut_next, convIn_len, convOut_len p q l m]
theorem conv_len (p q : List Rat) : (conv p q).length = p.length + q.length - 1 := by
  unfold conv
  rw [convOut_len, List.length_replicate]
theorem take_next (q : List Rat) (m : Nat) (h : m < q.length) : q.take (m + 1) = q.take m ++ [q.getD m 0] := by
  rw [List.take_add_one, List.getElem?_eq_getElem h]
  simp [List.getD_eq_getElem?_getD, List.getElem?_eq_getElem h]
theorem hval_convIn (p : Rat) (i : Nat) (q l : List Rat) (x : Rat) (hl : i + q.length ≤ l.length) : ∀ m, m ≤ q.length → hval (convIn p i q l m) x = hval l x + p * x ^ i * hval (q.take m) x
  | 0, _ => by
    show hval l x = hval l x + p * x ^ i * 0
    grind
  | m + 1, h => by
    rw [convIn_next, hval_addAt _ _ _ _ (by rw [convIn_len]; omega), hval_convIn p i q l x hl m (by omega), take_next q m (by omega), hval_snoc, List.length_take, Nat.min_eq_left (by omega), pow_sum]
    grind
theorem dval_convIn (p : Rat) (i : Nat) (q l : List Rat) (x : Rat) (hl : i + q.length ≤ l.length) : ∀ m, m ≤ q.length → dval (convIn p i q l m) x = dval l x + p * (ee i x * hval (q.take m) x + x ^ i * dval (q.take m) x)
  | 0, _ => by
    show dval l x = dval l x + p * (ee i x * 0 + x ^ i * 0)
    grind
  | m + 1, h => by
    rw [convIn_next, dval_addAt _ _ _ _ (by rw [convIn_len]; omega), dval_convIn p i q l x hl m (by omega), take_next q m (by omega), hval_snoc, dval_snoc, List.length_take, Nat.min_eq_left (by omega), ee_add]
    grind
theorem hval_convOut (p q l : List Rat) (x : Rat) (hl : p.length + q.length ≤ l.length + 1) : ∀ m, m ≤ p.length → hval (convOut p q l m) x = hval l x + hval (p.take m) x * hval q x
  | 0, _ => by
    show hval l x = hval l x + 0 * hval q x
    grind
  | m + 1, h => by
    rw [convOut_next, hval_convIn _ _ _ _ _ (by rw [convOut_len]; omega) _ (Nat.le_refl _), hval_convOut p q l x hl m (by omega), take_next p m (by omega), hval_snoc, List.length_take, Nat.min_eq_left (by omega), List.take_length]
    grind
theorem dval_convOut (p q l : List Rat) (x : Rat) (hl : p.length + q.length ≤ l.length + 1) : ∀ m, m ≤ p.length → dval (convOut p q l m) x = dval l x + (dval (p.take m) x * hval q x + hval (p.take m) x * dval q x)
  | 0, _ => by
    show dval l x = dval l x + (0 * hval q x + 0 * dval q x)
    grind
  | m + 1, h => by
    rw [convOut_next, dval_convIn _ _ _ _ _ (by rw [convOut_len]; omega) _ (Nat.le_refl _), dval_convOut p q l x hl m (by omega), take_next p m (by omega), hval_snoc, dval_snoc, List.length_take, Nat.min_eq_left (by omega), List.take_length]
    grind
theorem hval_zeros (x : Rat) : ∀ n, hval (List.replicate n 0) x = 0
  | 0 => rfl
  | n + 1 => by
    show hval (List.replicate n 0) x * x + 0 = 0
    rw [hval_zeros x n]
    grind
theorem dval_zeros (x : Rat) : ∀ n, dval (List.replicate n 0) x = 0
  | 0 => rfl
  | n + 1 => by
    show hval (List.replicate n 0) x + x * dval (List.replicate n 0) x = 0
    rw [hval_zeros x n, dval_zeros x n]
    grind
theorem hval_conv (p q : List Rat) (x : Rat) (hp : 0 < p.length) : hval (conv p q) x = hval p x * hval q x := by
  unfold conv
  rw [hval_convOut _ _ _ _ (by rw [List.length_replicate]; omega) _ (Nat.le_refl _), hval_zeros, List.take_length]
  grind
theorem dval_conv (p q : List Rat) (x : Rat) (hp : 0 < p.length) : dval (conv p q) x = dval p x * hval q x + hval p x * dval q x := by
  unfold conv
  rw [dval_convOut _ _ _ _ (by rw [List.length_replicate]; omega) _ (Nat.le_refl _), dval_zeros, List.take_length]
  grind
end Ty
namespace Ty
open PySem PySem.Spec PyProof.Rows L2
/-! ### rows as data -/
def isRow (d : Da) : Bool := isS d && (decide (1 ≤ (items d).length ∧ (items d).length ≤ 25) && (items d).all isNum)
def rts (d : Da) : List Rat := (items d).map rt
end Ty

namespace Ty
open PySem PySem.Spec PyProof.Rows L2
/-- S and the address D -/
def wth (S : Addr → Bool) (D : Addr) : Addr → Bool := fun b => S b || decide (b = D)
theorem wth_self {S : Addr → Bool} {D : Addr} : wth S D D = true := by
  unfold wth
  rw [decide_eq_true rfl, Bool.or_true]
theorem wth_sub {S : Addr → Bool} {D b : Addr} (h : S b = true) : wth S D b = true := by
  unfold wth
  rw [h, Bool.true_or]
theorem wth_cases {S : Addr → Bool} {D b : Addr} (h : wth S D b = true) : S b = true ∨ b = D := by
  unfold wth at h
  rw [Bool.or_eq_true] at h
  exact h.imp_right of_decide_eq_true
theorem wth_live {S : Addr → Bool} {D : Addr} {H : Hp} {o : HO} (l : Live S H) (h : H D = some o) : Live (wth S D) H := fun b hb => by
  rcases wth_cases hb with z | z
  · exact l b z
  · rw [z, h]
    exact nofun
theorem wth_put {S : Addr → Bool} {D : Addr} {H : Hp} {o : HO} : Same (mn (wth S D) H) (mn (wth S D) (upd H D o)) := fun b u e => by
  obtain ⟨e1, e2⟩ := mn_of e
  have bd : b ≠ D := fun z => by rw [z, wth_self] at e1; cases e1
  rw [mn_at e1, upd_ne bd]
  exact e2
theorem mn_mono {S S' : Addr → Bool} {H : Hp} (h : ∀ b, S b = true → S' b = true) : Same (mn S' H) (mn S H) := fun b u e => by
  obtain ⟨e1, e2⟩ := mn_of e
  rw [mn_at]
  · exact e2
  · cases q : S b with
    | false => rfl
    | true => rw [h b q] at e1; cases e1
theorem IsAll.snoc {H : Hp} {v : V} {d : Da} : ∀ {vs : List V} {ds : List Da}, IsAll H vs ds → Is H v d → IsAll H (vs ++ [v]) (ds ++ [d])
  | _, [], h, k => by cases h; exact .cons k .nil
  | _, e :: ds, h, k => by
    cases h with
    | cons h t => exact .cons h (IsAll.snoc t k)
section
variable {J : It} {n : Nat} {G : Hp → Prop} {Y : Nat → Hp → V → Hp → Prop}
/-- [f(x) for x in ..]: each item made new of what stood before -/
theorem lc_map (w : Walk J n G Y) {g : TG} {tt : TT} {te : TE} {vs : List Nat} {σ : L2.St} {H : Hp} {D : Addr} {Qd : Hp → Prop} (f : Nat → Da) (hn : n ≤ 1000) (hD : H D = none) (hG : ∀ H', Same H H' → G H')
    (hs : ∀ m x H1 H2 (Q' : VK) (N : Hp → Prop), m < n → Same H H1 → Y m H1 x H2 → (∀ y H4, Same H1 H4 → New H1 H4 y (f m) → Q' y H4) →
      g x (wipe σ vs) H2 fun σ2 H3 => wipe σ2 vs = wipe σ vs ∧ tt σ2 H3 fun b H4 => if b = true then te σ2 H4 Q' else N H4)
    (k : ∀ H' ys, Same H H' → H' D = some (.lst ys) → ys.length = n → New H H' (.ref D) (.lst ((List.range n).map f)) → Qd H') :
    ∃ W : Nat → Nat → Hp → Prop, (∃ m, W 0 m (upd H D (.lst []))) ∧ ∀ i m H, W i m H →
      (J.stop i H ∧ Qd H) ∨ (J.go i H ∧ ∃ Nx : Hp → Prop, (∀ H', Nx H' → ∃ m', m' < m ∧ W (i + 1) m' H') ∧ ∀ x H', J.yld i H x H' → g x (wipe σ vs) H' fun σ2 H2 => wipe σ2 vs = wipe σ vs ∧ tt σ2 H2 fun b H3 =>
        if b = true then te σ2 H3 fun y H4 => ∃ acc, H4 D = some (.lst acc) ∧ acc.length < sizeLine ∧ Nx (upd H4 D (.lst (acc ++ [y]))) else Nx H3) := by
  refine lc_it w (fun i H' => Same H H' ∧ ∃ acc, H' D = some (.lst acc) ∧ acc.length = i ∧ ∀ S, Live S H → IsAll (mn (wth S D) H') acc ((List.range i).map f)) ⟨Same.new hD, [], upd_same, rfl, fun _ _ => .nil⟩ (fun i H' _ p => hG H' p.1) ?_ ?_
  · rintro i x H1 H2 hi ⟨s1, acc, ha, hl, hall⟩ y
    refine hs i x H1 H2 _ _ hi s1 y fun v H4 s4 nv => ⟨acc, s4 _ _ ha, by rw [hl]; exact Nat.lt_of_lt_of_le (show i < 1001 by omega) (by decide), Same.mut (s1.trans s4) hD, _, upd_same, by rw [List.length_append, hl]; rfl, fun S l => ?_⟩
    rw [List.range_succ, List.map_append]
    exact ((((hall S l).up (Same.less s4)).snoc (nv (wth S D) (wth_live (l.more s1) ha)))).up wth_put
  · rintro H' ⟨s1, acc, ha, hl, hall⟩
    refine k H' acc s1 ha hl fun S l => ?_
    have e : S D = false := by
      cases q : S D with
      | false => rfl
      | true => exact absurd hD (l D q)
    exact .lst (by rw [mn_at e]; exact ha) ((hall S l).up (mn_mono fun b hb => wth_sub hb))
end
/-- the items of a list or a tuple, and how they are walked -/
theorem Is.row {K : PySem.W.Frag} {H : Hp} {v : V} {d : Da} (h : Is H v d) (s : isS d = true) : ∃ a xs, v = .ref a ∧ ((∀ H', Same H H' → SqL K H' a xs) ∨ (∀ H', Same H H' → SqT K H' a xs)) ∧ IsAll H xs (items d) := by
  cases h with
  | tup e h => exact ⟨_, _, rfl, .inr fun H' s' => .inl (.inl (s' _ _ e)), h⟩
  | lst e h => exact ⟨_, _, rfl, .inl fun H' s' => .inl (.inl (s' _ _ e)), h⟩
  | _ => cases s
end Ty
namespace Ty
open PySem PySem.Spec PyProof.Rows L2
theorem range_getD {α β : Type} (f : α → β) (z : α) (l : List α) : ((List.range l.length).map fun m => f (l.getD m z)) = l.map f := by
  apply List.ext_getElem?
  intro i
  by_cases h : i < l.length
  · simp [h, List.getD_eq_getElem?_getD]
  · rw [List.getElem?_eq_none (by simp; omega), List.getElem?_eq_none (by simp; omega)]
theorem isAll_bl {H : Hp} : ∀ {ys : List V} {bs : List Bool}, IsAll H ys (bs.map Da.bl) → ys = bs.map V.bl
  | _, [], h => by cases h; rfl
  | _, b :: bs, h => by
    cases h with
    | cons h t =>
      cases h
      rw [isAll_bl t]
      rfl
theorem IsAll.get {H : Hp} : ∀ {vs : List V} {ds : List Da} {i : Nat} {d : Da}, IsAll H vs ds → ds[i]? = some d → ∃ v, vs[i]? = some v ∧ Is H v d
  | _, [], _, _, _, e => by simp at e
  | _, d :: ds, 0, _, h, e => by
    cases h with
    | cons h _ =>
      cases (Option.some.inj e)
      exact ⟨_, rfl, h⟩
  | _, d :: ds, i + 1, _, h, e => by
    cases h with
    | cons _ t =>
      have e' : ds[i]? = some _ := e
      obtain ⟨w, h1, h2⟩ := IsAll.get t e'
      exact ⟨w, h1, h2⟩
theorem IsAll.set {H : Hp} {v : V} {d : Da} : ∀ {vs : List V} {ds : List Da} (i : Nat), IsAll H vs ds → Is H v d → IsAll H (vs.set i v) (ds.set i d)
  | _, [], i, h, _ => by cases h; cases i <;> exact .nil
  | _, e :: ds, 0, h, k => by
    cases h with
    | cons _ t => exact .cons k t
  | _, e :: ds, i + 1, h, k => by
    cases h with
    | cons h t => exact .cons h (IsAll.set i t k)
/-- a number's text is the int -/
theorem ofR_int (i : Int) : ofR (i : Rat) = .int i := by
  unfold ofR frac
  rw [if_pos (by rfl)]
  rfl
theorem ofR_zero : ofR 0 = .int 0 := ofR_int 0
theorem rt_int (i : Int) : rt (.int i) = (i : Rat) := by rw [← ofR_int, rt_ofR]
/-! ### promises of rows -/
/-- an error of two fields -/
def Out2 (C : Addr) (f : Str) (v : V) (g : Str) (u : V) (H : Hp) (E : XK) : Prop := ∀ d H', Same H H' → H d = none → H' d = some (.xd [(g, u), (f, v)]) → E (.ref C) (some d) H'
theorem Out2.up {C : Addr} {f g : Str} {v u : V} {H H1 : Hp} {E : XK} (h : Out2 C f v g u H E) (s : Same H H1) : Out2 C f v g u H1 E := fun d H' s' hd hx => h d H' (s.trans s') (by
  cases e : H d with
  | none => rfl
  | some o => rw [s _ _ e] at hd; cases hd) hx
/-- a row whose value can be reckoned at x -/
def FitV (l : List Rat) (x : Rat) : Prop := ∃ s t, 0 < s ∧ 0 < t ∧ (∀ q ∈ l, Sz s q) ∧ Sz t x ∧ l.length * (s + t + 1) + s + t + 2 ≤ 8900
/-- rows whose product can be -/
def FitP (p q : List Rat) : Prop := ∃ s t, 0 < s ∧ 0 < t ∧ (∀ x ∈ p, Sz s x) ∧ (∀ x ∈ q, Sz t x) ∧ (p.length + 1) * (s + t + 1) + s + t + 2 ≤ 8900
def FitS (l : List Rat) : Prop := ∃ s, 0 < s ∧ (∀ q ∈ l, Sz s q) ∧ s + 10 ≤ 8900
def spVal (C : Addr) : Sp := fun vs H Q E => ∃ u v d e, vs = [u, v] ∧ Is H u d ∧ Is H v e ∧ (isRow d = false → Out1 C "part" (.str "row") H E) ∧ (isRow d = true → isNum e = false → Out1 C "part" (.str "number") H E) ∧
  (isRow d = true → isNum e = true → FitV (rts d) (rt e) ∧ ∀ w H', Same H H' → New H H' w (ofR (hval (rts d) (rt e))) → Q w H')
def spSlo (C : Addr) : Sp := fun vs H Q E => ∃ u d, vs = [u] ∧ Is H u d ∧ (isRow d = false → Out1 C "part" (.str "row") H E) ∧
  (isRow d = true → FitS (rts d) ∧ ∀ w H', Same H H' → New H H' w (.tup ((slope (rts d)).map ofR)) → Q w H')
def spPro (C C2 : Addr) : Sp := fun vs H Q E => ∃ u v d e, vs = [u, v] ∧ Is H u d ∧ Is H v e ∧ (isRow d = false → Out1 C "part" (.str "one") H E) ∧ (isRow d = true → isRow e = false → Out1 C "part" (.str "other") H E) ∧
  (isRow d = true → isRow e = true → 26 < (items d).length + (items e).length → Out2 C2 "what" (.str "numbers") "most" (.int 25) H E) ∧
  (isRow d = true → isRow e = true → (items d).length + (items e).length ≤ 26 → FitP (rts d) (rts e) ∧ ∀ w H', Same H H' → New H H' w (.tup ((conv (rts d) (rts e)).map ofR)) → Q w H')
theorem row_of {d : Da} (h : isRow d = true) : isS d = true ∧ 1 ≤ (items d).length ∧ (items d).length ≤ 25 ∧ ∀ e ∈ items d, isNum e = true := by
  unfold isRow at h
  rw [Bool.and_eq_true, Bool.and_eq_true, List.all_eq_true] at h
  have q := of_decide_eq_true h.2.1
  exact ⟨h.1, q.1, q.2, h.2.2⟩
theorem rts_len {d : Da} : (rts d).length = (items d).length := List.length_map _
end Ty
namespace Ty
open PySem PySem.Spec PyProof.Rows L2
section
variable {K : PySem.W.Frag} {σ : L2.St} {H : Hp} {l : Nat} {a : Addr} {xs : List V} {R : It → Hp → Prop}
/-- both kinds of a row -/
abbrev Both (K : PySem.W.Frag) (H : Hp) (a : Addr) (xs : List V) : Prop := (∀ H', Same H H' → SqL K H' a xs) ∨ (∀ H', Same H H' → SqT K H' a xs)
theorem both_up {H1 : Hp} (h : Both K H a xs) (s : Same H H1) : Both K H1 a xs := h.imp (fun h H' s' => h H' (s.trans s')) fun h H' s' => h H' (s.trans s')
theorem both_now (h : Both K H a xs) : SqL K H a xs ∨ SqT K H a xs := h.imp (fun h => h _ (Same.refl _)) fun h => h _ (Same.refl _)
theorem seq_iter (hv : σ[l]? = some (some (.ref a))) (hs : Both K H a xs) (k : ∀ J G, Walk J xs.length G (YAt xs) → (∀ H', Same H H' → G H') → R J H) : iList K (tVar l) σ H R ∨ iTup K (tVar l) σ H R := by
  rcases hs with hs | hs
  · exact .inl ⟨_, hv, a, rfl, ⟨_, hs _ (Same.refl _)⟩, k _ _ walk_list hs⟩
  · exact .inr ⟨_, hv, a, rfl, ⟨_, hs _ (Same.refl _)⟩, k _ _ walk_tup hs⟩
theorem rev_iter (hv : σ[l]? = some (some (.ref a))) (hs : Both K H a xs) (k : ∀ J G, Walk J xs.length G (fun i H x H' => H' = H ∧ xs[xs.length - 1 - i]? = some x) → (∀ H', Same H H' → G H') → R J H) : RT.iRevA K (tVar l) σ H R := by
  rcases hs with hs | hs
  · exact ⟨_, hv, a, xs, rfl, .inl ⟨hs _ (Same.refl _), k _ _ walk_rev hs⟩⟩
  · exact ⟨_, hv, a, xs, rfl, .inr ⟨hs _ (Same.refl _), k _ _ walk_revT hs⟩⟩
theorem enum_iter (hv : σ[l]? = some (some (.ref a))) (hs : Both K H a xs) (k : ∀ J G, Walk J xs.length G (YPair (fun i => some (.int (i : Nat))) (fun i => xs[i]?)) → (∀ H', Same H H' → G H') → R J H) :
    iEnum K (tCons (tVar l) tNil) σ H R ∨ iEnumT K (tCons (tVar l) tNil) σ H R := by
  rcases hs with hs | hs
  · exact .inl ⟨_, hv, a, xs, rfl, hs _ (Same.refl _), k _ _ walk_enum hs⟩
  · exact .inr ⟨_, hv, a, xs, rfl, hs _ (Same.refl _), k _ _ walk_enumT hs⟩
/-- an item of it -/
theorem both_ix {H' : Hp} {i : Int} {u : V} {Q : VK} (hs : Both K H a xs) (s : Same H H') (e : atI xs i = some u) (q : Q u H') : rIxL K (.ref a) (.int i) H' Q ∨ rIxT K (.ref a) (.int i) H' Q := by
  rcases hs with hs | hs
  · exact .inl ⟨a, _, i, u, rfl, rfl, hs _ s, e, q⟩
  · exact .inr ⟨a, _, i, u, rfl, rfl, hs _ s, e, q⟩
end
theorem getD_at {α : Type} {l : List α} {i : Nat} {x z : α} (h : l[i]? = some x) : l.getD i z = x := by
  rw [List.getD_eq_getElem?_getD, h]
  rfl
end Ty
namespace Ty
open PySem PySem.Spec PyProof.Rows L2
section
variable {σ : L2.St} {H : Hp} {D : Ends} {wi : TI} {g : TG} {tb : TS} {x : V} {i : Nat} {Q : VK} {R : L2.St → Hp → Prop}
theorem go_for (h : wi σ H fun J H1 => ∃ W : Nat → Nat → L2.St → Hp → Prop, (∃ m, W 0 m σ H1) ∧ ∀ i m σ H, W i m σ H →
  (J.stop i H ∧ D.nx σ H) ∨ (J.go i H ∧ ∃ N : L2.St → Hp → Prop, (∀ σ' H', N σ' H' → ∃ m', m' < m ∧ W (i + 1) m' σ' H') ∧ ∀ x H', J.yld i H x H' → g x σ H' fun σ2 H2 => tb { D with nx := N, ct := N, bk := D.nx } σ2 H2)) : tFor wi g tb D σ H := h
theorem go_c (h : Q x H) : tC x σ H Q := h
theorem go_nm (h : R (σ.set i (some x)) H) : gName i x σ H R := h
end
end Ty
namespace Ty
open PySem PySem.Spec PyProof.Rows L2
/-- the list at D, made since H2: these rationals -/
def FoundI (H2 : Hp) (D : Addr) (l : List Rat) (H' : Hp) : Prop := Same H2 H' ∧ H2 D = none ∧ ∃ vals, H' D = some (.lst vals) ∧ ∀ S, Live S H2 → IsAll (mn (wth S D) H') vals (l.map ofR)
section
variable {H2 H' H3 : Hp} {D : Addr} {l : List Rat}
theorem FoundI.up (h : FoundI H2 D l H') (s : Same H' H3) : FoundI H2 D l H3 := by
  obtain ⟨h1, h2, vals, h3, h4⟩ := h
  exact ⟨h1.trans s, h2, vals, s _ _ h3, fun S lv => (h4 S lv).up (Same.less s)⟩
theorem FoundI.vals (h : FoundI H2 D l H') : ∃ vals, H' D = some (.lst vals) ∧ vals.length = l.length ∧ IsAll H' vals (l.map ofR) := by
  obtain ⟨h1, h2, vals, h3, h4⟩ := h
  have q := (h4 (fun _ => false) (fun _ z => by cases z)).up mn_same
  exact ⟨vals, h3, by rw [q.length, List.length_map], q⟩
theorem FoundI.put {vals : List V} {w : V} {k : Nat} {x : Rat} (h : FoundI H2 D l H') (hv : H' D = some (.lst vals)) (s : Same H' H3) (n : New H' H3 w (ofR x)) : FoundI H2 D (l.set k x) (upd H3 D (.lst (vals.set k w))) := by
  obtain ⟨h1, h2, vals', h3, h4⟩ := h
  rw [hv] at h3
  cases h3
  refine ⟨Same.mut (h1.trans s) h2, h2, _, upd_same, fun S lv => ?_⟩
  rw [List.map_set]
  exact (((h4 S lv).up (Same.less s)).set k (n (wth S D) (wth_live (lv.more h1) hv))).up wth_put
theorem FoundI.tup {p : Addr} {vals : List V} (h : FoundI H2 D l H') (hv : H' D = some (.lst vals)) (hp : H' p = none) : New H2 (upd H' p (.tup vals)) (.ref p) (.tup (l.map ofR)) := fun S lv => by
  obtain ⟨h1, h2, vals', h3, h4⟩ := h
  rw [hv] at h3
  cases h3
  exact .tup (mn_put (lv.more h1) hp) (((h4 S lv).up (mn_mono fun b hb => wth_sub hb)).up (Same.less (Same.new hp)))
end
theorem addAt_at (l : List Rat) (m k : Nat) (c : Rat) (h : m < l.length) : (addAt l m c)[k]? = if k = m then some (l.getD m 0 + c) else l[k]? := by
  unfold addAt
  rw [List.getElem?_set]
  by_cases e : m = k
  · subst e
    rw [if_pos rfl, if_pos h, if_pos rfl]
  · rw [if_neg e, if_neg (fun z => e z.symm)]
end Ty
namespace Ty
open PySem PySem.Spec PyProof.Rows L2
/-- walked at a later heap, told of the first -/
theorem enum_at {K : PySem.W.Frag} {σ : L2.St} {H H0 : Hp} {l : Nat} {a : Addr} {xs : List V} {R : It → Hp → Prop} (hv : σ[l]? = some (some (.ref a))) (hs : Both K H0 a xs) (s : Same H0 H)
    (k : ∀ J G, Walk J xs.length G (YPair (fun i => some (.int (i : Nat))) (fun i => xs[i]?)) → (∀ H', Same H0 H' → G H') → R J H) : iEnum K (tCons (tVar l) tNil) σ H R ∨ iEnumT K (tCons (tVar l) tNil) σ H R := by
  rcases hs with hs | hs
  · exact .inl ⟨_, hv, a, xs, rfl, hs _ s, k _ _ walk_enum hs⟩
  · exact .inr ⟨_, hv, a, xs, rfl, hs _ s, k _ _ walk_enumT hs⟩
end Ty

namespace Ty
open PySem PySem.Spec PyProof.Rows L2
/-! ### what laws reckon themselves, and rows that are drawn -/
/-- a / b in its one form, b above 0 -/
def spLow : Sp := fun vs H Q _ => ∃ a b : Int, vs = [.int a, .int b] ∧ 0 < b ∧ b.natAbs < 2 ^ 8900 ∧ ∀ v H', Same H H' → New H H' v (ofR (Rat.divInt a b)) → Q v H'
/-- two numbers -/
def spRat2 (f : Rat → Rat → Rat) : Sp := fun vs H Q _ => ∃ u v d e, vs = [u, v] ∧ Is H u d ∧ Is H v e ∧ isNum d = true ∧ isNum e = true ∧ Fit d e ∧ ∀ w H', Same H H' → New H H' w (ofR (f (rt d) (rt e))) → Q w H'
def fitR (p q : Rat) : Prop := ∃ m n, 0 < m ∧ 0 < n ∧ m + n ≤ 8900 ∧ Sz m p ∧ Sz n q
theorem fitR.fit {p q : Rat} (h : fitR p q) : Fit (ofR p) (ofR q) := by
  obtain ⟨m, n, h1, h2, h3, h4, h5⟩ := h
  exact ⟨m, n, h1, h2, h3, Sz.nb (ofR_num _) (by rw [rt_ofR]; exact h4), Sz.nb (ofR_num _) (by rw [rt_ofR]; exact h5)⟩
/-- a number that is drawn -/
def spNumR : Sp := fun vs H Q _ => ∃ (S : Addr → Bool) (j bk : Addr) (n : Nat), vs = [.ref j] ∧ S j = true ∧ Live S H ∧ Jar j bk H n ∧ n + 4 ≤ 100000 ∧
  ∀ v q H', Keep j H H' → Live S H' → Jar j bk H' (n + 4) → Is (mn S H') v (ofR q) → Sz 41 q → Q v H'
/-- a row that is drawn -/
def spRowR : Sp := fun vs H Q _ => ∃ (S : Addr → Bool) (j bk : Addr) (n : Nat) (most : Int), vs = [.ref j, .int most] ∧ S j = true ∧ Live S H ∧ Jar j bk H n ∧ 0 < most ∧ most ≤ 20 ∧ n + 101 ≤ 100000 ∧
  ∀ (v : V) (qs : List Rat) (H' : Hp), Keep j H H' → Live S H' → Jar j bk H' (n + 101) → Is (mn S H') v (.lst (qs.map ofR)) → 1 ≤ qs.length → (qs.length : Int) ≤ most → (∀ q ∈ qs, Sz 41 q) → Q v H'
section
variable {S : Addr → Bool} {j bk : Addr} {H0 H : Hp} {c c1 c2 n : Nat} {σ : L2.St} {te ta tb : TE}
theorem dr_lowR {Pa Pb : Int → Prop} (ha : Dr S j bk H0 c1 σ ta (fun d => ∃ i, d = .int i ∧ Pa i)) (hb : Dr S j bk H0 c2 σ tb (fun d => ∃ i, d = .int i ∧ Pb i)) (hp : ∀ b, Pb b → 0 < b ∧ b.natAbs < 2 ^ 8900) :
    Dr S j bk H0 (c1 + c2) σ (tCall spLow [] E0 (tCons ta (tCons tb tNil))) (fun d => ∃ a b, Pa a ∧ Pb b ∧ d = ofR (Rat.divInt a b)) := fun H n Q kp lv J hn k =>
  ha H n _ kp lv J (by omega) fun v d H1 k1 l1 J1 h1 p1 => hb H1 (n + c1) _ (kp.trans k1) l1 J1 (by omega) fun u e H2 k2 l2 J2 h2 p2 => by
    obtain ⟨a, rfl, pa⟩ := p1
    obtain ⟨b, rfl, pb⟩ := p2
    cases h1
    cases h2
    exact ⟨a, b, rfl, (hp b pb).1, (hp b pb).2, fun w H3 s3 n3 => k w _ H3 ((k1.trans k2).trans (Same.keep s3)) (l2.more s3) ((by rwa [Nat.add_assoc] at J2 : Jar j bk H2 (n + (c1 + c2))).up s3) (n3 S l2) ⟨a, b, pa, pb, rfl⟩⟩
theorem dr_numR {i : Nat} (hS : S j = true) (h : σ[i]? = some (some (.ref j))) : Dr S j bk H0 4 σ (tCall spNumR [] E0 (tCons (tVar i) tNil)) (fun d => ∃ q, d = ofR q ∧ Sz 41 q) := fun H n Q kp lv J hn k =>
  ⟨_, h, S, j, bk, n, rfl, hS, lv, J, hn, fun v q H' k' l' J' h' g => k v _ H' k' l' J' h' ⟨q, rfl, g⟩⟩
theorem dr_rowR {i : Nat} {most : Int} (hS : S j = true) (h : σ[i]? = some (some (.ref j))) (h0 : 0 < most) (h1 : most ≤ 20) : Dr S j bk H0 101 σ (tCall spRowR [] E0 (tCons (tVar i) (tCons (tC (.int most)) tNil)))
    (fun d => ∃ qs : List Rat, d = .lst (qs.map ofR) ∧ 1 ≤ qs.length ∧ (qs.length : Int) ≤ most ∧ ∀ q ∈ qs, Sz 41 q) := fun H n Q kp lv J hn k =>
  ⟨_, h, S, j, bk, n, most, rfl, hS, lv, J, h0, h1, hn, fun v qs H' k' l' J' h' g1 g2 g3 => k v _ H' k' l' J' h' ⟨qs, rfl, g1, g2, g3⟩⟩
end
/-- gcd of a positive divisor -/
theorem low_pos {a b : Int} (hb : 0 < b) : ((Nat.gcd a.natAbs b.natAbs : Nat) : Int) ≠ 0 ∧ ((Nat.gcd a.natAbs b.natAbs : Nat) : Int).natAbs ≤ b.natAbs ∧ frac (a.fdiv ((Nat.gcd a.natAbs b.natAbs : Nat) : Int)) (b.fdiv ((Nat.gcd a.natAbs b.natAbs : Nat) : Int)) = ofR (Rat.divInt a b) := by
  obtain ⟨g0, qp, low, one, gl⟩ := low_of (a := a) (b := b) (g := ((Nat.gcd a.natAbs b.natAbs : Nat) : Int)) (by omega) (by rw [if_neg (by omega)])
  exact ⟨g0, gl, low_ofR (by omega) low⟩
end Ty
namespace Ty
open PySem PySem.Spec PyProof.Rows L2
/-- a row told by lists and tuples -/
def spToldR : Sp := fun vs H Q _ => ∃ (S : Addr → Bool) (j bk : Addr) (n : Nat) (v : V) (qs : List Rat), vs = [.ref j, v] ∧ S j = true ∧ Live S H ∧ Jar j bk H n ∧ n + 30 ≤ 100000 ∧ Is (mn S H) v (.lst (qs.map ofR)) ∧ qs.length ≤ 25 ∧
  ∀ (w : V) (f : Da) (H' : Hp), Keep j H H' → Live S H' → Jar j bk H' (n + 30) → Is (mn S H') w f → isS f = true → (∀ e ∈ items f, isNum e = true) → rts f = qs → Q w H'
def spValR : Sp := fun vs H Q _ => ∃ (u v : V) (qs : List Rat) (x : Rat), vs = [u, v] ∧ Is H u (.lst (qs.map ofR)) ∧ Is H v (ofR x) ∧
  (∃ s t, 0 < s ∧ 0 < t ∧ (∀ q ∈ qs, Sz s q) ∧ Sz t x ∧ qs.length * (s + qs.length * t + 2) + s + qs.length * t + t + 3 ≤ 8900) ∧ qs.length ≤ 100 ∧ ∀ w H', Same H H' → New H H' w (ofR (hval qs x)) → Q w H'
def spSlopeR : Sp := fun vs H Q _ => ∃ (u : V) (qs : List Rat), vs = [u] ∧ Is H u (.lst (qs.map ofR)) ∧ 1 ≤ qs.length ∧ qs.length ≤ 25 ∧ FitS qs ∧ ∀ w H', Same H H' → New H H' w (.lst ((slope qs).map ofR)) → Q w H'
def spProdR : Sp := fun vs H Q _ => ∃ (u v : V) (p q : List Rat), vs = [u, v] ∧ Is H u (.lst (p.map ofR)) ∧ Is H v (.lst (q.map ofR)) ∧ 1 ≤ p.length ∧ p.length ≤ 26 ∧ 1 ≤ q.length ∧ q.length ≤ 26 ∧ FitP p q ∧ ∀ w H', Same H H' → New H H' w (.lst ((conv p q).map ofR)) → Q w H'
theorem FoundI.lst {H2 H' : Hp} {D : Addr} {l : List Rat} (h : FoundI H2 D l H') : New H2 H' (.ref D) (.lst (l.map ofR)) := fun S lv => by
  obtain ⟨h1, h2, vals, h3, h4⟩ := h
  have e : S D = false := by
    cases q : S D with
    | false => rfl
    | true => exact absurd h2 (lv D q)
  exact .lst (by rw [mn_at e]; exact h3) ((h4 S lv).up (mn_mono fun b hb => wth_sub hb))
/-- the items of a list of rationals -/
theorem Is.rats {H : Hp} {v : V} {qs : List Rat} (h : Is H v (.lst (qs.map ofR))) : ∃ a xs, v = .ref a ∧ H a = some (.lst xs) ∧ xs.length = qs.length ∧ IsAll H xs (qs.map ofR) := by
  cases h with
  | lst e hx => exact ⟨_, _, rfl, e, by rw [hx.length, List.length_map], hx⟩
theorem rats_at {H : Hp} {xs : List V} {qs : List Rat} {i : Nat} {x : V} (h : IsAll H xs (qs.map ofR)) (e : xs[i]? = some x) : ∃ q, qs[i]? = some q ∧ Is H x (ofR q) := by
  obtain ⟨d, e1, e2⟩ := h.at e
  rw [List.getElem?_map] at e1
  cases eq : qs[i]? with
  | none => rw [eq] at e1; cases e1
  | some q =>
    rw [eq] at e1
    cases e1
    exact ⟨q, rfl, e2⟩
end Ty

namespace Ty
open PySem PySem.Spec PyProof.Rows L2
/-! ### sizes of what rows give -/
theorem hval_sz {s t : Nat} {x : Rat} (hx : Sz t x) : ∀ (l : List Rat), (∀ q ∈ l, Sz s q) → Sz (l.length * (s + t + 1) + 1) (hval l x)
  | [], _ => sz_zero.more (by omega)
  | c :: l, h => by
    have ih := hval_sz hx l fun q hq => h q (List.mem_cons_of_mem _ hq)
    have e : (c :: l).length * (s + t + 1) + 1 = l.length * (s + t + 1) + 1 + t + s + 1 := by
      rw [List.length_cons, Nat.succ_mul]
      omega
    rw [hval_cons, e]
    exact (ih.mul hx).add (h c List.mem_cons_self)
theorem wsl_sz {s : Nat} : ∀ (l : List Rat) (k : Nat), k + l.length ≤ 30 → (∀ q ∈ l, Sz s q) → ∀ c ∈ wsl (k : Rat) l, Sz (5 + s) c
  | [], k, _, _, c, hc => by cases hc
  | a :: l, k, hk, h, c, hc => by
    have hl : (a :: l).length = l.length + 1 := rfl
    rcases List.mem_cons.mp hc with z | z
    · rw [z]
      have sk : Sz 5 ((k : Nat) : Rat) := ⟨by
        have : ((k : Nat) : Rat).num = (k : Int) := rfl
        rw [this, Int.natAbs_natCast]
        omega, by
        have : ((k : Nat) : Rat).den = 1 := rfl
        rw [this]
        decide⟩
      exact sk.mul (h a List.mem_cons_self)
    · have e : ((k : Nat) : Rat) + 1 = ((k + 1 : Nat) : Rat) := by push_cast; rfl
      rw [e] at z
      exact wsl_sz l (k + 1) (by omega) (fun q hq => h q (List.mem_cons_of_mem _ hq)) c z
theorem slope_sz {s : Nat} {l : List Rat} (hl : l.length ≤ 28) (h : ∀ q ∈ l, Sz s q) : ∀ c ∈ slope l, Sz (5 + s) c := by
  match l, hl, h with
  | [], _, _ => intro c hc; cases hc
  | [a], _, _ =>
    intro c hc
    rw [List.mem_singleton.mp hc]
    exact sz_zero.more (by omega)
  | a :: b :: m, hl, h =>
    intro c hc
    have hl' : m.length + 1 + 1 ≤ 28 := hl
    have e : (1 : Rat) = ((1 : Nat) : Rat) := rfl
    have hc' : c ∈ wsl 1 (b :: m) := hc
    rw [e] at hc'
    exact wsl_sz (b :: m) 1 (by show 1 + (m.length + 1) ≤ 30; omega) (fun q hq => h q (List.mem_cons_of_mem _ hq)) c hc'
theorem slope_len {l : List Rat} (h : 1 ≤ l.length) : 1 ≤ (slope l).length ∧ (slope l).length ≤ l.length := by
  match l, h with
  | [a], _ => exact ⟨Nat.le_refl _, Nat.le_refl _⟩
  | a :: b :: m, _ =>
    have e : (slope (a :: b :: m)).length = (b :: m).length := wsl_len 1 (b :: m)
    rw [e]
    exact ⟨by show 1 ≤ m.length + 1; omega, by show m.length + 1 ≤ m.length + 1 + 1; omega⟩
theorem convIn_sz {s t b : Nat} {p : Rat} {q : List Rat} (hp : Sz s p) (hq : ∀ x ∈ q, Sz t x) {i : Nat} {l : List Rat} (hl : i + q.length ≤ l.length) (h : ∀ x ∈ l, Sz b x) :
    ∀ m, m ≤ q.length → ∀ k c, (convIn p i q l m)[k]? = some c → Sz (b + (s + t) + 1) c ∧ (i + m ≤ k → Sz b c)
  | 0, _, k, c, hk => ⟨(h c (List.mem_of_getElem? hk)).more (by omega), fun _ => h c (List.mem_of_getElem? hk)⟩
  | m + 1, hm, k, c, hk => by
    have ih := convIn_sz hp hq hl h m (by omega)
    have len := convIn_len p i q l m
    have lt : i + m < (convIn p i q l m).length := by omega
    rw [convIn_next, addAt_at _ _ _ _ lt] at hk
    by_cases e : k = i + m
    · rw [if_pos e] at hk
      cases hk
      have g := List.getElem?_eq_getElem lt
      rw [getD_at g]
      have gq : q[m]? = some q[m] := List.getElem?_eq_getElem (by omega)
      rw [getD_at gq]
      exact ⟨((ih _ _ g).2 (Nat.le_refl _)).add (hp.mul (hq _ (List.mem_of_getElem? gq))), fun z => by omega⟩
    · rw [if_neg e] at hk
      have r := ih k c hk
      exact ⟨r.1, fun z => r.2 (by omega)⟩
theorem convOut_sz {s t : Nat} {p q l : List Rat} (hp : ∀ x ∈ p, Sz s x) (hq : ∀ x ∈ q, Sz t x) (hl : p.length + q.length ≤ l.length + 1) (h : ∀ x ∈ l, Sz 1 x) : ∀ m, m ≤ p.length → ∀ c ∈ convOut p q l m, Sz (m * (s + t + 1) + 1) c
  | 0, _, c, hc => (h c hc).more (by omega)
  | m + 1, hm, c, hc => by
    have ih := convOut_sz hp hq hl h m (by omega)
    have gp : p[m]? = some p[m] := List.getElem?_eq_getElem (by omega)
    rw [convOut_next, getD_at gp] at hc
    obtain ⟨k, hk⟩ := List.getElem?_of_mem hc
    have r := (convIn_sz (hp _ (List.mem_of_getElem? gp)) hq (by rw [convOut_len]; omega) ih q.length (Nat.le_refl _) k c hk).1
    have e : (m + 1) * (s + t + 1) + 1 = m * (s + t + 1) + 1 + (s + t) + 1 := by
      rw [Nat.succ_mul]
      omega
    rw [e]
    exact r
theorem conv_sz {s t : Nat} {p q : List Rat} (hp : ∀ x ∈ p, Sz s x) (hq : ∀ x ∈ q, Sz t x) (h0 : 0 < p.length) : ∀ c ∈ conv p q, Sz (p.length * (s + t + 1) + 1) c :=
  convOut_sz hp hq (by rw [List.length_replicate]; omega) (fun x hx => by rw [List.eq_of_mem_replicate hx]; exact sz_zero) p.length (Nat.le_refl _)
/-! ### rows can be shown -/
theorem items_show : ∀ (l : List Da), (∀ e ∈ l, isNum e = true) → (∀ e ∈ l, NB 1900 e) → numsA l = true ∧ dpA l ≤ 1 ∧ wtA l ≤ l.length * 4002
  | [], _, _ => ⟨rfl, Nat.zero_le _, Nat.zero_le _⟩
  | d :: l, hn, hb => by
    obtain ⟨a1, a2, a3⟩ := num_show (hn d List.mem_cons_self) (hb d List.mem_cons_self)
    obtain ⟨b1, b2, b3⟩ := items_show l (fun e he => hn e (List.mem_cons_of_mem _ he)) (fun e he => hb e (List.mem_cons_of_mem _ he))
    refine ⟨?_, ?_, ?_⟩
    · show (nums d && numsA l) = true
      rw [a1, b1]
      rfl
    · show max (dp d) (dpA l) ≤ 1
      omega
    · show wt d + 2 + wtA l ≤ (l.length + 1) * 4002
      omega
theorem row_show {d : Da} (s : isS d = true) (hn : ∀ e ∈ items d, isNum e = true) (hb : ∀ e ∈ items d, NB 1900 e) : nums d = true ∧ dp d ≤ 2 ∧ wt d ≤ (items d).length * 4002 + 10 := by
  obtain ⟨a1, a2, a3⟩ := items_show (items d) hn hb
  cases d with
  | tup l =>
    have a2' : dpA l ≤ 1 := a2
    have a3' : wtA l ≤ l.length * 4002 := a3
    exact ⟨a1, by show dpA l + 1 ≤ 2; omega, by show wtA l + 10 ≤ l.length * 4002 + 10; omega⟩
  | lst l =>
    have a2' : dpA l ≤ 1 := a2
    have a3' : wtA l ≤ l.length * 4002 := a3
    exact ⟨a1, by show dpA l + 1 ≤ 2; omega, by show wtA l + 10 ≤ l.length * 4002 + 10; omega⟩
  | _ => cases s
theorem row_okr {d : Da} (s : isS d = true) (hl : (items d).length ≤ 100) (hn : ∀ e ∈ items d, isNum e = true) (hb : ∀ e ∈ items d, NB 1900 e) : okr d = true := by
  obtain ⟨a1, a2, a3⟩ := row_show s hn hb
  unfold okr
  rw [a1, decide_eq_true (by omega : dp d ≤ 60), decide_eq_true (by omega : wt d ≤ 16000000)]
  rfl
theorem rats_okr {l : List Rat} (hl : l.length ≤ 100) (h : ∀ q ∈ l, Sz 1900 q) : okr (.tup (l.map ofR)) = true ∧ okr (.lst (l.map ofR)) = true := by
  have hn : ∀ e ∈ l.map ofR, isNum e = true := fun e he => by
    obtain ⟨q, _, rfl⟩ := List.mem_map.mp he
    exact ofR_num q
  have hb : ∀ e ∈ l.map ofR, NB 1900 e := fun e he => by
    obtain ⟨q, hq, rfl⟩ := List.mem_map.mp he
    exact Sz.nb (ofR_num q) (by rw [rt_ofR]; exact h q hq)
  exact ⟨row_okr (d := .tup (l.map ofR)) rfl (by show (l.map ofR).length ≤ 100; rw [List.length_map]; exact hl) hn hb, row_okr (d := .lst (l.map ofR)) rfl (by show (l.map ofR).length ≤ 100; rw [List.length_map]; exact hl) hn hb⟩
theorem rat_okr {q : Rat} (h : Sz 1900 q) : okr (ofR q) = true := num_okr (ofR_num q) (Sz.nb (ofR_num q) (by rw [rt_ofR]; exact h))
/-- what holds rationals is a row -/
theorem isRow_rats {l : List Rat} (h1 : 1 ≤ l.length) (h2 : l.length ≤ 25) : isRow (.tup (l.map ofR)) = true ∧ isRow (.lst (l.map ofR)) = true ∧ rts (.tup (l.map ofR)) = l ∧ rts (.lst (l.map ofR)) = l := by
  have e1 : (l.map ofR).all isNum = true := by
    rw [List.all_eq_true]
    intro e he
    obtain ⟨q, _, rfl⟩ := List.mem_map.mp he
    exact ofR_num q
  have e2 : (l.map ofR).map rt = l := by
    rw [List.map_map]
    conv => rhs; rw [← List.map_id l]
    exact List.map_congr_left fun q _ => rt_ofR q
  have e3 : decide (1 ≤ (l.map ofR).length ∧ (l.map ofR).length ≤ 25) = true := decide_eq_true (by rw [List.length_map]; exact ⟨h1, h2⟩)
  refine ⟨?_, ?_, e2, e2⟩
  · show (true && (decide (1 ≤ (l.map ofR).length ∧ (l.map ofR).length ≤ 25) && (l.map ofR).all isNum)) = true
    rw [e1, e3]
    rfl
  · show (true && (decide (1 ≤ (l.map ofR).length ∧ (l.map ofR).length ≤ 25) && (l.map ofR).all isNum)) = true
    rw [e1, e3]
    rfl
/-! ### data compared -/
mutual
/-- no text, no dict -/
def plain : Da → Bool
  | .str _ => false
  | .dic => false
  | .tup l => plainA l
  | .lst l => plainA l
  | _ => true
def plainA : List Da → Bool
  | [] => true
  | d :: l => plain d && plainA l
end
mutual
theorem eqv_refl : ∀ d : Da, plain d = true → PyData.eqv (pd d) (pd d) = true ∧ PyData.canLay0 (pd d) = true
  | .non, _ => ⟨rfl, rfl⟩
  | .bl b, _ => by cases b <;> exact ⟨rfl, rfl⟩
  | .int i, _ => ⟨by show (i == i) = true; simp, rfl⟩
  | .str _, h => by cases h
  | .dic, h => by cases h
  | .tup l, h => eqvA_refl l h
  | .lst l, h => eqvA_refl l h
theorem eqvA_refl : ∀ l : List Da, plainA l = true → PyData.eqvAll (pdA l) (pdA l) = true ∧ PyData.canLayAll0 (pdA l) = true
  | [], _ => ⟨rfl, rfl⟩
  | d :: l, h => by
    have h' : (plain d && plainA l) = true := h
    rw [Bool.and_eq_true] at h'
    obtain ⟨a1, a2⟩ := eqv_refl d h'.1
    obtain ⟨b1, b2⟩ := eqvA_refl l h'.2
    constructor
    · show (PyData.eqv (pd d) (pd d) && PyData.eqvAll (pdA l) (pdA l)) = true
      rw [a1, b1]
      rfl
    · show (PyData.canLay0 (pd d) && PyData.canLayAll0 (pdA l)) = true
      rw [a2, b2]
      rfl
end
theorem plain_num {d : Da} (h : isNum d = true) : plain d = true ∧ dp d ≤ 1 := by
  have two : ∀ l, isPair l = true → ∃ a b : Int, l = [.int a, .int b] := fun l hl => by
    match l, hl with
    | [.int a, .int b], hl => exact ⟨a, b, rfl⟩
  cases d with
  | int i => exact ⟨rfl, by show 0 ≤ 1; decide⟩
  | tup l =>
    obtain ⟨x, y, rfl⟩ := two l (by simpa [isNum, isN, isS, items] using h)
    exact ⟨rfl, by show 1 ≤ 1; decide⟩
  | lst l =>
    obtain ⟨x, y, rfl⟩ := two l (by simpa [isNum, isN, isS, items] using h)
    exact ⟨rfl, by show 1 ≤ 1; decide⟩
  | _ => cases h
theorem plain_rats : ∀ l : List Rat, plainA (l.map ofR) = true ∧ dpA (l.map ofR) ≤ 1
  | [] => ⟨rfl, Nat.zero_le _⟩
  | q :: l => by
    obtain ⟨a1, a2⟩ := plain_num (ofR_num q)
    obtain ⟨b1, b2⟩ := plain_rats l
    constructor
    · show (plain (ofR q) && plainA (l.map ofR)) = true
      rw [a1, b1]
      rfl
    · show max (dp (ofR q)) (dpA (l.map ofR)) ≤ 1
      omega
theorem shaped_rats (l : List Rat) : SeqAt.shaped (pd (.tup (l.map ofR))) = true ∧ SeqAt.shaped (pd (.lst (l.map ofR))) = true ∧ PyData.eqv (pd (.tup (l.map ofR))) (pd (.tup (l.map ofR))) = true ∧ PyData.eqv (pd (.lst (l.map ofR))) (pd (.lst (l.map ofR))) = true := by
  obtain ⟨a1, a2⟩ := plain_rats l
  obtain ⟨b1, b2⟩ := eqvA_refl _ a1
  have e1 : PyData.depth (pd (.tup (l.map ofR))) ≤ 64 := by
    rw [dp_eq]
    show dpA (l.map ofR) + 1 ≤ 64
    omega
  have e2 : PyData.depth (pd (.lst (l.map ofR))) ≤ 64 := e1
  have c1 : PyData.canLay0 (pd (.tup (l.map ofR))) = true := b2
  have c2 : PyData.canLay0 (pd (.lst (l.map ofR))) = true := b2
  refine ⟨?_, ?_, b1, b1⟩
  · unfold SeqAt.shaped
    rw [c1, decide_eq_true e1]
    rfl
  · unfold SeqAt.shaped
    rw [c2, decide_eq_true e2]
    rfl
theorem shaped_num {d : Da} (h : isNum d = true) : SeqAt.shaped (pd d) = true := by
  obtain ⟨a1, a2⟩ := plain_num h
  obtain ⟨b1, b2⟩ := eqv_refl _ a1
  unfold SeqAt.shaped
  rw [b2, decide_eq_true (by rw [dp_eq]; omega)]
  rfl
/-! ### what is asked of rows -/
def numb (m : Str) : Da := .tup [.str "number", .str m]
def manyD : Da := .tup [.str "many", .str "numbers", .int 25]
def spAsk (C C2 : Addr) : Sp := fun vs H Q E => ∃ w u v d e, vs = [.str w, u, v] ∧ Is H u d ∧ Is H v e ∧
  ((w = "value" ∧ (isRow d = false → Out1 C "part" (.str "row") H E) ∧ (isRow d = true → isNum e = false → Out1 C "part" (.str "number") H E) ∧
      (isRow d = true → isNum e = true → FitV (rts d) (rt e) ∧ ∀ x H', Same H H' → New H H' x (ofR (hval (rts d) (rt e))) → Q x H')) ∨
   (w = "slope" ∧ (isRow d = false → Out1 C "part" (.str "row") H E) ∧ (isRow d = true → FitS (rts d) ∧ ∀ x H', Same H H' → New H H' x (.tup ((slope (rts d)).map ofR)) → Q x H')) ∨
   (w = "product" ∧ (isRow d = false → Out1 C "part" (.str "one") H E) ∧ (isRow d = true → isRow e = false → Out1 C "part" (.str "other") H E) ∧
      (isRow d = true → isRow e = true → 26 < (items d).length + (items e).length → Out2 C2 "what" (.str "numbers") "most" (.int 25) H E) ∧
      (isRow d = true → isRow e = true → (items d).length + (items e).length ≤ 26 → FitP (rts d) (rts e) ∧ ∀ x H', Same H H' → New H H' x (.tup ((conv (rts d) (rts e)).map ofR)) → Q x H')))
def spHear : Sp := fun vs H Q _ => ∃ w u v d e, vs = [.str w, u, v] ∧ Is H u d ∧ Is H v e ∧
  ((w = "value" ∧ (isRow d = false → ∀ x H', Same H H' → New H H' x (numb "row") → Q x H') ∧ (isRow d = true → isNum e = false → ∀ x H', Same H H' → New H H' x (numb "number") → Q x H') ∧
      (isRow d = true → isNum e = true → FitV (rts d) (rt e) ∧ ∀ x H', Same H H' → New H H' x (ofR (hval (rts d) (rt e))) → Q x H')) ∨
   (w = "slope" ∧ (isRow d = false → ∀ x H', Same H H' → New H H' x (numb "row") → Q x H') ∧ (isRow d = true → FitS (rts d) ∧ ∀ x H', Same H H' → New H H' x (.tup ((slope (rts d)).map ofR)) → Q x H')) ∨
   (w = "product" ∧ (isRow d = false → ∀ x H', Same H H' → New H H' x (numb "one") → Q x H') ∧ (isRow d = true → isRow e = false → ∀ x H', Same H H' → New H H' x (numb "other") → Q x H') ∧
      (isRow d = true → isRow e = true → 26 < (items d).length + (items e).length → ∀ x H', Same H H' → New H H' x manyD → Q x H') ∧
      (isRow d = true → isRow e = true → (items d).length + (items e).length ≤ 26 → FitP (rts d) (rts e) ∧ ∀ x H', Same H H' → New H H' x (.tup ((conv (rts d) (rts e)).map ofR)) → Q x H')))
end Ty
namespace Ty
open PySem PySem.Spec PyProof.Rows L2
def spRightR (c : Nat) : Sp := fun vs H Q _ => ∃ (S : Addr → Bool) (j bk : Addr) (n : Nat), vs = [.ref j] ∧ S j = true ∧ Live S H ∧ Jar j bk H n ∧ n + c ≤ 100000 ∧ ∀ H', Keep j H H' → Live S H' → Jar j bk H' (n + c) → Q (.bl true) H'
section
variable {K : PySem.W.Frag} {S : Addr → Bool} {j bk : Addr} {H0 H : Hp} {c c1 c2 n : Nat} {σ : L2.St} {te ta tb : TE}
theorem dr_toldR {i l : Nat} {v : V} {qs : List Rat} (hS : S j = true) (h : σ[i]? = some (some (.ref j))) (h2 : σ[l]? = some (some v)) (hv : Is (mn S H0) v (.lst (qs.map ofR))) (hl : qs.length ≤ 25) :
    Dr S j bk H0 30 σ (tCall spToldR [] E0 (tCons (tVar i) (tCons (tVar l) tNil))) (fun f => isS f = true ∧ (∀ e ∈ items f, isNum e = true) ∧ rts f = qs) := fun H n Q kp lv J hn k =>
  ⟨_, h, _, h2, S, j, bk, n, v, qs, rfl, hS, lv, J, hn, hv.up (kp.less hS), hl, fun w f H' k' l' J' h' g1 g2 g3 => k w f H' k' l' J' h' ⟨g1, g2, g3⟩⟩
/-- told([x])[0] -/
theorem dr_firstR {i l : Nat} {v : V} {x : Rat} (hS : S j = true) (h : σ[i]? = some (some (.ref j))) (h2 : σ[l]? = some (some v)) (hv : Is (mn S H0) v (ofR x)) :
    Dr S j bk H0 30 σ (tOp (fun x y H Q => rIxL K x y H Q ∨ rIxT K x y H Q) (tCall spToldR [] E0 (tCons (tVar i) (tCons (tLst (tCons (tVar l) tNil)) tNil))) (tC (.int 0))) (fun e => isNum e = true ∧ rt e = x) := fun H n Q kp lv J hn k =>
  ⟨_, h, _, h2, (by decide : 1 ≤ sizeLine), fun p hp => ⟨S, j, bk, n, .ref p, [x], rfl, hS, lv.more (Same.new hp), J.up (Same.new hp), hn, .lst (mn_put lv hp) (.cons ((hv.up (kp.less hS)).up (Same.less (Same.new hp))) .nil), by show 1 ≤ 25; decide, fun w f H' k' l' J' h' g1 g2 g3 => by
    have lenf : (items f).length = 1 := by rw [← rts_len, g3]; rfl
    obtain ⟨e, ef⟩ : ∃ e, items f = [e] := by
      match items f, lenf with
      | [e], _ => exact ⟨e, rfl⟩
    have ne := g2 e (by rw [ef]; exact List.mem_singleton.mpr rfl)
    have re : rt e = x := by
      have q : (items f).map rt = [x] := g3
      rw [ef] at q
      exact List.head_eq_of_cons_eq q
    have s1 : Same H (upd H p (.lst [v])) := Same.new hp
    cases h' with
    | tup e1 hx =>
      have hx' := hx
      rw [show items (Da.tup _) = _ from rfl] at ef
      subst ef
      cases hx with
      | cons hv1 t =>
        cases t
        exact .inr ⟨_, _, 0, _, rfl, rfl, .inl (.inl (mn_of e1).2), rfl, k _ e H' ((Same.keep s1).trans k') l' J' hv1 ⟨ne, re⟩⟩
    | lst e1 hx =>
      rw [show items (Da.lst _) = _ from rfl] at ef
      subst ef
      cases hx with
      | cons hv1 t =>
        cases t
        exact .inl ⟨_, _, 0, _, rfl, rfl, .inl (.inl (mn_of e1).2), rfl, k _ e H' ((Same.keep s1).trans k') l' J' hv1 ⟨ne, re⟩⟩
    | _ => cases g1⟩⟩
end
theorem row_nb {d : Da} {s : Nat} (hn : ∀ e ∈ items d, isNum e = true) (h : ∀ q ∈ rts d, Sz s q) (l : s ≤ 1900) : ∀ e ∈ items d, NB 1900 e := fun e he => Sz.nb (hn e he) ((h (rt e) (List.mem_map.mpr ⟨e, he, rfl⟩)).more l)
theorem isRow_of {d : Da} (s : isS d = true) (hn : ∀ e ∈ items d, isNum e = true) (h1 : 1 ≤ (items d).length) (h2 : (items d).length ≤ 25) : isRow d = true := by
  unfold isRow
  rw [s, decide_eq_true ⟨h1, h2⟩, List.all_eq_true.mpr hn]
  rfl
theorem okr3 {f g e : Da} (s1 : isS f = true) (n1 : ∀ e ∈ items f, isNum e = true) (b1 : ∀ e ∈ items f, NB 1900 e) (l1 : (items f).length ≤ 100) (s2 : isS g = true) (n2 : ∀ e ∈ items g, isNum e = true) (b2 : ∀ e ∈ items g, NB 1900 e) (l2 : (items g).length ≤ 100)
    (n3 : isNum e = true) (b3 : NB 1900 e) : okr (.lst [f, g, e]) = true := by
  obtain ⟨x1, x2, x3⟩ := row_show s1 n1 b1
  obtain ⟨y1, y2, y3⟩ := row_show s2 n2 b2
  obtain ⟨z1, z2, z3⟩ := num_show n3 b3
  have e1 : nums (.lst [f, g, e]) = true := by
    show (nums f && (nums g && (nums e && true))) = true
    rw [x1, y1, z1]
    rfl
  have e2 : dp (.lst [f, g, e]) ≤ 60 := by
    show max (dp f) (max (dp g) (max (dp e) 0)) + 1 ≤ 60
    omega
  have e3 : wt (.lst [f, g, e]) ≤ 16000000 := by
    show wt f + 2 + (wt g + 2 + (wt e + 2 + 0)) + 10 ≤ 16000000
    omega
  unfold okr
  rw [e1, decide_eq_true e2, decide_eq_true e3]
  rfl
end Ty
namespace Ty
open PySem PySem.Spec PyProof.Rows L2
theorem isAll_app {G : Hp} : ∀ {d1 : List Da} {xs ys : List V} {d2 : List Da}, IsAll G xs d1 → IsAll G ys d2 → IsAll G (xs ++ ys) (d1 ++ d2)
  | [], _, _, _, h, k => by cases h; exact k
  | _ :: _, _, _, _, h, k => by
    cases h with
    | cons h t => exact .cons h (isAll_app t k)
theorem isAll_rep {G : Hp} {xs : List V} {ds : List Da} (h : IsAll G xs ds) : ∀ n : Nat, IsAll G (List.replicate n xs).flatten (List.replicate n ds).flatten
  | 0 => .nil
  | n + 1 => by
    rw [List.replicate_succ, List.replicate_succ, List.flatten_cons, List.flatten_cons]
    exact isAll_app h (isAll_rep h n)
theorem dr_repE {S : Addr → Bool} {j bk : Addr} {H0 : Hp} {σ : L2.St} {ta tb : TE} {ds : List Da} {k : Int} (hj : S j = true) (ha : Dr S j bk H0 0 σ ta (· = .lst ds)) (hb : Dr S j bk H0 0 σ tb (· = .int k)) (k0 : 0 ≤ k) (k1 : k ≤ 1000) (hl : ds.length ≤ 1000) :
    Dr S j bk H0 0 σ (tOp rRep ta tb) (· = .lst (List.replicate k.toNat ds).flatten) := fun H n Q kp lv J hn kk =>
  ha H n _ kp lv J hn fun v d H1 k1' l1 J1 h1 p1 => hb H1 n _ (kp.trans k1') l1 J1 hn fun u e H2 k2 l2 J2 h2 p2 => by
    subst p1
    subst p2
    have h1' := h1.up (k2.less hj)
    cases h2
    cases h1' with
    | @lst a xs _ e1 x1 =>
      refine ⟨a, k, xs, rfl, rfl, (mn_of e1).2, by omega, by omega, ?_, fun p hp => ?_⟩
      · rw [x1.length]
        exact Nat.le_trans (Nat.mul_le_mul hl (show k.toNat ≤ 1000 by omega)) (by decide)
      · exact kk _ _ _ ((k1'.trans k2).trans (Same.keep (Same.new hp))) (l2.more (Same.new hp)) (J2.up (Same.new hp)) (.lst (mn_put l2 hp) ((isAll_rep x1 _).up (Same.less (Same.new hp)))) rfl
theorem rep_one (n : Nat) : (List.replicate n [Da.int 1]).flatten = (List.replicate n (1 : Rat)).map ofR := by
  induction n with
  | zero => rfl
  | succ n ih =>
    rw [List.replicate_succ, List.replicate_succ, List.flatten_cons, List.map_cons, ih, show (1 : Rat) = ((1 : Int) : Rat) from rfl, ofR_int]
    rfl
theorem sz_small {i : Int} (h : i.natAbs < 2 ^ 5) : Sz 5 (i : Rat) := by
  rw [← rt_int]
  exact sz_nb rfl ⟨h, by show (1 : Int).natAbs < 2 ^ 5; decide⟩
end Ty

namespace Ty
open PySem PySem.Spec PyProof.Rows L2
/-! ### points and their promises -/
/-- an item of data by its place -/
theorem ix_of {K : PySem.W.Frag} {H : Hp} {v : V} {d e : Da} {i : Int} {n : Nat} {Q : VK} (h : Is H v d) (s : isS d = true) (hi : i = (n : Int)) (he : (items d)[n]? = some e) (k : ∀ w, Is H w e → Q w H) : rIxL K v (.int i) H Q ∨ rIxT K v (.int i) H Q := by
  subst hi
  obtain ⟨a, xs, rfl, hs, hx⟩ := h.seq (K := K) s
  obtain ⟨w, hw, hi⟩ := hx.get he
  rcases hs with hs | hs
  · exact .inl ⟨a, xs, _, w, rfl, rfl, hs, atI_nat hw, k w hi⟩
  · exact .inr ⟨a, xs, _, w, rfl, rfl, hs, atI_nat hw, k w hi⟩
/-- d is a point with these two numbers -/
def Pt (d : Da) (x y : Rat) : Prop := isS d = true ∧ ∃ a b, items d = [a, b] ∧ isNum a = true ∧ isNum b = true ∧ rt a = x ∧ rt b = y
/-- the point in its one form -/
def pt (x y : Rat) : Da := .tup [ofR x, ofR y]
theorem pt_pt {x y : Rat} : Pt (pt x y) x y := ⟨rfl, _, _, rfl, ofR_num _, ofR_num _, rt_ofR _, rt_ofR _⟩
theorem Pt.ok {d : Da} {x y : Rat} (h : Pt d x y) : isPt d = true := by
  obtain ⟨s, a, b, e, h1, h2, _⟩ := h
  show (isS d && isTwo (items d)) = true
  rw [s, e]
  show (true && (isNum a && isNum b)) = true
  rw [h1, h2]
  rfl
theorem New.ptOf {H H1 : Hp} {p : Addr} {v w : V} {x y : Rat} (hp : H p = none) (e1 : H1 p = some (.tup [v, w])) (a : New H H1 v (ofR x)) (b : New H H1 w (ofR y)) : New H H1 (.ref p) (Ty.pt x y) := New.tup2 hp e1 a b
theorem New.pt2 {H H1 : Hp} {p : Addr} {v w : V} {x y : Rat} (s : Same H H1) (hp : H1 p = none) (a : New H H1 v (ofR x)) (b : New H H1 w (ofR y)) : New H (upd H1 p (.tup [v, w])) (.ref p) (Ty.pt x y) := New.ptOf (by
  cases e : H p with
  | none => rfl
  | some o => rw [s p o e] at hp; cases hp) upd_same (a.up (Same.new hp)) (b.up (Same.new hp))
/-! sizes -/
theorem Sz.neg {n : Nat} {q : Rat} (h : Sz n q) : Sz n (-q) := by
  unfold Sz at h ⊢
  rw [Rat.neg_num, Rat.neg_den, Int.natAbs_neg]
  exact h
theorem Sz.sub {a b : Nat} {p q : Rat} (h1 : Sz a p) (h2 : Sz b q) : Sz (a + b + 1) (p - q) := by
  rw [Rat.sub_eq_add_neg]
  exact h1.add h2.neg
theorem Sz.inv {n : Nat} {q : Rat} (h : Sz n q) (h0 : q ≠ 0) : Sz n q⁻¹ := by
  rw [Rat.inv_def]
  have e : q.num ≠ 0 := fun z => h0 (Rat.num_eq_zero.mp z)
  exact sz_low e (by rw [Int.natAbs_natCast]; exact h.2) h.1
theorem Sz.div {a b : Nat} {p q : Rat} (h1 : Sz a p) (h2 : Sz b q) (h0 : q ≠ 0) : Sz (a + b) (p / q) := by
  rw [Rat.div_def]
  exact h1.mul (h2.inv h0)
theorem sz_int {n : Nat} {i : Int} (h : i.natAbs < 2 ^ n) (hn : 1 ≤ n) : Sz n (i : Rat) := ⟨h, Nat.lt_of_lt_of_le (show 1 < 2 ^ 1 by decide) (Nat.pow_le_pow_right (by decide) hn)⟩
theorem fQuot_rt {d e r : Da} (h1 : isNum d = true) (h2 : isNum e = true) (h0 : rt e ≠ 0) (h : fQuot d e r) : r = ofR (rt d / rt e) := by
  have a := (num_parts h1).1
  have b := (num_parts h2).1
  have c : above e ≠ 0 := fun z => h0 (by unfold rt; rw [z, Rat.zero_divInt])
  rw [low_ofR (Int.mul_ne_zero (by omega) c) h]
  unfold rt
  rw [Rat.div_def, Rat.inv_divInt, Rat.divInt_mul_divInt]
theorem above_ne {e : Da} (h2 : isNum e = true) (h0 : rt e ≠ 0) : above e ≠ 0 := fun z => h0 (by unfold rt; rw [z, Rat.zero_divInt])
theorem fNeg_rt {d r : Da} (h1 : isNum d = true) (h : fNeg d r) : r = ofR (- rt d) := by
  have a := (num_parts h1).1
  rw [low_ofR (by omega) h]
  unfold rt
  rw [Rat.neg_divInt]

/-! calls -/
section
variable {H : Hp} {Q : VK} {E : XK} {u v : V} {d e : Da} {m n : Nat} {x z : Rat}
/-- two numbers that can be reckoned together -/
def FitQ (p q : Rat) : Prop := ∃ m n, 0 < m ∧ 0 < n ∧ m + n ≤ 8900 ∧ Sz m p ∧ Sz n q
theorem FitQ.fit (h : FitQ (rt d) (rt e)) (h1 : isNum d = true) (h2 : isNum e = true) : Fit d e := by
  obtain ⟨m, n, a, b, c, s, t⟩ := h
  exact ⟨m, n, a, b, c, Sz.nb h1 s, Sz.nb h2 t⟩
/-- v is the number x -/
def Nm (H : Hp) (v : V) (x : Rat) : Prop := ∃ d, Is H v d ∧ isNum d = true ∧ rt d = x
theorem Nm.up {H H' : Hp} (h : Nm H v x) (s : Same H H') : Nm H' v x := by
  obtain ⟨d, h1, h2, h3⟩ := h
  exact ⟨d, h1.up s, h2, h3⟩
theorem New.nm {H H' : Hp} (h : New H H' v (ofR x)) : Nm H' v x := ⟨_, h.is, ofR_num x, rt_ofR x⟩
theorem Is.nm (h : Is H v (ofR x)) : Nm H v x := ⟨_, h, ofR_num x, rt_ofR x⟩
theorem nm_int {i : Int} : Nm H (.int i) (i : Rat) := ⟨.int i, .int i, rfl, rt_int i⟩
theorem on_sum (hu : Nm H u x) (hv : Nm H v z) (f : FitQ x z) (k : ∀ w H', Same H H' → New H H' w (ofR (x + z)) → Q w H') : spOn2 CT fSum [u, v] H Q E0 := by
  obtain ⟨d, hu, h1, rfl⟩ := hu
  obtain ⟨e, hv, h2, rfl⟩ := hv
  exact ⟨u, v, d, e, rfl, hu, hv, h1, h2, f.fit h1 h2, trivial, fun w r H' s n l => k w H' s (fSum_rt h1 h2 l ▸ n)⟩
theorem on_diff (hu : Nm H u x) (hv : Nm H v z) (f : FitQ x z) (k : ∀ w H', Same H H' → New H H' w (ofR (x - z)) → Q w H') : spOn2 CT fDiff [u, v] H Q E0 := by
  obtain ⟨d, hu, h1, rfl⟩ := hu
  obtain ⟨e, hv, h2, rfl⟩ := hv
  exact ⟨u, v, d, e, rfl, hu, hv, h1, h2, f.fit h1 h2, trivial, fun w r H' s n l => k w H' s (fDiff_rt h1 h2 l ▸ n)⟩
theorem on_prod (hu : Nm H u x) (hv : Nm H v z) (f : FitQ x z) (k : ∀ w H', Same H H' → New H H' w (ofR (x * z)) → Q w H') : spOn2 CT fProd [u, v] H Q E0 := by
  obtain ⟨d, hu, h1, rfl⟩ := hu
  obtain ⟨e, hv, h2, rfl⟩ := hv
  exact ⟨u, v, d, e, rfl, hu, hv, h1, h2, f.fit h1 h2, trivial, fun w r H' s n l => k w H' s (fProd_rt h1 h2 l ▸ n)⟩
theorem on_quot (hu : Nm H u x) (hv : Nm H v z) (f : FitQ x z) (h0 : z ≠ 0) (k : ∀ w H', Same H H' → New H H' w (ofR (x / z)) → Q w H') : spOn2 (fun _ e => above e ≠ 0) fQuot [u, v] H Q E0 := by
  obtain ⟨d, hu, h1, rfl⟩ := hu
  obtain ⟨e, hv, h2, rfl⟩ := hv
  exact ⟨u, v, d, e, rfl, hu, hv, h1, h2, f.fit h1 h2, above_ne h2 h0, fun w r H' s n l => k w H' s (fQuot_rt h1 h2 h0 l ▸ n)⟩
theorem on_neg (hu : Nm H u x) (hb : Sz 8900 x) (k : ∀ w H', Same H H' → New H H' w (ofR (- x)) → Q w H') : spOn fNeg [u] H Q E0 := by
  obtain ⟨d, hu, h1, rfl⟩ := hu
  exact ⟨u, d, rfl, hu, h1, Sz.nb h1 hb, fun w r H' s n l => k w H' s (fNeg_rt h1 l ▸ n)⟩
theorem on_rat2 {f : Rat → Rat → Rat} (hu : Nm H u x) (hv : Nm H v z) (g : FitQ x z) (k : ∀ w H', Same H H' → New H H' w (ofR (f x z)) → Q w H') : spRat2 f [u, v] H Q E0 := by
  obtain ⟨d, hu, h1, rfl⟩ := hu
  obtain ⟨e, hv, h2, rfl⟩ := hv
  exact ⟨u, v, d, e, rfl, hu, hv, h1, h2, g.fit h1 h2, k⟩
theorem on_less (hu : Nm H u x) (hv : Nm H v z) (f : FitQ x z) (k : ∀ H', Same H H' → Q (.bl (decide (x < z))) H') : spOn2 CT fLess [u, v] H Q E0 := by
  obtain ⟨d, hu, h1, rfl⟩ := hu
  obtain ⟨e, hv, h2, rfl⟩ := hv
  refine ⟨u, v, d, e, rfl, hu, hv, h1, h2, f.fit h1 h2, trivial, fun w r H' s n l => ?_⟩
  cases l
  cases n.is
  have a := (num_parts h1).1
  have b := (num_parts h2).1
  have q : decide (above d * below e < above e * below d) = decide (rt d < rt e) := by
    have q1 : (rt d < rt e) ↔ above d * below e < above e * below d := by
      rw [Rat.lt_iff, ← (num_is h1).1, ← (num_is h1).2, ← (num_is h2).1, ← (num_is h2).2]
    exact decide_eq_decide.mpr q1.symm
  rw [q]
  exact k H' s
/-- the first number, the second one -/
theorem Pt.fst {K : PySem.W.Frag} {y : Rat} (p : Pt d x y) (h : Is H v d) (k : ∀ w, Nm H w x → Q w H) : rIxL K v (.int 0) H Q ∨ rIxT K v (.int 0) H Q := by
  obtain ⟨s, a, b, e, h1, h2, h3, h4⟩ := p
  exact ix_of (n := 0) h s rfl (by rw [e]; rfl) fun w hw => k w ⟨a, hw, h1, h3⟩
theorem Pt.snd {K : PySem.W.Frag} {y : Rat} (p : Pt d x y) (h : Is H v d) (k : ∀ w, Nm H w y → Q w H) : rIxL K v (.int 1) H Q ∨ rIxT K v (.int 1) H Q := by
  obtain ⟨s, a, b, e, h1, h2, h3, h4⟩ := p
  exact ix_of (n := 1) h s rfl (by rw [e]; rfl) fun w hw => k w ⟨b, hw, h2, h4⟩
end
/-! promises -/
/-- two points give a point; the first one's numbers have m bits, the second one's n -/
def spPP (f g : Rat → Rat → Rat → Rat → Rat) : Sp := fun vs H Q _ => ∃ u v d e x y z w m n, vs = [u, v] ∧ Is H u d ∧ Is H v e ∧ Pt d x y ∧ Pt e z w ∧ (0 < m ∧ 0 < n ∧ m + n ≤ 8900 ∧ Sz m x ∧ Sz m y ∧ Sz n z ∧ Sz n w) ∧
  ∀ r H', Same H H' → New H H' r (pt (f x y z w) (g x y z w)) → Q r H'
/-- two points give a number -/
def spPN (f : Rat → Rat → Rat → Rat → Rat) : Sp := fun vs H Q _ => ∃ u v d e x y z w m n, vs = [u, v] ∧ Is H u d ∧ Is H v e ∧ Pt d x y ∧ Pt e z w ∧ (0 < m ∧ 0 < n ∧ 2 * (m + n) ≤ 8900 ∧ Sz m x ∧ Sz m y ∧ Sz n z ∧ Sz n w) ∧
  ∀ r H', Same H H' → New H H' r (ofR (f x y z w)) → Q r H'
/-- the square of the distance -/
def far2 (x y z w : Rat) : Rat := (z - x) * (z - x) + (w - y) * (w - y)
def spFar : Sp := fun vs H Q _ => ∃ u v d e x y z w m n, vs = [u, v] ∧ Is H u d ∧ Is H v e ∧ Pt d x y ∧ Pt e z w ∧ (0 < m ∧ 0 < n ∧ 4 * (m + n + 1) ≤ 8900 ∧ Sz m x ∧ Sz m y ∧ Sz n z ∧ Sz n w) ∧
  ∀ r H', Same H H' → New H H' r (ofR (far2 x y z w)) → Q r H'
/-- a point so many times -/
def spPTimes : Sp := fun vs H Q _ => ∃ u v d e x y m n, vs = [u, v] ∧ Is H u d ∧ Is H v e ∧ Pt d x y ∧ isNum e = true ∧ (0 < m ∧ 0 < n ∧ m + n ≤ 8900 ∧ Sz m x ∧ Sz m y ∧ Sz n (rt e)) ∧
  ∀ r H', Same H H' → New H H' r (pt (rt e * x) (rt e * y)) → Q r H'
/-- one gone on by share of the way to other -/
def spGoneOn : Sp := fun vs H Q _ => ∃ u v t d e f x y z w m n l, vs = [u, v, t] ∧ Is H u d ∧ Is H v e ∧ Is H t f ∧ Pt d x y ∧ Pt e z w ∧ isNum f = true ∧ (0 < m ∧ 0 < n ∧ 0 < l ∧ 2 * m + n + l + 2 ≤ 8900 ∧ Sz m x ∧ Sz m y ∧ Sz n z ∧ Sz n w ∧ Sz l (rt f)) ∧
  ∀ r H', Same H H' → New H H' r (pt (x + rt f * (z - x)) (y + rt f * (w - y))) → Q r H'
/-- a point gone on by share of a row -/
def spGoneR : Sp := fun vs H Q _ => ∃ u v t d e f x y z w m n l, vs = [u, v, t] ∧ Is H u d ∧ Is H v e ∧ Is H t f ∧ Pt d x y ∧ Pt e z w ∧ isNum f = true ∧ (0 < m ∧ 0 < n ∧ 0 < l ∧ m + n + l ≤ 8900 ∧ Sz m x ∧ Sz m y ∧ Sz n z ∧ Sz n w ∧ Sz l (rt f)) ∧
  ∀ r H', Same H H' → New H H' r (pt (x + rt f * z) (y + rt f * w)) → Q r H'
/-! numbers and points compared -/
mutual
theorem Is.dpP {K : PySem.W.Frag} {H : Hp} : ∀ (d : Da) (v : V), Is H v d → plain d = true → Dp K H v (pd d)
  | .non, _, h, _ => by cases h; exact .non
  | .bl b, _, h, _ => by cases h; exact .bl b
  | .int i, _, h, _ => by cases h; exact .int i
  | .str x, _, _, n => by cases n
  | .tup l, _, h, n => by
    cases h with
    | tup e h => exact .tup (.inl (.inl e)) (IsAll.dpP l _ h n)
  | .lst l, _, h, n => by
    cases h with
    | lst e h => exact .lst (.inl (.inl e)) (IsAll.dpP l _ h n)
  | .dic, _, _, n => by cases n
theorem IsAll.dpP {K : PySem.W.Frag} {H : Hp} : ∀ (l : List Da) (vs : List V), IsAll H vs l → plainA l = true → DpAll K H vs (pdA l)
  | [], _, h, _ => by cases h; exact .nil
  | d :: l, _, h, n => by
    have h' : (plain d && plainA l) = true := n
    rw [Bool.and_eq_true] at h'
    cases h with
    | cons h t => exact .cons (Is.dpP d _ h h'.1) (IsAll.dpP l _ t h'.2)
end
theorem int_beq (i j : Int) : (i == j) = decide (i = j) := by
  by_cases h : i = j
  · rw [h]; simp
  · rw [decide_eq_false h]; simpa using h
theorem eqv_frac {a b c d : Int} : PyData.eqv (pd (frac a b)) (pd (frac c d)) = decide (a = c ∧ b = d) := by
  unfold frac
  by_cases h1 : b = 1
  · by_cases h2 : d = 1
    · rw [if_pos h1, if_pos h2]
      show (a == c) = _
      rw [int_beq]
      exact decide_eq_decide.mpr ⟨fun e => ⟨e, by rw [h1, h2]⟩, fun e => e.1⟩
    · rw [if_pos h1, if_neg h2]
      show false = _
      rw [decide_eq_false (fun e => h2 (by rw [← e.2, h1]))]
  · by_cases h2 : d = 1
    · rw [if_neg h1, if_pos h2]
      show false = _
      rw [decide_eq_false (fun e => h1 (by rw [e.2, h2]))]
    · rw [if_neg h1, if_neg h2]
      show ((a == c) && ((b == d) && true)) = _
      rw [int_beq, int_beq, Bool.and_true, ← Bool.decide_and]
theorem eqv_ofR {x z : Rat} : PyData.eqv (pd (ofR x)) (pd (ofR z)) = decide (x = z) := by
  unfold ofR
  rw [eqv_frac]
  exact decide_eq_decide.mpr ⟨fun e => Rat.ext e.1 (by have := e.2; omega), fun e => by rw [e]; exact ⟨rfl, rfl⟩⟩
theorem eqv_pt {x y z w : Rat} : PyData.eqv (pd (pt x y)) (pd (pt z w)) = decide (x = z ∧ y = w) := by
  show (PyData.eqv (pd (ofR x)) (pd (ofR z)) && (PyData.eqv (pd (ofR y)) (pd (ofR w)) && true)) = _
  rw [eqv_ofR, eqv_ofR, Bool.and_true, ← Bool.decide_and]
theorem plain_pt {x y : Rat} : plain (pt x y) = true ∧ dp (pt x y) ≤ 2 := by
  obtain ⟨a1, a2⟩ := plain_num (ofR_num x)
  obtain ⟨b1, b2⟩ := plain_num (ofR_num y)
  constructor
  · show (plain (ofR x) && (plain (ofR y) && true)) = true
    rw [a1, b1]
    rfl
  · show max (dp (ofR x)) (max (dp (ofR y)) 0) + 1 ≤ 2
    omega
theorem shaped_plain {d : Da} (h : plain d = true) (l : dp d ≤ 60) : SeqAt.shaped (pd d) = true := by
  obtain ⟨b1, b2⟩ := eqv_refl _ h
  unfold SeqAt.shaped
  rw [b2, decide_eq_true (by rw [dp_eq]; omega)]
  rfl
section
variable {K : PySem.W.Frag} {H : Hp} {u v : V} {d e : Da} {x y z w : Rat} {Q : VK}
theorem eq_pl (hu : Is H u d) (hv : Is H v e) (h1 : plain d = true) (h2 : plain e = true) (l1 : dp d ≤ 60) (l2 : dp e ≤ 60) (k : Q (.bl (PyData.eqv (pd d) (pd e))) H) : rEqD K u v H Q :=
  ⟨pd d, pd e, Is.dpP d u hu h1, Is.dpP e v hv h2, shaped_plain h1 l1, shaped_plain h2 l2, k⟩
theorem ne_pl (hu : Is H u d) (hv : Is H v e) (h1 : plain d = true) (h2 : plain e = true) (l1 : dp d ≤ 60) (l2 : dp e ≤ 60) (k : Q (.bl (!PyData.eqv (pd d) (pd e))) H) : rNeD K u v H Q :=
  ⟨pd d, pd e, Is.dpP d u hu h1, Is.dpP e v hv h2, shaped_plain h1 l1, shaped_plain h2 l2, k⟩
theorem eq_nm (hu : Is H u (ofR x)) (hv : Is H v (ofR z)) (k : Q (.bl (decide (x = z))) H) : rEqD K u v H Q := by
  obtain ⟨a1, a2⟩ := plain_num (ofR_num x)
  obtain ⟨b1, b2⟩ := plain_num (ofR_num z)
  exact eq_pl hu hv a1 b1 (by omega) (by omega) (by rw [eqv_ofR]; exact k)
theorem ne_nm (hu : Is H u (ofR x)) (hv : Is H v (ofR z)) (k : Q (.bl (!decide (x = z))) H) : rNeD K u v H Q := by
  obtain ⟨a1, a2⟩ := plain_num (ofR_num x)
  obtain ⟨b1, b2⟩ := plain_num (ofR_num z)
  exact ne_pl hu hv a1 b1 (by omega) (by omega) (by rw [eqv_ofR]; exact k)
theorem eq_pt (hu : Is H u (pt x y)) (hv : Is H v (pt z w)) (k : Q (.bl (decide (x = z ∧ y = w))) H) : rEqD K u v H Q := by
  obtain ⟨a1, a2⟩ := plain_pt (x := x) (y := y)
  obtain ⟨b1, b2⟩ := plain_pt (x := z) (y := w)
  exact eq_pl hu hv a1 b1 (by omega) (by omega) (by rw [eqv_pt]; exact k)
theorem ne_pt (hu : Is H u (pt x y)) (hv : Is H v (pt z w)) (k : Q (.bl (!decide (x = z ∧ y = w))) H) : rNeD K u v H Q := by
  obtain ⟨a1, a2⟩ := plain_pt (x := x) (y := y)
  obtain ⟨b1, b2⟩ := plain_pt (x := z) (y := w)
  exact ne_pl hu hv a1 b1 (by omega) (by omega) (by rw [eqv_pt]; exact k)
theorem Is.zero : Is H (.int 0) (ofR 0) := by rw [ofR_zero]; exact .int 0
theorem Is.pt0 {p : Addr} (h : H p = some (.tup [.int 0, .int 0])) : Is H (.ref p) (pt 0 0) := .tup h (.cons Is.zero (.cons Is.zero .nil))
end
/-! what is above 0 -/
def posD (d : Da) : Bool := isNum d && decide (0 < above d)
theorem posD_of {d : Da} (h : isNum d = true) (p : 0 < rt d) : posD d = true := by
  unfold posD
  rw [h, decide_eq_true]
  · rfl
  · rw [(num_is h).1]
    have h := (Rat.lt_iff 0 (rt d)).mp p
    simpa using h
def spNeedS (f : Da → Bool) (C : Addr) : Sp := fun vs H Q E => ∃ v p d, vs = [v, p] ∧ Is H v d ∧ (isNum d = true → NB 8900 d) ∧ (f d = true → ∀ H', Same H H' → Q .non H') ∧ (f d = false → Out1 C "part" p H E)
/-! lists made tuples -/
mutual
def fx : Da → Da
  | .tup l => .tup (fxA l)
  | .lst l => .tup (fxA l)
  | d => d
def fxA : List Da → List Da
  | [] => []
  | d :: l => fx d :: fxA l
end
theorem fxA_map : ∀ l : List Da, fxA l = l.map fx
  | [] => rfl
  | d :: l => by
    show fx d :: fxA l = fx d :: l.map fx
    rw [fxA_map l]
theorem dpA_mem : ∀ (l : List Da) (d : Da), d ∈ l → dp d ≤ dpA l
  | e :: l, d, h => by
    cases h with
    | head => exact Nat.le_max_left _ _
    | tail _ h => exact Nat.le_trans (dpA_mem l d h) (Nat.le_max_right _ _)
/-- no dict, no list or tuple of more than 1000 -/
def slim : Da → Bool
  | .tup l => decide (l.length ≤ 1000) && slimA l
  | .lst l => decide (l.length ≤ 1000) && slimA l
  | .dic => false
  | _ => true
where slimA : List Da → Bool
  | [] => true
  | d :: l => slim d && slimA l
def spFix (n : Nat) : Sp := fun vs H Q _ => ∃ v d, vs = [v] ∧ Is H v d ∧ dp d < n ∧ slim d = true ∧ ∀ w H', Same H H' → New H H' w (fx d) → Q w H'
theorem slimA_mem : ∀ (l : List Da) (d : Da), d ∈ l → slim.slimA l = true → slim d = true
  | e :: l, d, h, s => by
    have s' : (slim e && slim.slimA l) = true := s
    rw [Bool.and_eq_true] at s'
    cases h with
    | head => exact s'.1
    | tail _ h => exact slimA_mem l d h s'.2
theorem slim_num {d : Da} (h : isNum d = true) : slim d = true := by
  have two : ∀ l, isPair l = true → ∃ a b : Int, l = [.int a, .int b] := fun l hl => by
    match l, hl with
    | [.int a, .int b], hl => exact ⟨a, b, rfl⟩
  cases d with
  | int i => rfl
  | tup l =>
    obtain ⟨x, y, rfl⟩ := two l (by simpa [isNum, isN, isS, items] using h)
    rfl
  | lst l =>
    obtain ⟨x, y, rfl⟩ := two l (by simpa [isNum, isN, isS, items] using h)
    rfl
  | _ => cases h
theorem fx_ofR {q : Rat} : fx (ofR q) = ofR q := by
  unfold ofR frac
  split <;> rfl
theorem fx_pt {x y : Rat} : fx (pt x y) = pt x y := by
  show Da.tup [fx (ofR x), fx (ofR y)] = _
  rw [fx_ofR, fx_ofR]
  rfl
theorem slim_pt {x y : Rat} : slim (pt x y) = true := by
  show (true && (slim (ofR x) && (slim (ofR y) && true))) = true
  rw [slim_num (ofR_num x), slim_num (ofR_num y)]
  rfl
/-- a point made new: its items -/
theorem New.two {H H1 : Hp} {v : V} {x y : Rat} (h : New H H1 v (Ty.pt x y)) : ∃ p a b, v = .ref p ∧ H1 p = some (.tup [a, b]) ∧ New H H1 a (ofR x) ∧ New H H1 b (ofR y) := by
  have h0 := h.is
  cases h0 with
  | @tup p xs _ e hx =>
    cases hx with
    | @cons a _ _ _ ha hx =>
      cases hx with
      | @cons b _ _ _ hb hx =>
        cases hx
        refine ⟨p, a, b, rfl, e, fun S l => ?_, fun S l => ?_⟩
        all_goals
          have q := h S l
          cases q with
          | tup e2 hy =>
            have e3 := (mn_of e2).2
            rw [e] at e3
            cases e3
            cases hy with
            | cons h1 hy =>
              cases hy with
              | cons h2 hy => first | exact h1 | exact h2
/-- a point gives a point -/
def spPQ (f g : Rat → Rat → Rat) : Sp := fun vs H Q _ => ∃ v x y n, vs = [v] ∧ Is H v (pt x y) ∧ (0 < n ∧ n ≤ 8000 ∧ Sz n x ∧ Sz n y) ∧ ∀ w H', Same H H' → New H H' w (pt (f x y) (g x y)) → Q w H'
end Ty

namespace Ty
open PySem PySem.Spec PyProof.Rows L2
/-! ### mirrored points, frames: the mathematics -/
theorem sq_nonneg (x : Rat) : 0 ≤ x * x := by
  rcases Rat.le_total (a := 0) (b := x) with h | h
  · exact Rat.mul_nonneg h h
  · have h2 : 0 ≤ -x := by grind
    have := Rat.mul_nonneg h2 h2
    grind
theorem sq_two {x y : Rat} (h : x * x + y * y = 0) : x = 0 ∧ y = 0 := by
  have h1 := sq_nonneg x
  have h2 := sq_nonneg y
  have e1 : x * x = 0 := by grind
  have e2 : y * y = 0 := by grind
  exact ⟨(Rat.mul_eq_zero.mp e1).elim id id, (Rat.mul_eq_zero.mp e2).elim id id⟩
theorem far2_ne {a b c d : Rat} (h : a ≠ c ∨ b ≠ d) : far2 a b c d ≠ 0 := fun z => by
  obtain ⟨h1, h2⟩ := sq_two z
  rcases h with h | h
  · exact h (by grind)
  · exact h (by grind)
/-- the share of the foot of (x, y) on the line from (a, b) to (c, d) -/
def shr (a b c d x y : Rat) : Rat := ((x - a) * (c - a) + (y - b) * (d - b)) / far2 a b c d
def mir1 (x y a b c d : Rat) : Rat := x + 2 * ((a + shr a b c d x y * (c - a)) - x)
def mir2 (x y a b c d : Rat) : Rat := y + 2 * ((b + shr a b c d x y * (d - b)) - y)
theorem shr_eq {a b c d x y : Rat} (h : a ≠ c ∨ b ≠ d) : shr a b c d x y * ((c - a) * (c - a) + (d - b) * (d - b)) = (x - a) * (c - a) + (y - b) * (d - b) := Rat.div_mul_cancel (far2_ne h)
section
variable {x y a b c d : Rat}
theorem mir_far1 (h : a ≠ c ∨ b ≠ d) : far2 (mir1 x y a b c d) (mir2 x y a b c d) a b = far2 x y a b := by
  have e := shr_eq (x := x) (y := y) h
  unfold mir1 mir2 far2
  generalize shr a b c d x y = s at e ⊢
  grind
theorem mir_far2 (h : a ≠ c ∨ b ≠ d) : far2 (mir1 x y a b c d) (mir2 x y a b c d) c d = far2 x y c d := by
  have e := shr_eq (x := x) (y := y) h
  unfold mir1 mir2 far2
  generalize shr a b c d x y = s at e ⊢
  grind
theorem mir_dot (h : a ≠ c ∨ b ≠ d) : (c - a) * (mir1 x y a b c d - x) + (d - b) * (mir2 x y a b c d - y) = 0 := by
  have e := shr_eq (x := x) (y := y) h
  unfold mir1 mir2
  generalize shr a b c d x y = s at e ⊢
  grind
theorem mir_cross : (c - a) * ((y + Rat.divInt 1 2 * (mir2 x y a b c d - y)) - b) - (d - b) * ((x + Rat.divInt 1 2 * (mir1 x y a b c d - x)) - a) = 0 := by
  have h2 : Rat.divInt 1 2 = 1 / 2 := by rw [Rat.divInt_eq_div]; rfl
  rw [h2]
  unfold mir1 mir2
  generalize shr a b c d x y = s
  grind
theorem mir_on (h : a ≠ c ∨ b ≠ d) (k : (c - a) * (y - b) - (d - b) * (x - a) = 0) : mir1 x y a b c d = x ∧ mir2 x y a b c d = y := by
  have e := shr_eq (x := x) (y := y) h
  have f := far2_ne h
  unfold mir1 mir2
  unfold far2 at f
  generalize shr a b c d x y = s at e ⊢
  have q1 : ((c - a) * (c - a) + (d - b) * (d - b)) * ((a + s * (c - a)) - x) = 0 := by grind
  have q2 : ((c - a) * (c - a) + (d - b) * (d - b)) * ((b + s * (d - b)) - y) = 0 := by grind
  have r1 := (Rat.mul_eq_zero.mp q1).resolve_left f
  have r2 := (Rat.mul_eq_zero.mp q2).resolve_left f
  rw [r1, r2]
  constructor <;> grind
theorem mir_back (h : a ≠ c ∨ b ≠ d) : mir1 (mir1 x y a b c d) (mir2 x y a b c d) c d a b = x ∧ mir2 (mir1 x y a b c d) (mir2 x y a b c d) c d a b = y := by
  have h' : c ≠ a ∨ d ≠ b := h.imp Ne.symm Ne.symm
  have e := shr_eq (x := x) (y := y) h
  have e2 := shr_eq (x := mir1 x y a b c d) (y := mir2 x y a b c d) h'
  have f := far2_ne h
  unfold far2 at f
  have q : shr c d a b (mir1 x y a b c d) (mir2 x y a b c d) = 1 - shr a b c d x y := by
    have z : ((c - a) * (c - a) + (d - b) * (d - b)) * (shr c d a b (mir1 x y a b c d) (mir2 x y a b c d) - (1 - shr a b c d x y)) = 0 := by
      generalize shr c d a b (mir1 x y a b c d) (mir2 x y a b c d) = t at e2 ⊢
      unfold mir1 mir2 at e2
      generalize shr a b c d x y = s at e e2 ⊢
      grind
    have := (Rat.mul_eq_zero.mp z).resolve_left f
    grind
  have m1 : mir1 (mir1 x y a b c d) (mir2 x y a b c d) c d a b = mir1 x y a b c d + 2 * ((c + shr c d a b (mir1 x y a b c d) (mir2 x y a b c d) * (a - c)) - mir1 x y a b c d) := rfl
  have m2 : mir2 (mir1 x y a b c d) (mir2 x y a b c d) c d a b = mir2 x y a b c d + 2 * ((d + shr c d a b (mir1 x y a b c d) (mir2 x y a b c d) * (b - d)) - mir2 x y a b c d) := rfl
  rw [m1, m2, q]
  unfold mir1 mir2
  generalize shr a b c d x y = s at e ⊢
  constructor <;> grind
end
/-- a frame's lengths, and its first corners -/
structure Frame (s t o p a b c d : Rat) : Prop where
  pos : 0 < s
  less : s < t
  one : far2 o p a b = s * s
  other : far2 o p c d = t * t
section
variable {s t o p a b c d : Rat}
theorem Frame.sq (f : Frame s t o p a b c d) : s * s < t * t := by
  have h1 := f.pos
  have h2 := f.less
  have h3 : 0 < (t - s) * (t + s) := Rat.mul_pos (by grind) (by grind)
  grind
theorem Frame.apart (f : Frame s t o p a b c d) : a ≠ c ∨ b ≠ d := by
  refine Classical.byContradiction fun z => ?_
  have z1 : a = c := Classical.byContradiction fun w => z (.inl w)
  have z2 : b = d := Classical.byContradiction fun w => z (.inr w)
  have e1 := f.one
  have e2 := f.other
  subst z1
  subst z2
  have := f.sq
  grind
theorem Frame.long (f : Frame s t o p a b c d) : o ≠ c ∨ p ≠ d := by
  refine Classical.byContradiction fun z => ?_
  have z1 : o = c := Classical.byContradiction fun w => z (.inl w)
  have z2 : p = d := Classical.byContradiction fun w => z (.inr w)
  have e2 := f.other
  subst z1
  subst z2
  unfold far2 at e2
  have := f.sq
  have := Rat.mul_pos f.pos f.pos
  grind
theorem Frame.par1 (f : Frame s t o p a b c d) : far2 (a + (c - o)) (b + (d - p)) c d = s * s := by
  rw [← f.one]; unfold far2; grind
theorem Frame.par2 (f : Frame s t o p a b c d) : far2 (a + (c - o)) (b + (d - p)) a b = t * t := by
  rw [← f.other]; unfold far2; grind
theorem mir_off (h : (a - o) * (d - p) - (b - p) * (c - o) ≠ 0) : ¬ (mir1 (a + (c - o)) (b + (d - p)) a b c d = a + (c - o) ∧ mir2 (a + (c - o)) (b + (d - p)) a b c d = b + (d - p)) := fun z => by
  have e := mir_cross (x := a + (c - o)) (y := b + (d - p)) (a := a) (b := b) (c := c) (d := d)
  rw [z.1, z.2] at e
  apply h
  have h2 : Rat.divInt 1 2 = 1 / 2 := by rw [Rat.divInt_eq_div]; rfl
  rw [h2] at e
  grind
end

/-- the third corner where the frame is parallel, and the other one -/
def flatQ (o p a b c d : Rat) : Rat := -(d - p) * (a - o) + (c - o) * (b - p)
theorem flat_cross {o p a b c d : Rat} : ((a - o) * (d - p) - (b - p) * (c - o) = 0) = (flatQ o p a b c d = 0) := by
  unfold flatQ
  apply propext
  constructor <;> intro h <;> grind
theorem flat_one {o p c d : Rat} : flatQ o p o p c d = 0 := by unfold flatQ; grind
theorem flat_two {o p c d : Rat} : flatQ o p c d c d = 0 := by unfold flatQ; grind
/-- the turn of a half -/
theorem half_unit (q : Rat) : (1 + q * q) ≠ 0 ∧ ((1 - q * q) / (1 + q * q)) * ((1 - q * q) / (1 + q * q)) + ((2 * q) / (1 + q * q)) * ((2 * q) / (1 + q * q)) = 1 := by
  have h := sq_nonneg q
  have u0 : (1 + q * q) ≠ 0 := by grind
  refine ⟨u0, ?_⟩
  have e1 : (1 - q * q) / (1 + q * q) * (1 + q * q) = 1 - q * q := Rat.div_mul_cancel u0
  have e2 : (2 * q) / (1 + q * q) * (1 + q * q) = 2 * q := Rat.div_mul_cancel u0
  generalize (1 - q * q) / (1 + q * q) = c at e1 ⊢
  generalize (2 * q) / (1 + q * q) = s at e2 ⊢
  have z : ((1 + q * q) * (1 + q * q)) * (c * c + s * s - 1) = 0 := by
    have f1 : (c * (1 + q * q)) * (c * (1 + q * q)) = (1 - q * q) * (1 - q * q) := by rw [e1]
    have f2 : (s * (1 + q * q)) * (s * (1 + q * q)) = (2 * q) * (2 * q) := by rw [e2]
    grind
  have u1 : (1 + q * q) * (1 + q * q) ≠ 0 := fun w => (Rat.mul_eq_zero.mp w).elim u0 u0
  have := (Rat.mul_eq_zero.mp z).resolve_left u1
  grind
theorem divInt_pos' {a b : Int} (ha : 0 < a) (hb : 0 < b) : 0 < Rat.divInt a b := by
  rw [Rat.divInt_eq_div, Rat.div_def]
  exact Rat.mul_pos (Rat.intCast_pos.mpr ha) (Rat.inv_pos.mpr (Rat.intCast_pos.mpr hb))
/-- a frame at turns -/
theorem frame_of {s t o p c e c' e' : Rat} (s0 : 0 < s) (st : s < t) (h1 : c * c + e * e = 1) (h2 : c' * c' + e' * e' = 1) : Frame s t o p (o + s * c) (p + s * e) (o + t * c') (p + t * e') := by
  refine ⟨s0, st, ?_, ?_⟩
  · unfold far2
    have : (s * c) * (s * c) + (s * e) * (s * e) = s * s * (c * c + e * e) := by grind
    grind
  · unfold far2
    have : (t * c') * (t * c') + (t * e') * (t * e') = t * t * (c' * c' + e' * e') := by grind
    grind
theorem on_line {a b u v k l : Rat} : ((a + k * u) - a) * ((b + l * v) - b) - ((b + k * v) - b) * ((a + l * u) - a) = 0 := by grind
theorem moved_off {a b u v k : Rat} (h : u * u + v * v = 1) (k0 : 0 < k) : a ≠ a + k * u ∨ b ≠ b + k * v := by
  refine Classical.byContradiction fun z => ?_
  have z1 : a = a + k * u := Classical.byContradiction fun w => z (.inl w)
  have z2 : b = b + k * v := Classical.byContradiction fun w => z (.inr w)
  have y1 : k * u = 0 := by grind
  have y2 : k * v = 0 := by grind
  have kk : k ≠ 0 := by grind
  have x1 := (Rat.mul_eq_zero.mp y1).resolve_left kk
  have x2 := (Rat.mul_eq_zero.mp y2).resolve_left kk
  rw [x1, x2] at h
  grind
end Ty
namespace Ty
open PySem PySem.Spec PyProof.Rows L2
/-! ### what a value is: a number or a point, of so many bits -/
/-- v is the number x, of m bits -/
def Nz (H : Hp) (v : V) (m : Nat) (x : Rat) : Prop := 0 < m ∧ (∃ d, Is H v d ∧ isNum d = true ∧ rt d = x) ∧ Sz m x
/-- v is the point x, y, of m bits -/
def Pm (H : Hp) (v : V) (m : Nat) (x y : Rat) : Prop := 0 < m ∧ (∃ d, Is H v d ∧ Pt d x y) ∧ Sz m x ∧ Sz m y
section
variable {H H' H1 : Hp} {Q : VK} {E : XK} {u v t q : V} {m n l : Nat} {x y z w r : Rat}
theorem Nz.up (h : Nz H v m x) (s : Same H H') : Nz H' v m x := by
  obtain ⟨h1, ⟨d, h2, h3, h4⟩, h5⟩ := h
  exact ⟨h1, ⟨d, h2.up s, h3, h4⟩, h5⟩
theorem Pm.up (h : Pm H v m x y) (s : Same H H') : Pm H' v m x y := by
  obtain ⟨h1, ⟨d, h2, h3⟩, h5⟩ := h
  exact ⟨h1, ⟨d, h2.up s, h3⟩, h5⟩
theorem Nz.more (h : Nz H v m x) (l : m ≤ n) : Nz H v n x := ⟨Nat.lt_of_lt_of_le h.1 l, h.2.1, h.2.2.more l⟩
theorem Pm.more (h : Pm H v m x y) (l : m ≤ n) : Pm H v n x y := ⟨Nat.lt_of_lt_of_le h.1 l, h.2.1, h.2.2.1.more l, h.2.2.2.more l⟩
theorem Nz.nm (h : Nz H v m x) : Nm H v x := h.2.1
theorem Is.nz (h : Is H v (ofR x)) (m0 : 0 < m) (s : Sz m x) : Nz H v m x := ⟨m0, h.nm, s⟩
theorem Is.pm (h : Is H v (pt x y)) (m0 : 0 < m) (s1 : Sz m x) (s2 : Sz m y) : Pm H v m x y := ⟨m0, ⟨_, h, pt_pt⟩, s1, s2⟩
theorem nz_int {i : Int} (m0 : 0 < m) (h : i.natAbs < 2 ^ m) : Nz H (.int i) m (i : Rat) := ⟨m0, ⟨.int i, .int i, rfl, rt_int i⟩, sz_int h m0⟩
theorem nz_one : Nz H (.int 1) 1 1 := nz_int (i := 1) (by decide) (by decide)
theorem nz_two : Nz H (.int 2) 2 2 := nz_int (i := 2) (by decide) (by decide)
theorem nz_neg1 : Nz H (.int (-1)) 1 (-1) := nz_int (i := -1) (by decide) (by decide)
theorem nz_half {p : Addr} (h : H p = some (.tup [.int 1, .int 2])) : Nz H (.ref p) 2 (Rat.divInt 1 2) := ⟨by decide, ⟨.tup [.int 1, .int 2], .tup h (.cons (.int 1) (.cons (.int 2) .nil)), by decide, rfl⟩, sz_low (by decide) (by decide) (by decide)⟩
theorem New.nz {H H1 : Hp} (h : New H H1 v (ofR x)) (m0 : 0 < m) (s : Sz m x) : Nz H1 v m x := h.is.nz m0 s
theorem New.pm {H H1 : Hp} (h : New H H1 v (Ty.pt x y)) (m0 : 0 < m) (s1 : Sz m x) (s2 : Sz m y) : Pm H1 v m x y := h.is.pm m0 s1 s2
theorem New.tup1' {p : Addr} {d : Da} (s : Same H H1) (hp : H1 p = none) (a : New H H1 v d) : New H (upd H1 p (.tup [v])) (.ref p) (.tup [d]) := fun S l =>
  .tup (mn_put (l.more s) hp) (.cons ((a S l).up (Same.less (Same.new hp))) .nil)
theorem New.tup2' {p : Addr} {d e : Da} (s : Same H H1) (hp : H1 p = none) (a : New H H1 v d) (b : New H H1 u e) : New H (upd H1 p (.tup [v, u])) (.ref p) (.tup [d, e]) := fun S l =>
  .tup (mn_put (l.more s) hp) (.cons ((a S l).up (Same.less (Same.new hp))) (.cons ((b S l).up (Same.less (Same.new hp))) .nil))
/-- an item of a point -/
theorem Pm.fst {K : PySem.W.Frag} (p : Pm H v m x y) (k : ∀ w, Nz H w m x → Q w H) : rIxL K v (.int 0) H Q ∨ rIxT K v (.int 0) H Q := by
  obtain ⟨m0, ⟨d, hd, pd⟩, s1, s2⟩ := p
  exact pd.fst hd fun w hw => k w ⟨m0, hw, s1⟩
theorem Pm.snd {K : PySem.W.Frag} (p : Pm H v m x y) (k : ∀ w, Nz H w m y → Q w H) : rIxL K v (.int 1) H Q ∨ rIxT K v (.int 1) H Q := by
  obtain ⟨m0, ⟨d, hd, pd⟩, s1, s2⟩ := p
  exact pd.snd hd fun w hw => k w ⟨m0, hw, s2⟩
/-! calls of the package's defs -/
theorem on_need {p : V} {C : Addr} {R : Hp → Prop} (h : Pm H v m x y) (k : ∀ H', Same H H' → R H') : ∃ v' p' d, [v, p] = [v', p'] ∧ Is H v' d ∧ (isPt d = true → ∀ H', Same H H' → R H') ∧ (isPt d = false → Out1 C "part" p' H E) := by
  obtain ⟨m0, ⟨d, hd, pd⟩, s1, s2⟩ := h
  exact ⟨v, p, d, rfl, hd, fun _ => k, fun z => by rw [pd.ok] at z; cases z⟩
theorem on_needS {p : V} {C : Addr} {R : Hp → Prop} (h : Nz H v m x) (b : m ≤ 8900) (p0 : 0 < x) (k : ∀ H', Same H H' → R H') : ∃ v' p' d, [v, p] = [v', p'] ∧ Is H v' d ∧ (isNum d = true → NB 8900 d) ∧ (posD d = true → ∀ H', Same H H' → R H') ∧ (posD d = false → Out1 C "part" p' H E) := by
  obtain ⟨m0, ⟨d, hd, nd, rfl⟩, s1⟩ := h
  exact ⟨v, p, d, rfl, hd, fun _ => Sz.nb nd (s1.more b), fun _ => k, fun z => by rw [posD_of nd p0] at z; cases z⟩
theorem on_way (hu : Pm H u m x y) (hv : Pm H v n z w) (b : m + n ≤ 8900) (k : ∀ r H', Same H H' → New H H' r (pt (z - x) (w - y)) → Pm H' r (m + n + 1) (z - x) (w - y) → Q r H') : spPP (fun x y z w => z - x) (fun x y z w => w - y) [u, v] H Q E0 := by
  obtain ⟨m0, ⟨d, hd, pd⟩, s1, s2⟩ := hu
  obtain ⟨n0, ⟨e, he, pe⟩, t1, t2⟩ := hv
  exact ⟨u, v, d, e, x, y, z, w, m, n, rfl, hd, he, pd, pe, ⟨m0, n0, by omega, s1, s2, t1, t2⟩, fun r H' s nw => k r H' s nw (nw.pm (by omega) ((t1.sub s1).more (by omega)) ((t2.sub s2).more (by omega)))⟩
theorem on_plus (hu : Pm H u m x y) (hv : Pm H v n z w) (b : m + n ≤ 8900) (k : ∀ r H', Same H H' → New H H' r (pt (x + z) (y + w)) → Pm H' r (m + n + 1) (x + z) (y + w) → Q r H') : spPP (fun x y z w => x + z) (fun x y z w => y + w) [u, v] H Q E0 := by
  obtain ⟨m0, ⟨d, hd, pd⟩, s1, s2⟩ := hu
  obtain ⟨n0, ⟨e, he, pe⟩, t1, t2⟩ := hv
  exact ⟨u, v, d, e, x, y, z, w, m, n, rfl, hd, he, pd, pe, ⟨m0, n0, by omega, s1, s2, t1, t2⟩, fun r H' s nw => k r H' s nw (nw.pm (by omega) (s1.add t1) (s2.add t2))⟩
theorem on_dot (hu : Pm H u m x y) (hv : Pm H v n z w) (b : 2 * (m + n) ≤ 8900) (k : ∀ r H', Same H H' → New H H' r (ofR (x * z + y * w)) → Nz H' r (2 * (m + n) + 1) (x * z + y * w) → Q r H') : spPN (fun x y z w => x * z + y * w) [u, v] H Q E0 := by
  obtain ⟨m0, ⟨d, hd, pd⟩, s1, s2⟩ := hu
  obtain ⟨n0, ⟨e, he, pe⟩, t1, t2⟩ := hv
  exact ⟨u, v, d, e, x, y, z, w, m, n, rfl, hd, he, pd, pe, ⟨m0, n0, by omega, s1, s2, t1, t2⟩, fun r H' s nw => k r H' s nw (nw.nz (by omega) (((s1.mul t1).add (s2.mul t2)).more (by omega)))⟩
theorem on_cross (hu : Pm H u m x y) (hv : Pm H v n z w) (b : 2 * (m + n) ≤ 8900) (k : ∀ r H', Same H H' → New H H' r (ofR (x * w - y * z)) → Nz H' r (2 * (m + n) + 1) (x * w - y * z) → Q r H') : spPN (fun x y z w => x * w - y * z) [u, v] H Q E0 := by
  obtain ⟨m0, ⟨d, hd, pd⟩, s1, s2⟩ := hu
  obtain ⟨n0, ⟨e, he, pe⟩, t1, t2⟩ := hv
  exact ⟨u, v, d, e, x, y, z, w, m, n, rfl, hd, he, pd, pe, ⟨m0, n0, by omega, s1, s2, t1, t2⟩, fun r H' s nw => k r H' s nw (nw.nz (by omega) (((s1.mul t2).sub (s2.mul t1)).more (by omega)))⟩
theorem on_far (hu : Pm H u m x y) (hv : Pm H v n z w) (b : 4 * (m + n + 1) ≤ 8900) (k : ∀ r H', Same H H' → New H H' r (ofR (far2 x y z w)) → Nz H' r (4 * (m + n + 1) + 1) (far2 x y z w) → Q r H') : spFar [u, v] H Q E0 := by
  obtain ⟨m0, ⟨d, hd, pd⟩, s1, s2⟩ := hu
  obtain ⟨n0, ⟨e, he, pe⟩, t1, t2⟩ := hv
  refine ⟨u, v, d, e, x, y, z, w, m, n, rfl, hd, he, pd, pe, ⟨m0, n0, by omega, s1, s2, t1, t2⟩, fun r H' s nw => k r H' s nw (nw.nz (by omega) ?_)⟩
  have a1 : Sz (m + n + 1) (z - x) := (t1.sub s1).more (by omega)
  have a2 : Sz (m + n + 1) (w - y) := (t2.sub s2).more (by omega)
  exact ((a1.mul a1).add (a2.mul a2)).more (by omega)
theorem on_goneon (hu : Pm H u m x y) (hv : Pm H v n z w) (ht : Nz H t l r) (b : 2 * m + n + l + 2 ≤ 8900) (k : ∀ q H', Same H H' → New H H' q (pt (x + r * (z - x)) (y + r * (w - y))) → Pm H' q (2 * m + n + l + 2) (x + r * (z - x)) (y + r * (w - y)) → Q q H') : spGoneOn [u, v, t] H Q E0 := by
  obtain ⟨m0, ⟨d, hd, pd⟩, s1, s2⟩ := hu
  obtain ⟨n0, ⟨e, he, pe⟩, t1, t2⟩ := hv
  obtain ⟨l0, ⟨f, hf, nf, rfl⟩, f1⟩ := ht
  exact ⟨u, v, t, d, e, f, x, y, z, w, m, n, l, rfl, hd, he, hf, pd, pe, nf, ⟨m0, n0, l0, b, s1, s2, t1, t2, f1⟩, fun q H' s nw => k q H' s nw (nw.pm (by omega) ((s1.add (f1.mul (t1.sub s1))).more (by omega)) ((s2.add (f1.mul (t2.sub s2))).more (by omega)))⟩
theorem on_goneR (hu : Pm H u m x y) (hv : Pm H v n z w) (ht : Nz H t l r) (b : m + n + l ≤ 8900) (k : ∀ q H', Same H H' → New H H' q (pt (x + r * z) (y + r * w)) → Pm H' q (m + n + l + 1) (x + r * z) (y + r * w) → Q q H') : spGoneR [u, v, t] H Q E0 := by
  obtain ⟨m0, ⟨d, hd, pd⟩, s1, s2⟩ := hu
  obtain ⟨n0, ⟨e, he, pe⟩, t1, t2⟩ := hv
  obtain ⟨l0, ⟨f, hf, nf, rfl⟩, f1⟩ := ht
  exact ⟨u, v, t, d, e, f, x, y, z, w, m, n, l, rfl, hd, he, hf, pd, pe, nf, ⟨m0, n0, l0, by omega, s1, s2, t1, t2, f1⟩, fun q H' s nw => k q H' s nw (nw.pm (by omega) ((s1.add (f1.mul t1)).more (by omega)) ((s2.add (f1.mul t2)).more (by omega)))⟩
theorem Nz.fit (hu : Nz H u m x) (hv : Nz H v n z) (b : m + n ≤ 8900) : FitQ x z := ⟨m, n, hu.1, hv.1, b, hu.2.2, hv.2.2⟩
theorem on_quotN (hu : Nz H u m x) (hv : Nz H v n z) (b : m + n ≤ 8900) (h0 : z ≠ 0) (k : ∀ w H', Same H H' → New H H' w (ofR (x / z)) → Nz H' w (m + n) (x / z) → Q w H') : spOn2 (fun _ e => above e ≠ 0) fQuot [u, v] H Q E0 :=
  on_quot hu.nm hv.nm (hu.fit hv b) h0 fun w H' s nw => k w H' s nw (nw.nz (by have := hu.1; omega) (hu.2.2.div hv.2.2 h0))
theorem on_prodN (hu : Nz H u m x) (hv : Nz H v n z) (b : m + n ≤ 8900) (k : ∀ w H', Same H H' → New H H' w (ofR (x * z)) → Nz H' w (m + n) (x * z) → Q w H') : spOn2 CT fProd [u, v] H Q E0 :=
  on_prod hu.nm hv.nm (hu.fit hv b) fun w H' s nw => k w H' s nw (nw.nz (by have := hu.1; omega) (hu.2.2.mul hv.2.2))
theorem on_lessN (hu : Nz H u m x) (hv : Nz H v n z) (b : m + n ≤ 8900) (k : ∀ H', Same H H' → Q (.bl (decide (x < z))) H') : spOn2 CT fLess [u, v] H Q E0 := on_less hu.nm hv.nm (hu.fit hv b) k
theorem on_left (hu : Is H u (pt x y)) (m0 : 0 < m) (b : m ≤ 8000) (s1 : Sz m x) (s2 : Sz m y) (k : ∀ r H', Same H H' → New H H' r (pt (-y) x) → Pm H' r m (-y) x → Q r H') : spPQ (fun x y => -y) (fun x y => x) [u] H Q E0 :=
  ⟨u, x, y, m, rfl, hu, ⟨m0, b, s1, s2⟩, fun r H' s nw => k r H' s nw (nw.pm m0 s2.neg s1)⟩
/-! calls of the law's own defs -/
theorem on_radd (hu : Nz H u m x) (hv : Nz H v n z) (b : m + n ≤ 8900) (k : ∀ w H', Same H H' → New H H' w (ofR (x + z)) → Nz H' w (m + n + 1) (x + z) → Q w H') : spRat2 (· + ·) [u, v] H Q E0 :=
  on_rat2 (f := (· + ·)) hu.nm hv.nm (hu.fit hv b) fun w H' s nw => k w H' s nw (nw.nz (by omega) (hu.2.2.add hv.2.2))
theorem on_rsub (hu : Nz H u m x) (hv : Nz H v n z) (b : m + n ≤ 8900) (k : ∀ w H', Same H H' → New H H' w (ofR (x - z)) → Nz H' w (m + n + 1) (x - z) → Q w H') : spRat2 (· - ·) [u, v] H Q E0 :=
  on_rat2 (f := (· - ·)) hu.nm hv.nm (hu.fit hv b) fun w H' s nw => k w H' s nw (nw.nz (by omega) (hu.2.2.sub hv.2.2))
theorem on_rmul (hu : Nz H u m x) (hv : Nz H v n z) (b : m + n ≤ 8900) (k : ∀ w H', Same H H' → New H H' w (ofR (x * z)) → Nz H' w (m + n) (x * z) → Q w H') : spRat2 (· * ·) [u, v] H Q E0 :=
  on_rat2 (f := (· * ·)) hu.nm hv.nm (hu.fit hv b) fun w H' s nw => k w H' s nw (nw.nz (by have := hu.1; omega) (hu.2.2.mul hv.2.2))
end
/-- one number divided by another one -/
def spPartR : Sp := fun vs H Q _ => ∃ u v d e, vs = [u, v] ∧ Is H u d ∧ Is H v e ∧ isNum d = true ∧ isNum e = true ∧ Fit d e ∧ rt e ≠ 0 ∧ ∀ w H', Same H H' → New H H' w (ofR (rt d / rt e)) → Q w H'
/-- a / b in its one form, b not 0 -/
def spFormR : Sp := fun vs H Q _ => ∃ a b : Int, vs = [.int a, .int b] ∧ b ≠ 0 ∧ b.natAbs < 2 ^ 8900 ∧ ∀ v H', Same H H' → New H H' v (ofR (Rat.divInt a b)) → Q v H'
theorem on_rpart {H : Hp} {Q : VK} {u v : V} {m n : Nat} {x z : Rat} (hu : Nz H u m x) (hv : Nz H v n z) (b : m + n ≤ 8900) (h0 : z ≠ 0) (k : ∀ w H', Same H H' → New H H' w (ofR (x / z)) → Nz H' w (m + n) (x / z) → Q w H') : spPartR [u, v] H Q E0 := by
  have f := hu.fit hv b
  obtain ⟨m0, ⟨d, hd, nd, rfl⟩, s1⟩ := hu
  obtain ⟨n0, ⟨e, he, ne, rfl⟩, s2⟩ := hv
  exact ⟨u, v, d, e, rfl, hd, he, nd, ne, f.fit nd ne, h0, fun w H' s nw => k w H' s nw (nw.nz (by omega) (s1.div s2 h0))⟩
/-- by the common divisor, whatever the sign below -/
theorem form_pos {a b : Int} (hb : b ≠ 0) : ((Nat.gcd a.natAbs b.natAbs : Nat) : Int) ≠ 0 ∧ ((Nat.gcd a.natAbs b.natAbs : Nat) : Int).natAbs ≤ b.natAbs ∧
    ((0 < b.fdiv ((Nat.gcd a.natAbs b.natAbs : Nat) : Int) ∧ frac (a.fdiv ((Nat.gcd a.natAbs b.natAbs : Nat) : Int)) (b.fdiv ((Nat.gcd a.natAbs b.natAbs : Nat) : Int)) = ofR (Rat.divInt a b)) ∨
     (b.fdiv ((Nat.gcd a.natAbs b.natAbs : Nat) : Int) < 0 ∧ frac (-(a.fdiv ((Nat.gcd a.natAbs b.natAbs : Nat) : Int))) (-(b.fdiv ((Nat.gcd a.natAbs b.natAbs : Nat) : Int))) = ofR (Rat.divInt a b))) := by
  have dv : ∀ (i : Int) (g : Int), g ≠ 0 → g ∣ i → (-i).fdiv g = -(i.fdiv g) := fun i g g0 ⟨k, hk⟩ => by
    rw [hk, ← Int.mul_neg, Int.mul_fdiv_cancel_left _ g0, Int.mul_fdiv_cancel_left _ g0]
  have ga : ((Nat.gcd a.natAbs b.natAbs : Nat) : Int) ∣ a := Int.ofNat_dvd_left.mpr (Nat.gcd_dvd_left _ _)
  have gb : ((Nat.gcd a.natAbs b.natAbs : Nat) : Int) ∣ b := Int.ofNat_dvd_left.mpr (Nat.gcd_dvd_right _ _)
  have gp : (0 : Int) < ((Nat.gcd a.natAbs b.natAbs : Nat) : Int) := by
    have := Nat.gcd_pos_of_pos_right a.natAbs (show 0 < b.natAbs by omega)
    omega
  by_cases h : 0 < b
  · obtain ⟨h1, h2, h3⟩ := low_pos (a := a) h
    refine ⟨h1, h2, .inl ⟨?_, h3⟩⟩
    obtain ⟨k, hk⟩ := gb
    generalize ((Nat.gcd a.natAbs b.natAbs : Nat) : Int) = g at *
    rw [hk, Int.mul_fdiv_cancel_left _ h1]
    rw [hk] at h
    exact Int.pos_of_mul_pos_right h (by omega)
  · have h' : 0 < -b := by omega
    obtain ⟨h1, h2, h3⟩ := low_pos (a := -a) h'
    rw [Int.natAbs_neg, Int.natAbs_neg] at h1 h2 h3
    rw [dv a _ h1 ga, dv b _ h1 gb, show Rat.divInt (-a) (-b) = Rat.divInt a b from Rat.neg_divInt_neg a b] at h3
    refine ⟨h1, h2, .inr ⟨?_, h3⟩⟩
    obtain ⟨k, hk⟩ := gb
    generalize ((Nat.gcd a.natAbs b.natAbs : Nat) : Int) = g at *
    rw [hk, Int.mul_fdiv_cancel_left _ h1]
    rw [hk, ← Int.mul_neg] at h'
    have := Int.pos_of_mul_pos_right h' (by omega)
    omega
/-! promises of frames -/
def spMirror : Sp := fun vs H Q _ => ∃ u v t x y a b c d m n, vs = [u, v, t] ∧ Pm H u m x y ∧ Pm H v n a b ∧ Pm H t n c d ∧ (a ≠ c ∨ b ≠ d) ∧ 4 * m + 17 * n + 16 ≤ 8900 ∧
  ∀ r H', Same H H' → New H H' r (pt (mir1 x y a b c d) (mir2 x y a b c d)) → Pm H' r (4 * m + 17 * n + 16) (mir1 x y a b c d) (mir2 x y a b c d) → Q r H'
def spPar : Sp := fun vs H Q _ => ∃ u v t o p a b c d n, vs = [u, v, t] ∧ Pm H u n o p ∧ Pm H v n a b ∧ Pm H t n c d ∧ 3 * n + 2 ≤ 8900 ∧
  ∀ r H', Same H H' → New H H' r (pt (a + (c - o)) (b + (d - p))) → Pm H' r (3 * n + 2) (a + (c - o)) (b + (d - p)) → Q r H'
def spFlat : Sp := fun vs H Q _ => ∃ u v t o p a b c d n, vs = [u, v, t] ∧ Pm H u n o p ∧ Pm H v n a b ∧ Pm H t n c d ∧ (o ≠ c ∨ p ≠ d) ∧ 8 * n + 5 ≤ 8000 ∧
  ∀ H', Same H H' → Q (.bl (decide (flatQ o p a b c d = 0))) H'
/-- the corners -/
def crn (o p a b c d : Rat) : Da := if decide (flatQ o p a b c d = 0) = true then .tup [pt (a + (c - o)) (b + (d - p))] else
  .tup [pt (a + (c - o)) (b + (d - p)), pt (mir1 (a + (c - o)) (b + (d - p)) a b c d) (mir2 (a + (c - o)) (b + (d - p)) a b c d)]
def spCorners : Sp := fun vs H Q _ => ∃ us ut u v w s t o p a b c d n, vs = [us, ut, u, v, w] ∧ Nz H us n s ∧ Nz H ut n t ∧ Pm H u n o p ∧ Pm H v n a b ∧ Pm H w n c d ∧ Frame s t o p a b c d ∧ 29 * n + 24 ≤ 8900 ∧
  ∀ r H', Same H H' → New H H' r (crn o p a b c d) → Q r H'
/-- whether one point is told to be another one mirrored -/
def spIsMir : Sp := fun vs H Q _ => ∃ u q v t x y a b c d m l n, vs = [u, q, v, t] ∧ Pm H u m x y ∧ Pm H q l (mir1 x y a b c d) (mir2 x y a b c d) ∧ Pm H v n a b ∧ Pm H t n c d ∧ (a ≠ c ∨ b ≠ d) ∧ 6 * n + 4 * m + 2 * l + 13 ≤ 8900 ∧
  ∀ H', Same H H' → Q (.bl true) H'
/-! ### drawing -/
def spDraw (c : Nat) (P : Da → Prop) : Sp := fun vs H Q _ => ∃ (S : Addr → Bool) (j bk : Addr) (n : Nat), vs = [.ref j] ∧ S j = true ∧ Live S H ∧ Jar j bk H n ∧ n + c ≤ 100000 ∧
  ∀ v d H', Keep j H H' → Live S H' → Jar j bk H' (n + c) → Is (mn S H') v d → P d → Q v H'
/-- a point with lists or without -/
def spListed : Sp := fun vs H Q _ => ∃ (S : Addr → Bool) (j bk : Addr) (n : Nat) (v : V) (x y : Rat), vs = [.ref j, v] ∧ S j = true ∧ Live S H ∧ Jar j bk H n ∧ n + 1 ≤ 100000 ∧ Is (mn S H) v (pt x y) ∧
  ∀ w f H', Keep j H H' → Live S H' → Jar j bk H' (n + 1) → Is (mn S H') w f → Pt f x y → Q w H'
section
variable {S : Addr → Bool} {j bk : Addr} {H0 H : Hp} {c c1 c2 n : Nat} {σ : L2.St} {te ta tb : TE}
theorem dr_formR {Pa Pb : Int → Prop} (ha : Dr S j bk H0 c1 σ ta (fun d => ∃ i, d = .int i ∧ Pa i)) (hb : Dr S j bk H0 c2 σ tb (fun d => ∃ i, d = .int i ∧ Pb i)) (hp : ∀ b, Pb b → b ≠ 0 ∧ b.natAbs < 2 ^ 8900) :
    Dr S j bk H0 (c1 + c2) σ (tCall spFormR [] E0 (tCons ta (tCons tb tNil))) (fun d => ∃ a b, Pa a ∧ Pb b ∧ d = ofR (Rat.divInt a b)) := fun H n Q kp lv J hn k =>
  ha H n _ kp lv J (by omega) fun v d H1 k1 l1 J1 h1 p1 => hb H1 (n + c1) _ (kp.trans k1) l1 J1 (by omega) fun u e H2 k2 l2 J2 h2 p2 => by
    obtain ⟨a, rfl, pa⟩ := p1
    obtain ⟨b, rfl, pb⟩ := p2
    cases h1
    cases h2
    exact ⟨a, b, rfl, (hp b pb).1, (hp b pb).2, fun w H3 s3 n3 => k w _ H3 ((k1.trans k2).trans (Same.keep s3)) (l2.more s3) ((by rwa [Nat.add_assoc] at J2 : Jar j bk H2 (n + (c1 + c2))).up s3) (n3 S l2) ⟨a, b, pa, pb, rfl⟩⟩
theorem dr_draw {i : Nat} {P : Da → Prop} (hS : S j = true) (h : σ[i]? = some (some (.ref j))) : Dr S j bk H0 c σ (tCall (spDraw c P) [] E0 (tCons (tVar i) tNil)) P := fun H n Q kp lv J hn k =>
  ⟨_, h, S, j, bk, n, rfl, hS, lv, J, hn, k⟩
theorem dr_listed {i l : Nat} {v : V} {x y : Rat} (hS : S j = true) (h : σ[i]? = some (some (.ref j))) (h2 : σ[l]? = some (some v)) (hv : Is (mn S H0) v (pt x y)) : Dr S j bk H0 1 σ (tCall spListed [] E0 (tCons (tVar i) (tCons (tVar l) tNil))) (fun f => Pt f x y) := fun H n Q kp lv J hn k =>
  ⟨_, h, _, h2, S, j, bk, n, v, x, y, rfl, hS, lv, J, hn, hv.up (kp.less hS), k⟩
/-- what does not draw -/
theorem dr_of {d : Da} (h : ∀ H Q, Keep j H0 H → Live S H → (∀ w H', Same H H' → New H H' w d → Q w H') → te σ H Q) : Dr S j bk H0 0 σ te (· = d) := fun H n Q kp lv J hn k =>
  h H Q kp lv fun w H' s nw => k w d H' (Same.keep s) (lv.more s) (J.up s) (nw S lv) rfl
end
/-- what is drawn -/
def numP (d : Da) : Prop := ∃ q, d = ofR q ∧ Sz 3 q
def turnP (d : Da) : Prop := ∃ c s, d = pt c s ∧ c * c + s * s = 1 ∧ Sz 16 c ∧ Sz 16 s
def pointP (d : Da) : Prop := ∃ x y, d = pt x y ∧ Sz 3 x ∧ Sz 3 y
def openP (d : Da) : Prop := ∃ s t o p a b c e, d = .tup [ofR s, ofR t, pt o p, pt a b, pt c e] ∧ Frame s t o p a b c e ∧ (Sz 28 s ∧ Sz 28 t ∧ Sz 28 o ∧ Sz 28 p ∧ Sz 28 a ∧ Sz 28 b ∧ Sz 28 c ∧ Sz 28 e)
theorem pt_ints {a b : Int} : Da.tup [.int a, .int b] = pt (a : Rat) (b : Rat) := by
  unfold pt
  rw [ofR_int, ofR_int]
/-- a point told by lists or tuples: its two numbers -/
def ptOf (d : Da) : Rat × Rat := (rt ((items d).getD 0 .non), rt ((items d).getD 1 .non))
theorem Pt.of {d : Da} {x y : Rat} (h : Pt d x y) : ptOf d = (x, y) := by
  obtain ⟨s, a, b, e, h1, h2, h3, h4⟩ := h
  unfold ptOf
  rw [e]
  show (rt a, rt b) = (x, y)
  rw [h3, h4]
theorem Pt.at {d : Da} (h : isPt d = true) : Pt d (ptOf d).1 (ptOf d).2 := by
  have h' : (isS d && isTwo (items d)) = true := h
  rw [Bool.and_eq_true] at h'
  obtain ⟨a, b, e, ha, hb⟩ : ∃ a b, items d = [a, b] ∧ isNum a = true ∧ isNum b = true := by
    generalize items d = l at h'
    match l, h'.2 with
    | [a, b], z =>
      have z' : (isNum a && isNum b) = true := z
      rw [Bool.and_eq_true] at z'
      exact ⟨a, b, rfl, z'.1, z'.2⟩
  refine ⟨h'.1, a, b, e, ha, hb, ?_, ?_⟩
  · unfold ptOf; rw [e]; rfl
  · unfold ptOf; rw [e]; rfl
/-- points can be shown -/
theorem pt_show {d : Da} {x y : Rat} (h : Pt d x y) (s1 : Sz 1900 x) (s2 : Sz 1900 y) : nums d = true ∧ dp d ≤ 2 ∧ wt d ≤ 8014 := by
  obtain ⟨s, a, b, e, h1, h2, h3, h4⟩ := h
  have hn : ∀ e ∈ items d, isNum e = true := fun f hf => by
    rw [e] at hf
    rcases List.mem_cons.mp hf with rfl | hf
    · exact h1
    · rw [List.mem_singleton.mp hf]; exact h2
  have hb : ∀ e ∈ items d, NB 1900 e := fun f hf => by
    rw [e] at hf
    rcases List.mem_cons.mp hf with rfl | hf
    · exact Sz.nb h1 (h3 ▸ s1)
    · rw [List.mem_singleton.mp hf]; exact Sz.nb h2 (h4 ▸ s2)
  obtain ⟨a1, a2, a3⟩ := row_show s hn hb
  rw [e] at a3
  exact ⟨a1, a2, a3⟩
theorem pt_okr {d : Da} {x y : Rat} (h : Pt d x y) (s1 : Sz 1900 x) (s2 : Sz 1900 y) : okr d = true := by
  obtain ⟨h1, h2, h3⟩ := pt_show h s1 s2
  unfold okr
  rw [h1, decide_eq_true (by omega : dp d ≤ 60), decide_eq_true (by omega : wt d ≤ 16000000)]
  rfl
theorem pts_okr {d e f : Da} {x y z w u v : Rat} (h : Pt d x y) (s1 : Sz 1900 x) (s2 : Sz 1900 y) (h' : Pt e z w) (t1 : Sz 1900 z) (t2 : Sz 1900 w) (h'' : Pt f u v) (r1 : Sz 1900 u) (r2 : Sz 1900 v) : okr (.lst [d, e, f]) = true := by
  obtain ⟨a1, a2, a3⟩ := pt_show h s1 s2
  obtain ⟨b1, b2, b3⟩ := pt_show h' t1 t2
  obtain ⟨c1, c2, c3⟩ := pt_show h'' r1 r2
  have e1 : nums (.lst [d, e, f]) = true := by
    show (nums d && (nums e && (nums f && true))) = true
    rw [a1, b1, c1]
    rfl
  have e2 : dp (.lst [d, e, f]) ≤ 60 := by
    show max (dp d) (max (dp e) (max (dp f) 0)) + 1 ≤ 60
    omega
  have e3 : wt (.lst [d, e, f]) ≤ 16000000 := by
    show wt d + 2 + (wt e + 2 + (wt f + 2 + 0)) + 10 ≤ 16000000
    omega
  unfold okr
  rw [e1, decide_eq_true e2, decide_eq_true e3]
  rfl
theorem told_okr {d : Da} {x y : Rat} {i : Int} {b b' : Bool} (h : Pt d x y) (s1 : Sz 1900 x) (s2 : Sz 1900 y) (hi : i.natAbs < 2 ^ 1900) : okr (.lst [d, .int i, .bl b, .bl b']) = true := by
  obtain ⟨a1, a2, a3⟩ := pt_show h s1 s2
  obtain ⟨b1, b2, b3⟩ := num_show (d := .int i) rfl ⟨hi, by show (1 : Int).natAbs < 2 ^ 1900; exact Nat.one_lt_two_pow (by decide)⟩
  have e1 : nums (.lst [d, .int i, .bl b, .bl b']) = true := by
    show (nums d && (nums (.int i) && true)) = true
    rw [a1, b1]
    rfl
  have e2 : dp (.lst [d, .int i, .bl b, .bl b']) ≤ 60 := by
    show max (dp d) (max (dp (.int i)) (max 0 (max 0 0))) + 1 ≤ 60
    omega
  have e3 : wt (.lst [d, .int i, .bl b, .bl b']) ≤ 16000000 := by
    show wt d + 2 + (wt (.int i) + 2 + (10 + 2 + (10 + 2 + 0))) + 10 ≤ 16000000
    omega
  unfold okr
  rw [e1, decide_eq_true e2, decide_eq_true e3]
  rfl
/-! what is compared, in parts -/
section
variable {K : PySem.W.Frag} {H : Hp} {u v : V} {d e : Da} {x y z w : Rat}
theorem eq_num (hu : Is H u (ofR x)) (hv : Is H v (ofR z)) : ∃ d e, Dp K H u d ∧ Dp K H v e ∧ SeqAt.shaped d = true ∧ SeqAt.shaped e = true ∧ PyData.eqv d e = decide (x = z) := by
  obtain ⟨a1, a2⟩ := plain_num (ofR_num x)
  obtain ⟨b1, b2⟩ := plain_num (ofR_num z)
  exact ⟨_, _, Is.dpP _ u hu a1, Is.dpP _ v hv b1, shaped_plain a1 (by omega), shaped_plain b1 (by omega), eqv_ofR⟩
theorem eq_pnt (hu : Is H u (pt x y)) (hv : Is H v (pt z w)) : ∃ d e, Dp K H u d ∧ Dp K H v e ∧ SeqAt.shaped d = true ∧ SeqAt.shaped e = true ∧ PyData.eqv d e = decide (x = z ∧ y = w) := by
  obtain ⟨a1, a2⟩ := plain_pt (x := x) (y := y)
  obtain ⟨b1, b2⟩ := plain_pt (x := z) (y := w)
  exact ⟨_, _, Is.dpP _ u hu a1, Is.dpP _ v hv b1, shaped_plain a1 (by omega), shaped_plain b1 (by omega), eqv_pt⟩
theorem eq_same (hu : Is H u d) (hv : Is H v d) (h1 : plain d = true) (l1 : dp d ≤ 60) : ∃ d e, Dp K H u d ∧ Dp K H v e ∧ SeqAt.shaped d = true ∧ SeqAt.shaped e = true ∧ PyData.eqv d e = true :=
  ⟨_, _, Is.dpP _ u hu h1, Is.dpP _ v hv h1, shaped_plain h1 l1, shaped_plain h1 l1, (eqv_refl _ h1).1⟩
end
theorem plain_crn {o p a b c d : Rat} : plain (crn o p a b c d) = true ∧ dp (crn o p a b c d) ≤ 60 := by
  obtain ⟨a1, a2⟩ := plain_pt (x := a + (c - o)) (y := b + (d - p))
  obtain ⟨b1, b2⟩ := plain_pt (x := mir1 (a + (c - o)) (b + (d - p)) a b c d) (y := mir2 (a + (c - o)) (b + (d - p)) a b c d)
  unfold crn
  generalize pt (a + (c - o)) (b + (d - p)) = f at *
  generalize pt (mir1 (a + (c - o)) (b + (d - p)) a b c d) (mir2 (a + (c - o)) (b + (d - p)) a b c d) = g at *
  split
  · exact ⟨by show (plain f && true) = true; rw [a1]; rfl, by show max (dp f) 0 + 1 ≤ 60; omega⟩
  · exact ⟨by show (plain f && (plain g && true)) = true; rw [a1, b1]; rfl, by show max (dp f) (max (dp g) 0) + 1 ≤ 60; omega⟩
/-! a point's numbers as lists -/
def lsd : Da → Da
  | .tup l => .lst l
  | d => d
theorem lsd_num {q : Rat} : isNum (lsd (ofR q)) = true ∧ rt (lsd (ofR q)) = q := by
  have h := ofR_num q
  have r := rt_ofR q
  unfold ofR frac at h r ⊢
  split at h <;> split at r <;> first | (rename_i h1 h2; exact absurd h1 h2) | (rename_i h1 h2; exact absurd h2 h1) | skip
  · rename_i h1 h2
    rw [if_pos h1]
    exact ⟨h, r⟩
  · rename_i h1 h2
    rw [if_neg h1]
    exact ⟨h, r⟩
theorem pt_lsd {x y : Rat} : Pt (.lst ((List.range 2).map fun m => lsd ([ofR x, ofR y].getD m .non))) x y :=
  ⟨rfl, _, _, rfl, (lsd_num (q := x)).1, (lsd_num (q := y)).1, (lsd_num (q := x)).2, (lsd_num (q := y)).2⟩
/-- list(x), told without the place where it is called -/
def rListOf (K : PySem.W.Frag) : List V → Hp → VK → Prop := fun xs H Q => ∃ p ys, xs = [.ref p] ∧ (SqL K H p ys ∨ SqT K H p ys) ∧ ∀ l, H l = none → Q (.ref l) (upd H l (.lst ys))
theorem call_list_ofK {X : Cx} {K : PySem.W.Frag} (h : X.K = K) : CallR X (.type "list") (rListOf K) := by
  subst h
  exact call_list_of
/-! what corners are made of -/
theorem sz_mir {m n : Nat} {x y a b c d : Rat} (zx : Sz m x) (zy : Sz m y) (za : Sz n a) (zb : Sz n b) (zc : Sz n c) (zd : Sz n d) (ne : a ≠ c ∨ b ≠ d) : Sz (4 * m + 17 * n + 16) (mir1 x y a b c d) ∧ Sz (4 * m + 17 * n + 16) (mir2 x y a b c d) := by
  have a1 : Sz (m + n + 1) (x - a) := zx.sub za
  have b1 : Sz (m + n + 1) (y - b) := zy.sub zb
  have a2 : Sz (2 * n + 1) (c - a) := (zc.sub za).more (by omega)
  have b2 : Sz (2 * n + 1) (d - b) := (zd.sub zb).more (by omega)
  have num := (a1.mul a2).add (b1.mul b2)
  have den : Sz _ (far2 a b c d) := (a2.mul a2).add (b2.mul b2)
  have l : Sz (2 * m + 14 * n + 10) (shr a b c d x y) := (num.div den (far2_ne ne)).more (by omega)
  have two : Sz 2 (2 : Rat) := sz_int (i := 2) (by decide) (by decide)
  exact ⟨(zx.add (two.mul ((za.add (l.mul a2)).sub zx))).more (by omega), (zy.add (two.mul ((zb.add (l.mul b2)).sub zy))).more (by omega)⟩
section
variable {H : Hp} {v : V} {s t o p a b c d : Rat} {n : Nat}
theorem crn_tup : ∃ l, crn o p a b c d = .tup l := by
  unfold crn
  split
  · exact ⟨_, rfl⟩
  · exact ⟨_, rfl⟩
theorem crn_parts (h : Is H v (crn o p a b c d)) (fr : Frame s t o p a b c d) (n0 : 0 < n) (zo : Sz n o) (zp : Sz n p) (za : Sz n a) (zb : Sz n b) (zc : Sz n c) (zd : Sz n d) :
    ∃ (q : Addr) (ws : List V) (w1 : V), v = .ref q ∧ H q = some (.tup ws) ∧ ws[0]? = some w1 ∧ Is H w1 (pt (a + (c - o)) (b + (d - p))) ∧ (ws.length : Int) = 2 - (if decide (flatQ o p a b c d = 0) = true then 1 else 0) ∧
      (∀ (i : Nat) x, ws[i]? = some x → ∃ X Y, Pm H x (29 * n + 24) X Y ∧ far2 X Y c d = s * s ∧ far2 X Y a b = t * t) ∧
      (decide (flatQ o p a b c d = 0) = false → ∃ w2, ws[1]? = some w2 ∧ Is H w2 (pt (mir1 (a + (c - o)) (b + (d - p)) a b c d) (mir2 (a + (c - o)) (b + (d - p)) a b c d))) := by
  have z1 : Sz (3 * n + 2) (a + (c - o)) := (za.add (zc.sub zo)).more (by omega)
  have z2 : Sz (3 * n + 2) (b + (d - p)) := (zb.add (zd.sub zp)).more (by omega)
  obtain ⟨m1, m2⟩ := sz_mir z1 z2 za zb zc zd fr.apart
  have m1' : Sz (29 * n + 24) (mir1 (a + (c - o)) (b + (d - p)) a b c d) := m1.more (by omega)
  have m2' : Sz (29 * n + 24) (mir2 (a + (c - o)) (b + (d - p)) a b c d) := m2.more (by omega)
  have f1 := fr.par1
  have f2 := fr.par2
  have g1 := (mir_far2 (x := a + (c - o)) (y := b + (d - p)) fr.apart).trans f1
  have g2 := (mir_far1 (x := a + (c - o)) (y := b + (d - p)) fr.apart).trans f2
  unfold crn at h
  cases fl : decide (flatQ o p a b c d = 0) with
  | true =>
    rw [fl, if_pos rfl] at h
    cases h with
    | @tup q xs _ e hx =>
      cases hx with
      | @cons w1 _ _ _ h1 hx =>
        cases hx
        refine ⟨q, _, w1, rfl, e, rfl, h1, rfl, fun i x hi => ?_, fun z => by cases z⟩
        match i, hi with
        | 0, hi => cases hi; exact ⟨_, _, h1.pm (by omega) (z1.more (by omega)) (z2.more (by omega)), f1, f2⟩
  | false =>
    rw [fl, if_neg Bool.false_ne_true] at h
    cases h with
    | @tup q xs _ e hx =>
      cases hx with
      | @cons w1 _ _ _ h1 hx =>
        cases hx with
        | @cons w2 _ _ _ h2 hx =>
          cases hx
          refine ⟨q, _, w1, rfl, e, rfl, h1, rfl, fun i x hi => ?_, fun _ => ⟨w2, rfl, h2⟩⟩
          match i, hi with
          | 0, hi => cases hi; exact ⟨_, _, h1.pm (by omega) (z1.more (by omega)) (z2.more (by omega)), f1, f2⟩
          | 1, hi => cases hi; exact ⟨_, _, h2.pm (by omega) m1' m2', g1, g2⟩
end
end Ty

namespace Ty
open PySem PySem.Spec PyProof.Rows L2
/-! ### numbers that the top has written -/
/-- at a the top has written the pair i, j -/
def KTup (K : PySem.W.Frag) (a : Addr) (i j : Int) : Prop := ∃ (o : Obj) (its : Array Value) (n : Nat), K.lookup a = some o ∧ o.cls = .type "tuple" ∧ o.data = .seq its n ∧ its.size ≤ sizeLine ∧ Vals [.int i, .int j] its.toList
theorem ktup_of {K : PySem.W.Frag} {a : Addr} {i j : Int} {od : Option Addr} {t1 t2 : Tok} {n : Nat} {sl : Array (Option Value)} (h : K.lookup a = some ⟨.type "tuple", od, .seq #[.int i t1, .int j t2] n, sl⟩) : KTup K a i j :=
  ⟨_, _, _, h, rfl, rfl, by show 2 ≤ sizeLine; decide, .cons ⟨t1, rfl⟩ (.cons ⟨t2, rfl⟩ .nil)⟩
theorem KTup.sq {K : PySem.W.Frag} {a : Addr} {i j : Int} {H : Hp} (h : KTup K a i j) : SqT K H a [.int i, .int j] := by
  obtain ⟨o, its, n, h1, h2, h3, h4, h5⟩ := h
  exact .inr ⟨o, its, n, h1, h2, h3, h4, h5⟩
/-- v is d, made by the program or written by the top -/
def IsK (K : PySem.W.Frag) (H : Hp) (v : V) (d : Da) : Prop := Is H v d ∨ ∃ a i j, v = .ref a ∧ KTup K a i j ∧ d = .tup [.int i, .int j]
theorem IsK.up {K : PySem.W.Frag} {H H' : Hp} {v : V} {d : Da} (h : IsK K H v d) (s : Same H H') : IsK K H' v d := h.imp (fun h => h.up s) id
theorem call_isiIntK {X : Cx} {K : PySem.W.Frag} (hK : X.K = K) : CallR X (.builtin "isinstance") (fun xs H Q => ∃ x d, xs = [x, .ty "int"] ∧ IsK K H x d ∧ Q (.bl (isI d)) H) := by
  subst hK
  intro pins s σ H xs us Q I r h
  obtain ⟨x, d, rfl, h, q⟩ := h
  rcases h with h | ⟨a, i, j, rfl, ⟨o, its, n, h1, h2, h3, h4, h5⟩, rfl⟩
  · exact call_isi pins s σ H _ us Q I r (isi_int h q)
  · exact call_isi pins s σ H _ us Q I r ⟨.ref a, .ty "int", _, _, _, rfl, .ty "int", .kTuple h1 h2, kit_ty (kit_int (.tup [.int i, .int j])), q⟩
/-- a number made by the program or written by the top -/
theorem numK_cases {K : PySem.W.Frag} {H : Hp} {v : V} {d : Da} (h : IsK K H v d) (hn : isNum d = true) :
    (∃ i, v = .int i ∧ d = .int i) ∨ (∃ a i j, v = .ref a ∧ (SqT K H a [.int i, .int j] ∧ d = .tup [.int i, .int j] ∨ SqL K H a [.int i, .int j] ∧ d = .lst [.int i, .int j])) := by
  rcases h with h | ⟨a, i, j, rfl, h, rfl⟩
  · rcases num_cases h hn with ⟨i, rfl, rfl⟩ | ⟨a, i, j, rfl, ⟨ha, rfl⟩ | ⟨ha, rfl⟩, _, _⟩
    · exact .inl ⟨i, rfl, rfl⟩
    · exact .inr ⟨a, i, j, rfl, .inl ⟨.inl (.inl ha), rfl⟩⟩
    · exact .inr ⟨a, i, j, rfl, .inr ⟨.inl (.inl ha), rfl⟩⟩
  · exact .inr ⟨a, i, j, rfl, .inl ⟨h.sq, rfl⟩⟩
def spHalvesK (K : PySem.W.Frag) : Sp := fun vs H Q _ => ∃ v d, vs = [v] ∧ IsK K H v d ∧ isNum d = true ∧ ∀ H' p, Same H H' → H' p = some (.tup [.int (above d), .int (below d)]) → Q (.ref p) H'
/-- two numbers, the first one maybe written by the top -/
def spOnK (K : PySem.W.Frag) (C : Da → Da → Prop) (F : Da → Da → Da → Prop) : Sp := fun vs H Q _ => ∃ u v d e, vs = [u, v] ∧ IsK K H u d ∧ Is H v e ∧ isNum d = true ∧ isNum e = true ∧ Fit d e ∧ C d e ∧ ∀ w r H', Same H H' → New H H' w r → F d e r → Q w H'
def spPTimesK (K : PySem.W.Frag) : Sp := fun vs H Q _ => ∃ u v d e x y m n, vs = [u, v] ∧ Is H u d ∧ IsK K H v e ∧ Pt d x y ∧ isNum e = true ∧ (0 < m ∧ 0 < n ∧ m + n ≤ 8900 ∧ Sz m x ∧ Sz m y ∧ Sz n (rt e)) ∧
  ∀ r H', Same H H' → New H H' r (pt (rt e * x) (rt e * y)) → Q r H'
def spGoneOnK (K : PySem.W.Frag) : Sp := fun vs H Q _ => ∃ u v t d e f x y z w m n l, vs = [u, v, t] ∧ Is H u d ∧ Is H v e ∧ IsK K H t f ∧ Pt d x y ∧ Pt e z w ∧ isNum f = true ∧ (0 < m ∧ 0 < n ∧ 0 < l ∧ 2 * m + n + l + 2 ≤ 8900 ∧ Sz m x ∧ Sz m y ∧ Sz n z ∧ Sz n w ∧ Sz l (rt f)) ∧
  ∀ r H', Same H H' → New H H' r (pt (x + rt f * (z - x)) (y + rt f * (w - y))) → Q r H'
/-- v is the number x, of m bits, made or written -/
def NzK (K : PySem.W.Frag) (H : Hp) (v : V) (m : Nat) (x : Rat) : Prop := 0 < m ∧ (∃ d, IsK K H v d ∧ isNum d = true ∧ rt d = x) ∧ Sz m x
section
variable {K : PySem.W.Frag} {H H' H1 : Hp} {Q : VK} {u v t q : V} {m n l : Nat} {x y z w r : Rat}
theorem NzK.up (h : NzK K H v m x) (s : Same H H') : NzK K H' v m x := by
  obtain ⟨h1, ⟨d, h2, h3, h4⟩, h5⟩ := h
  exact ⟨h1, ⟨d, h2.up s, h3, h4⟩, h5⟩
theorem Nz.k (h : Nz H v m x) : NzK K H v m x := by
  obtain ⟨h1, ⟨d, h2, h3, h4⟩, h5⟩ := h
  exact ⟨h1, ⟨d, .inl h2, h3, h4⟩, h5⟩
theorem nzK_half {a : Addr} (h : KTup K a 1 2) : NzK K H (.ref a) 2 (Rat.divInt 1 2) := ⟨by decide, ⟨.tup [.int 1, .int 2], .inr ⟨a, 1, 2, rfl, h, rfl⟩, by decide, rfl⟩, sz_low (by decide) (by decide) (by decide)⟩
theorem nzK_quarter {a : Addr} (h : KTup K a 1 4) : NzK K H (.ref a) 3 (Rat.divInt 1 4) := ⟨by decide, ⟨.tup [.int 1, .int 4], .inr ⟨a, 1, 4, rfl, h, rfl⟩, by decide, rfl⟩, sz_low (by decide) (by decide) (by decide)⟩
theorem on_prodK (hu : NzK K H u m x) (hv : Nz H v n z) (b : m + n ≤ 8900) (k : ∀ w H', Same H H' → New H H' w (ofR (x * z)) → Nz H' w (m + n) (x * z) → Q w H') : spOnK K CT fProd [u, v] H Q E0 := by
  obtain ⟨m0, ⟨d, hd, nd, rfl⟩, s1⟩ := hu
  obtain ⟨n0, ⟨e, he, ne, rfl⟩, s2⟩ := hv
  refine ⟨u, v, d, e, rfl, hd, he, nd, ne, (FitQ.fit ⟨m, n, m0, n0, b, s1, s2⟩ nd ne), trivial, fun w r H' s nw l => ?_⟩
  have nw' := fProd_rt nd ne l ▸ nw
  exact k w H' s nw' (nw'.nz (by omega) (s1.mul s2))
theorem on_goneonK (hu : Pm H u m x y) (hv : Pm H v n z w) (ht : NzK K H t l r) (b : 2 * m + n + l + 2 ≤ 8900) (k : ∀ q H', Same H H' → New H H' q (pt (x + r * (z - x)) (y + r * (w - y))) → Pm H' q (2 * m + n + l + 2) (x + r * (z - x)) (y + r * (w - y)) → Q q H') : spGoneOnK K [u, v, t] H Q E0 := by
  obtain ⟨m0, ⟨d, hd, pd⟩, s1, s2⟩ := hu
  obtain ⟨n0, ⟨e, he, pe⟩, t1, t2⟩ := hv
  obtain ⟨l0, ⟨f, hf, nf, rfl⟩, f1⟩ := ht
  exact ⟨u, v, t, d, e, f, x, y, z, w, m, n, l, rfl, hd, he, hf, pd, pe, nf, ⟨m0, n0, l0, b, s1, s2, t1, t2, f1⟩, fun q H' s nw => k q H' s nw (nw.pm (by omega) ((s1.add (f1.mul (t1.sub s1))).more (by omega)) ((s2.add (f1.mul (t2.sub s2))).more (by omega)))⟩
end
def NmK (K : PySem.W.Frag) (H : Hp) (v : V) (x : Rat) : Prop := ∃ d, IsK K H v d ∧ isNum d = true ∧ rt d = x
section
variable {K : PySem.W.Frag} {H H' : Hp} {Q : VK} {u v : V} {x z : Rat}
theorem NmK.up (h : NmK K H v x) (s : Same H H') : NmK K H' v x := by
  obtain ⟨d, h1, h2, h3⟩ := h
  exact ⟨d, h1.up s, h2, h3⟩
theorem Nm.k (h : Nm H v x) : NmK K H v x := by
  obtain ⟨d, h1, h2, h3⟩ := h
  exact ⟨d, .inl h1, h2, h3⟩
theorem on_prodM (hu : NmK K H u x) (hv : Nm H v z) (f : FitQ x z) (k : ∀ w H', Same H H' → New H H' w (ofR (x * z)) → Q w H') : spOnK K CT fProd [u, v] H Q E0 := by
  obtain ⟨d, hu, h1, rfl⟩ := hu
  obtain ⟨e, hv, h2, rfl⟩ := hv
  exact ⟨u, v, d, e, rfl, hu, hv, h1, h2, f.fit h1 h2, trivial, fun w r H' s n l => k w H' s (fProd_rt h1 h2 l ▸ n)⟩
end
end Ty

namespace Ty
open PySem PySem.Spec PyProof.Rows L2
/-! ### midpoints -/
def hf (x z : Rat) : Rat := (x + z) / 2
theorem hf_eq {x z : Rat} : x + Rat.divInt 1 2 * (z - x) = hf x z := by
  have h2 : Rat.divInt 1 2 = 1 / 2 := by rw [Rat.divInt_eq_div]; rfl
  rw [h2]
  unfold hf
  grind
theorem quarter_eq {x : Rat} : Rat.divInt 1 4 * x = x / 4 := by
  have h2 : Rat.divInt 1 4 = 1 / 4 := by rw [Rat.divInt_eq_div]; rfl
  rw [h2]
  grind
def wd (o p a b x y c d : Rat) : Rat := far2 (hf o a) (hf p b) (hf x c) (hf y d) / 4
def hg (o p a b x y c d : Rat) : Rat := far2 (hf a x) (hf b y) (hf c o) (hf d p) / 4
section
variable {s t o p a b c d x y : Rat}
theorem half_half : hf (hf o a) (hf x c) = hf (hf a x) (hf c o) := by unfold hf; grind
theorem wd_hg (fr : Frame s t o p a b c d) (h1 : far2 x y c d = s * s) (h2 : far2 x y a b = t * t) : wd o p a b x y c d - hg o p a b x y c d = (t * t - s * s) / 4 := by
  have e1 := fr.one
  have e2 := fr.other
  unfold far2 at h1 h2 e1 e2
  unfold wd hg hf far2
  grind
/-- the cross product of both rows of midpoints -/
def crs (o p a b x y c d : Rat) : Rat := (hf x c - hf o a) * (hf d p - hf b y) - (hf y d - hf p b) * (hf c o - hf a x)
theorem crs_par : crs o p a b (a + (c - o)) (b + (d - p)) c d = - flatQ o p a b c d := by unfold crs hf flatQ; grind
theorem wd_par (fr : Frame s t o p a b c d) : wd o p a b (a + (c - o)) (b + (d - p)) c d = t * t / 4 ∧ hg o p a b (a + (c - o)) (b + (d - p)) c d = s * s / 4 := by
  have e1 := fr.one
  have e2 := fr.other
  unfold far2 at e1 e2
  constructor
  · unfold wd hf far2; grind
  · unfold hg hf far2; grind
/-- the mirrored corner by its share -/
theorem mir_par (ne : a ≠ c ∨ b ≠ d) : ∃ l, l * far2 a b c d = (c - o) * (c - a) + (d - p) * (d - b) ∧ mir1 (a + (c - o)) (b + (d - p)) a b c d = o + (2 * l - 1) * (c - a) ∧ mir2 (a + (c - o)) (b + (d - p)) a b c d = p + (2 * l - 1) * (d - b) := by
  have e := shr_eq (x := a + (c - o)) (y := b + (d - p)) ne
  refine ⟨shr a b c d (a + (c - o)) (b + (d - p)), ?_, ?_, ?_⟩
  · unfold far2; grind
  · unfold mir1; grind
  · unfold mir2; grind
theorem crs_mir (ne : a ≠ c ∨ b ≠ d) : crs o p a b (mir1 (a + (c - o)) (b + (d - p)) a b c d) (mir2 (a + (c - o)) (b + (d - p)) a b c d) c d = 0 := by
  obtain ⟨l, h1, h2, h3⟩ := mir_par (o := o) (p := p) ne
  rw [h2, h3]
  unfold crs hf
  grind
theorem wd_mir (ne : a ≠ c ∨ b ≠ d) : wd o p a b (mir1 (a + (c - o)) (b + (d - p)) a b c d) (mir2 (a + (c - o)) (b + (d - p)) a b c d) c d = (((c - o) * (c - a) + (d - p) * (d - b)) * ((c - o) * (c - a) + (d - p) * (d - b))) / (4 * far2 a b c d) := by
  obtain ⟨l, h1, h2, h3⟩ := mir_par (o := o) (p := p) ne
  have f0 := far2_ne ne
  rw [h2, h3, ← h1]
  have f4 : 4 * far2 a b c d ≠ 0 := fun z => f0 (by grind)
  have q : (l * far2 a b c d * (l * far2 a b c d)) / (4 * far2 a b c d) = l * l * far2 a b c d / 4 := by
    have e1 : (l * far2 a b c d * (l * far2 a b c d)) / (4 * far2 a b c d) * (4 * far2 a b c d) = l * far2 a b c d * (l * far2 a b c d) := Rat.div_mul_cancel f4
    have z : (4 * far2 a b c d) * ((l * far2 a b c d * (l * far2 a b c d)) / (4 * far2 a b c d) - l * l * far2 a b c d / 4) = 0 := by grind
    have := (Rat.mul_eq_zero.mp z).resolve_left f4
    grind
  rw [q]
  unfold wd hf far2
  grind
theorem wd_less (fr : Frame s t o p a b c d) (nf : flatQ o p a b c d ≠ 0) : wd o p a b (mir1 (a + (c - o)) (b + (d - p)) a b c d) (mir2 (a + (c - o)) (b + (d - p)) a b c d) c d < t * t / 4 := by
  have f0 := far2_ne fr.apart
  obtain ⟨l, h1, h2, h3⟩ := mir_par (o := o) (p := p) fr.apart
  have e2 := fr.other
  have w : wd o p a b (mir1 (a + (c - o)) (b + (d - p)) a b c d) (mir2 (a + (c - o)) (b + (d - p)) a b c d) c d = l * l * far2 a b c d / 4 := by
    rw [h2, h3]
    unfold wd hf far2
    grind
  rw [w]
  have fp : 0 < far2 a b c d := by
    have g1 := sq_nonneg (c - a)
    have g2 := sq_nonneg (d - b)
    have : 0 ≤ far2 a b c d := by unfold far2; grind
    grind
  -- t t |p|^2 - (l |p|^2)^2 is the square of the cross product
  have key : (t * t - l * l * far2 a b c d) * far2 a b c d = flatQ o p a b c d * flatQ o p a b c d := by
    have k1 : (t * t - l * l * far2 a b c d) * far2 a b c d = t * t * far2 a b c d - (l * far2 a b c d) * (l * far2 a b c d) := by grind
    rw [k1, h1, ← e2]
    unfold far2 flatQ
    grind
  have cp : 0 < flatQ o p a b c d * flatQ o p a b c d := by
    have g := sq_nonneg (flatQ o p a b c d)
    have : flatQ o p a b c d * flatQ o p a b c d ≠ 0 := fun z => (Rat.mul_eq_zero.mp z).elim nf nf
    grind
  have pos : 0 < t * t - l * l * far2 a b c d := by
    refine Classical.byContradiction fun z => ?_
    have z' : 0 ≤ -(t * t - l * l * far2 a b c d) := by grind
    have := Rat.mul_nonneg z' (Rat.le_of_lt fp)
    grind
  grind
theorem hg_nonneg : 0 ≤ hg o p a b x y c d := by
  have g1 := sq_nonneg (hf c o - hf a x)
  have g2 := sq_nonneg (hf d p - hf b y)
  unfold hg far2
  grind
/-- what holds of the last corner -/
def LastC (s t o p a b c d x y : Rat) : Prop := (c - a) * (y - p) - (d - b) * (x - o) = 0 ∧ 0 < (c - a) * (x - o) + (d - b) * (y - p) ∧
  ((c - a) * (c - a) + (d - b) * (d - b)) * ((x - o) * (x - o) + (y - p) * (y - p)) = 16 * ((t * t - s * s) / 4 * ((t * t - s * s) / 4))
theorem last_of (fr : Frame s t o p a b c d) (h1 : (c - a) * (y - p) - (d - b) * (x - o) = 0) (h2 : (c - a) * (x - o) + (d - b) * (y - p) = t * t - s * s) : LastC s t o p a b c d x y := by
  have sq := fr.sq
  refine ⟨h1, by rw [h2]; grind, ?_⟩
  have e : ((c - a) * (c - a) + (d - b) * (d - b)) * ((x - o) * (x - o) + (y - p) * (y - p)) = ((c - a) * (x - o) + (d - b) * (y - p)) * ((c - a) * (x - o) + (d - b) * (y - p)) + ((c - a) * (y - p) - (d - b) * (x - o)) * ((c - a) * (y - p) - (d - b) * (x - o)) := by grind
  rw [e, h1, h2]
  grind
theorem last_par (fr : Frame s t o p a b c d) (f : flatQ o p a b c d = 0) : LastC s t o p a b c d (a + (c - o)) (b + (d - p)) := by
  have e1 := fr.one
  have e2 := fr.other
  unfold far2 at e1 e2
  unfold flatQ at f
  exact last_of fr (by grind) (by grind)
theorem last_mir (fr : Frame s t o p a b c d) : LastC s t o p a b c d (mir1 (a + (c - o)) (b + (d - p)) a b c d) (mir2 (a + (c - o)) (b + (d - p)) a b c d) := by
  obtain ⟨l, h1, h2, h3⟩ := mir_par (o := o) (p := p) fr.apart
  have e1 := fr.one
  have e2 := fr.other
  rw [h2, h3]
  unfold far2 at e1 e2 h1
  exact last_of fr (by grind) (by grind)
end
theorem sz_two : Sz 2 (2 : Rat) := sz_int (i := 2) (by decide) (by decide)
theorem sz_four : Sz 3 (4 : Rat) := sz_int (i := 4) (by decide) (by decide)
theorem sz_hf {m n : Nat} {x z : Rat} (h1 : Sz m x) (h2 : Sz n z) : Sz (m + n + 3) (hf x z) := (h1.add h2).div sz_two (by decide +kernel)
theorem sz_far {m n : Nat} {x y z w : Rat} (h1 : Sz m x) (h2 : Sz m y) (h3 : Sz n z) (h4 : Sz n w) : Sz (4 * (m + n + 1) + 1) (far2 x y z w) := by
  have a1 : Sz (m + n + 1) (z - x) := (h3.sub h1).more (by omega)
  have a2 : Sz (m + n + 1) (w - y) := (h4.sub h2).more (by omega)
  exact ((a1.mul a1).add (a2.mul a2)).more (by omega)
theorem sz_quart {n : Nat} {s t : Rat} (h1 : Sz n s) (h2 : Sz n t) : Sz (4 * n + 4) ((t * t - s * s) / 4) := (((h2.mul h2).sub (h1.mul h1)).div sz_four (by decide +kernel)).more (by omega)
theorem sz_sq4 {n : Nat} {s : Rat} (h1 : Sz n s) : Sz (2 * n + 3) (s * s / 4) := ((h1.mul h1).div sz_four (by decide +kernel)).more (by omega)
theorem sz_wd_mir {n : Nat} {o p a b c d : Rat} (zo : Sz n o) (zp : Sz n p) (za : Sz n a) (zb : Sz n b) (zc : Sz n c) (zd : Sz n d) (ne : a ≠ c ∨ b ≠ d) :
    Sz (24 * n + 18) (wd o p a b (mir1 (a + (c - o)) (b + (d - p)) a b c d) (mir2 (a + (c - o)) (b + (d - p)) a b c d) c d) := by
  rw [wd_mir ne]
  have c1 : Sz (2 * n + 1) (c - o) := (zc.sub zo).more (by omega)
  have c2 : Sz (2 * n + 1) (c - a) := (zc.sub za).more (by omega)
  have d1 : Sz (2 * n + 1) (d - p) := (zd.sub zp).more (by omega)
  have d2 : Sz (2 * n + 1) (d - b) := (zd.sub zb).more (by omega)
  have k := (c1.mul c2).add (d1.mul d2)
  have f0 := far2_ne ne
  have f : Sz (8 * n + 5) (far2 a b c d) := (sz_far za zb zc zd).more (by omega)
  exact ((k.mul k).div (sz_four.mul f) (fun z => f0 (by grind))).more (by omega)
theorem sz_hg_mir {n : Nat} {s t o p a b c d : Rat} (fr : Frame s t o p a b c d) (zs : Sz n s) (zt : Sz n t) (zo : Sz n o) (zp : Sz n p) (za : Sz n a) (zb : Sz n b) (zc : Sz n c) (zd : Sz n d) :
    Sz (28 * n + 23) (hg o p a b (mir1 (a + (c - o)) (b + (d - p)) a b c d) (mir2 (a + (c - o)) (b + (d - p)) a b c d) c d) := by
  have h := wd_hg fr ((mir_far2 (x := a + (c - o)) (y := b + (d - p)) fr.apart).trans fr.par1) ((mir_far1 (x := a + (c - o)) (y := b + (d - p)) fr.apart).trans fr.par2)
  have e : hg o p a b (mir1 (a + (c - o)) (b + (d - p)) a b c d) (mir2 (a + (c - o)) (b + (d - p)) a b c d) c d = wd o p a b (mir1 (a + (c - o)) (b + (d - p)) a b c d) (mir2 (a + (c - o)) (b + (d - p)) a b c d) c d - (t * t - s * s) / 4 := by grind
  rw [e]
  exact ((sz_wd_mir zo zp za zb zc zd fr.apart).sub (sz_quart zs zt)).more (by omega)
/-- what holds of the corner at i, of so many -/
structure CornerAt (i len : Nat) (s t o p a b c d x y : Rat) : Prop where
  diff : wd o p a b x y c d - hg o p a b x y c d = (t * t - s * s) / 4
  cross : decide (crs o p a b x y c d = 0) = decide ((i : Int) = (len : Int) - 1)
  one : i = 0 → wd o p a b x y c d = t * t / 4 ∧ hg o p a b x y c d = s * s / 4
  two : i = 1 → wd o p a b x y c d < t * t / 4 ∧ ¬ wd o p a b x y c d < (t * t - s * s) / 4
theorem corner_par {s t o p a b c d : Rat} {len : Nat} (fr : Frame s t o p a b c d) (h : (len : Int) = 2 - (if decide (flatQ o p a b c d = 0) = true then 1 else 0)) : CornerAt 0 len s t o p a b c d (a + (c - o)) (b + (d - p)) := by
  refine ⟨wd_hg fr fr.par1 fr.par2, ?_, fun _ => wd_par fr, fun z => absurd z (by decide)⟩
  rw [crs_par]
  by_cases f : flatQ o p a b c d = 0
  · rw [decide_eq_true f, if_pos rfl] at h
    rw [decide_eq_true (by grind : - flatQ o p a b c d = 0), decide_eq_true (by omega)]
  · rw [decide_eq_false f, if_neg Bool.false_ne_true] at h
    rw [decide_eq_false (by grind : ¬ - flatQ o p a b c d = 0), decide_eq_false (by omega)]
theorem corner_mir {s t o p a b c d : Rat} {len : Nat} (fr : Frame s t o p a b c d) (nf : flatQ o p a b c d ≠ 0) (h : len = 2) : CornerAt 1 len s t o p a b c d (mir1 (a + (c - o)) (b + (d - p)) a b c d) (mir2 (a + (c - o)) (b + (d - p)) a b c d) := by
  have w := wd_hg fr ((mir_far2 (x := a + (c - o)) (y := b + (d - p)) fr.apart).trans fr.par1) ((mir_far1 (x := a + (c - o)) (y := b + (d - p)) fr.apart).trans fr.par2)
  refine ⟨w, ?_, (fun z => absurd z (by decide)), fun _ => ⟨wd_less fr nf, ?_⟩⟩
  · rw [crs_mir fr.apart, decide_eq_true rfl, decide_eq_true (by omega)]
  · have g := hg_nonneg (o := o) (p := p) (a := a) (b := b) (c := c) (d := d) (x := mir1 (a + (c - o)) (b + (d - p)) a b c d) (y := mir2 (a + (c - o)) (b + (d - p)) a b c d)
    grind
/-! ### promises of midpoints -/
def spNeed4 : Sp := fun vs H Q _ => ∃ u v w t m1 m2 m3 m4 a1 b1 a2 b2 a3 b3 a4 b4, vs = [u, v, w, t] ∧ Pm H u m1 a1 b1 ∧ Pm H v m2 a2 b2 ∧ Pm H w m3 a3 b3 ∧ Pm H t m4 a4 b4 ∧ ∀ H', Same H H' → Q .non H'
def spHalf : Sp := fun vs H Q _ => ∃ u v x y z w m n, vs = [u, v] ∧ Pm H u m x y ∧ Pm H v n z w ∧ 2 * m + n + 4 ≤ 8900 ∧ ∀ r H', Same H H' → New H H' r (pt (hf x z) (hf y w)) → Pm H' r (m + n + 3) (hf x z) (hf y w) → Q r H'
def mids (o p a b x y c d : Rat) : Da := .tup [pt (hf o a) (hf p b), pt (hf a x) (hf b y), pt (hf x c) (hf y d), pt (hf c o) (hf d p)]
def spMid : Sp := fun vs H Q _ => ∃ u v w t o p a b x y c d n m, vs = [u, v, w, t] ∧ Pm H u n o p ∧ Pm H v n a b ∧ Pm H w m x y ∧ Pm H t n c d ∧ 3 * n + 2 * m + 4 ≤ 8900 ∧ ∀ r H', Same H H' → New H H' r (mids o p a b x y c d) → Q r H'
def spSpread : Sp := fun vs H Q _ => ∃ u v w t o p a b x y c d n m, vs = [u, v, w, t] ∧ Pm H u n o p ∧ Pm H v n a b ∧ Pm H w m x y ∧ Pm H t n c d ∧ 12 * n + 4 * m + 32 ≤ 8900 ∧ ∀ r H', Same H H' → New H H' r (pt (wd o p a b x y c d) (hg o p a b x y c d)) → Q r H'
/-- four points, each told; their midpoints, and the squares of half of both distances -/
def spPoints : Sp := fun vs H Q _ => ∃ u v w t o p a b x y c d n m, vs = [u, v, w, t] ∧ Pm H u n o p ∧ Pm H v n a b ∧ Pm H w m x y ∧ Pm H t n c d ∧ (12 * n + 4 * m + 32 ≤ 8900 ∧ n + m + 3 ≤ 1900 ∧ 2 * n + 3 ≤ 1900) ∧ Sz 1900 (wd o p a b x y c d) ∧ Sz 1900 (hg o p a b x y c d) ∧
  ∀ r H', Same H H' → New H H' r (.tup [mids o p a b x y c d, ofR (wd o p a b x y c d), ofR (hg o p a b x y c d)]) → Q r H'
section
variable {K : PySem.W.Frag} {H H' H1 : Hp} {Q : VK} {u v q : V} {m n l : Nat} {x y z w : Rat}
theorem on_half (hu : Pm H u m x y) (hv : Pm H v n z w) (b : 2 * m + n + 4 ≤ 8900) (k : ∀ r H', Same H H' → New H H' r (pt (hf x z) (hf y w)) → Pm H' r (m + n + 3) (hf x z) (hf y w) → Q r H') : spHalf [u, v] H Q E0 :=
  ⟨u, v, x, y, z, w, m, n, rfl, hu, hv, b, k⟩
theorem New.tup4' {p : Addr} {v1 v2 v3 v4 : V} {d1 d2 d3 d4 : Da} (s : Same H H1) (hp : H1 p = none) (a : New H H1 v1 d1) (b : New H H1 v2 d2) (c : New H H1 v3 d3) (d : New H H1 v4 d4) : New H (upd H1 p (.tup [v1, v2, v3, v4])) (.ref p) (.tup [d1, d2, d3, d4]) := fun S l =>
  have up := Same.less (S := S) (Same.new hp (o := .tup [v1, v2, v3, v4]))
  .tup (mn_put (l.more s) hp) (.cons ((a S l).up up) (.cons ((b S l).up up) (.cons ((c S l).up up) (.cons ((d S l).up up) .nil))))
theorem New.tup3' {p : Addr} {v1 v2 v3 : V} {d1 d2 d3 : Da} (s : Same H H1) (hp : H1 p = none) (a : New H H1 v1 d1) (b : New H H1 v2 d2) (c : New H H1 v3 d3) : New H (upd H1 p (.tup [v1, v2, v3])) (.ref p) (.tup [d1, d2, d3]) := fun S l =>
  have up := Same.less (S := S) (Same.new hp (o := .tup [v1, v2, v3]))
  .tup (mn_put (l.more s) hp) (.cons ((a S l).up up) (.cons ((b S l).up up) (.cons ((c S l).up up) .nil)))
theorem mids_items {o p a b c d : Rat} (h : Is H q (mids o p a b x y c d)) : ∃ (r : Addr) (v1 v2 v3 v4 : V), q = .ref r ∧ H r = some (.tup [v1, v2, v3, v4]) ∧ Is H v1 (pt (hf o a) (hf p b)) ∧ Is H v2 (pt (hf a x) (hf b y)) ∧ Is H v3 (pt (hf x c) (hf y d)) ∧ Is H v4 (pt (hf c o) (hf d p)) := by
  cases h with
  | @tup r xs _ e hx =>
  cases hx with
  | @cons v1 _ _ _ h1 hx =>
  cases hx with
  | @cons v2 _ _ _ h2 hx =>
  cases hx with
  | @cons v3 _ _ _ h3 hx =>
  cases hx with
  | @cons v4 _ _ _ h4 hx =>
  cases hx
  exact ⟨r, v1, v2, v3, v4, rfl, e, h1, h2, h3, h4⟩
/-- list(point) -/
theorem Pm.list (h : Pm H v m x y) : ∃ p ys, v = .ref p ∧ (SqL K H p ys ∨ SqT K H p ys) ∧ ∀ l, H l = none → Pm (upd H l (.lst ys)) (.ref l) m x y := by
  obtain ⟨m0, ⟨d, hd, s, a, b, e, na, nb, ra, rb⟩, s1, s2⟩ := h
  obtain ⟨p, ys, rfl, hs, hx⟩ := hd.seq (K := K) s
  refine ⟨p, ys, rfl, hs, fun l hl => ⟨m0, ⟨.lst [a, b], ?_, rfl, a, b, rfl, na, nb, ra, rb⟩, s1, s2⟩⟩
  rw [e] at hx
  exact .lst upd_same (hx.up (Same.new hl))
end
/-! these can be shown -/
theorem mids_show {o p a b x y c d : Rat} {n m : Nat} (zo : Sz n o) (zp : Sz n p) (za : Sz n a) (zb : Sz n b) (zx : Sz m x) (zy : Sz m y) (zc : Sz n c) (zd : Sz n d) (b1 : n + m + 3 ≤ 1900) (b2 : 2 * n + 3 ≤ 1900) :
    nums (mids o p a b x y c d) = true ∧ dp (mids o p a b x y c d) ≤ 3 ∧ wt (mids o p a b x y c d) ≤ 40000 := by
  obtain ⟨a1, a2, a3⟩ := pt_show (pt_pt (x := hf o a) (y := hf p b)) ((sz_hf zo za).more (by omega)) ((sz_hf zp zb).more (by omega))
  obtain ⟨c1, c2, c3⟩ := pt_show (pt_pt (x := hf a x) (y := hf b y)) ((sz_hf za zx).more (by omega)) ((sz_hf zb zy).more (by omega))
  obtain ⟨d1, d2, d3⟩ := pt_show (pt_pt (x := hf x c) (y := hf y d)) ((sz_hf zx zc).more (by omega)) ((sz_hf zy zd).more (by omega))
  obtain ⟨e1, e2, e3⟩ := pt_show (pt_pt (x := hf c o) (y := hf d p)) ((sz_hf zc zo).more (by omega)) ((sz_hf zd zp).more (by omega))
  unfold mids
  generalize pt (hf o a) (hf p b) = f1 at *
  generalize pt (hf a x) (hf b y) = f2 at *
  generalize pt (hf x c) (hf y d) = f3 at *
  generalize pt (hf c o) (hf d p) = f4 at *
  refine ⟨?_, ?_, ?_⟩
  · show (nums f1 && (nums f2 && (nums f3 && (nums f4 && true)))) = true
    rw [a1, c1, d1, e1]
    rfl
  · show max (dp f1) (max (dp f2) (max (dp f3) (max (dp f4) 0))) + 1 ≤ 3
    omega
  · show wt f1 + 2 + (wt f2 + 2 + (wt f3 + 2 + (wt f4 + 2 + 0))) + 10 ≤ 40000
    omega
theorem told4_okr {M : Da} {w h : Rat} (h1 : nums M = true) (h2 : dp M ≤ 3) (h3 : wt M ≤ 40000) (zw : Sz 1900 w) (zh : Sz 1900 h) : okr (.lst [M, M, pt w h, pt w h]) = true := by
  obtain ⟨a1, a2, a3⟩ := pt_show (pt_pt (x := w) (y := h)) zw zh
  generalize pt w h = f at *
  have e1 : nums (.lst [M, M, f, f]) = true := by
    show (nums M && (nums M && (nums f && (nums f && true)))) = true
    rw [a1, h1]
    rfl
  have e2 : dp (.lst [M, M, f, f]) ≤ 60 := by
    show max (dp M) (max (dp M) (max (dp f) (max (dp f) 0))) + 1 ≤ 60
    omega
  have e3 : wt (.lst [M, M, f, f]) ≤ 16000000 := by
    show wt M + 2 + (wt M + 2 + (wt f + 2 + (wt f + 2 + 0))) + 10 ≤ 16000000
    omega
  unfold okr
  rw [e1, decide_eq_true e2, decide_eq_true e3]
  rfl
section
variable {H : Hp}
theorem nz_four : Nz H (.int 4) 3 4 := nz_int (i := 4) (by decide) (by decide)
theorem nz_16 : Nz H (.int 16) 5 16 := nz_int (i := 16) (by decide) (by decide)
theorem nz_zero : Nz H (.int 0) 1 0 := nz_int (i := 0) (by decide) (by decide)
end
/-! what holds of the corners that are told -/
section
variable {H : Hp} {v : V} {s t o p a b c d : Rat}
theorem crn_all (h : Is H v (crn o p a b c d)) (fr : Frame s t o p a b c d) (zs : Sz 28 s) (zt : Sz 28 t) (zo : Sz 28 o) (zp : Sz 28 p) (za : Sz 28 a) (zb : Sz 28 b) (zc : Sz 28 c) (zd : Sz 28 d) :
    ∃ (q : Addr) (ws : List V), v = .ref q ∧ H q = some (.tup ws) ∧ ws.length ≤ 2 ∧
      (∀ (i : Nat) x, ws[i]? = some x → ∃ X Y, Pm H x 836 X Y ∧ CornerAt i ws.length s t o p a b c d X Y ∧ Sz 1900 (wd o p a b X Y c d) ∧ Sz 1900 (hg o p a b X Y c d)) ∧
      ∃ w X Y, atI ws (-1) = some w ∧ Pm H w 836 X Y ∧ LastC s t o p a b c d X Y := by
  have z1 : Sz 86 (a + (c - o)) := za.add (zc.sub zo)
  have z2 : Sz 86 (b + (d - p)) := zb.add (zd.sub zp)
  obtain ⟨m1, m2⟩ := sz_mir z1 z2 za zb zc zd fr.apart
  have m1' : Sz 836 (mir1 (a + (c - o)) (b + (d - p)) a b c d) := m1
  have m2' : Sz 836 (mir2 (a + (c - o)) (b + (d - p)) a b c d) := m2
  have wp := wd_par fr
  have zw : Sz 1900 (wd o p a b (a + (c - o)) (b + (d - p)) c d) := by rw [wp.1]; exact (sz_sq4 zt).more (by decide)
  have zh : Sz 1900 (hg o p a b (a + (c - o)) (b + (d - p)) c d) := by rw [wp.2]; exact (sz_sq4 zs).more (by decide)
  unfold crn at h
  cases fl : decide (flatQ o p a b c d = 0) with
  | true =>
    rw [fl, if_pos rfl] at h
    cases h with
    | @tup q xs _ e hx =>
      cases hx with
      | @cons w1 _ _ _ h1 hx =>
        cases hx
        refine ⟨q, _, rfl, e, by show 1 ≤ 2; decide, fun i x hi => ?_, w1, _, _, rfl, h1.pm (by decide) (z1.more (by decide)) (z2.more (by decide)), last_par fr (of_decide_eq_true fl)⟩
        match i, hi with
        | 0, hi =>
          cases hi
          exact ⟨_, _, h1.pm (by decide) (z1.more (by decide)) (z2.more (by decide)), corner_par fr (by rw [fl, if_pos rfl]; rfl), zw, zh⟩
  | false =>
    rw [fl, if_neg Bool.false_ne_true] at h
    have nf : flatQ o p a b c d ≠ 0 := of_decide_eq_false fl
    cases h with
    | @tup q xs _ e hx =>
      cases hx with
      | @cons w1 _ _ _ h1 hx =>
        cases hx with
        | @cons w2 _ _ _ h2 hx =>
          cases hx
          refine ⟨q, _, rfl, e, by show 2 ≤ 2; decide, fun i x hi => ?_, w2, _, _, rfl, h2.pm (by decide) m1' m2', last_mir fr⟩
          match i, hi with
          | 0, hi =>
            cases hi
            exact ⟨_, _, h1.pm (by decide) (z1.more (by decide)) (z2.more (by decide)), corner_par fr (by rw [fl, if_neg Bool.false_ne_true]; rfl), zw, zh⟩
          | 1, hi =>
            cases hi
            exact ⟨_, _, h2.pm (by decide) m1' m2', corner_mir fr nf rfl, (sz_wd_mir zo zp za zb zc zd fr.apart).more (by decide), (sz_hg_mir fr zs zt zo zp za zb zc zd).more (by decide)⟩
/-- what the four points' reckoning gives: its items -/
theorem points_items {x y : Rat} (h : Is H v (.tup [mids o p a b x y c d, ofR (wd o p a b x y c d), ofR (hg o p a b x y c d)])) :
    ∃ (q r : Addr) (v1 v2 v3 v4 w1 w2 : V), v = .ref q ∧ H q = some (.tup [.ref r, w1, w2]) ∧ H r = some (.tup [v1, v2, v3, v4]) ∧ Is H v1 (pt (hf o a) (hf p b)) ∧ Is H v2 (pt (hf a x) (hf b y)) ∧ Is H v3 (pt (hf x c) (hf y d)) ∧ Is H v4 (pt (hf c o) (hf d p)) ∧
      Is H w1 (ofR (wd o p a b x y c d)) ∧ Is H w2 (ofR (hg o p a b x y c d)) := by
  cases h with
  | @tup q xs _ e hx =>
  cases hx with
  | @cons u1 _ _ _ h1 hx =>
  cases hx with
  | @cons u2 _ _ _ h2 hx =>
  cases hx with
  | @cons u3 _ _ _ h3 hx =>
  cases hx
  obtain ⟨r, v1, v2, v3, v4, rfl, er, i1, i2, i3, i4⟩ := mids_items h1
  exact ⟨q, r, v1, v2, v3, v4, u2, u3, rfl, e, er, i1, i2, i3, i4, h2, h3⟩
end
end Ty

namespace Ty
open PySem PySem.Spec PyProof.Rows L2
/-! ### locks -/
/-- what a lock lets, in a word -/
def kindOf (s t m n : Rat) : Str := if decide (m * m - n * n = (t * t - s * s) / 4) = true then (if decide (t / 2 < m) = true then "crossed" else if decide (m < t / 2) = true then "part" else "both") else "none"
/-- all corners -/
def crnL (o p a b c d : Rat) : List (Rat × Rat) := if decide (flatQ o p a b c d = 0) = true then [(a + (c - o), b + (d - p))] else
  [(a + (c - o), b + (d - p)), (mir1 (a + (c - o)) (b + (d - p)) a b c d, mir2 (a + (c - o)) (b + (d - p)) a b c d)]
/-- the law's own look -/
def rm (m n o p a b c d : Rat) (z : Rat × Rat) : Bool := decide (m * m - wd o p a b z.1 z.2 c d = n * n - hg o p a b z.1 z.2 c d) && (!decide (m * m - wd o p a b z.1 z.2 c d < 0) && (decide (m * m - wd o p a b z.1 z.2 c d = 0) || decide (crs o p a b z.1 z.2 c d = 0)))
/-- the program's -/
def pkRoom (q o p a b c d x y : Rat) : Bool := if (decide (x = a + (c - o) ∧ y = b + (d - p)) && !decide (flatQ o p a b c d = 0)) = true then decide (q = wd o p a b x y c d) else !decide (q < wd o p a b x y c d)
section
variable {s t o p a b c d m n : Rat}
theorem sq_lt {x y : Rat} (hx : 0 ≤ x) (h : x < y) : x * x < y * y := by
  have h3 : 0 < (y - x) * (y + x) := Rat.mul_pos (by grind) (by grind)
  grind
/-- the two kinds of corners -/
theorem crnL_cases (fr : Frame s t o p a b c d) {z : Rat × Rat} (h : z ∈ crnL o p a b c d) :
    (z = (a + (c - o), b + (d - p)) ∧ wd o p a b z.1 z.2 c d = t * t / 4 ∧ wd o p a b z.1 z.2 c d - hg o p a b z.1 z.2 c d = (t * t - s * s) / 4 ∧ crs o p a b z.1 z.2 c d = - flatQ o p a b c d) ∨
    (flatQ o p a b c d ≠ 0 ∧ z ≠ (a + (c - o), b + (d - p)) ∧ wd o p a b z.1 z.2 c d < t * t / 4 ∧ wd o p a b z.1 z.2 c d - hg o p a b z.1 z.2 c d = (t * t - s * s) / 4 ∧ crs o p a b z.1 z.2 c d = 0) := by
  have par : ∀ w, w = (a + (c - o), b + (d - p)) → w = (a + (c - o), b + (d - p)) ∧ wd o p a b w.1 w.2 c d = t * t / 4 ∧ wd o p a b w.1 w.2 c d - hg o p a b w.1 w.2 c d = (t * t - s * s) / 4 ∧ crs o p a b w.1 w.2 c d = - flatQ o p a b c d := by
    rintro _ rfl
    exact ⟨rfl, (wd_par fr).1, wd_hg fr fr.par1 fr.par2, crs_par⟩
  unfold crnL at h
  split at h
  · exact .inl (par z (List.mem_singleton.mp h))
  · rename_i nf
    have nf' : flatQ o p a b c d ≠ 0 := fun w => nf (decide_eq_true w)
    rcases List.mem_cons.mp h with h | h
    · exact .inl (par z h)
    · rw [List.mem_singleton.mp h]
      refine .inr ⟨nf', fun w => mir_off (fun w => nf' (flat_cross.mp w)) ⟨congrArg Prod.fst w, congrArg Prod.snd w⟩, wd_less fr nf', wd_hg fr ((mir_far2 fr.apart).trans fr.par1) ((mir_far1 fr.apart).trans fr.par2), crs_mir fr.apart⟩
theorem rm_none (fr : Frame s t o p a b c d) (nl : m * m - n * n ≠ (t * t - s * s) / 4) {z : Rat × Rat} (h : z ∈ crnL o p a b c d) : rm m n o p a b c d z = false := by
  unfold rm
  rw [decide_eq_false]
  · rfl
  · rcases crnL_cases fr h with ⟨_, _, e, _⟩ | ⟨_, _, _, e, _⟩ <;> intro w <;> exact nl (by grind)
theorem rm_lock (fr : Frame s t o p a b c d) (l : m * m - n * n = (t * t - s * s) / 4) {z : Rat × Rat} (h : z ∈ crnL o p a b c d) : rm m n o p a b c d z = pkRoom (m * m) o p a b c d z.1 z.2 := by
  obtain ⟨x, y⟩ := z
  rcases crnL_cases fr h with ⟨e0, _, e1, e2⟩ | ⟨nf, e0, _, e1, e2⟩
  · unfold rm pkRoom
    rw [e2, decide_eq_true (show m * m - wd o p a b x y c d = n * n - hg o p a b x y c d by have e1' : wd o p a b x y c d - hg o p a b x y c d = (t * t - s * s) / 4 := e1; grind)]
    have q1 := congrArg Prod.fst e0
    have q2 := congrArg Prod.snd e0
    rw [decide_eq_true (show (x, y).1 = a + (c - o) ∧ (x, y).2 = b + (d - p) from ⟨q1, q2⟩)]
    by_cases f : flatQ o p a b c d = 0
    · rw [decide_eq_true f, decide_eq_true (show - flatQ o p a b c d = 0 by grind), Bool.or_true, Bool.and_true, Bool.true_and]
      show _ = !decide (m * m < wd o p a b x y c d)
      rw [decide_eq_decide.mpr (show m * m - wd o p a b x y c d < 0 ↔ m * m < wd o p a b x y c d by constructor <;> intro <;> grind)]
    · rw [decide_eq_false f, decide_eq_false (show ¬ - flatQ o p a b c d = 0 by grind), Bool.or_false, Bool.true_and]
      show _ = decide (m * m = wd o p a b x y c d)
      by_cases g : m * m = wd o p a b x y c d
      · rw [decide_eq_true g, decide_eq_true (show m * m - wd o p a b x y c d = 0 by grind), decide_eq_false (show ¬ m * m - wd o p a b x y c d < 0 by grind)]
        rfl
      · rw [decide_eq_false g, decide_eq_false (show ¬ m * m - wd o p a b x y c d = 0 by grind), Bool.and_false]
  · unfold rm pkRoom
    rw [e2, decide_eq_true (show m * m - wd o p a b x y c d = n * n - hg o p a b x y c d by have e1' : wd o p a b x y c d - hg o p a b x y c d = (t * t - s * s) / 4 := e1; grind)]
    rw [decide_eq_false (show ¬ ((x, y).1 = a + (c - o) ∧ (x, y).2 = b + (d - p)) from fun w => e0 (Prod.ext w.1 w.2))]
    rw [decide_eq_true rfl, Bool.or_true, Bool.and_true, Bool.true_and, Bool.false_and]
    show _ = !decide (m * m < wd o p a b x y c d)
    rw [decide_eq_decide.mpr (show m * m - wd o p a b x y c d < 0 ↔ m * m < wd o p a b x y c d by constructor <;> intro <;> grind)]
/-- what goes with a word -/
def goesWith (kind : Str) (isc flat room : Bool) (wide high : Rat) : Bool := if kind = "none" then !room else if kind = "both" then room else if kind = "crossed" then decide (room = isc) else decide (room = (isc && (!flat && !decide (high < wide))))
theorem goes_all (fr : Frame s t o p a b c d) (m0 : 0 < m) {z : Rat × Rat} (h : z ∈ crnL o p a b c d) :
    goesWith (kindOf s t m n) (decide (flatQ o p a b c d = 0) || !decide (z.1 = a + (c - o) ∧ z.2 = b + (d - p))) (decide (flatQ o p a b c d = 0)) (rm m n o p a b c d z) (wd o p a b z.1 z.2 c d) (m * m) = true := by
  by_cases l : m * m - n * n = (t * t - s * s) / 4
  · rw [rm_lock fr l h]
    obtain ⟨x, y⟩ := z
    have t0 : 0 < t := by have := fr.pos; have := fr.less; grind
    have big : t / 2 < m → t * t / 4 < m * m := fun w => by
      have := sq_lt (x := t / 2) (by grind) w
      grind
    have low : m < t / 2 → m * m < t * t / 4 := fun w => by
      have := sq_lt (x := m) (by grind) w
      grind
    unfold kindOf pkRoom
    rw [decide_eq_true l, if_pos rfl]
    rcases crnL_cases fr h with ⟨e0, e3, e1, e2⟩ | ⟨nf, e0, e3, e1, e2⟩
    · have q1 : (x, y).1 = a + (c - o) := congrArg Prod.fst e0
      have q2 : (x, y).2 = b + (d - p) := congrArg Prod.snd e0
      rw [e3, decide_eq_true (show (x, y).1 = a + (c - o) ∧ (x, y).2 = b + (d - p) from ⟨q1, q2⟩)]
      by_cases f : flatQ o p a b c d = 0
      · rw [decide_eq_true f]
        by_cases g1 : t / 2 < m
        · have := big g1
          rw [decide_eq_true g1, decide_eq_false (show ¬ m * m < t * t / 4 by grind)]
          rfl
        · by_cases g2 : m < t / 2
          · have := low g2
            rw [decide_eq_false g1, decide_eq_true g2, decide_eq_true this]
            rfl
          · have e : m = t / 2 := by grind
            rw [decide_eq_false g1, decide_eq_false g2, decide_eq_false (show ¬ m * m < t * t / 4 by subst e; grind)]
            rfl
      · rw [decide_eq_false f]
        by_cases g1 : t / 2 < m
        · have := big g1
          rw [decide_eq_true g1, decide_eq_false (show ¬ m * m = t * t / 4 by grind)]
          rfl
        · by_cases g2 : m < t / 2
          · have := low g2
            rw [decide_eq_false g1, decide_eq_true g2, decide_eq_false (show ¬ m * m = t * t / 4 by grind)]
            rfl
          · have e : m = t / 2 := by grind
            rw [decide_eq_false g1, decide_eq_false g2, decide_eq_true (show m * m = t * t / 4 by subst e; grind)]
            rfl
    · have e3' : wd o p a b x y c d < t * t / 4 := e3
      rw [decide_eq_false nf, decide_eq_false (show ¬ ((x, y).1 = a + (c - o) ∧ (x, y).2 = b + (d - p)) from fun w => e0 (Prod.ext w.1 w.2))]
      by_cases g1 : t / 2 < m
      · have := big g1
        rw [decide_eq_true g1]
        show goesWith "crossed" _ _ (!decide (m * m < wd o p a b x y c d)) _ _ = true
        rw [decide_eq_false (show ¬ m * m < wd o p a b x y c d by grind)]
        rfl
      · by_cases g2 : m < t / 2
        · rw [decide_eq_false g1, decide_eq_true g2]
          show decide ((!decide (m * m < wd o p a b x y c d)) = (true && (true && !decide (m * m < wd o p a b x y c d)))) = true
          cases decide (m * m < wd o p a b x y c d) <;> rfl
        · have e : m = t / 2 := by grind
          rw [decide_eq_false g1, decide_eq_false g2]
          show goesWith "both" _ _ (!decide (m * m < wd o p a b x y c d)) _ _ = true
          rw [decide_eq_false (show ¬ m * m < wd o p a b x y c d by subst e; grind)]
          rfl
  · rw [rm_none fr l h]
    unfold kindOf
    rw [decide_eq_false l]
    rfl
end
/-- the law's own locks -/
theorem kind_own {s t : Rat} (s0 : 0 < s) : kindOf s t (t / 2) (s / 2) = "both" := by
  unfold kindOf
  rw [decide_eq_true (show t / 2 * (t / 2) - s / 2 * (s / 2) = (t * t - s * s) / 4 by grind), if_pos rfl, decide_eq_false (show ¬ t / 2 < t / 2 by grind)]
  rfl
theorem kind_built {s t : Rat} (s0 : 0 < s) (st : s < t) : kindOf s t ((5 * t + 3 * s) / 8) ((3 * t + 5 * s) / 8) = "crossed" := by
  unfold kindOf
  rw [decide_eq_true (show (5 * t + 3 * s) / 8 * ((5 * t + 3 * s) / 8) - (3 * t + 5 * s) / 8 * ((3 * t + 5 * s) / 8) = (t * t - s * s) / 4 by grind), if_pos rfl, decide_eq_true (show t / 2 < (5 * t + 3 * s) / 8 by grind)]
  rfl
/-- a lock of d: both + d, both - d, halved -/
theorem lock_d {s t d : Rat} (s0 : 0 < s) (st : s < t) (d0 : 0 < d) (dd : d * d < (t - s) / 2 * ((s + t) / 2)) :
    0 < ((t - s) / 2 * ((s + t) / 2) / d + d) / 2 ∧ 0 < ((t - s) / 2 * ((s + t) / 2) / d - d) / 2 ∧
    ((t - s) / 2 * ((s + t) / 2) / d + d) / 2 * (((t - s) / 2 * ((s + t) / 2) / d + d) / 2) - ((t - s) / 2 * ((s + t) / 2) / d - d) / 2 * (((t - s) / 2 * ((s + t) / 2) / d - d) / 2) = (t * t - s * s) / 4 := by
  have nd : d ≠ 0 := by grind
  have e : (t - s) / 2 * ((s + t) / 2) / d * d = (t - s) / 2 * ((s + t) / 2) := Rat.div_mul_cancel nd
  generalize (t - s) / 2 * ((s + t) / 2) / d = w at e ⊢
  have wd0 : d < w := by
    refine Classical.byContradiction fun z => ?_
    have := Rat.mul_nonneg (show 0 ≤ d - w by grind) (Rat.le_of_lt d0)
    grind
  exact ⟨by grind, by grind, by grind⟩
theorem lock_part {s t k : Rat} (s0 : 0 < s) (st : s < t) (k0 : 0 < k) (k1 : k ≤ 1) : let d := (t - s) / 2 * (1 + k * (s / t)); 0 < d ∧ d * d < (t - s) / 2 * ((s + t) / 2) ∧ (d - (t - s) / 2) * (d - (s + t) / 2) < 0 := by
  have t0 : 0 < t := by grind
  have nt : t ≠ 0 := by grind
  have e : s / t * t = s := Rat.div_mul_cancel nt
  have r0 : 0 < s / t := by rw [Rat.div_def]; exact Rat.mul_pos s0 (Rat.inv_pos.mpr t0)
  generalize s / t = r at e r0 ⊢
  -- s = r t, r below 1
  subst e
  have r1 : r < 1 := by
    refine Classical.byContradiction fun z => ?_
    have := Rat.mul_nonneg (show 0 ≤ r - 1 by grind) (Rat.le_of_lt t0)
    grind
  have kr : 0 < k * r := Rat.mul_pos k0 r0
  have kr1 : k * r ≤ r := by
    have := Rat.mul_nonneg (show 0 ≤ 1 - k by grind) (Rat.le_of_lt r0)
    grind
  have tt : 0 < t * t := Rat.mul_pos t0 t0
  intro d
  generalize hj : k * r = j at kr kr1
  have ed : d = (t - r * t) / 2 * (1 + j) := by show (t - r * t) / 2 * (1 + k * r) = _; rw [hj]
  clear_value d
  subst ed
  have f0 : 0 < (t - r * t) / 2 := by
    have := Rat.mul_pos t0 (show 0 < 1 - r by grind)
    grind
  refine ⟨Rat.mul_pos f0 (by grind), ?_, ?_⟩
  · -- (1 - r)^2 (1 + j)^2 < (1 - r)(1 + r)
    have a1 : 0 < (1 - r) * (1 + r) - (1 - r) * (1 - r) * ((1 + j) * (1 + j)) := by
      have b1 : (1 + j) * (1 + j) ≤ (1 + r) * (1 + r) := by
        have := Rat.mul_nonneg (show 0 ≤ r - j by grind) (show 0 ≤ 2 + r + j by grind)
        grind
      have b2 : 0 ≤ (1 - r) * (1 - r) * ((1 + r) * (1 + r) - (1 + j) * (1 + j)) := Rat.mul_nonneg (Rat.mul_nonneg (by grind) (by grind)) (by grind)
      have b3 : 0 < (1 - r) * (1 + r) * (1 - (1 - r) * (1 + r)) := Rat.mul_pos (Rat.mul_pos (by grind) (by grind)) (by have := Rat.mul_pos r0 r0; grind)
      grind
    have := Rat.mul_pos tt a1
    grind
  · have a2 : 0 < ((1 - r) * j) * ((1 + r) - (1 - r) * (1 + j)) := by
      refine Rat.mul_pos (Rat.mul_pos (by grind) kr) ?_
      have := Rat.mul_pos r0 (show 0 < 1 by decide)
      have := Rat.mul_nonneg (show 0 ≤ 1 - r by grind) (show 0 ≤ r - j by grind)
      have := Rat.mul_pos r0 r0
      grind
    have := Rat.mul_pos tt a2
    grind
theorem lock_far {s t k : Rat} (s0 : 0 < s) (st : s < t) (k0 : 0 < k) (k1 : k < 1) : let d := (t - s) / 2 * k; 0 < d ∧ d * d < (t - s) / 2 * ((s + t) / 2) ∧ 0 < (d - (t - s) / 2) * (d - (s + t) / 2) := by
  intro d
  have f0 : 0 < (t - s) / 2 := by grind
  have d0 : 0 < d := Rat.mul_pos f0 k0
  have d1 : d < (t - s) / 2 := by
    have := Rat.mul_pos f0 (show 0 < 1 - k by grind)
    show (t - s) / 2 * k < _
    grind
  clear_value d
  refine ⟨d0, ?_, ?_⟩
  · have := Rat.mul_pos f0 (show 0 < (s + t) / 2 - d by grind)
    have := Rat.mul_pos d0 (show 0 < (t - s) / 2 - d by grind)
    grind
  · have := Rat.mul_pos (show 0 < (t - s) / 2 - d by grind) (show 0 < (s + t) / 2 - d by grind)
    grind
theorem kind_d {s t d : Rat} (s0 : 0 < s) (st : s < t) (d0 : 0 < d) (dd : d * d < (t - s) / 2 * ((s + t) / 2)) :
    ((d - (t - s) / 2) * (d - (s + t) / 2) < 0 → kindOf s t (((t - s) / 2 * ((s + t) / 2) / d + d) / 2) (((t - s) / 2 * ((s + t) / 2) / d - d) / 2) = "part") ∧
    (0 < (d - (t - s) / 2) * (d - (s + t) / 2) → kindOf s t (((t - s) / 2 * ((s + t) / 2) / d + d) / 2) (((t - s) / 2 * ((s + t) / 2) / d - d) / 2) = "crossed") := by
  obtain ⟨_, _, l⟩ := lock_d s0 st d0 dd
  have nd : d ≠ 0 := by grind
  have e : (t - s) / 2 * ((s + t) / 2) / d * d = (t - s) / 2 * ((s + t) / 2) := Rat.div_mul_cancel nd
  generalize (t - s) / 2 * ((s + t) / 2) / d = w at e l ⊢
  have key : (w + d - t) * d = (d - (t - s) / 2) * (d - (s + t) / 2) := by grind
  constructor
  · intro h
    have g2 : (w + d) / 2 < t / 2 := by
      refine Classical.byContradiction fun z => ?_
      have := Rat.mul_nonneg (show 0 ≤ w + d - t by grind) (Rat.le_of_lt d0)
      grind
    unfold kindOf
    rw [decide_eq_true l, if_pos rfl, decide_eq_false (show ¬ t / 2 < (w + d) / 2 by grind), decide_eq_true g2]
    rfl
  · intro h
    have g2 : t / 2 < (w + d) / 2 := by
      refine Classical.byContradiction fun z => ?_
      have := Rat.mul_nonneg (show 0 ≤ t - w - d by grind) (Rat.le_of_lt d0)
      grind
    unfold kindOf
    rw [decide_eq_true l, if_pos rfl, decide_eq_true g2]
    rfl
theorem kind_any {s t m n : Rat} : (m * m - n * n ≠ (t * t - s * s) / 4 → kindOf s t m n = "none") ∧ (m * m - n * n = (t * t - s * s) / 4 → kindOf s t m n = if decide (m = t / 2) = true then "both" else if decide (m < t / 2) = true then "part" else "crossed") := by
  constructor
  · intro h
    unfold kindOf
    rw [decide_eq_false h]
    rfl
  · intro h
    unfold kindOf
    rw [decide_eq_true h, if_pos rfl]
    by_cases g1 : t / 2 < m
    · rw [decide_eq_true g1, decide_eq_false (show ¬ m = t / 2 by grind), decide_eq_false (show ¬ m < t / 2 by grind)]
      rfl
    · by_cases g2 : m < t / 2
      · rw [decide_eq_false g1, decide_eq_true g2, decide_eq_false (show ¬ m = t / 2 by grind)]
        rfl
      · rw [decide_eq_false g1, decide_eq_false g2, decide_eq_true (show m = t / 2 by grind)]
        rfl
end Ty
namespace Ty
open PySem PySem.Spec PyProof.Rows L2
section
variable {J : It} {G : Hp → Prop} {xs : List V}
/-- [x for x in .. if f(x)]: the items as they are -/
theorem lc_filter (w : Walk J xs.length G (YAt xs)) {g : TG} {tt : TT} {te : TE} {vs : List Nat} {σ : L2.St} {H : Hp} {D : Addr} {Qd : Hp → Prop} {ds : List Da} (f : Da → Bool) (hx : IsAll H xs ds) (hn : xs.length ≤ 1000) (hD : H D = none) (hG : ∀ H', Same H H' → G H')
    (hs : ∀ (i : Nat) x d H1 (Q' : VK) (N : Hp → Prop), xs[i]? = some x → ds[i]? = some d → Same H H1 → (∀ H2, Same H1 H2 → if f d = true then Q' x H2 else N H2) →
      g x (wipe σ vs) H1 fun σ2 H3 => wipe σ2 vs = wipe σ vs ∧ tt σ2 H3 fun b H4 => if b = true then te σ2 H4 Q' else N H4)
    (k : ∀ H' ys, Same H H' → H' D = some (.lst ys) → IsAll H ys (ds.filter f) → Qd H') :
    ∃ W : Nat → Nat → Hp → Prop, (∃ m, W 0 m (upd H D (.lst []))) ∧ ∀ i m H, W i m H →
      (J.stop i H ∧ Qd H) ∨ (J.go i H ∧ ∃ Nx : Hp → Prop, (∀ H', Nx H' → ∃ m', m' < m ∧ W (i + 1) m' H') ∧ ∀ x H', J.yld i H x H' → g x (wipe σ vs) H' fun σ2 H2 => wipe σ2 vs = wipe σ vs ∧ tt σ2 H2 fun b H3 =>
        if b = true then te σ2 H3 fun y H4 => ∃ acc, H4 D = some (.lst acc) ∧ acc.length < sizeLine ∧ Nx (upd H4 D (.lst (acc ++ [y]))) else Nx H3) := by
  have len := hx.length
  refine lc_it w (fun i H' => Same H H' ∧ ∃ acc, H' D = some (.lst acc) ∧ acc.length ≤ i ∧ IsAll H acc ((ds.take i).filter f)) ⟨Same.new hD, [], upd_same, Nat.le_refl _, .nil⟩ (fun i H' _ p => hG H' p.1) ?_ ?_
  · rintro i x H1 H2 hi ⟨s1, acc, ha, hl, hall⟩ ⟨rfl, hxi⟩
    obtain ⟨d, hd, hi2⟩ := hx.at hxi
    refine hs i x d H2 _ _ hxi hd s1 fun H3 s3 => ?_
    have tk : (ds.take (i + 1)).filter f = (ds.take i).filter f ++ (if f d = true then [d] else []) := by
      rw [List.take_add_one, hd, List.filter_append]
      show _ ++ List.filter f [d] = _
      rw [List.filter_cons]
      rfl
    split
    · rename_i fd
      refine ⟨acc, s3 _ _ ha, Nat.lt_of_le_of_lt hl (Nat.lt_of_lt_of_le (show i < 1000 by omega) (by decide)), Same.mut (s1.trans s3) hD, _, upd_same, by rw [List.length_append]; show acc.length + 1 ≤ i + 1; omega, ?_⟩
      rw [tk, if_pos fd]
      exact hall.snoc hi2
    · rename_i fd
      refine ⟨s1.trans s3, acc, s3 _ _ ha, by omega, ?_⟩
      rw [tk, if_neg fd, List.append_nil]
      exact hall
  · rintro H' ⟨s1, acc, ha, hl, hall⟩
    rw [len, List.take_length] at hall
    exact k H' acc s1 ha hall
end
/-! ### promises of locks -/
def ptP (z : Rat × Rat) : Da := pt z.1 z.2
theorem crn_eq {o p a b c d : Rat} : crn o p a b c d = .tup ((crnL o p a b c d).map ptP) := by
  unfold crn crnL
  split <;> rfl
def spLockFor : Sp := fun vs H Q _ => ∃ u v s t n, vs = [u, v] ∧ Nz H u n s ∧ Nz H v n t ∧ 0 < s ∧ s < t ∧ 2 * n + 12 ≤ 8900 ∧ ∀ r H', Same H H' → New H H' r (pt ((5 * t + 3 * s) / 8) ((3 * t + 5 * s) / 8)) → Q r H'
def spNeedLen : Sp := fun vs H Q _ => ∃ u v w x k1 k2 k3 k4 s t m n, vs = [u, v, w, x] ∧ Nz H u k1 s ∧ Nz H v k2 t ∧ Nz H w k3 m ∧ Nz H x k4 n ∧ (k1 ≤ 8900 ∧ k2 ≤ 8900 ∧ k3 ≤ 8900 ∧ k4 ≤ 8900) ∧ 0 < s ∧ 0 < t ∧ 0 < m ∧ 0 < n ∧ ∀ H', Same H H' → Q .non H'
def spNeedLess : Sp := fun vs H Q _ => ∃ u v s t n, vs = [u, v] ∧ Nz H u n s ∧ Nz H v n t ∧ s < t ∧ n + n ≤ 8900 ∧ ∀ H', Same H H' → Q .non H'
def spApart : Sp := fun vs H Q _ => ∃ u v x z m, vs = [u, v] ∧ Nz H u m x ∧ Nz H v m z ∧ 2 * m + 4 ≤ 8900 ∧ ∀ r H', Same H H' → New H H' r (ofR ((z - x) / 4)) → Q r H'
/-- four numbers of a lock -/
def Lk (H : Hp) (us ut um un : V) (k l : Nat) (s t m n : Rat) : Prop := Nz H us k s ∧ Nz H ut k t ∧ Nz H um l m ∧ Nz H un l n
theorem Lk.up {H H' : Hp} {us ut um un : V} {k l : Nat} {s t m n : Rat} (h : Lk H us ut um un k l s t m n) (s' : Same H H') : Lk H' us ut um un k l s t m n := ⟨h.1.up s', h.2.1.up s', h.2.2.1.up s', h.2.2.2.up s'⟩
def spIsCL : Sp := fun vs H Q _ => ∃ us ut um un s t m n k l, vs = [us, ut, um, un] ∧ Lk H us ut um un k l s t m n ∧ 4 * k + 4 * l + 20 ≤ 8900 ∧ ∀ H', Same H H' → Q (.bl (decide (m * m - n * n = (t * t - s * s) / 4))) H'
def spKind : Sp := fun vs H Q _ => ∃ us ut um un s t m n k l, vs = [us, ut, um, un] ∧ Lk H us ut um un k l s t m n ∧ 4 * k + 4 * l + 20 ≤ 8900 ∧ 0 < s ∧ s < t ∧ 0 < m ∧ 0 < n ∧ ∀ H', Same H H' → Q (.str (kindOf s t m n)) H'
def spRoom : Sp := fun vs H Q _ => ∃ vo va vc vb vq o p a b x y c d q k l n, vs = [vo, va, vc, vb, vq] ∧ Pm H vo n o p ∧ Pm H va n a b ∧ Is H vc (pt x y) ∧ Pm H vc l x y ∧ Pm H vb n c d ∧ Nz H vq k q ∧ Is H vq (ofR q) ∧ (o ≠ c ∨ p ≠ d) ∧ (12 * n + 4 * l + 32 ≤ 8900 ∧ 8 * n + 5 ≤ 8000 ∧ k + 1900 ≤ 8900) ∧ Sz 1900 (wd o p a b x y c d) ∧
  ∀ H', Same H H' → Q (.bl (pkRoom q o p a b c d x y)) H'
/-- the corners that a lock lets -/
def letD (m n o p a b c d : Rat) : List Da := ((crnL o p a b c d).filter (rm m n o p a b c d)).map ptP
def spLocked : Sp := fun vs H Q _ => ∃ us ut um un vo va vb s t m n o p a b c d, vs = [us, ut, um, un, vo, va, vb] ∧ Lk H us ut um un 28 400 s t m n ∧ Pm H vo 28 o p ∧ Pm H va 28 a b ∧ Pm H vb 28 c d ∧ Frame s t o p a b c d ∧ 0 < m ∧ 0 < n ∧
  ∀ r H', Same H H' → Is H' r (.tup (letD m n o p a b c d)) → Q r H'
section
variable {H : Hp}
theorem nz_three : Nz H (.int 3) 2 3 := nz_int (i := 3) (by decide) (by decide)
theorem nz_five : Nz H (.int 5) 3 5 := nz_int (i := 5) (by decide) (by decide)
theorem nz_eight : Nz H (.int 8) 4 8 := nz_int (i := 8) (by decide) (by decide)
theorem nzK_eighth {K : PySem.W.Frag} {a : Addr} (h : KTup K a 1 8) : NzK K H (.ref a) 4 (Rat.divInt 1 8) := ⟨by decide, ⟨.tup [.int 1, .int 8], .inr ⟨a, 1, 8, rfl, h, rfl⟩, by decide, rfl⟩, sz_low (by decide) (by decide) (by decide)⟩
end
theorem eighth_eq {x : Rat} : Rat.divInt 1 8 * x = x / 8 := by
  have h2 : Rat.divInt 1 8 = 1 / 8 := by rw [Rat.divInt_eq_div]; rfl
  rw [h2]
  grind
theorem half_eq {x : Rat} : Rat.divInt 1 2 * x = x / 2 := by
  have h2 : Rat.divInt 1 2 = 1 / 2 := by rw [Rat.divInt_eq_div]; rfl
  rw [h2]
  grind
/-- sizes of what corners give -/
theorem crnL_sz {s t o p a b c d : Rat} (fr : Frame s t o p a b c d) (zt : Sz 28 t) (zo : Sz 28 o) (zp : Sz 28 p) (za : Sz 28 a) (zb : Sz 28 b) (zc : Sz 28 c) (zd : Sz 28 d) {z : Rat × Rat} (h : z ∈ crnL o p a b c d) :
    Sz 836 z.1 ∧ Sz 836 z.2 ∧ Sz 1900 (wd o p a b z.1 z.2 c d) := by
  have z1 : Sz 86 (a + (c - o)) := za.add (zc.sub zo)
  have z2 : Sz 86 (b + (d - p)) := zb.add (zd.sub zp)
  obtain ⟨m1, m2⟩ := sz_mir z1 z2 za zb zc zd fr.apart
  have par : ∀ w, w = (a + (c - o), b + (d - p)) → Sz 836 w.1 ∧ Sz 836 w.2 ∧ Sz 1900 (wd o p a b w.1 w.2 c d) := by
    rintro _ rfl
    exact ⟨z1.more (by decide), z2.more (by decide), by show Sz 1900 (wd o p a b (a + (c - o)) (b + (d - p)) c d); rw [(wd_par fr).1]; exact (sz_sq4 zt).more (by decide)⟩
  unfold crnL at h
  split at h
  · exact par z (List.mem_singleton.mp h)
  · rcases List.mem_cons.mp h with h | h
    · exact par z h
    · rw [List.mem_singleton.mp h]
      exact ⟨m1, m2, (sz_wd_mir zo zp za zb zc zd fr.apart).more (by decide)⟩
/-! promises of what the law reckons itself -/
def spCrnL : Sp := fun vs H Q _ => ∃ u v t o p a b c d n, vs = [u, v, t] ∧ Pm H u n o p ∧ Pm H v n a b ∧ Pm H t n c d ∧ (a ≠ c ∨ b ≠ d) ∧ 29 * n + 24 ≤ 8900 ∧ ∀ r H', Same H H' → New H H' r (.lst ((crnL o p a b c d).map ptP)) → Q r H'
def spOwnRoom : Sp := fun vs H Q _ => ∃ vo va vc vb vm vn o p a b x y c d m n, vs = [vo, va, vc, vb, vm, vn] ∧ Pm H vo 28 o p ∧ Pm H va 28 a b ∧ Pm H vc 836 x y ∧ Pm H vb 28 c d ∧ Nz H vm 400 m ∧ Nz H vn 400 n ∧ ∀ H', Same H H' → Q (.bl (rm m n o p a b c d (x, y))) H'
def spGoes : Sp := fun vs H Q _ => ∃ kind isc flat room vw vh wide high k l, vs = [.str kind, .bl isc, .bl flat, .bl room, vw, vh] ∧ Nz H vw k wide ∧ Nz H vh l high ∧ l + k ≤ 8900 ∧ ∀ H', Same H H' → Q (.bl (goesWith kind isc flat room wide high)) H'
section
variable {H H1 : Hp} {u v : V} {d e : Da}
theorem New.lst1' {p : Addr} (s : Same H H1) (hp : H1 p = none) (a : New H H1 v d) : New H (upd H1 p (.lst [v])) (.ref p) (.lst [d]) := fun S l =>
  .lst (mn_put (l.more s) hp) (.cons ((a S l).up (Same.less (Same.new hp))) .nil)
theorem New.lst2' {p : Addr} (s : Same H H1) (hp : H1 p = none) (a : New H H1 v d) (b : New H H1 u e) : New H (upd H1 p (.lst [v, u])) (.ref p) (.lst [d, e]) := fun S l =>
  .lst (mn_put (l.more s) hp) (.cons ((a S l).up (Same.less (Same.new hp))) (.cons ((b S l).up (Same.less (Same.new hp))) .nil))
end
/-! a list made beside a jar -/
theorem mn_wth {S : Addr → Bool} {D : Addr} {H : Hp} (h : H D = none) : Same (mn S H) (mn (wth S D) H) := fun b o e => by
  obtain ⟨e1, e2⟩ := mn_of e
  have bD : b ≠ D := fun z => by rw [z, h] at e2; cases e2
  rw [mn_at]
  · exact e2
  · unfold wth
    rw [e1, decide_eq_false bD]
    rfl
section
variable {J : It} {n : Nat} {G : Hp → Prop} {Y : Nat → Hp → V → Hp → Prop} {S : Addr → Bool}
theorem lc_mapS (w : Walk J n G Y) {g : TG} {tt : TT} {te : TE} {vs : List Nat} {σ : L2.St} {H : Hp} {D : Addr} {Qd : Hp → Prop} (f : Nat → Da) (hn : n ≤ 1000) (hD : H D = none) (hG : ∀ H', Same H H' → G H')
    (hs : ∀ m x H1 H2 (Q' : VK) (N : Hp → Prop), m < n → Same H H1 → H1 D ≠ none → Y m H1 x H2 → (∀ y H4, Same H1 H4 → Is (mn (wth S D) H4) y (f m) → Q' y H4) →
      g x (wipe σ vs) H2 fun σ2 H3 => wipe σ2 vs = wipe σ vs ∧ tt σ2 H3 fun b H4 => if b = true then te σ2 H4 Q' else N H4)
    (k : ∀ H' ys, Same H H' → H' D = some (.lst ys) → ys.length = n → IsAll (mn (wth S D) H') ys ((List.range n).map f) → Qd H') :
    ∃ W : Nat → Nat → Hp → Prop, (∃ m, W 0 m (upd H D (.lst []))) ∧ ∀ i m H, W i m H →
      (J.stop i H ∧ Qd H) ∨ (J.go i H ∧ ∃ Nx : Hp → Prop, (∀ H', Nx H' → ∃ m', m' < m ∧ W (i + 1) m' H') ∧ ∀ x H', J.yld i H x H' → g x (wipe σ vs) H' fun σ2 H2 => wipe σ2 vs = wipe σ vs ∧ tt σ2 H2 fun b H3 =>
        if b = true then te σ2 H3 fun y H4 => ∃ acc, H4 D = some (.lst acc) ∧ acc.length < sizeLine ∧ Nx (upd H4 D (.lst (acc ++ [y]))) else Nx H3) := by
  refine lc_it w (fun i H' => Same H H' ∧ ∃ acc, H' D = some (.lst acc) ∧ acc.length = i ∧ IsAll (mn (wth S D) H') acc ((List.range i).map f)) ⟨Same.new hD, [], upd_same, rfl, .nil⟩ (fun i H' _ p => hG H' p.1) ?_ ?_
  · rintro i x H1 H2 hi ⟨s1, acc, ha, hl, hall⟩ y
    refine hs i x H1 H2 _ _ hi s1 (by rw [ha]; exact nofun) y fun v H4 s4 nv => ⟨acc, s4 _ _ ha, by rw [hl]; exact Nat.lt_of_lt_of_le (show i < 1001 by omega) (by decide), Same.mut (s1.trans s4) hD, _, upd_same, by rw [List.length_append, hl]; rfl, ?_⟩
    rw [List.range_succ, List.map_append]
    exact (((hall.up (Same.less s4)).snoc nv)).up wth_put
  · rintro H' ⟨s1, acc, ha, hl, hall⟩
    exact k H' acc s1 ha hl hall
end
def spLockR : Sp := fun vs H Q _ => ∃ (S : Addr → Bool) (j bk : Addr) (i : Nat) (u v : V) (s t : Rat), vs = [.ref j, u, v] ∧ S j = true ∧ Live S H ∧ Jar j bk H i ∧ i + 5 ≤ 100000 ∧ Is (mn S H) u (ofR s) ∧ Is (mn S H) v (ofR t) ∧ 0 < s ∧ s < t ∧ Sz 28 s ∧ Sz 28 t ∧
  ∀ w m n H', Keep j H H' → Live S H' → Jar j bk H' (i + 5) → Is (mn S H') w (.tup [ofR m, ofR n, .str (kindOf s t m n)]) → 0 < m → 0 < n → Sz 400 m → Sz 400 n → Q w H'
/-- the number itself where it is above 0, else 1 less it -/
def posR (x : Rat) : Rat := if decide (0 < x) = true then x else 1 - x
theorem posR_pos {x : Rat} : 0 < posR x := by
  unfold posR
  split
  · rename_i h; exact of_decide_eq_true h
  · rename_i h
    have h' : ¬ 0 < x := fun z => h (decide_eq_true z)
    grind
theorem posR_sz {x : Rat} (h : Sz 3 x) : Sz 5 (posR x) := by
  unfold posR
  split
  · exact h.more (by decide)
  · exact sz_one.sub h
/-! what is shown and compared -/
theorem kind_okr {s t m n : Rat} : okr (.lst [.str (kindOf s t m n), .str (kindOf s t m n)]) = true := by
  unfold kindOf
  split
  · split
    · decide +kernel
    · split <;> decide +kernel
  · decide +kernel
theorem pts_show : ∀ (l : List (Rat × Rat)), (∀ z ∈ l, Sz 836 z.1 ∧ Sz 836 z.2) → numsA (l.map ptP) = true ∧ dpA (l.map ptP) ≤ 2 ∧ wtA (l.map ptP) ≤ l.length * 8016
  | [], _ => ⟨rfl, Nat.zero_le _, Nat.zero_le _⟩
  | z :: l, h => by
    obtain ⟨z1, z2⟩ := h z List.mem_cons_self
    obtain ⟨a1, a2, a3⟩ := pt_show (pt_pt (x := z.1) (y := z.2)) (z1.more (by decide)) (z2.more (by decide))
    obtain ⟨b1, b2, b3⟩ := pts_show l fun w hw => h w (List.mem_cons_of_mem _ hw)
    refine ⟨?_, ?_, ?_⟩
    · show (nums (pt z.1 z.2) && numsA (l.map ptP)) = true
      rw [a1, b1]
      rfl
    · show max (dp (pt z.1 z.2)) (dpA (l.map ptP)) ≤ 2
      omega
    · show wt (pt z.1 z.2) + 2 + wtA (l.map ptP) ≤ (l.length + 1) * 8016
      omega
theorem crnL_len {o p a b c d : Rat} : (crnL o p a b c d).length ≤ 2 := by
  unfold crnL
  split
  · show 1 ≤ 2; decide
  · show 2 ≤ 2; decide
theorem let_okr {m n o p a b c d : Rat} (h : ∀ z ∈ crnL o p a b c d, Sz 836 z.1 ∧ Sz 836 z.2) : okr (.lst [.tup (letD m n o p a b c d), .tup (letD m n o p a b c d)]) = true := by
  obtain ⟨a1, a2, a3⟩ := pts_show ((crnL o p a b c d).filter (rm m n o p a b c d)) fun z hz => h z (List.mem_filter.mp hz).1
  have ln : ((crnL o p a b c d).filter (rm m n o p a b c d)).length ≤ 2 := Nat.le_trans (List.length_filter_le _ _) crnL_len
  have a3' : wtA (letD m n o p a b c d) ≤ 16032 := Nat.le_trans a3 (Nat.mul_le_mul_right 8016 ln)
  have a1' : numsA (letD m n o p a b c d) = true := a1
  have a2' : dpA (letD m n o p a b c d) ≤ 2 := a2
  generalize letD m n o p a b c d = l at *
  have e1 : nums (.lst [.tup l, .tup l]) = true := by
    show (numsA l && (numsA l && true)) = true
    rw [a1']
    rfl
  have e2 : dp (.lst [.tup l, .tup l]) ≤ 60 := by
    show max (dpA l + 1) (max (dpA l + 1) 0) + 1 ≤ 60
    omega
  have e3 : wt (.lst [.tup l, .tup l]) ≤ 16000000 := by
    show wtA l + 10 + 2 + (wtA l + 10 + 2 + 0) + 10 ≤ 16000000
    omega
  unfold okr
  rw [e1, decide_eq_true e2, decide_eq_true e3]
  rfl
theorem pts_plain : ∀ (l : List (Rat × Rat)), plainA (l.map ptP) = true ∧ dpA (l.map ptP) ≤ 2
  | [] => ⟨rfl, Nat.zero_le _⟩
  | z :: l => by
    obtain ⟨a1, a2⟩ := plain_pt (x := z.1) (y := z.2)
    obtain ⟨b1, b2⟩ := pts_plain l
    constructor
    · show (plain (pt z.1 z.2) && plainA (l.map ptP)) = true
      rw [a1, b1]
      rfl
    · show max (dp (pt z.1 z.2)) (dpA (l.map ptP)) ≤ 2
      omega
theorem any_pts (z : Rat × Rat) : ∀ (l : List (Rat × Rat)), (pdA (l.map ptP)).any (fun w => PyData.eqv w (pd (ptP z))) = decide (z ∈ l)
  | [] => by rw [decide_eq_false List.not_mem_nil]; rfl
  | y :: l => by
    show (PyData.eqv (pd (pt y.1 y.2)) (pd (pt z.1 z.2)) || (pdA (l.map ptP)).any fun w => PyData.eqv w (pd (ptP z))) = _
    rw [any_pts z l, eqv_pt]
    by_cases h : z = y
    · subst h
      rw [decide_eq_true ⟨rfl, rfl⟩, decide_eq_true List.mem_cons_self]
      rfl
    · rw [decide_eq_false (fun w => h (Prod.ext w.1.symm w.2.symm)), Bool.false_or]
      exact decide_eq_decide.mpr ⟨fun w => List.mem_cons_of_mem _ w, fun w => (List.mem_cons.mp w).resolve_left h⟩
theorem any_in {m n o p a b c d : Rat} {z : Rat × Rat} (h : z ∈ crnL o p a b c d) : (pdA (letD m n o p a b c d)).any (fun w => PyData.eqv w (pd (ptP z))) = rm m n o p a b c d z := by
  unfold letD
  rw [any_pts]
  cases e : rm m n o p a b c d z with
  | true => exact decide_eq_true (List.mem_filter.mpr ⟨h, e⟩)
  | false => exact decide_eq_false fun w => by rw [(List.mem_filter.mp w).2] at e; cases e
/-- in due: the parts -/
theorem in_let {K : PySem.W.Frag} {H : Hp} {u v : V} {m n o p a b c d : Rat} {z : Rat × Rat} (h : z ∈ crnL o p a b c d) (hu : Is H u (ptP z)) (hv : Is H v (.lst (letD m n o p a b c d))) :
    ∃ d' ds, Dp K H u d' ∧ Dp K H v (.list ds) ∧ SeqAt.shaped d' = true ∧ SeqAt.shaped (.list ds) = true ∧ (ds.any fun w => PyData.eqv w d') = rm m n o p a b c d z := by
  obtain ⟨a1, a2⟩ := plain_pt (x := z.1) (y := z.2)
  obtain ⟨b1, b2⟩ := pts_plain ((crnL o p a b c d).filter (rm m n o p a b c d))
  have pl : plain (.lst (letD m n o p a b c d)) = true := b1
  have dl : dp (.lst (letD m n o p a b c d)) ≤ 60 := by
    show dpA (letD m n o p a b c d) + 1 ≤ 60
    have : dpA (letD m n o p a b c d) ≤ 2 := b2
    omega
  exact ⟨_, _, Is.dpP _ u hu a1, Is.dpP _ v hv pl, shaped_plain a1 (by show dp (pt z.1 z.2) ≤ 60; omega), shaped_plain pl dl, any_in h⟩
/-- an opening, sizes told closer -/
def openQ (d : Da) : Prop := ∃ s t o p a b c e, d = .tup [ofR s, ofR t, pt o p, pt a b, pt c e] ∧ Frame s t o p a b c e ∧ (Sz 3 s ∧ Sz 7 t ∧ Sz 3 o ∧ Sz 3 p ∧ Sz 28 a ∧ Sz 28 b ∧ Sz 28 c ∧ Sz 28 e)
theorem units65 {k : Nat} {A : Around} (r : Room k A) : A.units + 65 < cLine := by have := r.un; omega
end Ty

namespace Mi
open PySem PySem.Spec PyProof.Rows L2 Ty
/-! ### the mirror's values: data that never changes; places of what changes; caught errors -/
inductive Dv where
  | non
  | bl (b : Bool)
  | int (i : Int)
  | str (x : Str)
  | tup (l : List Dv)
  | lst (l : List Dv)
  | dic
  | dik (l : List (Int × Int))
  | loc (n : Nat)
  | scr (l : List Dv)
  | ty (n : String)
  | cls (c : Nat)
  | fn (a : Addr)
  | exc (c : Nat) (ns : List Str) (vs : List Dv)
  | rep (d : Dv)
/-- what stands at a place -/
inductive Ob where
  | lst (l : List Dv)
  | del
mutual
def beqD : Dv → Dv → Bool
  | .non, .non => true
  | .bl a, .bl b => a == b
  | .int a, .int b => decide (a = b)
  | .str a, .str b => decide (a = b)
  | .tup a, .tup b => beqDs a b
  | .lst a, .lst b => beqDs a b
  | .dic, .dic => true
  | .dik a, .dik b => decide (a = b)
  | .rep a, .rep b => beqD a b
  | _, _ => false
def beqDs : List Dv → List Dv → Bool
  | [], [] => true
  | a :: l, b :: r => beqD a b && beqDs l r
  | _, _ => false
end
mutual
theorem beqD_eq : ∀ a b : Dv, beqD a b = true → a = b
  | .non, b, h => by cases b <;> first | rfl | cases h
  | .bl a, b, h => by
    cases b with
    | bl b => rw [show a = b from by simpa [beqD] using h]
    | _ => cases h
  | .int a, b, h => by
    cases b with
    | int b => rw [show a = b from of_decide_eq_true h]
    | _ => cases h
  | .str a, b, h => by
    cases b with
    | str b => rw [show a = b from of_decide_eq_true h]
    | _ => cases h
  | .tup a, b, h => by
    cases b with
    | tup b => rw [beqDs_eq a b h]
    | _ => cases h
  | .lst a, b, h => by
    cases b with
    | lst b => rw [beqDs_eq a b h]
    | _ => cases h
  | .dic, b, h => by cases b <;> first | rfl | cases h
  | .dik a, b, h => by
    cases b with
    | dik b => rw [show a = b from of_decide_eq_true h]
    | _ => cases h
  | .rep a, b, h => by
    cases b with
    | rep b => rw [beqD_eq a b h]
    | _ => cases h
  | .loc _, b, h => by cases b <;> cases h
  | .scr _, b, h => by cases b <;> cases h
  | .ty _, b, h => by cases b <;> cases h
  | .cls _, b, h => by cases b <;> cases h
  | .fn _, b, h => by cases b <;> cases h
  | .exc _ _ _, b, h => by cases b <;> cases h
theorem beqDs_eq : ∀ a b : List Dv, beqDs a b = true → a = b
  | [], b, h => by cases b <;> first | rfl | cases h
  | x :: l, b, h => by
    cases b with
    | nil => cases h
    | cons y r =>
      have h' : (beqD x y && beqDs l r) = true := h
      rw [Bool.and_eq_true] at h'
      rw [beqD_eq x y h'.1, beqDs_eq l r h'.2]
end
mutual
/-- the text's data -/
def pdv : Dv → PyData
  | .non => .none
  | .bl b => .bool b
  | .int i => .int i
  | .str x => .str x
  | .tup l => .tuple (pdvs l)
  | .lst l => .list (pdvs l)
  | .rep d => .str (pdv d).shown
  | .dik l => .dict (l.map fun p => (.int p.1, .int p.2))
  | _ => .none
def pdvs : List Dv → List PyData
  | [] => []
  | d :: l => pdv d :: pdvs l
end
mutual
/-- it is such data -/
def isDv : Dv → Bool
  | .non => true | .bl _ => true | .int _ => true | .str x => PyData.strOk x
  | .tup l => isDvs l
  | .lst l => isDvs l
  | _ => false
def isDvs : List Dv → Bool
  | [] => true
  | d :: l => isDv d && isDvs l
end
mutual
/-- .. whatever its texts -/
def dtv : Dv → Bool
  | .non => true | .bl _ => true | .int _ => true | .str _ => true
  | .tup l => dtvs l
  | .lst l => dtvs l
  | _ => false
def dtvs : List Dv → Bool
  | [] => true
  | d :: l => dtv d && dtvs l
end
mutual
theorem isDv_dt : ∀ d : Dv, isDv d = true → dtv d = true
  | .non, _ => rfl
  | .bl _, _ => rfl
  | .int _, _ => rfl
  | .str _, _ => rfl
  | .tup l, h => isDvs_dt l h
  | .lst l, h => isDvs_dt l h
  | .dic, h => by cases h
  | .dik _, h => by cases h
  | .loc _, h => by cases h
  | .scr _, h => by cases h
  | .ty _, h => by cases h
  | .cls _, h => by cases h
  | .fn _, h => by cases h
  | .exc _ _ _, h => by cases h
  | .rep _, h => by cases h
theorem isDvs_dt : ∀ l : List Dv, isDvs l = true → dtvs l = true
  | [], _ => rfl
  | d :: l, h => by
    have h' : (isDv d && isDvs l) = true := h
    rw [Bool.and_eq_true] at h'
    show (dtv d && dtvs l) = true
    rw [isDv_dt d h'.1, isDvs_dt l h'.2]
    rfl
end
mutual
def dpv : Dv → Nat
  | .dik _ => 1
  | .tup l => dpvs l + 1
  | .lst l => dpvs l + 1
  | _ => 0
def dpvs : List Dv → Nat
  | [] => 0
  | d :: l => max (dpv d) (dpvs l)
end
mutual
def wtv : Dv → Nat
  | .int _ => 1930
  | .str x => (reprText x).length
  | .tup l => wtvs l + 10
  | .lst l => wtvs l + 10
  | _ => 10
def wtvs : List Dv → Nat
  | [] => 0
  | d :: l => wtv d + 2 + wtvs l
end
mutual
/-- it can be shown: no integer of 1920 bits, no dict -/
def numv : Dv → Bool
  | .int i => decide (i.natAbs.log2 < 1920)
  | .tup l => numvs l
  | .lst l => numvs l
  | .non => true | .bl _ => true | .str _ => true
  | _ => false
def numvs : List Dv → Bool
  | [] => true
  | d :: l => numv d && numvs l
end
mutual
theorem numv_is : ∀ d : Dv, numv d = true → dtv d = true
  | .non, _ => rfl
  | .bl _, _ => rfl
  | .int _, _ => rfl
  | .str _, _ => rfl
  | .tup l, h => numvs_is l h
  | .lst l, h => numvs_is l h
  | .dic, h => by cases h
  | .dik _, h => by cases h
  | .loc _, h => by cases h
  | .scr _, h => by cases h
  | .ty _, h => by cases h
  | .cls _, h => by cases h
  | .fn _, h => by cases h
  | .exc _ _ _, h => by cases h
  | .rep _, h => by cases h
theorem numvs_is : ∀ l : List Dv, numvs l = true → dtvs l = true
  | [], _ => rfl
  | d :: l, h => by
    have h' : (numv d && numvs l) = true := h
    rw [Bool.and_eq_true] at h'
    show (dtv d && dtvs l) = true
    rw [numv_is d h'.1, numvs_is l h'.2]
    rfl
end
mutual
theorem numv_show : ∀ d : Dv, numv d = true → (pdv d).showable = true ∧ (pdv d).hasDict = false
  | .non, _ => ⟨rfl, rfl⟩
  | .bl _, _ => ⟨rfl, rfl⟩
  | .int i, h => ⟨h, rfl⟩
  | .str _, _ => ⟨rfl, rfl⟩
  | .tup l, h => numvs_show l h
  | .lst l, h => numvs_show l h
  | .dic, h => by cases h
  | .dik _, h => by cases h
  | .loc _, h => by cases h
  | .scr _, h => by cases h
  | .ty _, h => by cases h
  | .cls _, h => by cases h
  | .fn _, h => by cases h
  | .exc _ _ _, h => by cases h
  | .rep _, h => by cases h
theorem numvs_show : ∀ l : List Dv, numvs l = true → PyData.showableAll (pdvs l) = true ∧ PyData.hasDictAll (pdvs l) = false
  | [], _ => ⟨rfl, rfl⟩
  | d :: l, h => by
    have h' : (numv d && numvs l) = true := h
    rw [Bool.and_eq_true] at h'
    obtain ⟨a1, a2⟩ := numv_show d h'.1
    obtain ⟨b1, b2⟩ := numvs_show l h'.2
    constructor
    · show (PyData.showable (pdv d) && PyData.showableAll (pdvs l)) = true
      rw [a1, b1]
      rfl
    · show (PyData.hasDict (pdv d) || PyData.hasDictAll (pdvs l)) = false
      rw [a2, b2]
      rfl
end
theorem depth_ik : ∀ l : List (Int × Int), PyData.depthKv (l.map fun p => (PyData.int p.1, PyData.int p.2)) = 0
  | [] => rfl
  | p :: l => by
    show max (max 0 0) (PyData.depthKv (l.map fun p => (PyData.int p.1, PyData.int p.2))) = 0
    rw [depth_ik l]
    rfl
mutual
theorem dpv_eq : ∀ d : Dv, PyData.depth (pdv d) = dpv d
  | .non => rfl
  | .bl _ => rfl
  | .int _ => rfl
  | .str _ => rfl
  | .tup l => by
    show PyData.depthAll (pdvs l) + 1 = dpvs l + 1
    rw [dpvs_eq l]
  | .lst l => by
    show PyData.depthAll (pdvs l) + 1 = dpvs l + 1
    rw [dpvs_eq l]
  | .dic => rfl
  | .dik l => by
    show PyData.depthKv (l.map fun p => (PyData.int p.1, PyData.int p.2)) + 1 = 1
    rw [depth_ik l]
  | .loc _ => rfl
  | .scr _ => rfl
  | .ty _ => rfl
  | .cls _ => rfl
  | .fn _ => rfl
  | .exc _ _ _ => rfl
  | .rep _ => rfl
theorem dpvs_eq : ∀ l : List Dv, PyData.depthAll (pdvs l) = dpvs l
  | [] => rfl
  | d :: l => by
    show max (PyData.depth (pdv d)) (PyData.depthAll (pdvs l)) = max (dpv d) (dpvs l)
    rw [dpv_eq d, dpvs_eq l]
end
theorem wtvs_sum : ∀ l : List Dv, (∀ d ∈ l, (PyData.shown (pdv d)).length ≤ wtv d) → ((PyData.shownAll (pdvs l)).map (·.length)).sum + 2 * (PyData.shownAll (pdvs l)).length ≤ wtvs l
  | [], _ => Nat.le_refl _
  | d :: l, h => by
    have h1 := h d List.mem_cons_self
    have h2 := wtvs_sum l fun e he => h e (List.mem_cons_of_mem _ he)
    show ((PyData.shown (pdv d) :: PyData.shownAll (pdvs l)).map (·.length)).sum + 2 * (PyData.shown (pdv d) :: PyData.shownAll (pdvs l)).length ≤ wtv d + 2 + wtvs l
    rw [List.map_cons, List.sum_cons, List.length_cons]
    omega
mutual
theorem shown_wtv : ∀ d : Dv, numv d = true → (PyData.shown (pdv d)).length ≤ wtv d
  | .non, _ => by show (PyData.shown .none).length ≤ 10; decide +kernel
  | .bl b, _ => by
    cases b
    · show (PyData.shown (.bool false)).length ≤ 10; decide +kernel
    · show (PyData.shown (.bool true)).length ≤ 10; decide +kernel
  | .int i, h => by
    have h1 := PySem.int_text_length_le (a := i) (k := 1920) (by decide) (of_decide_eq_true h)
    show (PySem.Str.ofString (toString i)).length ≤ 1930
    rw [PySem.ofString_length]
    omega
  | .str x, _ => Nat.le_refl _
  | .tup l, h => by
    have h1 := wtvs_sum l (shown_wtvs l h)
    have h2 := tupleText_len_le (PyData.shownAll (pdvs l))
    show (tupleText (PyData.shownAll (pdvs l))).length ≤ wtvs l + 10
    omega
  | .lst l, h => by
    have h1 := wtvs_sum l (shown_wtvs l h)
    have h2 := listText_len_le (PyData.shownAll (pdvs l))
    show (listText (PyData.shownAll (pdvs l))).length ≤ wtvs l + 10
    omega
  | .dic, h => by cases h
  | .dik _, h => by cases h
  | .loc _, h => by cases h
  | .scr _, h => by cases h
  | .ty _, h => by cases h
  | .cls _, h => by cases h
  | .fn _, h => by cases h
  | .exc _ _ _, h => by cases h
  | .rep _, h => by cases h
theorem shown_wtvs : ∀ l : List Dv, numvs l = true → ∀ d ∈ l, (PyData.shown (pdv d)).length ≤ wtv d
  | [], _, d, hd => by cases hd
  | e :: l, h, d, hd => by
    have h' : (numv e && numvs l) = true := h
    rw [Bool.and_eq_true] at h'
    cases hd with
    | head => exact shown_wtv e h'.1
    | tail _ hd => exact shown_wtvs l h'.2 d hd
end
def okv (d : Dv) : Bool := numv d && (decide (dpv d ≤ 60) && decide (wtv d ≤ 16000000))
mutual
theorem eqv_refl : ∀ d : Dv, isDv d = true → PyData.eqv (pdv d) (pdv d) = true
  | .non, _ => rfl
  | .bl b, _ => by cases b <;> rfl
  | .int i, _ => by show (i == i) = true; simp
  | .str x, _ => by show (x == x) = true; simp
  | .rep _, h => by cases h
  | .tup l, h => eqvs_refl l h
  | .lst l, h => eqvs_refl l h
  | .dic, h => by cases h
  | .dik _, h => by cases h
  | .loc _, h => by cases h
  | .scr _, h => by cases h
  | .ty _, h => by cases h
  | .cls _, h => by cases h
  | .fn _, h => by cases h
  | .exc _ _ _, h => by cases h
theorem eqvs_refl : ∀ l : List Dv, isDvs l = true → PyData.eqvAll (pdvs l) (pdvs l) = true
  | [], _ => rfl
  | d :: l, h => by
    have h' : (isDv d && isDvs l) = true := h
    rw [Bool.and_eq_true] at h'
    show (PyData.eqv (pdv d) (pdv d) && PyData.eqvAll (pdvs l) (pdvs l)) = true
    rw [eqv_refl d h'.1, eqvs_refl l h'.2]
    rfl
end
mutual
theorem canLay_v : ∀ d : Dv, isDv d = true → (pdv d).canLay0 = true
  | .non, _ => rfl
  | .bl _, _ => rfl
  | .int _, _ => rfl
  | .str x, h => by
    show (PyData.str x).canLay0 = true
    simpa [PyData.canLay0, isDv] using h
  | .rep _, h => by cases h
  | .tup l, h => by
    show (PyData.tuple (pdvs l)).canLay0 = true
    simpa [PyData.canLay0] using canLay_vs l h
  | .lst l, h => by
    show (PyData.list (pdvs l)).canLay0 = true
    simpa [PyData.canLay0] using canLay_vs l h
  | .dic, h => by cases h
  | .dik _, h => by cases h
  | .loc _, h => by cases h
  | .scr _, h => by cases h
  | .ty _, h => by cases h
  | .cls _, h => by cases h
  | .fn _, h => by cases h
  | .exc _ _ _, h => by cases h
theorem canLay_vs : ∀ l : List Dv, isDvs l = true → PyData.canLayAll0 (pdvs l) = true
  | [], _ => rfl
  | d :: l, h => by
    have h' : (isDv d && isDvs l) = true := h
    rw [Bool.and_eq_true] at h'
    have e1 := canLay_v d h'.1
    have e2 := canLay_vs l h'.2
    show PyData.canLayAll0 (pdv d :: pdvs l) = true
    simp [PyData.canLayAll0, e1, e2]
end
theorem shaped_v {d : Dv} (h : isDv d = true) (h2 : dpv d ≤ 60) : SeqAt.shaped (pdv d) = true := by
  unfold SeqAt.shaped
  rw [canLay_v d h, dpv_eq d, decide_eq_true (by omega : dpv d ≤ 64)]
  rfl
end Mi

namespace Mi
open PySem PySem.Spec PyProof.Rows L2 Ty
/-! ### how the mirror's values stand in the heap -/
/-- where places stand: the addresses of what changes; S: addresses that nobody tells of -/
structure Ev where
  K : PySem.W.Frag
  S : Addr → Bool
  φ : List Addr
  /-- where the classes stand; the tables of code objects -/
  ct : (Nat → Addr) × List (Addr × Str)
/-- a list that is never written: locked, or of the written part -/
def SqF (K : PySem.W.Frag) (H : Hp) (a : Addr) (xs : List V) : Prop := (∃ o, H a = some (.frz o (.lst xs))) ∨ (SqL K (fun _ => none) a xs)
theorem SqF.sql {K : PySem.W.Frag} {H : Hp} {a : Addr} {xs : List V} (h : SqF K H a xs) : SqL K H a xs := by
  rcases h with ⟨o, h⟩ | (h | h)
  · exact .inl (.inr ⟨o, h⟩)
  · rcases h with h | ⟨o, h⟩ <;> cases h
  · exact .inr h
/-- a tuple: tracked, or of the written part -/
def SqK (K : PySem.W.Frag) (H : Hp) (a : Addr) (xs : List V) : Prop := H a = some (.tup xs) ∨ ∃ o its n, K.lookup a = some o ∧ o.cls = .type "tuple" ∧ o.data = .seq its n ∧ its.size ≤ sizeLine ∧ Vals xs its.toList
theorem SqK.sqt {K : PySem.W.Frag} {H : Hp} {a : Addr} {xs : List V} (h : SqK K H a xs) : SqT K H a xs := by
  rcases h with h | ⟨o, its, n, h1, h2, h3, h4, h5⟩
  · exact .of h
  · exact .inr ⟨o, its, n, h1, h2, h3, h4, h5⟩
theorem SqK.of {K : PySem.W.Frag} {H : Hp} {a : Addr} {xs : List V} (h : H a = some (.tup xs)) : SqK K H a xs := .inl h
/-- not free: S, or a place -/
def Ev.out (e : Ev) (a : Addr) : Prop := e.S a = true ∨ a ∈ e.φ
mutual
inductive Rv (e : Ev) (H : Hp) : V → Dv → Prop
  | non : Rv e H .non .non
  | bl (b : Bool) : Rv e H (.bl b) (.bl b)
  | int (i : Int) : Rv e H (.int i) (.int i)
  | str (x : Str) : Rv e H (.str x) (.str x)
  | tup {a : Addr} {xs : List V} {ds : List Dv} : SqK e.K H a xs → Rvs e H xs ds → Rv e H (.ref a) (.tup ds)
  | lst {a : Addr} {xs : List V} {ds : List Dv} : H a = some (.lst xs) → ¬ e.out a → Rvs e H xs ds → Rv e H (.ref a) (.lst ds)
  | scr {a : Addr} {xs : List V} {ds : List Dv} : SqF e.K H a xs → Rvs e H xs ds → Rv e H (.ref a) (.scr ds)
  | dic {a : Addr} : H a = some (.dK []) → ¬ e.out a → Rv e H (.ref a) .dic
  | dik {a : Addr} {l : List (Int × Int)} : H a = some (.dK (l.map fun p => (Sum.inl p.1, V.int p.2))) → ¬ e.out a → Rv e H (.ref a) (.dik l)
  | loc {n : Nat} {a : Addr} : e.φ[n]? = some a → Rv e H (.ref a) (.loc n)
  | exc {a d : Addr} {c : Nat} {fs : List (Str × V)} {ns : List Str} {vs : List Dv} : H a = some (ExT (.ref (e.ct.1 c)) (some d) a) → ¬ e.out a → H d = some (.xd fs) → ¬ e.out d → fs.map (·.1) = ns → Rvs e H (fs.map (·.2)) vs → Rv e H (.ref a) (.exc c ns vs)
  | rep (d : Dv) : Rv e H (.str (pdv d).shown) (.rep d)
  | ty (n : String) : Rv e H (.ty n) (.ty n)
  | fn (a : Addr) : Rv e H (.ref a) (.fn a)
  | cls (c : Nat) : Rv e H (.ref (e.ct.1 c)) (.cls c)
inductive Rvs (e : Ev) (H : Hp) : List V → List Dv → Prop
  | nil : Rvs e H [] []
  | cons {v : V} {vs : List V} {d : Dv} {ds : List Dv} : Rv e H v d → Rvs e H vs ds → Rvs e H (v :: vs) (d :: ds)
end
theorem Rvs.length {e : Ev} {H : Hp} : ∀ {vs : List V} {ds : List Dv}, Rvs e H vs ds → vs.length = ds.length
  | _, [], h => by cases h; rfl
  | _, d :: ds, h => by
    cases h with
    | cons _ t => rw [List.length_cons, List.length_cons, Rvs.length t]
theorem Rvs.get {e : Ev} {H : Hp} : ∀ {vs : List V} {ds : List Dv} {i : Nat} {d : Dv}, Rvs e H vs ds → ds[i]? = some d → ∃ v, vs[i]? = some v ∧ Rv e H v d
  | _, [], _, _, _, q => by simp at q
  | _, d :: ds, 0, _, h, q => by
    cases h with
    | cons h _ =>
      cases (Option.some.inj q)
      exact ⟨_, rfl, h⟩
  | _, d :: ds, i + 1, _, h, q => by
    cases h with
    | cons _ t =>
      have q' : ds[i]? = some _ := q
      obtain ⟨w, h1, h2⟩ := Rvs.get t q'
      exact ⟨w, h1, h2⟩
theorem Rvs.at {e : Ev} {H : Hp} : ∀ {vs : List V} {ds : List Dv} {i : Nat} {v : V}, Rvs e H vs ds → vs[i]? = some v → ∃ d, ds[i]? = some d ∧ Rv e H v d
  | _, [], _, _, h, q => by cases h; simp at q
  | _, d :: ds, 0, _, h, q => by
    cases h with
    | cons h _ =>
      cases (Option.some.inj q)
      exact ⟨_, rfl, h⟩
  | _, d :: ds, i + 1, _, h, q => by
    cases h with
    | @cons _ vs _ _ _ t =>
      have q' : vs[i]? = some _ := q
      obtain ⟨w, h1, h2⟩ := Rvs.at t q'
      exact ⟨w, h1, h2⟩
theorem Rvs.app {e : Ev} {H : Hp} : ∀ {vs ws : List V} {ds es : List Dv}, Rvs e H vs ds → Rvs e H ws es → Rvs e H (vs ++ ws) (ds ++ es)
  | _, _, [], _, h, k => by cases h; exact k
  | _, _, d :: ds, _, h, k => by
    cases h with
    | cons h t => exact .cons h (Rvs.app t k)
theorem Rvs.set {e : Ev} {H : Hp} {v : V} {d : Dv} : ∀ {vs : List V} {ds : List Dv} (i : Nat), Rvs e H vs ds → Rv e H v d → Rvs e H (vs.set i v) (ds.set i d)
  | _, [], i, h, _ => by cases h; cases i <;> exact .nil
  | _, x :: ds, 0, h, k => by
    cases h with
    | cons _ t => exact .cons k t
  | _, x :: ds, i + 1, h, k => by
    cases h with
    | cons h t => exact .cons h (Rvs.set i t k)
theorem Rvs.take {e : Ev} {H : Hp} : ∀ {vs : List V} {ds : List Dv} (n : Nat), Rvs e H vs ds → Rvs e H (vs.take n) (ds.take n)
  | _, [], n, h => by cases h; simp; exact .nil
  | _, x :: ds, 0, h => by exact .nil
  | _, x :: ds, n + 1, h => by
    cases h with
    | cons h t => exact .cons h (Rvs.take n t)
theorem Rvs.drop {e : Ev} {H : Hp} : ∀ {vs : List V} {ds : List Dv} (n : Nat), Rvs e H vs ds → Rvs e H (vs.drop n) (ds.drop n)
  | _, [], n, h => by cases h; simp; exact .nil
  | _, x :: ds, 0, h => h
  | _, x :: ds, n + 1, h => by
    cases h with
    | cons h t => exact Rvs.drop n t
theorem Rvs.rev {e : Ev} {H : Hp} : ∀ {vs : List V} {ds : List Dv}, Rvs e H vs ds → Rvs e H vs.reverse ds.reverse
  | _, [], h => by cases h; exact .nil
  | _, x :: ds, h => by
    cases h with
    | cons h t =>
      rw [List.reverse_cons, List.reverse_cons]
      exact (Rvs.rev t).app (.cons h .nil)
/-- nothing stands there but, perhaps, a table -/
def Nil (H : Hp) (b : Addr) : Prop := ∀ o, H b = some o → ∃ ps, o = .tbl ps
theorem Nil.of {H : Hp} {b : Addr} (h : H b = none) : Nil H b := fun o q => by rw [h] at q; cases q
theorem Nil.no {H : Hp} {b : Addr} {o : HO} (n : Nil H b) (h : H b = some o) (nt : ∀ ps, o ≠ .tbl ps) : False := by
  obtain ⟨ps, e⟩ := n o h
  exact nt ps e
/-- later: what changes may have changed, more may have come, all else stands -/
structure Gw (e e' : Ev) (H H' : Hp) : Prop where
  k : e'.K = e.K
  c : e'.ct = e.ct
  t : e'.ct.2 = e.ct.2
  s : ∀ b, e'.S b = true → e.S b = true ∨ Nil H b
  pre : ∃ ψ, e'.φ = e.φ ++ ψ ∧ ∀ b ∈ ψ, Nil H b
  keep : ∀ b o, ¬ e.out b → H b = some o → (∀ ps, o ≠ .tbl ps) → H' b = some o
  tups : ∀ b xs, H b = some (.tup xs) → H' b = some (.tup xs)
  frzs : ∀ b o u, H b = some (.frz o u) → H' b = some (.frz o u)
  live : ∀ b, ¬ Nil H b → ¬ Nil H' b
theorem Gw.refl (e : Ev) (H : Hp) : Gw e e H H := ⟨rfl, rfl, rfl, fun _ h => .inl h, ⟨[], by simp, by simp⟩, fun _ _ _ h _ => h, fun _ _ h => h, fun _ _ _ h => h, fun _ h => h⟩
theorem Gw.out {e e' : Ev} {H H' : Hp} (g : Gw e e' H H') {b : Addr} {o : HO} (h : H b = some o) (nt : ∀ ps, o ≠ .tbl ps) (n : ¬ e.out b) : ¬ e'.out b := by
  rintro (z | z)
  · rcases g.s b z with q | q
    · exact n (.inl q)
    · exact q.no h nt
  · obtain ⟨ψ, e1, e2⟩ := g.pre
    rw [e1] at z
    rcases List.mem_append.mp z with q | q
    · exact n (.inr q)
    · exact (e2 b q).no h nt
theorem Gw.trans {e e1 e2 : Ev} {H H1 H2 : Hp} (a : Gw e e1 H H1) (b : Gw e1 e2 H1 H2) : Gw e e2 H H2 := by
  have back : ∀ c, Nil H1 c → Nil H c := fun c h => Classical.byContradiction fun q => a.live c q h
  refine ⟨b.k.trans a.k, b.c.trans a.c, b.t.trans a.t, fun c h => ?_, ?_, fun c o n h nt => ?_, fun c xs h => b.tups c xs (a.tups c xs h), fun c o u h => b.frzs c o u (a.frzs c o u h), fun c h => b.live c (a.live c h)⟩
  · rcases b.s c h with q | q
    · exact a.s c q
    · exact .inr (back c q)
  · obtain ⟨ψ, e3, h3⟩ := a.pre
    obtain ⟨χ, e4, h4⟩ := b.pre
    refine ⟨ψ ++ χ, by rw [e4, e3, List.append_assoc], fun c hc => ?_⟩
    rcases List.mem_append.mp hc with q | q
    · exact h3 c q
    · exact back c (h4 c q)
  · exact b.keep c o (a.out h nt n) (a.keep c o n h nt) nt
theorem Gw.sqT {e e' : Ev} {H H' : Hp} (g : Gw e e' H H') {a : Addr} {xs : List V} (h : SqT e.K H a xs) : SqT e'.K H' a xs := by
  rw [g.k]
  rcases h with (h | ⟨o, h⟩) | h
  · exact .inl (.inl (g.tups _ _ h))
  · exact .inl (.inr ⟨o, g.frzs _ _ _ h⟩)
  · exact .inr h
theorem Gw.sqK {e e' : Ev} {H H' : Hp} (g : Gw e e' H H') {a : Addr} {xs : List V} (h : SqK e.K H a xs) : SqK e'.K H' a xs := by
  rw [g.k]
  rcases h with h | h
  · exact .inl (g.tups _ _ h)
  · exact .inr h
theorem Gw.sqF {e e' : Ev} {H H' : Hp} (g : Gw e e' H H') {a : Addr} {xs : List V} (h : SqF e.K H a xs) : SqF e'.K H' a xs := by
  rw [g.k]
  rcases h with ⟨o, h⟩ | h
  · exact .inl ⟨o, g.frzs _ _ _ h⟩
  · exact .inr h
theorem Gw.loc {e e' : Ev} {H H' : Hp} (g : Gw e e' H H') {a : Addr} {n : Nat} (h : e.φ[n]? = some a) : e'.φ[n]? = some a := by
  obtain ⟨ψ, q, _⟩ := g.pre
  have hl := (List.getElem?_eq_some_iff.mp h).1
  rw [q, List.getElem?_append_left hl]
  exact h
mutual
theorem Rv.mono {e e' : Ev} {H H' : Hp} (g : Gw e e' H H') : ∀ (d : Dv) (v : V), Rv e H v d → Rv e' H' v d
  | .non, _, h => by cases h; exact .non
  | .bl _, _, h => by cases h; exact .bl _
  | .int _, _, h => by cases h; exact .int _
  | .str _, _, h => by cases h; exact .str _
  | .tup ds, _, h => by
    cases h with
    | tup q h => exact .tup (g.sqK q) (Rvs.mono g ds _ h)
  | .lst ds, _, h => by
    cases h with
    | lst q n h => exact .lst (g.keep _ _ n q nofun) (g.out q nofun n) (Rvs.mono g ds _ h)
  | .scr ds, _, h => by
    cases h with
    | scr q h => exact .scr (g.sqF q) (Rvs.mono g ds _ h)
  | .dic, _, h => by
    cases h with
    | dic q n => exact .dic (g.keep _ _ n q nofun) (g.out q nofun n)
  | .dik _, _, h => by
    cases h with
    | dik q n => exact .dik (g.keep _ _ n q nofun) (g.out q nofun n)
  | .loc n, _, h => by
    cases h with
    | loc q => exact .loc (g.loc q)
  | .exc c ns vs, _, h => by
    cases h with
    | exc q n q2 n2 hn h =>
      refine .exc ?_ (g.out q (fun ps z => by unfold ExT at z; cases z) n) (g.keep _ _ n2 q2 nofun) (g.out q2 nofun n2) hn (Rvs.mono g vs _ h)
      rw [g.c]
      exact g.keep _ _ n q (fun ps z => by unfold ExT at z; cases z)
  | .rep d, _, h => by cases h; exact .rep d
  | .ty n, _, h => by cases h; exact .ty n
  | .fn n, _, h => by cases h; exact .fn n
  | .cls c, _, h => by
    cases h
    rw [← g.c]
    exact .cls c
theorem Rvs.mono {e e' : Ev} {H H' : Hp} (g : Gw e e' H H') : ∀ (ds : List Dv) (vs : List V), Rvs e H vs ds → Rvs e' H' vs ds
  | [], _, h => by cases h; exact .nil
  | d :: ds, _, h => by
    cases h with
    | cons h t => exact .cons (Rv.mono g d _ h) (Rvs.mono g ds _ t)
end
theorem Rv.upw {e e' : Ev} {H H' : Hp} {v : V} {d : Dv} (h : Rv e H v d) (g : Gw e e' H H') : Rv e' H' v d := Rv.mono g d v h
theorem Rvs.upw {e e' : Ev} {H H' : Hp} {v : List V} {d : List Dv} (h : Rvs e H v d) (g : Gw e e' H H') : Rvs e' H' v d := Rvs.mono g d v h
/-- .. and what is hidden stands as it was -/
structure Gs (e e' : Ev) (H H' : Hp) : Prop extends Gw e e' H H' where
  all : ∀ b o, b ∉ e.φ → H b = some o → (∀ ps, o ≠ .tbl ps) → H' b = some o
theorem Gs.refl (e : Ev) (H : Hp) : Gs e e H H := ⟨Gw.refl e H, fun _ _ _ h _ => h⟩
theorem Gs.trans {e e1 e2 : Ev} {H H1 H2 : Hp} (a : Gs e e1 H H1) (b : Gs e1 e2 H1 H2) : Gs e e2 H H2 := ⟨a.toGw.trans b.toGw, fun c o n h nt => b.all c o (fun z => by
  obtain ⟨ψ, e3, h3⟩ := a.pre
  rw [e3] at z
  rcases List.mem_append.mp z with q | q
  · exact n q
  · exact (h3 c q).no h nt) (a.all c o n h nt) nt⟩
/-- .. and the same is hidden -/
structure Gr (e e' : Ev) (H H' : Hp) : Prop extends Gs e e' H H' where
  sq : e'.S = e.S
theorem Gr.refl (e : Ev) (H : Hp) : Gr e e H H := ⟨Gs.refl e H, rfl⟩
theorem Gr.trans {e e1 e2 : Ev} {H H1 H2 : Hp} (a : Gr e e1 H H1) (b : Gr e1 e2 H1 H2) : Gr e e2 H H2 := ⟨a.toGs.trans b.toGs, b.sq.trans a.sq⟩
theorem Gr.sqT {e e' : Ev} {H H' : Hp} (g : Gr e e' H H') {a : Addr} {xs : List V} (h : SqT e.K H a xs) : SqT e'.K H' a xs := g.toGw.sqT h
theorem Gr.sqF {e e' : Ev} {H H' : Hp} (g : Gr e e' H H') {a : Addr} {xs : List V} (h : SqF e.K H a xs) : SqF e'.K H' a xs := g.toGw.sqF h
theorem Rv.up {e e' : Ev} {H H' : Hp} {v : V} {d : Dv} (h : Rv e H v d) (g : Gr e e' H H') : Rv e' H' v d := Rv.mono g.toGw d v h
theorem Rvs.up {e e' : Ev} {H H' : Hp} {v : List V} {d : List Dv} (h : Rvs e H v d) (g : Gr e e' H H') : Rvs e' H' v d := Rvs.mono g.toGw d v h
/-- the same heap, told otherwise -/
structure Re (e e' : Ev) : Prop where
  k : e'.K = e.K
  c : e'.ct = e.ct
  out : ∀ a, e'.out a → e.out a
  loc : ∀ (n : Nat) (a : Addr), e.φ[n]? = some a → e'.φ[n]? = some a
mutual
theorem Rv.re {e e' : Ev} {H : Hp} (g : Re e e') : ∀ (d : Dv) (v : V), Rv e H v d → Rv e' H v d
  | .non, _, h => by cases h; exact .non
  | .bl _, _, h => by cases h; exact .bl _
  | .int _, _, h => by cases h; exact .int _
  | .str _, _, h => by cases h; exact .str _
  | .tup ds, _, h => by
    cases h with
    | tup q h => exact .tup (by rw [g.k]; exact q) (Rvs.re g ds _ h)
  | .lst ds, _, h => by
    cases h with
    | lst q n h => exact .lst q (fun z => n (g.out _ z)) (Rvs.re g ds _ h)
  | .scr ds, _, h => by
    cases h with
    | scr q h => exact .scr (by rw [g.k]; exact q) (Rvs.re g ds _ h)
  | .dic, _, h => by
    cases h with
    | dic q n => exact .dic q (fun z => n (g.out _ z))
  | .dik _, _, h => by
    cases h with
    | dik q n => exact .dik q (fun z => n (g.out _ z))
  | .loc n, _, h => by
    cases h with
    | loc q => exact .loc (g.loc _ _ q)
  | .exc c ns vs, _, h => by
    cases h with
    | exc q n q2 n2 hn h =>
      refine .exc ?_ (fun z => n (g.out _ z)) q2 (fun z => n2 (g.out _ z)) hn (Rvs.re g vs _ h)
      rw [g.c]
      exact q
  | .rep d, _, h => by cases h; exact .rep d
  | .ty n, _, h => by cases h; exact .ty n
  | .fn n, _, h => by cases h; exact .fn n
  | .cls c, _, h => by
    cases h
    rw [← g.c]
    exact .cls c
theorem Rvs.re {e e' : Ev} {H : Hp} (g : Re e e') : ∀ (ds : List Dv) (vs : List V), Rvs e H vs ds → Rvs e' H vs ds
  | [], _, h => by cases h; exact .nil
  | d :: ds, _, h => by
    cases h with
    | cons h t => exact .cons (Rv.re g d _ h) (Rvs.re g ds _ t)
end
/-- nothing changes, new objects may come -/
theorem Gr.same {e : Ev} {H H' : Hp} (s : Same H H') : Gr e e H H' :=
  ⟨⟨⟨rfl, rfl, rfl, fun _ h => .inl h, ⟨[], by simp, by simp⟩, fun b o _ h _ => s b o h, fun b xs h => s b _ h, fun b o u h => s b _ h, fun b h n => h fun o q => n o (s b o q)⟩, fun b o _ h _ => s b o h⟩, rfl⟩
/-- what stands at an address -/
def Ro (e : Ev) (H : Hp) (a : Addr) : Ob → Prop
  | .lst l => ∃ xs, H a = some (.lst xs) ∧ Rvs e H xs l
  | .del => ∃ xs, H a = some (.lst xs)
abbrev Mem := List Ob
structure Rm (e : Ev) (A : Mem) (H : Hp) : Prop where
  len : e.φ.length = A.length
  nodup : e.φ.Nodup
  obj : ∀ (n : Nat) (a : Addr) (o : Ob), e.φ[n]? = some a → A[n]? = some o → Ro e H a o
  hid : ∀ b, e.S b = true → ¬ Nil H b ∧ b ∉ e.φ
  tab : LamX.Tabs e.ct.2 H
theorem Rm.lt {e : Ev} {A : Mem} {H : Hp} (m : Rm e A H) {n : Nat} {o : Ob} (h : A[n]? = some o) : ∃ a, e.φ[n]? = some a := by
  have hl := (List.getElem?_eq_some_iff.mp h).1
  rw [← m.len] at hl
  exact ⟨_, List.getElem?_eq_getElem hl⟩
theorem Rm.at {e : Ev} {A : Mem} {H : Hp} (m : Rm e A H) {n : Nat} {a : Addr} (h : e.φ[n]? = some a) : ∃ o, A[n]? = some o ∧ Ro e H a o := by
  have hl := (List.getElem?_eq_some_iff.mp h).1
  rw [m.len] at hl
  exact ⟨_, List.getElem?_eq_getElem hl, m.obj n a _ h (List.getElem?_eq_getElem hl)⟩
theorem Ro.some {e : Ev} {H : Hp} {a : Addr} {o : Ob} (h : Ro e H a o) : ∃ u, H a = some u := by
  cases o with
  | lst l => obtain ⟨xs, h, _⟩ := h; exact ⟨_, h⟩
  | del => obtain ⟨xs, h⟩ := h; exact ⟨_, h⟩
theorem Rm.live {e : Ev} {A : Mem} {H : Hp} (m : Rm e A H) {a : Addr} (h : a ∈ e.φ) : ∃ o, H a = some o := by
  obtain ⟨n, hn⟩ := List.getElem?_of_mem h
  obtain ⟨o, _, q⟩ := m.at hn
  exact q.some
theorem Ro.same {e : Ev} {H H' : Hp} {a : Addr} {o : Ob} (s : Same H H') (h : Ro e H a o) : Ro e H' a o := by
  cases o with
  | lst l =>
    obtain ⟨xs, q, r⟩ := h
    exact ⟨xs, s _ _ q, r.up (Gr.same s)⟩
  | del =>
    obtain ⟨u, q⟩ := h
    exact ⟨u, s _ _ q⟩
theorem Rm.same {e : Ev} {A : Mem} {H H' : Hp} (m : Rm e A H) (s : Same H H') : Rm e A H' :=
  ⟨m.len, m.nodup, fun n a o h1 h2 => (m.obj n a o h1 h2).same s, fun b h => ⟨(Gr.same (e := e) s).live b (m.hid b h).1, (m.hid b h).2⟩, m.tab.ext s⟩
/-- a free address is no place -/
theorem Rm.new {e : Ev} {A : Mem} {H : Hp} (m : Rm e A H) {p : Addr} (h : H p = none) : ¬ e.out p := by
  rintro (z | z)
  · exact (m.hid p z).1 (.of h)
  · obtain ⟨o, q⟩ := m.live z
    rw [h] at q; cases q
/-- one more place -/
def Ev.more (e : Ev) (p : Addr) : Ev := { e with φ := e.φ ++ [p] }
theorem gr_more {e : Ev} {H : Hp} {p : Addr} {o : HO} (h : H p = none) : Gr e (e.more p) H (upd H p o) := by
  refine ⟨⟨⟨rfl, rfl, rfl, fun _ h => .inl h, ⟨[p], rfl, fun b hb => by simp at hb; rw [hb]; exact .of h⟩, fun b u _ q _ => ?_, fun b xs q => ?_, fun b u v q => ?_, fun b q => ?_⟩, fun b u _ q _ => by rw [upd_ne (ne_of_none q h)]; exact q⟩, rfl⟩
  · rw [upd_ne (ne_of_none q h)]; exact q
  · rw [upd_ne (ne_of_none q h)]; exact q
  · rw [upd_ne (ne_of_none q h)]; exact q
  · exact fun n => q fun u hu => n u (by rw [upd_ne (ne_of_none hu h)]; exact hu)
theorem Rm.more {e : Ev} {A : Mem} {H : Hp} (m : Rm e A H) {p : Addr} {o : HO} {b : Ob} (h : H p = none) (r : Ro (e.more p) (upd H p o) p b) : Rm (e.more p) (A ++ [b]) (upd H p o) := by
  have np := m.new h
  have g := gr_more (e := e) (o := o) h
  refine ⟨by show (e.φ ++ [p]).length = _; rw [List.length_append, List.length_append, m.len]; rfl, ?_, fun n a u h1 h2 => ?_, fun c hc => ⟨?_, ?_⟩, m.tab.ext (Same.new h)⟩
  · show (e.φ ++ [p]).Nodup
    rw [List.nodup_append]
    refine ⟨m.nodup, by simp, fun a ha c hc z => ?_⟩
    simp at hc
    rw [z, hc] at ha
    exact np (.inr ha)
  · have h1 : (e.φ ++ [p])[n]? = some a := h1
    by_cases hn : n < A.length
    · rw [List.getElem?_append_left (by rw [m.len]; exact hn)] at h1
      rw [List.getElem?_append_left hn] at h2
      have q := m.obj n a u h1 h2
      have ne : a ≠ p := fun z => np (.inr (z ▸ List.mem_of_getElem? h1))
      cases u with
      | lst l =>
        obtain ⟨xs, q1, q2⟩ := q
        exact ⟨xs, by rw [upd_ne ne]; exact q1, q2.up g⟩
      | del =>
        obtain ⟨u, q1⟩ := q
        exact ⟨u, by rw [upd_ne ne]; exact q1⟩
    · rw [List.getElem?_append_right (by rw [m.len]; omega)] at h1
      rw [List.getElem?_append_right (by omega)] at h2
      have e0 : n - A.length = 0 := by
        have := (List.getElem?_eq_some_iff.mp h2).1
        simp at this
        omega
      rw [m.len, e0] at h1
      rw [e0] at h2
      cases h1
      cases h2
      exact r
  · exact g.live c (m.hid c hc).1
  · show c ∉ e.φ ++ [p]
    intro z
    rcases List.mem_append.mp z with q | q
    · exact (m.hid c hc).2 q
    · simp at q
      rw [q] at hc
      exact (m.hid p hc).1 (.of h)
/-- tables stand where a list is written -/
theorem tabs_put {T : List (Addr × Str)} {H : Hp} {a : Addr} {xs : List V} {o : HO} (t : LamX.Tabs T H) (h : H a = some (.lst xs)) : LamX.Tabs T (upd H a o) := fun p hp => by
  obtain ⟨ps, h1, h2, h3⟩ := t p hp
  refine ⟨ps, by rw [upd_ne (fun z => by rw [z, h] at h1; cases h1)]; exact h1, h2, fun pos cv hc => ?_⟩
  obtain ⟨c, e1, e2⟩ := h3 pos cv hc
  refine ⟨c, e1, ?_⟩
  rw [upd_ne (fun z => by rw [z, h] at e2; unfold LamX.CodeO at e2; cases e2)]
  exact e2
theorem nd_ix {α : Type} {l : List α} (hN : l.Nodup) {i j : Nat} {x : α} (a : l[i]? = some x) (b : l[j]? = some x) : i = j := by
  obtain ⟨h1, e1⟩ := List.getElem?_eq_some_iff.mp a
  obtain ⟨h2, e2⟩ := List.getElem?_eq_some_iff.mp b
  exact (List.getElem_inj hN).mp (e1.trans e2.symm)
/-- what stands at a place is written -/
theorem gr_put {e : Ev} {A : Mem} {H : Hp} {n : Nat} {a : Addr} {xs ys : List V} (m : Rm e A H) (h : e.φ[n]? = some a) (h2 : H a = some (.lst xs)) : Gr e e H (upd H a (.lst ys)) := by
  have ha : e.out a := .inr (List.mem_of_getElem? h)
  refine ⟨⟨⟨rfl, rfl, rfl, fun _ h => .inl h, ⟨[], by simp, by simp⟩, fun b u nb q _ => ?_, fun b ys q => ?_, fun b u v q => ?_, fun b q => ?_⟩, fun b u nb q _ => by rw [upd_ne (fun z => nb (by rw [z]; exact List.mem_of_getElem? h))]; exact q⟩, rfl⟩
  · rw [upd_ne (fun z => nb (by rw [z]; exact ha))]; exact q
  · rw [upd_ne (fun z => by rw [z, h2] at q; cases q)]; exact q
  · rw [upd_ne (fun z => by rw [z, h2] at q; cases q)]; exact q
  · by_cases z : b = a
    · rw [z]; exact fun n => n.no upd_same nofun
    · exact fun n => q fun u hu => n u (by rw [upd_ne z]; exact hu)
theorem Rm.put {e : Ev} {A : Mem} {H : Hp} {n : Nat} {a : Addr} {xs ys : List V} {l : List Dv} (m : Rm e A H) (h : e.φ[n]? = some a) (h2 : H a = some (.lst xs)) (r : Rvs e H ys l) : Rm e (A.set n (.lst l)) (upd H a (.lst ys)) := by
  have g := gr_put (ys := ys) m h h2
  refine ⟨by rw [List.length_set]; exact m.len, m.nodup, fun k b u h3 h4 => ?_, fun c hc => ⟨?_, (m.hid c hc).2⟩, tabs_put m.tab h2⟩
  · by_cases z : k = n
    · subst z
      rw [h] at h3
      cases h3
      have hl : k < A.length := by rw [← m.len]; exact (List.getElem?_eq_some_iff.mp h).1
      rw [List.getElem?_set_self hl] at h4
      cases h4
      exact ⟨ys, upd_same, r.up g⟩
    · rw [List.getElem?_set_ne (Ne.symm z)] at h4
      have nb : b ≠ a := fun q => by
        subst q
        exact z (nd_ix m.nodup h3 h)
      have q := m.obj k b u h3 h4
      cases u with
      | lst l' =>
        obtain ⟨zs, q1, q2⟩ := q
        exact ⟨zs, by rw [upd_ne nb]; exact q1, q2.up g⟩
      | del =>
        obtain ⟨w, q1⟩ := q
        exact ⟨w, by rw [upd_ne nb]; exact q1⟩
  · exact g.live c (m.hid c hc).1
mutual
theorem Rv.dp {e : Ev} {H : Hp} : ∀ (d : Dv) (v : V), Rv e H v d → dtv d = true → Dp e.K H v (pdv d)
  | .non, _, h, _ => by cases h; exact .non
  | .bl b, _, h, _ => by cases h; exact .bl b
  | .int i, _, h, _ => by cases h; exact .int i
  | .str x, _, h, _ => by cases h; exact .str x
  | .tup l, _, h, n => by
    cases h with
    | tup q h => exact .tup q.sqt (Rvs.dp l _ h n)
  | .lst l, _, h, n => by
    cases h with
    | lst q _ h => exact .lst (.of q) (Rvs.dp l _ h n)
  | .dic, _, _, n => by cases n
  | .dik _, _, _, n => by cases n
  | .loc _, _, _, n => by cases n
  | .scr _, _, _, n => by cases n
  | .ty _, _, _, n => by cases n
  | .cls _, _, _, n => by cases n
  | .fn _, _, _, n => by cases n
  | .exc _ _ _, _, _, n => by cases n
  | .rep _, _, _, n => by cases n
theorem Rvs.dp {e : Ev} {H : Hp} : ∀ (l : List Dv) (vs : List V), Rvs e H vs l → dtvs l = true → DpAll e.K H vs (pdvs l)
  | [], _, h, _ => by cases h; exact .nil
  | d :: l, _, h, n => by
    have h' : (dtv d && dtvs l) = true := n
    rw [Bool.and_eq_true] at h'
    cases h with
    | cons h t => exact .cons (Rv.dp d _ h h'.1) (Rvs.dp l _ t h'.2)
end
end Mi

namespace Mi
open PySem PySem.Spec PyProof.Rows L2 Ty
/-! ### what the mirror does: a value or an error, and what stands then; nothing where nothing is claimed -/
inductive Ex (α : Type) where
  | ok (a : α)
  | err (c : Nat) (ns : List Str) (vs : List Dv)
abbrev Ms (α : Type) := Mem → Option (Ex α × Mem)
section
variable {α β : Type}
def ret (a : α) : Ms α := fun A => some (.ok a, A)
def fail : Ms α := fun _ => none
def raise (c : Nat) (ns : List Str) (vs : List Dv) : Ms α := fun A => some (.err c ns vs, A)
def bnd (m : Ms α) (k : α → Ms β) : Ms β := fun A => match m A with
  | none => none
  | some (.ok a, A1) => k a A1
  | some (.err c ns vs, A1) => some (.err c ns vs, A1)
def ofO (o : Option α) : Ms α := fun A => match o with
  | none => none
  | some a => some (.ok a, A)
@[simp] theorem bnd_ret (a : α) (k : α → Ms β) (A : Mem) : bnd (ret a) k A = k a A := rfl
@[simp] theorem ret_at (a : α) (A : Mem) : ret a A = some (.ok a, A) := rfl
@[simp] theorem ofO_some (a : α) (A : Mem) : ofO (some a) A = some (.ok a, A) := rfl
theorem bnd_ok {m : Ms α} {k : α → Ms β} {A A1 : Mem} {a : α} (h : m A = some (.ok a, A1)) : bnd m k A = k a A1 := by
  unfold bnd
  rw [h]
theorem bnd_err {m : Ms α} {k : α → Ms β} {A A1 : Mem} {c : Nat} {ns : List Str} {vs : List Dv} (h : m A = some (.err c ns vs, A1)) : bnd m k A = some (.err c ns vs, A1) := by
  unfold bnd
  rw [h]
end
abbrev Sl := List (Option Dv)
/-- the slots -/
def Rg (e : Ev) (H : Hp) (σ : L2.St) (Γ : Sl) : Prop := σ.length = Γ.length ∧ ∀ (i : Nat) (d : Dv), Γ[i]? = some (some d) → ∃ v, σ[i]? = some (some v) ∧ Rv e H v d
theorem Rg.up {e e' : Ev} {H H' : Hp} {σ : L2.St} {Γ : Sl} (h : Rg e H σ Γ) (g : Gr e e' H H') : Rg e' H' σ Γ := ⟨h.1, fun i d q => by
  obtain ⟨v, h1, h2⟩ := h.2 i d q
  exact ⟨v, h1, h2.up g⟩⟩
theorem Rg.set {e : Ev} {H : Hp} {σ : L2.St} {Γ : Sl} {v : V} {d : Dv} (h : Rg e H σ Γ) (i : Nat) (r : Rv e H v d) : Rg e H (σ.set i (some v)) (Γ.set i (some d)) := by
  refine ⟨by rw [List.length_set, List.length_set]; exact h.1, fun j d' q => ?_⟩
  by_cases z : j = i
  · subst z
    by_cases hl : j < Γ.length
    · rw [List.getElem?_set_self hl] at q
      cases q
      exact ⟨v, List.getElem?_set_self (by rw [h.1]; exact hl), r⟩
    · rw [List.getElem?_eq_none (by rw [List.length_set]; omega)] at q
      cases q
  · rw [List.getElem?_set_ne (Ne.symm z)] at q ⊢
    exact h.2 j d' q
theorem Rg.none {e : Ev} {H : Hp} {σ : L2.St} {Γ : Sl} (h : Rg e H σ Γ) (i : Nat) : Rg e H (σ.set i none) (Γ.set i none) := by
  refine ⟨by rw [List.length_set, List.length_set]; exact h.1, fun j d' q => ?_⟩
  by_cases z : j = i
  · subst z
    by_cases hl : j < Γ.length
    · rw [List.getElem?_set_self hl] at q
      cases q
    · rw [List.getElem?_eq_none (by rw [List.length_set]; omega)] at q
      cases q
  · rw [List.getElem?_set_ne (Ne.symm z)] at q ⊢
    exact h.2 j d' q
theorem Rg.upw {e e' : Ev} {H H' : Hp} {σ : L2.St} {Γ : Sl} (h : Rg e H σ Γ) (g : Gw e e' H H') : Rg e' H' σ Γ := ⟨h.1, fun i d q => by
  obtain ⟨v, h1, h2⟩ := h.2 i d q
  exact ⟨v, h1, h2.upw g⟩⟩
/-- fewer known slots -/
theorem Rg.less {e : Ev} {H : Hp} {σ σ' : L2.St} {Γ : Sl} (h : Rg e H σ Γ) (hl : σ'.length = σ.length) (w : ∀ (i : Nat) (v : V) (d : Dv), Γ[i]? = some (some d) → σ[i]? = some (some v) → σ'[i]? = some (some v)) : Rg e H σ' Γ := ⟨by rw [hl]; exact h.1, fun i d q => by
  obtain ⟨v, h1, h2⟩ := h.2 i d q
  exact ⟨v, w i v d q h1, h2⟩⟩
/-- what is wished of an error -/
def We (W : XK) (e : Ev) (H : Hp) (c : Nat) (ns : List Str) (vs : List Dv) (A' : Mem) : Prop :=
  ∀ e' H' d fs, Gr e e' H H' → Rm e' A' H' → H' d = some (.xd fs) → ¬ e'.out d → fs.map (·.1) = ns → Rvs e' H' (fs.map (·.2)) vs → W (.ref (e.ct.1 c)) (some d) H'
/-- what is wished of an end -/
def Wp {α β : Type} (R : Ev → Hp → β → α → Prop) (W : XK) (e : Ev) (H : Hp) (Q : β → Hp → Prop) : Option (Ex α × Mem) → Prop
  | none => False
  | some (.ok a, A') => ∀ e' H' b, Gr e e' H H' → Rm e' A' H' → R e' H' b a → Q b H'
  | some (.err c ns vs, A') => We W e H c ns vs A'
section
variable {α β γ δ : Type} {R : Ev → Hp → β → α → Prop} {R1 : Ev → Hp → δ → γ → Prop} {W : XK} {e : Ev} {A : Mem} {H : Hp} {Q : β → Hp → Prop}
theorem We.later {c : Nat} {ns : List Str} {vs : List Dv} {A' : Mem} {e1 : Ev} {H1 : Hp} (h : We W e H c ns vs A') (g : Gr e e1 H H1) : We W e1 H1 c ns vs A' := fun e' H' d fs g' m h1 h2 h3 h4 => by
  rw [g.c]
  exact h e' H' d fs (g.trans g') m h1 h2 h3 h4
theorem Wp.later {r : Option (Ex α × Mem)} {e1 : Ev} {H1 : Hp} (h : Wp R W e H Q r) (g : Gr e e1 H H1) : Wp R W e1 H1 Q r := by
  match r, h with
  | some (.ok a, A'), h => exact fun e' H' b g' m q => h e' H' b (g.trans g') m q
  | some (.err c ns vs, A'), h => exact We.later (show We W e H c ns vs A' from h) g
theorem Wp.bnd {m : Ms γ} {k : γ → Ms α} {Q1 : δ → Hp → Prop} (h : Wp R W e H Q (Mi.bnd m k A)) (f : ∀ e1 H1 b a A1, Gr e e1 H H1 → Rm e1 A1 H1 → R1 e1 H1 b a → Wp R W e1 H1 Q (k a A1) → Q1 b H1) : Wp R1 W e H Q1 (m A) := by
  unfold Mi.bnd at h
  match q : m A, h with
  | some (.ok a, A1), h => exact fun e1 H1 b g m r => f e1 H1 b a A1 g m r (Wp.later h g)
  | some (.err c ns vs, A1), h => exact h
theorem Wp.imp {r : Option (Ex α × Mem)} {Q1 : β → Hp → Prop} (h : Wp R W e H Q r) (f : ∀ b H', Q b H' → Q1 b H') : Wp R W e H Q1 r := by
  match r, h with
  | some (.ok a, A'), h => exact fun e' H' b g' m q => f _ _ (h e' H' b g' m q)
  | some (.err c ns vs, A'), h => exact h
theorem Wp.at {r : Option (Ex α × Mem)} {a : α} {A' : Mem} {e' : Ev} {H' : Hp} {b : β} (h : Wp R W e H Q r) (q : r = some (.ok a, A')) (g : Gr e e' H H') (m : Rm e' A' H') (x : R e' H' b a) : Q b H' := by
  subst q
  exact h e' H' b g m x
theorem Wp.not {r : Option (Ex α × Mem)} (h : Wp R W e H Q r) : r ≠ Option.none := by
  intro q
  subst q
  exact h
end
/-- truths as they are -/
def Rb (_ : Ev) (_ : Hp) (b c : Bool) : Prop := b = c
structure Pr where
  K : PySem.W.Frag
  ct : (Nat → Addr) × List (Addr × Str)
  /-- which class is below which -/
  sub : Nat → Nat → Option Bool
  /-- no class attribute of that name -/
  fld : Nat → Str → Bool
  /-- what else is known wherever one stands -/
  C : Ev → Hp → Prop := fun _ _ => True
  st : ∀ e e' H H', C e H → Gs e e' H H' → C e' H' := by intros; trivial
structure Fx (P : Pr) (e : Ev) (H : Hp) : Prop where
  k : e.K = P.K
  c : e.ct = P.ct
  x : P.C e H
theorem Fx.ups {P : Pr} {e e' : Ev} {H H' : Hp} (f : Fx P e H) (g : Gs e e' H H') : Fx P e' H' := ⟨g.k.trans f.k, g.c.trans f.c, P.st _ _ _ _ f.x g⟩
theorem Fx.up {P : Pr} {e e' : Ev} {H H' : Hp} (f : Fx P e H) (g : Gr e e' H H') : Fx P e' H' := f.ups g.toGs
/-- the same, nothing else known -/
def Pr.base (P : Pr) : Pr := { K := P.K, ct := P.ct, sub := P.sub, fld := P.fld }
theorem Fx.base {P : Pr} {e : Ev} {H : Hp} (f : Fx P e H) : Fx P.base e H := ⟨f.k, f.c, trivial⟩
structure Pr.Ok (P : Pr) : Prop where
  kit : ∀ c d b, P.sub c d = some b → PySem.W.kitOne P.K (.ref (P.ct.1 c)) (.ref (P.ct.1 d)) = some b
  exm : ∀ c d b, P.sub c d = some b → PySem.W.exmOne P.K (.ref (P.ct.1 c)) (.ref (P.ct.1 d)) = some b
  exk : ∀ c d b, P.sub c d = some b → ExcK P.K (P.ct.1 c)
  nof : ∀ c f, P.fld c f = true → ExcK P.K (P.ct.1 c) ∧ PySem.W.findIn P.K (.ref (P.ct.1 c)) f = some none
/-- the reading is what the mirror does -/
def Sim (P : Pr) (W : L2.St → XK) (t : TE) (m : Sl → Ms Dv) : Prop := ∀ e A Γ σ H Q, Fx P e H → Rm e A H → Rg e H σ Γ → Wp Rv (W σ) e H Q (m Γ A) → t σ H Q
def SimT (P : Pr) (W : L2.St → XK) (t : TT) (m : Sl → Ms Bool) : Prop := ∀ e A Γ σ H Q, Fx P e H → Rm e A H → Rg e H σ Γ → Wp Rb (W σ) e H Q (m Γ A) → t σ H Q
def SimA (P : Pr) (W : L2.St → XK) (t : TA) (m : Sl → Ms (List Dv)) : Prop := ∀ e A Γ σ H Q, Fx P e H → Rm e A H → Rg e H σ Γ → Wp Rvs (W σ) e H Q (m Γ A) → t σ H Q
/-! ### expressions -/
section
variable {P : Pr} {W : L2.St → XK} {ta tb : TE} {tt : TT} {tr : TA} {ma mb : Sl → Ms Dv} {mt : Sl → Ms Bool} {mr : Sl → Ms (List Dv)}
def mVar (i : Nat) (Γ : Sl) : Ms Dv := fun A => match Γ[i]? with
  | some (some d) => some (.ok d, A)
  | _ => none
def mC (d : Dv) (_ : Sl) : Ms Dv := ret d
theorem sim_var {i : Nat} : Sim P W (tVar i) (mVar i) := fun e A Γ σ H Q hf m g h => by
  unfold mVar at h
  match q : Γ[i]?, h with
  | some (some d), h =>
    obtain ⟨v, h1, h2⟩ := g.2 i d q
    exact ⟨v, h1, h e H v (Gr.refl _ _) m h2⟩
theorem sim_c {v : V} {d : Dv} (hv : ∀ e H, e.K = P.K → e.ct = P.ct → Rv e H v d) : Sim P W (tC v) (mC d) := fun e A Γ σ H Q hf m g h => h e H v (Gr.refl _ _) m (hv e H hf.k hf.c)
theorem sim_int {i : Int} : Sim P W (tC (.int i)) (mC (.int i)) := sim_c fun e H _ _ => .int i
theorem sim_bl {i : Bool} : Sim P W (tC (.bl i)) (mC (.bl i)) := sim_c fun e H _ _ => .bl i
theorem sim_str {i : Str} : Sim P W (tC (.str i)) (mC (.str i)) := sim_c fun e H _ _ => .str i
theorem sim_non : Sim P W (tC .non) (mC .non) := sim_c fun e H _ _ => .non
/-- an operation on two values -/
def OpS (P : Pr) (r : R2) (o : Mem → Dv → Dv → Option Dv) : Prop := ∀ e A H v u x y z Q, e.K = P.K → e.ct = P.ct → Rm e A H → Rv e H v x → Rv e H u y → o A x y = some z → (∀ H' w, Same H H' → Rv e H' w z → Q w H') → r v u H Q
def UnS (P : Pr) (r : V → Hp → VK → Prop) (o : Mem → Dv → Option Dv) : Prop := ∀ e A H v x z Q, e.K = P.K → e.ct = P.ct → Rm e A H → Rv e H v x → o A x = some z → (∀ H' w, Same H H' → Rv e H' w z → Q w H') → r v H Q
def CbS (P : Pr) (r : List V → Hp → VK → Prop) (o : Mem → List Dv → Option Dv) : Prop := ∀ e A H vs xs z Q, e.K = P.K → e.ct = P.ct → Rm e A H → Rvs e H vs xs → o A xs = some z → (∀ H' w, Same H H' → Rv e H' w z → Q w H') → r vs H Q
def mBin (o : Mem → Dv → Dv → Option Dv) (ma mb : Sl → Ms Dv) (Γ : Sl) : Ms Dv := bnd (ma Γ) fun x => bnd (mb Γ) fun y A => ofO (o A x y) A
def mUn (o : Mem → Dv → Option Dv) (ma : Sl → Ms Dv) (Γ : Sl) : Ms Dv := bnd (ma Γ) fun x A => ofO (o A x) A
def mCb (o : Mem → List Dv → Option Dv) (mr : Sl → Ms (List Dv)) (Γ : Sl) : Ms Dv := bnd (mr Γ) fun xs A => ofO (o A xs) A
theorem wp_ofO {e : Ev} {A : Mem} {H : Hp} {Q : VK} {w : XK} {o : Option Dv} (h : Wp Rv w e H Q (ofO o A)) (m : Rm e A H) : ∃ z, o = some z ∧ ∀ H' v, Same H H' → Rv e H' v z → Q v H' := by
  match o, h with
  | some z, h => exact ⟨z, rfl, fun H' v s r => h e H' v (Gr.same s) (m.same s) r⟩
theorem sim_op {r : R2} {o : Mem → Dv → Dv → Option Dv} (ho : OpS P r o) (ha : Sim P W ta ma) (hb : Sim P W tb mb) : Sim P W (tOp r ta tb) (mBin o ma mb) := fun e A Γ σ H Q hf m g h =>
  ha e A Γ σ H _ hf m g (h.bnd fun e1 H1 v x A1 g1 m1 rx h1 => hb e1 A1 Γ σ H1 _ (hf.up g1) m1 (g.up g1) (h1.bnd fun e2 H2 u y A2 g2 m2 ry h2 => by
    obtain ⟨z, hz, k⟩ := wp_ofO h2 m2
    exact ho e2 A2 H2 v u x y z Q ((hf.up g1).up g2).k ((hf.up g1).up g2).c m2 (rx.up g2) ry hz k))
theorem sim_un {r : V → Hp → VK → Prop} {o : Mem → Dv → Option Dv} (ho : UnS P r o) (ha : Sim P W ta ma) : Sim P W (tUn r ta) (mUn o ma) := fun e A Γ σ H Q hf m g h =>
  ha e A Γ σ H _ hf m g (h.bnd fun e1 H1 v x A1 g1 m1 rx h1 => by
    obtain ⟨z, hz, k⟩ := wp_ofO h1 m1
    exact ho e1 A1 H1 v x z Q (hf.up g1).k (hf.up g1).c m1 rx hz k)
theorem sim_cb {r : List V → Hp → VK → Prop} {o : Mem → List Dv → Option Dv} (ho : CbS P r o) (ha : SimA P W tr mr) : Sim P W (tCB r tr) (mCb o mr) := fun e A Γ σ H Q hf m g h =>
  ha e A Γ σ H _ hf m g (h.bnd fun e1 H1 v x A1 g1 m1 rx h1 => by
    obtain ⟨z, hz, k⟩ := wp_ofO h1 m1
    exact ho e1 A1 H1 v x z Q (hf.up g1).k (hf.up g1).c m1 rx hz k)
/-- lists of arguments -/
def mNil (_ : Sl) : Ms (List Dv) := ret []
def mCons (ma : Sl → Ms Dv) (mr : Sl → Ms (List Dv)) (Γ : Sl) : Ms (List Dv) := bnd (ma Γ) fun x => bnd (mr Γ) fun xs => ret (x :: xs)
theorem sim_nil : SimA P W tNil mNil := fun e A Γ σ H Q hf m g h => h e H [] (Gr.refl _ _) m .nil
theorem sim_cons (ha : Sim P W ta ma) (hr : SimA P W tr mr) : SimA P W (tCons ta tr) (mCons ma mr) := fun e A Γ σ H Q hf m g h =>
  ha e A Γ σ H _ hf m g (h.bnd fun e1 H1 v x A1 g1 m1 rx h1 => hr e1 A1 Γ σ H1 _ (hf.up g1) m1 (g.up g1) (h1.bnd fun e2 H2 vs xs A2 g2 m2 rs h2 => h2 e2 H2 (v :: vs) (Gr.refl _ _) m2 (.cons (rx.up g2) rs)))
/-- a tuple, a list that never changes, a list that may -/
def big : Nat := 1000000
def mTup (mr : Sl → Ms (List Dv)) (Γ : Sl) : Ms Dv := bnd (mr Γ) fun xs => if xs.length ≤ big then ret (.tup xs) else fail
def mLst (mr : Sl → Ms (List Dv)) (Γ : Sl) : Ms Dv := bnd (mr Γ) fun xs => if xs.length ≤ big then ret (.lst xs) else fail
def mLstM (mr : Sl → Ms (List Dv)) (Γ : Sl) : Ms Dv := bnd (mr Γ) fun xs A => if xs.length ≤ big then some (.ok (.loc A.length), A ++ [.lst xs]) else none
theorem big_line {n : Nat} (h : n ≤ big) : n ≤ sizeLine := Nat.le_trans h (by decide)
theorem sim_tup (hr : SimA P W tr mr) : Sim P W (tTup tr) (mTup mr) := fun e A Γ σ H Q hf m g h =>
  hr e A Γ σ H _ hf m g (h.bnd fun e1 H1 vs xs A1 g1 m1 rs h1 => by
    by_cases l : xs.length ≤ big
    · rw [if_pos l] at h1
      exact ⟨by rw [rs.length]; exact big_line l, fun p hp => h1 e1 _ _ (Gr.same (Same.new hp)) (m1.same (Same.new hp)) (.tup (.of upd_same) (rs.up (Gr.same (Same.new hp))))⟩
    · rw [if_neg l] at h1
      exact h1.elim)
theorem sim_lst (hr : SimA P W tr mr) : Sim P W (tLst tr) (mLst mr) := fun e A Γ σ H Q hf m g h =>
  hr e A Γ σ H _ hf m g (h.bnd fun e1 H1 vs xs A1 g1 m1 rs h1 => by
    by_cases l : xs.length ≤ big
    · rw [if_pos l] at h1
      exact ⟨by rw [rs.length]; exact big_line l, fun p hp => h1 e1 _ _ (Gr.same (Same.new hp)) (m1.same (Same.new hp)) (.lst upd_same (m1.new hp) (rs.up (Gr.same (Same.new hp))))⟩
    · rw [if_neg l] at h1
      exact h1.elim)
theorem sim_lstM (hr : SimA P W tr mr) : Sim P W (tLst tr) (mLstM mr) := fun e A Γ σ H Q hf m g h =>
  hr e A Γ σ H _ hf m g (h.bnd fun e1 H1 vs xs A1 g1 m1 rs h1 => by
    by_cases l : xs.length ≤ big
    · simp only [if_pos l] at h1
      refine ⟨by rw [rs.length]; exact big_line l, fun p hp => h1 (e1.more p) _ _ (gr_more hp) (m1.more hp ⟨vs, upd_same, rs.up (gr_more hp)⟩) (.loc ?_)⟩
      show (e1.φ ++ [p])[A1.length]? = some p
      rw [← m1.len, List.getElem?_append_right (Nat.le_refl _), Nat.sub_self]
      rfl
    · simp only [if_neg l] at h1
      exact h1.elim)
/-- tests -/
def tru : Dv → Option Bool
  | .bl b => some b
  | _ => none
def mTst (ma : Sl → Ms Dv) (Γ : Sl) : Ms Bool := bnd (ma Γ) fun x => ofO (tru x)
theorem wp_tru {e : Ev} {A : Mem} {H : Hp} {Q : Bool → Hp → Prop} {w : XK} {x : Dv} {v : V} (h : Wp Rb w e H Q (ofO (tru x) A)) (m : Rm e A H) (r : Rv e H v x) : ∃ b, x = .bl b ∧ v = .bl b ∧ Q b H := by
  cases x with
  | bl b =>
    cases r
    exact ⟨b, rfl, rfl, h e H b (Gr.refl _ _) m rfl⟩
  | _ => exact h.elim
theorem sim_tB (ha : Sim P W ta ma) : SimT P W (tB ta) (mTst ma) := fun e A Γ σ H Q hf m g h =>
  ha e A Γ σ H _ hf m g (h.bnd fun e1 H1 v x A1 g1 m1 rx h1 => by
    obtain ⟨b, _, e2, q⟩ := wp_tru h1 m1 rx
    exact ⟨b, e2, q⟩)
theorem sim_tTest (ha : Sim P W ta ma) : SimT P W (tTest ta) (mTst ma) := fun e A Γ σ H Q hf m g h =>
  ha e A Γ σ H _ hf m g (h.bnd fun e1 H1 v x A1 g1 m1 rx h1 => by
    obtain ⟨b, _, e2, q⟩ := wp_tru h1 m1 rx
    exact ⟨b, e2, q⟩)
def mAndT (mt mu : Sl → Ms Bool) (Γ : Sl) : Ms Bool := bnd (mt Γ) fun b => if b = true then mu Γ else ret false
def mOrT (mt mu : Sl → Ms Bool) (Γ : Sl) : Ms Bool := bnd (mt Γ) fun b => if b = true then ret true else mu Γ
def mNotT (mt : Sl → Ms Bool) (Γ : Sl) : Ms Bool := bnd (mt Γ) fun b => ret (!b)
theorem sim_andT {tu : TT} {mu : Sl → Ms Bool} (ha : SimT P W tt mt) (hb : SimT P W tu mu) : SimT P W (tAnd tt tu) (mAndT mt mu) := fun e A Γ σ H Q hf m g h =>
  ha e A Γ σ H _ hf m g (h.bnd fun e1 H1 v x A1 g1 m1 rx h1 => by
    cases rx
    cases v with
    | true => exact hb e1 A1 Γ σ H1 Q (hf.up g1) m1 (g.up g1) h1
    | false => exact h1 e1 H1 false (Gr.refl _ _) m1 rfl)
theorem sim_orT {tu : TT} {mu : Sl → Ms Bool} (ha : SimT P W tt mt) (hb : SimT P W tu mu) : SimT P W (tOr tt tu) (mOrT mt mu) := fun e A Γ σ H Q hf m g h =>
  ha e A Γ σ H _ hf m g (h.bnd fun e1 H1 v x A1 g1 m1 rx h1 => by
    cases rx
    cases v with
    | false => exact hb e1 A1 Γ σ H1 Q (hf.up g1) m1 (g.up g1) h1
    | true => exact h1 e1 H1 true (Gr.refl _ _) m1 rfl)
theorem sim_notT (ha : SimT P W tt mt) : SimT P W (tNot tt) (mNotT mt) := fun e A Γ σ H Q hf m g h =>
  ha e A Γ σ H _ hf m g (h.bnd fun e1 H1 v x A1 g1 m1 rx h1 => by
    cases rx
    exact h1 e1 H1 (!v) (Gr.refl _ _) m1 rfl)
/-- and, or, not of truths, as values -/
def mAnd (ma mb : Sl → Ms Dv) (Γ : Sl) : Ms Dv := bnd (mTst ma Γ) fun b => if b = true then mb Γ else ret (.bl false)
def mOr (ma mb : Sl → Ms Dv) (Γ : Sl) : Ms Dv := bnd (mTst ma Γ) fun b => if b = true then ret (.bl true) else mb Γ
def mNot (ma : Sl → Ms Dv) (Γ : Sl) : Ms Dv := bnd (mTst ma Γ) fun b => ret (.bl (!b))
theorem sim_andV (ha : Sim P W ta ma) (hb : Sim P W tb mb) : Sim P W (tAndV ta tb) (mAnd ma mb) := fun e A Γ σ H Q hf m g h =>
  ha e A Γ σ H _ hf m g (Wp.bnd (R1 := Rv) (h.bnd (R1 := Rb) (Q1 := fun b H1 => if b = true then tb σ H1 Q else Q (.bl false) H1) fun e1 H1 v x A1 g1 m1 rx h1 => by
      cases rx
      cases v with
      | true => exact hb e1 A1 Γ σ H1 Q (hf.up g1) m1 (g.up g1) h1
      | false => exact h1 e1 H1 _ (Gr.refl _ _) m1 (.bl false)) fun e1 H1 v x A1 g1 m1 rx h1 => by
    obtain ⟨b, _, e2, q⟩ := wp_tru h1 m1 rx
    exact ⟨b, e2, q⟩)
theorem sim_orV (ha : Sim P W ta ma) (hb : Sim P W tb mb) : Sim P W (tOrV ta tb) (mOr ma mb) := fun e A Γ σ H Q hf m g h =>
  ha e A Γ σ H _ hf m g (Wp.bnd (R1 := Rv) (h.bnd (R1 := Rb) (Q1 := fun b H1 => if b = true then Q (.bl true) H1 else tb σ H1 Q) fun e1 H1 v x A1 g1 m1 rx h1 => by
      cases rx
      cases v with
      | false => exact hb e1 A1 Γ σ H1 Q (hf.up g1) m1 (g.up g1) h1
      | true => exact h1 e1 H1 _ (Gr.refl _ _) m1 (.bl true)) fun e1 H1 v x A1 g1 m1 rx h1 => by
    obtain ⟨b, _, e2, q⟩ := wp_tru h1 m1 rx
    exact ⟨b, e2, q⟩)
theorem sim_notV (ha : Sim P W ta ma) : Sim P W (tNotV ta) (mNot ma) := fun e A Γ σ H Q hf m g h =>
  ha e A Γ σ H _ hf m g (Wp.bnd (R1 := Rv) (h.bnd (R1 := Rb) (Q1 := fun b H1 => Q (.bl (!b)) H1) fun e1 H1 v x A1 g1 m1 rx h1 => by
      cases rx
      exact h1 e1 H1 _ (Gr.refl _ _) m1 (.bl _)) fun e1 H1 v x A1 g1 m1 rx h1 => by
    obtain ⟨b, _, e2, q⟩ := wp_tru h1 m1 rx
    exact ⟨b, e2, q⟩)
def mIf (mt : Sl → Ms Bool) (ma mb : Sl → Ms Dv) (Γ : Sl) : Ms Dv := bnd (mt Γ) fun b => if b = true then ma Γ else mb Γ
theorem sim_if (ht : SimT P W tt mt) (ha : Sim P W ta ma) (hb : Sim P W tb mb) : Sim P W (tIf tt ta tb) (mIf mt ma mb) := fun e A Γ σ H Q hf m g h =>
  ht e A Γ σ H _ hf m g (h.bnd fun e1 H1 v x A1 g1 m1 rx h1 => by
    cases rx
    cases v with
    | true => exact ha e1 A1 Γ σ H1 Q (hf.up g1) m1 (g.up g1) h1
    | false => exact hb e1 A1 Γ σ H1 Q (hf.up g1) m1 (g.up g1) h1)
end
end Mi

namespace Mi
open PySem PySem.Spec PyProof.Rows L2 Ty
/-! ### operators -/
theorem OpR.or {X : Cx} {f : Value → Value → Sem Value} {r r' : R2} (h : OpR X f r) (h' : OpR X f r') : OpR X f (fun x y H Q => r x y H Q ∨ r' x y H Q) := by
  intro pins s σ H x y v u Q I rx ry q
  rcases q with q | q
  · exact h pins s σ H x y v u Q I rx ry q
  · exact h' pins s σ H x y v u Q I rx ry q
/-- the items of a list, of a sequence, as they stand -/
def asL (A : Mem) : Dv → Option (List Dv)
  | .lst l => some l
  | .loc n => match A[n]? with
    | some (.lst l) => some l
    | _ => none
  | _ => none
def asQ (A : Mem) : Dv → Option (List Dv)
  | .lst l => some l
  | .scr l => some l
  | .loc n => match A[n]? with
    | some (.lst l) => some l
    | _ => none
  | _ => none
def asS (A : Mem) : Dv → Option (List Dv)
  | .tup l => some l
  | .lst l => some l
  | .scr l => some l
  | .loc n => match A[n]? with
    | some (.lst l) => some l
    | _ => none
  | _ => none
section
variable {e : Ev} {A : Mem} {H : Hp} {v : V} {x : Dv} {l : List Dv}
theorem asL_of (m : Rm e A H) (r : Rv e H v x) (h : asL A x = some l) : ∃ a xs, v = .ref a ∧ H a = some (.lst xs) ∧ Rvs e H xs l := by
  cases x with
  | lst l' =>
    cases h
    cases r with
    | lst q _ r => exact ⟨_, _, rfl, q, r⟩
  | loc n =>
    cases r with
    | loc q =>
      obtain ⟨o, h1, h2⟩ := m.at q
      simp only [asL, h1] at h
      cases o with
      | lst l' =>
        cases h
        obtain ⟨xs, h3, h4⟩ := h2
        exact ⟨_, xs, rfl, h3, h4⟩
      | del => cases h
  | _ => cases h
theorem asQ_of (m : Rm e A H) (r : Rv e H v x) (h : asQ A x = some l) : ∃ a xs, v = .ref a ∧ SqL e.K H a xs ∧ Rvs e H xs l := by
  cases x with
  | lst l' =>
    cases h
    cases r with
    | lst q _ r => exact ⟨_, _, rfl, .of q, r⟩
  | scr l' =>
    cases h
    cases r with
    | scr q r => exact ⟨_, _, rfl, q.sql, r⟩
  | loc n =>
    cases r with
    | loc q =>
      obtain ⟨o, h1, h2⟩ := m.at q
      simp only [asQ, h1] at h
      cases o with
      | lst l' =>
        cases h
        obtain ⟨xs, h3, h4⟩ := h2
        exact ⟨_, xs, rfl, .of h3, h4⟩
      | del => cases h
  | _ => cases h
theorem asS_of (m : Rm e A H) (r : Rv e H v x) (h : asS A x = some l) : ∃ a xs, v = .ref a ∧ (SqL e.K H a xs ∨ SqT e.K H a xs) ∧ Rvs e H xs l := by
  cases x with
  | tup l' =>
    cases h
    cases r with
    | tup q r => exact ⟨_, _, rfl, .inr q.sqt, r⟩
  | lst l' =>
    cases h
    cases r with
    | lst q _ r => exact ⟨_, _, rfl, .inl (.of q), r⟩
  | scr l' =>
    cases h
    cases r with
    | scr q r => exact ⟨_, _, rfl, .inl q.sql, r⟩
  | loc n =>
    cases r with
    | loc q =>
      obtain ⟨o, h1, h2⟩ := m.at q
      simp only [asS, h1] at h
      cases o with
      | lst l' =>
        cases h
        obtain ⟨xs, h3, h4⟩ := h2
        exact ⟨_, xs, rfl, .inl (.of h3), h4⟩
      | del => cases h
  | _ => cases h
end
/-- data, as it stands now -/
def now (A : Mem) : Dv → Dv
  | .loc n => match A[n]? with
    | some (.lst l) => .lst l
    | _ => .dic
  | d => d
theorem now_dp {e : Ev} {A : Mem} {H : Hp} {v : V} {x : Dv} (m : Rm e A H) (r : Rv e H v x) (h : dtv (now A x) = true) : Dp e.K H v (pdv (now A x)) := by
  cases x with
  | loc n =>
    cases r with
    | loc q =>
      obtain ⟨o, h1, h2⟩ := m.at q
      simp only [now, h1] at h ⊢
      cases o with
      | lst l' =>
        obtain ⟨xs, h3, h4⟩ := h2
        exact .lst (.of h3) (Rvs.dp l' xs h4 h)
      | del => cases h
  | _ => exact Rv.dp _ v r h
theorem now_eq {A : Mem} {x d : Dv} (h : now A x = d) (h1 : ∀ l, d ≠ .lst l) (h2 : d ≠ .dic) : x = d := by
  cases x with
  | loc n =>
    cases q : A[n]? with
    | none =>
      simp only [now, q] at h
      exact absurd h.symm h2
    | some o =>
      cases o with
      | lst l =>
        simp only [now, q] at h
        exact absurd h.symm (h1 l)
      | del =>
        simp only [now, q] at h
        exact absurd h.symm h2
  | _ => exact h
def isNon : Dv → Bool
  | .non => true
  | _ => false
/-! #### + - * // % ** -/
def rAddU (K : PySem.W.Frag) : R2 := fun x y H Q => rI0 (fun i j => .int (i + j)) x y H Q ∨ (rCatA K x y H Q ∨ (rCat x y H Q ∨ ∃ i j, x = .str i ∧ y = .str j ∧ i.length + j.length ≤ sizeLine ∧ Q (.str (i ++ j)) H))
theorem op_addU {X : Cx} : OpR X (binaryOp .Add) (rAddU X.K) := op_add.or (op_catA.or (op_cat.or op_add_str))
def oAdd (A : Mem) (x y : Dv) : Option Dv := match x, y with
  | .int i, .int j => some (.int (i + j))
  | .tup a, .tup b => if a.length + b.length ≤ big then some (.tup (a ++ b)) else none
  | .str a, .str b => if a.length + b.length ≤ big then some (.str (a ++ b)) else none
  | _, _ => match asL A x, asL A y with
    | some a, some b => if a.length + b.length ≤ big then some (.lst (a ++ b)) else none
    | _, _ => none
def rSubU : R2 := fun x y H Q => rI0 (fun i j => .int (i - j)) x y H Q ∨ ∃ p q, x = .bl p ∧ y = .bl q ∧ Q (.int ((if p = true then (1 : Int) else 0) - if q = true then (1 : Int) else 0)) H
theorem op_subU {X : Cx} : OpR X (binaryOp .Sub) rSubU := op_sub.or op_subBl
def oSub (_ : Mem) (x y : Dv) : Option Dv := match x, y with
  | .int i, .int j => some (.int (i - j))
  | .bl p, .bl q => some (.int ((if p = true then (1 : Int) else 0) - if q = true then (1 : Int) else 0))
  | _, _ => none
def CMulU (i j : Int) : Prop := i.natAbs.log2 + j.natAbs.log2 < 1000000 ∨ ((-(2 ^ 64) < i ∧ i < 2 ^ 64) ∨ (-(2 ^ 64) < j ∧ j < 2 ^ 64))
instance (i j : Int) : Decidable (CMulU i j) := by unfold CMulU; infer_instance
def rMulU : R2 := fun x y H Q => rI CMulW (fun i j => .int (i * j)) x y H Q ∨ (rI CMul (fun i j => .int (i * j)) x y H Q ∨ rRep x y H Q)
theorem op_mulU {X : Cx} : OpR X (binaryOp .Mult) rMulU := op_mulW.or (op_mul.or op_rep)
def oRep (A : Mem) (x : Dv) (k : Int) : Option Dv := match asL A x with
  | some a => if 0 ≤ k ∧ k ≤ 1000000 ∧ a.length * k.toNat ≤ big then some (.lst (List.replicate k.toNat a).flatten) else none
  | none => none
def oMul (A : Mem) (x y : Dv) : Option Dv := match x, y with
  | .int i, .int j => if CMulU i j then some (.int (i * j)) else none
  | x, .int k => oRep A x k
  | _, _ => none
def rDivU : R2 := rI CDivX (fun i j => .int (i.fdiv j))
def oDiv (_ : Mem) (x y : Dv) : Option Dv := match x, y with
  | .int i, .int j => if j.natAbs.log2 < 9000 then (if 0 < j then some (.int (i / j)) else if j ≠ 0 then some (.int (i.fdiv j)) else none) else none
  | _, _ => none
def rModU : R2 := rI (fun _ j => 0 < j) fun i j => .int (i % j)
def oMod (_ : Mem) (x y : Dv) : Option Dv := match x, y with
  | .int i, .int j => if 0 < j then some (.int (i % j)) else none
  | _, _ => none
def rPowU : R2 := rI CPowW fun i j => .int (i ^ j.toNat)
def oPow (_ : Mem) (x y : Dv) : Option Dv := match x, y with
  | .int i, .int j => if 0 ≤ j ∧ j ≤ 100 ∧ i.natAbs.log2 < 1000000 then some (.int (i ^ j.toNat)) else none
  | _, _ => none
section
variable {P : Pr}
theorem Rvs.cat {e : Ev} {H : Hp} {xs ys : List V} {a b : List Dv} (h : Rvs e H xs a) (k : Rvs e H ys b) : Rvs e H (xs ++ ys) (a ++ b) := h.app k
theorem ops_add : OpS P (rAddU P.K) oAdd := fun e A H v u x y z Q hk hc m rx ry h k => by
  have lists : ∀ a b, asL A x = some a → asL A y = some b → a.length + b.length ≤ big → z = .lst (a ++ b) → rAddU P.K v u H Q := fun a b ha hb hl hz => by
    obtain ⟨p, xs, rfl, h1, r1⟩ := asL_of m rx ha
    obtain ⟨q, ys, rfl, h2, r2⟩ := asL_of m ry hb
    refine .inr (.inr (.inl ⟨p, q, xs, ys, rfl, rfl, h1, h2, by rw [r1.length, r2.length]; exact big_line hl, fun l hp => k _ _ (Same.new hp) ?_⟩))
    rw [hz]
    exact .lst upd_same (m.new hp) ((r1.cat r2).up (Gr.same (Same.new hp)))
  have lists' : (match asL A x, asL A y with
      | some a, some b => if a.length + b.length ≤ big then some (Dv.lst (a ++ b)) else none
      | _, _ => none) = some z → rAddU P.K v u H Q := fun h => by
    cases ha : asL A x with
    | none => rw [ha] at h; cases h
    | some a =>
      cases hb : asL A y with
      | none => rw [ha, hb] at h; cases h
      | some b =>
        rw [ha, hb] at h
        by_cases l : a.length + b.length ≤ big
        · simp only [if_pos l] at h
          cases h
          exact lists a b ha hb l rfl
        · simp only [if_neg l] at h
          cases h
  unfold oAdd at h
  split at h
  · cases h
    cases rx
    cases ry
    exact .inl ⟨_, _, rfl, rfl, k _ _ (Same.refl _) (.int _)⟩
  · rename_i a b
    split at h
    · rename_i l
      cases h
      cases rx with
      | tup h1 r1 =>
      cases ry with
      | tup h2 r2 =>
      rename_i p xs q ys
      rw [hk] at h1 h2
      refine .inr (.inl ⟨p, q, xs, ys, rfl, rfl, h1.sqt, h2.sqt, by rw [r1.length, r2.length]; exact big_line l, fun z => ?_, fun _ z => ?_, fun _ _ l hp => k _ _ (Same.new hp) (.tup (.of upd_same) ((r1.cat r2).up (Gr.same (Same.new hp))))⟩)
      · subst z
        have ea : a = [] := List.eq_nil_of_length_eq_zero (by rw [← r1.length]; rfl)
        subst ea
        exact k _ _ (Same.refl _) (.tup (by rw [hk]; exact h2) r2)
      · subst z
        have ea : b = [] := List.eq_nil_of_length_eq_zero (by rw [← r2.length]; rfl)
        subst ea
        refine k _ _ (Same.refl _) (.tup (by rw [hk]; exact h1) ?_)
        rw [List.append_nil]
        exact r1
    · cases h
  · rename_i a b
    split at h
    · rename_i l
      cases h
      cases rx
      cases ry
      exact .inr (.inr (.inr ⟨_, _, rfl, rfl, big_line l, k _ _ (Same.refl _) (.str _)⟩))
    · cases h
  · exact lists' h
theorem ops_sub : OpS P rSubU oSub := fun e A H v u x y z Q hk hc m rx ry h k => by
  unfold oSub at h
  split at h
  · cases h
    cases rx
    cases ry
    exact .inl ⟨_, _, rfl, rfl, k _ _ (Same.refl _) (.int _)⟩
  · cases h
    cases rx
    cases ry
    exact .inr ⟨_, _, rfl, rfl, k _ _ (Same.refl _) (.int _)⟩
  · cases h
theorem ops_mul : OpS P rMulU oMul := fun e A H v u x y z Q hk hc m rx ry h k => by
  unfold oMul at h
  split at h
  · split at h
    · rename_i l
      cases h
      cases rx
      cases ry
      rcases l with l | l
      · exact .inl ⟨_, _, rfl, rfl, l, k _ _ (Same.refl _) (.int _)⟩
      · exact .inr (.inl ⟨_, _, rfl, rfl, l, k _ _ (Same.refl _) (.int _)⟩)
    · cases h
  · rename_i x' j _
    unfold oRep at h
    split at h
    · rename_i a ha
      split at h
      · rename_i l
        cases h
        cases ry
        obtain ⟨p, xs, rfl, h1, r1⟩ := asL_of m rx ha
        have rep : ∀ n, Rvs e H (List.replicate n xs).flatten (List.replicate n a).flatten := fun n => by
          induction n with
          | zero => exact .nil
          | succ n ih =>
            rw [List.replicate_succ, List.replicate_succ, List.flatten_cons, List.flatten_cons]
            exact r1.cat ih
        refine .inr (.inr ⟨p, j, xs, rfl, rfl, h1, by omega, by omega, by rw [r1.length]; exact big_line l.2.2, fun q hp => k _ _ (Same.new hp) ?_⟩)
        exact .lst upd_same (m.new hp) ((rep _).up (Gr.same (Same.new hp)))
      · cases h
    · cases h
  · cases h
theorem ops_div : OpS P rDivU oDiv := fun e A H v u x y z Q hk hc m rx ry h k => by
  unfold oDiv at h
  split at h
  · split at h
    · rename_i l
      split at h
      · rename_i p
        cases h
        cases rx
        cases ry
        refine ⟨_, _, rfl, rfl, ⟨by omega, l⟩, ?_⟩
        show Q (V.int (Int.fdiv _ _)) H
        rw [Int.fdiv_eq_ediv_of_nonneg _ (by omega)]
        exact k _ _ (Same.refl _) (.int _)
      · split at h
        · rename_i p
          cases h
          cases rx
          cases ry
          exact ⟨_, _, rfl, rfl, ⟨p, l⟩, k _ _ (Same.refl _) (.int _)⟩
        · cases h
    · cases h
  · cases h
theorem ops_mod : OpS P rModU oMod := fun e A H v u x y z Q hk hc m rx ry h k => by
  unfold oMod at h
  split at h
  · split at h
    · rename_i l
      cases h
      cases rx
      cases ry
      exact ⟨_, _, rfl, rfl, l, k _ _ (Same.refl _) (.int _)⟩
    · cases h
  · cases h
theorem ops_pow : OpS P rPowU oPow := fun e A H v u x y z Q hk hc m rx ry h k => by
  unfold oPow at h
  split at h
  · split at h
    · rename_i l
      cases h
      cases rx
      cases ry
      exact ⟨_, _, rfl, rfl, l, k _ _ (Same.refl _) (.int _)⟩
    · cases h
  · cases h
end
/-! #### comparisons -/
def oCmp (p : Int → Int → Bool) (_ : Mem) (x y : Dv) : Option Dv := match x, y with
  | .int i, .int j => some (.bl (p i j))
  | _, _ => none
/-- equality of data -/
def sameD (x y : Dv) : Option Bool := match x, y with
  | .rep a, .rep b => if beqD a b = true then some true else none
  | .int i, .int j => some (decide (i = j))
  | .bl i, .bl j => some (decide (i = j))
  | .str i, .str j => some (decide (i = j))
  | .non, .non => some true
  | _, _ => if (isDv x && isDv y && decide (dpv x ≤ 60) && decide (dpv y ≤ 60)) = true then some (beqD x y || PyData.eqv (pdv x) (pdv y)) else none
def rEqU (K : PySem.W.Frag) : R2 := fun x y H Q => rEq x y H Q ∨ rEqD K x y H Q
def rNeU (K : PySem.W.Frag) : R2 := fun x y H Q => rNe x y H Q ∨ rNeD K x y H Q
theorem op_eqU {X : Cx} (hu : X.A.units + 64 < cLine) : OpR X (compareOp .Eq) (rEqU X.K) := op_eq.or (op_eqD hu)
theorem op_neU {X : Cx} (hu : X.A.units + 64 < cLine) : OpR X (compareOp .NotEq) (rNeU X.K) := op_ne.or (op_neD hu)
def oEq (A : Mem) (x y : Dv) : Option Dv := (sameD (now A x) (now A y)).map .bl
def oNe (A : Mem) (x y : Dv) : Option Dv := (sameD (now A x) (now A y)).map fun b => .bl (!b)
def oIsN (_ : Mem) (x y : Dv) : Option Dv := match y with
  | .non => some (.bl (isNon x))
  | _ => none
def oNotN (_ : Mem) (x y : Dv) : Option Dv := match y with
  | .non => some (.bl (!isNon x))
  | _ => none
/-- x in a tuple or a list of data -/
def oIn (A : Mem) (x y : Dv) : Option Dv := match asS A y with
  | some l => if (isDv (now A x) && isDvs l && decide (dpv (now A x) ≤ 60) && decide (dpvs l ≤ 59)) = true then some (.bl (l.any fun z => beqD z (now A x) || PyData.eqv (pdv z) (pdv (now A x)))) else none
  | none => none
def oNotIn (A : Mem) (x y : Dv) : Option Dv := match oIn A x y with
  | some (.bl b) => some (.bl (!b))
  | _ => none
section
variable {P : Pr}
theorem ops_cmp {p : Int → Int → Bool} : OpS P (rI0 fun i j => .bl (p i j)) (oCmp p) := fun e A H v u x y z Q hk hc m rx ry h k => by
  unfold oCmp at h
  split at h
  · cases h
    cases rx
    cases ry
    exact ⟨_, _, rfl, rfl, k _ _ (Same.refl _) (.bl _)⟩
  · cases h
theorem beq_eqv {x y : Dv} (h : isDv x = true) : (beqD x y || PyData.eqv (pdv x) (pdv y)) = PyData.eqv (pdv x) (pdv y) := by
  cases q : beqD x y with
  | false => rfl
  | true =>
    rw [← beqD_eq x y q, eqv_refl x h]
    rfl
/-- the two ways: as they are, or as data -/
theorem same_of {e : Ev} {A : Mem} {H : Hp} {v u : V} {x y : Dv} {b : Bool} (m : Rm e A H) (rx : Rv e H v x) (ry : Rv e H u y) (h : sameD (now A x) (now A y) = some b) :
    (scal v u = true ∧ decide (v = u) = b) ∨ ∃ d d', Dp e.K H v d ∧ Dp e.K H u d' ∧ SeqAt.shaped d = true ∧ SeqAt.shaped d' = true ∧ PyData.eqv d d' = b := by
  have data : ∀ {b : Bool}, (if (isDv (now A x) && isDv (now A y) && decide (dpv (now A x) ≤ 60) && decide (dpv (now A y) ≤ 60)) = true then some (beqD (now A x) (now A y) || PyData.eqv (pdv (now A x)) (pdv (now A y))) else none) = some b →
      ∃ d d', Dp e.K H v d ∧ Dp e.K H u d' ∧ SeqAt.shaped d = true ∧ SeqAt.shaped d' = true ∧ PyData.eqv d d' = b := fun {b} h => by
    split at h
    · rename_i c
      simp only [Bool.and_eq_true, decide_eq_true_eq] at c
      obtain ⟨⟨⟨c1, c2⟩, c3⟩, c4⟩ := c
      rw [beq_eqv c1] at h
      cases h
      exact ⟨_, _, now_dp m rx (isDv_dt _ c1), now_dp m ry (isDv_dt _ c2), shaped_v c1 c3, shaped_v c2 c4, rfl⟩
    · cases h
  unfold sameD at h
  split at h
  · rename_i a b' ex ey
    split at h
    · rename_i q
      cases h
      have ea := beqD_eq _ _ q
      subst ea
      have nx : x = .rep a := now_eq ex (fun _ z => nomatch z) (fun z => nomatch z)
      have ny : y = .rep a := now_eq ey (fun _ z => nomatch z) (fun z => nomatch z)
      subst nx
      subst ny
      cases rx
      cases ry
      exact .inl ⟨rfl, decide_eq_true rfl⟩
    · cases h
  · rename_i i j ex ey
    cases h
    have nx : x = .int i := now_eq ex (fun _ z => nomatch z) (fun z => nomatch z)
    have ny : y = .int j := now_eq ey (fun _ z => nomatch z) (fun z => nomatch z)
    subst nx
    subst ny
    cases rx
    cases ry
    refine .inl ⟨rfl, ?_⟩
    by_cases q : i = j
    · rw [q, decide_eq_true rfl, decide_eq_true rfl]
    · rw [decide_eq_false q, decide_eq_false fun z => q (by injection z)]
  · rename_i i j ex ey
    cases h
    have nx : x = .bl i := now_eq ex (fun _ z => nomatch z) (fun z => nomatch z)
    have ny : y = .bl j := now_eq ey (fun _ z => nomatch z) (fun z => nomatch z)
    subst nx
    subst ny
    cases rx
    cases ry
    refine .inl ⟨rfl, ?_⟩
    by_cases q : i = j
    · rw [q, decide_eq_true rfl, decide_eq_true rfl]
    · rw [decide_eq_false q, decide_eq_false fun z => q (by injection z)]
  · rename_i i j ex ey
    cases h
    have nx : x = .str i := now_eq ex (fun _ z => nomatch z) (fun z => nomatch z)
    have ny : y = .str j := now_eq ey (fun _ z => nomatch z) (fun z => nomatch z)
    subst nx
    subst ny
    cases rx
    cases ry
    refine .inl ⟨rfl, ?_⟩
    by_cases q : i = j
    · rw [q, decide_eq_true rfl, decide_eq_true rfl]
    · rw [decide_eq_false q, decide_eq_false fun z => q (by injection z)]
  · rename_i ex ey
    cases h
    have nx : x = .non := now_eq ex (fun _ z => nomatch z) (fun z => nomatch z)
    have ny : y = .non := now_eq ey (fun _ z => nomatch z) (fun z => nomatch z)
    subst nx
    subst ny
    cases rx
    cases ry
    exact .inl ⟨rfl, decide_eq_true rfl⟩
  · exact .inr (data h)
theorem ops_eq : OpS P (rEqU P.K) oEq := fun e A H v u x y z Q hk hc m rx ry h k => by
  unfold oEq at h
  cases q : sameD (now A x) (now A y) with
  | none => rw [q] at h; cases h
  | some b =>
    rw [q] at h
    cases h
    rcases same_of m rx ry q with ⟨h1, h2⟩ | ⟨d, d', h1, h2, h3, h4, h5⟩
    · exact .inl ⟨h1, by rw [h2]; exact k _ _ (Same.refl _) (.bl _)⟩
    · rw [hk] at h1 h2
      exact .inr ⟨d, d', h1, h2, h3, h4, by rw [h5]; exact k _ _ (Same.refl _) (.bl _)⟩
theorem ops_ne : OpS P (rNeU P.K) oNe := fun e A H v u x y z Q hk hc m rx ry h k => by
  unfold oNe at h
  cases q : sameD (now A x) (now A y) with
  | none => rw [q] at h; cases h
  | some b =>
    rw [q] at h
    cases h
    rcases same_of m rx ry q with ⟨h1, h2⟩ | ⟨d, d', h1, h2, h3, h4, h5⟩
    · exact .inl ⟨h1, by rw [h2]; exact k _ _ (Same.refl _) (.bl _)⟩
    · rw [hk] at h1 h2
      exact .inr ⟨d, d', h1, h2, h3, h4, by rw [h5]; exact k _ _ (Same.refl _) (.bl _)⟩
theorem rv_non {e : Ev} {H : Hp} {v : V} {x : Dv} (r : Rv e H v x) : decide (v = .non) = isNon x := by
  cases r with
  | non => exact decide_eq_true rfl
  | _ => exact decide_eq_false fun z => nomatch z
theorem ops_isN : OpS P (fun x y H Q => y = .non ∧ Q (.bl (decide (x = .non))) H) oIsN := fun e A H v u x y z Q hk hc m rx ry h k => by
  unfold oIsN at h
  split at h
  · cases h
    cases ry
    refine ⟨rfl, ?_⟩
    rw [rv_non rx]
    exact k _ _ (Same.refl _) (.bl _)
  · cases h
theorem ops_notN : OpS P (fun x y H Q => y = .non ∧ Q (.bl (!decide (x = .non))) H) oNotN := fun e A H v u x y z Q hk hc m rx ry h k => by
  unfold oNotN at h
  split at h
  · cases h
    cases ry
    refine ⟨rfl, ?_⟩
    rw [rv_non rx]
    exact k _ _ (Same.refl _) (.bl _)
  · cases h
end
end Mi

namespace Mi
open PySem PySem.Spec PyProof.Rows L2 Ty
/-! ### items, slices -/
def oIx (A : Mem) (x y : Dv) : Option Dv := match y with
  | .int i => match asS A x with
    | some l => atI l i
    | none => none
  | _ => none
theorem Rvs.atI {e : Ev} {H : Hp} {xs : List V} {l : List Dv} {i : Int} {d : Dv} (r : Rvs e H xs l) (h : L2.atI l i = some d) : ∃ v, L2.atI xs i = some v ∧ Rv e H v d := by
  unfold L2.atI at h ⊢
  rw [r.length]
  cases q : ixN l.length i with
  | none => rw [q] at h; cases h
  | some j =>
    rw [q] at h
    obtain ⟨v, h1, h2⟩ := r.get (show l[j]? = some d from h)
    exact ⟨v, h1, h2⟩
def cutD (l : List Dv) (lo hi : Option Int) : List Dv := (l.drop (HT.sIx l.length 0 lo)).take (HT.sIx l.length l.length hi - HT.sIx l.length 0 lo)
theorem Rvs.cut {e : Ev} {H : Hp} {xs : List V} {l : List Dv} (r : Rvs e H xs l) (lo hi : Option Int) : Rvs e H (cutV xs lo hi) (cutD l lo hi) := by
  unfold cutV cutD
  rw [r.length]
  exact (r.drop _).take _
def rIxU (K : PySem.W.Frag) : R2 := fun x y H Q => rIxL K x y H Q ∨ rIxT K x y H Q
theorem ix_U {X : Cx} : IxR X (rIxU X.K) := ix_list.or ix_tup
def rSlU (K : PySem.W.Frag) : V → Option Int → Option Int → Hp → VK → Prop := fun x lo hi H Q => rSlL K x lo hi H Q ∨ rSlT K x lo hi H Q
theorem sl_U {X : Cx} : SlR X (rSlU X.K) := sl_list.or sl_tup
section
variable {P : Pr} {W : L2.St → XK} {ta tb : TE} {tl th : TO} {tr : TA} {ma mb : Sl → Ms Dv} {mr : Sl → Ms (List Dv)} {ml mh : Sl → Ms (Option Int)}
theorem ops_ix : OpS P (rIxU P.K) oIx := fun e A H v u x y z Q hk hc m rx ry h k => by
  unfold oIx at h
  split at h
  · rename_i i
    split at h
    · rename_i l hl
      cases ry
      obtain ⟨a, xs, rfl, hs, r⟩ := asS_of m rx hl
      obtain ⟨w, h1, h2⟩ := r.atI h
      rw [hk] at hs
      rcases hs with hs | hs
      · exact .inl ⟨a, xs, i, w, rfl, rfl, hs, h1, k _ _ (Same.refl _) h2⟩
      · exact .inr ⟨a, xs, i, w, rfl, rfl, hs, h1, k _ _ (Same.refl _) h2⟩
    · cases h
  · cases h
def SimO (P : Pr) (W : L2.St → XK) (t : TO) (m : Sl → Ms (Option Int)) : Prop := ∀ e A Γ σ H Q, Fx P e H → Rm e A H → Rg e H σ Γ → Wp (fun _ _ (b c : Option Int) => b = c) (W σ) e H Q (m Γ A) → t σ H Q
def mNoP (_ : Sl) : Ms (Option Int) := ret none
def intO : Dv → Option (Option Int)
  | .int i => some (some i)
  | _ => none
def mPart (ma : Sl → Ms Dv) (Γ : Sl) : Ms (Option Int) := bnd (ma Γ) fun x => ofO (intO x)
theorem sim_noP : SimO P W tNoPart mNoP := fun e A Γ σ H Q hf m g h => h e H none (Gr.refl _ _) m rfl
theorem sim_part (ha : Sim P W ta ma) : SimO P W (tPart ta) (mPart ma) := fun e A Γ σ H Q hf m g h =>
  ha e A Γ σ H _ hf m g (h.bnd fun e1 H1 v x A1 g1 m1 rx h1 => by
    cases x with
    | int i =>
      cases rx
      exact ⟨i, rfl, h1 e1 H1 (some i) (Gr.refl _ _) m1 rfl⟩
    | _ => exact h1.elim)
def oSl (A : Mem) (x : Dv) (lo hi : Option Int) : Option Dv := match x with
  | .tup l => if HT.sIx l.length 0 lo = 0 ∧ HT.sIx l.length l.length hi = l.length then none else some (.tup (cutD l lo hi))
  | x => match asQ A x with
    | some l => some (.lst (cutD l lo hi))
    | none => none
def mSl (ma : Sl → Ms Dv) (ml mh : Sl → Ms (Option Int)) (Γ : Sl) : Ms Dv := bnd (ma Γ) fun x => bnd (ml Γ) fun lo => bnd (mh Γ) fun hi A => ofO (oSl A x lo hi) A
theorem sim_sl (ha : Sim P W ta ma) (hl : SimO P W tl ml) (hh : SimO P W th mh) : Sim P W (tSl (rSlU P.K) ta tl th) (mSl ma ml mh) := fun e A Γ σ H Q hf m g h =>
  ha e A Γ σ H _ hf m g (h.bnd fun e1 H1 v x A1 g1 m1 rx h1 => hl e1 A1 Γ σ H1 _ (hf.up g1) m1 (g.up g1) (h1.bnd (R1 := fun _ _ (b c : Option Int) => b = c) fun e2 H2 lo lo' A2 g2 m2 r2 h2 => by
    cases r2
    refine hh e2 A2 Γ σ H2 _ ((hf.up g1).up g2) m2 ((g.up g1).up g2) (h2.bnd (R1 := fun _ _ (b c : Option Int) => b = c) fun e3 H3 hi hi' A3 g3 m3 r3 h3 => ?_)
    cases r3
    obtain ⟨z, hz, k⟩ := wp_ofO h3 m3
    have rx := (rx.up g2).up g3
    have hk3 : e3.K = P.K := g3.k.trans ((hf.up g1).up g2).k
    unfold oSl at hz
    split at hz
    · rename_i l
      split at hz
      · cases hz
      · rename_i c
        cases hz
        cases rx with
        | tup q r =>
        rename_i a xs
        rw [hk3] at q
        exact .inr ⟨a, xs, rfl, q.sqt, by rw [r.length]; exact c, fun p hp => k _ _ (Same.new hp) (.tup (.of upd_same) ((r.cut lo hi).up (Gr.same (Same.new hp))))⟩
    · rename_i x' nx
      split at hz
      · rename_i l hl'
        cases hz
        obtain ⟨a, xs, rfl, hs, r⟩ := asQ_of m3 rx hl'
        rw [hk3] at hs
        exact .inl ⟨a, xs, rfl, hs, fun p hp => k _ _ (Same.new hp) (.lst upd_same (m3.new hp) ((r.cut lo hi).up (Gr.same (Same.new hp))))⟩
      · cases hz))
/-- - -/
def oNeg (_ : Mem) : Dv → Option Dv
  | .int i => some (.int (-i))
  | _ => none
theorem uns_neg : UnS P (rU fun i => .int (-i)) oNeg := fun e A H v x z Q hk hc m rx h k => by
  cases x with
  | int i =>
    cases h
    cases rx
    exact ⟨i, rfl, k _ _ (Same.refl _) (.int _)⟩
  | _ => cases h
/-! ### built-in functions -/
def rLenU (K : PySem.W.Frag) : List V → Hp → VK → Prop := fun xs H Q => (∃ p ys, xs = [.ref p] ∧ (SqL K H p ys ∨ SqT K H p ys) ∧ Q (.int ys.length) H) ∨ ∃ z, xs = [.str z] ∧ z.length ≤ sizeLine ∧ Q (.int z.length) H
theorem call_lenU {X : Cx} : CallR X (.builtin "len") (rLenU X.K) := call_len_seq.or call_len_str
def oLen (A : Mem) (xs : List Dv) : Option Dv := match xs with
  | [.str z] => if z.length ≤ big then some (.int z.length) else none
  | [x] => match asS A x with
    | some l => some (.int l.length)
    | none => none
  | _ => none
theorem Rvs.one {e : Ev} {H : Hp} {vs : List V} {x : Dv} (r : Rvs e H vs [x]) : ∃ v, vs = [v] ∧ Rv e H v x := by
  cases r with
  | cons h t =>
    cases t
    exact ⟨_, rfl, h⟩
theorem Rvs.two {e : Ev} {H : Hp} {vs : List V} {x y : Dv} (r : Rvs e H vs [x, y]) : ∃ v u, vs = [v, u] ∧ Rv e H v x ∧ Rv e H u y := by
  cases r with
  | cons h t =>
    obtain ⟨u, rfl, k⟩ := t.one
    exact ⟨_, u, rfl, h, k⟩
theorem cbs_len : CbS P (rLenU P.K) oLen := fun e A H vs xs z Q hk hc m rs h k => by
  unfold oLen at h
  split at h
  · split at h
    · rename_i l
      cases h
      obtain ⟨v, rfl, r⟩ := rs.one
      cases r
      exact .inr ⟨_, rfl, big_line l, k _ _ (Same.refl _) (.int _)⟩
    · cases h
  · split at h
    · rename_i l hl
      cases h
      obtain ⟨v, rfl, r⟩ := rs.one
      obtain ⟨a, xs, rfl, hs, r⟩ := asS_of m r hl
      rw [hk] at hs
      refine .inl ⟨a, xs, rfl, hs, ?_⟩
      rw [r.length]
      exact k _ _ (Same.refl _) (.int _)
    · cases h
  · cases h
def oAbs (_ : Mem) (xs : List Dv) : Option Dv := match xs with
  | [.int i] => some (.int (if i < 0 then -i else i))
  | _ => none
theorem cbs_abs : CbS P (fun xs H Q => ∃ i, xs = [.int i] ∧ Q (.int (if i < 0 then -i else i)) H) oAbs := fun e A H vs xs z Q hk hc m rs h k => by
  unfold oAbs at h
  split at h
  · cases h
    obtain ⟨v, rfl, r⟩ := rs.one
    cases r
    exact ⟨_, rfl, k _ _ (Same.refl _) (.int _)⟩
  · cases h
def oMax2 (_ : Mem) (xs : List Dv) : Option Dv := match xs with
  | [.int i, .int j] => some (.int (if j > i then j else i))
  | _ => none
theorem cbs_max2 : CbS P (fun xs H Q => ∃ i j, xs = [.int i, .int j] ∧ Q (.int (if j > i then j else i)) H) oMax2 := fun e A H vs xs z Q hk hc m rs h k => by
  unfold oMax2 at h
  split at h
  · cases h
    obtain ⟨v, u, rfl, r1, r2⟩ := rs.two
    cases r1
    cases r2
    exact ⟨_, _, rfl, k _ _ (Same.refl _) (.int _)⟩
  · cases h
def oMin2 (_ : Mem) (xs : List Dv) : Option Dv := match xs with
  | [.int i, .int j] => some (.int (if j < i then j else i))
  | _ => none
theorem cbs_min2 : CbS P (fun xs H Q => ∃ i j, xs = [.int i, .int j] ∧ Q (.int (if j < i then j else i)) H) oMin2 := fun e A H vs xs z Q hk hc m rs h k => by
  unfold oMin2 at h
  split at h
  · cases h
    obtain ⟨v, u, rfl, r1, r2⟩ := rs.two
    cases r1
    cases r2
    exact ⟨_, _, rfl, k _ _ (Same.refl _) (.int _)⟩
  · cases h
def oInt (_ : Mem) (xs : List Dv) : Option Dv := match xs with
  | [.int i] => some (.int i)
  | [.bl b] => some (.int (if b then 1 else 0))
  | _ => none
theorem cbs_int : CbS P (fun xs H Q => (∃ i, xs = [.int i] ∧ Q (.int i) H) ∨ ∃ k, xs = [.bl k] ∧ Q (.int (if k then 1 else 0)) H) oInt := fun e A H vs xs z Q hk hc m rs h k => by
  unfold oInt at h
  split at h
  · cases h
    obtain ⟨v, rfl, r⟩ := rs.one
    cases r
    exact .inl ⟨_, rfl, k _ _ (Same.refl _) (.int _)⟩
  · cases h
    obtain ⟨v, rfl, r⟩ := rs.one
    cases r
    exact .inr ⟨_, rfl, k _ _ (Same.refl _) (.int _)⟩
  · cases h
def oGcd (_ : Mem) (xs : List Dv) : Option Dv := match xs with
  | [.int i, .int j] => some (.int ((Nat.gcd i.natAbs j.natAbs : Nat) : Int))
  | _ => none
theorem cbs_gcd : CbS P rGcd oGcd := fun e A H vs xs z Q hk hc m rs h k => by
  unfold oGcd at h
  split at h
  · cases h
    obtain ⟨v, u, rfl, r1, r2⟩ := rs.two
    cases r1
    cases r2
    exact ⟨_, _, rfl, k _ _ (Same.refl _) (.int _)⟩
  · cases h
/-- tuple(x), list(x) -/
def oTuple (A : Mem) (xs : List Dv) : Option Dv := match xs with
  | [x] => match asS A x with
    | some l => some (.tup l)
    | none => none
  | _ => none
theorem cbs_tuple : CbS P (fun xs H Q => ∃ p ys, xs = [.ref p] ∧ ((SqL P.K H p ys ∧ ∀ l, H l = none → Q (.ref l) (upd H l (.tup ys))) ∨ (SqT P.K H p ys ∧ Q (.ref p) H))) oTuple := fun e A H vs xs z Q hk hc m rs h k => by
  unfold oTuple at h
  split at h
  · split at h
    · rename_i x _ l hl
      cases h
      obtain ⟨v, rfl, r⟩ := rs.one
      have lists : asQ A x = some l → ∃ p ys, [v] = [.ref p] ∧ ((SqL P.K H p ys ∧ ∀ l, H l = none → Q (.ref l) (upd H l (.tup ys))) ∨ (SqT P.K H p ys ∧ Q (.ref p) H)) := fun hq => by
        obtain ⟨a, xs, rfl, hs, r⟩ := asQ_of m r hq
        rw [hk] at hs
        exact ⟨a, xs, rfl, .inl ⟨hs, fun p hp => k _ _ (Same.new hp) (.tup (.of upd_same) (r.up (Gr.same (Same.new hp))))⟩⟩
      cases x with
      | tup l' =>
        cases hl
        have r0 := r
        cases r with
        | @tup a xs _ hs r =>
        rw [hk] at hs
        exact ⟨a, xs, rfl, .inr ⟨hs.sqt, k _ _ (Same.refl _) r0⟩⟩
      | lst l' => exact lists hl
      | scr l' => exact lists hl
      | loc n => exact lists hl
      | _ => cases hl
    · cases h
  · cases h
def oList (A : Mem) (xs : List Dv) : Option Dv := match xs with
  | [x] => match asS A x with
    | some l => some (.lst l)
    | none => none
  | _ => none
def rListU (K : PySem.W.Frag) : List V → Hp → VK → Prop := fun xs H Q => ∃ p ys, xs = [.ref p] ∧ (SqL K H p ys ∨ SqT K H p ys) ∧ ∀ l, H l = none → Q (.ref l) (upd H l (.lst ys))
theorem cbs_list : CbS P (rListU P.K) oList := fun e A H vs xs z Q hk hc m rs h k => by
  unfold oList at h
  split at h
  · split at h
    · rename_i x l hl
      cases h
      obtain ⟨v, rfl, r⟩ := rs.one
      obtain ⟨a, xs, rfl, hs, r⟩ := asS_of m r hl
      rw [hk] at hs
      exact ⟨a, xs, rfl, hs, fun p hp => k _ _ (Same.new hp) (.lst upd_same (m.new hp) (r.up (Gr.same (Same.new hp))))⟩
    · cases h
  · cases h
/-- list(x), that may change -/
def mListM (mr : Sl → Ms (List Dv)) (Γ : Sl) : Ms Dv := bnd (mr Γ) fun xs A => match xs with
  | [x] => match asS A x with
    | some l => some (.ok (.loc A.length), A ++ [.lst l])
    | none => none
  | _ => none
theorem sim_listM (ha : SimA P W tr mr) : Sim P W (tCB (rListU P.K) tr) (mListM mr) := fun e A Γ σ H Q hf m g h =>
  ha e A Γ σ H _ hf m g (h.bnd fun e1 H1 vs xs A1 g1 m1 rs h1 => by
    split at h1
    · split at h1
      · rename_i x l hl
        obtain ⟨v, rfl, r⟩ := rs.one
        obtain ⟨a, ys, rfl, hs, r⟩ := asS_of m1 r hl
        rw [(hf.up g1).k] at hs
        refine ⟨a, ys, rfl, hs, fun p hp => h1 (e1.more p) _ _ (gr_more hp) (m1.more hp ⟨ys, upd_same, r.up (gr_more hp)⟩) (.loc ?_)⟩
        show (e1.φ ++ [p])[A1.length]? = some p
        rw [← m1.len, List.getElem?_append_right (Nat.le_refl _), Nat.sub_self]
        rfl
      · exact h1.elim
    · exact h1.elim)
/-- all, any of truths -/
def trus : List Dv → Option (List Bool)
  | [] => some []
  | .bl b :: l => match trus l with
    | some bs => some (b :: bs)
    | none => none
  | _ => none
theorem trus_of {e : Ev} {H : Hp} : ∀ {l : List Dv} {xs : List V} {bs : List Bool}, Rvs e H xs l → trus l = some bs → xs = bs.map V.bl
  | [], _, _, r, h => by
    cases h
    cases r
    rfl
  | d :: l, _, bs, r, h => by
    cases r with
    | cons r t =>
    cases d with
    | bl b =>
      cases r
      unfold trus at h
      split at h
      · rename_i cs hc
        cases h
        rw [trus_of t hc]
        rfl
      · cases h
    | _ => cases h
def oAll (A : Mem) (xs : List Dv) : Option Dv := match xs with
  | [x] => match asQ A x with
    | some l => (trus l).map fun bs => .bl (bs.all id)
    | none => none
  | _ => none
def oAny (A : Mem) (xs : List Dv) : Option Dv := match xs with
  | [x] => match asQ A x with
    | some l => (trus l).map fun bs => .bl (bs.any id)
    | none => none
  | _ => none
theorem cbs_all : CbS P (rAll P.K) oAll := fun e A H vs xs z Q hk hc m rs h k => by
  unfold oAll at h
  split at h
  · split at h
    · rename_i x l hl
      cases q : trus l with
      | none => rw [q] at h; cases h
      | some bs =>
        rw [q] at h
        cases h
        obtain ⟨v, rfl, r⟩ := rs.one
        obtain ⟨a, xs, rfl, hs, r⟩ := asQ_of m r hl
        rw [hk, trus_of r q] at hs
        exact ⟨a, bs, rfl, hs, k _ _ (Same.refl _) (.bl _)⟩
    · cases h
  · cases h
theorem cbs_any : CbS P (rAny P.K) oAny := fun e A H vs xs z Q hk hc m rs h k => by
  unfold oAny at h
  split at h
  · split at h
    · rename_i x l hl
      cases q : trus l with
      | none => rw [q] at h; cases h
      | some bs =>
        rw [q] at h
        cases h
        obtain ⟨v, rfl, r⟩ := rs.one
        obtain ⟨a, xs, rfl, hs, r⟩ := asQ_of m r hl
        rw [hk, trus_of r q] at hs
        exact ⟨a, bs, rfl, hs, k _ _ (Same.refl _) (.bl _)⟩
    · cases h
  · cases h
/-- repr -/
def rRepU (K : PySem.W.Frag) : List V → Hp → VK → Prop := fun xs H Q => ∃ v d, xs = [v] ∧ Dp K H v (pdv d) ∧ okv d = true ∧ Q (.str (pdv d).shown) H
theorem call_repU {X : Cx} (hu : X.A.units + 64 < cLine) (hg : X.A.guards = some []) : CallR X (.builtin "repr") (rRepU X.K) := by
  intro pins s σ H xs us Q I r h
  obtain ⟨v, d, rfl, D, ok, q⟩ := h
  obtain ⟨u, rfl, ru⟩ := vals1 r
  unfold okv at ok
  rw [Bool.and_eq_true, Bool.and_eq_true] at ok
  have h1 := ok.1
  have h2 := of_decide_eq_true ok.2.1
  have h3 := of_decide_eq_true ok.2.2
  obtain ⟨s1, s2⟩ := numv_show d h1
  have sz := shown_wtv d h1
  have line : (PyData.shown (pdv d)).length ≤ sizeLine := Nat.le_trans sz (Nat.le_trans h3 (by decide))
  have fin : ∀ {t : Tok} {s' : Shared}, Inv X pins σ H s' → EP X pins σ Q (.str (pdv d).shown t) s' := fun {t s'} I' => ⟨.str (pdv d).shown, H, I', ⟨t, rfl⟩, q⟩
  have rr : ∀ {a : Addr}, u = .ref a → wpAny (model X.prog X.w) X.A (PySem.call (.builtin "repr") [u]) (EP X pins σ Q) X.xe s := fun {a} e => by
    subst e
    obtain ⟨as, rr⟩ := Dp.reads I (pdv d) _ _ D ru
    refine repr_of_reads' rr s1 (fun z => by rw [s2] at z; cases z) hg (by rw [dpv_eq]; omega) (fun _ _ e => e) (fun h' u tk hk => ?_) line
    exact fin (I.kept hk)
  cases d with
  | non =>
    cases D
    cases ru
    exact PySem.P.repr_of_none (fin (I.tok _))
  | bl b =>
    cases D
    cases ru
    exact PySem.P.repr_of_bool (fin (I.tok _))
  | int i =>
    cases D
    obtain ⟨t, rfl⟩ := ru
    exact PySem.P.repr_of_int (of_decide_eq_true h1) (fin (I.tok _))
  | str x =>
    cases D
    obtain ⟨t, rfl⟩ := ru
    exact PySem.P.repr_of_str (fin (I.tok _)) line
  | tup l =>
    cases D with
    | tup _ _ => exact rr (show u = _ from ru)
  | lst l =>
    cases D with
    | lst _ _ => exact rr (show u = _ from ru)
  | _ => cases h1
def oRepr (A : Mem) (xs : List Dv) : Option Dv := match xs with
  | [x] => if okv (now A x) = true then some (.rep (now A x)) else none
  | _ => none
theorem cbs_repr : CbS P (rRepU P.K) oRepr := fun e A H vs xs z Q hk hc m rs h k => by
  unfold oRepr at h
  split at h
  · split at h
    · rename_i x ok
      cases h
      obtain ⟨v, rfl, r⟩ := rs.one
      have n : numv (now A x) = true := by
        unfold okv at ok
        rw [Bool.and_eq_true] at ok
        exact ok.1
      have D := now_dp m r (numv_is _ n)
      rw [hk] at D
      exact ⟨v, now A x, rfl, D, ok, k _ _ (Same.refl _) (.rep _)⟩
    · cases h
  · cases h
end
end Mi

namespace Mi
open PySem PySem.Spec PyProof.Rows L2 Ty
/-! ### targets -/
def InS (i : Nat) : Option (List Nat) → Prop
  | none => True
  | some l => i ∈ l
def Wip (vs : Option (List Nat)) (σ σ' : L2.St) : Prop := match vs with
  | none => True
  | some l => wipe σ' l = wipe σ l
theorem Wip.refl {vs : Option (List Nat)} {σ : L2.St} : Wip vs σ σ := by
  cases vs with
  | none => trivial
  | some l => exact rfl
theorem Wip.trans {vs : Option (List Nat)} {σ σ1 σ2 : L2.St} (a : Wip vs σ σ1) (b : Wip vs σ1 σ2) : Wip vs σ σ2 := by
  cases vs with
  | none => trivial
  | some l => exact Eq.trans b a
theorem wipe_set {σ : L2.St} {i : Nat} {x : Option V} : ∀ {l : List Nat}, i ∈ l → wipe (σ.set i x) l = wipe σ l
  | j :: l, h => by
    show (wipe (σ.set i x) l).set j none = (wipe σ l).set j none
    by_cases hl : i ∈ l
    · rw [wipe_set hl]
    · have e : i = j := by
        rcases List.mem_cons.mp h with h | h
        · exact h
        · exact absurd h hl
      subst e
      have q : ∀ m : List Nat, i ∉ m → wipe (σ.set i x) m = (wipe σ m).set i x := fun m => by
        induction m with
        | nil => intro _; rfl
        | cons k m ih =>
          intro hk
          show (wipe (σ.set i x) m).set k none = ((wipe σ m).set k none).set i x
          rw [ih fun z => hk (List.mem_cons_of_mem _ z), List.set_comm _ _ (fun z => hk (by rw [z]; exact List.mem_cons_self))]
      rw [q l hl, List.set_set]
theorem Wip.set {vs : Option (List Nat)} {σ : L2.St} {i : Nat} {x : Option V} (h : InS i vs) : Wip vs σ (σ.set i x) := by
  cases vs with
  | none => trivial
  | some l => exact wipe_set h
/-- what stands behind a store -/
def Rgw (vs : Option (List Nat)) (σ : L2.St) : Ev → Hp → L2.St → Sl → Prop := fun e H σ' Γ' => Rg e H σ' Γ' ∧ Wip vs σ σ'
def SimG (P : Pr) (E : XK) (vs : Option (List Nat)) (t : TG) (mg : Dv → Sl → Ms Sl) : Prop := ∀ e A Γ σ H v d Q, Fx P e H → Rm e A H → Rg e H σ Γ → Rv e H v d → Wp (Rgw vs σ) E e H Q (mg d Γ A) → t v σ H Q
def SimGs (P : Pr) (E : XK) (vs : Option (List Nat)) (t : TGs) (mg : List Dv → Sl → Ms Sl) : Prop := ∀ e A Γ σ H v d Q, Fx P e H → Rm e A H → Rg e H σ Γ → Rvs e H v d → Wp (Rgw vs σ) E e H Q (mg d Γ A) → t v σ H Q
section
variable {P : Pr} {E : XK} {vs : Option (List Nat)}
def gmName (i : Nat) (d : Dv) (Γ : Sl) : Ms Sl := ret (Γ.set i (some d))
theorem simg_name {i : Nat} (h : InS i vs) : SimG P E vs (gName i) (gmName i) := fun e A Γ σ H v d Q hf m g r q => q e H _ (Gr.refl _ _) m ⟨g.set i r, Wip.set h⟩
def gmNil (l : List Dv) (Γ : Sl) : Ms Sl := match l with
  | [] => ret Γ
  | _ => fail
def gmCons (mg : Dv → Sl → Ms Sl) (mr : List Dv → Sl → Ms Sl) (l : List Dv) (Γ : Sl) : Ms Sl := match l with
  | d :: l => bnd (mg d Γ) fun Γ1 => mr l Γ1
  | [] => fail
theorem simg_nil : SimGs P E vs gNil gmNil := fun e A Γ σ H v d Q hf m g r q => by
  cases d with
  | nil =>
    cases r
    exact ⟨rfl, q e H σ (Gr.refl _ _) m ⟨g, Wip.refl⟩⟩
  | cons _ _ => exact q.elim
theorem simg_cons {t : TG} {u : TGs} {mg : Dv → Sl → Ms Sl} {mr : List Dv → Sl → Ms Sl} (h1 : SimG P E vs t mg) (h2 : SimGs P E vs u mr) : SimGs P E vs (gCons t u) (gmCons mg mr) := fun e A Γ σ H v d Q hf m g r q => by
  cases d with
  | nil => exact q.elim
  | cons d ds =>
    cases r with
    | @cons v0 vs0 _ _ r rs =>
    refine ⟨v0, vs0, rfl, h1 e A Γ σ H v0 d _ hf m g r (Wp.bnd (show Wp (Rgw vs σ) E e H Q (bnd (mg d Γ) (fun Γ1 => mr ds Γ1) A) from q) fun e1 H1 σ1 Γ1 A1 g1 m1 r1 q1 => ?_)⟩
    refine h2 e1 A1 Γ1 σ1 H1 vs0 ds Q (hf.up g1) m1 r1.1 (rs.up g1) ?_
    match z : mr ds Γ1 A1, q1 with
    | some (.ok Γ2, A2), q1 => exact fun e2 H2 σ2 g2 m2 r2 => q1 e2 H2 σ2 g2 m2 ⟨r2.1, r1.2.trans r2.2⟩
    | some (.err c ns vs, A2), q1 => exact q1
/-- a, b = .. -/
def gmTup (n : Nat) (mr : List Dv → Sl → Ms Sl) (d : Dv) (Γ : Sl) : Ms Sl := fun A => match asS A d with
  | some l => if l.length = n then mr l Γ A else none
  | none => none
theorem simg_tup {n : Nat} {u : TGs} {mr : List Dv → Sl → Ms Sl} (h : SimGs P E vs u mr) : SimG P E vs (fun v σ H Q => gUnl P.K n u v σ H Q ∨ gTup P.K n u v σ H Q) (gmTup n mr) := fun e A Γ σ H v d Q hf m g r q => by
  unfold gmTup at q
  cases z : asS A d with
  | none => rw [z] at q; exact q.elim
  | some l =>
    rw [z] at q
    by_cases hl : l.length = n
    · simp only [if_pos hl] at q
      obtain ⟨a, xs, rfl, hs, rs⟩ := asS_of m r z
      rw [hf.k] at hs
      have k := h e A Γ σ H xs l Q hf m g rs q
      rcases hs with hs | hs
      · exact .inl ⟨a, xs, rfl, hs, rs.length.trans hl, k⟩
      · exact .inr ⟨a, xs, rfl, hs, rs.length.trans hl, k⟩
    · simp only [if_neg hl] at q
      exact q.elim
/-- .. of a tuple alone (the pair that a walk has just made) -/
def gmTup1 (n : Nat) (mr : List Dv → Sl → Ms Sl) (d : Dv) (Γ : Sl) : Ms Sl := match d with
  | .tup l => if l.length = n then mr l Γ else fail
  | _ => fail
theorem simg_tup1 {n : Nat} {u : TGs} {mr : List Dv → Sl → Ms Sl} (h : SimGs P E vs u mr) : SimG P E vs (gTup P.K n u) (gmTup1 n mr) := fun e A Γ σ H v d Q hf m g r q => by
  unfold gmTup1 at q
  cases d with
  | tup l =>
    by_cases hl : l.length = n
    · simp only [if_pos hl] at q
      cases r with
      | @tup a xs _ hs rs =>
      rw [hf.k] at hs
      exact ⟨a, xs, rfl, hs.sqt, rs.length.trans hl, h e A Γ σ H xs l Q hf m g rs q⟩
    · simp only [if_neg hl] at q
      exact q.elim
  | _ => exact q.elim
/-- o[i] = .. -/
def putL (A : Mem) (o i v : Dv) : Option Mem := match o, i with
  | .loc n, .int k => match A[n]? with
    | some (.lst l) => (ixN l.length k).map fun j => A.set n (.lst (l.set j v))
    | _ => none
  | _, _ => none
def gmSub (mo mi : Sl → Ms Dv) (d : Dv) (Γ : Sl) : Ms Sl := bnd (mo Γ) fun o => bnd (mi Γ) fun i A => match putL A o i d with
  | some A' => some (.ok Γ, A')
  | none => none
theorem simg_sub {to ti : TE} {mo mi : Sl → Ms Dv} (ho : Sim P (fun _ => E) to mo) (hi : Sim P (fun _ => E) ti mi) : SimG P E vs (gSub to ti rSetL) (gmSub mo mi) := fun e A Γ σ H v d Q hf m g r q =>
  ho e A Γ σ H _ hf m g (q.bnd fun e1 H1 ov o A1 g1 m1 r1 q1 => hi e1 A1 Γ σ H1 _ (hf.up g1) m1 (g.up g1) (q1.bnd fun e2 H2 iv i A2 g2 m2 r2 q2 => by
    have ro := r1.up g2
    have rv := (r.up g1).up g2
    have gg := (g.up g1).up g2
    cases z : putL A2 o i d with
    | none => rw [z] at q2; exact q2.elim
    | some A' =>
      rw [z] at q2
      unfold putL at z
      split at z
      · rename_i n k
        split at z
        · rename_i l hl
          cases ro with
          | @loc _ a ha =>
          cases r2
          obtain ⟨xs, h1, h2⟩ : Ro e2 H2 a (.lst l) := m2.obj n a _ ha hl
          cases w : ixN l.length k with
          | none => rw [w] at z; cases z
          | some j =>
            rw [w] at z
            cases z
            refine ⟨a, xs, k, j, rfl, rfl, h1, by rw [h2.length]; exact w, ?_⟩
            exact q2 e2 _ σ (gr_put m2 ha h1) (m2.put ha h1 (h2.set j rv)) ⟨gg.up (gr_put m2 ha h1), Wip.refl⟩
        · cases z
      · cases z))
end
/-! ### statements -/
inductive Fl where
  | nx (Γ : Sl)
  | rt (d : Dv)
  | bk (Γ : Sl)
  | ct (Γ : Sl)
/-- what is wished behind a statement -/
def Wf (E : XK) (e : Ev) (H : Hp) (D : Ends) : Option (Ex Fl × Mem) → Prop
  | none => False
  | some (.ok (.nx Γ), A') => ∀ e' H' σ', Gr e e' H H' → Rm e' A' H' → Rg e' H' σ' Γ → D.nx σ' H'
  | some (.ok (.bk Γ), A') => ∀ e' H' σ', Gr e e' H H' → Rm e' A' H' → Rg e' H' σ' Γ → D.bk σ' H'
  | some (.ok (.ct Γ), A') => ∀ e' H' σ', Gr e e' H H' → Rm e' A' H' → Rg e' H' σ' Γ → D.ct σ' H'
  | some (.ok (.rt d), A') => ∀ e' H' v, Gr e e' H H' → Rm e' A' H' → Rv e' H' v d → D.rt v H'
  | some (.err c ns vs, A') => We E e H c ns vs A'
theorem Wf.later {E : XK} {e e1 : Ev} {H H1 : Hp} {D : Ends} {r : Option (Ex Fl × Mem)} (h : Wf E e H D r) (g : Gr e e1 H H1) : Wf E e1 H1 D r := by
  match r, h with
  | some (.ok (.nx Γ), A'), h => exact fun e' H' b g' m q => h e' H' b (g.trans g') m q
  | some (.ok (.bk Γ), A'), h => exact fun e' H' b g' m q => h e' H' b (g.trans g') m q
  | some (.ok (.ct Γ), A'), h => exact fun e' H' b g' m q => h e' H' b (g.trans g') m q
  | some (.ok (.rt Γ), A'), h => exact fun e' H' b g' m q => h e' H' b (g.trans g') m q
  | some (.err c ns vs, A'), h => exact We.later (show We E e H c ns vs A' from h) g
theorem Wf.bnd {δ γ : Type} {R1 : Ev → Hp → δ → γ → Prop} {E : XK} {e : Ev} {A : Mem} {H : Hp} {D : Ends} {m : Ms γ} {k : γ → Ms Fl} {Q1 : δ → Hp → Prop} (h : Wf E e H D (Mi.bnd m k A)) (f : ∀ e1 H1 b a A1, Gr e e1 H H1 → Rm e1 A1 H1 → R1 e1 H1 b a → Wf E e1 H1 D (k a A1) → Q1 b H1) : Wp R1 E e H Q1 (m A) := by
  unfold Mi.bnd at h
  match q : m A, h with
  | some (.ok a, A1), h => exact fun e1 H1 b g m r => f e1 H1 b a A1 g m r (Wf.later h g)
  | some (.err c ns vs, A1), h => exact h
def SimS (P : Pr) (E : XK) (t : TS) (m : Sl → Ms Fl) : Prop := ∀ e A Γ σ H D, Fx P e H → Rm e A H → Rg e H σ Γ → Wf E e H D (m Γ A) → t D σ H
section
variable {P : Pr} {E : XK} {t u : TS} {ta tb : TE} {tt : TT} {tr : TA} {ms mu : Sl → Ms Fl} {ma mb : Sl → Ms Dv} {mt : Sl → Ms Bool} {mr : Sl → Ms (List Dv)}
def mNext (Γ : Sl) : Ms Fl := ret (.nx Γ)
def thn (f : Fl) (mu : Sl → Ms Fl) : Ms Fl := match f with
  | .nx Γ => mu Γ
  | f => ret f
def mSeq (ms mu : Sl → Ms Fl) (Γ : Sl) : Ms Fl := bnd (ms Γ) fun f => thn f mu
theorem sims_next : SimS P E tNext mNext := fun e A Γ σ H D hf m g h => h e H σ (Gr.refl _ _) m g
theorem sims_seq (h1 : SimS P E t ms) (h2 : SimS P E u mu) : SimS P E (tSeq t u) (mSeq ms mu) := fun e A Γ σ H D hf m g h => by
  refine h1 e A Γ σ H _ hf m g ?_
  unfold mSeq Mi.bnd at h
  match q : ms Γ A, h with
  | some (.ok (.nx Γ1), A1), h => exact fun e1 H1 σ1 g1 m1 r1 => h2 e1 A1 Γ1 σ1 H1 D (hf.up g1) m1 r1 (Wf.later (show Wf E e H D (mu Γ1 A1) from h) g1)
  | some (.ok (.bk Γ1), A1), h => exact h
  | some (.ok (.ct Γ1), A1), h => exact h
  | some (.ok (.rt d), A1), h => exact h
  | some (.err c ns vs, A1), h => exact h
def mRet (ma : Sl → Ms Dv) (Γ : Sl) : Ms Fl := bnd (ma Γ) fun d => ret (.rt d)
def mRetN (_ : Sl) : Ms Fl := ret (.rt .non)
def mDrop (ma : Sl → Ms Dv) (Γ : Sl) : Ms Fl := bnd (ma Γ) fun _ => ret (.nx Γ)
def mIfS (mt : Sl → Ms Bool) (ms mu : Sl → Ms Fl) (Γ : Sl) : Ms Fl := bnd (mt Γ) fun b => if b = true then ms Γ else mu Γ
def mAsg (ma : Sl → Ms Dv) (mg : Dv → Sl → Ms Sl) (Γ : Sl) : Ms Fl := bnd (ma Γ) fun d => bnd (mg d Γ) fun Γ1 => ret (.nx Γ1)
def mBreak (Γ : Sl) : Ms Fl := ret (.bk Γ)
def mCont (Γ : Sl) : Ms Fl := ret (.ct Γ)
theorem sims_ret (ha : Sim P (fun _ => E) ta ma) : SimS P E (tRet ta) (mRet ma) := fun e A Γ σ H D hf m g h =>
  ha e A Γ σ H _ hf m g (h.bnd fun e1 H1 v d A1 g1 m1 r h1 => h1 e1 H1 v (Gr.refl _ _) m1 r)
theorem sims_retN : SimS P E tRetN mRetN := fun e A Γ σ H D hf m g h => h e H .non (Gr.refl _ _) m .non
theorem sims_break : SimS P E tBreak mBreak := fun e A Γ σ H D hf m g h => h e H σ (Gr.refl _ _) m g
theorem sims_cont : SimS P E tCont mCont := fun e A Γ σ H D hf m g h => h e H σ (Gr.refl _ _) m g
theorem sims_drop (ha : Sim P (fun _ => E) ta ma) : SimS P E (tDrop ta) (mDrop ma) := fun e A Γ σ H D hf m g h =>
  ha e A Γ σ H _ hf m g (h.bnd fun e1 H1 v d A1 g1 m1 r h1 => h1 e1 H1 σ (Gr.refl _ _) m1 (g.up g1))
theorem sims_if (ht : SimT P (fun _ => E) tt mt) (h1 : SimS P E t ms) (h2 : SimS P E u mu) : SimS P E (tIfS tt t u) (mIfS mt ms mu) := fun e A Γ σ H D hf m g h =>
  ht e A Γ σ H _ hf m g (h.bnd fun e1 H1 b c A1 g1 m1 r q => by
    cases r
    cases b with
    | true => exact h1 e1 A1 Γ σ H1 D (hf.up g1) m1 (g.up g1) q
    | false => exact h2 e1 A1 Γ σ H1 D (hf.up g1) m1 (g.up g1) q)
theorem sims_asg {tg : TG} {mg : Dv → Sl → Ms Sl} (ha : Sim P (fun _ => E) ta ma) (hg : SimG P E none tg mg) : SimS P E (tAsg ta tg) (mAsg ma mg) := fun e A Γ σ H D hf m g h =>
  ha e A Γ σ H _ hf m g (h.bnd fun e1 H1 v d A1 g1 m1 r q => hg e1 A1 Γ σ H1 v d _ (hf.up g1) m1 (g.up g1) r (q.bnd fun e2 H2 σ2 Γ2 A2 g2 m2 r2 q2 => q2 e2 H2 σ2 (Gr.refl _ _) m2 r2.1))
/-- a, b = x, y; a, b, c = x, y, z -/
def mPar (i j : Nat) (mr : Sl → Ms (List Dv)) (Γ : Sl) : Ms Fl := bnd (mr Γ) fun l => match l with
  | [x, y] => ret (.nx ((Γ.set i (some x)).set j (some y)))
  | _ => fail
def mPar3 (i j k : Nat) (mr : Sl → Ms (List Dv)) (Γ : Sl) : Ms Fl := bnd (mr Γ) fun l => match l with
  | [x, y, z] => ret (.nx (((Γ.set i (some x)).set j (some y)).set k (some z)))
  | _ => fail
theorem sims_par {i j : Nat} (hr : SimA P (fun _ => E) tr mr) : SimS P E (tPar i j tr) (mPar i j mr) := fun e A Γ σ H D hf m g h =>
  hr e A Γ σ H _ hf m g (h.bnd fun e1 H1 vs l A1 g1 m1 r q => by
    split at q
    · obtain ⟨v, u, rfl, r1, r2⟩ := r.two
      exact ⟨v, u, rfl, q e1 H1 _ (Gr.refl _ _) m1 (((g.up g1).set i r1).set j r2)⟩
    · exact q.elim)
theorem Rvs.three {e : Ev} {H : Hp} {vs : List V} {x y z : Dv} (r : Rvs e H vs [x, y, z]) : ∃ v u w, vs = [v, u, w] ∧ Rv e H v x ∧ Rv e H u y ∧ Rv e H w z := by
  cases r with
  | cons h t =>
    obtain ⟨u, w, rfl, k, l⟩ := t.two
    exact ⟨_, u, w, rfl, h, k, l⟩
theorem sims_par3 {i j k : Nat} (hr : SimA P (fun _ => E) tr mr) : SimS P E (tPar3 i j k tr) (mPar3 i j k mr) := fun e A Γ σ H D hf m g h =>
  hr e A Γ σ H _ hf m g (h.bnd fun e1 H1 vs l A1 g1 m1 r q => by
    split at q
    · obtain ⟨v, u, w, rfl, r1, r2, r3⟩ := r.three
      exact ⟨v, u, w, rfl, q e1 H1 _ (Gr.refl _ _) m1 ((((g.up g1).set i r1).set j r2).set k r3)⟩
    · exact q.elim)
end
/-! ### walks -/
/-- the iterator hands out these values, whatever comes -/
def Goes (e : Ev) (H : Hp) (J : It) (ds : List Dv) : Prop := ∃ (G : Hp → Prop) (Y : Nat → Hp → V → Hp → Prop), Walk J ds.length G Y ∧ (∀ e' H', Gs e e' H H' → G H') ∧
  ∀ i e' H1 x H2, Gs e e' H H1 → i < ds.length → Y i H1 x H2 → Same H1 H2 ∧ ∃ d, ds[i]? = some d ∧ Rv e' H2 x d
def SimI (P : Pr) (W : L2.St → XK) (wi : TI) (mi : Sl → Ms (List Dv)) : Prop := ∀ e A Γ σ H (R : It → Hp → Prop), Fx P e H → Rm e A H → Rg e H σ Γ → Wp Goes (W σ) e H R (mi Γ A) → wi σ H R
section
variable {P : Pr} {W : L2.St → XK} {ta : TE} {tr : TA} {ma : Sl → Ms Dv} {mr : Sl → Ms (List Dv)}
/-- a value that never changes, walked -/
def asI : Dv → Option (List Dv)
  | .tup l => some l
  | .lst l => some l
  | .scr l => some l
  | _ => none
def mWalk (ma : Sl → Ms Dv) (Γ : Sl) : Ms (List Dv) := bnd (ma Γ) fun x => ofO (asI x)
theorem goes_lst {e : Ev} {H : Hp} {a : Addr} {xs : List V} {l : List Dv} (hs : ∀ e' H', Gs e e' H H' → SqL e.K H' a xs) (r : Rvs e H xs l) : Goes e H (Itl e.K a) l := by
  refine ⟨fun H' => SqL e.K H' a xs, YAt xs, by rw [← r.length]; exact walk_list, hs, fun i e' H1 x H2 g hi y => ?_⟩
  obtain ⟨rfl, hx⟩ := y
  obtain ⟨d, h1, h2⟩ := r.at hx
  exact ⟨Same.refl _, d, h1, h2.upw g.toGw⟩
theorem goes_tup {e : Ev} {H : Hp} {a : Addr} {xs : List V} {l : List Dv} (hs : SqT e.K H a xs) (r : Rvs e H xs l) : Goes e H (Itt e.K a) l := by
  refine ⟨fun H' => SqT e.K H' a xs, YAt xs, by rw [← r.length]; exact walk_tup, fun e' H' g => by rw [← g.k]; exact g.toGw.sqT hs, fun i e' H1 x H2 g hi y => ?_⟩
  obtain ⟨rfl, hx⟩ := y
  obtain ⟨d, h1, h2⟩ := r.at hx
  exact ⟨Same.refl _, d, h1, h2.upw g.toGw⟩
/-- a list that never changes -/
theorem stay_of {e : Ev} {H : Hp} {v : V} {x : Dv} {l : List Dv} (r : Rv e H v x) (h : asI x = some l) (n : ∀ l', x ≠ .tup l') : ∃ a xs, v = .ref a ∧ (∀ e' H', Gs e e' H H' → SqL e.K H' a xs) ∧ Rvs e H xs l := by
  cases x with
  | tup l' => exact absurd rfl (n l')
  | lst l' =>
    cases h
    cases r with
    | lst q nn r => exact ⟨_, _, rfl, fun e' H' g => .of (g.keep _ _ nn q nofun), r⟩
  | scr l' =>
    cases h
    cases r with
    | scr q r => exact ⟨_, _, rfl, fun e' H' g => by rw [← g.k]; exact (g.toGw.sqF q).sql, r⟩
  | _ => cases h
theorem sim_walk (ha : Sim P W ta ma) : SimI P W (fun σ H R => iList P.K ta σ H R ∨ iTup P.K ta σ H R) (mWalk ma) := fun e A Γ σ H R hf m g h => by
  unfold mWalk Mi.bnd at h
  have lst : ∀ x l A1, (∀ l', x ≠ .tup l') → asI x = some l → ma Γ A = some (.ok x, A1) → Wp Goes (W σ) e H R (some (.ok l, A1)) → iList P.K ta σ H R ∨ iTup P.K ta σ H R := fun x l A1 hq hi q h => by
    refine .inl (ha e A Γ σ H _ hf m g ?_)
    rw [q]
    intro e1 H1 v g1 m1 r
    obtain ⟨a, xs, rfl, st, rs⟩ := stay_of r hi hq
    have hk1 := (hf.up g1).k
    have hs := st e1 H1 (Gs.refl _ _)
    have e9 := goes_lst st rs
    rw [hk1] at hs e9
    exact ⟨a, rfl, ⟨xs, hs⟩, h e1 H1 _ g1 m1 e9⟩
  match q : ma Γ A, h with
  | some (.ok (.tup l), A1), h =>
    refine .inr (ha e A Γ σ H _ hf m g ?_)
    rw [q]
    intro e1 H1 v g1 m1 r
    cases r with
    | @tup a xs _ hs0 r =>
    have hs := hs0.sqt
    have hk1 := (hf.up g1).k
    have e9 := goes_tup hs r
    rw [hk1] at hs e9
    exact ⟨a, rfl, ⟨xs, hs⟩, h e1 H1 _ g1 m1 e9⟩
  | some (.ok (.lst l), A1), h => exact lst (.lst l) l A1 (fun _ z => nomatch z) rfl q h
  | some (.ok (.scr l), A1), h => exact lst (.scr l) l A1 (fun _ z => nomatch z) rfl q h
  | some (.ok (.non), A1), h => exact h.elim
  | some (.ok (.bl _), A1), h => exact h.elim
  | some (.ok (.int _), A1), h => exact h.elim
  | some (.ok (.str _), A1), h => exact h.elim
  | some (.ok (.dic), A1), h => exact h.elim
  | some (.ok (.dik _), A1), h => exact h.elim
  | some (.ok (.loc _), A1), h => exact h.elim
  | some (.ok (.ty _), A1), h => exact h.elim
  | some (.ok (.cls _), A1), h => exact h.elim
  | some (.ok (.fn _), A1), h => exact h.elim
  | some (.ok (.rep _), A1), h => exact h.elim
  | some (.ok (.exc _ _ _), A1), h => exact h.elim
  | some (.err c ns vs, A1), h => exact .inl (ha e A Γ σ H _ hf m g (by rw [q]; exact h))
end
end Mi

namespace Mi
open PySem PySem.Spec PyProof.Rows L2 Ty
/-! ### for -/
/-- a turn's end -/
def turn (f : Fl) (next : Sl → Ms Fl) : Ms Fl := match f with
  | .nx Γ => next Γ
  | .ct Γ => next Γ
  | .bk Γ => ret (.nx Γ)
  | .rt d => ret (.rt d)
def loopF (mg : Dv → Sl → Ms Sl) (ms : Sl → Ms Fl) : List Dv → Sl → Ms Fl
  | [], Γ => ret (.nx Γ)
  | d :: ds, Γ => bnd (mg d Γ) fun Γ1 => bnd (ms Γ1) fun f => turn f (loopF mg ms ds)
def mFor (mi : Sl → Ms (List Dv)) (mg : Dv → Sl → Ms Sl) (ms : Sl → Ms Fl) (Γ : Sl) : Ms Fl := bnd (mi Γ) fun ds => loopF mg ms ds Γ
section
variable {P : Pr} {E : XK} {wi : TI} {tg : TG} {tb : TS} {tt : TT} {mi : Sl → Ms (List Dv)} {mg : Dv → Sl → Ms Sl} {ms : Sl → Ms Fl} {mt : Sl → Ms Bool}
/-- a body within a loop -/
theorem sims_turn (hb : SimS P E tb ms) {e : Ev} {A : Mem} {Γ : Sl} {σ : L2.St} {H : Hp} {D : Ends} {next : Sl → Ms Fl} {N : L2.St → Hp → Prop} (hf : Fx P e H) (m : Rm e A H) (g : Rg e H σ Γ) (h : Wf E e H D (bnd (ms Γ) (fun f => turn f next) A))
    (k : ∀ e1 H1 σ1 Γ1 A1, Gr e e1 H H1 → Rm e1 A1 H1 → Rg e1 H1 σ1 Γ1 → Wf E e1 H1 D (next Γ1 A1) → N σ1 H1) : tb { D with nx := N, ct := N, bk := D.nx } σ H := by
  refine hb e A Γ σ H _ hf m g ?_
  unfold Mi.bnd at h
  match q : ms Γ A, h with
  | some (.ok (.nx Γ1), A1), h => exact fun e1 H1 σ1 g1 m1 r1 => k e1 H1 σ1 Γ1 A1 g1 m1 r1 (Wf.later (show Wf E e H D (next Γ1 A1) from h) g1)
  | some (.ok (.ct Γ1), A1), h => exact fun e1 H1 σ1 g1 m1 r1 => k e1 H1 σ1 Γ1 A1 g1 m1 r1 (Wf.later (show Wf E e H D (next Γ1 A1) from h) g1)
  | some (.ok (.bk Γ1), A1), h => exact h
  | some (.ok (.rt d), A1), h => exact h
  | some (.err c ns vs, A1), h => exact h
theorem sims_for (hi : SimI P (fun _ => E) wi mi) (hg : SimG P E none tg mg) (hb : SimS P E tb ms) : SimS P E (tFor wi tg tb) (mFor mi mg ms) := fun e A Γ σ H D hf m g h => by
  refine hi e A Γ σ H _ hf m g (h.bnd fun e0 H0 J ds A0 g0 m0 r0 q0 => ?_)
  obtain ⟨G, Y, wk, hG, hY⟩ := r0
  refine for_it wk (fun i σ' H' => ∃ e' A' Γ', Gr e0 e' H0 H' ∧ Rm e' A' H' ∧ Rg e' H' σ' Γ' ∧ Wf E e' H' D (loopF mg ms (ds.drop i) Γ' A')) ⟨e0, A0, Γ, Gr.refl _ _, m0, g.up g0, q0⟩ ?_ ?_ ?_
  · rintro i σ' H' _ ⟨e', A', Γ', g', _⟩
    exact hG e' H' g'.toGs
  · rintro i x σ1 H1 H2 hl ⟨e1, A1, Γ1, g1, m1, r1, q1⟩ y
    obtain ⟨s, d, hd, rx⟩ := hY i e1 H1 x H2 g1.toGs hl y
    have ed : ds.drop i = d :: ds.drop (i + 1) := by
      rw [List.drop_eq_getElem_cons hl]
      congr 1
      rw [List.getElem?_eq_getElem hl] at hd
      exact Option.some.inj hd
    rw [ed] at q1
    have gs := Gr.same (e := e1) s
    have q2 : Wf E e1 H2 D (bnd (mg d Γ1) (fun Γ2 => bnd (ms Γ2) fun f => turn f (loopF mg ms (ds.drop (i + 1)))) A1) := Wf.later q1 gs
    have k1 := ((hf.up g0).up g1).up gs
    refine hg e1 A1 Γ1 σ1 H2 x d _ k1 (m1.same s) (r1.up gs) rx (q2.bnd fun e3 H3 σ3 Γ3 A3 g3 m3 r3 q3 => ?_)
    exact sims_turn hb (k1.up g3) m3 r3.1 q3 fun e4 H4 σ4 Γ4 A4 g4 m4 r4 q4 => ⟨e4, A4, Γ4, g1.trans (gs.trans (g3.trans g4)), m4, r4, q4⟩
  · rintro σ' H' ⟨e', A', Γ', g', m', r', q'⟩
    rw [List.drop_length] at q'
    exact q' e' H' σ' (Gr.refl _ _) m' r'
/-! ### while -/
def whileF (mt : Sl → Ms Bool) (ms : Sl → Ms Fl) : Nat → Sl → Ms Fl
  | 0, _ => fail
  | n + 1, Γ => bnd (mt Γ) fun b => if b = true then bnd (ms Γ) fun f => turn f (whileF mt ms n) else ret (.nx Γ)
theorem sims_while {n : Nat} (ht : SimT P (fun _ => E) tt mt) (hb : SimS P E tb ms) : SimS P E (tWhile tt tb) (whileF mt ms n) := fun e A Γ σ H D hf m g h => by
  refine ⟨fun n σ' H' => ∃ e' A' Γ', Fx P e' H' ∧ Rm e' A' H' ∧ Rg e' H' σ' Γ' ∧ Wf E e' H' D (whileF mt ms n Γ' A'), ⟨n, e, A, Γ, hf, m, g, h⟩, ?_⟩
  rintro n σ1 H1 ⟨e1, A1, Γ1, k1, m1, r1, q1⟩
  cases n with
  | zero => exact q1.elim
  | succ n =>
    refine ht e1 A1 Γ1 σ1 H1 _ k1 m1 r1 (Wf.bnd (show Wf E e1 H1 D (bnd (mt Γ1) (fun b => if b = true then bnd (ms Γ1) (fun f => turn f (whileF mt ms n)) else ret (.nx Γ1)) A1) from q1) fun e2 H2 b c A2 g2 m2 r2 q2 => ?_)
    cases r2
    cases b with
    | true =>
      refine ⟨fun σ' H' => ∃ e' A' Γ', Fx P e' H' ∧ Rm e' A' H' ∧ Rg e' H' σ' Γ' ∧ Wf E e' H' D (whileF mt ms n Γ' A'), fun σ' H' p => ⟨n, Nat.lt_succ_self n, p⟩, ?_⟩
      exact sims_turn hb (k1.up g2) m2 (r1.up g2) q2 fun e4 H4 σ4 Γ4 A4 g4 m4 r4 q4 => ⟨e4, A4, Γ4, (k1.up g2).up g4, m4, r4, q4⟩
    | false => exact q2 e2 H2 σ1 (Gr.refl _ _) m2 (r1.up g2)
end
/-! ### comprehensions -/
/-- the names of its own are forgotten -/
def wipD (Γ : Sl) : List Nat → Sl
  | [] => Γ
  | v :: vs => (wipD Γ vs).set v none
theorem Rg.wipe {e : Ev} {H : Hp} {σ : L2.St} {Γ : Sl} (h : Rg e H σ Γ) : ∀ vs : List Nat, Rg e H (L2.wipe σ vs) (wipD Γ vs)
  | [] => h
  | v :: vs => (Rg.wipe h vs).none v
/-- nothing may be raised within -/
def calm {α : Type} (m : Ms α) : Ms α := fun A => match m A with
  | some (.ok a, A1) => some (.ok a, A1)
  | _ => none
def loopC (mg : Dv → Sl → Ms Sl) (mt : Sl → Ms Bool) (me : Sl → Ms Dv) (Γ : Sl) : List Dv → Ms (List Dv)
  | [] => ret []
  | d :: ds => bnd (calm (mg d Γ)) fun Γ1 => bnd (calm (mt Γ1)) fun b => if b = true then bnd (calm (me Γ1)) fun y => bnd (loopC mg mt me Γ ds) fun r => ret (y :: r) else loopC mg mt me Γ ds
def mLcs (mi : Sl → Ms (List Dv)) (mg : Dv → Sl → Ms Sl) (mt : Sl → Ms Bool) (me : Sl → Ms Dv) (own : List Nat) (Γ : Sl) : Ms (List Dv) := bnd (mi Γ) fun ds => if ds.length ≤ big then loopC mg mt me (wipD Γ own) ds else fail
def mLc (mi : Sl → Ms (List Dv)) (mg : Dv → Sl → Ms Sl) (mt : Sl → Ms Bool) (me : Sl → Ms Dv) (own : List Nat) (Γ : Sl) : Ms Dv := bnd (mLcs mi mg mt me own Γ) fun l => ret (.lst l)
/-- .. a list that may change -/
def mLcM (mi : Sl → Ms (List Dv)) (mg : Dv → Sl → Ms Sl) (mt : Sl → Ms Bool) (me : Sl → Ms Dv) (own : List Nat) (Γ : Sl) : Ms Dv := bnd (mLcs mi mg mt me own Γ) fun l A => some (.ok (.loc A.length), A ++ [.lst l])
/-- D is hidden -/
def Ev.hide (e : Ev) (D : Addr) : Ev := { e with S := wth e.S D }
theorem hide_out {e : Ev} {D a : Addr} : (e.hide D).out a ↔ e.out a ∨ a = D := by
  constructor
  · rintro (h | h)
    · rcases wth_cases h with h | h
      · exact .inl (.inl h)
      · exact .inr h
    · exact .inl (.inr h)
  · rintro ((h | h) | h)
    · exact .inl (wth_sub h)
    · exact .inr h
    · rw [h]
      exact .inl wth_self
/-- a new list is hidden -/
theorem gr_hide {e : Ev} {H : Hp} {D : Addr} {o : HO} (h : H D = none) : Gs e (e.hide D) H (upd H D o) := by
  refine ⟨⟨rfl, rfl, rfl, fun b hb => ?_, ⟨[], by show e.φ = e.φ ++ []; simp, by simp⟩, fun b u _ q _ => ?_, fun b xs q => ?_, fun b u v q => ?_, fun b q => ?_⟩, fun b u _ q _ => by rw [upd_ne (ne_of_none q h)]; exact q⟩
  · rcases wth_cases hb with z | z
    · exact .inl z
    · exact .inr (by rw [z]; exact .of h)
  · rw [upd_ne (ne_of_none q h)]; exact q
  · rw [upd_ne (ne_of_none q h)]; exact q
  · rw [upd_ne (ne_of_none q h)]; exact q
  · exact fun n => q fun u hu => n u (by rw [upd_ne (ne_of_none hu h)]; exact hu)
theorem Rm.hide {e : Ev} {A : Mem} {H : Hp} {D : Addr} {l : List V} (m : Rm e A H) (h : H D = none) : Rm (e.hide D) A (upd H D (.lst l)) := by
  have s : Same H (upd H D (.lst l)) := Same.new h
  have nD := m.new h
  refine ⟨m.len, m.nodup, fun n a u h1 h2 => ?_, fun b hb => ?_, m.tab.ext s⟩
  · have q := m.obj n a u h1 h2
    cases u with
    | lst l =>
      obtain ⟨xs, q1, q2⟩ := q
      exact ⟨xs, s _ _ q1, q2.upw (gr_hide h).toGw⟩
    | del =>
      obtain ⟨w, q1⟩ := q
      exact ⟨w, s _ _ q1⟩
  · rcases wth_cases hb with z | z
    · exact ⟨(Gr.same (e := e) s).live b (m.hid b z).1, (m.hid b z).2⟩
    · rw [z]
      exact ⟨fun n => n.no upd_same nofun, fun q => nD (.inr q)⟩
/-- the hidden list grows -/
theorem gr_hput {e : Ev} {H : Hp} {D : Addr} {xs ys : List V} (hD : e.S D = true) (h : H D = some (.lst xs)) : Gw e e H (upd H D (.lst ys)) := by
  refine ⟨rfl, rfl, rfl, fun _ h => .inl h, ⟨[], by simp, by simp⟩, fun b u nb q _ => ?_, fun b ys q => ?_, fun b u v q => ?_, fun b q => ?_⟩
  · rw [upd_ne (fun z => nb (by rw [z]; exact .inl hD))]; exact q
  · rw [upd_ne (fun z => by rw [z, h] at q; cases q)]; exact q
  · rw [upd_ne (fun z => by rw [z, h] at q; cases q)]; exact q
  · by_cases z : b = D
    · rw [z]; exact fun n => n.no upd_same nofun
    · exact fun n => q fun u hu => n u (by rw [upd_ne z]; exact hu)
theorem Rm.hput {e : Ev} {A : Mem} {H : Hp} {D : Addr} {xs ys : List V} (m : Rm e A H) (hD : e.S D = true) (h : H D = some (.lst xs)) : Rm e A (upd H D (.lst ys)) := by
  have g := gr_hput (ys := ys) hD h
  refine ⟨m.len, m.nodup, fun n a u h1 h2 => ?_, fun b hb => ⟨g.live b (m.hid b hb).1, (m.hid b hb).2⟩, tabs_put m.tab h⟩
  have ne : a ≠ D := fun z => (m.hid D hD).2 (by rw [← z]; exact List.mem_of_getElem? h1)
  have q := m.obj n a u h1 h2
  cases u with
  | lst l =>
    obtain ⟨xs, q1, q2⟩ := q
    exact ⟨xs, by rw [upd_ne ne]; exact q1, q2.upw g⟩
  | del =>
    obtain ⟨w, q1⟩ := q
    exact ⟨w, by rw [upd_ne ne]; exact q1⟩
/-- the hidden list is told: from what was known with it hidden -/
def Ev.show (e : Ev) (S : Addr → Bool) : Ev := { e with S := S }
theorem gr_show {e : Ev} {S : Addr → Bool} {H : Hp} (h : ∀ b, S b = true → e.S b = true) : Gs e (e.show S) H H :=
  ⟨⟨rfl, rfl, rfl, fun b hb => .inl (h b hb), ⟨[], by show e.φ = e.φ ++ []; simp, by simp⟩, fun _ _ _ q _ => q, fun _ _ q => q, fun _ _ _ q => q, fun _ q => q⟩, fun _ _ _ q _ => q⟩
theorem Rm.show {e : Ev} {A : Mem} {H : Hp} {S : Addr → Bool} (m : Rm e A H) (h : ∀ b, S b = true → e.S b = true) : Rm (e.show S) A H := by
  refine ⟨m.len, m.nodup, fun n a u h1 h2 => ?_, fun b hb => m.hid b (h b hb), m.tab⟩
  have q := m.obj n a u h1 h2
  cases u with
  | lst l =>
    obtain ⟨xs, q1, q2⟩ := q
    exact ⟨xs, q1, q2.upw (gr_show h).toGw⟩
  | del => exact q
/-- W0: no error -/
abbrev EN : XK := fun _ _ _ => False
section
variable {P : Pr} {W : L2.St → XK} {wi : TI} {tg : TG} {tt : TT} {te : TE} {mi : Sl → Ms (List Dv)} {mg : Dv → Sl → Ms Sl} {mt : Sl → Ms Bool} {me : Sl → Ms Dv} {own : List Nat}
theorem Wp.calm {α β : Type} {R : Ev → Hp → β → α → Prop} {E E' : XK} {e : Ev} {A : Mem} {H : Hp} {Q : β → Hp → Prop} {m : Ms α} (h : Wp R E e H Q (Mi.calm m A)) : Wp R E' e H Q (m A) := by
  unfold Mi.calm at h
  match q : m A, h with
  | some (.ok a, A1), h => exact h
theorem wipe_out' {σ : L2.St} {i : Nat} : ∀ {l : List Nat}, i ∈ l → i < σ.length → (L2.wipe σ l)[i]? = some none
  | v :: l, h, hi => by
    show ((L2.wipe σ l).set v none)[i]? = some none
    by_cases e : v = i
    · subst e
      rw [List.getElem?_set_self (by rw [wipe_length]; exact hi)]
    · rw [List.getElem?_set_ne e]
      rcases List.mem_cons.mp h with z | z
      · exact absurd z.symm e
      · exact wipe_out' z hi
theorem set_none_id {σ : L2.St} {i : Nat} (h : i < σ.length → σ[i]? = some none) : σ.set i none = σ := by
  apply List.ext_getElem?
  intro j
  by_cases e : j = i
  · subst e
    by_cases hl : j < σ.length
    · rw [List.getElem?_set_self hl, h hl]
    · rw [List.getElem?_eq_none (by rw [List.length_set]; omega), List.getElem?_eq_none (by omega)]
  · rw [List.getElem?_set_ne (Ne.symm e)]
theorem wipe_id {σ : L2.St} : ∀ {l : List Nat}, (∀ i ∈ l, i < σ.length → σ[i]? = some none) → L2.wipe σ l = σ
  | [], _ => rfl
  | v :: l, h => by
    show (L2.wipe σ l).set v none = σ
    rw [wipe_id fun i hi => h i (List.mem_cons_of_mem _ hi)]
    exact set_none_id (h v List.mem_cons_self)
theorem wipe_wipe {σ : L2.St} {l : List Nat} : L2.wipe (L2.wipe σ l) l = L2.wipe σ l := wipe_id fun i hi hl => wipe_out' hi (by rw [wipe_length] at hl; exact hl)
/-- the turns of a comprehension -/
theorem lc_core {e : Ev} {A : Mem} {Γ : Sl} {σ : L2.St} {H : Hp} {J : It} {D : Addr} {Q : VK} {E : XK} {ds : List Dv} (hg : SimG P EN (some own) tg mg) (ht : SimT P (fun _ => EN) tt mt) (he : Sim P (fun _ => EN) te me) (hf : Fx P e H) (m : Rm e A H) (g : Rg e H σ Γ)
    (go : Goes e H J ds) (hl : ds.length ≤ big) (hD : H D = none) (k : ∀ e' A' H' ys l, Gs e e' H H' → Rm e' A' H' → e'.S = wth e.S D → H' D = some (.lst ys) → Rvs e' H' ys l → loopC mg mt me (wipD Γ own) ds A = some (.ok l, A') → Q (.ref D) H')
    (h : loopC mg mt me (wipD Γ own) ds A ≠ none) (herr : ∀ c ns vs A', loopC mg mt me (wipD Γ own) ds A ≠ some (.err c ns vs, A')) :
    ∃ Wv : Nat → Nat → Hp → Prop, (∃ m, Wv 0 m (upd H D (.lst []))) ∧ ∀ i m H, Wv i m H →
      (J.stop i H ∧ Q (.ref D) H) ∨ (J.go i H ∧ ∃ Nx : Hp → Prop, (∀ H', Nx H' → ∃ m', m' < m ∧ Wv (i + 1) m' H') ∧ ∀ x H', J.yld i H x H' → tg x (L2.wipe σ own) H' fun σ2 H2 => L2.wipe σ2 own = L2.wipe σ own ∧ tt σ2 H2 fun b H3 =>
        if b = true then te σ2 H3 fun y H4 => ∃ acc, H4 D = some (.lst acc) ∧ acc.length < sizeLine ∧ Nx (upd H4 D (.lst (acc ++ [y]))) else Nx H3) := by
  obtain ⟨G, Y, wk, hG, hY⟩ := go
  have nD := m.new hD
  -- the end, from any turn
  obtain ⟨L, AL, hL⟩ : ∃ L AL, loopC mg mt me (wipD Γ own) ds A = some (.ok L, AL) := by
    match q : loopC mg mt me (wipD Γ own) ds A with
    | none => exact absurd q h
    | some (.ok l, A') => exact ⟨l, A', rfl⟩
    | some (.err c ns vs, A') => exact absurd q (herr c ns vs A')
  have step : ∀ {ds' : List Dv} {d : Dv} {A1 : Mem} {r : List Dv}, loopC mg mt me (wipD Γ own) (d :: ds') A1 = some (.ok r, AL) → ∃ Γ1 A2 b A3, mg d (wipD Γ own) A1 = some (.ok Γ1, A2) ∧ mt Γ1 A2 = some (.ok b, A3) ∧
      ((b = true ∧ ∃ y A4 r', me Γ1 A3 = some (.ok y, A4) ∧ loopC mg mt me (wipD Γ own) ds' A4 = some (.ok r', AL) ∧ r = y :: r') ∨ (b = false ∧ loopC mg mt me (wipD Γ own) ds' A3 = some (.ok r, AL))) := fun {ds' d A1 r} hr => by
    unfold loopC at hr
    unfold Mi.bnd at hr
    unfold Mi.calm at hr
    match q1 : mg d (wipD Γ own) A1, hr with
    | some (.ok Γ1, A2), hr =>
      simp only at hr
      match q2 : mt Γ1 A2, hr with
      | some (.ok b, A3), hr =>
        refine ⟨Γ1, A2, b, A3, rfl, q2, ?_⟩
        simp only at hr
        cases b with
        | false => exact .inr ⟨rfl, by simpa using hr⟩
        | true =>
          simp only [if_true] at hr
          match q3 : me Γ1 A3, hr with
          | some (.ok y, A4), hr =>
            simp only at hr
            match q4 : loopC mg mt me (wipD Γ own) ds' A4, hr with
            | some (.ok r', A5), hr =>
              simp only [ret] at hr
              cases hr
              exact .inl ⟨rfl, y, A4, r', rfl, q4, rfl⟩
  refine lc_it wk (fun i H' => ∃ e' A' acc l, Gs e e' H H' ∧ Rm e' A' H' ∧ e'.S = wth e.S D ∧ H' D = some (.lst acc) ∧ acc.length ≤ i ∧ Rvs e' H' acc l ∧ ∃ r, loopC mg mt me (wipD Γ own) (ds.drop i) A' = some (.ok r, AL) ∧ l ++ r = L) ?_ ?_ ?_ ?_
  · exact ⟨e.hide D, A, [], [], gr_hide hD, m.hide hD, rfl, upd_same, Nat.le_refl _, .nil, L, hL, rfl⟩
  · rintro i H' _ ⟨e', A', acc, l, g', _⟩
    exact hG e' H' g'
  · rintro i x H1 H2 hi ⟨e1, A1, acc, l, g1, m1, s1, d1, n1, r1, r, hr, hlr⟩ y
    obtain ⟨s, d, hd, rx⟩ := hY i e1 H1 x H2 g1 hi y
    have ed : ds.drop i = d :: ds.drop (i + 1) := by
      rw [List.drop_eq_getElem_cons hi]
      congr 1
      rw [List.getElem?_eq_getElem hi] at hd
      exact Option.some.inj hd
    rw [ed] at hr
    obtain ⟨Γ1, A2, b, A3, q1, q2, q3⟩ := step hr
    have k1 := hf.ups g1
    have gs := Gr.same (e := e1) s
    have nφ : ∀ {e' : Ev} {A' : Mem} {H' : Hp}, Rm e' A' H' → e'.S D = true → D ∉ e'.φ := fun m' s' => (m'.hid D s').2
    have s1' : e1.S D = true := by rw [s1]; exact wth_self
    refine hg e1 A1 (wipD Γ own) (L2.wipe σ own) H2 x d _ (k1.up gs) (m1.same s) (((g.wipe own).upw g1.toGw).up gs) rx ?_
    rw [q1]
    rintro e3 H3 σ2 g3 m3 ⟨r3, w3⟩
    refine ⟨Eq.trans w3 wipe_wipe, ?_⟩
    have k3 := (k1.up gs).up g3
    refine ht e3 A2 Γ1 σ2 H3 _ k3 m3 r3 ?_
    rw [q2]
    rintro e4 H4 b' g4 m4 rfl
    have k4 := k3.up g4
    have g14 := gs.trans (g3.trans g4)
    -- what is hidden stays hidden
    have hid : ∀ {e' : Ev} {A' : Mem} {H' : Hp}, Gr e1 e' H1 H' → Rm e' A' H' → H' D = some (.lst acc) := fun g' m' => g'.all D _ (nφ m1 s1') d1 nofun
    rcases q3 with ⟨rfl, yv, A4, r', q4, q5, rfl⟩ | ⟨rfl, q5⟩
    · rw [if_pos rfl]
      refine he e4 A3 Γ1 σ2 H4 _ k4 m4 (r3.up g4) ?_
      rw [q4]
      intro e5 H5 v5 g5 m5 r5
      have g15 := g14.trans g5
      have d5 := hid g15 m5
      refine ⟨acc, d5, ?_, ?_⟩
      · have := big_line hl
        omega
      · -- the hidden list, with it
        have s5 : e5.S D = true := by rw [g15.sq]; exact s1'
        have w5 := gr_hput (ys := acc ++ [v5]) s5 d5
        refine ⟨e5, A4, acc ++ [v5], l ++ [yv], ⟨(g1.toGw.trans g15.toGw).trans w5, fun b o nb hb nt => ?_⟩, m5.hput s5 d5, g15.sq.trans s1, upd_same, ?_, ((r1.up g15).upw w5).app (.cons (r5.upw w5) .nil), r', q5, ?_⟩
        · rw [upd_ne (ne_of_none hb hD)]
          exact (g1.trans g15.toGs).all b o nb hb nt
        · rw [List.length_append]
          show acc.length + 1 ≤ i + 1
          omega
        · rw [List.append_assoc]
          exact hlr
    · rw [if_neg (by decide)]
      refine ⟨e4, A3, acc, l, g1.trans g14.toGs, m4, g14.sq.trans s1, hid g14 m4, by omega, r1.up g14, r, q5, hlr⟩
  · rintro H' ⟨e', A', acc, l, g', m', s', d', n', r', r, hr, hlr⟩
    rw [List.drop_length] at hr
    unfold loopC at hr
    cases hr
    rw [List.append_nil] at hlr
    subst hlr
    exact k e' _ H' acc l g' m' s' d' r' hL
theorem bnd_assoc {α β γ : Type} (m : Ms α) (f : α → Ms β) (k : β → Ms γ) : bnd (bnd m f) k = bnd m (fun x => bnd (f x) k) := by
  funext A
  unfold bnd
  match m A with
  | none => rfl
  | some (.ok a, A1) => rfl
  | some (.err c ns vs, A1) => rfl
theorem calm_err {α : Type} {m : Ms α} {A A' : Mem} {c : Nat} {ns : List Str} {vs : List Dv} : Mi.calm m A ≠ some (.err c ns vs, A') := by
  unfold Mi.calm
  split
  · exact nofun
  · exact nofun
theorem loopC_err {Γ : Sl} : ∀ {ds : List Dv} {A A' : Mem} {c : Nat} {ns : List Str} {vs : List Dv}, loopC mg mt me Γ ds A ≠ some (.err c ns vs, A')
  | [], _, _, _, _, _ => nofun
  | d :: ds, A, A', c, ns, vs => by
    intro h
    unfold loopC bnd at h
    match q1 : Mi.calm (mg d Γ) A, h with
    | some (.err _ _ _, _), _ => exact calm_err q1
    | some (.ok Γ1, A2), h =>
      simp only at h
      match q2 : Mi.calm (mt Γ1) A2, h with
      | some (.err _ _ _, _), _ => exact calm_err q2
      | some (.ok b, A3), h =>
        cases b with
        | false => exact loopC_err (by simpa using h)
        | true =>
          simp only [if_true] at h
          match q3 : Mi.calm (me Γ1) A3, h with
          | some (.err _ _ _, _), _ => exact calm_err q3
          | some (.ok y, A4), h =>
            simp only at h
            match q4 : loopC mg mt me Γ ds A4, h with
            | some (.err _ _ _, _), _ => exact loopC_err q4
            | some (.ok r, A5), h =>
              simp only [ret] at h
              cases h
/-- the new list is data -/
theorem told_data {e e' : Ev} {A' : Mem} {H H' : Hp} {D : Addr} {ys : List V} {l : List Dv} (hD : H D = none) (hS : e.S D = false) (g : Gs e e' H H') (m : Rm e' A' H') (s : e'.S = wth e.S D) (d : H' D = some (.lst ys)) (r : Rvs e' H' ys l) :
    ∃ e2, Gr e e2 H H' ∧ Rm e2 A' H' ∧ Rv e2 H' (.ref D) (.lst l) := by
  have sub : ∀ b, e.S b = true → e'.S b = true := fun b hb => by rw [s]; exact wth_sub hb
  have gsh := gr_show (e := e') (H := H') sub
  refine ⟨e'.show e.S, ⟨⟨⟨g.k, g.c, g.t, fun b hb => .inl hb, g.pre, g.keep, g.tups, g.frzs, g.live⟩, g.all⟩, rfl⟩, m.show sub, .lst d ?_ (r.upw gsh.toGw)⟩
  rintro (z | z)
  · rw [show (e'.show e.S).S D = e.S D from rfl, hS] at z
    cases z
  · exact (m.hid D (by rw [s]; exact wth_self)).2 z
/-- the new list is a place -/
theorem told_place {e e' : Ev} {A' : Mem} {H H' : Hp} {D : Addr} {ys : List V} {l : List Dv} (hD : H D = none) (hS : e.S D = false) (g : Gs e e' H H') (m : Rm e' A' H') (s : e'.S = wth e.S D) (d : H' D = some (.lst ys)) (r : Rvs e' H' ys l) :
    ∃ e2, Gr e e2 H H' ∧ Rm e2 (A' ++ [.lst l]) H' ∧ Rv e2 H' (.ref D) (.loc A'.length) := by
  have nφ : D ∉ e'.φ := (m.hid D (by rw [s]; exact wth_self)).2
  obtain ⟨ψ, e1, h1⟩ := g.pre
  let e2 : Ev := { e' with S := e.S, φ := e'.φ ++ [D] }
  have re : Re e' e2 := ⟨rfl, rfl, fun a z => by
    rcases z with z | z
    · exact .inl (by rw [s]; exact wth_sub z)
    · rcases List.mem_append.mp z with z | z
      · exact .inr z
      · simp at z
        exact .inl (by rw [s, z]; exact wth_self), fun n a h => by
    have hl := (List.getElem?_eq_some_iff.mp h).1
    show (e'.φ ++ [D])[n]? = some a
    rw [List.getElem?_append_left hl]
    exact h⟩
  refine ⟨e2, ⟨⟨⟨g.k, g.c, g.t, fun b hb => .inl hb, ⟨ψ ++ [D], by show e'.φ ++ [D] = _; rw [e1, List.append_assoc], fun b hb => ?_⟩, g.keep, g.tups, g.frzs, g.live⟩, g.all⟩, rfl⟩, ⟨?_, ?_, fun n a o h2 h3 => ?_, fun b hb => ⟨(m.hid b (by rw [s]; exact wth_sub hb)).1, ?_⟩, m.tab⟩, .loc ?_⟩
  · rcases List.mem_append.mp hb with z | z
    · exact h1 b z
    · simp at z
      rw [z]
      exact .of hD
  · show (e'.φ ++ [D]).length = _
    rw [List.length_append, List.length_append, m.len]
    rfl
  · show (e'.φ ++ [D]).Nodup
    rw [List.nodup_append]
    refine ⟨m.nodup, by simp, fun a ha c hc z => ?_⟩
    simp at hc
    rw [z, hc] at ha
    exact nφ ha
  · have h2 : (e'.φ ++ [D])[n]? = some a := h2
    by_cases hn : n < A'.length
    · rw [List.getElem?_append_left (by rw [m.len]; exact hn)] at h2
      rw [List.getElem?_append_left hn] at h3
      have q := m.obj n a o h2 h3
      cases o with
      | lst l' =>
        obtain ⟨xs, q1, q2⟩ := q
        exact ⟨xs, q1, Rvs.re re _ _ q2⟩
      | del => exact q
    · rw [List.getElem?_append_right (by rw [m.len]; omega)] at h2
      rw [List.getElem?_append_right (by omega)] at h3
      have e0 : n - A'.length = 0 := by
        have := (List.getElem?_eq_some_iff.mp h3).1
        simp at this
        omega
      rw [m.len, e0] at h2
      rw [e0] at h3
      cases h2
      cases h3
      exact ⟨ys, d, Rvs.re re _ _ r⟩
  · show b ∉ e'.φ ++ [D]
    intro z
    rcases List.mem_append.mp z with q | q
    · exact (m.hid b (by rw [s]; exact wth_sub hb)).2 q
    · simp at q
      rw [q, hS] at hb
      cases hb
  · show (e'.φ ++ [D])[A'.length]? = some D
    rw [← m.len, List.getElem?_append_right (Nat.le_refl _), Nat.sub_self]
    rfl
theorem Rm.notS {e : Ev} {A : Mem} {H : Hp} {D : Addr} (m : Rm e A H) (h : H D = none) : e.S D = false := by
  cases q : e.S D with
  | false => rfl
  | true => exact absurd (.of h) (m.hid D q).1
theorem sim_lc (hi : SimI P W wi mi) (hg : SimG P EN (some own) tg mg) (ht : SimT P (fun _ => EN) tt mt) (he : Sim P (fun _ => EN) te me) : Sim P W (tLc wi tg tt te own) (mLc mi mg mt me own) := fun e A Γ σ H Q hf m g h => by
  unfold mLc mLcs at h
  rw [bnd_assoc] at h
  refine hi e A Γ σ H _ hf m g (h.bnd fun e1 H1 J ds A1 g1 m1 r1 q1 => fun D hD => ?_)
  by_cases l : ds.length ≤ big
  · rw [if_pos l] at q1
    refine lc_core (E := EN) hg ht he (hf.up g1) m1 (g.up g1) r1 l hD (fun e' A' H' ys l' g' m' s' hd' rs hl => ?_) (fun z => ?_) fun c ns vs A' => loopC_err
    · rw [bnd_ok hl] at q1
      obtain ⟨e2, g2, m2, r2⟩ := told_data hD (m1.notS hD) g' m' s' hd' rs
      exact q1 e2 H' _ g2 m2 r2
    · unfold bnd at q1
      rw [z] at q1
      exact q1
  · rw [if_neg l] at q1
    exact q1.elim
theorem sim_lcM (hi : SimI P W wi mi) (hg : SimG P EN (some own) tg mg) (ht : SimT P (fun _ => EN) tt mt) (he : Sim P (fun _ => EN) te me) : Sim P W (tLc wi tg tt te own) (mLcM mi mg mt me own) := fun e A Γ σ H Q hf m g h => by
  unfold mLcM mLcs at h
  rw [bnd_assoc] at h
  refine hi e A Γ σ H _ hf m g (h.bnd fun e1 H1 J ds A1 g1 m1 r1 q1 => fun D hD => ?_)
  by_cases l : ds.length ≤ big
  · rw [if_pos l] at q1
    refine lc_core (E := EN) hg ht he (hf.up g1) m1 (g.up g1) r1 l hD (fun e' A' H' ys l' g' m' s' hd' rs hl => ?_) (fun z => ?_) fun c ns vs A' => loopC_err
    · rw [bnd_ok hl] at q1
      obtain ⟨e2, g2, m2, r2⟩ := told_place hD (m1.notS hD) g' m' s' hd' rs
      exact q1 e2 H' _ g2 m2 r2
    · unfold bnd at q1
      rw [z] at q1
      exact q1
  · rw [if_neg l] at q1
    exact q1.elim
end
end Mi

namespace Mi
open PySem PySem.Spec PyProof.Rows L2 Ty
/-! ### isinstance -/
inductive Kd where
  | non | bl | int | str | tup | lst | dic
def Kd.nm : Kd → String
  | .non => "NoneType" | .bl => "bool" | .int => "int" | .str => "str" | .tup => "tuple" | .lst => "list" | .dic => "dict"
def kdv (A : Mem) : Dv → Option Kd
  | .non => some .non | .bl _ => some .bl | .int _ => some .int | .str _ => some .str | .rep _ => some .str | .tup _ => some .tup | .lst _ => some .lst | .dic => some .dic | .dik _ => some .dic
  | .loc n => match A[n]? with
    | some (.lst _) => some .lst
    | _ => none
  | _ => none
/-- of the type of this name -/
def kitK (k : Kd) (n : String) : Option Bool :=
  if n = "int" then some (match k with | .int => true | .bl => true | _ => false)
  else if n = "bool" then some (match k with | .bl => true | _ => false)
  else if n = "list" then some (match k with | .lst => true | _ => false)
  else if n = "tuple" then some (match k with | .tup => true | _ => false)
  else if n = "str" then some (match k with | .str => true | _ => false)
  else none
theorem kitK_of {k : Kd} {n : String} {b : Bool} (h : kitK k n = some b) : kitB k.nm n = some b := by
  unfold kitK at h
  split at h
  · rename_i e
    subst e
    cases k <;> cases h <;> decide +kernel
  · split at h
    · rename_i e
      subst e
      cases k <;> cases h <;> decide +kernel
    · split at h
      · rename_i e
        subst e
        cases k <;> cases h <;> decide +kernel
      · split at h
        · rename_i e
          subst e
          cases k <;> cases h <;> decide +kernel
        · split at h
          · rename_i e
            subst e
            cases k <;> cases h <;> decide +kernel
          · cases h
theorem sqT_ty {K : PySem.W.Frag} {H : Hp} {a : Addr} {xs : List V} (h : SqT K H a xs) : TyX K H (.ref a) (.type "tuple") := by
  rcases h with (h | ⟨o, h⟩) | ⟨o, its, n, h1, h2, _⟩
  · exact .base (.tup h)
  · exact .fTuple h
  · exact .kTuple h1 h2
theorem kdv_ty {e : Ev} {A : Mem} {H : Hp} {v : V} {x : Dv} {k : Kd} (m : Rm e A H) (r : Rv e H v x) (h : kdv A x = some k) : TyX e.K H v (.type k.nm) := by
  cases x with
  | non => cases h; cases r; exact .base .non
  | bl b => cases h; cases r; exact .base (.bl b)
  | int i => cases h; cases r; exact .base (.int i)
  | str z => cases h; cases r; exact .base (.str z)
  | rep d => cases h; cases r; exact .base (.str _)
  | tup l =>
    cases h
    cases r with
    | tup q _ => exact sqT_ty q.sqt
  | lst l =>
    cases h
    cases r with
    | lst q _ _ => exact .base (.lst q)
  | dic =>
    cases h
    cases r with
    | dic q _ => exact .base (.dK q)
  | dik l =>
    cases h
    cases r with
    | dik q _ => exact .base (.dK q)
  | loc n =>
    cases r with
    | loc q =>
      obtain ⟨o, h1, h2⟩ := m.at q
      simp only [kdv, h1] at h
      cases o with
      | lst l' =>
        cases h
        obtain ⟨xs, h3, _⟩ := h2
        exact .base (.lst h3)
      | del => cases h
  | _ => cases h
def oIsi (P : Pr) (A : Mem) (xs : List Dv) : Option Dv := match xs with
  | [.exc c _ _, .cls d] => (P.sub c d).map .bl
  | [x, .ty n] => match kdv A x with
    | some k => (kitK k n).map .bl
    | none => none
  | [x, .tup [.ty n, .ty n']] => match kdv A x with
    | some k => match kitK k n, kitK k n' with
      | some b, some b' => some (.bl (b || b'))
      | _, _ => none
    | none => none
  | _ => none
def rIsiU (K : PySem.W.Frag) : List V → Hp → VK → Prop := fun xs H Q => rIsi K xs H Q ∨ (rIsiT K xs H Q ∨ (rIsX K xs H Q ∨ rIsiK K xs H Q))
theorem call_isiU {X : Cx} : CallR X (.builtin "isinstance") (rIsiU X.K) := call_isi.or (call_isiT.or (call_isX.or call_isiK))
section
variable {P : Pr} {W : L2.St → XK} {E : XK} {ta tb : TE} {tr tk : TA} {ma mb : Sl → Ms Dv} {mr mk : Sl → Ms (List Dv)}
theorem cbs_isi (ok : P.Ok) : CbS P (rIsiU P.K) (oIsi P) := fun e A H vs xs z Q hk hc m rs h k => by
  unfold oIsi at h
  split at h
  · rename_i c ns vs' d
    cases q : P.sub c d with
    | none => rw [q] at h; cases h
    | some b =>
      rw [q] at h
      cases h
      obtain ⟨v, u, rfl, r1, r2⟩ := rs.two
      cases r2
      cases r1 with
      | @exc a dd _ fs _ _ h1 _ h2 _ _ _ =>
      rw [hc] at h1 ⊢
      exact .inr (.inr (.inl ⟨a, _, dd, fs, _, _, b, rfl, .own _, h1, h2, ok.exk c d b q, ok.kit c d b q, k _ _ (Same.refl _) (.bl _)⟩))
  · split at h
    · rename_i n _ k' hk'
      cases q : kitK k' n with
      | none => rw [q] at h; cases h
      | some b =>
        rw [q] at h
        cases h
        obtain ⟨v, u, rfl, r1, r2⟩ := rs.two
        cases r2
        have ty := kdv_ty m r1 hk'
        rw [hk] at ty
        exact .inl ⟨v, .ty n, _, _, b, rfl, .ty n, ty, kit_ty (kitK_of q), k _ _ (Same.refl _) (.bl _)⟩
    · cases h
  · split at h
    · rename_i x0 n n' _ k' hk'
      split at h
      · rename_i b b' q q'
        cases h
        obtain ⟨v, u, rfl, r1, r2⟩ := rs.two
        cases r2 with
        | @tup p xs _ hs r =>
        have ty := kdv_ty m r1 hk'
        rw [hk] at ty
        obtain ⟨v1, v2, rfl, t1, t2⟩ := r.two
        cases t1
        cases t2
        have e1 : PySem.W.kitAny P.K (.type k'.nm) [.type n, .type n'] = some (b || b') := by
          refine kitAny_cons (kit_ty (kitK_of q)) (fun h => ?_) fun h => ?_
          · subst h
            refine kitAny_cons (kit_ty (kitK_of q')) (fun h2 => ?_) fun h2 => ?_
            · subst h2
              rw [kitAny_nil]
              rfl
            · subst h2
              rfl
          · subst h
            rfl
        rcases hs with hs | ⟨⟨oc, od, dt, osl⟩, its, nn, h1, h2, h3, h4, h5⟩
        · exact .inr (.inl ⟨v, p, _, _, _, _, rfl, hs, .cons (.ty n) (.cons (.ty n') .nil), ty, e1, k _ _ (Same.refl _) (.bl _)⟩)
        · simp only at h2 h3
          subst h2 h3
          have e2 : its.toList = [.type n, .type n'] := by
            cases hz : its.toList with
            | nil => rw [hz] at h5; cases h5
            | cons u1 us =>
              rw [hz] at h5
              cases h5 with
              | cons t1 h5 =>
              cases h5 with
              | cons t2 h5 =>
              cases h5
              rw [show _ = _ from t1, show _ = _ from t2]
          have e3 : its = [.type n, .type n'].toArray := by rw [← e2]
          rw [hk, e3] at h1
          exact .inr (.inr (.inr ⟨v, p, _, _, _, _, _, _, rfl, h1, ty, e1, k _ _ (Same.refl _) (.bl _)⟩))
      · cases h
    · cases h
  · cases h
/-! ### a caught error's field -/
def lkD (f : Str) : List Str → List Dv → Option Dv
  | n :: ns, v :: vs => if f = n then some v else lkD f ns vs
  | _, _ => none
theorem lkD_of {e : Ev} {H : Hp} {f : Str} : ∀ {fs : List (Str × V)} {ns : List Str} {vs : List Dv} {d : Dv}, fs.map (·.1) = ns → Rvs e H (fs.map (·.2)) vs → lkD f ns vs = some d → ∃ v, fs.lookup f = some v ∧ Rv e H v d
  | [], _, _, _, hn, r, h => by
    subst hn
    cases r
    cases h
  | (n, v) :: fs, _, _, d, hn, r, h => by
    subst hn
    cases r with
    | @cons _ _ dv dvs r1 r2 =>
    unfold lkD at h
    by_cases q : f = n
    · simp only [List.map_cons, if_pos q] at h
      cases h
      refine ⟨v, ?_, r1⟩
      rw [List.lookup_cons, q]
      simp
    · simp only [List.map_cons, if_neg q] at h
      obtain ⟨w, h1, h2⟩ := lkD_of rfl r2 h
      refine ⟨w, ?_, h2⟩
      rw [List.lookup_cons, show (f == n) = false from beq_eq_false_iff_ne.mpr q]
      exact h1
def oXt (P : Pr) (f : Str) (x : Dv) : Option Dv := match x with
  | .exc c ns vs => if P.fld c f = true then lkD f ns vs else none
  | _ => none
def mXt (P : Pr) (f : Str) (ma : Sl → Ms Dv) (Γ : Sl) : Ms Dv := bnd (ma Γ) fun x => ofO (oXt P f x)
theorem sim_xt (ok : P.Ok) {f : Str} (ha : Sim P W ta ma) : Sim P W (tXt P.K ta f) (mXt P f ma) := fun e A Γ σ H Q hf m g h =>
  ha e A Γ σ H _ hf m g (h.bnd fun e1 H1 v x A1 g1 m1 rx h1 => by
    obtain ⟨z, hz, k⟩ := wp_ofO h1 m1
    unfold oXt at hz
    split at hz
    · rename_i c ns vs
      split at hz
      · rename_i q
        cases rx with
        | @exc a d _ fs _ _ h1 _ h2 _ hn r =>
        rw [(hf.up g1).c] at h1
        obtain ⟨w, h3, h4⟩ := lkD_of hn r hz
        obtain ⟨x1, x2⟩ := ok.nof c f q
        exact ⟨a, _, d, fs, w, rfl, h1, h2, x1, x2, h3, k _ _ (Same.refl _) h4⟩
      · cases hz
    · cases hz)
/-! ### methods of lists -/
theorem tyV_list {K : PySem.W.Frag} {H : Hp} {a : Addr} {xs : List V} (h : H a = some (.lst xs)) : tyV K "list" (.ref a) H := .inl ⟨rfl, xs, .of h⟩
def appL (A : Mem) (o y : Dv) : Option Mem := match o with
  | .loc n => match A[n]? with
    | some (.lst l) => if l.length < big then some (A.set n (.lst (l ++ [y]))) else none
    | _ => none
  | _ => none
def mApp (mo : Sl → Ms Dv) (mr : Sl → Ms (List Dv)) (Γ : Sl) : Ms Dv := bnd (mo Γ) fun o A0 => match asL A0 o with
  | some _ => bnd (mr Γ) (fun xs A => match xs with
    | [y] => match appL A o y with
      | some A' => some (.ok .non, A')
      | none => none
    | _ => none) A0
  | none => none
theorem sim_app (ho : Sim P W ta ma) (hr : SimA P W tr mr) : Sim P W (tBM P.K "list" rAppend ta tr) (mApp ma mr) := fun e A Γ σ H Q hf m g h =>
  ho e A Γ σ H _ hf m g (h.bnd fun e1 H1 v o A1 g1 m1 ro h1 => by
    split at h1
    · rename_i l0 hl0
      obtain ⟨a, xs, rfl, ha, _⟩ := asL_of m1 ro hl0
      refine ⟨tyV_list ha, hr e1 A1 Γ σ H1 _ (hf.up g1) m1 (g.up g1) (Wp.bnd h1 fun e2 H2 vs xs A2 g2 m2 rs h2 => ?_)⟩
      split at h2
      · rename_i y
        obtain ⟨w, rfl, ry⟩ := rs.one
        cases z : appL A2 o y with
        | none => rw [z] at h2; exact h2.elim
        | some A' =>
          rw [z] at h2
          unfold appL at z
          split at z
          · rename_i n
            split at z
            · rename_i l hl
              split at z
              · rename_i lt
                cases z
                cases ro.up g2 with
                | loc hn =>
                obtain ⟨ys, h3, h4⟩ : Ro e2 H2 a (.lst l) := m2.obj n a _ hn hl
                exact ⟨a, ys, w, rfl, rfl, h3, by rw [h4.length]; exact Nat.lt_of_lt_of_le lt (by decide), h2 e2 _ _ (gr_put m2 hn h3) (m2.put hn h3 (h4.app (.cons ry .nil))) .non⟩
              · cases z
            · cases z
          · cases z
      · exact h2.elim
    · exact h1.elim)
def popL (A : Mem) (o : Dv) : Option (Dv × Mem) := match o with
  | .loc n => match A[n]? with
    | some (.lst l) => match l[l.length - 1]? with
      | some y => some (y, A.set n (.lst l.dropLast))
      | none => none
    | _ => none
  | _ => none
def mPop (mo : Sl → Ms Dv) (Γ : Sl) : Ms Dv := bnd (mo Γ) fun o A => match popL A o with
  | some (y, A') => some (.ok y, A')
  | none => none
theorem Rvs.dropLast {e : Ev} {H : Hp} {xs : List V} {l : List Dv} (r : Rvs e H xs l) : Rvs e H xs.dropLast l.dropLast := by
  rw [List.dropLast_eq_take, List.dropLast_eq_take, r.length]
  exact r.take _
theorem sim_pop (ho : Sim P W ta ma) : Sim P W (tBM0 P.K "list" rPop ta) (mPop ma) := fun e A Γ σ H Q hf m g h =>
  ho e A Γ σ H _ hf m g (h.bnd fun e1 H1 v o A1 g1 m1 ro h1 => by
    cases z : popL A1 o with
    | none => rw [z] at h1; exact h1.elim
    | some p =>
      obtain ⟨y, A'⟩ := p
      rw [z] at h1
      unfold popL at z
      split at z
      · rename_i n
        split at z
        · rename_i l hl
          split at z
          · rename_i y' hy
            cases z
            cases ro with
            | @loc _ a hn =>
            obtain ⟨ys, h3, h4⟩ : Ro e1 H1 a (.lst l) := m1.obj n a _ hn hl
            obtain ⟨w, h5, h6⟩ := h4.get hy
            rw [← h4.length] at h5
            exact ⟨tyV_list h3, a, ys, w, rfl, rfl, h3, h5, h1 e1 _ _ (gr_put m1 hn h3) (m1.put hn h3 h4.dropLast) (h6.up (gr_put m1 hn h3))⟩
          · cases z
        · cases z
      · cases z)
/-! ### calls -/
/-- a def's promise: what the mirror does -/
def spM (P : Pr) (n : Nat) (g : List Dv → Ms Dv) : Sp := fun vs H Q E => ∃ e A ds, Fx P.base e H ∧ Rm e A H ∧ Rvs e H vs ds ∧ ds.length = n ∧ Wp Rv E e H Q (g ds A)
theorem Wp.wish {α β : Type} {R : Ev → Hp → β → α → Prop} {E E' : XK} {e : Ev} {H : Hp} {Q : β → Hp → Prop} {r : Option (Ex α × Mem)} (h : Wp R E e H Q r) (k : ∀ c d H', E c d H' → E' c d H') : Wp R E' e H Q r := by
  match r, h with
  | some (.ok a, A'), h => exact h
  | some (.err c ns vs, A'), h => exact fun e' H' d fs g m h1 h2 h3 h4 => k _ _ _ (h e' H' d fs g m h1 h2 h3 h4)
def mCall (n : Nat) (g : List Dv → Ms Dv) (mr : Sl → Ms (List Dv)) (Γ : Sl) : Ms Dv := bnd (mr Γ) fun xs => if xs.length = n then g xs else fail
theorem sim_call {n : Nat} {g : List Dv → Ms Dv} {E : XK} (hr : SimA P W tr mr) (hE : ∀ σ c d H', W σ c d H' → E c d H') : Sim P W (tCall (spM P n g) [] E tr) (mCall n g mr) := fun e A Γ σ H Q hf m gg h =>
  hr e A Γ σ H _ hf m gg (h.bnd fun e1 H1 vs xs A1 g1 m1 rs h1 => by
    by_cases l : xs.length = n
    · rw [if_pos l] at h1
      exact ⟨e1, A1, xs, (hf.up g1).base, m1, by rw [List.append_nil]; exact rs, l, h1.wish (hE σ)⟩
    · rw [if_neg l] at h1
      exact h1.elim)
theorem sim_callS {n : Nat} {g : List Dv → Ms Dv} (hr : SimA P W tr mr) : Sim P W (tCallS (spM P n g) W tr) (mCall n g mr) := fun e A Γ σ H Q hf m gg h =>
  hr e A Γ σ H _ hf m gg (h.bnd fun e1 H1 vs xs A1 g1 m1 rs h1 => by
    by_cases l : xs.length = n
    · rw [if_pos l] at h1
      exact ⟨e1, A1, xs, (hf.up g1).base, m1, rs, l, h1⟩
    · rw [if_neg l] at h1
      exact h1.elim)
theorem Rvs.perm {e : Ev} {H : Hp} {vs : List V} {ds : List Dv} (r : Rvs e H vs ds) : ∀ is : List Nat, Rvs e H (Ty.perm is vs) (Ty.perm is ds)
  | [] => .nil
  | i :: is => by
    have ih := Rvs.perm r is
    unfold Ty.perm at ih ⊢
    rw [List.filterMap_cons, List.filterMap_cons]
    cases q : ds[i]? with
    | none =>
      have e2 : vs[i]? = none := by
        rw [List.getElem?_eq_none_iff] at q ⊢
        rw [r.length]
        exact q
      rw [e2]
      exact ih
    | some d =>
      obtain ⟨v, e2, rv⟩ := r.get q
      rw [e2]
      exact .cons rv ih
/-- f(a, k = b): is tells where each parameter stands -/
def mCallN (n j k : Nat) (g : List Dv → Ms Dv) (is : List Nat) (mr mk : Sl → Ms (List Dv)) (Γ : Sl) : Ms Dv := bnd (mr Γ) fun xs => bnd (mk Γ) fun ys => if xs.length = j ∧ ys.length = k ∧ (Ty.perm is (xs ++ ys)).length = n then g (Ty.perm is (xs ++ ys)) else fail
theorem sim_callN {n j k : Nat} {g : List Dv → Ms Dv} {E : XK} {is : List Nat} (hr : SimA P W tr mr) (hk' : SimA P W tk mk) (hE : ∀ σ c d H', W σ c d H' → E c d H') : Sim P W (tCallN j k (spM P n g) (fun us ws => Ty.perm is (us ++ ws)) E tr tk) (mCallN n j k g is mr mk) := fun e A Γ σ H Q hf m gg h =>
  hr e A Γ σ H _ hf m gg (h.bnd fun e1 H1 vs xs A1 g1 m1 rs h1 => hk' e1 A1 Γ σ H1 _ (hf.up g1) m1 (gg.up g1) (h1.bnd fun e2 H2 us ys A2 g2 m2 rt h2 => by
    by_cases l : xs.length = j ∧ ys.length = k ∧ (Ty.perm is (xs ++ ys)).length = n
    · rw [if_pos l] at h2
      refine ⟨rs.length.trans l.1, rt.length.trans l.2.1, e2, A2, Ty.perm is (xs ++ ys), ((hf.up g1).up g2).base, m2, ((rs.up g2).app rt).perm is, l.2.2, h2.wish (hE σ)⟩
    · rw [if_neg l] at h2
      exact h2.elim))
/-! ### a def's body -/
def outF : Fl → Ms Dv
  | .rt d => ret d
  | .nx _ => ret .non
  | _ => fail
def fnM (k : Nat) (ms : Sl → Ms Fl) (ds : List Dv) : Ms Dv := bnd (ms (ds.map some ++ List.replicate k none)) outF
theorem rg_start {e : Ev} {H : Hp} {vs : List V} {ds : List Dv} {N : List Str} {k : Nat} (r : Rvs e H vs ds) (h : N.length = ds.length + k) : Rg e H (L2.start N vs) (ds.map some ++ List.replicate k none) := by
  have e1 : N.length - vs.length = k := by rw [r.length]; omega
  unfold L2.start
  rw [e1]
  refine ⟨by simp [r.length], fun i d q => ?_⟩
  by_cases hi : i < ds.length
  · rw [List.getElem?_append_left (by simpa using hi)] at q
    rw [List.getElem?_append_left (by simpa [r.length] using hi)]
    rw [List.getElem?_map] at q ⊢
    cases z : ds[i]? with
    | none => rw [z] at q; cases q
    | some d' =>
      rw [z] at q
      cases q
      obtain ⟨v, h1, h2⟩ := r.get z
      exact ⟨v, by rw [h1]; rfl, h2⟩
  · rw [List.getElem?_append_right (by simpa using Nat.le_of_not_lt hi)] at q
    have := List.mem_of_getElem? q
    rw [List.mem_replicate] at this
    cases this.2
theorem run_sims {t : TS} {ms : Sl → Ms Fl} {n k : Nat} {N : List Str} {vs : List V} {H : Hp} {Q : VK} {E : XK} (hs : SimS P.base E t ms) (hN : N.length = n + k) (h : spM P n (fnM k ms) vs H Q E) : t { nx := fun _ H' => Q .non H', rt := Q } (L2.start N vs) H := by
  obtain ⟨e, A, ds, hf, m, r, hl, w⟩ := h
  refine hs e A _ _ H _ hf m (rg_start r (by rw [hl]; exact hN)) ?_
  unfold fnM Mi.bnd at w
  match q : ms (ds.map some ++ List.replicate k none) A, w with
  | some (.ok (.nx Γ), A'), w => exact fun e' H' σ' g m _ => w e' H' .non g m .non
  | some (.ok (.rt d), A'), w => exact w
  | some (.ok (.bk Γ), A'), w => exact w.elim
  | some (.ok (.ct Γ), A'), w => exact w.elim
  | some (.err c ns vs, A'), w => exact w
theorem spM_len {n : Nat} {g : List Dv → Ms Dv} {vs : List V} {H : Hp} {Q : VK} {E : XK} (h : spM P n g vs H Q E) : vs.length = n := by
  obtain ⟨e, A, ds, hf, m, r, hl, w⟩ := h
  exact r.length.trans hl
/-- a promise told otherwise -/
theorem spM_imp {n : Nat} {g g' : List Dv → Ms Dv} (h : ∀ ds A r, ds.length = n → g' ds A = some r → g ds A = some r) {vs : List V} {H : Hp} {Q : VK} {E : XK} (q : spM P n g' vs H Q E) : spM P n g vs H Q E := by
  obtain ⟨e, A, ds, hf, m, r, hl, w⟩ := q
  refine ⟨e, A, ds, hf, m, r, hl, ?_⟩
  cases z : g' ds A with
  | none => rw [z] at w; exact w.elim
  | some r' =>
    rw [h ds A r' hl z]
    rw [z] at w
    exact w
/-! ### raise, try -/
def mRaise1 (c : Nat) (f : Str) (mr : Sl → Ms (List Dv)) (Γ : Sl) : Ms Fl := bnd (mr Γ) fun xs => match xs with
  | [v] => raise c [f] [v]
  | _ => fail
def mRaise2 (c : Nat) (f g : Str) (mr : Sl → Ms (List Dv)) (Γ : Sl) : Ms Fl := bnd (mr Γ) fun xs => match xs with
  | [v, u] => raise c [g, f] [u, v]
  | _ => fail
theorem sims_raise1 {c : Nat} {f : Str} {Wx : WX} (hr : SimA P (fun _ => E) tr mr) (hW : ∀ cls d σ H', E cls d H' → Wx cls d σ H') : SimS P E (fun _ σ H => tMkO (P.ct.1 c) (spIni1 (P.ct.1 c) [f]) [] tr σ H fun cls d H' => Wx cls d σ H') (mRaise1 c f mr) := fun e A Γ σ H D hf m g h =>
  hr e A Γ σ H _ hf m g (h.bnd fun e1 H1 vs xs A1 g1 m1 rs h1 => by
    split at h1
    · rename_i v
      obtain ⟨w, rfl, rw'⟩ := rs.one
      have h1 : We E e1 H1 c [f] [v] A1 := h1
      refine mk1 (Q := fun cls d H' => Wx cls d σ H') fun d H' s hd hx => hW _ _ σ _ ?_
      have q := h1 e1 H' d _ (Gr.same s) (m1.same s) hx (m1.new hd) rfl (.cons (rw'.up (Gr.same s)) .nil)
      rw [(hf.up g1).c] at q
      exact q
    · exact h1.elim)
end
end Mi

namespace Mi
open PySem PySem.Spec PyProof.Rows L2 Ty
section
variable {P : Pr} {W : L2.St → XK} {E : XK} {ta tb : TE} {tr tk : TA} {ma mb : Sl → Ms Dv} {mr mk : Sl → Ms (List Dv)}
/-- a value that the mirror knows -/
theorem sims_raise2 {c : Nat} {f g : Str} {Wx : WX} (hr : SimA P (fun _ => E) tr mr) (hW : ∀ cls d σ H', E cls d H' → Wx cls d σ H') : SimS P E (fun _ σ H => tMkO (P.ct.1 c) (spIni2 (P.ct.1 c) [f, g]) [] tr σ H fun cls d H' => Wx cls d σ H') (mRaise2 c f g mr) := fun e A Γ σ H D hf m gg h =>
  hr e A Γ σ H _ hf m gg (h.bnd fun e1 H1 vs xs A1 g1 m1 rs h1 => by
    split at h1
    · rename_i v u
      obtain ⟨w, w', rfl, rw1, rw2⟩ := rs.two
      have h1 : We E e1 H1 c [g, f] [u, v] A1 := h1
      refine mk2 (Q := fun cls d H' => Wx cls d σ H') fun d H' s hd hx => hW _ _ σ _ ?_
      have q := h1 e1 H' d _ (Gr.same s) (m1.same s) hx (m1.new hd) rfl (.cons (rw2.up (Gr.same s)) (.cons (rw1.up (Gr.same s)) .nil))
      rw [(hf.up g1).c] at q
      exact q
    · exact h1.elim)
/-! ### try .. except C as x: y = x -/
/-- a statement whose errors are wished for at the slots -/
def SimW (P : Pr) (W : L2.St → XK) (t : TS) (m : Sl → Ms Fl) : Prop := ∀ e A Γ σ H D, Fx P e H → Rm e A H → Rg e H σ Γ → Wf (W σ) e H D (m Γ A) → t D σ H
theorem simw_ret (ha : Sim P W ta ma) : SimW P W (tRet ta) (mRet ma) := fun e A Γ σ H D hf m g h =>
  ha e A Γ σ H _ hf m g (h.bnd fun e1 H1 v d A1 g1 m1 r h1 => h1 e1 H1 v (Gr.refl _ _) m1 r)
theorem simw_drop (ha : Sim P W ta ma) : SimW P W (tDrop ta) (mDrop ma) := fun e A Γ σ H D hf m g h =>
  ha e A Γ σ H _ hf m g (h.bnd fun e1 H1 v d A1 g1 m1 r h1 => h1 e1 H1 σ (Gr.refl _ _) m1 (g.up g1))
def mTry (P : Pr) (c i l : Nat) (mb : Sl → Ms Fl) (Γ : Sl) : Ms Fl := fun A => match mb Γ A with
  | some (.err d ns vs, A1) => match P.sub d c with
    | some true => some (.ok (.nx (((Γ.set i (some (.exc d ns vs))).set l (some (.exc d ns vs))).set i none)), A1)
    | some false => some (.err d ns vs, A1)
    | none => none
  | r => r
theorem sims_try (ok : P.Ok) {c i l : Nat} {tb : WX → TS} {mb : Sl → Ms Fl} {Wout : WX} (hb : ∀ Wx : WX, SimW P (WE Wx) (tb Wx) mb) (hW : ∀ cls d σ H', E cls d H' → Wout cls d σ H') : SimS P E (fun D σ H => tb (wKeep P.K (.ref (P.ct.1 c)) i l Wout D) D σ H) (mTry P c i l mb) := fun e A Γ σ H D hf m g h => by
  refine hb _ e A Γ σ H D hf m g ?_
  unfold mTry at h
  match q : mb Γ A, h with
  | some (.ok f, A1), h => 
    cases f with
    | nx _ => exact h
    | rt _ => exact h
    | bk _ => exact h
    | ct _ => exact h
  | some (.err d ns vs, A1), h =>
    intro e' H' dd fs g' m' h1 h2 h3 h4
    have hf.c' := (hf.up g').c
    cases z : P.sub d c with
    | none => simp only [z] at h; exact h.elim
    | some b =>
      refine ⟨b, by rw [hf.c]; exact ok.exm d c b z, fun hb' a ha => ?_, fun hb' => ?_⟩
      · subst hb'
        simp only [z] at h
        have s : Same H' (upd H' a (ExT (.ref (e.ct.1 d)) (some dd) a)) := Same.new ha
        refine h e' _ _ (g'.trans (Gr.same s)) (m'.same s) ?_
        have rx : Rv e' (upd H' a (ExT (.ref (e.ct.1 d)) (some dd) a)) (.ref a) (.exc d ns vs) := .exc (by rw [g'.c]; exact upd_same) (m'.new ha) (s _ _ h1) h2 h3 (h4.up (Gr.same s))
        exact ((((g.up g').up (Gr.same s)).set i rx).set l rx).none i
      · subst hb'
        simp only [z] at h
        exact hW _ _ σ _ (h e' H' dd fs g' m' h1 h2 h3 h4)
/-! ### what is walked -/
def rangeD (lo : Int) (n : Nat) : List Dv := (List.range n).map fun i => .int (lo + (i : Nat))
def enumD : Nat → List Dv → List Dv
  | _, [] => []
  | i, d :: l => .tup [.int (i : Nat), d] :: enumD (i + 1) l
theorem enumD_len : ∀ (i : Nat) (l : List Dv), (enumD i l).length = l.length
  | _, [] => rfl
  | i, d :: l => by
    show (enumD (i + 1) l).length + 1 = l.length + 1
    rw [enumD_len (i + 1) l]
theorem enumD_at : ∀ (i j : Nat) (l : List Dv) {d : Dv}, l[j]? = some d → (enumD i l)[j]? = some (.tup [.int ((i + j : Nat) : Int), d])
  | _, _, [], _, h => by simp at h
  | i, 0, d :: l, _, h => by
    cases (Option.some.inj h)
    rfl
  | i, j + 1, d :: l, _, h => by
    have h' : l[j]? = some _ := h
    show (enumD (i + 1) l)[j]? = _
    rw [enumD_at (i + 1) j l h']
    congr 5
    omega
theorem goes_range {e : Ev} {H : Hp} {lo : Int} {n : Nat} : Goes e H (Itr lo n) (rangeD lo n) := by
  have el : (rangeD lo n).length = n := by unfold rangeD; simp
  refine ⟨fun _ => True, YFn fun i => .int (lo + (i : Nat)), by rw [el]; exact walk_range, fun _ _ _ => trivial, fun i e' H1 x H2 g hi y => ?_⟩
  obtain ⟨rfl, rfl⟩ := y
  rw [el] at hi
  refine ⟨Same.refl _, .int (lo + (i : Nat)), ?_, .int _⟩
  unfold rangeD
  simp [hi]
def mRange1 (mr : Sl → Ms (List Dv)) (Γ : Sl) : Ms (List Dv) := bnd (mr Γ) fun xs => match xs with
  | [.int j] => if -1000000 ≤ j ∧ j ≤ 1000000 then ret (rangeD 0 j.toNat) else fail
  | _ => fail
def mRange2 (mr : Sl → Ms (List Dv)) (Γ : Sl) : Ms (List Dv) := bnd (mr Γ) fun xs => match xs with
  | [.int i, .int j] => if (-1000000 ≤ i ∧ i ≤ 1000000) ∧ -1000000 ≤ j ∧ j ≤ 1000000 then ret (rangeD i (j - i).toNat) else fail
  | _ => fail
theorem sim_range1 (hr : SimA P W tr mr) : SimI P W (iRng1 tr) (mRange1 mr) := fun e A Γ σ H R hf m g h =>
  hr e A Γ σ H _ hf m g (h.bnd fun e1 H1 vs xs A1 g1 m1 rs h1 => by
    split at h1
    · rename_i j
      split at h1
      · rename_i l
        obtain ⟨v, rfl, r⟩ := rs.one
        cases r
        exact ⟨j, rfl, by omega, by omega, h1 e1 H1 _ (Gr.refl _ _) m1 goes_range⟩
      · exact h1.elim
    · exact h1.elim)
theorem sim_range2 (hr : SimA P W tr mr) : SimI P W (iRng2 tr) (mRange2 mr) := fun e A Γ σ H R hf m g h =>
  hr e A Γ σ H _ hf m g (h.bnd fun e1 H1 vs xs A1 g1 m1 rs h1 => by
    split at h1
    · rename_i i j
      split at h1
      · rename_i l
        obtain ⟨v, u, rfl, r1, r2⟩ := rs.two
        cases r1
        cases r2
        exact ⟨i, j, rfl, ⟨by omega, by omega, by omega, by omega⟩, h1 e1 H1 _ (Gr.refl _ _) m1 goes_range⟩
      · exact h1.elim
    · exact h1.elim)
/-- enumerate(x) -/
def mEnum (mr : Sl → Ms (List Dv)) (Γ : Sl) : Ms (List Dv) := bnd (mr Γ) fun xs => match xs with
  | [x] => match asI x with
    | some l => ret (enumD 0 l)
    | none => fail
  | _ => fail
theorem goes_pair {e : Ev} {H : Hp} {J : It} {l : List Dv} {xs : List V} {G : Hp → Prop} (hG : ∀ e' H', Gs e e' H H' → G H') (w : Walk J xs.length G (YPair (fun i => some (.int (i : Nat))) (fun i => xs[i]?))) (r : Rvs e H xs l) : Goes e H J (enumD 0 l) := by
  refine ⟨G, _, by rw [enumD_len, ← r.length]; exact w, hG, fun i e' H1 x H2 g hi y => ?_⟩
  obtain ⟨T, x1, x2, rfl, hT, rfl, e1, e2⟩ := y
  cases e1
  obtain ⟨d, h1, h2⟩ := r.at e2
  refine ⟨Same.new hT, .tup [.int (i : Nat), d], ?_, .tup (.of upd_same) (.cons (.int _) (.cons ((h2.upw g.toGw).up (Gr.same (Same.new hT))) .nil))⟩
  have := enumD_at 0 i l h1
  rwa [Nat.zero_add] at this
theorem sim_enum (hr : SimA P W tr mr) : SimI P W (fun σ H R => iEnum P.K tr σ H R ∨ iEnumT P.K tr σ H R) (mEnum mr) := fun e A Γ σ H R hf m g h => by
  unfold mEnum Mi.bnd at h
  have lst : ∀ x l A1, (∀ l', x ≠ .tup l') → asI x = some l → mr Γ A = some (.ok [x], A1) → Wp Goes (W σ) e H R (some (.ok (enumD 0 l), A1)) → iEnum P.K tr σ H R ∨ iEnumT P.K tr σ H R := fun x l A1 hq hi q h => by
    refine .inl (hr e A Γ σ H _ hf m g ?_)
    rw [q]
    intro e1 H1 vs g1 m1 rs
    obtain ⟨v, rfl, r⟩ := rs.one
    obtain ⟨a, xs, rfl, st, rs⟩ := stay_of r hi hq
    have hk1 := (hf.up g1).k
    have hs := st e1 H1 (Gs.refl _ _)
    rw [hk1] at hs st
    exact ⟨a, xs, rfl, hs, h e1 H1 _ g1 m1 (goes_pair st walk_enum rs)⟩
  match q : mr Γ A, h with
  | some (.ok [.tup l], A1), h =>
    refine .inr (hr e A Γ σ H _ hf m g ?_)
    rw [q]
    intro e1 H1 vs g1 m1 rs
    obtain ⟨v, rfl, r⟩ := rs.one
    cases r with
    | @tup a xs _ hs0 r =>
    have hs := hs0.sqt
    have hk1 := (hf.up g1).k
    have st : ∀ e' H', Gs e1 e' H1 H' → SqT P.K H' a xs := fun e' H' g' => by
      rw [← hk1, ← g'.k]
      exact g'.toGw.sqT hs
    rw [hk1] at hs
    exact ⟨a, xs, rfl, hs, h e1 H1 _ g1 m1 (goes_pair st walk_enumT r)⟩
  | some (.ok [.lst l], A1), h => exact lst (.lst l) l A1 (fun _ z => nomatch z) rfl q h
  | some (.ok [.scr l], A1), h => exact lst (.scr l) l A1 (fun _ z => nomatch z) rfl q h
  | some (.ok [.non], A1), h => exact h.elim
  | some (.ok [.bl _], A1), h => exact h.elim
  | some (.ok [.int _], A1), h => exact h.elim
  | some (.ok [.str _], A1), h => exact h.elim
  | some (.ok [.dic], A1), h => exact h.elim
  | some (.ok [.dik _], A1), h => exact h.elim
  | some (.ok [.loc _], A1), h => exact h.elim
  | some (.ok [.ty _], A1), h => exact h.elim
  | some (.ok [.cls _], A1), h => exact h.elim
  | some (.ok [.fn _], A1), h => exact h.elim
  | some (.ok [.rep _], A1), h => exact h.elim
  | some (.ok [.exc _ _ _], A1), h => exact h.elim
  | some (.ok [], A1), h => exact h.elim
  | some (.ok (_ :: _ :: _), A1), h => exact h.elim
  | some (.err c ns vs, A1), h => exact .inl (hr e A Γ σ H _ hf m g (by rw [q]; exact h))
/-! ### in -/
def rInU (K : PySem.W.Frag) : R2 := fun x y H Q => rInD K x y H Q ∨ ∃ d ds, Dp K H x d ∧ Dp K H y (.tuple ds) ∧ SeqAt.shaped d = true ∧ SeqAt.shaped (.tuple ds) = true ∧ Q (.bl (ds.any fun z => PyData.eqv z d)) H
def rNotInU (K : PySem.W.Frag) : R2 := fun x y H Q => rNotInD K x y H Q ∨ ∃ d ds, Dp K H x d ∧ Dp K H y (.tuple ds) ∧ SeqAt.shaped d = true ∧ SeqAt.shaped (.tuple ds) = true ∧ Q (.bl (!ds.any fun z => PyData.eqv z d)) H
theorem op_inU {X : Cx} (hu : X.A.units + 65 < cLine) : OpR X (compareOp .In) (rInU X.K) := by
  refine (op_inD hu).or ?_
  intro pins s σ H x y v u Q I rx ry h
  obtain ⟨d, ds, hd, he, sd, se, q⟩ := h
  obtain ⟨as, r1⟩ := Dp.reads I d x v hd rx
  obtain ⟨bs, r2⟩ := Dp.reads I (.tuple ds) y u he ry
  exact SeqAt.in_tuple_reads r2 r1 (SeqAt.canLay_of_shaped se) (SeqAt.canLay_of_shaped sd) (room_in_shaped sd hu) ⟨.bl _, H, I, rfl, q⟩
theorem op_notInU {X : Cx} (hu : X.A.units + 65 < cLine) : OpR X (compareOp .NotIn) (rNotInU X.K) := by
  refine (op_notInD hu).or ?_
  intro pins s σ H x y v u Q I rx ry h
  obtain ⟨d, ds, hd, he, sd, se, q⟩ := h
  obtain ⟨as, r1⟩ := Dp.reads I d x v hd rx
  obtain ⟨bs, r2⟩ := Dp.reads I (.tuple ds) y u he ry
  exact SeqAt.notIn_tuple_reads r2 r1 (SeqAt.canLay_of_shaped se) (SeqAt.canLay_of_shaped sd) (room_in_shaped sd hu) ⟨.bl _, H, I, rfl, q⟩
theorem any_pdvs {y : Dv} : ∀ {l : List Dv}, isDvs l = true → (l.any fun z => beqD z y || PyData.eqv (pdv z) (pdv y)) = (pdvs l).any fun z => PyData.eqv z (pdv y)
  | [], _ => rfl
  | z :: l, h => by
    have h' : (isDv z && isDvs l) = true := h
    rw [Bool.and_eq_true] at h'
    show ((beqD z y || PyData.eqv (pdv z) (pdv y)) || _) = (PyData.eqv (pdv z) (pdv y) || _)
    rw [beq_eqv h'.1, any_pdvs h'.2]
/-- x in y: the value, as data -/
theorem in_of {e : Ev} {A : Mem} {H : Hp} {v u : V} {x y : Dv} {z : Dv} (m : Rm e A H) (rx : Rv e H v x) (ry : Rv e H u y) (h : oIn A x y = some z) :
    ∃ d ds b, z = .bl b ∧ Dp e.K H v d ∧ (Dp e.K H u (.list ds) ∧ SeqAt.shaped (.list ds) = true ∨ Dp e.K H u (.tuple ds) ∧ SeqAt.shaped (.tuple ds) = true) ∧ SeqAt.shaped d = true ∧ (ds.any fun z => PyData.eqv z d) = b := by
  unfold oIn at h
  split at h
  · rename_i l hl
    split at h
    · rename_i c
      cases h
      simp only [Bool.and_eq_true, decide_eq_true_eq] at c
      obtain ⟨⟨⟨c1, c2⟩, c3⟩, c4⟩ := c
      refine ⟨_, pdvs l, _, rfl, now_dp m rx (isDv_dt _ c1), ?_, shaped_v c1 c3, (any_pdvs c2).symm⟩
      have dt : dtvs l = true := isDvs_dt _ c2
      have q : (∃ a xs, u = .ref a ∧ SqL e.K H a xs ∧ Rvs e H xs l) ∨ ∃ a xs, u = .ref a ∧ SqT e.K H a xs ∧ Rvs e H xs l := by
        obtain ⟨a, xs, rfl, hs, r⟩ := asS_of m ry hl
        rcases hs with hs | hs
        · exact .inl ⟨a, xs, rfl, hs, r⟩
        · exact .inr ⟨a, xs, rfl, hs, r⟩
      rcases q with ⟨a, xs, rfl, hs, r⟩ | ⟨a, xs, rfl, hs, r⟩
      · exact .inl ⟨.lst hs (Rvs.dp l xs r dt), shaped_v (d := .lst l) c2 (by show dpvs l + 1 ≤ 60; omega)⟩
      · exact .inr ⟨.tup hs (Rvs.dp l xs r dt), shaped_v (d := .tup l) c2 (by show dpvs l + 1 ≤ 60; omega)⟩
    · cases h
  · cases h
theorem ops_in : OpS P (rInU P.K) oIn := fun e A H v u x y z Q hk hc m rx ry h k => by
  obtain ⟨d, ds, b, rfl, h1, h2, h3, h4⟩ := in_of m rx ry h
  rw [hk] at h1 h2
  rcases h2 with ⟨h2, h5⟩ | ⟨h2, h5⟩
  · exact .inl ⟨d, ds, h1, h2, h3, h5, by rw [h4]; exact k _ _ (Same.refl _) (.bl _)⟩
  · exact .inr ⟨d, ds, h1, h2, h3, h5, by rw [h4]; exact k _ _ (Same.refl _) (.bl _)⟩
theorem ops_notIn : OpS P (rNotInU P.K) oNotIn := fun e A H v u x y z Q hk hc m rx ry h k => by
  unfold oNotIn at h
  split at h
  · rename_i b0 hb
    cases h
    obtain ⟨d, ds, b, eb, h1, h2, h3, h4⟩ := in_of m rx ry hb
    cases eb
    rw [hk] at h1 h2
    rcases h2 with ⟨h2, h5⟩ | ⟨h2, h5⟩
    · exact .inl ⟨d, ds, h1, h2, h3, h5, by rw [h4]; exact k _ _ (Same.refl _) (.bl _)⟩
    · exact .inr ⟨d, ds, h1, h2, h3, h5, by rw [h4]; exact k _ _ (Same.refl _) (.bl _)⟩
  · cases h
end
/-! ### a lambda that is handed to a def -/
/-- what the lambda does, at whatever heap -/
def Asks (e : Ev) (H : Hp) (tl : XK → Hp → VK → Prop) (ask : Ms Dv) : Prop := ∀ e' A' H' E' Q', Gs e e' H H' → Rm e' A' H' → Wp Rv E' e' H' Q' (ask A') → tl E' H' Q'
/-- what a def does that is handed a lambda -/
def TTm (P : Pr) (gh : Ms Dv → Ms Dv) : (XK → Hp → VK → Prop) → Hp → VK → Prop := fun tl H Q => ∃ e A ask, Fx P.base e H ∧ Rm e A H ∧ Asks e H tl ask ∧ Wp Rv EN e H Q (gh ask A)
def mLam (gh : Ms Dv → Ms Dv) (me : Sl → Ms Dv) (Γ : Sl) : Ms Dv := Mi.calm (gh (me Γ))
section
variable {P : Pr} {W : L2.St → XK}
/-- tables may have grown -/
theorem gr_ext {e : Ev} {A : Mem} {H H' : Hp} (x : LamX.ExtN H H') (t : LamX.Tabs e.ct.2 H') (m : Rm e A H) : Gr e e H H' ∧ Rm e A H' := by
  have live : ∀ b, ¬ Nil H b → ¬ Nil H' b := fun b h n => h fun o q => Classical.byContradiction fun z => (z (n o (x b o q fun ps e => z ⟨ps, e⟩)))
  have g : Gr e e H H' := ⟨⟨⟨rfl, rfl, rfl, fun _ h => .inl h, ⟨[], by simp, by simp⟩, fun b o _ h nt => x b o h nt, fun b xs h => x b _ h nofun, fun b o u h => x b _ h nofun, live⟩, fun b o _ h nt => x b o h nt⟩, rfl⟩
  refine ⟨g, m.len, m.nodup, fun n a o h1 h2 => ?_, fun b h => ⟨live b (m.hid b h).1, (m.hid b h).2⟩, t⟩
  have q := m.obj n a o h1 h2
  cases o with
  | lst l =>
    obtain ⟨xs, q1, q2⟩ := q
    exact ⟨xs, x _ _ q1 nofun, q2.up g⟩
  | del =>
    obtain ⟨u, q1⟩ := q
    exact ⟨u, x _ _ q1 nofun⟩
/-- f(lambda: e) -/
theorem sim_lam {T : List (Addr × Str)} {gh : Ms Dv → Ms Dv} {t : XK → TE} {me : Sl → Ms Dv} (hT : P.ct.2 = T) (hb : ∀ E : XK, Sim P (fun _ => E) (t E) me) : Sim P W (LamX.tLam T (TTm P gh) t) (mLam gh me) := fun e A Γ σ H Q hf m g h => by
  have et : e.ct.2 = T := by rw [hf.c]; exact hT
  refine ⟨by rw [← et]; exact m.tab, fun H1 x t1 => ?_⟩
  obtain ⟨g1, m1⟩ := gr_ext x (by rw [et]; exact t1) m
  refine ⟨e, A, me Γ, (hf.up g1).base, m1, fun e' A' H' E' Q' g' m' w => ?_, Wp.calm (Wp.later h g1)⟩
  exact hb E' e' A' Γ σ H' Q' ((hf.up g1).ups g') m' ((g.up g1).upw g'.toGw) w
/-- within the def that is handed the lambda f: where it stands -/
def Pr.within (P : Pr) (e0 : Ev) (H0 : Hp) : Pr := { K := P.K, ct := P.ct, sub := P.sub, fld := P.fld, C := fun e H => Gs e0 e H0 H, st := fun _ _ _ _ h g => h.trans g }
/-- ask() -/
def mAskV (f : Addr) (ask : Ms Dv) (Γ : Sl) : Ms Dv := match Γ[(0 : Nat)]? with
  | some (some (.fn f')) => if f' = f then ask else fail
  | _ => fail
theorem sim_ask {e0 : Ev} {A0 : Mem} {H0 : Hp} {f c' : Addr} {q : Str} {tl : XK → Hp → VK → Prop} {ask : Ms Dv} {E : L2.St → XK} (m0 : Rm e0 A0 H0) (hc : H0 c' = some (LamX.CodeO c' q)) (as : Asks e0 H0 tl ask) :
    Sim (P.within e0 H0) E (fun σZ HZ Q => σZ[0]? = some (some (.ref f)) ∧ HZ c' = some (LamX.CodeO c' q) ∧ tl (E σZ) HZ Q) (mAskV f ask) := fun e A Γ σ H Q hf m g h => by
  unfold mAskV at h
  match z : Γ[(0 : Nat)]?, h with
  | some (some (.fn f')), h =>
    by_cases ef : f' = f
    · subst ef
      simp only [if_true] at h
      obtain ⟨v, h1, h2⟩ := g.2 0 _ z
      cases h2
      have gs : Gs e0 e H0 H := hf.x
      refine ⟨h1, gs.all c' _ (fun z => ?_) hc (fun ps z => by unfold LamX.CodeO at z; cases z), as e A H _ Q gs m h⟩
      obtain ⟨n, hn⟩ := List.getElem?_of_mem z
      obtain ⟨o, _, q⟩ := m0.at hn
      cases o with
      | lst l =>
        obtain ⟨xs, q, _⟩ := q
        rw [hc] at q
        unfold LamX.CodeO at q
        cases q
      | del =>
        obtain ⟨xs, q⟩ := q
        rw [hc] at q
        unfold LamX.CodeO at q
        cases q
    · simp only [if_neg ef] at h
      exact h.elim
/-- the def that is handed the lambda: its first slot -/
def fnL (k : Nat) (f : Addr) (ms : Sl → Ms Fl) : Ms Dv := bnd (ms (some (.fn f) :: List.replicate k none)) outF
end
end Mi

namespace Mi
open PySem PySem.Spec PyProof.Rows L2 Ty
section
variable {P : Pr} {W : L2.St → XK} {E : XK} {ta tb tc : TE} {tr tk : TA} {ma mb mc : Sl → Ms Dv} {mr mk : Sl → Ms (List Dv)}
/-- no test -/
def mYes (_ : Sl) : Ms Bool := ret true
theorem sim_yes : SimT P W tYes mYes := fun e A Γ σ H Q hf m g h => h e H true (Gr.refl _ _) m rfl
/-- bits -/
def oBit (_ : Mem) (x y : Dv) : Option Dv := match x, y with
  | .int i, .int j => some (.int (Builtin.bitAnd i j))
  | _, _ => none
theorem ops_bit : OpS P (rI0 fun i j => .int (Builtin.bitAnd i j)) oBit := fun e A H v u x y z Q hk hc m rx ry h k => by
  unfold oBit at h
  split at h
  · cases h
    cases rx
    cases ry
    exact ⟨_, _, rfl, rfl, k _ _ (Same.refl _) (.int _)⟩
  · cases h
/-- a < b < c -/
def mChain (o o' : Mem → Dv → Dv → Option Dv) (ma mb mc : Sl → Ms Dv) (Γ : Sl) : Ms Dv := bnd (ma Γ) fun x => bnd (mb Γ) fun y A => match o A x y with
  | some (.bl true) => bnd (mc Γ) (fun z A' => ofO (o' A' y z) A') A
  | some (.bl false) => some (.ok (.bl false), A)
  | _ => none
theorem sim_chain {r r' : R2} {o o' : Mem → Dv → Dv → Option Dv} (ho : OpS P r o) (ho' : OpS P r' o') (ha : Sim P W ta ma) (hb : Sim P W tb mb) (hc : Sim P W tc mc) : Sim P W (tChain r r' ta tb tc) (mChain o o' ma mb mc) := fun e A Γ σ H Q hf m g h =>
  ha e A Γ σ H _ hf m g (h.bnd fun e1 H1 v x A1 g1 m1 rx h1 => hb e1 A1 Γ σ H1 _ (hf.up g1) m1 (g.up g1) (h1.bnd fun e2 H2 u y A2 g2 m2 ry h2 => by
    have hf2 := (hf.up g1).up g2
    match q : o A2 x y, h2 with
    | some (.bl true), h2 =>
      refine ho e2 A2 H2 v u x y _ _ hf2.k hf2.c m2 (rx.up g2) ry q fun H3 w s rw => ?_
      cases rw
      refine ⟨true, rfl, ?_⟩
      rw [if_pos rfl]
      have g3 := Gr.same (e := e2) s
      exact hc e2 A2 Γ σ H3 _ (hf2.up g3) (m2.same s) ((g.up g1).up g2 |>.up g3) ((Wp.later h2 g3).bnd fun e4 H4 w z A4 g4 m4 rz h4 => by
        obtain ⟨d, hz, k⟩ := wp_ofO h4 m4
        exact ho' e4 A4 H4 u w y z d Q ((hf2.up g3).up g4).k ((hf2.up g3).up g4).c m4 ((ry.up g3).up g4) rz hz k)
    | some (.bl false), h2 =>
      refine ho e2 A2 H2 v u x y _ _ hf2.k hf2.c m2 (rx.up g2) ry q fun H3 w s rw => ?_
      cases rw
      refine ⟨false, rfl, ?_⟩
      rw [if_neg nofun]
      exact h2 e2 H3 _ (Gr.same s) (m2.same s) (.bl false)
    | none, h2 => exact h2.elim
    | some .non, h2 => exact h2.elim
    | some (.int _), h2 => exact h2.elim
    | some (.str _), h2 => exact h2.elim
    | some (.tup _), h2 => exact h2.elim
    | some (.lst _), h2 => exact h2.elim
    | some .dic, h2 => exact h2.elim
    | some (.dik _), h2 => exact h2.elim
    | some (.loc _), h2 => exact h2.elim
    | some (.scr _), h2 => exact h2.elim
    | some (.ty _), h2 => exact h2.elim
    | some (.cls _), h2 => exact h2.elim
    | some (.fn _), h2 => exact h2.elim
    | some (.exc _ _ _), h2 => exact h2.elim
    | some (.rep _), h2 => exact h2.elim))
/-! ### zip of two tuples -/
def zipD : List Dv → List Dv → List Dv
  | x :: l, y :: r => .tup [x, y] :: zipD l r
  | _, _ => []
theorem zipD_at : ∀ (l r : List Dv) (j : Nat) {x y : Dv}, l[j]? = some x → r[j]? = some y → (zipD l r)[j]? = some (.tup [x, y])
  | [], _, _, _, _, h, _ => by simp at h
  | _ :: _, [], _, _, _, _, k => by simp at k
  | x :: l, y :: r, 0, _, _, h, k => by
    simp at h k
    subst h
    subst k
    rfl
  | x :: l, y :: r, j + 1, _, _, h, k => by
    show (zipD l r)[j]? = _
    exact zipD_at l r j h k
theorem zipD_len : ∀ (l r : List Dv), (zipD l r).length = min l.length r.length
  | [], r => by cases r <;> simp [zipD]
  | x :: l, [] => by simp [zipD]
  | x :: l, y :: r => by
    show (zipD l r).length + 1 = _
    rw [zipD_len l r]
    simp only [List.length_cons]
    omega
theorem walk_zipT {K : PySem.W.Frag} {a b : Addr} {xs ys : List V} (hn : xs.length = ys.length) : Walk (RZ.ItzT K a b) xs.length (fun H => SqT K H a xs ∧ SqT K H b ys) (YPair (fun i => xs[i]?) (fun i => ys[i]?)) := by
  refine ⟨fun i _ hi q => ⟨xs, ys, xs[i], ys[i], q.1, q.2, by simp [hi], by simp [hn ▸ hi]⟩, fun _ q => ⟨xs, ys, q.1, q.2, by omega⟩, fun i H v H' _ q y => ?_⟩
  obtain ⟨T, x, z, h1, h2, h3, h4, h5⟩ := y
  exact ⟨T, x, z, h1, h2, h3, h4 xs q.1, h5 ys q.2⟩
def mZip (mr : Sl → Ms (List Dv)) (Γ : Sl) : Ms (List Dv) := bnd (mr Γ) fun l => match l with
  | [.tup xs, .tup ys] => if xs.length = ys.length then ret (zipD xs ys) else fail
  | _ => fail
theorem sim_zip (hr : SimA P W tr mr) : SimI P W (RZ.iZipA P.K tr) (mZip mr) := fun e A Γ σ H R hf m g h =>
  hr e A Γ σ H _ hf m g (h.bnd fun e1 H1 vs l A1 g1 m1 rs h1 => by
    split at h1
    · rename_i ds es
      by_cases hl : ds.length = es.length
      · rw [if_pos hl] at h1
        obtain ⟨v, u, rfl, r1, r2⟩ := rs.two
        cases r1 with
        | @tup a xs _ hs r1 =>
        cases r2 with
        | @tup b ys _ ht r2 =>
        have hk1 := (hf.up g1).k
        have st : ∀ {c : Addr} {zs : List V}, SqK e1.K H1 c zs → ∀ e' H', Gs e1 e' H1 H' → SqT P.K H' c zs := fun hs e' H' g' => by
          rw [← hk1, ← g'.k]
          exact g'.toGw.sqT hs.sqt
        have hl2 : xs.length = ys.length := by rw [r1.length, r2.length, hl]
        refine ⟨a, b, xs, ys, rfl, .inr ⟨st hs _ _ (Gs.refl _ _), st ht _ _ (Gs.refl _ _), h1 e1 H1 _ (Gr.refl _ _) m1 ⟨fun H' => SqT P.K H' a xs ∧ SqT P.K H' b ys, YPair (fun i => xs[i]?) (fun i => ys[i]?), ?_, fun e' H' g' => ⟨st hs _ _ g', st ht _ _ g'⟩, fun i e' H2 x H3 g' hi y => ?_⟩⟩⟩
        · have q := walk_zipT (K := P.K) (a := a) (b := b) hl2
          rw [zipD_len, ← hl, Nat.min_self, ← r1.length]
          exact q
        · obtain ⟨T, x1, x2, rfl, hT, rfl, e1, e2⟩ := y
          obtain ⟨d1, k1, q1⟩ := r1.at e1
          obtain ⟨d2, k2, q2⟩ := r2.at e2
          have s := Same.new (o := .tup [x1, x2]) hT
          exact ⟨s, .tup [d1, d2], zipD_at _ _ _ k1 k2, .tup (.of upd_same) (.cons ((q1.upw g'.toGw).up (Gr.same s)) (.cons ((q2.upw g'.toGw).up (Gr.same s)) .nil))⟩
      · rw [if_neg hl] at h1
        exact h1.elim
    · exact h1.elim)
end
/-! ### sorted of whole numbers: a list or a tuple -/
section
variable {prog : Program} {w : World} {A : Around} {E : Value → Shared → Prop} {s : Shared}
/-- what is walked is laid into a new list -/
theorem collect_tup {it : Addr} {o : Obj} {items : Array Value} {n : Nat} {Q : List Value → Shared → Prop} (ho : s.heap.get? it = some o) (hc : o.cls = .type "tuple") (hd : o.data = .seq items n) (hz : items.size ≤ sizeLine)
    (h : ∀ h' : Heap, s.heap.objs.size ≤ h'.objs.size → (∀ b u, s.heap.get? b = some u → h'.get? b = some u) → Q items.toList { s with heap := h' }) : wpAny (model prog w) A (collect (.ref it)) Q E s := by
  let g : Heap := s.heap.push { cls := .type "list", data := .seq ([] : List Value).toArray }
  let g' : Heap := g.update s.heap.objs.size (Obj.mapSeq (· ++ items))
  have at0 : g.get? s.heap.objs.size = some { cls := .type "list", data := .seq #[] 0 } := Heap.get?_push_size _ rfl
  have at1 := Heap.get?_update_self (Obj.mapSeq (· ++ items)) at0 rfl
  have kept : ∀ b u, s.heap.get? b = some u → g'.get? b = some u := fun b u hb => (Heap.get?_update_other _ _ (Nat.ne_of_gt (Heap.lt_size hb))).trans (Heap.get?_push_of_some _ hb)
  have more : s.heap.objs.size ≤ g'.objs.size := by
    show _ ≤ (g.update _ _).objs.size
    rw [Heap.size_update]
    show _ ≤ (s.heap.push _).objs.size
    rw [size_push']
    exact Nat.le_succ _
  have told : wpAny (model prog w) A (match Value.ref s.heap.objs.size with
      | Value.ref a => do
        match (← load a).data with
          | Data.seq xs _ => pure xs.toList
          | _ => unsupported "internal:collect"
      | _ => unsupported "internal:collect") Q E { s with heap := g' } := by
    refine wpAny_bind (m := load s.heap.objs.size) (wpAny_load at1 (wpAny_pure ?_))
    have e : ((#[] : Array Value) ++ items).toList = items.toList := by simp
    show Q ((#[] : Array Value) ++ items).toList _
    rw [e]
    exact h g' more kept
  unfold collect
  refine wpAny_bind (wpAny_runValue (codeAny_builtin F.entry_proto_collect ?_))
  rw [Around.under_plainId F.plain_proto_collect _]
  refine wpAny_bind (m := newList []) (wpAny_newObj_type (wpAny_pure ⟨plainId_quiet F.plain_list_iadd _, codeAny_builtin F.entry_list_iadd ?_⟩))
  rw [Around.under_plainId F.plain_list_iadd _]
  refine wpAny_mono (wpAny_extend_seq (hsz := hz) (A := A) (s := { s with heap := g }) (R := fun r s' => r = .ok (.ret (.ref s.heap.objs.size)) ∧ s' = { s with heap := g' }) _ it _ 0 (.inr rfl) at0 (Heap.get?_push_of_some _ ho) hc hd ⟨rfl, rfl⟩) (fun fin s' hf => ?_) (fun _ _ z => absurd z.1 nofun)
  cases fin with
  | done f =>
    obtain ⟨e1, rfl⟩ := hf
    cases e1
    exact told
  | again c =>
    refine ⟨hf.1, codeAny_mono hf.2 fun r s2 hr => ?_⟩
    obtain ⟨rfl, rfl⟩ := hr
    exact told
/-- sorted of a tuple of ints: a new list, all else kept -/
theorem sorted_tup {l : Addr} {o : Obj} {items : Array Value} {n : Nat} {ns : List Int} {Q : Value → Shared → Prop} (ho : s.heap.get? l = some o) (hc : o.cls = .type "tuple") (hd : o.data = .seq items n) (hz : items.size ≤ sizeLine) (hI : IntsAre items.toList ns)
    (h : ∀ (h' : Heap) (p : Addr) (out : List Value) (ns' : List Int) (k : Nat), (∀ b u, s.heap.get? b = some u → h'.get? b = some u) → s.heap.objs.size ≤ p → h'.get? p = some (seqObj "list" out.toArray k) → IntsAre out ns' → ns'.Perm ns → ns'.Pairwise (· ≤ ·) → Q (.ref p) { s with heap := h' }) :
    wpAny (model prog w) A (call (.builtin "sorted") [.ref l]) Q E s := by
  refine Calls.call_function_entry kind_sorted plain_sorted entry_sorted (args_sorted1 _) ?_
  unfold Builtin.«sorted»
  refine wpAny_bind (m := checkCount "sorted" 1 1 _) (wpAny_pure ?_)
  refine wpAny_bind (collect_tup ho hc hd hz fun h1 big k1 => ?_)
  refine wpAny_bind (wpAny_newList ?_ (by rw [Array.length_toList]; exact hz))
  have at_ : ({ s with heap := h1.push { cls := .type "list", data := .seq items.toList.toArray } } : Shared).heap.get? h1.objs.size = some (seqObj "list" items.toList.toArray 0) := Heap.get?_push_size _ rfl
  refine wpAny_bind (wpAny_holding (wpAny_call_entry slot_list_sort ⟨_, at_, rfl⟩ entry_list_sort (list_sort_treeAny at_ hI (by rw [Array.length_toList]; exact hz) fun out ns' a1 a2 a3 => ⟨_, rfl, ?_⟩) (args_list_sort _)))
  obtain ⟨k, hk⟩ := sortedHeap_at (out := out) at_
  refine wpAny_pure ⟨_, rfl, h _ h1.objs.size out.toList ns' k (fun b u e => ?_) big hk a1 a2 a3⟩
  have e1 := k1 b u e
  have e2 := Heap.lt_size e1
  rw [sortedHeap_old (Nat.ne_of_lt e2) (by show b < (h1.push _).objs.size; rw [size_push']; exact Nat.lt_succ_of_lt e2)]
  exact Heap.get?_push_of_some _ e1
end
def rSortedU (K : PySem.W.Frag) : List V → Hp → VK → Prop := fun xs H Q => ∃ (a : Addr) (ns : List Int), xs = [V.ref a] ∧ (SqL K H a (ns.map V.int) ∨ SqT K H a (ns.map V.int)) ∧ ∀ (ns' : List Int) (p : Addr), ns'.Perm ns → ns'.Pairwise (· ≤ ·) → H p = none → Q (.ref p) (upd H p (.lst (ns'.map V.int)))
theorem call_sortedU {X : Cx} : CallR X (.builtin "sorted") (rSortedU X.K) := by
  intro pins s σ H vs us Q I r h
  obtain ⟨a, ns, rfl, hs, q⟩ := h
  rcases hs with hs | hs
  · exact cr_sortedI pins s σ H _ us Q I r ⟨a, ns, rfl, hs, q⟩
  · obtain ⟨its, rv, pl, hz⟩ := I.tuple hs
    rw [Vals.ref1 r]
    obtain ⟨o, ho, hc, n, hd⟩ := pl
    have hi := rv.ints
    have hz2 : its.toArray.size ≤ sizeLine := by rw [List.size_toArray, ← rv.length]; exact hz
    refine sorted_tup ho hc hd hz2 hi fun h' p out ns' k kp big hk h1 h2 h3 => ?_
    have hlen : (ns'.map V.int).length ≤ sizeLine := by
      rw [List.length_map, h2.length_eq]
      rw [List.length_map] at hz
      exact hz
    exact ⟨.ref p, _, I.laid (t' := s.toks) kp big (show ObjOk X.prog X.w _ h' _ (.lst (ns'.map V.int)) from ⟨hlen, out, k, vals_of_ints h1, hk⟩), rfl, q _ _ h2 h3 (I.hok.fresh big)⟩
def insZ (x : Int) : List Int → List Int
  | [] => [x]
  | y :: l => if x ≤ y then x :: y :: l else y :: insZ x l
def sortZ : List Int → List Int
  | [] => []
  | x :: l => insZ x (sortZ l)
theorem insZ_perm (x : Int) : ∀ l, (insZ x l).Perm (x :: l)
  | [] => .refl _
  | y :: l => by
    unfold insZ
    split
    · exact .refl _
    · exact ((insZ_perm x l).cons y).trans (.swap _ _ _)
theorem sortZ_perm : ∀ l, (sortZ l).Perm l
  | [] => .refl _
  | x :: l => (insZ_perm x _).trans ((sortZ_perm l).cons x)
theorem insZ_up (x : Int) : ∀ l, l.Pairwise (· ≤ ·) → (insZ x l).Pairwise (· ≤ ·)
  | [], _ => by simp [insZ]
  | y :: l, h => by
    unfold insZ
    rw [List.pairwise_cons] at h
    split
    · rename_i c
      rw [List.pairwise_cons, List.pairwise_cons]
      exact ⟨fun z hz => by
        rcases List.mem_cons.mp hz with rfl | hz
        · exact c
        · exact Int.le_trans c (h.1 z hz), h⟩
    · rename_i c
      rw [List.pairwise_cons]
      exact ⟨fun z hz => by
        rcases List.mem_cons.mp ((insZ_perm x l).subset hz) with rfl | hz
        · omega
        · exact h.1 z hz, insZ_up x l h.2⟩
theorem sortZ_up : ∀ l, (sortZ l).Pairwise (· ≤ ·)
  | [] => .nil
  | x :: l => insZ_up x _ (sortZ_up l)
theorem sortZ_eq {a b : List Int} (h : a.Perm b) (u : a.Pairwise (· ≤ ·)) : a = sortZ b :=
  List.Perm.eq_of_pairwise (fun _ _ _ _ h1 h2 => Int.le_antisymm h1 h2) u (sortZ_up b) (h.trans (sortZ_perm b).symm)
def intsD : List Dv → Option (List Int)
  | [] => some []
  | .int i :: l => (intsD l).map (i :: ·)
  | _ => none
theorem intsD_of {e : Ev} {H : Hp} : ∀ {l : List Dv} {xs : List V} {is : List Int}, Rvs e H xs l → intsD l = some is → xs = is.map V.int
  | [], _, _, r, h => by
    cases h
    cases r
    rfl
  | d :: l, _, _, r, h => by
    cases r with
    | cons r rs =>
    cases d with
    | int i =>
      unfold intsD at h
      cases q : intsD l with
      | none => rw [q] at h; cases h
      | some js =>
        rw [q] at h
        cases h
        cases r
        rw [intsD_of rs q]
        rfl
    | _ => cases h
theorem rvs_ints {e : Ev} {H : Hp} : ∀ is : List Int, Rvs e H (is.map V.int) (is.map Dv.int)
  | [] => .nil
  | i :: is => .cons (.int i) (rvs_ints is)
def oSorted (A : Mem) (xs : List Dv) : Option Dv := match xs with
  | [x] => (asS A x).bind fun l => (intsD l).map fun is => .lst ((sortZ is).map .int)
  | _ => none
theorem cbs_sorted {P : Pr} : CbS P (rSortedU P.K) oSorted := fun e A H vs xs z Q hk hc m rs h k => by
  unfold oSorted at h
  split at h
  · rename_i x
    obtain ⟨v, rfl, r⟩ := rs.one
    cases q : asS A x with
    | none => rw [q] at h; cases h
    | some l =>
      rw [q] at h
      have h : (intsD l).map (fun is => Dv.lst ((sortZ is).map .int)) = some z := h
      cases q2 : intsD l with
      | none => rw [q2] at h; cases h
      | some is =>
        rw [q2] at h
        cases h
        obtain ⟨a, ys, rfl, hs, r2⟩ := asS_of m r q
        rw [hk] at hs
        have e1 := intsD_of r2 q2
        subst e1
        refine ⟨a, is, rfl, hs, fun ns' p h1 h2 h3 => ?_⟩
        rw [sortZ_eq h1 h2]
        exact k _ _ (Same.new h3) (.lst upd_same (m.new h3) (rvs_ints _))
  · cases h
/-! ### a dict of whole numbers, written -/
abbrev ik (l : List (Int × Int)) : List (Key × V) := l.map fun p => (Sum.inl p.1, V.int p.2)
abbrev ikT (l : List (Int × Int)) : List (TE × TE) := l.map fun p => (tC (.int p.1), tC (.int p.2))
theorem tPairs_ik {σ : L2.St} {H : Hp} : ∀ (l : List (Int × Int)) (Q : List (V × V) → Hp → Prop), Q (l.map fun p => (V.int p.1, V.int p.2)) H → tPairs (ikT l) σ H Q
  | [], Q, h => h
  | p :: l, Q, h => tPairs_ik l (fun ps H3 => Q ((.int p.1, .int p.2) :: ps) H3) h
theorem sim_dik {P : Pr} {W : L2.St → XK} {l : List (Int × Int)} (h15 : l.length ≤ 15) (hm : mergeK [] (ik l) = ik l) : Sim P W (tDisp (ikT l)) (mC (.dik l)) := fun e A Γ σ H Q hf m g h p hp => by
  refine tPairs_ik l _ ⟨upd_same, ik l, ?_, by rw [List.length_map]; exact h15, ?_⟩
  · rw [List.map_map]
    rfl
  · rw [hm]
    have s : Same H (upd (upd H p (.dK [])) p (.dK (ik l))) := fun b o ho => by
      have hb : b ≠ p := fun z => by rw [z, hp] at ho; cases ho
      rw [upd_ne hb, upd_ne hb]
      exact ho
    exact h e _ _ (Gr.same s) (m.same s) (.dik upd_same (m.new hp))
/-- its text -/
def smallik (l : List (Int × Int)) : Bool := (pdv (.dik l)).showable && decide ((pdv (.dik l)).shown.length ≤ sizeLine)
def rRepV (K : PySem.W.Frag) : List V → Hp → VK → Prop := fun xs H Q => rRepU K xs H Q ∨ ∃ a l, xs = [.ref a] ∧ H a = some (.dK (ik l)) ∧ smallik l = true ∧ Q (.str (pdv (.dik l)).shown) H
theorem readsAll_ints {h : Heap} : ∀ {us : List Value} {is : List Int}, IntsAre us is → ReadsAll h us (is.map PyData.int) []
  | _, _, .nil => .nil
  | _, _, .cons n t r => .cons (as := []) (.int n t) (readsAll_ints r)
theorem ik_entries {P : Program} {w : World} : ∀ {l : List (Int × Int)} {vs : List (Key × Value)} {es : List DictEntry}, KV (ik l) vs → Pairs (mixKind P w) es vs → IntsAre (es.map (·.key)) (l.map (·.1)) ∧ IntsAre (es.map (·.val)) (l.map (·.2))
  | [], _, _, r, q => by
    cases r
    cases q
    exact ⟨.nil, .nil⟩
  | p :: l, _, _, r, q => by
    cases r with
    | cons r0 r =>
    cases q with
    | cons q1 q2 q =>
    obtain ⟨i1, i2⟩ := ik_entries r q
    obtain ⟨e1, e2⟩ := r0
    rw [← e1] at q1
    have q1 : keyIs (Sum.inl p.1) _ = true := q1
    rw [← q2] at e2
    obtain ⟨t2, e2⟩ := e2
    rcases keyIs_shape q1 with ⟨i, t, e3, e4⟩ | ⟨x, t, e3, e4⟩
    · cases e3
      constructor
      · rw [List.map_cons, List.map_cons, e4]
        exact .cons _ _ i1
      · rw [List.map_cons, List.map_cons, e2]
        exact .cons _ _ i2
    · cases e3
theorem call_repV {X : Cx} (hu : X.A.units + 64 < cLine) (hg : X.A.guards = some []) : CallR X (.builtin "repr") (rRepV X.K) := by
  refine fun pins s σ H xs us Q I r h => ?_
  rcases h with h | ⟨a, l, rfl, ha, sm, q⟩
  · exact call_repU hu hg pins s σ H xs us Q I r h
  · rw [Vals.ref1 r]
    unfold smallik at sm
    rw [Bool.and_eq_true, decide_eq_true_eq] at sm
    obtain ⟨hz, hn, vs, kv, o, es, ep, ho, hx, hd, _, pr, _⟩ := I.hok a _ ha
    obtain ⟨i1, i2⟩ := ik_entries kv pr
    have e1 : ∀ l : List (Int × Int), (l.map fun p => (PyData.int p.1, PyData.int p.2)).map (·.1) = (l.map (·.1)).map PyData.int := fun l => by rw [List.map_map, List.map_map]; rfl
    have e2 : ∀ l : List (Int × Int), (l.map fun p => (PyData.int p.1, PyData.int p.2)).map (·.2) = (l.map (·.2)).map PyData.int := fun l => by rw [List.map_map, List.map_map]; rfl
    have rd : Reads s.heap (.ref a) (pdv (.dik l)) (a :: [] ++ []) := .dict ho hx.1 hd (by rw [e1]; exact readsAll_ints i1) (by rw [e2]; exact readsAll_ints i2)
    refine repr_of_reads' rd sm.1 (fun _ z => ?_) hg (by rw [dpv_eq]; show X.A.units + 2 < cLine; omega) (fun _ _ e => e) (fun h' u tk hk => ⟨.str (pdv (.dik l)).shown, H, I.kept hk, ⟨u, rfl⟩, q⟩) sm.2
    have z : sysModules ∈ [a] := z
    rw [List.mem_singleton] at z
    rw [← z] at hn
    simp at hn
def oReprV (A : Mem) (xs : List Dv) : Option Dv := match xs with
  | [.dik l] => if smallik l = true then some (.rep (.dik l)) else none
  | _ => oRepr A xs
theorem cbs_reprV {P : Pr} : CbS P (rRepV P.K) oReprV := fun e A H vs xs z Q hk hc m rs h k => by
  unfold oReprV at h
  split at h
  · rename_i l
    split at h
    · rename_i sm
      cases h
      obtain ⟨v, rfl, r⟩ := rs.one
      cases r with
      | dik q _ => exact .inr ⟨_, l, rfl, q, sm, k _ _ (Same.refl _) (.rep _)⟩
    · cases h
  · exact .inl (cbs_repr e A H vs xs z Q hk hc m rs h k)
end Mi

namespace Mi
open PySem PySem.Spec PyProof.Rows L2 Ty
section
variable {P : Pr} {W : L2.St → XK} {E : XK} {ta tb tc : TE} {tr tk : TA} {ma mb mc : Sl → Ms Dv} {mr mk : Sl → Ms (List Dv)}
theorem sim_ty {n : String} : Sim P W (tC (.ty n)) (mC (.ty n)) := sim_c fun _ _ _ _ => .ty n
/-- a class -/
theorem sim_cls {a : Addr} (c : Nat) (h : P.ct.1 c = a) : Sim P W (tC (.ref a)) (mC (.cls c)) := sim_c fun e H _ hc => by
  rw [← h, ← hc]
  exact .cls c
/-- a def that may raise, called where nothing may be raised -/
def mCallL (n : Nat) (g : List Dv → Ms Dv) (mr : Sl → Ms (List Dv)) (Γ : Sl) : Ms Dv := bnd (mr Γ) fun xs => if xs.length = n then calm (g xs) else fail
theorem sim_callL {n : Nat} {g : List Dv → Ms Dv} {E : XK} (hr : SimA P W tr mr) : Sim P W (tCall (spM P n g) [] E tr) (mCallL n g mr) := fun e A Γ σ H Q hf m gg h =>
  hr e A Γ σ H _ hf m gg (h.bnd fun e1 H1 vs xs A1 g1 m1 rs h1 => by
    by_cases hl : xs.length = n
    · rw [if_pos hl] at h1
      rw [List.append_nil]
      exact ⟨e1, A1, xs, (hf.up g1).base, m1, rs, hl, Wp.calm h1⟩
    · rw [if_neg hl] at h1
      exact h1.elim)
/-- what the top has written: tuples of whole numbers -/
structure KTd (K : PySem.W.Frag) (a : Addr) (l : List Dv) : Prop where
  h : ∀ e H, e.K = K → Rv e H (.ref a) (.tup l)
theorem sim_ktd {K : PySem.W.Frag} {a : Addr} {l : List Dv} (h : KTd K a l) (hk : P.K = K) : Sim P W (tC (.ref a)) (mC (.tup l)) := sim_c fun e H h1 _ => h.h e H (h1.trans hk)
end
/-! ### x(lambda: body), the def told by its facts -/
section
variable {X : Cx}
theorem pe_lamF {T : List (Addr × Str)} {TT : (XK → Hp → VK → Prop) → Hp → VK → Prop} {x a : Str} {g c P : Addr} {k : Nat} {st : Stmt} {fd : FuncData} {Ng : List Str}
    {params : Arguments} {body : Expr} {scope : Scope} {t : XK → TE} {p lpos pos : Pos} (F : Fun X.K x x st g fd) (hg : Gl X x) (hm : X.mg x = some (.ref g))
    (hb : L2.Binds X.K fd [a] []) (Sg : FnScope Ng [a] (defScope st)) (hNg : Ng[0]? = some a) (hva : Vis (defScope st) a)
    (hG : ∀ cdv : Value, LamX.GivesTo X Ng x (defScope st) g cdv (defBody st) a (X.env.qual ++ "<lambda>") TT)
    (TB : LamX.TabB X.base X.mg c P) (hcode : X.env.code = .ref c) (hmT : (P, X.env.qual ++ "<lambda>") ∈ T) (hu : ∀ p ∈ T, p.1 = P → p.2 = X.env.qual ++ "<lambda>") (hr : Room (k + 2) X.A) (L : LamX.LamS X.env.scope scope) (hdef : defaultsOf params X.env = ([], []))
    (hbind : ∀ (q : Str) (cl : List (Str × Addr)) (pm cv ctv : Value), bindArgs (PySem.W.kla_fn "<lambda>" q params body scope cl pm cv ctv) ⟨[], []⟩ = pure [])
    (hbody : ∀ (A : Around) (outer : List Env) (s : Shared) (H : Hp) (E : XK) (f c' : Addr), Room k (A.deeper (LamX.lamEnv X scope s.heap.objs.size f c')) → PE (LamX.lamCx X A outer s H E scope f c') body (t E))
    (hdb : (x == ("__debug__" : Str)) = false := by decide) (hd : (a == ("__debug__" : Str)) = false := by decide) (hcd : (a == ("__classdict__" : Str)) = false := by decide) :
    PE X (.Call (.Name x p) [.Lambda params body scope lpos] [] pos) (LamX.tLam T TT t) := by
  obtain ⟨⟨oc, od, kV, doc, pm, rest⟩, kp⟩ := F
  obtain ⟨an, cdv, ct, osl, rfl, lk, hcd'⟩ := rest
  exact LamX.pe_lamcall hg hm kp lk hcd' hb Sg hNg hva (hG cdv) TB hcode hmT hu hr L hdef hbind hbody hdb hd hcd
end
end Mi
namespace Mi
open PySem PySem.Spec PyProof.Rows L2 Ty
section
variable {P : Pr} {W : L2.St → XK} {tr tk : TA} {mr mk : Sl → Ms (List Dv)}
def mCallNL (n j k : Nat) (g : List Dv → Ms Dv) (is : List Nat) (mr mk : Sl → Ms (List Dv)) (Γ : Sl) : Ms Dv := bnd (mr Γ) fun xs => bnd (mk Γ) fun ys => if xs.length = j ∧ ys.length = k ∧ (Ty.perm is (xs ++ ys)).length = n then calm (g (Ty.perm is (xs ++ ys))) else fail
theorem sim_callNL {n j k : Nat} {g : List Dv → Ms Dv} {E : XK} {is : List Nat} (hr : SimA P W tr mr) (hk' : SimA P W tk mk) : Sim P W (tCallN j k (spM P n g) (fun us ws => Ty.perm is (us ++ ws)) E tr tk) (mCallNL n j k g is mr mk) := fun e A Γ σ H Q hf m gg h =>
  hr e A Γ σ H _ hf m gg (h.bnd fun e1 H1 vs xs A1 g1 m1 rs h1 => hk' e1 A1 Γ σ H1 _ (hf.up g1) m1 (gg.up g1) (h1.bnd fun e2 H2 us ys A2 g2 m2 ru h2 => by
    by_cases hl : xs.length = j ∧ ys.length = k ∧ (Ty.perm is (xs ++ ys)).length = n
    · rw [if_pos hl] at h2
      have rr := (rs.up g2).app ru
      exact ⟨by rw [rs.length]; exact hl.1, by rw [ru.length]; exact hl.2.1, e2, A2, _, ((hf.up g1).up g2).base, m2, rr.perm is, hl.2.2, Wp.calm h2⟩
    · rw [if_neg hl] at h2
      exact h2.elim))
end
end Mi
namespace Mi
open PySem PySem.Spec PyProof.Rows L2 Ty
theorem simg_own {P : Pr} {E : XK} {l : List Nat} {i : Nat} (h : l.contains i = true := by rfl) : SimG P E (some l) (gName i) (gmName i) := simg_name (by simpa [InS] using h)
end Mi

namespace Mi
open PySem PySem.Spec PyProof.Rows L2 Ty
/-! ### try: ask() .. except C as x: y = x, where ask is a lambda that was handed in -/
theorem takes_len {X : Cx} {W : WX} {n : Nat} (hn : X.N.length = n) (t : Takes X W) : Takes X (fun cls d σ H => σ.length = n → W cls d σ H) := fun u s' ⟨a, B, sI, pins, σ, H, cls, d, e, I, nb, up, sky, na, os, ag, w⟩ =>
  t u s' ⟨a, B, sI, pins, σ, H, cls, d, e, I, nb, up, sky, na, os, ag, w (I.len.trans hn)⟩
def tAsk (n : Nat) (f c' : Addr) (q : Str) (tl : XK → Hp → VK → Prop) (W : WX) : TS := fun D σ H => ∃ Ech : XK, (∀ cls d σ' H', Ech cls d H' → σ'.length = n → W cls d σ' H') ∧ σ[0]? = some (some (.ref f)) ∧ H c' = some (LamX.CodeO c' q) ∧ tl Ech H (fun _ H' => D.nx σ H')
theorem ask_body {X : Cx} {W : WX} {n : Nat} {f c' : Addr} {q a : Str} {tl : XK → Hp → VK → Prop} {p1 p2 p3 : Pos} (hn : X.N.length = n) (tk : Takes X W)
    (act : ∀ (W : WX) (E : XK), Takes X W → (∀ cls d σ' H', E cls d H' → W cls d σ' H') → PE X (.Call (.Name a p1) [] [] p2) (fun σZ HZ Q => σZ[0]? = some (some (.ref f)) ∧ HZ c' = some (LamX.CodeO c' q) ∧ tl E HZ Q)) :
    PSs X [.Expr (.Call (.Name a p1) [] [] p2) p3] (tAsk n f c' q tl W) := by
  refine ⟨fun pins s σ H D I h => ?_⟩
  obtain ⟨Ech, hW, h1, h2, h3⟩ := h
  exact (pss_one (ps_expr (pos := p3) (act _ Ech (takes_len hn tk) fun cls d σ' H' z hl => hW cls d σ' H' z hl))).run pins s σ H D I ⟨h1, h2, h3⟩
def mTryA (R : Pr) (c i l n : Nat) (f : Addr) (ask : Ms Dv) (Γ : Sl) : Ms Fl := fun A => match Γ[(0 : Nat)]? with
  | some (some (.fn f')) => if f' = f then match ask A with
    | some (.ok _, A1) => some (.ok (.nx Γ), A1)
    | some (.err d ns vs, A1) => match R.sub d c with
      | some true => some (.ok (.nx ((((List.replicate n none).set i (some (.exc d ns vs))).set l (some (.exc d ns vs))).set i none)), A1)
      | _ => none
    | none => none
    else none
  | _ => none
theorem rg_none {e : Ev} {H : Hp} {σ : L2.St} {n : Nat} (h : σ.length = n) : Rg e H σ (List.replicate n none) := ⟨by rw [List.length_replicate]; exact h, fun i d q => by
  have := List.mem_of_getElem? q
  rw [List.mem_replicate] at this
  cases this.2⟩
/-- what stood there when the lambda was handed in stands there still -/
theorem code_kept {e0 e : Ev} {A0 : Mem} {H0 H : Hp} {c' : Addr} {q : Str} (m0 : Rm e0 A0 H0) (hc : H0 c' = some (LamX.CodeO c' q)) (gs : Gs e0 e H0 H) : H c' = some (LamX.CodeO c' q) := by
  refine gs.all c' _ (fun z => ?_) hc (fun ps z => by unfold LamX.CodeO at z; cases z)
  obtain ⟨n, hn⟩ := List.getElem?_of_mem z
  obtain ⟨o, _, k⟩ := m0.at hn
  cases o with
  | lst l =>
    obtain ⟨xs, k, _⟩ := k
    rw [hc] at k
    unfold LamX.CodeO at k
    cases k
  | del =>
    obtain ⟨xs, k⟩ := k
    rw [hc] at k
    unfold LamX.CodeO at k
    cases k
theorem sims_tryA {P : Pr} (ok : P.Ok) {e0 : Ev} {A0 : Mem} {H0 : Hp} {f c' : Addr} {q : Str} {tl : XK → Hp → VK → Prop} {ask : Ms Dv} {E : XK} {c i l n : Nat} {Wout : WX} (m0 : Rm e0 A0 H0) (hc : H0 c' = some (LamX.CodeO c' q)) (as : Asks e0 H0 tl ask) :
    SimS (P.within e0 H0) E (fun D σ H => tAsk n f c' q tl (wKeep P.K (.ref (P.ct.1 c)) i l Wout D) D σ H) (mTryA P c i l n f ask) := fun e A Γ σ H D hf m g h => by
  unfold mTryA at h
  match z : Γ[(0 : Nat)]?, h with
  | some (some (.fn f')), h =>
    by_cases ef : f' = f
    · subst ef
      simp only [if_true] at h
      obtain ⟨v, h1, h2⟩ := g.2 0 _ z
      cases h2
      have gs : Gs e0 e H0 H := hf.x
      match k : ask A, h with
      | some (.ok x, A1), h =>
        refine ⟨fun _ _ _ => False, fun _ _ _ _ z => z.elim, h1, code_kept m0 hc gs, as e A H _ _ gs m ?_⟩
        rw [k]
        exact fun e1 H1 b g1 m1 r => h e1 H1 σ g1 m1 (g.up g1)
      | some (.err d ns vs, A1), h =>
        have h : Wf E e H D (match P.sub d c with
          | some true => some (.ok (.nx ((((List.replicate n none).set i (some (.exc d ns vs))).set l (some (.exc d ns vs))).set i none)), A1)
          | _ => none) := h
        by_cases y : P.sub d c = some true
        · rw [y] at h
          refine ⟨fun cls dd H' => ∃ fs dx, cls = .ref (e.ct.1 d) ∧ dd = some dx ∧ ∃ e', Gr e e' H H' ∧ Rm e' A1 H' ∧ H' dx = some (.xd fs) ∧ ¬ e'.out dx ∧ fs.map (·.1) = ns ∧ Rvs e' H' (fs.map (·.2)) vs, ?_, h1, code_kept m0 hc gs, as e A H _ _ gs m ?_⟩
          · rintro cls dd σ' H' ⟨fs, dx, rfl, rfl, e', g', m', h1, h2, h3, h4⟩ hl
            refine ⟨true, by rw [hf.c]; exact ok.exm d c true y, fun _ a ha => ?_, fun z => by cases z⟩
            have s : Same H' (upd H' a (ExT (.ref (e.ct.1 d)) (some dx) a)) := Same.new ha
            have rx : Rv e' (upd H' a (ExT (.ref (e.ct.1 d)) (some dx) a)) (.ref a) (.exc d ns vs) := .exc (by rw [g'.c]; exact upd_same) (m'.new ha) (s _ _ h1) h2 h3 (h4.up (Gr.same s))
            exact h e' _ _ (g'.trans (Gr.same s)) (m'.same s) ((((rg_none hl).set i rx).set l rx).none i)
          · rw [k]
            exact fun e1 H1 dx fs g1 m1 h1 h2 h3 h4 => ⟨fs, dx, rfl, rfl, e1, g1, m1, h1, h2, h3, h4⟩
        · split at h
          · rename_i y'
            exact absurd y' y
          · exact h.elim
      | none, h => exact h.elim
    · simp only [if_neg ef] at h
      exact h.elim
/-- the def that is handed the lambda -/
theorem run_simsL {P : Pr} {t : TS} {ms : Sl → Ms Fl} {k : Nat} {N : List Str} {f : Addr} {e : Ev} {A : Mem} {H : Hp} {Q : VK} (hs : SimS (P.within e H) EN t ms) (hN : N.length = 1 + k) (hf : Fx P.base e H) (m : Rm e A H) (w : Wp Rv EN e H Q (fnL k f ms A)) :
    t { nx := fun _ H' => Q .non H', rt := Q } (L2.start N [.ref f]) H := by
  refine hs e A _ _ H _ ⟨hf.k, hf.c, Gs.refl _ _⟩ m (rg_start (ds := [.fn f]) (.cons (.fn f) .nil) hN) ?_
  unfold fnL Mi.bnd at w
  show Wf EN e H _ (ms (some (.fn f) :: List.replicate k none) A)
  match q : ms (some (.fn f) :: List.replicate k none) A, w with
  | some (.ok (.nx Γ), A'), w => exact fun e' H' σ' g m _ => w e' H' .non g m .non
  | some (.ok (.rt d), A'), w => exact w
  | some (.ok (.bk Γ), A'), w => exact w.elim
  | some (.ok (.ct Γ), A'), w => exact w.elim
  | some (.err c ns vs, A'), w => exact w
end Mi

namespace Mi
open PySem PySem.Spec PyProof.Rows L2 Ty
/-! ### a def whose code object is known -/
structure FunC (K : PySem.W.Frag) (x qual : Str) (st : Stmt) (f : Addr) (fd : FuncData) (c : Addr) : Prop where
  ex : ∃ (oc : Value) (od : Option Addr) (kV doc pm : Value) (an : Option Addr) (ct : Value) (osl : Array (Option Value)),
    fd = PySem.W.fnOf x qual (defArgs st) (defBody st) (defScope st) .none kV doc pm an (.ref c) ct ∧ K.lookup f = some ⟨oc, od, .func fd, osl⟩ ∧ PySem.W.codeIn K (.ref c) qual = true
section
variable {P : Program} {w : World} {K : PySem.W.Frag} {mg : Str → Option Value} {base : Heap}
theorem FunC.ok {y qual : Str} {st : Stmt} {f c : Addr} {fd : FuncData} {N ps : List Str} {k : Nat} {sp : Sp} (F : FunC K y qual st f fd c) (S : FnScope N ps (defScope st)) (len : ∀ vs H Q E, sp vs H Q E → vs.length = ps.length)
    (body : ∀ (A : Around) (outer : List Env) (s : Shared) (H : Hp) (vs : List V) (Q : VK) (E : XK), A.guards = some [] → Room k (A.deeper (envOfC qual (defScope st) s.heap.objs.size f (.ref c))) → sp vs H Q E →
      ∃ t, PSs (cxOf CX0 P w K mg base N qual (defScope st) f (.ref c) A outer s H E).nox (defBody st) t ∧ t { nx := fun _ H' => Q .non H', rt := Q } (start N vs) H) : FnG P w K mg base CX0 (k + 1) f fd ps sp := by
  obtain ⟨oc, od, kV, doc, pm, an, ct, osl, rfl, lk, hcd⟩ := F.ex
  constructor
  · exact len
  intro A hgd outer s H args us vs Q E hr e0 hb r hsp
  obtain ⟨t, ht', hq⟩ := body A outer s H vs Q E hgd (hr.deeper _) hsp
  have ht := ht'.nox
  have up : ∀ b o, base.get? b = some o → s.heap.get? b = some o := fun b o e => (e0.bs b o e).1
  have KX : K.In s.heap := e0.mod.kin.keeps up
  refine codeAny_call_function hr.depth (KX _ _ lk) rfl S.co S.gen rfl (PySem.W.codeRec_of KX hcd) (hb _ _ _ _ (wpAny_newFunctionEnv_cells S.kind ?_ ?_))
  · rintro ⟨n, v⟩ hy
    rcases S.par n (List.of_mem_zip hy).1 with q | q
    · exact Or.inl q
    · exact Or.inr ⟨q, PySem.W.cellsFrom_some _ _ _ (Or.inl q)⟩
  · intro env he s1 x
    subst he
    refine ⟨(e0.mod.nolimit.keeps up).keeps x.toInCall.keep, codeAny_func ?_⟩
    refine wpAny_mono (ht.run [] s1 (start N vs) H _ (inv_start S hr.hd e0 (len _ _ _ _ hsp) r x) hq) ?_ fun _ _ h => h
    intro fl s' hs
    cases fl with
    | ret u => obtain ⟨v, σ', H', J, rv, q⟩ := hs; exact ⟨v, H', J.os, J.bare, J.base, J.hok, rv, q⟩
    | next => obtain ⟨σ', H', J, q⟩ := hs; exact ⟨V.non, H', J.os, J.bare, J.base, J.hok, rfl, q⟩
    | brk => obtain ⟨_, _, _, q⟩ := hs; cases q
    | cont => obtain ⟨_, _, _, q⟩ := hs; cases q
end
/-! ### the law's call, where tables of code objects are known -/
/-- the heap that is known of at the start: the script, locked; the tables, empty -/
def H0T (cs : List (Addr × Addr)) (a : Addr) (so : Option HO) : Hp := fun b => if b = a then so else if b ∈ cs.map (·.2) then some (.tbl #[]) else none
theorem lawGT {P : Program} {w : World} {K : PySem.W.Frag} {mg mb : Str → Option Value} {k : Nat} {fa a : Addr} {cs : List (Addr × Addr)} {fd : FuncData} {x : Str} {sp : Sp} {s1 : Shared} {vs : List Value} {ns : List Int}
    (KX : K.In s1.heap) (hns : s1.heap.Ns mainGlobals mg) (hb : s1.heap.Ns builtinsNs mb) (hbb : ∀ x : Str, x ≠ "__name__" → mb x = bootBuiltins x) (hlim : s1.heap.NoLimit) (hg : s1.gens = #[])
    (hT : ∀ p ∈ cs, s1.heap.get? p.2 = some { cls := .none, data := .fields #[] }) (nT : ∀ p ∈ cs, K.lookup p.2 = none) (C : ∀ p ∈ cs, PySem.W.CodeHd s1.heap p.1 p.2)
    (hbm : ∃ (bm : Addr) (ob : Obj), mg "__builtins__" = some (.ref bm) ∧ bm ≠ builtinsNs ∧ s1.heap.get? bm = some ob ∧ ob.cls = .type "module" ∧ ob.dict = some builtinsNs ∧ ob.data = .plain)
    (ha : s1.heap.get? a = some { cls := .type "list", data := .seq vs.toArray }) (hi : IntsAre vs ns) (hl : ns.length ≤ sizeLine) (hr : Room k callerA)
    (F : ∀ base : Heap, K.In base → base.Ns mainGlobals mg → (∀ p ∈ cs, LamX.TabB base mg p.1 p.2) → FnG P w K mg base CX0 k fa fd [x] sp) (hbind : ∀ (s : Shared) (u : Value), BindsTo s fd ⟨[u], []⟩ [(x, u)])
    (hsp : ∀ H : Hp, (∃ so, H = H0T cs a so ∧ (so = none ∨ ∃ o xs, so = some (.frz o (.lst xs)))) → a ∉ cs.map (·.2) → SqL K H a (ns.map V.int) → sp [.ref a] H (fun v _ => v = .bl true) fun _ _ _ => False) :
    codeAny (model P w) callerA (.call (.ref fa) ⟨[.ref a], []⟩) (fun r s' => r = .ok (.ret (.bool true)) ∧ OldK s1.heap s'.heap ∧ s'.os = s1.os ∧ AllBare s'.gens) s1 := by
  have rv := vals_ints hi
  have isT : ∀ b : Addr, b ∈ cs.map (·.2) → s1.heap.get? b = some { cls := .none, data := .fields #[] } ∧ K.lookup b = none := fun b hb => by
    obtain ⟨p, hp, rfl⟩ := List.mem_map.mp hb
    exact ⟨hT p hp, nT p hp⟩
  have aT : a ∉ cs.map (·.2) := fun z => by
    have q := (isT a z).1
    rw [ha] at q
    cases q
  suffices main : ∃ so : Option HO, (so = none ∨ ∃ o xs, so = some (.frz o (.lst xs))) ∧ SqL K (H0T cs a so) a (ns.map V.int) ∧ HOk P w (H0T cs a so) s1.heap ∧ (so ≠ none → K.lookup a = none) by
    obtain ⟨so, hso, hS, hok, hK⟩ := main
    have h_a : H0T cs a so a = so := if_pos rfl
    have h_t : ∀ b, b ∈ cs.map (·.2) → H0T cs a so b = some (.tbl #[]) := fun b hb => (if_neg (fun z => aT (by rw [← z]; exact hb))).trans (if_pos hb)
    have h_n : ∀ b, b ≠ a → b ∉ cs.map (·.2) → H0T cs a so b = none := fun b h1 h2 => (if_neg h1).trans (if_neg h2)
    -- what is no list and no empty table is not known of
    have no : ∀ {b : Addr} {o : Obj}, s1.heap.get? b = some o → (∀ us n, o.data ≠ .seq us n) → o.data ≠ .fields #[] → H0T cs a so b = none := fun {b o} e h1 h2 => by
      refine h_n b (fun z => ?_) fun z => ?_
      · rw [z, ha] at e
        cases e
        exact h1 _ _ rfl
      · rw [(isT b z).1] at e
        cases e
        exact h2 rfl
    have noD : ∀ {b : Addr} {o : Obj} {es : Array DictEntry} {ep : Nat}, s1.heap.get? b = some o → o.data = .dict es ep → H0T cs a so b = none := fun {b o es ep} e d => no e (fun us n z => by rw [d] at z; cases z) fun z => by rw [d] at z; cases z
    have keepNs : ∀ {b : Addr} {m : Str → Option Value}, s1.heap.Ns b m → (hidT s1.heap (H0T cs a so)).Ns b m := fun {b m} q => by
      obtain ⟨o, es, ep, e, d, r⟩ := q
      exact ⟨o, es, ep, hidT_get e (noD e d), d, r⟩
    have KB : K.In (hidT s1.heap (H0T cs a so)) := fun b o e => by
      refine hidT_get (KX b o e) ?_
      by_cases z : b = a
      · rw [z, h_a]
        cases q : so with
        | none => rfl
        | some u =>
          have z2 := hK (by rw [q]; exact nofun)
          rw [← z, e] at z2
          cases z2
      · by_cases z2 : b ∈ cs.map (·.2)
        · rw [(isT b z2).2] at e
          cases e
        · exact h_n b z z2
    have M : Mod K mg (hidT s1.heap (H0T cs a so)) := by
      obtain ⟨mc, h1, h2⟩ := hlim
      exact ⟨KB, keepNs hns, ⟨mb, keepNs hb, hbb⟩, ⟨mc, keepNs h1, h2⟩⟩
    have TB : ∀ p ∈ cs, LamX.TabB (hidT s1.heap (H0T cs a so)) mg p.1 p.2 := fun p hp => by
      have hTp := hT p hp
      constructor
      · obtain ⟨o, us, file, tf, flags, tg, inF, text, tt, e1, r1, r2, r3, rest⟩ := C p hp
        refine ⟨o, us, file, tf, flags, tg, inF, text, tt, hidT_get e1 (no e1 (fun us n z => ?_) fun z => ?_), r1, r2, r3, rest⟩
        · rw [r2] at z
          cases z
        · rw [r2] at z
          cases z
          simp at r3
      · obtain ⟨bm, ob, b1, b2, b3, b4, b5, b6⟩ := hbm
        have nG : bm ≠ mainGlobals := fun q => by
          obtain ⟨o, es, ep, e, hd, _⟩ := hns
          rw [q, e] at b3
          cases b3
          rw [hd] at b6
          cases b6
        have nP : bm ≠ p.2 := fun q => by
          rw [q, hTp] at b3
          cases b3
          cases b6
        exact ⟨bm, ob, b1, b2, nG, nP, hidT_get b3 (no b3 (fun us n z => by rw [b6] at z; cases z) fun z => by rw [b6] at z; cases z), b4, b5, b6⟩
      · intro z
        obtain ⟨o, es, ep, e, hd, _⟩ := hns
        rw [z, hTp] at e
        cases e
        cases hd
    have e0 : Env0 P w K mg (hidT s1.heap (H0T cs a so)) callerA [] s1 (H0T cs a so) := by
      refine ⟨rfl, M, fun b o e => of_hidT e, Nat.le_of_eq (hidT_size _ _), trivial, ?_, hok, .of_eq hg⟩
      intro b hb
      cases hb
    refine codeAny_mono ((F _ KB (keepNs hns) TB).run callerA rfl [] s1 (H0T cs a so) ⟨[.ref a], []⟩ [.ref a] [.ref a] _ _ hr e0 (hbind s1 (.ref a)) (.cons rfl .nil) (hsp _ ⟨so, rfl, hso⟩ aT hS)) ?_
    intro r s' h
    cases r with
    | error e => exact h.elim
    | ok fl =>
      cases fl with
      | ret u =>
        obtain ⟨v, H', os, bare, un, hok', r', q⟩ := h
        subst q
        obtain rfl : u = Value.bool true := r'
        have key : ∀ b o, b ∉ cs.map (·.2) → s1.heap.get? b = some o → s'.heap.get? b = some o := fun b o nb e => by
          by_cases z : b = a
          · subst z
            rcases hso with q | ⟨ob, xs, q⟩
            · exact un.keep b o e (by rw [h_a, q]) (fun z => by cases z) (by simp)
            · have q1 : H0T cs b so b = some (.frz ob (.lst xs)) := by rw [h_a, q]
              obtain ⟨e1, _⟩ := hok b _ q1
              obtain ⟨e2, _⟩ := hok' b _ (un.frzs b ob _ q1)
              rw [e] at e1
              cases e1
              exact e2
          · exact un.keep b o e (h_n b z nb) (fun z => by cases z) (by simp)
        have grown : ∀ p ∈ cs, ∃ more : Array Value, s'.heap.get? p.2 = some { cls := .none, data := .fields more } := fun p hp => by
          obtain ⟨more, z⟩ := un.tbls p.2 #[] (h_t _ (List.mem_map_of_mem hp))
          exact ⟨_, hok' p.2 _ z⟩
        refine ⟨rfl, ⟨fun b o e => ?_, fun b o e => ?_⟩, os, bare⟩
        · by_cases hb : b ∈ cs.map (·.2)
          · obtain ⟨p, hp, ep⟩ := List.mem_map.mp hb
            obtain ⟨more, hm⟩ := grown p hp
            rw [← ep] at e ⊢
            rw [hT p hp] at e
            cases e
            exact .inr (.inl ⟨((C p hp).tab (hT p hp)).isCodeTable, rfl, #[], more, rfl, by rw [Array.empty_append]; exact hm⟩)
          · exact .inl (key b o hb e)
        · by_cases hb : b ∈ cs.map (·.2)
          · obtain ⟨p, hp, ep⟩ := List.mem_map.mp hb
            obtain ⟨more, hm⟩ := grown p hp
            rw [← ep]
            exact ⟨_, hm⟩
          · exact ⟨o, key b o hb e⟩
      | _ => cases h
  have okT : ∀ so b, b ≠ a → ∀ u, H0T cs a so b = some u → ObjOk P w (H0T cs a so) s1.heap b u := fun so b hb u e => by
    have e : (if b ∈ cs.map (·.2) then some (HO.tbl #[]) else none) = some u := (if_neg hb).symm.trans e
    split at e
    · rename_i z
      cases e
      exact (isT b z).1
    · cases e
  cases hk : K.lookup a with
  | some o =>
    have e := KX a o hk
    rw [ha] at e
    cases e
    have hz : vs.toArray.size ≤ sizeLine := by
      rw [List.size_toArray, hi.length]
      exact hl
    refine ⟨none, .inl rfl, .inr ⟨_, vs.toArray, _, hk, rfl, rfl, rfl, hz, by simpa using rv⟩, fun b u z => ?_, fun z => absurd rfl z⟩
    by_cases hb : b = a
    · rw [hb] at z
      have z := (if_pos rfl).symm.trans z
      cases z
    · exact okT _ b hb u z
  | none =>
    refine ⟨some (.frz { cls := .type "list", data := .seq vs.toArray } (.lst (ns.map V.int))), .inr ⟨_, _, rfl⟩, .inl (.inr ⟨_, if_pos rfl⟩), fun b u z => ?_, fun _ => rfl⟩
    by_cases hb : b = a
    · subst hb
      have z := (if_pos rfl).symm.trans z
      cases z
      exact ⟨ha, by rw [List.length_map]; exact hl, vs, _, rv, ha⟩
    · exact okT _ b hb u z
end Mi

namespace Mi
open PySem PySem.Spec PyProof.Rows L2 Ty
/-- where the def nm, its code object c and the table P of c stand -/
def TabF (K : PySem.W.Frag) (mg : Str → Option Value) (nm : Str) (c P : Addr) : Prop := ∃ (f : Addr) (o : Obj) (fd : FuncData) (e : Value) (dd : Option Addr) (vs : Array Value) (sl : Array (Option Value)),
  mg nm = some (.ref f) ∧ K.lookup f = some o ∧ o.data = .func fd ∧ fd.code = .ref c ∧ K.lookup c = some ⟨e, dd, .fields vs, sl⟩ ∧ vs[11]? = some (.ref P) ∧ K.lookup P = none
theorem walkGT {l : PySem.W.OpenLaw} {n k : Nat} {q : Program} {loose : List Str} {XP : (Str → Option Value) → Heap → Prop} {YP : World → Heap → Prop} {d : DefRec} {K : Params → PySem.W.Frag} {x : Str} (nms : List Str)
    (hn : l.most = some n) (hn2 : n ≤ sizeLine) (hdf : d.params.defaults = []) (hr : Room k callerA) (hrec : ∀ m ∈ nms, ((recsOf q).any fun e => e.name == m) = true)
    (hY : ∀ (w : World) (h : Heap), YP w h → (K w.params).In h)
    (F : ∀ (w : World) (mg : Str → Option Value) (fa : Addr) (h : Heap), (K w.params).In h → h.Ns mainGlobals mg → mg d.name = some (.ref fa) →
      ∃ (fd : FuncData) (ts : List (Str × Addr × Addr)) (sp : Sp), (∀ t ∈ ts, t.1 ∈ nms) ∧ (∀ t ∈ ts, TabF (K w.params) mg t.1 t.2.1 t.2.2) ∧ (∀ (s : Shared) (u : Value), BindsTo s fd ⟨[u], []⟩ [(x, u)]) ∧
        (∀ (H : Hp) (a : Addr) (ns : List Int) (so : Option HO), ns.length ≤ n → (∀ z ∈ ns, Builtin.Int.intBits z ≤ 1048576) → H = H0T (ts.map (·.2)) a so → (so = none ∨ ∃ o xs, so = some (.frz o (.lst xs))) → a ∉ (ts.map (·.2)).map (·.2) → SqL (K w.params) H a (ns.map V.int) → sp [.ref a] H (fun v _ => v = .bl true) fun _ _ _ => False) ∧
        ∀ base : Heap, (K w.params).In base → base.Ns mainGlobals mg → (∀ t ∈ ts, LamX.TabB base mg t.2.1 t.2.2) → FnG l.prog w (K w.params) mg base CX0 k fa fd [x] sp) :
    PySem.W.WalkO q loose XP YP l.row.toRowW d [] (fun f vs => PySem.call f vs) := by
  refine Att.attach_callB hn hdf fun w s₀ s₁ mg mb fa o pm cd doc a vs ns G Y ho hd hcd hmg hobj hints hlen hbits hg => ?_
  have KX := hY w _ Y
  obtain ⟨fd, ts, sp, hts, hF1, hb, hsp, hF⟩ := F w mg fa _ KX G.T.g hmg
  have look : ∀ t ∈ ts, PySem.W.CodeHd s₁.heap t.2.1 t.2.2 ∧ s₁.heap.get? t.2.2 = some { cls := .none, data := .fields #[] } ∧ (K w.params).lookup t.2.2 = none := fun t ht => by
    obtain ⟨f, o1, fd1, e, dd, vs1, sl, k0, k1, k2, k3, k4, k5, k6⟩ := hF1 t ht
    obtain ⟨dL, hm, hn1⟩ := List.any_eq_true.mp (hrec t.1 (hts t ht))
    have hn2 : dL.name = t.1 := beq_iff_eq.mp hn1
    obtain ⟨a', o', fd', c', P', h1, h2, h3, h4, h5, h6⟩ := G.T.tab dL hm
    rw [hn2, k0] at h1
    cases h1
    have g1 := KX _ _ k1
    rw [g1] at h2
    cases h2
    rw [k2] at h3
    cases h3
    rw [k3] at h4
    cases h4
    have h6' := h6
    obtain ⟨⟨oc, vc, e1, _, e3, e4⟩, hP⟩ := h6'
    have g2 := KX _ _ k4
    rw [g2] at e1
    cases e1
    cases e3
    rw [k5] at e4
    cases e4
    exact ⟨PySem.W.CodeHd.of h5 h6, hP, k6⟩
  have mm : ∀ p ∈ ts.map (·.2), ∃ t ∈ ts, t.2 = p := fun p hp => List.mem_map.mp hp
  refine lawGT (cs := ts.map (·.2)) KX G.T.g G.T.b G.T.builtins G.T.nolimit hg (fun p hp => ?_) (fun p hp => ?_) (fun p hp => ?_) G.T.bmain hobj hints (Nat.le_trans hlen hn2) hr (fun base h1 h2 h3 => hF base h1 h2 fun t ht => h3 _ (List.mem_map_of_mem ht)) hb fun H hH hna hS => ?_
  · obtain ⟨t, ht, rfl⟩ := mm p hp
    exact (look t ht).2.1
  · obtain ⟨t, ht, rfl⟩ := mm p hp
    exact (look t ht).2.2
  · obtain ⟨t, ht, rfl⟩ := mm p hp
    exact (look t ht).1
  · obtain ⟨so, h1, h2⟩ := hH
    exact hsp H a ns so hlen hbits h1 h2 hna hS
/-- the mirror's start -/
theorem spM_start {P : Pr} {g : List Dv → Ms Dv} {cs : List (Addr × Addr)} {a : Addr} {so : Option HO} {H : Hp} {ns : List Int} (hb : P.base = P) (hct : ∀ p ∈ P.ct.2, p.1 ∈ cs.map (·.2)) (hH : H = H0T cs a so) (hso : so = none ∨ ∃ o xs, so = some (.frz o (.lst xs))) (hna : a ∉ cs.map (·.2)) (hS : SqL P.K H a (ns.map V.int))
    (h : ∃ A, g [.scr (ns.map .int)] [] = some (.ok (.bl true), A)) : spM P 1 g [.ref a] H (fun v _ => v = .bl true) fun _ _ _ => False := by
  have ha : H a = so := by rw [hH]; exact if_pos rfl
  refine ⟨⟨P.K, fun _ => false, [], P.ct⟩, [], [.scr (ns.map .int)], ⟨rfl, rfl, trivial⟩, ⟨rfl, .nil, fun n b o h => (by simp at h), fun b h => (by cases h), fun p hp => ?_⟩, .cons (.scr ?_ (rvs_ints ns)) .nil, rfl, ?_⟩
  · refine LamX.TabS.nil ?_
    rw [hH]
    have q := hct p hp
    exact (if_neg fun z => hna (by rw [← z]; exact q)).trans (if_pos q)
  · rcases hS with (hS | ⟨o, hS⟩) | hS
    · rw [ha] at hS
      rcases hso with z | ⟨o, xs, z⟩ <;> rw [z] at hS <;> cases hS
    · exact .inl ⟨o, hS⟩
    · exact .inr (.inr hS)
  · obtain ⟨A, h⟩ := h
    rw [h]
    intro e' H' v _ _ r
    cases r
    rfl
end Mi
namespace Mi
open PySem PySem.Spec PyProof.Rows L2 Ty
/-- a tuple of the written part -/
theorem ktd_of {K : PySem.W.Frag} {a : Addr} {od : Option Addr} {its : Array Value} {n : Nat} {sl : Array (Option Value)} {vs : List V} {ds : List Dv} (lk : K.lookup a = some ⟨.type "tuple", od, .seq its n, sl⟩) (hz : its.size ≤ sizeLine) (hv : Vals vs its.toList) (hr : ∀ e H, e.K = K → Rvs e H vs ds) : KTd K a ds :=
  ⟨fun e H h => .tup (.inr ⟨_, its, n, by rw [h]; exact lk, rfl, rfl, hz, hv⟩) (hr e H h)⟩
theorem ktd3 {K : PySem.W.Frag} {a : Addr} {od : Option Addr} {x y z : Int} {t1 t2 t3 : Tok} {n : Nat} {sl : Array (Option Value)} (lk : K.lookup a = some ⟨.type "tuple", od, .seq #[.int x t1, .int y t2, .int z t3] n, sl⟩) : KTd K a [.int x, .int y, .int z] :=
  ktd_of (vs := [.int x, .int y, .int z]) lk (by show 3 ≤ sizeLine; decide) (.cons ⟨t1, rfl⟩ (.cons ⟨t2, rfl⟩ (.cons ⟨t3, rfl⟩ .nil))) fun e H _ => .cons (.int x) (.cons (.int y) (.cons (.int z) .nil))
end Mi

namespace Mi
open PySem PySem.Spec PyProof.Rows L2 Ty
/-! ### reckoning with mirrors -/
theorem kit_non_int : kitK .non "int" = some false := rfl
theorem kit_non_bool : kitK .non "bool" = some false := rfl
theorem kit_non_list : kitK .non "list" = some false := rfl
theorem kit_non_tuple : kitK .non "tuple" = some false := rfl
theorem kit_non_str : kitK .non "str" = some false := rfl
theorem kit_bl_int : kitK .bl "int" = some true := rfl
theorem kit_bl_bool : kitK .bl "bool" = some true := rfl
theorem kit_bl_list : kitK .bl "list" = some false := rfl
theorem kit_bl_tuple : kitK .bl "tuple" = some false := rfl
theorem kit_bl_str : kitK .bl "str" = some false := rfl
theorem kit_int_int : kitK .int "int" = some true := rfl
theorem kit_int_bool : kitK .int "bool" = some false := rfl
theorem kit_int_list : kitK .int "list" = some false := rfl
theorem kit_int_tuple : kitK .int "tuple" = some false := rfl
theorem kit_int_str : kitK .int "str" = some false := rfl
theorem kit_str_int : kitK .str "int" = some false := rfl
theorem kit_str_bool : kitK .str "bool" = some false := rfl
theorem kit_str_list : kitK .str "list" = some false := rfl
theorem kit_str_tuple : kitK .str "tuple" = some false := rfl
theorem kit_str_str : kitK .str "str" = some true := rfl
theorem kit_tup_int : kitK .tup "int" = some false := rfl
theorem kit_tup_bool : kitK .tup "bool" = some false := rfl
theorem kit_tup_list : kitK .tup "list" = some false := rfl
theorem kit_tup_tuple : kitK .tup "tuple" = some true := rfl
theorem kit_tup_str : kitK .tup "str" = some false := rfl
theorem kit_lst_int : kitK .lst "int" = some false := rfl
theorem kit_lst_bool : kitK .lst "bool" = some false := rfl
theorem kit_lst_list : kitK .lst "list" = some true := rfl
theorem kit_lst_tuple : kitK .lst "tuple" = some false := rfl
theorem kit_lst_str : kitK .lst "str" = some false := rfl
theorem kit_dic_int : kitK .dic "int" = some false := rfl
theorem kit_dic_bool : kitK .dic "bool" = some false := rfl
theorem kit_dic_list : kitK .dic "list" = some false := rfl
theorem kit_dic_tuple : kitK .dic "tuple" = some false := rfl
theorem kit_dic_str : kitK .dic "str" = some false := rfl
theorem bnd_at {α β : Type} (m : Ms α) (k : α → Ms β) (A : Mem) : bnd m k A = match m A with
  | none => none
  | some (.ok a, A1) => k a A1
  | some (.err c ns vs, A1) => some (.err c ns vs, A1) := rfl
theorem ofO_at {α : Type} (o : Option α) (A : Mem) : ofO o A = match o with
  | none => none
  | some a => some (.ok a, A) := rfl
theorem calm_at {α : Type} (m : Ms α) (A : Mem) : calm m A = match m A with
  | some (.ok a, A1) => some (.ok a, A1)
  | _ => none := rfl
theorem fail_at {α : Type} (A : Mem) : (fail : Ms α) A = none := rfl
theorem ite_at {α β : Type} (c : Prop) [Decidable c] (f g : α → β) (a : α) : (if c then f else g) a = if c then f a else g a := by split <;> rfl
theorem at_0 {α : Type} (a : α) (l : List α) : L2.atI (a :: l) 0 = some a := by unfold L2.atI L2.ixN; simp
theorem at3_1 {α : Type} (a b c : α) : L2.atI [a, b, c] 1 = some b := by unfold L2.atI L2.ixN; simp
theorem at3_2 {α : Type} (a b c : α) : L2.atI [a, b, c] 2 = some c := by unfold L2.atI L2.ixN; simp
theorem at2_1 {α : Type} (a b : α) : L2.atI [a, b] 1 = some b := by unfold L2.atI L2.ixN; simp
theorem isDvs_ints : ∀ l : List Int, isDvs (l.map Dv.int) = true
  | [] => rfl
  | x :: l => by show (isDv (.int x) && isDvs (l.map .int)) = true; rw [isDvs_ints l]; rfl
theorem dpvs_ints : ∀ l : List Int, dpvs (l.map Dv.int) = 0
  | [] => rfl
  | x :: l => by show max (dpv (.int x)) (dpvs (l.map .int)) = 0; rw [dpvs_ints l]; rfl
/-- an item of whole numbers -/
theorem at_mod (l : List Int) (h : l ≠ []) (t : Int) : ∃ c, L2.atI (l.map Dv.int) (t % (l.length : Int)) = some (.int c) := by
  have h0 : 0 < l.length := List.length_pos_iff.mpr h
  have h1 : 0 ≤ t % (l.length : Int) := Int.emod_nonneg _ (by omega)
  have h2 : t % (l.length : Int) < l.length := Int.emod_lt_of_pos _ (by omega)
  unfold L2.atI L2.ixN
  rw [List.length_map]
  generalize t % (l.length : Int) = i at h1 h2
  have h3 : i.toNat < l.length := by omega
  refine ⟨l[i.toNat], ?_⟩
  simp [h1, h2, h3]
theorem ite_ok {α : Type} {c : Prop} [Decidable c] {a b : α} {A : Mem} : (if c then some (Ex.ok a, A) else some (Ex.ok b, A)) = some (Ex.ok (if c then a else b), A) := by split <;> rfl
theorem ite_int {c : Prop} [Decidable c] {a b : Int} : (if c then Dv.int a else Dv.int b) = Dv.int (if c then a else b) := by split <;> rfl
theorem set_last {α : Type} (B : List α) (x y : α) : (B ++ [x]).set B.length y = B ++ [y] := by simp
theorem get_last {α : Type} (B : List α) (x : α) : (B ++ [x])[B.length]? = some x := by simp
theorem at_in {α : Type} {l : List α} {k : Int} (h : 0 ≤ k) (h2 : k < l.length) : ∃ x, L2.atI l k = some x ∧ x ∈ l := by
  unfold L2.atI L2.ixN
  have h3 : k.toNat < l.length := by omega
  exact ⟨l[k.toNat], by simp [h, h2, h3], List.getElem_mem h3⟩
@[simp] theorem big_num : (big : Nat) = 1000000 := rfl
/-- m ends well -/
def Gives {α : Type} (m : Ms α) (A : Mem) (p : α → Mem → Prop) : Prop := ∃ a A', m A = some (.ok a, A') ∧ p a A'
end Mi

namespace Mi
open PySem PySem.Spec PyProof.Rows L2 Ty
theorem same_int (a b : Int) : sameD (.int a) (.int b) = some (decide (a = b)) := rfl
theorem same_bl (a b : Bool) : sameD (.bl a) (.bl b) = some (decide (a = b)) := rfl
end Mi

namespace Ty
open PySem PySem.Spec PyProof.Rows L2
def top (i : Nat) : Stmt := PySem.Challenge.pw_typedcurve_k39_words_and_what_they_are_m.main.body.getD i (.Pass ⟨0, 0, 0, 0⟩)
abbrev s_is_list : Stmt := top 1
abbrev N_is_list : List Str := ["value"]
theorem sc_is_list : FnScope N_is_list ["value"] (defScope s_is_list) := ⟨rfl, rfl, rfl, by decide +kernel, rfl, by decide +kernel, by decide +kernel⟩
abbrev s_is_integer : Stmt := top 2
abbrev N_is_integer : List Str := ["value"]
theorem sc_is_integer : FnScope N_is_integer ["value"] (defScope s_is_integer) := ⟨rfl, rfl, rfl, by decide +kernel, rfl, by decide +kernel, by decide +kernel⟩
abbrev s_is_within : Stmt := top 3
abbrev N_is_within : List Str := ["value", "least", "most"]
theorem sc_is_within : FnScope N_is_within ["value", "least", "most"] (defScope s_is_within) := ⟨rfl, rfl, rfl, by decide +kernel, rfl, by decide +kernel, by decide +kernel⟩
abbrev s_is_word : Stmt := top 10
abbrev N_is_word : List Str := ["value", "number"]
theorem sc_is_word : FnScope N_is_word ["value"] (defScope s_is_word) := ⟨rfl, rfl, rfl, by decide +kernel, rfl, by decide +kernel, by decide +kernel⟩
abbrev s_made_of : Stmt := top 11
abbrev N_made_of : List Str := ["word", "places", "x", "y", "at", "rest", "place", "number"]
theorem sc_made_of : FnScope N_made_of ["word"] (defScope s_made_of) := ⟨rfl, rfl, rfl, by decide +kernel, rfl, by decide +kernel, by decide +kernel⟩
abbrev s_need_word : Stmt := top 12
abbrev N_need_word : List Str := ["value"]
theorem sc_need_word : FnScope N_need_word ["value"] (defScope s_need_word) := ⟨rfl, rfl, rfl, by decide +kernel, rfl, by decide +kernel, by decide +kernel⟩
abbrev s_parts_of_one : Stmt := top 13
abbrev N_parts_of_one : List Str := ["number"]
theorem sc_parts_of_one : FnScope N_parts_of_one ["number"] (defScope s_parts_of_one) := ⟨rfl, rfl, rfl, by decide +kernel, rfl, by decide +kernel, by decide +kernel⟩
abbrev s_word_at : Stmt := top 14
abbrev N_word_at : List Str := ["at", "number", "numbers"]
theorem sc_word_at : FnScope N_word_at ["at", "number"] (defScope s_word_at) := ⟨rfl, rfl, rfl, by decide +kernel, rfl, by decide +kernel, by decide +kernel⟩
abbrev s_law_quill : Stmt := top 16
abbrev N_law_quill : List Str := ["_law_script", "_law_cell"]
theorem sc_law_quill : FnScope N_law_quill ["_law_script"] (defScope s_law_quill) := ⟨rfl, rfl, rfl, by decide +kernel, rfl, by decide +kernel, by decide +kernel⟩
abbrev s_law_scratch : Stmt := top 17
abbrev N_law_scratch : List Str := ["_law_quill_here", "_law_many", "_law_left", "_law_turn", "_law_cell", "_law_mixed"]
theorem sc_law_scratch : FnScope N_law_scratch ["_law_quill_here", "_law_many"] (defScope s_law_scratch) := ⟨rfl, rfl, rfl, by decide +kernel, rfl, by decide +kernel, by decide +kernel⟩
abbrev s_law_pick : Stmt := top 18
abbrev N_law_pick : List Str := ["_law_quill_here", "_law_some"]
theorem sc_law_pick : FnScope N_law_pick ["_law_quill_here", "_law_some"] (defScope s_law_pick) := ⟨rfl, rfl, rfl, by decide +kernel, rfl, by decide +kernel, by decide +kernel⟩
abbrev s_law_made : Stmt := top 19
abbrev N_law_made : List Str := ["_law_word_here", "_law_some", "_law_spot", "_law_k", "_law_x", "_law_y", "_law_at"]
theorem sc_law_made : FnScope N_law_made ["_law_word_here"] (defScope s_law_made) := ⟨rfl, rfl, rfl, by decide +kernel, rfl, by decide +kernel, by decide +kernel⟩
abbrev s_law_word : Stmt := top 20
abbrev N_law_word : List Str := ["_law_quill_here", "_law_most", "_law_word_here", "_law_spot", "_law_each"]
theorem sc_law_word : FnScope N_law_word ["_law_quill_here", "_law_most"] (defScope s_law_word) := ⟨rfl, rfl, rfl, by decide +kernel, rfl, by decide +kernel, by decide +kernel⟩
abbrev s_law_heard : Stmt := top 21
abbrev N_law_heard : List Str := ["_law_ask", "_law_caught", "error", "_law_word_here", "_law_is_so"]
theorem sc_law_heard : FnScope N_law_heard ["_law_ask"] (defScope s_law_heard) := ⟨rfl, rfl, rfl, by decide +kernel, rfl, by decide +kernel, by decide +kernel⟩
abbrev s_law_bent : Stmt := top 22
abbrev N_law_bent : List Str := ["_law_quill_here", "_law_word_here", "_law_spot", "_law_way", "_law_new", "_law_found", "_law_odd", "_law_each"]
theorem sc_law_bent : FnScope N_law_bent ["_law_quill_here", "_law_word_here"] (defScope s_law_bent) := ⟨rfl, rfl, rfl, by decide +kernel, rfl, by decide +kernel, by decide +kernel⟩
abbrev s_law_word_right : Stmt := top 23
abbrev N_law_word_right : List Str := ["_law_quill_here", "_law_word_here", "_law_due", "_law_given", "_law_x", "_law_y", "_law_one", "_law_other", "_law_each"]
theorem sc_law_word_right : FnScope N_law_word_right ["_law_quill_here", "_law_word_here"] (defScope s_law_word_right) := ⟨rfl, rfl, rfl, by decide +kernel, rfl, by decide +kernel, by decide +kernel⟩
abbrev s_law : Stmt := top 24
abbrev N_law : List Str := ["_law_script", "_law_quill_here", "_law_turn", "_law_word_here", "_law_value", "_law_due", "_law_kept", "_law_some"]
theorem sc_law : FnScope N_law ["_law_script"] (defScope s_law) := ⟨rfl, rfl, rfl, by decide +kernel, rfl, by decide +kernel, by decide +kernel⟩
abbrev si_BadWord : Stmt := inClass (top 6) 0
abbrev Ni_BadWord : List Str := ["self", "part"]
theorem sci_BadWord : FnScope Ni_BadWord Ni_BadWord (defScope si_BadWord) := ⟨rfl, rfl, rfl, by decide +kernel, rfl, by decide +kernel, by decide +kernel⟩
structure Txt (K : PySem.W.Frag) (mg : Str → Option Value) where
  cc_law : Addr
  tp_law : Addr
  a_is_list : Addr
  d_is_list : FuncData
  m_is_list : mg "is_list" = some (.ref a_is_list)
  F_is_list : Fun K "is_list" "is_list" s_is_list a_is_list d_is_list
  a_is_integer : Addr
  d_is_integer : FuncData
  m_is_integer : mg "is_integer" = some (.ref a_is_integer)
  F_is_integer : Fun K "is_integer" "is_integer" s_is_integer a_is_integer d_is_integer
  a_is_within : Addr
  d_is_within : FuncData
  m_is_within : mg "is_within" = some (.ref a_is_within)
  F_is_within : Fun K "is_within" "is_within" s_is_within a_is_within d_is_within
  a_is_word : Addr
  d_is_word : FuncData
  m_is_word : mg "is_word" = some (.ref a_is_word)
  F_is_word : Fun K "is_word" "is_word" s_is_word a_is_word d_is_word
  a_made_of : Addr
  d_made_of : FuncData
  m_made_of : mg "made_of" = some (.ref a_made_of)
  F_made_of : Fun K "made_of" "made_of" s_made_of a_made_of d_made_of
  a_need_word : Addr
  d_need_word : FuncData
  m_need_word : mg "_need_word" = some (.ref a_need_word)
  F_need_word : Fun K "_need_word" "_need_word" s_need_word a_need_word d_need_word
  a_parts_of_one : Addr
  d_parts_of_one : FuncData
  m_parts_of_one : mg "_parts_of_one" = some (.ref a_parts_of_one)
  F_parts_of_one : Fun K "_parts_of_one" "_parts_of_one" s_parts_of_one a_parts_of_one d_parts_of_one
  a_word_at : Addr
  d_word_at : FuncData
  m_word_at : mg "_word_at" = some (.ref a_word_at)
  F_word_at : Fun K "_word_at" "_word_at" s_word_at a_word_at d_word_at
  a_law_quill : Addr
  d_law_quill : FuncData
  m_law_quill : mg "_law_quill" = some (.ref a_law_quill)
  F_law_quill : Fun K "_law_quill" "_law_quill" s_law_quill a_law_quill d_law_quill
  a_law_scratch : Addr
  d_law_scratch : FuncData
  m_law_scratch : mg "_law_scratch" = some (.ref a_law_scratch)
  F_law_scratch : Fun K "_law_scratch" "_law_scratch" s_law_scratch a_law_scratch d_law_scratch
  a_law_pick : Addr
  d_law_pick : FuncData
  m_law_pick : mg "_law_pick" = some (.ref a_law_pick)
  F_law_pick : Fun K "_law_pick" "_law_pick" s_law_pick a_law_pick d_law_pick
  a_law_made : Addr
  d_law_made : FuncData
  m_law_made : mg "_law_made" = some (.ref a_law_made)
  F_law_made : Fun K "_law_made" "_law_made" s_law_made a_law_made d_law_made
  a_law_word : Addr
  d_law_word : FuncData
  m_law_word : mg "_law_word" = some (.ref a_law_word)
  F_law_word : Fun K "_law_word" "_law_word" s_law_word a_law_word d_law_word
  a_law_heard : Addr
  d_law_heard : FuncData
  m_law_heard : mg "_law_heard" = some (.ref a_law_heard)
  F_law_heard : Fun K "_law_heard" "_law_heard" s_law_heard a_law_heard d_law_heard
  a_law_bent : Addr
  d_law_bent : FuncData
  m_law_bent : mg "_law_bent" = some (.ref a_law_bent)
  F_law_bent : Fun K "_law_bent" "_law_bent" s_law_bent a_law_bent d_law_bent
  a_law_word_right : Addr
  d_law_word_right : FuncData
  m_law_word_right : mg "_law_word_right" = some (.ref a_law_word_right)
  F_law_word_right : Fun K "_law_word_right" "_law_word_right" s_law_word_right a_law_word_right d_law_word_right
  a_law : Addr
  d_law : FuncData
  m_law : mg "law" = some (.ref a_law)
  F_law : Mi.FunC K "law" "law" s_law a_law d_law cc_law
  t_MOST_NUMBER : Tok
  m_MOST_NUMBER : mg "MOST_NUMBER" = some (.int 24 t_MOST_NUMBER)
  c_CurveError : Addr
  m_CurveError : mg "CurveError" = some (.ref c_CurveError)
  c_BadWord : Addr
  m_BadWord : mg "BadWord" = some (.ref c_BadWord)
  i_BadWord : Addr
  di_BadWord : FuncData
  Fi_BadWord : Fun K "__init__" "BadWord.__init__" si_BadWord i_BadWord di_BadWord
  ox_BadWord : OexC K c_BadWord
  fi_BadWord : PySem.W.findIn K (.ref c_BadWord) "__init__" = some (some (.ref i_BadWord))
  ti_BadWord : PySem.W.typeIn K (.ref i_BadWord) = some (.type "function")
  xk_BadWord : ExcK K c_BadWord
  no_BadWord_part : PySem.W.findIn K (.ref c_BadWord) "part" = some none
  em_BadWord_BadWord : PySem.W.exmOne K (.ref c_BadWord) (.ref c_BadWord) = some true
  em_BadWord_CurveError : PySem.W.exmOne K (.ref c_BadWord) (.ref c_CurveError) = some true
  ki_BadWord_BadWord : PySem.W.kitOne K (.ref c_BadWord) (.ref c_BadWord) = some true
  ki_BadWord_CurveError : PySem.W.kitOne K (.ref c_BadWord) (.ref c_CurveError) = some true
  z_abs : mg "abs" = none
  z_all : mg "all" = none
  z_bool : mg "bool" = none
  z_int : mg "int" = none
  z_isinstance : mg "isinstance" = none
  z_len : mg "len" = none
  z_list : mg "list" = none
  z_range : mg "range" = none
  z_repr : mg "repr" = none
  z_sorted : mg "sorted" = none
  z_tuple : mg "tuple" = none
  z_zip : mg "zip" = none
  a_FIRST_WORDS : Addr
  m_FIRST_WORDS : mg "FIRST_WORDS" = some (.ref a_FIRST_WORDS)
  k_FIRST_WORDS : Mi.KTd K a_FIRST_WORDS [.tup [.int 0, .int 0, .int 0], .tup [.int 1, .int 0, .int 0], .tup [.int 0, .int 1, .int 0], .tup [.int 0, .int 0, .int 1]]
section
variable {K : PySem.W.Frag} {mg : Str → Option Value}
theorem b_is_list (T : Txt K mg) : Binds K T.d_is_list ["value"] [] := T.F_is_list.binds fun _ _ _ _ _ _ us hl => match us, hl with | [_], _ => rfl
theorem b_is_integer (T : Txt K mg) : Binds K T.d_is_integer ["value"] [] := T.F_is_integer.binds fun _ _ _ _ _ _ us hl => match us, hl with | [_], _ => rfl
theorem b_is_within (T : Txt K mg) : Binds K T.d_is_within ["value", "least", "most"] [] := T.F_is_within.binds fun _ _ _ _ _ _ us hl => match us, hl with | [_, _, _], _ => rfl
theorem b_is_word (T : Txt K mg) : Binds K T.d_is_word ["value"] [] := T.F_is_word.binds fun _ _ _ _ _ _ us hl => match us, hl with | [_], _ => rfl
theorem b_made_of (T : Txt K mg) : Binds K T.d_made_of ["word"] [] := T.F_made_of.binds fun _ _ _ _ _ _ us hl => match us, hl with | [_], _ => rfl
theorem b_need_word (T : Txt K mg) : Binds K T.d_need_word ["value"] [] := T.F_need_word.binds fun _ _ _ _ _ _ us hl => match us, hl with | [_], _ => rfl
theorem b_parts_of_one (T : Txt K mg) : Binds K T.d_parts_of_one ["number"] [] := T.F_parts_of_one.binds fun _ _ _ _ _ _ us hl => match us, hl with | [_], _ => rfl
theorem b_word_at (T : Txt K mg) : Binds K T.d_word_at ["at", "number"] [] := T.F_word_at.binds fun _ _ _ _ _ _ us hl => match us, hl with | [_, _], _ => rfl
theorem b_law_quill (T : Txt K mg) : Binds K T.d_law_quill ["_law_script"] [] := T.F_law_quill.binds fun _ _ _ _ _ _ us hl => match us, hl with | [_], _ => rfl
theorem b_law_scratch (T : Txt K mg) : Binds K T.d_law_scratch ["_law_quill_here", "_law_many"] [] := T.F_law_scratch.binds fun _ _ _ _ _ _ us hl => match us, hl with | [_, _], _ => rfl
theorem b_law_pick (T : Txt K mg) : Binds K T.d_law_pick ["_law_quill_here", "_law_some"] [] := T.F_law_pick.binds fun _ _ _ _ _ _ us hl => match us, hl with | [_, _], _ => rfl
theorem b_law_made (T : Txt K mg) : Binds K T.d_law_made ["_law_word_here"] [] := T.F_law_made.binds fun _ _ _ _ _ _ us hl => match us, hl with | [_], _ => rfl
theorem b_law_word (T : Txt K mg) : Binds K T.d_law_word ["_law_quill_here", "_law_most"] [] := T.F_law_word.binds fun _ _ _ _ _ _ us hl => match us, hl with | [_, _], _ => rfl
theorem b_law_heard (T : Txt K mg) : Binds K T.d_law_heard ["_law_ask"] [] := T.F_law_heard.binds fun _ _ _ _ _ _ us hl => match us, hl with | [_], _ => rfl
theorem b_law_bent (T : Txt K mg) : Binds K T.d_law_bent ["_law_quill_here", "_law_word_here"] [] := T.F_law_bent.binds fun _ _ _ _ _ _ us hl => match us, hl with | [_, _], _ => rfl
theorem b_law_word_right (T : Txt K mg) : Binds K T.d_law_word_right ["_law_quill_here", "_law_word_here"] [] := T.F_law_word_right.binds fun _ _ _ _ _ _ us hl => match us, hl with | [_, _], _ => rfl
theorem bi_BadWord (T : Txt K mg) : Binds K T.di_BadWord ["self", "part"] [] := T.Fi_BadWord.binds fun _ _ _ _ _ _ us hl => match us, hl with | [_, _], _ => rfl
theorem ini_BadWord {P : Program} {w : World} {base : Heap} (T : Txt K mg) : FnOk P w K mg base CX0 1 T.i_BadWord T.di_BadWord ["self", "part"] (spIni1 T.c_BadWord ["part"]) := by
  refine T.Fi_BadWord.ok sci_BadWord (fun vs H Q E h => ?_) (fun cdv A outer s H vs Q E hr h => ?_)
  · exact spIni1_len h
  · exact ⟨_, (pss_one (ps_ost (pv 0) (pv 1))), r_ini1 T.ox_BadWord T.no_BadWord_part h⟩
theorem kb_is_word_0_value (T : Txt K mg) : KBn K T.d_is_word ["value"] 0 ["value"] (fun us ws => perm [0] (us ++ ws)) (fun us ws => perm [0] (us ++ ws)) := kbn_of T.F_is_word (fun _ _ _ _ _ _ us ws h1 h2 => match us, ws, h1, h2 with | [], [_], _, _ => rfl) (fun r1 r2 => Vals.perm (r1.append r2) [0])
theorem kb_made_of_0_word (T : Txt K mg) : KBn K T.d_made_of ["word"] 0 ["word"] (fun us ws => perm [0] (us ++ ws)) (fun us ws => perm [0] (us ++ ws)) := kbn_of T.F_made_of (fun _ _ _ _ _ _ us ws h1 h2 => match us, ws, h1, h2 with | [], [_], _, _ => rfl) (fun r1 r2 => Vals.perm (r1.append r2) [0])
end
section
variable {K : PySem.W.Frag} {mg : Str → Option Value}
open Mi
def pp (T : Txt K mg) : Pr := { K := K, ct := (fun c => match c with | 0 => T.c_BadWord | _ => T.c_CurveError, [(T.tp_law, (envOfC "law" (defScope s_law) 0 0 .none).qual ++ "<lambda>")]), sub := fun c d => match c, d with | 0, 0 => some true | 0, 1 => some true | _, _ => none, fld := fun c f => match c with | 0 => decide (f = ("part" : Str)) | _ => false }
def tabs (T : Txt K mg) : List (Str × Addr × Addr) := [("law", T.cc_law, T.tp_law)]
theorem hu_tabs (T : Txt K mg) : ∀ p ∈ (pp T).ct.2, p.1 = T.tp_law → p.2 = (envOfC "law" (defScope s_law) 0 0 .none).qual ++ "<lambda>" := fun p hp _ => by
  rw [List.mem_singleton.mp hp]
theorem ppOk (T : Txt K mg) : (pp T).Ok where
  kit := fun c d b h => match c, d, h with
    | 0, 0, h => by cases h; exact T.ki_BadWord_BadWord
    | 0, 1, h => by cases h; exact T.ki_BadWord_CurveError
  exm := fun c d b h => match c, d, h with
    | 0, 0, h => by cases h; exact T.em_BadWord_BadWord
    | 0, 1, h => by cases h; exact T.em_BadWord_CurveError
  exk := fun c d b h => match c, d, h with
    | 0, 0, h => T.xk_BadWord
    | 0, 1, h => T.xk_BadWord
  nof := fun c f h => match c, h with
    | 0, h => by
      have e : f = ("part" : Str) := of_decide_eq_true h
      subst e
      exact ⟨T.xk_BadWord, T.no_BadWord_part⟩
end

end Ty

namespace Ty
open PySem PySem.Spec PyProof.Rows L2
section
variable {P : Program} {w : World} {K : PySem.W.Frag} {mg : Str → Option Value} {base : Heap}
open Mi
def m_is_list (R : Pr) : Sl → Ms Fl := (mRet (mCb (oIsi R) (mCons (mVar 0) (mCons (mTup (mCons (mC (.ty "list")) (mCons (mC (.ty "tuple")) mNil))) mNil))))
def f_is_list (R : Pr) : List Dv → Ms Dv := fnM 0 (m_is_list R)
def m_is_integer (R : Pr) : Sl → Ms Fl := (mRet (mAnd (mCb (oIsi R) (mCons (mVar 0) (mCons (mC (.ty "int")) mNil))) (mNot (mCb (oIsi R) (mCons (mVar 0) (mCons (mC (.ty "bool")) mNil))))))
def f_is_integer (R : Pr) : List Dv → Ms Dv := fnM 0 (m_is_integer R)
def m_parts_of_one (R : Pr) : Sl → Ms Fl := (mSeq (mIfS (mTst (mBin (oCmp fun i j => decide (i < j)) (mVar 0) (mC (.int 0)))) (mRet (mTup (mCons (mC (.int 0)) (mCons (mUn oNeg (mVar 0)) mNil)))) mNext)
      (mSeq (mIfS (mTst (mBin oEq (mBin oMod (mVar 0) (mC (.int 2))) (mC (.int 0)))) (mRet (mTup (mCons (mBin oDiv (mVar 0) (mC (.int 2))) (mCons (mC (.int 0)) mNil)))) mNext)
      (mRet (mTup (mCons (mBin oDiv (mBin oAdd (mVar 0) (mC (.int 1))) (mC (.int 2))) (mCons (mC (.int 1)) mNil))))))
def f_parts_of_one (R : Pr) : List Dv → Ms Dv := fnM 0 (m_parts_of_one R)
def m_word_at (R : Pr) : Sl → Ms Fl := (mSeq (mAsg (mLstM (mCons (mC (.int 0)) (mCons (mC (.int 0)) (mCons (mC (.int 0)) mNil)))) (gmName 2))
      (mSeq (mAsg (mVar 1) (gmSub (mVar 2) (mVar 0)))
      (mRet (mCb oTuple (mCons (mVar 2) mNil)))))
def f_word_at (R : Pr) : List Dv → Ms Dv := fnM 1 (m_word_at R)
def m_law_quill (R : Pr) : Sl → Ms Fl := (mRet (mLstM (mCons (mLc (mWalk (mSl (mVar 0) mNoP (mPart (mC (.int 60))))) (gmName 1) mYes (mCb oInt (mCons (mVar 1) mNil)) [1]) (mCons (mC (.int 0)) (mCons (mC (.int 0)) mNil)))))
def f_law_quill (R : Pr) : List Dv → Ms Dv := fnM 1 (m_law_quill R)
def m_law_scratch (R : Pr) : Sl → Ms Fl := (mSeq (mIfS (mTst (mBin (oCmp fun i j => decide (i > j)) (mBin oIx (mVar 0) (mC (.int 2))) (mC (.int 0)))) (mSeq (mAsg (mBin oIx (mVar 0) (mC (.int 2))) (gmName 2))
      (mSeq (mAsg (mBin oDiv (mCb oInt (mCons (mVar 2) mNil)) (mVar 1)) (gmSub (mVar 0) (mC (.int 2))))
      (mRet (mBin oMod (mCb oInt (mCons (mVar 2) mNil)) (mVar 1))))) mNext)
      (mSeq (mAsg (mBin oIx (mVar 0) (mC (.int 1))) (gmName 3))
      (mSeq (mAsg (mBin oAdd (mVar 3) (mC (.int 1))) (gmSub (mVar 0) (mC (.int 1))))
      (mSeq (mAsg (mBin oAdd (mBin oMul (mC (.int 70325)) (mVar 3)) (mC (.int 6655))) (gmName 4))
      (mSeq (mIfS (mTst (mBin oNe (mBin oIx (mVar 0) (mC (.int 0))) (mLst mNil))) (mAsg (mBin oIx (mBin oIx (mVar 0) (mC (.int 0))) (mBin oMod (mCb oInt (mCons (mVar 3) mNil)) (mCb oLen (mCons (mBin oIx (mVar 0) (mC (.int 0))) mNil)))) (gmName 4)) mNext)
      (mSeq (mIfS (mAndT (mTst (mBin (oCmp fun i j => decide (i < j)) (mVar 3) (mCb oLen (mCons (mBin oIx (mVar 0) (mC (.int 0))) mNil)))) (mTst (mBin (oCmp fun i j => decide (i ≥ j)) (mCb oAbs (mCons (mVar 4) mNil)) (mBin oPow (mC (.int 10)) (mC (.int 18)))))) (mSeq (mAsg (mBin oAdd (mBin oMul (mC (.int 2)) (mBin oSub (mCb oAbs (mCons (mVar 4) mNil)) (mBin oPow (mC (.int 10)) (mC (.int 18))))) (mCb oInt (mCons (mBin (oCmp fun i j => decide (i < j)) (mVar 4) (mC (.int 0))) mNil))) (gmName 2))
      (mSeq (mAsg (mBin oDiv (mCb oInt (mCons (mVar 2) mNil)) (mVar 1)) (gmSub (mVar 0) (mC (.int 2))))
      (mRet (mBin oMod (mCb oInt (mCons (mVar 2) mNil)) (mVar 1))))) mNext)
      (mSeq (mAsg (mBin oMod (mCb oInt (mCons (mBin oPow (mBin oAdd (mBin oAdd (mBin oMod (mCb oInt (mCons (mVar 4) mNil)) (mC (.int 2147483587))) (mBin oMul (mC (.int 57597)) (mVar 3))) (mC (.int 6655))) (mC (.int 5))) mNil)) (mC (.int 2147483549))) (gmName 5))
      (mSeq (mAsg (mBin oMod (mCb oInt (mCons (mBin oPow (mBin oAdd (mBin oAdd (mBin oMul (mVar 5) (mBin oAdd (mBin oMul (mC (.int 2)) (mVar 3)) (mC (.int 2715)))) (mBin oMul (mBin oMul (mC (.int 70325)) (mVar 3)) (mVar 3))) (mC (.int 57597))) (mC (.int 3))) mNil)) (mC (.int 2147483563))) (gmName 5))
      (mRet (mBin oMod (mCb oInt (mCons (mBin oDiv (mVar 5) (mC (.int 64))) mNil)) (mVar 1)))))))))))
def f_law_scratch (R : Pr) : List Dv → Ms Dv := fnM 4 (m_law_scratch R)
def m_law_made (R : Pr) : Sl → Ms Fl := (mSeq (mIfS (mTst (mBin oIn (mVar 0) (mTup (mCons (mTup (mCons (mC (.int 0)) (mCons (mC (.int 0)) (mCons (mC (.int 0)) mNil)))) (mCons (mTup (mCons (mC (.int 1)) (mCons (mC (.int 0)) (mCons (mC (.int 0)) mNil)))) (mCons (mTup (mCons (mC (.int 0)) (mCons (mC (.int 1)) (mCons (mC (.int 0)) mNil)))) (mCons (mTup (mCons (mC (.int 0)) (mCons (mC (.int 0)) (mCons (mC (.int 1)) mNil)))) mNil))))))) (mRet (mC .non)) mNext)
      (mSeq (mAsg (mLc (mRange1 (mCons (mC (.int 3)) mNil)) (gmName 6) (mTst (mBin oNe (mBin oIx (mVar 0) (mVar 6)) (mC (.int 0)))) (mVar 6) [6]) (gmName 1))
      (mSeq (mAsg (mIf (mTst (mBin oEq (mCb oLen (mCons (mVar 1) mNil)) (mC (.int 1)))) (mBin oIx (mVar 1) (mC (.int 0))) (mBin oIx (mLc (mWalk (mVar 1)) (gmName 6) (mTst (mBin oEq (mBin oBit (mBin oIx (mVar 0) (mVar 6)) (mC (.int 1))) (mC (.int 0)))) (mVar 6) [6]) (mC (.int 0)))) (gmName 2))
      (mSeq (mPar3 3 4 5 (mCons (mBin oIx (mVar 0) (mVar 2)) (mCons (mLstM (mCons (mC (.int 0)) (mCons (mC (.int 0)) (mCons (mC (.int 0)) mNil)))) (mCons (mLstM (mCons (mC (.int 0)) (mCons (mC (.int 0)) (mCons (mC (.int 0)) mNil)))) mNil))))
      (mSeq (mIfS (mTst (mBin (oCmp fun i j => decide (i > j)) (mCb oLen (mCons (mVar 1) mNil)) (mC (.int 1)))) (mSeq (mAsg (mBin oDiv (mCb oInt (mCons (mVar 3) mNil)) (mC (.int 2))) (gmSub (mVar 4) (mVar 2)))
      (mAsg (mLc (mRange1 (mCons (mC (.int 3)) mNil)) (gmName 6) mYes (mIf (mTst (mBin oEq (mVar 6) (mVar 2))) (mC (.int 0)) (mUn oNeg (mBin oIx (mVar 0) (mVar 6)))) [6]) (gmName 5))) (mIfS (mTst (mBin (oCmp fun i j => decide (i < j)) (mVar 3) (mC (.int 0)))) (mAsg (mUn oNeg (mVar 3)) (gmSub (mVar 5) (mVar 2))) (mAsg (mTup (mCons (mBin oDiv (mBin oAdd (mVar 3) (mC (.int 1))) (mC (.int 2))) (mCons (mBin oBit (mVar 3) (mC (.int 1))) mNil))) (gmTup 2 (gmCons (gmSub (mVar 4) (mVar 2)) (gmCons (gmSub (mVar 5) (mVar 2)) gmNil))))))
      (mRet (mTup (mCons (mCb oTuple (mCons (mVar 4) mNil)) (mCons (mCb oTuple (mCons (mVar 5) mNil)) mNil)))))))))
def f_law_made (R : Pr) : List Dv → Ms Dv := fnM 6 (m_law_made R)
def m_is_within (R : Pr) : Sl → Ms Fl := (mSeq (mIfS (mNotT (mTst (mCallL 1 (f_is_integer R) (mCons (mVar 0) mNil)))) (mRet (mC (.bl false))) mNext)
      (mRet (mAnd (mOr (mBin oIsN (mVar 1) (mC .non)) (mBin (oCmp fun i j => decide (i ≥ j)) (mVar 0) (mVar 1))) (mOr (mBin oIsN (mVar 2) (mC .non)) (mBin (oCmp fun i j => decide (i ≤ j)) (mVar 0) (mVar 2))))))
def f_is_within (R : Pr) : List Dv → Ms Dv := fnM 0 (m_is_within R)
def m_law_pick (R : Pr) : Sl → Ms Fl := (mRet (mBin oIx (mVar 1) (mCallL 2 (f_law_scratch R) (mCons (mVar 0) (mCons (mCb oLen (mCons (mVar 1) mNil)) mNil)))))
def f_law_pick (R : Pr) : List Dv → Ms Dv := fnM 0 (m_law_pick R)
def m_law_word (R : Pr) : Sl → Ms Fl := (mSeq (mAsg (mLc (mRange1 (mCons (mC (.int 3)) mNil)) (gmName 3) mYes (mBin oMul (mC (.int 2)) (mBin oSub (mCallL 2 (f_law_scratch R) (mCons (mVar 0) (mCons (mBin oAdd (mVar 1) (mC (.int 1))) mNil))) (mBin oDiv (mVar 1) (mC (.int 2))))) [3]) (gmName 2))
      (mSeq (mAsg (mLcM (mWalk (mVar 2)) (gmName 4) mYes (mIf (mTst (mBin (oCmp fun i j => decide (i > j)) (mCallL 2 (f_law_scratch R) (mCons (mVar 0) (mCons (mC (.int 3)) mNil))) (mC (.int 0)))) (mVar 4) (mC (.int 0))) [4]) (gmName 2))
      (mSeq (mIfS (mTst (mBin oEq (mCallL 2 (f_law_scratch R) (mCons (mVar 0) (mCons (mC (.int 2)) mNil))) (mC (.int 0)))) (mSeq (mAsg (mCallL 2 (f_law_scratch R) (mCons (mVar 0) (mCons (mC (.int 3)) mNil))) (gmName 3))
      (mAsg (mBin oAdd (mBin oIx (mVar 2) (mVar 3)) (mIf (mTst (mBin (oCmp fun i j => decide (i < j)) (mBin oIx (mVar 2) (mVar 3)) (mVar 1))) (mC (.int 1)) (mUn oNeg (mC (.int 1))))) (gmSub (mVar 2) (mVar 3)))) mNext)
      (mRet (mCb oTuple (mCons (mVar 2) mNil))))))
def f_law_word (R : Pr) : List Dv → Ms Dv := fnM 3 (m_law_word R)
def m_is_word (R : Pr) : Sl → Ms Fl := (mSeq (mIfS (mOrT (mNotT (mTst (mCallL 1 (f_is_list R) (mCons (mVar 0) mNil)))) (mTst (mBin oNe (mCb oLen (mCons (mVar 0) mNil)) (mC (.int 3))))) (mRet (mC (.bl false))) mNext)
      (mSeq (mIfS (mNotT (mTst (mCb oAll (mCons (mLc (mWalk (mVar 0)) (gmName 1) mYes (mCallL 3 (f_is_within R) (mCons (mVar 1) (mCons (mUn oNeg (mC (.int 24))) (mCons (mC (.int 24)) mNil)))) [1]) mNil)))) (mRet (mC (.bl false))) mNext)
      (mRet (mBin (oCmp fun i j => decide (i < j)) (mCb oLen (mCons (mLc (mWalk (mVar 0)) (gmName 1) (mTst (mBin oEq (mBin oMod (mVar 1) (mC (.int 2))) (mC (.int 1)))) (mVar 1) [1]) mNil)) (mC (.int 2))))))
def f_is_word (R : Pr) : List Dv → Ms Dv := fnM 1 (m_is_word R)
def m_law_bent (R : Pr) : Sl → Ms Fl := (mSeq (mPar 2 3 (mCons (mCallL 2 (f_law_scratch R) (mCons (mVar 0) (mCons (mC (.int 3)) mNil))) (mCons (mCallL 2 (f_law_scratch R) (mCons (mVar 0) (mCons (mC (.int 6)) mNil))) mNil)))
      (mSeq (mIfS (mTst (mBin (oCmp fun i j => decide (i < j)) (mVar 3) (mC (.int 3)))) (mSeq (mAsg (mCallL 2 (f_law_pick R) (mCons (mVar 0) (mCons (mLst (mCons (mC (.int 25)) (mCons (mUn oNeg (mC (.int 25))) (mCons (mC (.int 24)) (mCons (mUn oNeg (mC (.int 24))) (mCons (mC (.int 23)) (mCons (mUn oNeg (mC (.int 23))) (mCons (mC (.int 1)) (mCons (mUn oNeg (mC (.int 1))) (mCons (mBin oAdd (mBin oIx (mVar 1) (mVar 2)) (mC (.int 1))) (mCons (mBin oSub (mBin oIx (mVar 1) (mVar 2)) (mC (.int 1))) (mCons (mC (.int 26)) (mCons (mBin oPow (mC (.int 10)) (mC (.int 20))) mNil))))))))))))) mNil))) (gmName 4))
      (mSeq (mAsg (mBin oAdd (mBin oAdd (mSl (mVar 1) mNoP (mPart (mVar 2))) (mTup (mCons (mVar 4) mNil))) (mSl (mVar 1) (mPart (mBin oAdd (mVar 2) (mC (.int 1)))) mNoP)) (gmName 5))
      (mRet (mTup (mCons (mVar 5) (mCons (mAnd (mBin (oCmp fun i j => decide (i < j)) (mCb oLen (mCons (mLc (mWalk (mVar 5)) (gmName 7) (mTst (mBin oEq (mBin oBit (mVar 7) (mC (.int 1))) (mC (.int 1)))) (mVar 7) [7]) mNil)) (mC (.int 2))) (mBin oEq (mLc (mWalk (mVar 5)) (gmName 7) (mNotT (mTst (mChain (oCmp fun i j => decide (i ≤ j)) (oCmp fun i j => decide (i ≤ j)) (mUn oNeg (mC (.int 24))) (mVar 7) (mC (.int 24))))) (mVar 7) [7]) (mLst mNil))) mNil)))))) mNext)
      (mSeq (mAsg (mLst (mCons (mC .non) (mCons (mC (.int 5)) (mCons (mC (.str "000")) (mCons (mSl (mVar 1) mNoP (mPart (mC (.int 2)))) (mCons (mBin oAdd (mVar 1) (mTup (mCons (mC (.int 0)) mNil))) (mCons (mC (.dik [(0, 1), (1, 2), (2, 3)])) (mCons (mC (.bl true)) (mCons (mBin oAdd (mBin oAdd (mSl (mVar 1) mNoP (mPart (mVar 2))) (mTup (mCons (mC .non) mNil))) (mSl (mVar 1) (mPart (mBin oAdd (mVar 2) (mC (.int 1)))) mNoP)) (mCons (mBin oAdd (mBin oAdd (mSl (mVar 1) mNoP (mPart (mVar 2))) (mTup (mCons (mC (.bl true)) mNil))) (mSl (mVar 1) (mPart (mBin oAdd (mVar 2) (mC (.int 1)))) mNoP)) mNil)))))))))) (gmName 6))
      (mSeq (mAsg (mBin oAdd (mVar 6) (mLst (mCons (mBin oAdd (mBin oAdd (mSl (mVar 1) mNoP (mPart (mVar 2))) (mTup (mCons (mC (.str "2")) mNil))) (mSl (mVar 1) (mPart (mBin oAdd (mVar 2) (mC (.int 1)))) mNoP)) (mCons (mBin oAdd (mBin oAdd (mSl (mVar 1) mNoP (mPart (mVar 2))) (mTup (mCons (mTup (mCons (mC (.int 1)) (mCons (mC (.int 2)) mNil))) mNil))) (mSl (mVar 1) (mPart (mBin oAdd (mVar 2) (mC (.int 1)))) mNoP)) (mCons (mLst (mCons (mCb oList (mCons (mVar 1) mNil)) mNil)) (mCons (mTup mNil) mNil)))))) (gmName 6))
      (mRet (mIf (mTst (mBin oEq (mVar 3) (mC (.int 3)))) (mTup (mCons (mCb oList (mCons (mVar 1) mNil)) (mCons (mC (.bl true)) mNil))) (mTup (mCons (mCallL 2 (f_law_pick R) (mCons (mVar 0) (mCons (mVar 6) mNil))) (mCons (mC (.bl false)) mNil)))))))))
def f_law_bent (R : Pr) : List Dv → Ms Dv := fnM 6 (m_law_bent R)
def m_need_word (R : Pr) : Sl → Ms Fl := (mIfS (mNotT (mTst (mCallL 1 (f_is_word R) (mCons (mVar 0) mNil)))) (mRaise1 0 "part" (mCons (mC (.str "word")) mNil)) mNext)
def f_need_word (R : Pr) : List Dv → Ms Dv := fnM 0 (m_need_word R)
def m_made_of (R : Pr) : Sl → Ms Fl := (mSeq (mDrop (mCall 1 (f_need_word R) (mCons (mVar 0) mNil)))
      (mSeq (mIfS (mTst (mBin oIn (mCb oTuple (mCons (mVar 0) mNil)) (mC (.tup [.tup [.int 0, .int 0, .int 0], .tup [.int 1, .int 0, .int 0], .tup [.int 0, .int 1, .int 0], .tup [.int 0, .int 0, .int 1]])))) (mRet (mC .non)) mNext)
      (mSeq (mAsg (mLc (mRange1 (mCons (mC (.int 3)) mNil)) (gmName 4) (mTst (mBin oNe (mBin oIx (mVar 0) (mVar 4)) (mC (.int 0)))) (mVar 4) [4]) (gmName 1))
      (mSeq (mIfS (mTst (mBin oEq (mCb oLen (mCons (mVar 1) mNil)) (mC (.int 1)))) (mSeq (mAsg (mCallL 1 (f_parts_of_one R) (mCons (mBin oIx (mVar 0) (mBin oIx (mVar 1) (mC (.int 0)))) mNil)) (gmTup 2 (gmCons (gmName 2) (gmCons (gmName 3) gmNil))))
      (mRet (mTup (mCons (mCallL 2 (f_word_at R) (mCons (mBin oIx (mVar 1) (mC (.int 0))) (mCons (mVar 2) mNil))) (mCons (mCallL 2 (f_word_at R) (mCons (mBin oIx (mVar 1) (mC (.int 0))) (mCons (mVar 3) mNil))) mNil))))) mNext)
      (mSeq (mAsg (mBin oIx (mLc (mWalk (mVar 1)) (gmName 6) (mTst (mBin oEq (mBin oMod (mBin oIx (mVar 0) (mVar 6)) (mC (.int 2))) (mC (.int 0)))) (mVar 6) [6]) (mC (.int 0))) (gmName 4))
      (mSeq (mAsg (mLcM (mWalk (mVar 0)) (gmName 7) mYes (mUn oNeg (mVar 7)) [7]) (gmName 5))
      (mSeq (mAsg (mC (.int 0)) (gmSub (mVar 5) (mVar 4)))
      (mRet (mTup (mCons (mCallL 2 (f_word_at R) (mCons (mVar 4) (mCons (mBin oDiv (mBin oIx (mVar 0) (mVar 4)) (mC (.int 2))) mNil))) (mCons (mCb oTuple (mCons (mVar 5) mNil)) mNil)))))))))))
def f_made_of (R : Pr) : List Dv → Ms Dv := fnM 7 (m_made_of R)
def m_law_word_right (R : Pr) : Sl → Ms Fl := (mSeq (mPar 2 3 (mCons (mCallL 1 (f_law_made R) (mCons (mVar 1) mNil)) (mCons (mIf (mTst (mBin oEq (mCallL 2 (f_law_scratch R) (mCons (mVar 0) (mCons (mC (.int 2)) mNil))) (mC (.int 0)))) (mVar 1) (mCb oList (mCons (mVar 1) mNil))) mNil)))
      (mSeq (mIfS (mTst (mBin oNe (mCb oReprV (mCons (mLst (mCons (mCallL 1 (f_is_word R) (mCons (mVar 3) mNil)) (mCons (mCallNL 1 0 1 (f_is_word R) [0] mNil (mCons (mVar 1) mNil)) (mCons (mCallL 1 (f_made_of R) (mCons (mVar 3) mNil)) (mCons (mCallNL 1 0 1 (f_made_of R) [0] mNil (mCons (mVar 1) mNil)) mNil))))) mNil)) (mCb oReprV (mCons (mLst (mCons (mC (.bl true)) (mCons (mC (.bl true)) (mCons (mVar 2) (mCons (mVar 2) mNil))))) mNil)))) (mRet (mC (.bl false))) mNext)
      (mSeq (mIfS (mTst (mBin oIsN (mVar 2) (mC .non))) (mRet (mBin oIn (mCb oSorted (mCons (mVar 1) mNil)) (mTup (mCons (mLst (mCons (mC (.int 0)) (mCons (mC (.int 0)) (mCons (mC (.int 0)) mNil)))) (mCons (mLst (mCons (mC (.int 0)) (mCons (mC (.int 0)) (mCons (mC (.int 1)) mNil)))) mNil))))) mNext)
      (mSeq (mAsg (mCallL 1 (f_made_of R) (mCons (mVar 1) mNil)) (gmTup 2 (gmCons (gmName 4) (gmCons (gmName 5) gmNil))))
      (mSeq (mIfS (mOrT (mTst (mBin oNe (mCb oTuple (mCons (mLc (mZip (mCons (mVar 4) (mCons (mVar 5) mNil))) (gmTup 2 (gmCons (gmName 6) (gmCons (gmName 7) gmNil))) mYes (mBin oSub (mBin oMul (mC (.int 2)) (mVar 6)) (mVar 7)) [6, 7]) mNil)) (mVar 1))) (mTst (mBin oNe (mLst (mCons (mCallL 1 (f_is_word R) (mCons (mVar 4) mNil)) (mCons (mCallL 1 (f_is_word R) (mCons (mVar 5) mNil)) mNil))) (mLst (mCons (mC (.bl true)) (mCons (mC (.bl true)) mNil)))))) (mRet (mC (.bl false))) mNext)
      (mRet (mBin oEq (mLc (mWalk (mVar 5)) (gmName 8) mYes (mBin oBit (mVar 8) (mC (.int 1))) [8]) (mLc (mWalk (mVar 1)) (gmName 8) mYes (mBin oBit (mVar 8) (mC (.int 1))) [8]))))))))
def f_law_word_right (R : Pr) : List Dv → Ms Dv := fnM 7 (m_law_word_right R)
theorem ok_is_list (T : Txt K mg) : FnOk P w K mg base CX0 1 T.a_is_list T.d_is_list ["value"] (spM (pp T) 1 (f_is_list (pp T))) := by
  refine T.F_is_list.ok sc_is_list (fun vs H Q E h => ?_) (fun cdv A outer s H vs Q E hr h => ?_)
  · exact spM_len h
  · have ok := ppOk T
    exact ⟨_, (pss_one (ps_ret (pe_callB call_isiU (by rfl) T.z_isinstance (by decide +kernel) (pa_cons (pv 0) (pa_cons (pe_tup (pa_cons (pe_bltn (v := .ty "list") (by rfl) T.z_list (by decide +kernel) rfl) (pa_cons (pe_bltn (v := .ty "tuple") (by rfl) T.z_tuple (by decide +kernel) rfl) pa_nil))) pa_nil))))),
      run_sims (P := pp T) (ms := m_is_list (pp T)) (k := 0) (sims_ret (sim_cb (cbs_isi ok) (sim_cons sim_var (sim_cons (sim_tup (sim_cons sim_ty (sim_cons sim_ty sim_nil))) sim_nil)))) rfl h⟩
theorem ok_is_integer (T : Txt K mg) : FnOk P w K mg base CX0 1 T.a_is_integer T.d_is_integer ["value"] (spM (pp T) 1 (f_is_integer (pp T))) := by
  refine T.F_is_integer.ok sc_is_integer (fun vs H Q E h => ?_) (fun cdv A outer s H vs Q E hr h => ?_)
  · exact spM_len h
  · have ok := ppOk T
    exact ⟨_, (pss_one (ps_ret (pe_and (pe_callB call_isiU (by rfl) T.z_isinstance (by decide +kernel) (pa_cons (pv 0) (pa_cons (pe_bltn (v := .ty "int") (by rfl) T.z_int (by decide +kernel) rfl) pa_nil))) (pe_one (pe_not (pe_callB call_isiU (by rfl) T.z_isinstance (by decide +kernel) (pa_cons (pv 0) (pa_cons (pe_bltn (v := .ty "bool") (by rfl) T.z_bool (by decide +kernel) rfl) pa_nil)))))))),
      run_sims (P := pp T) (ms := m_is_integer (pp T)) (k := 0) (sims_ret (sim_andV (sim_cb (cbs_isi ok) (sim_cons sim_var (sim_cons sim_ty sim_nil))) (sim_notV (sim_cb (cbs_isi ok) (sim_cons sim_var (sim_cons sim_ty sim_nil)))))) rfl h⟩
theorem ok_parts_of_one (T : Txt K mg) : FnOk P w K mg base CX0 1 T.a_parts_of_one T.d_parts_of_one ["number"] (spM (pp T) 1 (f_parts_of_one (pp T))) := by
  refine T.F_parts_of_one.ok sc_parts_of_one (fun vs H Q E h => ?_) (fun cdv A outer s H vs Q E hr h => ?_)
  · exact spM_len h
  · have ok := ppOk T
    exact ⟨_, (pss_cons (ps_if (pt_cmpR op_lt (pv 0) pe_int (nomark _)) (pss_one (ps_ret (pe_tup (pa_cons pe_int (pa_cons (pe_un un_neg (pv 0)) pa_nil))))) pss_nil)
      (pss_cons (ps_if (pt_cmpR (op_eqU hr.units) (pe_op op_mod (pv 0) pe_int) pe_int (nomark _)) (pss_one (ps_ret (pe_tup (pa_cons (pe_op op_fdivX (pv 0) pe_int) (pa_cons pe_int pa_nil))))) pss_nil)
      (pss_one (ps_ret (pe_tup (pa_cons (pe_op op_fdivX (pe_op op_addU (pv 0) pe_int) pe_int) (pa_cons pe_int pa_nil))))))),
      run_sims (P := pp T) (ms := m_parts_of_one (pp T)) (k := 0) (sims_seq (sims_if (sim_tTest (sim_op ops_cmp sim_var sim_int)) (sims_ret (sim_tup (sim_cons sim_int (sim_cons (sim_un uns_neg sim_var) sim_nil)))) sims_next)
      (sims_seq (sims_if (sim_tTest (sim_op ops_eq (sim_op ops_mod sim_var sim_int) sim_int)) (sims_ret (sim_tup (sim_cons (sim_op ops_div sim_var sim_int) (sim_cons sim_int sim_nil)))) sims_next)
      (sims_ret (sim_tup (sim_cons (sim_op ops_div (sim_op ops_add sim_var sim_int) sim_int) (sim_cons sim_int sim_nil)))))) rfl h⟩
theorem ok_word_at (T : Txt K mg) : FnOk P w K mg base CX0 1 T.a_word_at T.d_word_at ["at", "number"] (spM (pp T) 2 (f_word_at (pp T))) := by
  refine T.F_word_at.ok sc_word_at (fun vs H Q E h => ?_) (fun cdv A outer s H vs Q E hr h => ?_)
  · exact spM_len h
  · have ok := ppOk T
    exact ⟨_, (pss_cons (ps_set (i := 2) sc_word_at.nd rfl (Or.inl rfl) (pe_lst (pa_cons pe_int (pa_cons pe_int (pa_cons pe_int pa_nil)))))
      (pss_cons (ps_asg (pv 1) (pg_sub (pv 2) (pv 0) set_list))
      (pss_one (ps_ret (pe_callTy call_tuple_of (by rfl) T.z_tuple (by decide +kernel) (pa_cons (pv 2) pa_nil)))))),
      run_sims (P := pp T) (ms := m_word_at (pp T)) (k := 1) (sims_seq (sims_asg (sim_lstM (sim_cons sim_int (sim_cons sim_int (sim_cons sim_int sim_nil)))) (simg_name trivial))
      (sims_seq (sims_asg sim_var (simg_sub sim_var sim_var))
      (sims_ret (sim_cb cbs_tuple (sim_cons sim_var sim_nil))))) rfl h⟩
theorem ok_law_quill (T : Txt K mg) : FnOk P w K mg base CX0 1 T.a_law_quill T.d_law_quill ["_law_script"] (spM (pp T) 1 (f_law_quill (pp T))) := by
  refine T.F_law_quill.ok sc_law_quill (fun vs H Q E h => ?_) (fun cdv A outer s H vs Q E hr h => ?_)
  · exact spM_len h
  · have ok := ppOk T
    exact ⟨_, (pss_one (ps_ret (pe_lst (pa_cons (pe_lc (own := [("_law_cell", 1)]) (g := gName 1) rfl sc_law_quill.nd (pi_or (pi_list (pe_slice sl_U (pv 0) po_none (po_some pe_int))) (pi_tup (pe_slice sl_U (pv 0) po_none (po_some pe_int)))) (blkOk_by (N := N_law_quill) (sc := defScope s_law_quill) (by decide +kernel)) (fun _ _ _ _ _ => (pg_name (i := 1) sc_law_quill.nd rfl (Or.inl rfl))) (fun _ _ _ _ _ => pts_nil) (fun _ _ _ _ _ => (pe_callTy call_int1 (by rfl) T.z_int (by decide +kernel) (pa_cons (pv 1) pa_nil)))) (pa_cons pe_int (pa_cons pe_int pa_nil)))))),
      run_sims (P := pp T) (ms := m_law_quill (pp T)) (k := 1) (sims_ret (sim_lstM (sim_cons (sim_lc (sim_walk (sim_sl sim_var sim_noP (sim_part sim_int))) simg_own sim_yes (sim_cb cbs_int (sim_cons sim_var sim_nil))) (sim_cons sim_int (sim_cons sim_int sim_nil))))) rfl h⟩
theorem ok_law_scratch (T : Txt K mg) : FnOk P w K mg base CX0 1 T.a_law_scratch T.d_law_scratch ["_law_quill_here", "_law_many"] (spM (pp T) 2 (f_law_scratch (pp T))) := by
  refine T.F_law_scratch.ok sc_law_scratch (fun vs H Q E h => ?_) (fun cdv A outer s H vs Q E hr h => ?_)
  · exact spM_len h
  · have ok := ppOk T
    exact ⟨_, (pss_cons (ps_if (pt_cmpR op_gt (pe_ix ix_U (pv 0) pe_int (fun _ _ => rfl)) pe_int (nomark _)) (pss_cons (ps_set (i := 2) sc_law_scratch.nd rfl (Or.inl rfl) (pe_ix ix_U (pv 0) pe_int (fun _ _ => rfl)))
      (pss_cons (ps_asg (pe_op op_fdivX (pe_callTy call_int1 (by rfl) T.z_int (by decide +kernel) (pa_cons (pv 2) pa_nil)) (pv 1)) (pg_sub (pv 0) pe_int set_list))
      (pss_one (ps_ret (pe_op op_mod (pe_callTy call_int1 (by rfl) T.z_int (by decide +kernel) (pa_cons (pv 2) pa_nil)) (pv 1)))))) pss_nil)
      (pss_cons (ps_set (i := 3) sc_law_scratch.nd rfl (Or.inl rfl) (pe_ix ix_U (pv 0) pe_int (fun _ _ => rfl)))
      (pss_cons (ps_asg (pe_op op_addU (pv 3) pe_int) (pg_sub (pv 0) pe_int set_list))
      (pss_cons (ps_set (i := 4) sc_law_scratch.nd rfl (Or.inl rfl) (pe_op op_addU (pe_op op_mulU pe_int (pv 3)) pe_int))
      (pss_cons (ps_if (pt_cmpR (op_neU hr.units) (pe_ix ix_U (pv 0) pe_int (fun _ _ => rfl)) (pe_lst pa_nil) (nomark _)) (pss_one (ps_set (i := 4) sc_law_scratch.nd rfl (Or.inl rfl) (pe_ix ix_U (pe_ix ix_U (pv 0) pe_int (fun _ _ => rfl)) (pe_op op_mod (pe_callTy call_int1 (by rfl) T.z_int (by decide +kernel) (pa_cons (pv 3) pa_nil)) (pe_callB call_lenU (by rfl) T.z_len PySem.boot_len (pa_cons (pe_ix ix_U (pv 0) pe_int (fun _ _ => rfl)) pa_nil))) (fun _ _ => rfl)))) pss_nil)
      (pss_cons (ps_if (PW.pt (pw_and (pt_cmpR op_lt (pv 3) (pe_callB call_lenU (by rfl) T.z_len PySem.boot_len (pa_cons (pe_ix ix_U (pv 0) pe_int (fun _ _ => rfl)) pa_nil)) (nomark _)) (pw_and1 (pt_cmpR op_ge (pe_callB call_abs (by rfl) T.z_abs (by decide +kernel) (pa_cons (pv 4) pa_nil)) (pe_op op_powW pe_int pe_int) (nomark _))))) (pss_cons (ps_set (i := 2) sc_law_scratch.nd rfl (Or.inl rfl) (pe_op op_addU (pe_op op_mulU pe_int (pe_op op_subU (pe_callB call_abs (by rfl) T.z_abs (by decide +kernel) (pa_cons (pv 4) pa_nil)) (pe_op op_powW pe_int pe_int))) (pe_callTy call_int1 (by rfl) T.z_int (by decide +kernel) (pa_cons (pe_cmpR op_lt (pv 4) pe_int (nomark _)) pa_nil))))
      (pss_cons (ps_asg (pe_op op_fdivX (pe_callTy call_int1 (by rfl) T.z_int (by decide +kernel) (pa_cons (pv 2) pa_nil)) (pv 1)) (pg_sub (pv 0) pe_int set_list))
      (pss_one (ps_ret (pe_op op_mod (pe_callTy call_int1 (by rfl) T.z_int (by decide +kernel) (pa_cons (pv 2) pa_nil)) (pv 1)))))) pss_nil)
      (pss_cons (ps_set (i := 5) sc_law_scratch.nd rfl (Or.inl rfl) (pe_op op_mod (pe_callTy call_int1 (by rfl) T.z_int (by decide +kernel) (pa_cons (pe_op op_powW (pe_op op_addU (pe_op op_addU (pe_op op_mod (pe_callTy call_int1 (by rfl) T.z_int (by decide +kernel) (pa_cons (pv 4) pa_nil)) pe_int) (pe_op op_mulU pe_int (pv 3))) pe_int) pe_int) pa_nil)) pe_int))
      (pss_cons (ps_set (i := 5) sc_law_scratch.nd rfl (Or.inl rfl) (pe_op op_mod (pe_callTy call_int1 (by rfl) T.z_int (by decide +kernel) (pa_cons (pe_op op_powW (pe_op op_addU (pe_op op_addU (pe_op op_mulU (pv 5) (pe_op op_addU (pe_op op_mulU pe_int (pv 3)) pe_int)) (pe_op op_mulU (pe_op op_mulU pe_int (pv 3)) (pv 3))) pe_int) pe_int) pa_nil)) pe_int))
      (pss_one (ps_ret (pe_op op_mod (pe_callTy call_int1 (by rfl) T.z_int (by decide +kernel) (pa_cons (pe_op op_fdivX (pv 5) pe_int) pa_nil)) (pv 1)))))))))))),
      run_sims (P := pp T) (ms := m_law_scratch (pp T)) (k := 4) (sims_seq (sims_if (sim_tTest (sim_op ops_cmp (sim_op ops_ix sim_var sim_int) sim_int)) (sims_seq (sims_asg (sim_op ops_ix sim_var sim_int) (simg_name trivial))
      (sims_seq (sims_asg (sim_op ops_div (sim_cb cbs_int (sim_cons sim_var sim_nil)) sim_var) (simg_sub sim_var sim_int))
      (sims_ret (sim_op ops_mod (sim_cb cbs_int (sim_cons sim_var sim_nil)) sim_var)))) sims_next)
      (sims_seq (sims_asg (sim_op ops_ix sim_var sim_int) (simg_name trivial))
      (sims_seq (sims_asg (sim_op ops_add sim_var sim_int) (simg_sub sim_var sim_int))
      (sims_seq (sims_asg (sim_op ops_add (sim_op ops_mul sim_int sim_var) sim_int) (simg_name trivial))
      (sims_seq (sims_if (sim_tTest (sim_op ops_ne (sim_op ops_ix sim_var sim_int) (sim_lst sim_nil))) (sims_asg (sim_op ops_ix (sim_op ops_ix sim_var sim_int) (sim_op ops_mod (sim_cb cbs_int (sim_cons sim_var sim_nil)) (sim_cb cbs_len (sim_cons (sim_op ops_ix sim_var sim_int) sim_nil)))) (simg_name trivial)) sims_next)
      (sims_seq (sims_if (sim_andT (sim_tTest (sim_op ops_cmp sim_var (sim_cb cbs_len (sim_cons (sim_op ops_ix sim_var sim_int) sim_nil)))) (sim_tTest (sim_op ops_cmp (sim_cb cbs_abs (sim_cons sim_var sim_nil)) (sim_op ops_pow sim_int sim_int)))) (sims_seq (sims_asg (sim_op ops_add (sim_op ops_mul sim_int (sim_op ops_sub (sim_cb cbs_abs (sim_cons sim_var sim_nil)) (sim_op ops_pow sim_int sim_int))) (sim_cb cbs_int (sim_cons (sim_op ops_cmp sim_var sim_int) sim_nil))) (simg_name trivial))
      (sims_seq (sims_asg (sim_op ops_div (sim_cb cbs_int (sim_cons sim_var sim_nil)) sim_var) (simg_sub sim_var sim_int))
      (sims_ret (sim_op ops_mod (sim_cb cbs_int (sim_cons sim_var sim_nil)) sim_var)))) sims_next)
      (sims_seq (sims_asg (sim_op ops_mod (sim_cb cbs_int (sim_cons (sim_op ops_pow (sim_op ops_add (sim_op ops_add (sim_op ops_mod (sim_cb cbs_int (sim_cons sim_var sim_nil)) sim_int) (sim_op ops_mul sim_int sim_var)) sim_int) sim_int) sim_nil)) sim_int) (simg_name trivial))
      (sims_seq (sims_asg (sim_op ops_mod (sim_cb cbs_int (sim_cons (sim_op ops_pow (sim_op ops_add (sim_op ops_add (sim_op ops_mul sim_var (sim_op ops_add (sim_op ops_mul sim_int sim_var) sim_int)) (sim_op ops_mul (sim_op ops_mul sim_int sim_var) sim_var)) sim_int) sim_int) sim_nil)) sim_int) (simg_name trivial))
      (sims_ret (sim_op ops_mod (sim_cb cbs_int (sim_cons (sim_op ops_div sim_var sim_int) sim_nil)) sim_var)))))))))) rfl h⟩
theorem ok_law_made (T : Txt K mg) : FnOk P w K mg base CX0 1 T.a_law_made T.d_law_made ["_law_word_here"] (spM (pp T) 1 (f_law_made (pp T))) := by
  refine T.F_law_made.ok sc_law_made (fun vs H Q E h => ?_) (fun cdv A outer s H vs Q E hr h => ?_)
  · exact spM_len h
  · have ok := ppOk T
    exact ⟨_, (pss_cons (ps_if (pt_cmpR (op_inU (units65 hr)) (pv 0) (pe_tup (pa_cons (pe_tup (pa_cons pe_int (pa_cons pe_int (pa_cons pe_int pa_nil)))) (pa_cons (pe_tup (pa_cons pe_int (pa_cons pe_int (pa_cons pe_int pa_nil)))) (pa_cons (pe_tup (pa_cons pe_int (pa_cons pe_int (pa_cons pe_int pa_nil)))) (pa_cons (pe_tup (pa_cons pe_int (pa_cons pe_int (pa_cons pe_int pa_nil)))) pa_nil))))) (by rfl)) (pss_one (ps_ret pe_non)) pss_nil)
      (pss_cons (ps_setLc (i := 1) (own := [("_law_at", 6)]) (g := gName 6) rfl sc_law_made.nd rfl rfl (sw_true rfl rfl rfl (by decide +kernel)) (pi_range1 (by rfl) T.z_range (pa_cons pe_int pa_nil)) (blkOk_by (N := N_law_made) (sc := defScope s_law_made) (by decide +kernel)) (fun _ _ _ _ _ => (pg_name (i := 6) sc_law_made.nd rfl (Or.inl rfl))) (fun _ _ _ _ _ => pts_one (pt_cmpR (op_neU hr.units) (pe_ix ix_U (pv 0) (pv 6) (fun _ _ => rfl)) pe_int (nomark _))) (fun _ _ _ _ _ => (pv 6)))
      (pss_cons (ps_set (i := 2) sc_law_made.nd rfl (Or.inr rfl) (pe_ifExp (pt_cmpR (op_eqU hr.units) (pe_callB call_lenU (by rfl) T.z_len PySem.boot_len (pa_cons (pv 1) pa_nil)) pe_int (nomark _)) (pe_ix ix_U (pv 1) pe_int (fun _ _ => rfl)) (pe_ix ix_U (pe_lc (own := [("_law_at", 6)]) (g := gName 6) rfl sc_law_made.nd (pi_or (pi_list (pv 1)) (pi_tup (pv 1))) (blkOk_by (N := N_law_made) (sc := defScope s_law_made) (by decide +kernel)) (fun _ _ _ _ _ => (pg_name (i := 6) sc_law_made.nd rfl (Or.inl rfl))) (fun _ _ _ _ _ => pts_one (pt_cmpR (op_eqU hr.units) (pe_op op_and (pe_ix ix_U (pv 0) (pv 6) (fun _ _ => rfl)) pe_int) pe_int (nomark _))) (fun _ _ _ _ _ => (pv 6))) pe_int (fun _ _ => rfl))))
      (pss_cons (ps_par3 (i := 3) (j := 4) (l := 5) rfl sc_law_made.nd rfl rfl rfl (by decide) (by decide) (by decide) rfl rfl rfl (pa_cons (pe_ix ix_U (pv 0) (pv 2) (fun _ _ => rfl)) (pa_cons (pe_lst (pa_cons pe_int (pa_cons pe_int (pa_cons pe_int pa_nil)))) (pa_cons (pe_lst (pa_cons pe_int (pa_cons pe_int (pa_cons pe_int pa_nil)))) pa_nil))) (by rfl))
      (pss_cons (ps_if (pt_cmpR op_gt (pe_callB call_lenU (by rfl) T.z_len PySem.boot_len (pa_cons (pv 1) pa_nil)) pe_int (nomark _)) (pss_cons (ps_asg (pe_op op_fdivX (pe_callTy call_int1 (by rfl) T.z_int (by decide +kernel) (pa_cons (pv 3) pa_nil)) pe_int) (pg_sub (pv 4) (pv 2) set_list))
      (pss_one (ps_setLc (i := 5) (own := [("_law_at", 6)]) (g := gName 6) rfl sc_law_made.nd rfl rfl (sw_true rfl rfl rfl (by decide +kernel)) (pi_range1 (by rfl) T.z_range (pa_cons pe_int pa_nil)) (blkOk_by (N := N_law_made) (sc := defScope s_law_made) (by decide +kernel)) (fun _ _ _ _ _ => (pg_name (i := 6) sc_law_made.nd rfl (Or.inl rfl))) (fun _ _ _ _ _ => pts_nil) (fun _ _ _ _ _ => (pe_ifExp (pt_cmpR (op_eqU hr.units) (pv 6) (pv 2) (nomark _)) pe_int (pe_un un_neg (pe_ix ix_U (pv 0) (pv 6) (fun _ _ => rfl)))))))) (pss_one (ps_if (pt_cmpR op_lt (pv 3) pe_int (nomark _)) (pss_one (ps_asg (pe_un un_neg (pv 3)) (pg_sub (pv 5) (pv 2) set_list))) (pss_one (ps_asg (pe_tup (pa_cons (pe_op op_fdivX (pe_op op_addU (pv 3) pe_int) pe_int) (pa_cons (pe_op op_and (pv 3) pe_int) pa_nil))) (pg_or (pg_unl rfl (pgs_cons (pg_sub (pv 4) (pv 2) set_list) (pgs_cons (pg_sub (pv 5) (pv 2) set_list) pgs_nil))) (pg_tup rfl (pgs_cons (pg_sub (pv 4) (pv 2) set_list) (pgs_cons (pg_sub (pv 5) (pv 2) set_list) pgs_nil)))))))))
      (pss_one (ps_ret (pe_tup (pa_cons (pe_callTy call_tuple_of (by rfl) T.z_tuple (by decide +kernel) (pa_cons (pv 4) pa_nil)) (pa_cons (pe_callTy call_tuple_of (by rfl) T.z_tuple (by decide +kernel) (pa_cons (pv 5) pa_nil)) pa_nil)))))))))),
      run_sims (P := pp T) (ms := m_law_made (pp T)) (k := 6) (sims_seq (sims_if (sim_tTest (sim_op ops_in sim_var (sim_tup (sim_cons (sim_tup (sim_cons sim_int (sim_cons sim_int (sim_cons sim_int sim_nil)))) (sim_cons (sim_tup (sim_cons sim_int (sim_cons sim_int (sim_cons sim_int sim_nil)))) (sim_cons (sim_tup (sim_cons sim_int (sim_cons sim_int (sim_cons sim_int sim_nil)))) (sim_cons (sim_tup (sim_cons sim_int (sim_cons sim_int (sim_cons sim_int sim_nil)))) sim_nil))))))) (sims_ret sim_non) sims_next)
      (sims_seq (sims_asg (sim_lc (sim_range1 (sim_cons sim_int sim_nil)) simg_own (sim_tTest (sim_op ops_ne (sim_op ops_ix sim_var sim_var) sim_int)) sim_var) (simg_name trivial))
      (sims_seq (sims_asg (sim_if (sim_tTest (sim_op ops_eq (sim_cb cbs_len (sim_cons sim_var sim_nil)) sim_int)) (sim_op ops_ix sim_var sim_int) (sim_op ops_ix (sim_lc (sim_walk sim_var) simg_own (sim_tTest (sim_op ops_eq (sim_op ops_bit (sim_op ops_ix sim_var sim_var) sim_int) sim_int)) sim_var) sim_int)) (simg_name trivial))
      (sims_seq (sims_par3 (sim_cons (sim_op ops_ix sim_var sim_var) (sim_cons (sim_lstM (sim_cons sim_int (sim_cons sim_int (sim_cons sim_int sim_nil)))) (sim_cons (sim_lstM (sim_cons sim_int (sim_cons sim_int (sim_cons sim_int sim_nil)))) sim_nil))))
      (sims_seq (sims_if (sim_tTest (sim_op ops_cmp (sim_cb cbs_len (sim_cons sim_var sim_nil)) sim_int)) (sims_seq (sims_asg (sim_op ops_div (sim_cb cbs_int (sim_cons sim_var sim_nil)) sim_int) (simg_sub sim_var sim_var))
      (sims_asg (sim_lc (sim_range1 (sim_cons sim_int sim_nil)) simg_own sim_yes (sim_if (sim_tTest (sim_op ops_eq sim_var sim_var)) sim_int (sim_un uns_neg (sim_op ops_ix sim_var sim_var)))) (simg_name trivial))) (sims_if (sim_tTest (sim_op ops_cmp sim_var sim_int)) (sims_asg (sim_un uns_neg sim_var) (simg_sub sim_var sim_var)) (sims_asg (sim_tup (sim_cons (sim_op ops_div (sim_op ops_add sim_var sim_int) sim_int) (sim_cons (sim_op ops_bit sim_var sim_int) sim_nil))) (simg_tup (simg_cons (simg_sub sim_var sim_var) (simg_cons (simg_sub sim_var sim_var) simg_nil))))))
      (sims_ret (sim_tup (sim_cons (sim_cb cbs_tuple (sim_cons sim_var sim_nil)) (sim_cons (sim_cb cbs_tuple (sim_cons sim_var sim_nil)) sim_nil))))))))) rfl h⟩
theorem ok_is_within (T : Txt K mg) : FnOk P w K mg base CX0 2 T.a_is_within T.d_is_within ["value", "least", "most"] (spM (pp T) 3 (f_is_within (pp T))) := by
  have G_is_integer := ok_is_integer (P := P) (w := w) (base := base) T
  refine T.F_is_within.ok sc_is_within (fun vs H Q E h => ?_) (fun cdv A outer s H vs Q E hr h => ?_)
  · exact spM_len h
  · have ok := ppOk T
    exact ⟨_, (pss_cons (ps_if (pt_not (pt_val (pe_call G_is_integer (hr.mono (by decide)) (by rfl) T.m_is_integer T.F_is_integer.kp (b_is_integer T) .nil pass0 (pa_cons (pv 0) pa_nil)))) (pss_one (ps_ret pe_bl)) pss_nil)
      (pss_one (ps_ret (pe_and (pe_or (pe_cmpR op_isN (pv 1) pe_non (nomark _)) (pe_one (pe_cmpR op_ge (pv 0) (pv 1) (nomark _)))) (pe_one (pe_or (pe_cmpR op_isN (pv 2) pe_non (nomark _)) (pe_one (pe_cmpR op_le (pv 0) (pv 2) (nomark _))))))))),
      run_sims (P := pp T) (ms := m_is_within (pp T)) (k := 0) (sims_seq (sims_if (sim_notT (sim_tB (sim_callL (sim_cons sim_var sim_nil)))) (sims_ret sim_bl) sims_next)
      (sims_ret (sim_andV (sim_orV (sim_op ops_isN sim_var sim_non) (sim_op ops_cmp sim_var sim_var)) (sim_orV (sim_op ops_isN sim_var sim_non) (sim_op ops_cmp sim_var sim_var))))) rfl h⟩
theorem ok_law_pick (T : Txt K mg) : FnOk P w K mg base CX0 2 T.a_law_pick T.d_law_pick ["_law_quill_here", "_law_some"] (spM (pp T) 2 (f_law_pick (pp T))) := by
  have G_law_scratch := ok_law_scratch (P := P) (w := w) (base := base) T
  refine T.F_law_pick.ok sc_law_pick (fun vs H Q E h => ?_) (fun cdv A outer s H vs Q E hr h => ?_)
  · exact spM_len h
  · have ok := ppOk T
    exact ⟨_, (pss_one (ps_ret (pe_ix ix_U (pv 1) (pe_call G_law_scratch (hr.mono (by decide)) (by rfl) T.m_law_scratch T.F_law_scratch.kp (b_law_scratch T) .nil pass0 (pa_cons (pv 0) (pa_cons (pe_callB call_lenU (by rfl) T.z_len PySem.boot_len (pa_cons (pv 1) pa_nil)) pa_nil))) (fun _ _ => rfl)))),
      run_sims (P := pp T) (ms := m_law_pick (pp T)) (k := 0) (sims_ret (sim_op ops_ix sim_var (sim_callL (sim_cons sim_var (sim_cons (sim_cb cbs_len (sim_cons sim_var sim_nil)) sim_nil))))) rfl h⟩
theorem ok_law_word (T : Txt K mg) : FnOk P w K mg base CX0 2 T.a_law_word T.d_law_word ["_law_quill_here", "_law_most"] (spM (pp T) 2 (f_law_word (pp T))) := by
  have G_law_scratch := ok_law_scratch (P := P) (w := w) (base := base) T
  refine T.F_law_word.ok sc_law_word (fun vs H Q E h => ?_) (fun cdv A outer s H vs Q E hr h => ?_)
  · exact spM_len h
  · have ok := ppOk T
    exact ⟨_, (pss_cons (ps_setLc (i := 2) (own := [("_law_spot", 3)]) (g := gName 3) rfl sc_law_word.nd rfl rfl (sw_true rfl rfl rfl (by decide +kernel)) (pi_range1 (by rfl) T.z_range (pa_cons pe_int pa_nil)) (blkOk_by (N := N_law_word) (sc := defScope s_law_word) (by decide +kernel)) (fun _ _ _ _ _ => (pg_name (i := 3) sc_law_word.nd rfl (Or.inl rfl))) (fun _ _ _ _ _ => pts_nil) (fun _ _ _ _ _ => (pe_op op_mulU pe_int (pe_op op_subU (pe_call G_law_scratch (hr.mono (by decide)) (by rfl) T.m_law_scratch T.F_law_scratch.kp (b_law_scratch T) .nil pass0 (pa_cons (pv 0) (pa_cons (pe_op op_addU (pv 1) pe_int) pa_nil))) (pe_op op_fdivX (pv 1) pe_int)))))
      (pss_cons (ps_setLc (i := 2) (own := [("_law_each", 4)]) (g := gName 4) rfl sc_law_word.nd rfl rfl (sw_true rfl rfl rfl (by decide +kernel)) (pi_or (pi_list (pv 2)) (pi_tup (pv 2))) (blkOk_by (N := N_law_word) (sc := defScope s_law_word) (by decide +kernel)) (fun _ _ _ _ _ => (pg_name (i := 4) sc_law_word.nd rfl (Or.inl rfl))) (fun _ _ _ _ _ => pts_nil) (fun _ _ _ _ _ => (pe_ifExp (pt_cmpR op_gt (pe_call G_law_scratch (hr.mono (by decide)) (by rfl) T.m_law_scratch T.F_law_scratch.kp (b_law_scratch T) .nil pass0 (pa_cons (pv 0) (pa_cons pe_int pa_nil))) pe_int (nomark _)) (pv 4) pe_int)))
      (pss_cons (ps_if (pt_cmpR (op_eqU hr.units) (pe_call G_law_scratch (hr.mono (by decide)) (by rfl) T.m_law_scratch T.F_law_scratch.kp (b_law_scratch T) .nil pass0 (pa_cons (pv 0) (pa_cons pe_int pa_nil))) pe_int (nomark _)) (pss_cons (ps_set (i := 3) sc_law_word.nd rfl (Or.inl rfl) (pe_call G_law_scratch (hr.mono (by decide)) (by rfl) T.m_law_scratch T.F_law_scratch.kp (b_law_scratch T) .nil pass0 (pa_cons (pv 0) (pa_cons pe_int pa_nil))))
      (pss_one (ps_asg (pe_op op_addU (pe_ix ix_U (pv 2) (pv 3) (fun _ _ => rfl)) (pe_ifExp (pt_cmpR op_lt (pe_ix ix_U (pv 2) (pv 3) (fun _ _ => rfl)) (pv 1) (nomark _)) pe_int (pe_un un_neg pe_int))) (pg_sub (pv 2) (pv 3) set_list)))) pss_nil)
      (pss_one (ps_ret (pe_callTy call_tuple_of (by rfl) T.z_tuple (by decide +kernel) (pa_cons (pv 2) pa_nil))))))),
      run_sims (P := pp T) (ms := m_law_word (pp T)) (k := 3) (sims_seq (sims_asg (sim_lc (sim_range1 (sim_cons sim_int sim_nil)) simg_own sim_yes (sim_op ops_mul sim_int (sim_op ops_sub (sim_callL (sim_cons sim_var (sim_cons (sim_op ops_add sim_var sim_int) sim_nil))) (sim_op ops_div sim_var sim_int)))) (simg_name trivial))
      (sims_seq (sims_asg (sim_lcM (sim_walk sim_var) simg_own sim_yes (sim_if (sim_tTest (sim_op ops_cmp (sim_callL (sim_cons sim_var (sim_cons sim_int sim_nil))) sim_int)) sim_var sim_int)) (simg_name trivial))
      (sims_seq (sims_if (sim_tTest (sim_op ops_eq (sim_callL (sim_cons sim_var (sim_cons sim_int sim_nil))) sim_int)) (sims_seq (sims_asg (sim_callL (sim_cons sim_var (sim_cons sim_int sim_nil))) (simg_name trivial))
      (sims_asg (sim_op ops_add (sim_op ops_ix sim_var sim_var) (sim_if (sim_tTest (sim_op ops_cmp (sim_op ops_ix sim_var sim_var) sim_var)) sim_int (sim_un uns_neg sim_int))) (simg_sub sim_var sim_var))) sims_next)
      (sims_ret (sim_cb cbs_tuple (sim_cons sim_var sim_nil)))))) rfl h⟩
theorem ok_is_word (T : Txt K mg) : FnOk P w K mg base CX0 3 T.a_is_word T.d_is_word ["value"] (spM (pp T) 1 (f_is_word (pp T))) := by
  have G_is_list := ok_is_list (P := P) (w := w) (base := base) T
  have G_is_within := ok_is_within (P := P) (w := w) (base := base) T
  refine T.F_is_word.ok sc_is_word (fun vs H Q E h => ?_) (fun cdv A outer s H vs Q E hr h => ?_)
  · exact spM_len h
  · have ok := ppOk T
    exact ⟨_, (pss_cons (ps_if (PW.pt (pw_or (pt_not (pt_val (pe_call G_is_list (hr.mono (by decide)) (by rfl) T.m_is_list T.F_is_list.kp (b_is_list T) .nil pass0 (pa_cons (pv 0) pa_nil)))) (pw_or1 (pt_cmpR (op_neU hr.units) (pe_callB call_lenU (by rfl) T.z_len PySem.boot_len (pa_cons (pv 0) pa_nil)) pe_int (nomark _))))) (pss_one (ps_ret pe_bl)) pss_nil)
      (pss_cons (ps_if (pt_not (pt_val (pe_callB (cr_all rfl) (by rfl) T.z_all (by decide +kernel) (pa_cons (pe_lc (own := [("number", 1)]) (g := gName 1) rfl sc_is_word.nd (pi_or (pi_list (pv 0)) (pi_tup (pv 0))) (blkOk_by (N := N_is_word) (sc := defScope s_is_word) (by decide +kernel)) (fun _ _ _ _ _ => (pg_name (i := 1) sc_is_word.nd rfl (Or.inl rfl))) (fun _ _ _ _ _ => pts_nil) (fun _ _ _ _ _ => (pe_call G_is_within (hr.mono (by decide)) (by rfl) T.m_is_within T.F_is_within.kp (b_is_within T) .nil pass0 (pa_cons (pv 1) (pa_cons (pe_un un_neg (pe_glob (v := .int 24) (by rfl) T.m_MOST_NUMBER ⟨_, rfl⟩)) (pa_cons (pe_glob (v := .int 24) (by rfl) T.m_MOST_NUMBER ⟨_, rfl⟩) pa_nil)))))) pa_nil)))) (pss_one (ps_ret pe_bl)) pss_nil)
      (pss_one (ps_ret (pe_cmpR op_lt (pe_callB call_lenU (by rfl) T.z_len PySem.boot_len (pa_cons (pe_lc (own := [("number", 1)]) (g := gName 1) rfl sc_is_word.nd (pi_or (pi_list (pv 0)) (pi_tup (pv 0))) (blkOk_by (N := N_is_word) (sc := defScope s_is_word) (by decide +kernel)) (fun _ _ _ _ _ => (pg_name (i := 1) sc_is_word.nd rfl (Or.inl rfl))) (fun _ _ _ _ _ => pts_one (pt_cmpR (op_eqU hr.units) (pe_op op_mod (pv 1) pe_int) pe_int (nomark _))) (fun _ _ _ _ _ => (pv 1))) pa_nil)) pe_int (nomark _)))))),
      run_sims (P := pp T) (ms := m_is_word (pp T)) (k := 1) (sims_seq (sims_if (sim_orT (sim_notT (sim_tB (sim_callL (sim_cons sim_var sim_nil)))) (sim_tTest (sim_op ops_ne (sim_cb cbs_len (sim_cons sim_var sim_nil)) sim_int))) (sims_ret sim_bl) sims_next)
      (sims_seq (sims_if (sim_notT (sim_tB (sim_cb cbs_all (sim_cons (sim_lc (sim_walk sim_var) simg_own sim_yes (sim_callL (sim_cons sim_var (sim_cons (sim_un uns_neg sim_int) (sim_cons sim_int sim_nil))))) sim_nil)))) (sims_ret sim_bl) sims_next)
      (sims_ret (sim_op ops_cmp (sim_cb cbs_len (sim_cons (sim_lc (sim_walk sim_var) simg_own (sim_tTest (sim_op ops_eq (sim_op ops_mod sim_var sim_int) sim_int)) sim_var) sim_nil)) sim_int)))) rfl h⟩
theorem ok_law_bent (T : Txt K mg) : FnOk P w K mg base CX0 3 T.a_law_bent T.d_law_bent ["_law_quill_here", "_law_word_here"] (spM (pp T) 2 (f_law_bent (pp T))) := by
  have G_law_scratch := ok_law_scratch (P := P) (w := w) (base := base) T
  have G_law_pick := ok_law_pick (P := P) (w := w) (base := base) T
  refine T.F_law_bent.ok sc_law_bent (fun vs H Q E h => ?_) (fun cdv A outer s H vs Q E hr h => ?_)
  · exact spM_len h
  · have ok := ppOk T
    exact ⟨_, (pss_cons (ps_par (i := 2) (j := 3) rfl sc_law_bent.nd rfl rfl (by decide) rfl rfl (pa_cons (pe_call G_law_scratch (hr.mono (by decide)) (by rfl) T.m_law_scratch T.F_law_scratch.kp (b_law_scratch T) .nil pass0 (pa_cons (pv 0) (pa_cons pe_int pa_nil))) (pa_cons (pe_call G_law_scratch (hr.mono (by decide)) (by rfl) T.m_law_scratch T.F_law_scratch.kp (b_law_scratch T) .nil pass0 (pa_cons (pv 0) (pa_cons pe_int pa_nil))) pa_nil)) (by rfl))
      (pss_cons (ps_if (pt_cmpR op_lt (pv 3) pe_int (nomark _)) (pss_cons (ps_set (i := 4) sc_law_bent.nd rfl (Or.inl rfl) (pe_call G_law_pick (hr.mono (by decide)) (by rfl) T.m_law_pick T.F_law_pick.kp (b_law_pick T) .nil pass0 (pa_cons (pv 0) (pa_cons (pe_lst (pa_cons pe_int (pa_cons (pe_un un_neg pe_int) (pa_cons pe_int (pa_cons (pe_un un_neg pe_int) (pa_cons pe_int (pa_cons (pe_un un_neg pe_int) (pa_cons pe_int (pa_cons (pe_un un_neg pe_int) (pa_cons (pe_op op_addU (pe_ix ix_U (pv 1) (pv 2) (fun _ _ => rfl)) pe_int) (pa_cons (pe_op op_subU (pe_ix ix_U (pv 1) (pv 2) (fun _ _ => rfl)) pe_int) (pa_cons pe_int (pa_cons (pe_op op_powW pe_int pe_int) pa_nil))))))))))))) pa_nil))))
      (pss_cons (ps_set (i := 5) sc_law_bent.nd rfl (Or.inl rfl) (pe_op op_addU (pe_op op_addU (pe_slice sl_U (pv 1) po_none (po_some (pv 2))) (pe_tup (pa_cons (pv 4) pa_nil))) (pe_slice sl_U (pv 1) (po_some (pe_op op_addU (pv 2) pe_int)) po_none)))
      (pss_one (ps_ret (pe_tup (pa_cons (pv 5) (pa_cons (pe_and (pe_cmpR op_lt (pe_callB call_lenU (by rfl) T.z_len PySem.boot_len (pa_cons (pe_lc (own := [("_law_each", 7)]) (g := gName 7) rfl sc_law_bent.nd (pi_or (pi_list (pv 5)) (pi_tup (pv 5))) (blkOk_by (N := N_law_bent) (sc := defScope s_law_bent) (by decide +kernel)) (fun _ _ _ _ _ => (pg_name (i := 7) sc_law_bent.nd rfl (Or.inl rfl))) (fun _ _ _ _ _ => pts_one (pt_cmpR (op_eqU hr.units) (pe_op op_and (pv 7) pe_int) pe_int (nomark _))) (fun _ _ _ _ _ => (pv 7))) pa_nil)) pe_int (nomark _)) (pe_one (pe_cmpR (op_eqU hr.units) (pe_lc (own := [("_law_each", 7)]) (g := gName 7) rfl sc_law_bent.nd (pi_or (pi_list (pv 5)) (pi_tup (pv 5))) (blkOk_by (N := N_law_bent) (sc := defScope s_law_bent) (by decide +kernel)) (fun _ _ _ _ _ => (pg_name (i := 7) sc_law_bent.nd rfl (Or.inl rfl))) (fun _ _ _ _ _ => pts_one (pt_not (pt_chain op_le op_le (pe_un un_neg pe_int) (pv 7) pe_int))) (fun _ _ _ _ _ => (pv 7))) (pe_lst pa_nil) (nomark _)))) pa_nil))))))) pss_nil)
      (pss_cons (ps_set (i := 6) sc_law_bent.nd rfl (Or.inl rfl) (pe_lst (pa_cons pe_non (pa_cons pe_int (pa_cons pe_str (pa_cons (pe_slice sl_U (pv 1) po_none (po_some pe_int)) (pa_cons (pe_op op_addU (pv 1) (pe_tup (pa_cons pe_int pa_nil))) (pa_cons (pe_disp (pps_cons pe_int pe_int (pps_cons pe_int pe_int (pps_cons pe_int pe_int pps_nil))) (by rfl) (by rfl) (fun z => by cases z) (by decide)) (pa_cons pe_bl (pa_cons (pe_op op_addU (pe_op op_addU (pe_slice sl_U (pv 1) po_none (po_some (pv 2))) (pe_tup (pa_cons pe_non pa_nil))) (pe_slice sl_U (pv 1) (po_some (pe_op op_addU (pv 2) pe_int)) po_none)) (pa_cons (pe_op op_addU (pe_op op_addU (pe_slice sl_U (pv 1) po_none (po_some (pv 2))) (pe_tup (pa_cons pe_bl pa_nil))) (pe_slice sl_U (pv 1) (po_some (pe_op op_addU (pv 2) pe_int)) po_none)) pa_nil)))))))))))
      (pss_cons (ps_set (i := 6) sc_law_bent.nd rfl (Or.inl rfl) (pe_op op_addU (pv 6) (pe_lst (pa_cons (pe_op op_addU (pe_op op_addU (pe_slice sl_U (pv 1) po_none (po_some (pv 2))) (pe_tup (pa_cons pe_str pa_nil))) (pe_slice sl_U (pv 1) (po_some (pe_op op_addU (pv 2) pe_int)) po_none)) (pa_cons (pe_op op_addU (pe_op op_addU (pe_slice sl_U (pv 1) po_none (po_some (pv 2))) (pe_tup (pa_cons (pe_tup (pa_cons pe_int (pa_cons pe_int pa_nil))) pa_nil))) (pe_slice sl_U (pv 1) (po_some (pe_op op_addU (pv 2) pe_int)) po_none)) (pa_cons (pe_lst (pa_cons (pe_callTy call_list_of (by rfl) T.z_list (by decide +kernel) (pa_cons (pv 1) pa_nil)) pa_nil)) (pa_cons (pe_tup pa_nil) pa_nil)))))))
      (pss_one (ps_ret (pe_ifExp (pt_cmpR (op_eqU hr.units) (pv 3) pe_int (nomark _)) (pe_tup (pa_cons (pe_callTy call_list_of (by rfl) T.z_list (by decide +kernel) (pa_cons (pv 1) pa_nil)) (pa_cons pe_bl pa_nil))) (pe_tup (pa_cons (pe_call G_law_pick (hr.mono (by decide)) (by rfl) T.m_law_pick T.F_law_pick.kp (b_law_pick T) .nil pass0 (pa_cons (pv 0) (pa_cons (pv 6) pa_nil))) (pa_cons pe_bl pa_nil)))))))))),
      run_sims (P := pp T) (ms := m_law_bent (pp T)) (k := 6) (sims_seq (sims_par (sim_cons (sim_callL (sim_cons sim_var (sim_cons sim_int sim_nil))) (sim_cons (sim_callL (sim_cons sim_var (sim_cons sim_int sim_nil))) sim_nil)))
      (sims_seq (sims_if (sim_tTest (sim_op ops_cmp sim_var sim_int)) (sims_seq (sims_asg (sim_callL (sim_cons sim_var (sim_cons (sim_lst (sim_cons sim_int (sim_cons (sim_un uns_neg sim_int) (sim_cons sim_int (sim_cons (sim_un uns_neg sim_int) (sim_cons sim_int (sim_cons (sim_un uns_neg sim_int) (sim_cons sim_int (sim_cons (sim_un uns_neg sim_int) (sim_cons (sim_op ops_add (sim_op ops_ix sim_var sim_var) sim_int) (sim_cons (sim_op ops_sub (sim_op ops_ix sim_var sim_var) sim_int) (sim_cons sim_int (sim_cons (sim_op ops_pow sim_int sim_int) sim_nil))))))))))))) sim_nil))) (simg_name trivial))
      (sims_seq (sims_asg (sim_op ops_add (sim_op ops_add (sim_sl sim_var sim_noP (sim_part sim_var)) (sim_tup (sim_cons sim_var sim_nil))) (sim_sl sim_var (sim_part (sim_op ops_add sim_var sim_int)) sim_noP)) (simg_name trivial))
      (sims_ret (sim_tup (sim_cons sim_var (sim_cons (sim_andV (sim_op ops_cmp (sim_cb cbs_len (sim_cons (sim_lc (sim_walk sim_var) simg_own (sim_tTest (sim_op ops_eq (sim_op ops_bit sim_var sim_int) sim_int)) sim_var) sim_nil)) sim_int) (sim_op ops_eq (sim_lc (sim_walk sim_var) simg_own (sim_notT (sim_tTest (sim_chain ops_cmp ops_cmp (sim_un uns_neg sim_int) sim_var sim_int))) sim_var) (sim_lst sim_nil))) sim_nil)))))) sims_next)
      (sims_seq (sims_asg (sim_lst (sim_cons sim_non (sim_cons sim_int (sim_cons sim_str (sim_cons (sim_sl sim_var sim_noP (sim_part sim_int)) (sim_cons (sim_op ops_add sim_var (sim_tup (sim_cons sim_int sim_nil))) (sim_cons (sim_dik (l := [(0, 1), (1, 2), (2, 3)]) (by decide) (by rfl)) (sim_cons sim_bl (sim_cons (sim_op ops_add (sim_op ops_add (sim_sl sim_var sim_noP (sim_part sim_var)) (sim_tup (sim_cons sim_non sim_nil))) (sim_sl sim_var (sim_part (sim_op ops_add sim_var sim_int)) sim_noP)) (sim_cons (sim_op ops_add (sim_op ops_add (sim_sl sim_var sim_noP (sim_part sim_var)) (sim_tup (sim_cons sim_bl sim_nil))) (sim_sl sim_var (sim_part (sim_op ops_add sim_var sim_int)) sim_noP)) sim_nil)))))))))) (simg_name trivial))
      (sims_seq (sims_asg (sim_op ops_add sim_var (sim_lst (sim_cons (sim_op ops_add (sim_op ops_add (sim_sl sim_var sim_noP (sim_part sim_var)) (sim_tup (sim_cons sim_str sim_nil))) (sim_sl sim_var (sim_part (sim_op ops_add sim_var sim_int)) sim_noP)) (sim_cons (sim_op ops_add (sim_op ops_add (sim_sl sim_var sim_noP (sim_part sim_var)) (sim_tup (sim_cons (sim_tup (sim_cons sim_int (sim_cons sim_int sim_nil))) sim_nil))) (sim_sl sim_var (sim_part (sim_op ops_add sim_var sim_int)) sim_noP)) (sim_cons (sim_lst (sim_cons (sim_cb cbs_list (sim_cons sim_var sim_nil)) sim_nil)) (sim_cons (sim_tup sim_nil) sim_nil)))))) (simg_name trivial))
      (sims_ret (sim_if (sim_tTest (sim_op ops_eq sim_var sim_int)) (sim_tup (sim_cons (sim_cb cbs_list (sim_cons sim_var sim_nil)) (sim_cons sim_bl sim_nil))) (sim_tup (sim_cons (sim_callL (sim_cons sim_var (sim_cons sim_var sim_nil))) (sim_cons sim_bl sim_nil))))))))) rfl h⟩
theorem ok_need_word (T : Txt K mg) : FnOk P w K mg base (L2.CX P w) 4 T.a_need_word T.d_need_word ["value"] (spM (pp T) 1 (f_need_word (pp T))) := by
  have G_is_word := ok_is_word (P := P) (w := w) (base := base) T
  refine T.F_need_word.okX sc_need_word (fun vs H Q E h => ?_) (fun cdv A outer s H vs Q E hr h => ?_)
  · exact spM_len h
  · have ok := ppOk T
    exact ⟨_, (pss_one (ps_if (pt_not (pt_val (pe_call G_is_word (hr.mono (by decide)) (by rfl) T.m_is_word T.F_is_word.kp (b_is_word T) .nil pass0 (pa_cons (pv 0) pa_nil)))) (pss_one (ps_raise rfl (takes_of rfl rfl rfl rfl) (pmk_oex T.ox_BadWord T.fi_BadWord T.ti_BadWord (ini_BadWord (P := P) (w := w) (base := base) T) (hr.mono (by decide)) (bi_BadWord T) .nil pass0 (by rfl) T.m_BadWord (pa_cons pe_str pa_nil)))) pss_nil)),
      run_sims (P := pp T) (ms := m_need_word (pp T)) (k := 0) (sims_if (sim_notT (sim_tB (sim_callL (sim_cons sim_var sim_nil)))) (sims_raise1 (c := 0) (sim_cons sim_str sim_nil) fun _ _ _ _ h => h) sims_next) rfl h⟩
theorem ok_made_of (T : Txt K mg) : FnOk P w K mg base (L2.CX P w) 5 T.a_made_of T.d_made_of ["word"] (spM (pp T) 1 (f_made_of (pp T))) := by
  have G_need_word := ok_need_word (P := P) (w := w) (base := base) T
  have G_parts_of_one := ok_parts_of_one (P := P) (w := w) (base := base) T
  have G_word_at := ok_word_at (P := P) (w := w) (base := base) T
  refine T.F_made_of.okX sc_made_of (fun vs H Q E h => ?_) (fun cdv A outer s H vs Q E hr h => ?_)
  · exact spM_len h
  · have ok := ppOk T
    exact ⟨_, (pss_cons (ps_expr (pe_call G_need_word (hr.mono (by decide)) (by rfl) T.m_need_word T.F_need_word.kp (b_need_word T) .nil (passes_call (takes_of rfl rfl rfl rfl) fun _ _ _ _ h => h) (pa_cons (pv 0) pa_nil)))
      (pss_cons (ps_if (pt_cmpR (op_inU (units65 hr)) (pe_callTy call_tuple_of (by rfl) T.z_tuple (by decide +kernel) (pa_cons (pv 0) pa_nil)) (pe_glob (v := .ref T.a_FIRST_WORDS) (by rfl) T.m_FIRST_WORDS rfl) (by rfl)) (pss_one (ps_ret pe_non)) pss_nil)
      (pss_cons (ps_setLc (i := 1) (own := [("at", 4)]) (g := gName 4) rfl sc_made_of.nd rfl rfl (sw_true rfl rfl rfl (by decide +kernel)) (pi_range1 (by rfl) T.z_range (pa_cons pe_int pa_nil)) (blkOk_by (N := N_made_of) (sc := defScope s_made_of) (by decide +kernel)) (fun _ _ _ _ _ => (pg_name (i := 4) sc_made_of.nd rfl (Or.inl rfl))) (fun _ _ _ _ _ => pts_one (pt_cmpR (op_neU hr.units) (pe_ix ix_U (pv 0) (pv 4) (fun _ _ => rfl)) pe_int (nomark _))) (fun _ _ _ _ _ => (pv 4)))
      (pss_cons (ps_if (pt_cmpR (op_eqU hr.units) (pe_callB call_lenU (by rfl) T.z_len PySem.boot_len (pa_cons (pv 1) pa_nil)) pe_int (nomark _)) (pss_cons (ps_asg (pe_call G_parts_of_one (hr.mono (by decide)) (by rfl) T.m_parts_of_one T.F_parts_of_one.kp (b_parts_of_one T) .nil pass0 (pa_cons (pe_ix ix_U (pv 0) (pe_ix ix_U (pv 1) pe_int (fun _ _ => rfl)) (fun _ _ => rfl)) pa_nil)) (pg_or (pg_unl rfl (pgs_cons (pg_name (i := 2) sc_made_of.nd rfl (Or.inl rfl)) (pgs_cons (pg_name (i := 3) sc_made_of.nd rfl (Or.inl rfl)) pgs_nil))) (pg_tup rfl (pgs_cons (pg_name (i := 2) sc_made_of.nd rfl (Or.inl rfl)) (pgs_cons (pg_name (i := 3) sc_made_of.nd rfl (Or.inl rfl)) pgs_nil)))))
      (pss_one (ps_ret (pe_tup (pa_cons (pe_call G_word_at (hr.mono (by decide)) (by rfl) T.m_word_at T.F_word_at.kp (b_word_at T) .nil pass0 (pa_cons (pe_ix ix_U (pv 1) pe_int (fun _ _ => rfl)) (pa_cons (pv 2) pa_nil))) (pa_cons (pe_call G_word_at (hr.mono (by decide)) (by rfl) T.m_word_at T.F_word_at.kp (b_word_at T) .nil pass0 (pa_cons (pe_ix ix_U (pv 1) pe_int (fun _ _ => rfl)) (pa_cons (pv 3) pa_nil))) pa_nil)))))) pss_nil)
      (pss_cons (ps_set (i := 4) sc_made_of.nd rfl (Or.inl rfl) (pe_ix ix_U (pe_lc (own := [("place", 6)]) (g := gName 6) rfl sc_made_of.nd (pi_or (pi_list (pv 1)) (pi_tup (pv 1))) (blkOk_by (N := N_made_of) (sc := defScope s_made_of) (by decide +kernel)) (fun _ _ _ _ _ => (pg_name (i := 6) sc_made_of.nd rfl (Or.inl rfl))) (fun _ _ _ _ _ => pts_one (pt_cmpR (op_eqU hr.units) (pe_op op_mod (pe_ix ix_U (pv 0) (pv 6) (fun _ _ => rfl)) pe_int) pe_int (nomark _))) (fun _ _ _ _ _ => (pv 6))) pe_int (fun _ _ => rfl)))
      (pss_cons (ps_setLc (i := 5) (own := [("number", 7)]) (g := gName 7) rfl sc_made_of.nd rfl rfl (sw_true rfl rfl rfl (by decide +kernel)) (pi_or (pi_list (pv 0)) (pi_tup (pv 0))) (blkOk_by (N := N_made_of) (sc := defScope s_made_of) (by decide +kernel)) (fun _ _ _ _ _ => (pg_name (i := 7) sc_made_of.nd rfl (Or.inl rfl))) (fun _ _ _ _ _ => pts_nil) (fun _ _ _ _ _ => (pe_un un_neg (pv 7))))
      (pss_cons (ps_asg pe_int (pg_sub (pv 5) (pv 4) set_list))
      (pss_one (ps_ret (pe_tup (pa_cons (pe_call G_word_at (hr.mono (by decide)) (by rfl) T.m_word_at T.F_word_at.kp (b_word_at T) .nil pass0 (pa_cons (pv 4) (pa_cons (pe_op op_fdivX (pe_ix ix_U (pv 0) (pv 4) (fun _ _ => rfl)) pe_int) pa_nil))) (pa_cons (pe_callTy call_tuple_of (by rfl) T.z_tuple (by decide +kernel) (pa_cons (pv 5) pa_nil)) pa_nil)))))))))))),
      run_sims (P := pp T) (ms := m_made_of (pp T)) (k := 7) (sims_seq (sims_drop (sim_call (sim_cons sim_var sim_nil) fun _ _ _ _ h => h))
      (sims_seq (sims_if (sim_tTest (sim_op ops_in (sim_cb cbs_tuple (sim_cons sim_var sim_nil)) (sim_ktd T.k_FIRST_WORDS rfl))) (sims_ret sim_non) sims_next)
      (sims_seq (sims_asg (sim_lc (sim_range1 (sim_cons sim_int sim_nil)) simg_own (sim_tTest (sim_op ops_ne (sim_op ops_ix sim_var sim_var) sim_int)) sim_var) (simg_name trivial))
      (sims_seq (sims_if (sim_tTest (sim_op ops_eq (sim_cb cbs_len (sim_cons sim_var sim_nil)) sim_int)) (sims_seq (sims_asg (sim_callL (sim_cons (sim_op ops_ix sim_var (sim_op ops_ix sim_var sim_int)) sim_nil)) (simg_tup (simg_cons (simg_name trivial) (simg_cons (simg_name trivial) simg_nil))))
      (sims_ret (sim_tup (sim_cons (sim_callL (sim_cons (sim_op ops_ix sim_var sim_int) (sim_cons sim_var sim_nil))) (sim_cons (sim_callL (sim_cons (sim_op ops_ix sim_var sim_int) (sim_cons sim_var sim_nil))) sim_nil))))) sims_next)
      (sims_seq (sims_asg (sim_op ops_ix (sim_lc (sim_walk sim_var) simg_own (sim_tTest (sim_op ops_eq (sim_op ops_mod (sim_op ops_ix sim_var sim_var) sim_int) sim_int)) sim_var) sim_int) (simg_name trivial))
      (sims_seq (sims_asg (sim_lcM (sim_walk sim_var) simg_own sim_yes (sim_un uns_neg sim_var)) (simg_name trivial))
      (sims_seq (sims_asg sim_int (simg_sub sim_var sim_var))
      (sims_ret (sim_tup (sim_cons (sim_callL (sim_cons sim_var (sim_cons (sim_op ops_div (sim_op ops_ix sim_var sim_var) sim_int) sim_nil))) (sim_cons (sim_cb cbs_tuple (sim_cons sim_var sim_nil)) sim_nil))))))))))) rfl h⟩
theorem ok_law_word_right (T : Txt K mg) : FnG P w K mg base CX0 6 T.a_law_word_right T.d_law_word_right ["_law_quill_here", "_law_word_here"] (spM (pp T) 2 (f_law_word_right (pp T))) := by
  have G_made_of := ok_made_of (P := P) (w := w) (base := base) T
  have G_law_made := ok_law_made (P := P) (w := w) (base := base) T
  have G_law_scratch := ok_law_scratch (P := P) (w := w) (base := base) T
  have G_is_word := ok_is_word (P := P) (w := w) (base := base) T
  refine Ty.Fun.okG T.F_law_word_right sc_law_word_right (fun vs H Q E h => ?_) (fun cdv A outer s H vs Q E hgd hr h => ?_)
  · exact spM_len h
  · have ok := ppOk T
    exact ⟨_, (pss_cons (ps_par (i := 2) (j := 3) rfl sc_law_word_right.nd rfl rfl (by decide) rfl rfl (pa_cons (pe_call G_law_made (hr.mono (by decide)) (by rfl) T.m_law_made T.F_law_made.kp (b_law_made T) .nil pass0 (pa_cons (pv 1) pa_nil)) (pa_cons (pe_ifExp (pt_cmpR (op_eqU hr.units) (pe_call G_law_scratch (hr.mono (by decide)) (by rfl) T.m_law_scratch T.F_law_scratch.kp (b_law_scratch T) .nil pass0 (pa_cons (pv 0) (pa_cons pe_int pa_nil))) pe_int (nomark _)) (pv 1) (pe_callTy call_list_of (by rfl) T.z_list (by decide +kernel) (pa_cons (pv 1) pa_nil))) pa_nil)) (by rfl))
      (pss_cons (ps_if (pt_cmpR (op_neU hr.units) (pe_callB (call_repV hr.units hgd) (by rfl) T.z_repr (by decide +kernel) (pa_cons (pe_lst (pa_cons (pe_call G_is_word (hr.mono (by decide)) (by rfl) T.m_is_word T.F_is_word.kp (b_is_word T) .nil pass0 (pa_cons (pv 3) pa_nil)) (pa_cons (pe_callN0 G_is_word (hr.mono (by decide)) (by rfl) T.m_is_word T.F_is_word.kp (kb_is_word_0_value T) pass0 (pk_cons (pv 1) pk_nil)) (pa_cons (pe_call G_made_of (hr.mono (by decide)) (by rfl) T.m_made_of T.F_made_of.kp (b_made_of T) .nil passL (pa_cons (pv 3) pa_nil)) (pa_cons (pe_callN0 G_made_of (hr.mono (by decide)) (by rfl) T.m_made_of T.F_made_of.kp (kb_made_of_0_word T) passL (pk_cons (pv 1) pk_nil)) pa_nil))))) pa_nil)) (pe_callB (call_repV hr.units hgd) (by rfl) T.z_repr (by decide +kernel) (pa_cons (pe_lst (pa_cons pe_bl (pa_cons pe_bl (pa_cons (pv 2) (pa_cons (pv 2) pa_nil))))) pa_nil)) (nomark _)) (pss_one (ps_ret pe_bl)) pss_nil)
      (pss_cons (ps_if (pt_cmpR op_isN (pv 2) pe_non (nomark _)) (pss_one (ps_ret (pe_cmpR (op_inU (units65 hr)) (pe_callB call_sortedU (by rfl) T.z_sorted (by decide +kernel) (pa_cons (pv 1) pa_nil)) (pe_tup (pa_cons (pe_lst (pa_cons pe_int (pa_cons pe_int (pa_cons pe_int pa_nil)))) (pa_cons (pe_lst (pa_cons pe_int (pa_cons pe_int (pa_cons pe_int pa_nil)))) pa_nil))) (by rfl)))) pss_nil)
      (pss_cons (ps_asg (pe_call G_made_of (hr.mono (by decide)) (by rfl) T.m_made_of T.F_made_of.kp (b_made_of T) .nil passL (pa_cons (pv 1) pa_nil)) (pg_or (pg_unl rfl (pgs_cons (pg_name (i := 4) sc_law_word_right.nd rfl (Or.inl rfl)) (pgs_cons (pg_name (i := 5) sc_law_word_right.nd rfl (Or.inl rfl)) pgs_nil))) (pg_tup rfl (pgs_cons (pg_name (i := 4) sc_law_word_right.nd rfl (Or.inl rfl)) (pgs_cons (pg_name (i := 5) sc_law_word_right.nd rfl (Or.inl rfl)) pgs_nil)))))
      (pss_cons (ps_if (PW.pt (pw_or (pt_cmpR (op_neU hr.units) (pe_callTy call_tuple_of (by rfl) T.z_tuple (by decide +kernel) (pa_cons (pe_lc (own := [("_law_one", 6), ("_law_other", 7)])  rfl sc_law_word_right.nd (RZ.pi_zipA (by rfl) T.z_zip (pa_cons (pv 4) (pa_cons (pv 5) pa_nil))) (blkOk_by (N := N_law_word_right) (sc := defScope s_law_word_right) (by decide +kernel)) (fun _ _ _ _ _ => (pg_or (pg_unl rfl (pgs_cons (pg_name (i := 6) sc_law_word_right.nd rfl (Or.inl rfl)) (pgs_cons (pg_name (i := 7) sc_law_word_right.nd rfl (Or.inl rfl)) pgs_nil))) (pg_tup rfl (pgs_cons (pg_name (i := 6) sc_law_word_right.nd rfl (Or.inl rfl)) (pgs_cons (pg_name (i := 7) sc_law_word_right.nd rfl (Or.inl rfl)) pgs_nil))))) (fun _ _ _ _ _ => pts_nil) (fun _ _ _ _ _ => (pe_op op_subU (pe_op op_mulU pe_int (pv 6)) (pv 7)))) pa_nil)) (pv 1) (nomark _)) (pw_or1 (pt_cmpR (op_neU hr.units) (pe_lst (pa_cons (pe_call G_is_word (hr.mono (by decide)) (by rfl) T.m_is_word T.F_is_word.kp (b_is_word T) .nil pass0 (pa_cons (pv 4) pa_nil)) (pa_cons (pe_call G_is_word (hr.mono (by decide)) (by rfl) T.m_is_word T.F_is_word.kp (b_is_word T) .nil pass0 (pa_cons (pv 5) pa_nil)) pa_nil))) (pe_lst (pa_cons pe_bl (pa_cons pe_bl pa_nil))) (nomark _))))) (pss_one (ps_ret pe_bl)) pss_nil)
      (pss_one (ps_ret (pe_cmpR (op_eqU hr.units) (pe_lc (own := [("_law_each", 8)]) (g := gName 8) rfl sc_law_word_right.nd (pi_or (pi_list (pv 5)) (pi_tup (pv 5))) (blkOk_by (N := N_law_word_right) (sc := defScope s_law_word_right) (by decide +kernel)) (fun _ _ _ _ _ => (pg_name (i := 8) sc_law_word_right.nd rfl (Or.inl rfl))) (fun _ _ _ _ _ => pts_nil) (fun _ _ _ _ _ => (pe_op op_and (pv 8) pe_int))) (pe_lc (own := [("_law_each", 8)]) (g := gName 8) rfl sc_law_word_right.nd (pi_or (pi_list (pv 1)) (pi_tup (pv 1))) (blkOk_by (N := N_law_word_right) (sc := defScope s_law_word_right) (by decide +kernel)) (fun _ _ _ _ _ => (pg_name (i := 8) sc_law_word_right.nd rfl (Or.inl rfl))) (fun _ _ _ _ _ => pts_nil) (fun _ _ _ _ _ => (pe_op op_and (pv 8) pe_int))) (nomark _))))))))),
      run_sims (P := pp T) (ms := m_law_word_right (pp T)) (k := 7) (sims_seq (sims_par (sim_cons (sim_callL (sim_cons sim_var sim_nil)) (sim_cons (sim_if (sim_tTest (sim_op ops_eq (sim_callL (sim_cons sim_var (sim_cons sim_int sim_nil))) sim_int)) sim_var (sim_cb cbs_list (sim_cons sim_var sim_nil))) sim_nil)))
      (sims_seq (sims_if (sim_tTest (sim_op ops_ne (sim_cb cbs_reprV (sim_cons (sim_lst (sim_cons (sim_callL (sim_cons sim_var sim_nil)) (sim_cons (sim_callNL (is := [0]) sim_nil (sim_cons sim_var sim_nil)) (sim_cons (sim_callL (sim_cons sim_var sim_nil)) (sim_cons (sim_callNL (is := [0]) sim_nil (sim_cons sim_var sim_nil)) sim_nil))))) sim_nil)) (sim_cb cbs_reprV (sim_cons (sim_lst (sim_cons sim_bl (sim_cons sim_bl (sim_cons sim_var (sim_cons sim_var sim_nil))))) sim_nil)))) (sims_ret sim_bl) sims_next)
      (sims_seq (sims_if (sim_tTest (sim_op ops_isN sim_var sim_non)) (sims_ret (sim_op ops_in (sim_cb cbs_sorted (sim_cons sim_var sim_nil)) (sim_tup (sim_cons (sim_lst (sim_cons sim_int (sim_cons sim_int (sim_cons sim_int sim_nil)))) (sim_cons (sim_lst (sim_cons sim_int (sim_cons sim_int (sim_cons sim_int sim_nil)))) sim_nil))))) sims_next)
      (sims_seq (sims_asg (sim_callL (sim_cons sim_var sim_nil)) (simg_tup (simg_cons (simg_name trivial) (simg_cons (simg_name trivial) simg_nil))))
      (sims_seq (sims_if (sim_orT (sim_tTest (sim_op ops_ne (sim_cb cbs_tuple (sim_cons (sim_lc (sim_zip (sim_cons sim_var (sim_cons sim_var sim_nil))) (simg_tup (simg_cons simg_own (simg_cons simg_own simg_nil))) sim_yes (sim_op ops_sub (sim_op ops_mul sim_int sim_var) sim_var)) sim_nil)) sim_var)) (sim_tTest (sim_op ops_ne (sim_lst (sim_cons (sim_callL (sim_cons sim_var sim_nil)) (sim_cons (sim_callL (sim_cons sim_var sim_nil)) sim_nil))) (sim_lst (sim_cons sim_bl (sim_cons sim_bl sim_nil)))))) (sims_ret sim_bl) sims_next)
      (sims_ret (sim_op ops_eq (sim_lc (sim_walk sim_var) simg_own sim_yes (sim_op ops_bit sim_var sim_int)) (sim_lc (sim_walk sim_var) simg_own sim_yes (sim_op ops_bit sim_var sim_int))))))))) rfl h⟩
end
end Ty

namespace Ty
open PySem PySem.Spec PyProof.Rows L2
section
variable {P : Program} {w : World} {K : PySem.W.Frag} {mg : Str → Option Value} {base : Heap}
open Mi
def m_law_heard (R : Pr) (f : Addr) (ask : Ms Dv) : Sl → Ms Fl := (mSeq (mAsg (mC .non) (gmName 1))
      (mSeq (mTryA R 1 2 1 5 f ask)
      (mSeq (mFor (mWalk (mLst (mCons (mTup (mCons (mC (.str "word")) (mCons (mCb (oIsi R) (mCons (mVar 1) (mCons (mC (.cls 0)) mNil))) mNil))) mNil))) (gmTup 2 (gmCons (gmName 3) (gmCons (gmName 4) gmNil))) (mIfS (mTst (mVar 4)) (mRet (mTup (mCons (mVar 3) (mCons (mXt R "part" (mVar 1)) mNil)))) mNext))
      (mRet (mIf (mTst (mBin oIsN (mVar 1) (mC .non))) (mC .non) (mTup (mCons (mC (.str "other")) (mCons (mC .non) mNil))))))))
def g_law_heard (R : Pr) (ask : Ms Dv) : Ms Dv := fnL 4 0 (m_law_heard R 0 ask)
theorem gives_law_heard {X : Cx} (T : Txt X.K X.mg) (q : Str) (geq : ∀ (f : Addr) (ask : Ms Dv) (A : Mem), fnL 4 f (m_law_heard (pp T) f ask) A = g_law_heard (pp T) ask A) (cdv : Value) : LamX.GivesTo X N_law_heard "_law_heard" (defScope s_law_heard) T.a_law_heard cdv (defBody s_law_heard) "_law_ask" q (TTm (pp T) (g_law_heard (pp T))) := by
  intro f c' s H Q tl act hc h
  obtain ⟨e, A, ask, hf, m, as, w⟩ := h
  have ok := ppOk T
  have okw : ((pp T).within e H).Ok := ⟨ok.kit, ok.exm, ok.exk, ok.nof⟩
  rw [← geq f] at w
  exact ⟨_, (pss_cons (ps_set (i := 1) sc_law_heard.nd rfl (Or.inl rfl) pe_non)
      (pss_cons (ps_try_keep (i := 2) (l := 1) (c := .ref T.c_CurveError) rfl rfl rfl rfl sc_law_heard.nd rfl rfl ⟨rfl, by decide, .inl T.m_CurveError⟩ takes0 (fun W pn xe tk _ => ask_body (n := 5) rfl tk (fun W E tk hW => act W pn xe E _ _ tk hW)) (fun a oe cls d pn hz hf => pss_one (ps_set (i := 1) sc_law_heard.nd rfl (Or.inl rfl) (pv 2))))
      (pss_cons (ps_for PassesOwn.never rfl (pi_or (pi_list (pe_lst (pa_cons (pe_tup (pa_cons pe_str (pa_cons (pe_callB call_isiU (by rfl) T.z_isinstance (by decide +kernel) (pa_cons (pv 1) (pa_cons (pe_glob (v := .ref T.c_BadWord) (by rfl) T.m_BadWord rfl) pa_nil))) pa_nil))) pa_nil))) (pi_tup (pe_lst (pa_cons (pe_tup (pa_cons pe_str (pa_cons (pe_callB call_isiU (by rfl) T.z_isinstance (by decide +kernel) (pa_cons (pv 1) (pa_cons (pe_glob (v := .ref T.c_BadWord) (by rfl) T.m_BadWord rfl) pa_nil))) pa_nil))) pa_nil)))) (pg_or (pg_unl rfl (pgs_cons (pg_name (i := 3) sc_law_heard.nd rfl (Or.inl rfl)) (pgs_cons (pg_name (i := 4) sc_law_heard.nd rfl (Or.inl rfl)) pgs_nil))) (pg_tup rfl (pgs_cons (pg_name (i := 3) sc_law_heard.nd rfl (Or.inl rfl)) (pgs_cons (pg_name (i := 4) sc_law_heard.nd rfl (Or.inl rfl)) pgs_nil)))) (pss_one (ps_if (pt_val (pv 4)) (pss_one (ps_ret (pe_tup (pa_cons (pv 3) (pa_cons (pe_xt (pv 1)) pa_nil))))) pss_nil)))
      (pss_one (ps_ret (pe_ifExp (pt_cmpR op_isN (pv 1) pe_non (nomark _)) pe_non (pe_tup (pa_cons pe_str (pa_cons pe_non pa_nil))))))))),
    run_simsL (P := pp T) (k := 4) (ms := m_law_heard (pp T) f ask) (sims_seq (sims_asg sim_non (simg_name trivial))
      (sims_seq (sims_tryA ok m hc as)
      (sims_seq (sims_for (sim_walk (sim_lst (sim_cons (sim_tup (sim_cons sim_str (sim_cons (sim_cb (cbs_isi okw) (sim_cons sim_var (sim_cons (sim_cls 0 rfl) sim_nil))) sim_nil))) sim_nil))) (simg_tup (simg_cons (simg_name trivial) (simg_cons (simg_name trivial) simg_nil))) (sims_if (sim_tB sim_var) (sims_ret (sim_tup (sim_cons sim_var (sim_cons (sim_xt okw sim_var) sim_nil)))) sims_next))
      (sims_ret (sim_if (sim_tTest (sim_op ops_isN sim_var sim_non)) sim_non (sim_tup (sim_cons sim_str (sim_cons sim_non sim_nil)))))))) rfl hf m w⟩
end
end Ty

namespace Ty
open PySem PySem.Spec PyProof.Rows L2
section
variable {P : Program} {w : World} {K : PySem.W.Frag} {mg : Str → Option Value} {base : Heap}
open Mi
theorem geq_law_heard (T : Txt K mg) (f : Addr) (ask : Ms Dv) (A : Mem) : fnL 4 f (m_law_heard (pp T) f ask) A = g_law_heard (pp T) ask A := by
  unfold g_law_heard fnL m_law_heard
  match h : ask A with
  | none => simp [Mi.fnM, Mi.outF, Mi.mSeq, Mi.thn, Mi.mNext, Mi.mRet, Mi.mRetN, Mi.mDrop, Mi.mIfS, Mi.mTst, Mi.tru, Mi.mAndT, Mi.mOrT, Mi.mNotT, Mi.mAnd, Mi.mOr, Mi.mNot, Mi.mIf, Mi.mBin, Mi.mUn, Mi.mCb, Mi.mVar, Mi.mC, Mi.mCons, Mi.mNil, Mi.bnd_at, Mi.ret_at, Mi.ofO_at, Mi.fail_at, Mi.ite_at, Mi.mAsg, Mi.gmName, Mi.mTup, Mi.mLst, Mi.mLstM, Mi.mCallL, Mi.calm_at, Mi.mCallNL, Mi.oCmp, Mi.oIsN, Mi.oNotN, Mi.isNon, Mi.oAdd, Mi.oSub, Mi.oNeg, Mi.oMod, Mi.mYes, Mi.mPar, Mi.mPar3, Mi.raise, Mi.big, Mi.kdv, Mi.asQ, Mi.asL, Mi.asS, Mi.asI, Mi.trus, Mi.oIx, Mi.at_0, Mi.at3_1, Mi.at3_2, Mi.at2_1, Mi.now, Mi.same_int, Mi.same_bl, Mi.mLc, Mi.mLcs, Mi.mWalk, Mi.wipD, Mi.oLen, Mi.oEq, Mi.oNe, Mi.oAll, Mi.oAny, Mi.kit_non_int, Mi.kit_non_bool, Mi.kit_non_list, Mi.kit_non_tuple, Mi.kit_non_str, Mi.kit_bl_int, Mi.kit_bl_bool, Mi.kit_bl_list, Mi.kit_bl_tuple, Mi.kit_bl_str, Mi.kit_int_int, Mi.kit_int_bool, Mi.kit_int_list, Mi.kit_int_tuple, Mi.kit_int_str, Mi.kit_str_int, Mi.kit_str_bool, Mi.kit_str_list, Mi.kit_str_tuple, Mi.kit_str_str, Mi.kit_tup_int, Mi.kit_tup_bool, Mi.kit_tup_list, Mi.kit_tup_tuple, Mi.kit_tup_str, Mi.kit_lst_int, Mi.kit_lst_bool, Mi.kit_lst_list, Mi.kit_lst_tuple, Mi.kit_lst_str, Mi.kit_dic_int, Mi.kit_dic_bool, Mi.kit_dic_list, Mi.kit_dic_tuple, Mi.kit_dic_str, mTryA, h]
  | some (.ok d, A') => simp [Mi.fnM, Mi.outF, Mi.mSeq, Mi.thn, Mi.mNext, Mi.mRet, Mi.mRetN, Mi.mDrop, Mi.mIfS, Mi.mTst, Mi.tru, Mi.mAndT, Mi.mOrT, Mi.mNotT, Mi.mAnd, Mi.mOr, Mi.mNot, Mi.mIf, Mi.mBin, Mi.mUn, Mi.mCb, Mi.mVar, Mi.mC, Mi.mCons, Mi.mNil, Mi.bnd_at, Mi.ret_at, Mi.ofO_at, Mi.fail_at, Mi.ite_at, Mi.mAsg, Mi.gmName, Mi.mTup, Mi.mLst, Mi.mLstM, Mi.mCallL, Mi.calm_at, Mi.mCallNL, Mi.oCmp, Mi.oIsN, Mi.oNotN, Mi.isNon, Mi.oAdd, Mi.oSub, Mi.oNeg, Mi.oMod, Mi.mYes, Mi.mPar, Mi.mPar3, Mi.raise, Mi.big, Mi.kdv, Mi.asQ, Mi.asL, Mi.asS, Mi.asI, Mi.trus, Mi.oIx, Mi.at_0, Mi.at3_1, Mi.at3_2, Mi.at2_1, Mi.now, Mi.same_int, Mi.same_bl, Mi.mLc, Mi.mLcs, Mi.mWalk, Mi.wipD, Mi.oLen, Mi.oEq, Mi.oNe, Mi.oAll, Mi.oAny, Mi.kit_non_int, Mi.kit_non_bool, Mi.kit_non_list, Mi.kit_non_tuple, Mi.kit_non_str, Mi.kit_bl_int, Mi.kit_bl_bool, Mi.kit_bl_list, Mi.kit_bl_tuple, Mi.kit_bl_str, Mi.kit_int_int, Mi.kit_int_bool, Mi.kit_int_list, Mi.kit_int_tuple, Mi.kit_int_str, Mi.kit_str_int, Mi.kit_str_bool, Mi.kit_str_list, Mi.kit_str_tuple, Mi.kit_str_str, Mi.kit_tup_int, Mi.kit_tup_bool, Mi.kit_tup_list, Mi.kit_tup_tuple, Mi.kit_tup_str, Mi.kit_lst_int, Mi.kit_lst_bool, Mi.kit_lst_list, Mi.kit_lst_tuple, Mi.kit_lst_str, Mi.kit_dic_int, Mi.kit_dic_bool, Mi.kit_dic_list, Mi.kit_dic_tuple, Mi.kit_dic_str, mTryA, h, mFor, oIsi]
  | some (.err c ns vs, A') =>
    cases s : (pp T).sub c 1 with
    | none => simp [Mi.fnM, Mi.outF, Mi.mSeq, Mi.thn, Mi.mNext, Mi.mRet, Mi.mRetN, Mi.mDrop, Mi.mIfS, Mi.mTst, Mi.tru, Mi.mAndT, Mi.mOrT, Mi.mNotT, Mi.mAnd, Mi.mOr, Mi.mNot, Mi.mIf, Mi.mBin, Mi.mUn, Mi.mCb, Mi.mVar, Mi.mC, Mi.mCons, Mi.mNil, Mi.bnd_at, Mi.ret_at, Mi.ofO_at, Mi.fail_at, Mi.ite_at, Mi.mAsg, Mi.gmName, Mi.mTup, Mi.mLst, Mi.mLstM, Mi.mCallL, Mi.calm_at, Mi.mCallNL, Mi.oCmp, Mi.oIsN, Mi.oNotN, Mi.isNon, Mi.oAdd, Mi.oSub, Mi.oNeg, Mi.oMod, Mi.mYes, Mi.mPar, Mi.mPar3, Mi.raise, Mi.big, Mi.kdv, Mi.asQ, Mi.asL, Mi.asS, Mi.asI, Mi.trus, Mi.oIx, Mi.at_0, Mi.at3_1, Mi.at3_2, Mi.at2_1, Mi.now, Mi.same_int, Mi.same_bl, Mi.mLc, Mi.mLcs, Mi.mWalk, Mi.wipD, Mi.oLen, Mi.oEq, Mi.oNe, Mi.oAll, Mi.oAny, Mi.kit_non_int, Mi.kit_non_bool, Mi.kit_non_list, Mi.kit_non_tuple, Mi.kit_non_str, Mi.kit_bl_int, Mi.kit_bl_bool, Mi.kit_bl_list, Mi.kit_bl_tuple, Mi.kit_bl_str, Mi.kit_int_int, Mi.kit_int_bool, Mi.kit_int_list, Mi.kit_int_tuple, Mi.kit_int_str, Mi.kit_str_int, Mi.kit_str_bool, Mi.kit_str_list, Mi.kit_str_tuple, Mi.kit_str_str, Mi.kit_tup_int, Mi.kit_tup_bool, Mi.kit_tup_list, Mi.kit_tup_tuple, Mi.kit_tup_str, Mi.kit_lst_int, Mi.kit_lst_bool, Mi.kit_lst_list, Mi.kit_lst_tuple, Mi.kit_lst_str, Mi.kit_dic_int, Mi.kit_dic_bool, Mi.kit_dic_list, Mi.kit_dic_tuple, Mi.kit_dic_str, mTryA, h, s]
    | some b => cases b <;> simp [Mi.fnM, Mi.outF, Mi.mSeq, Mi.thn, Mi.mNext, Mi.mRet, Mi.mRetN, Mi.mDrop, Mi.mIfS, Mi.mTst, Mi.tru, Mi.mAndT, Mi.mOrT, Mi.mNotT, Mi.mAnd, Mi.mOr, Mi.mNot, Mi.mIf, Mi.mBin, Mi.mUn, Mi.mCb, Mi.mVar, Mi.mC, Mi.mCons, Mi.mNil, Mi.bnd_at, Mi.ret_at, Mi.ofO_at, Mi.fail_at, Mi.ite_at, Mi.mAsg, Mi.gmName, Mi.mTup, Mi.mLst, Mi.mLstM, Mi.mCallL, Mi.calm_at, Mi.mCallNL, Mi.oCmp, Mi.oIsN, Mi.oNotN, Mi.isNon, Mi.oAdd, Mi.oSub, Mi.oNeg, Mi.oMod, Mi.mYes, Mi.mPar, Mi.mPar3, Mi.raise, Mi.big, Mi.kdv, Mi.asQ, Mi.asL, Mi.asS, Mi.asI, Mi.trus, Mi.oIx, Mi.at_0, Mi.at3_1, Mi.at3_2, Mi.at2_1, Mi.now, Mi.same_int, Mi.same_bl, Mi.mLc, Mi.mLcs, Mi.mWalk, Mi.wipD, Mi.oLen, Mi.oEq, Mi.oNe, Mi.oAll, Mi.oAny, Mi.kit_non_int, Mi.kit_non_bool, Mi.kit_non_list, Mi.kit_non_tuple, Mi.kit_non_str, Mi.kit_bl_int, Mi.kit_bl_bool, Mi.kit_bl_list, Mi.kit_bl_tuple, Mi.kit_bl_str, Mi.kit_int_int, Mi.kit_int_bool, Mi.kit_int_list, Mi.kit_int_tuple, Mi.kit_int_str, Mi.kit_str_int, Mi.kit_str_bool, Mi.kit_str_list, Mi.kit_str_tuple, Mi.kit_str_str, Mi.kit_tup_int, Mi.kit_tup_bool, Mi.kit_tup_list, Mi.kit_tup_tuple, Mi.kit_tup_str, Mi.kit_lst_int, Mi.kit_lst_bool, Mi.kit_lst_list, Mi.kit_lst_tuple, Mi.kit_lst_str, Mi.kit_dic_int, Mi.kit_dic_bool, Mi.kit_dic_list, Mi.kit_dic_tuple, Mi.kit_dic_str, mTryA, h, s]
def m_law (R : Pr) : Sl → Ms Fl := (mSeq (mAsg (mCallL 1 (f_law_quill R) (mCons (mVar 0) mNil)) (gmName 1))
      (mSeq (mFor (mRange1 (mCons (mC (.int 6)) mNil)) (gmName 2) (mSeq (mAsg (mCallL 2 (f_law_word R) (mCons (mVar 1) (mCons (mCallL 2 (f_law_pick R) (mCons (mVar 1) (mCons (mLst (mCons (mC (.int 2)) (mCons (mC (.int 4)) (mCons (mC (.int 24)) (mCons (mC (.int 24)) (mCons (mC (.int 12)) mNil)))))) mNil))) mNil))) (gmName 3))
      (mSeq (mIfS (mNotT (mTst (mCallL 2 (f_law_word_right R) (mCons (mVar 1) (mCons (mVar 3) mNil))))) (mRet (mC (.bl false))) mNext)
      (mSeq (mAsg (mCallL 2 (f_law_bent R) (mCons (mVar 1) (mCons (mVar 3) mNil))) (gmTup 2 (gmCons (gmName 4) (gmCons (gmName 5) gmNil))))
      (mSeq (mAsg (mCb oReprV (mCons (mVar 4) mNil)) (gmName 6))
      (mSeq (mIfS (mOrT (mTst (mBin oNe (mCb oReprV (mCons (mCallL 1 (f_is_word R) (mCons (mVar 4) mNil)) mNil)) (mCb oReprV (mCons (mVar 5) mNil)))) (mTst (mBin oNe (mCb oReprV (mCons (mVar 4) mNil)) (mVar 6)))) (mRet (mC (.bl false))) mNext)
      (mIfS (mOrT (mAndT (mTst (mVar 5)) (mNotT (mTst (mCallL 2 (f_law_word_right R) (mCons (mVar 1) (mCons (mCb oTuple (mCons (mVar 4) mNil)) mNil)))))) (mAndT (mNotT (mTst (mVar 5))) (mTst (mBin oNe (mLam (g_law_heard R) (mCall 1 (f_made_of R) (mCons (mVar 4) mNil))) (mTup (mCons (mC (.str "word")) (mCons (mC (.str "word")) mNil))))))) (mRet (mC (.bl false))) mNext)))))))
      (mSeq (mAsg (mLst (mCons (mTup (mCons (mC (.int 0)) (mCons (mC (.int 0)) (mCons (mC (.int 0)) mNil)))) (mCons (mTup (mCons (mC (.int 1)) (mCons (mC (.int 0)) (mCons (mC (.int 0)) mNil)))) (mCons (mTup (mCons (mC (.int 0)) (mCons (mC (.int 1)) (mCons (mC (.int 0)) mNil)))) (mCons (mTup (mCons (mC (.int 0)) (mCons (mC (.int 0)) (mCons (mC (.int 1)) mNil)))) mNil))))) (gmName 7))
      (mRet (mAnd (mBin oEq (mLc (mWalk (mVar 7)) (gmName 3) (mTst (mBin oNotN (mCallL 1 (f_made_of R) (mCons (mVar 3) mNil)) (mC .non))) (mVar 3) [3]) (mLst mNil)) (mAnd (mBin oEq (mCallL 1 (f_made_of R) (mCons (mTup (mCons (mC (.int 0)) (mCons (mUn oNeg (mC (.int 24))) (mCons (mC (.int 0)) mNil)))) mNil)) (mTup (mCons (mTup (mCons (mC (.int 0)) (mCons (mC (.int 0)) (mCons (mC (.int 0)) mNil)))) (mCons (mTup (mCons (mC (.int 0)) (mCons (mC (.int 24)) (mCons (mC (.int 0)) mNil)))) mNil)))) (mNot (mCallL 1 (f_is_word R) (mCons (mTup (mCons (mC (.int 1)) (mCons (mC (.int 0)) (mCons (mUn oNeg (mC (.int 1))) mNil)))) mNil)))))))))
def f_law (R : Pr) : List Dv → Ms Dv := fnM 7 (m_law R)
theorem ok_law (T : Txt K mg) (TB : ∀ t ∈ tabs T, LamX.TabB base mg t.2.1 t.2.2) : FnG P w K mg base CX0 8 T.a_law T.d_law ["_law_script"] (spM (pp T) 1 (f_law (pp T))) := by
  have G_law_quill := ok_law_quill (P := P) (w := w) (base := base) T
  have G_law_word := ok_law_word (P := P) (w := w) (base := base) T
  have G_law_bent := ok_law_bent (P := P) (w := w) (base := base) T
  have G_law_pick := ok_law_pick (P := P) (w := w) (base := base) T
  have G_law_word_right := ok_law_word_right (P := P) (w := w) (base := base) T
  have G_made_of := ok_made_of (P := P) (w := w) (base := base) T
  have G_is_word := ok_is_word (P := P) (w := w) (base := base) T
  refine T.F_law.ok sc_law (fun vs H Q E h => ?_) (fun A outer s H vs Q E hgd hr h => ?_)
  · exact spM_len h
  · have ok := ppOk T
    exact ⟨_, (pss_cons (ps_set (i := 1) sc_law.nd rfl (Or.inl rfl) (pe_call G_law_quill (hr.mono (by decide)) (by rfl) T.m_law_quill T.F_law_quill.kp (b_law_quill T) .nil pass0 (pa_cons (pv 0) pa_nil)))
      (pss_cons (ps_for PassesOwn.never rfl (pi_range1 (by rfl) T.z_range (pa_cons pe_int pa_nil)) (pg_name (i := 2) sc_law.nd rfl (Or.inl rfl)) (pss_cons (ps_set (i := 3) sc_law.nd rfl (Or.inl rfl) (pe_call G_law_word (hr.mono (by decide)) (by rfl) T.m_law_word T.F_law_word.kp (b_law_word T) .nil pass0 (pa_cons (pv 1) (pa_cons (pe_call G_law_pick (hr.mono (by decide)) (by rfl) T.m_law_pick T.F_law_pick.kp (b_law_pick T) .nil pass0 (pa_cons (pv 1) (pa_cons (pe_lst (pa_cons pe_int (pa_cons pe_int (pa_cons pe_int (pa_cons pe_int (pa_cons pe_int pa_nil)))))) pa_nil))) pa_nil))))
      (pss_cons (ps_if (pt_not (pt_val (pe_callG hgd G_law_word_right (hr.mono (by decide)) (by rfl) T.m_law_word_right T.F_law_word_right.kp (b_law_word_right T) .nil pass0 (pa_cons (pv 1) (pa_cons (pv 3) pa_nil))))) (pss_one (ps_ret pe_bl)) pss_nil)
      (pss_cons (ps_asg (pe_call G_law_bent (hr.mono (by decide)) (by rfl) T.m_law_bent T.F_law_bent.kp (b_law_bent T) .nil pass0 (pa_cons (pv 1) (pa_cons (pv 3) pa_nil))) (pg_or (pg_unl rfl (pgs_cons (pg_name (i := 4) sc_law.nd rfl (Or.inr rfl)) (pgs_cons (pg_name (i := 5) sc_law.nd rfl (Or.inl rfl)) pgs_nil))) (pg_tup rfl (pgs_cons (pg_name (i := 4) sc_law.nd rfl (Or.inr rfl)) (pgs_cons (pg_name (i := 5) sc_law.nd rfl (Or.inl rfl)) pgs_nil)))))
      (pss_cons (ps_set (i := 6) sc_law.nd rfl (Or.inl rfl) (pe_callB (call_repV hr.units hgd) (by rfl) T.z_repr (by decide +kernel) (pa_cons (pv 4) pa_nil)))
      (pss_cons (ps_if (PW.pt (pw_or (pt_cmpR (op_neU hr.units) (pe_callB (call_repV hr.units hgd) (by rfl) T.z_repr (by decide +kernel) (pa_cons (pe_call G_is_word (hr.mono (by decide)) (by rfl) T.m_is_word T.F_is_word.kp (b_is_word T) .nil pass0 (pa_cons (pv 4) pa_nil)) pa_nil)) (pe_callB (call_repV hr.units hgd) (by rfl) T.z_repr (by decide +kernel) (pa_cons (pv 5) pa_nil)) (nomark _)) (pw_or1 (pt_cmpR (op_neU hr.units) (pe_callB (call_repV hr.units hgd) (by rfl) T.z_repr (by decide +kernel) (pa_cons (pv 4) pa_nil)) (pv 6) (nomark _))))) (pss_one (ps_ret pe_bl)) pss_nil)
      (pss_one (ps_if (PW.pt (pw_or (PW.pt (pw_and (pt_val (pv 5)) (pw_and1 (pt_not (pt_val (pe_callG hgd G_law_word_right (hr.mono (by decide)) (by rfl) T.m_law_word_right T.F_law_word_right.kp (b_law_word_right T) .nil pass0 (pa_cons (pv 1) (pa_cons (pe_callTy call_tuple_of (by rfl) T.z_tuple (by decide +kernel) (pa_cons (pv 4) pa_nil)) pa_nil)))))))) (pw_or1 (PW.pt (pw_and (pt_not (pt_val (pv 5))) (pw_and1 (pt_cmpR (op_neU hr.units) (pe_lamF (T := (pp T).ct.2) (TT := TTm (pp T) (g_law_heard (pp T))) (k := 5) (c := T.cc_law) (P := T.tp_law) T.F_law_heard (by rfl) T.m_law_heard (b_law_heard T) sc_law_heard rfl (Or.inl rfl) (fun cdv => gives_law_heard (X := (cxOf CX0 P w K mg base N_law "law" (defScope s_law) T.a_law (.ref T.cc_law) A outer s H E).nox) T _ (geq_law_heard T) cdv) (TB ("law", T.cc_law, T.tp_law) (by first | exact .head _ | exact .tail _ (.head _))) rfl (by first | exact .head _ | exact .tail _ (.head _)) (hu_tabs T) (hr.mono (by decide)) (LamX.lamS_by (by show LamX.lamSB (defScope s_law) _ = true; decide +kernel)) rfl (fun _ _ _ _ _ => rfl) (fun A outer s H E f c' hr2 => (pe_call G_made_of (hr2.mono (by decide)) (by rfl) T.m_made_of T.F_made_of.kp (b_made_of T) .nil (passes_call (takes_of rfl rfl rfl rfl) fun _ _ _ _ h => h) (pa_cons (pv 4) pa_nil)))) (pe_tup (pa_cons pe_str (pa_cons pe_str pa_nil))) (nomark _)))))))) (pss_one (ps_ret pe_bl)) pss_nil))))))))
      (pss_cons (ps_set (i := 7) sc_law.nd rfl (Or.inl rfl) (pe_lst (pa_cons (pe_tup (pa_cons pe_int (pa_cons pe_int (pa_cons pe_int pa_nil)))) (pa_cons (pe_tup (pa_cons pe_int (pa_cons pe_int (pa_cons pe_int pa_nil)))) (pa_cons (pe_tup (pa_cons pe_int (pa_cons pe_int (pa_cons pe_int pa_nil)))) (pa_cons (pe_tup (pa_cons pe_int (pa_cons pe_int (pa_cons pe_int pa_nil)))) pa_nil))))))
      (pss_one (ps_ret (pe_and (pe_cmpR (op_eqU hr.units) (pe_lc (own := [("_law_word_here", 3)]) (g := gName 3) rfl sc_law.nd (pi_or (pi_list (pv 7)) (pi_tup (pv 7))) (blkOk_by (N := N_law) (sc := defScope s_law) (by decide +kernel)) (fun _ _ _ _ _ => (pg_name (i := 3) sc_law.nd rfl (Or.inl rfl))) (fun _ _ _ _ _ => pts_one (pt_cmpR op_notN (pe_call G_made_of (hr.mono (by decide)) (by rfl) T.m_made_of T.F_made_of.kp (b_made_of T) .nil passL (pa_cons (pv 3) pa_nil)) pe_non (nomark _))) (fun _ _ _ _ _ => (pv 3))) (pe_lst pa_nil) (nomark _)) (pe_and (pe_cmpR (op_eqU hr.units) (pe_call G_made_of (hr.mono (by decide)) (by rfl) T.m_made_of T.F_made_of.kp (b_made_of T) .nil passL (pa_cons (pe_tup (pa_cons pe_int (pa_cons (pe_un un_neg pe_int) (pa_cons pe_int pa_nil)))) pa_nil)) (pe_tup (pa_cons (pe_tup (pa_cons pe_int (pa_cons pe_int (pa_cons pe_int pa_nil)))) (pa_cons (pe_tup (pa_cons pe_int (pa_cons pe_int (pa_cons pe_int pa_nil)))) pa_nil))) (nomark _)) (pe_one (pe_not (pe_call G_is_word (hr.mono (by decide)) (by rfl) T.m_is_word T.F_is_word.kp (b_is_word T) .nil pass0 (pa_cons (pe_tup (pa_cons pe_int (pa_cons pe_int (pa_cons (pe_un un_neg pe_int) pa_nil)))) pa_nil))))))))))),
      run_sims (P := pp T) (ms := m_law (pp T)) (k := 7) (sims_seq (sims_asg (sim_callL (sim_cons sim_var sim_nil)) (simg_name trivial))
      (sims_seq (sims_for (sim_range1 (sim_cons sim_int sim_nil)) (simg_name trivial) (sims_seq (sims_asg (sim_callL (sim_cons sim_var (sim_cons (sim_callL (sim_cons sim_var (sim_cons (sim_lst (sim_cons sim_int (sim_cons sim_int (sim_cons sim_int (sim_cons sim_int (sim_cons sim_int sim_nil)))))) sim_nil))) sim_nil))) (simg_name trivial))
      (sims_seq (sims_if (sim_notT (sim_tB (sim_callL (sim_cons sim_var (sim_cons sim_var sim_nil))))) (sims_ret sim_bl) sims_next)
      (sims_seq (sims_asg (sim_callL (sim_cons sim_var (sim_cons sim_var sim_nil))) (simg_tup (simg_cons (simg_name trivial) (simg_cons (simg_name trivial) simg_nil))))
      (sims_seq (sims_asg (sim_cb cbs_reprV (sim_cons sim_var sim_nil)) (simg_name trivial))
      (sims_seq (sims_if (sim_orT (sim_tTest (sim_op ops_ne (sim_cb cbs_reprV (sim_cons (sim_callL (sim_cons sim_var sim_nil)) sim_nil)) (sim_cb cbs_reprV (sim_cons sim_var sim_nil)))) (sim_tTest (sim_op ops_ne (sim_cb cbs_reprV (sim_cons sim_var sim_nil)) sim_var))) (sims_ret sim_bl) sims_next)
      (sims_if (sim_orT (sim_andT (sim_tB sim_var) (sim_notT (sim_tB (sim_callL (sim_cons sim_var (sim_cons (sim_cb cbs_tuple (sim_cons sim_var sim_nil)) sim_nil)))))) (sim_andT (sim_notT (sim_tB sim_var)) (sim_tTest (sim_op ops_ne (sim_lam rfl fun E => (sim_call (sim_cons sim_var sim_nil) fun _ _ _ _ h => h)) (sim_tup (sim_cons sim_str (sim_cons sim_str sim_nil))))))) (sims_ret sim_bl) sims_next)))))))
      (sims_seq (sims_asg (sim_lst (sim_cons (sim_tup (sim_cons sim_int (sim_cons sim_int (sim_cons sim_int sim_nil)))) (sim_cons (sim_tup (sim_cons sim_int (sim_cons sim_int (sim_cons sim_int sim_nil)))) (sim_cons (sim_tup (sim_cons sim_int (sim_cons sim_int (sim_cons sim_int sim_nil)))) (sim_cons (sim_tup (sim_cons sim_int (sim_cons sim_int (sim_cons sim_int sim_nil)))) sim_nil))))) (simg_name trivial))
      (sims_ret (sim_andV (sim_op ops_eq (sim_lc (sim_walk sim_var) simg_own (sim_tTest (sim_op ops_notN (sim_callL (sim_cons sim_var sim_nil)) sim_non)) sim_var) (sim_lst sim_nil)) (sim_andV (sim_op ops_eq (sim_callL (sim_cons (sim_tup (sim_cons sim_int (sim_cons (sim_un uns_neg sim_int) (sim_cons sim_int sim_nil)))) sim_nil)) (sim_tup (sim_cons (sim_tup (sim_cons sim_int (sim_cons sim_int (sim_cons sim_int sim_nil)))) (sim_cons (sim_tup (sim_cons sim_int (sim_cons sim_int (sim_cons sim_int sim_nil)))) sim_nil)))) (sim_notV (sim_callL (sim_cons (sim_tup (sim_cons sim_int (sim_cons sim_int (sim_cons (sim_un uns_neg sim_int) sim_nil)))) sim_nil))))))))) rfl h⟩
end
end Ty

namespace Ty
open PySem PySem.Spec PyProof.Rows L2 Mi
variable {R : Pr}
theorem lg2 : Nat.log2 2 = 1 := by decide +kernel
theorem p_is_integer (x : Int) (A : Mem) : f_is_integer R [.int x] A = some (.ok (.bl true), A) := by
  unfold f_is_integer m_is_integer
  simp [Mi.fnM, Mi.outF, Mi.mSeq, Mi.thn, Mi.mNext, Mi.mRet, Mi.mRetN, Mi.mDrop, Mi.mIfS, Mi.mTst, Mi.tru, Mi.mAndT, Mi.mOrT, Mi.mNotT, Mi.mAnd, Mi.mOr, Mi.mNot, Mi.mIf, Mi.mBin, Mi.mUn, Mi.mCb, Mi.mVar, Mi.mC, Mi.mCons, Mi.mNil, Mi.bnd_at, Mi.ret_at, Mi.ofO_at, Mi.fail_at, Mi.ite_at, Mi.mAsg, Mi.gmName, Mi.mTup, Mi.mLst, Mi.mLstM, Mi.mCallL, Mi.calm_at, Mi.mCallNL, Mi.oCmp, Mi.oIsN, Mi.oNotN, Mi.isNon, Mi.oAdd, Mi.oSub, Mi.oNeg, Mi.oMod, Mi.mYes, Mi.mPar, Mi.mPar3, Mi.raise, Mi.big, Mi.kdv, Mi.asQ, Mi.asL, Mi.asS, Mi.asI, Mi.trus, Mi.oIx, Mi.at_0, Mi.at3_1, Mi.at3_2, Mi.at2_1, Mi.now, Mi.sameD, Mi.mLc, Mi.mLcs, Mi.mWalk, Mi.loopC, Mi.wipD, Mi.oLen, Mi.oEq, Mi.oNe, Mi.oAll, Mi.oAny, Mi.kit_non_int, Mi.kit_non_bool, Mi.kit_non_list, Mi.kit_non_tuple, Mi.kit_non_str, Mi.kit_bl_int, Mi.kit_bl_bool, Mi.kit_bl_list, Mi.kit_bl_tuple, Mi.kit_bl_str, Mi.kit_int_int, Mi.kit_int_bool, Mi.kit_int_list, Mi.kit_int_tuple, Mi.kit_int_str, Mi.kit_str_int, Mi.kit_str_bool, Mi.kit_str_list, Mi.kit_str_tuple, Mi.kit_str_str, Mi.kit_tup_int, Mi.kit_tup_bool, Mi.kit_tup_list, Mi.kit_tup_tuple, Mi.kit_tup_str, Mi.kit_lst_int, Mi.kit_lst_bool, Mi.kit_lst_list, Mi.kit_lst_tuple, Mi.kit_lst_str, Mi.kit_dic_int, Mi.kit_dic_bool, Mi.kit_dic_list, Mi.kit_dic_tuple, Mi.kit_dic_str, oIsi]
theorem p_parts (x : Int) (A : Mem) : f_parts_of_one R [.int x] A = some (.ok (.tup (if x < 0 then [.int 0, .int (-x)] else if x % 2 = 0 then [.int (x / 2), .int 0] else [.int ((x + 1) / 2), .int 1])), A) := by
  unfold f_parts_of_one m_parts_of_one
  by_cases h1 : x < 0
  · simp [Mi.fnM, Mi.outF, Mi.mSeq, Mi.thn, Mi.mNext, Mi.mRet, Mi.mRetN, Mi.mDrop, Mi.mIfS, Mi.mTst, Mi.tru, Mi.mAndT, Mi.mOrT, Mi.mNotT, Mi.mAnd, Mi.mOr, Mi.mNot, Mi.mIf, Mi.mBin, Mi.mUn, Mi.mCb, Mi.mVar, Mi.mC, Mi.mCons, Mi.mNil, Mi.bnd_at, Mi.ret_at, Mi.ofO_at, Mi.fail_at, Mi.ite_at, Mi.mAsg, Mi.gmName, Mi.mTup, Mi.mLst, Mi.mLstM, Mi.mCallL, Mi.calm_at, Mi.mCallNL, Mi.oCmp, Mi.oIsN, Mi.oNotN, Mi.isNon, Mi.oAdd, Mi.oSub, Mi.oNeg, Mi.oMod, Mi.mYes, Mi.mPar, Mi.mPar3, Mi.raise, Mi.big, Mi.kdv, Mi.asQ, Mi.asL, Mi.asS, Mi.asI, Mi.trus, Mi.oIx, Mi.at_0, Mi.at3_1, Mi.at3_2, Mi.at2_1, Mi.now, Mi.sameD, Mi.mLc, Mi.mLcs, Mi.mWalk, Mi.loopC, Mi.wipD, Mi.oLen, Mi.oEq, Mi.oNe, Mi.oAll, Mi.oAny, Mi.kit_non_int, Mi.kit_non_bool, Mi.kit_non_list, Mi.kit_non_tuple, Mi.kit_non_str, Mi.kit_bl_int, Mi.kit_bl_bool, Mi.kit_bl_list, Mi.kit_bl_tuple, Mi.kit_bl_str, Mi.kit_int_int, Mi.kit_int_bool, Mi.kit_int_list, Mi.kit_int_tuple, Mi.kit_int_str, Mi.kit_str_int, Mi.kit_str_bool, Mi.kit_str_list, Mi.kit_str_tuple, Mi.kit_str_str, Mi.kit_tup_int, Mi.kit_tup_bool, Mi.kit_tup_list, Mi.kit_tup_tuple, Mi.kit_tup_str, Mi.kit_lst_int, Mi.kit_lst_bool, Mi.kit_lst_list, Mi.kit_lst_tuple, Mi.kit_lst_str, Mi.kit_dic_int, Mi.kit_dic_bool, Mi.kit_dic_list, Mi.kit_dic_tuple, Mi.kit_dic_str, oEq, now, sameD, oDiv, h1]
  by_cases h2 : x % 2 = 0
  all_goals simp [Mi.fnM, Mi.outF, Mi.mSeq, Mi.thn, Mi.mNext, Mi.mRet, Mi.mRetN, Mi.mDrop, Mi.mIfS, Mi.mTst, Mi.tru, Mi.mAndT, Mi.mOrT, Mi.mNotT, Mi.mAnd, Mi.mOr, Mi.mNot, Mi.mIf, Mi.mBin, Mi.mUn, Mi.mCb, Mi.mVar, Mi.mC, Mi.mCons, Mi.mNil, Mi.bnd_at, Mi.ret_at, Mi.ofO_at, Mi.fail_at, Mi.ite_at, Mi.mAsg, Mi.gmName, Mi.mTup, Mi.mLst, Mi.mLstM, Mi.mCallL, Mi.calm_at, Mi.mCallNL, Mi.oCmp, Mi.oIsN, Mi.oNotN, Mi.isNon, Mi.oAdd, Mi.oSub, Mi.oNeg, Mi.oMod, Mi.mYes, Mi.mPar, Mi.mPar3, Mi.raise, Mi.big, Mi.kdv, Mi.asQ, Mi.asL, Mi.asS, Mi.asI, Mi.trus, Mi.oIx, Mi.at_0, Mi.at3_1, Mi.at3_2, Mi.at2_1, Mi.now, Mi.sameD, Mi.mLc, Mi.mLcs, Mi.mWalk, Mi.loopC, Mi.wipD, Mi.oLen, Mi.oEq, Mi.oNe, Mi.oAll, Mi.oAny, Mi.kit_non_int, Mi.kit_non_bool, Mi.kit_non_list, Mi.kit_non_tuple, Mi.kit_non_str, Mi.kit_bl_int, Mi.kit_bl_bool, Mi.kit_bl_list, Mi.kit_bl_tuple, Mi.kit_bl_str, Mi.kit_int_int, Mi.kit_int_bool, Mi.kit_int_list, Mi.kit_int_tuple, Mi.kit_int_str, Mi.kit_str_int, Mi.kit_str_bool, Mi.kit_str_list, Mi.kit_str_tuple, Mi.kit_str_str, Mi.kit_tup_int, Mi.kit_tup_bool, Mi.kit_tup_list, Mi.kit_tup_tuple, Mi.kit_tup_str, Mi.kit_lst_int, Mi.kit_lst_bool, Mi.kit_lst_list, Mi.kit_lst_tuple, Mi.kit_lst_str, Mi.kit_dic_int, Mi.kit_dic_bool, Mi.kit_dic_list, Mi.kit_dic_tuple, Mi.kit_dic_str, oEq, now, sameD, oDiv, h1, h2, lg2]
/-- a word's value -/
abbrev wz (x y z : Int) : Dv := .tup [.int x, .int y, .int z]
def lim (x : Int) : Bool := decide (-24 ≤ x) && decide (x ≤ 24)
def od (x : Int) : Bool := decide (x % 2 = 1)
def nod (x y z : Int) : Nat := (if od x then 1 else 0) + (if od y then 1 else 0) + (if od z then 1 else 0)
/-- what is_word tells of three whole numbers -/
def isw (x y z : Int) : Bool := lim x && (lim y && lim z) && decide (nod x y z < 2)
theorem p_is_within (x : Int) (A : Mem) : f_is_within R [.int x, .int (-24), .int 24] A = some (.ok (.bl (lim x)), A) := by
  unfold f_is_within m_is_within
  unfold lim
  by_cases h : -24 ≤ x <;> simp [Mi.fnM, Mi.outF, Mi.mSeq, Mi.thn, Mi.mNext, Mi.mRet, Mi.mRetN, Mi.mDrop, Mi.mIfS, Mi.mTst, Mi.tru, Mi.mAndT, Mi.mOrT, Mi.mNotT, Mi.mAnd, Mi.mOr, Mi.mNot, Mi.mIf, Mi.mBin, Mi.mUn, Mi.mCb, Mi.mVar, Mi.mC, Mi.mCons, Mi.mNil, Mi.bnd_at, Mi.ret_at, Mi.ofO_at, Mi.fail_at, Mi.ite_at, Mi.mAsg, Mi.gmName, Mi.mTup, Mi.mLst, Mi.mLstM, Mi.mCallL, Mi.calm_at, Mi.mCallNL, Mi.oCmp, Mi.oIsN, Mi.oNotN, Mi.isNon, Mi.oAdd, Mi.oSub, Mi.oNeg, Mi.oMod, Mi.mYes, Mi.mPar, Mi.mPar3, Mi.raise, Mi.big, Mi.kdv, Mi.asQ, Mi.asL, Mi.asS, Mi.asI, Mi.trus, Mi.oIx, Mi.at_0, Mi.at3_1, Mi.at3_2, Mi.at2_1, Mi.now, Mi.sameD, Mi.mLc, Mi.mLcs, Mi.mWalk, Mi.loopC, Mi.wipD, Mi.oLen, Mi.oEq, Mi.oNe, Mi.oAll, Mi.oAny, Mi.kit_non_int, Mi.kit_non_bool, Mi.kit_non_list, Mi.kit_non_tuple, Mi.kit_non_str, Mi.kit_bl_int, Mi.kit_bl_bool, Mi.kit_bl_list, Mi.kit_bl_tuple, Mi.kit_bl_str, Mi.kit_int_int, Mi.kit_int_bool, Mi.kit_int_list, Mi.kit_int_tuple, Mi.kit_int_str, Mi.kit_str_int, Mi.kit_str_bool, Mi.kit_str_list, Mi.kit_str_tuple, Mi.kit_str_str, Mi.kit_tup_int, Mi.kit_tup_bool, Mi.kit_tup_list, Mi.kit_tup_tuple, Mi.kit_tup_str, Mi.kit_lst_int, Mi.kit_lst_bool, Mi.kit_lst_list, Mi.kit_lst_tuple, Mi.kit_lst_str, Mi.kit_dic_int, Mi.kit_dic_bool, Mi.kit_dic_list, Mi.kit_dic_tuple, Mi.kit_dic_str, p_is_integer, h]
theorem p_is_list_tup (l : List Dv) (A : Mem) : f_is_list R [.tup l] A = some (.ok (.bl true), A) := by
  unfold f_is_list m_is_list
  simp [Mi.fnM, Mi.outF, Mi.mSeq, Mi.thn, Mi.mNext, Mi.mRet, Mi.mRetN, Mi.mDrop, Mi.mIfS, Mi.mTst, Mi.tru, Mi.mAndT, Mi.mOrT, Mi.mNotT, Mi.mAnd, Mi.mOr, Mi.mNot, Mi.mIf, Mi.mBin, Mi.mUn, Mi.mCb, Mi.mVar, Mi.mC, Mi.mCons, Mi.mNil, Mi.bnd_at, Mi.ret_at, Mi.ofO_at, Mi.fail_at, Mi.ite_at, Mi.mAsg, Mi.gmName, Mi.mTup, Mi.mLst, Mi.mLstM, Mi.mCallL, Mi.calm_at, Mi.mCallNL, Mi.oCmp, Mi.oIsN, Mi.oNotN, Mi.isNon, Mi.oAdd, Mi.oSub, Mi.oNeg, Mi.oMod, Mi.mYes, Mi.mPar, Mi.mPar3, Mi.raise, Mi.big, Mi.kdv, Mi.asQ, Mi.asL, Mi.asS, Mi.asI, Mi.trus, Mi.oIx, Mi.at_0, Mi.at3_1, Mi.at3_2, Mi.at2_1, Mi.now, Mi.sameD, Mi.mLc, Mi.mLcs, Mi.mWalk, Mi.loopC, Mi.wipD, Mi.oLen, Mi.oEq, Mi.oNe, Mi.oAll, Mi.oAny, Mi.kit_non_int, Mi.kit_non_bool, Mi.kit_non_list, Mi.kit_non_tuple, Mi.kit_non_str, Mi.kit_bl_int, Mi.kit_bl_bool, Mi.kit_bl_list, Mi.kit_bl_tuple, Mi.kit_bl_str, Mi.kit_int_int, Mi.kit_int_bool, Mi.kit_int_list, Mi.kit_int_tuple, Mi.kit_int_str, Mi.kit_str_int, Mi.kit_str_bool, Mi.kit_str_list, Mi.kit_str_tuple, Mi.kit_str_str, Mi.kit_tup_int, Mi.kit_tup_bool, Mi.kit_tup_list, Mi.kit_tup_tuple, Mi.kit_tup_str, Mi.kit_lst_int, Mi.kit_lst_bool, Mi.kit_lst_list, Mi.kit_lst_tuple, Mi.kit_lst_str, Mi.kit_dic_int, Mi.kit_dic_bool, Mi.kit_dic_list, Mi.kit_dic_tuple, Mi.kit_dic_str, oIsi]
theorem p_is_list_lst (l : List Dv) (A : Mem) : f_is_list R [.lst l] A = some (.ok (.bl true), A) := by
  unfold f_is_list m_is_list
  simp [Mi.fnM, Mi.outF, Mi.mSeq, Mi.thn, Mi.mNext, Mi.mRet, Mi.mRetN, Mi.mDrop, Mi.mIfS, Mi.mTst, Mi.tru, Mi.mAndT, Mi.mOrT, Mi.mNotT, Mi.mAnd, Mi.mOr, Mi.mNot, Mi.mIf, Mi.mBin, Mi.mUn, Mi.mCb, Mi.mVar, Mi.mC, Mi.mCons, Mi.mNil, Mi.bnd_at, Mi.ret_at, Mi.ofO_at, Mi.fail_at, Mi.ite_at, Mi.mAsg, Mi.gmName, Mi.mTup, Mi.mLst, Mi.mLstM, Mi.mCallL, Mi.calm_at, Mi.mCallNL, Mi.oCmp, Mi.oIsN, Mi.oNotN, Mi.isNon, Mi.oAdd, Mi.oSub, Mi.oNeg, Mi.oMod, Mi.mYes, Mi.mPar, Mi.mPar3, Mi.raise, Mi.big, Mi.kdv, Mi.asQ, Mi.asL, Mi.asS, Mi.asI, Mi.trus, Mi.oIx, Mi.at_0, Mi.at3_1, Mi.at3_2, Mi.at2_1, Mi.now, Mi.sameD, Mi.mLc, Mi.mLcs, Mi.mWalk, Mi.loopC, Mi.wipD, Mi.oLen, Mi.oEq, Mi.oNe, Mi.oAll, Mi.oAny, Mi.kit_non_int, Mi.kit_non_bool, Mi.kit_non_list, Mi.kit_non_tuple, Mi.kit_non_str, Mi.kit_bl_int, Mi.kit_bl_bool, Mi.kit_bl_list, Mi.kit_bl_tuple, Mi.kit_bl_str, Mi.kit_int_int, Mi.kit_int_bool, Mi.kit_int_list, Mi.kit_int_tuple, Mi.kit_int_str, Mi.kit_str_int, Mi.kit_str_bool, Mi.kit_str_list, Mi.kit_str_tuple, Mi.kit_str_str, Mi.kit_tup_int, Mi.kit_tup_bool, Mi.kit_tup_list, Mi.kit_tup_tuple, Mi.kit_tup_str, Mi.kit_lst_int, Mi.kit_lst_bool, Mi.kit_lst_list, Mi.kit_lst_tuple, Mi.kit_lst_str, Mi.kit_dic_int, Mi.kit_dic_bool, Mi.kit_dic_list, Mi.kit_dic_tuple, Mi.kit_dic_str, oIsi]
theorem p_is_word (x y z : Int) (d : Dv) (hd : d = wz x y z ∨ d = .lst [.int x, .int y, .int z]) (A : Mem) : f_is_word R [d] A = some (.ok (.bl (isw x y z)), A) := by
  unfold f_is_word m_is_word isw nod od
  cases h1 : lim x <;> cases h2 : lim y <;> cases h3 : lim z <;> rcases hd with rfl | rfl
  all_goals first
    | simp [Mi.fnM, Mi.outF, Mi.mSeq, Mi.thn, Mi.mNext, Mi.mRet, Mi.mRetN, Mi.mDrop, Mi.mIfS, Mi.mTst, Mi.tru, Mi.mAndT, Mi.mOrT, Mi.mNotT, Mi.mAnd, Mi.mOr, Mi.mNot, Mi.mIf, Mi.mBin, Mi.mUn, Mi.mCb, Mi.mVar, Mi.mC, Mi.mCons, Mi.mNil, Mi.bnd_at, Mi.ret_at, Mi.ofO_at, Mi.fail_at, Mi.ite_at, Mi.mAsg, Mi.gmName, Mi.mTup, Mi.mLst, Mi.mLstM, Mi.mCallL, Mi.calm_at, Mi.mCallNL, Mi.oCmp, Mi.oIsN, Mi.oNotN, Mi.isNon, Mi.oAdd, Mi.oSub, Mi.oNeg, Mi.oMod, Mi.mYes, Mi.mPar, Mi.mPar3, Mi.raise, Mi.big, Mi.kdv, Mi.asQ, Mi.asL, Mi.asS, Mi.asI, Mi.trus, Mi.oIx, Mi.at_0, Mi.at3_1, Mi.at3_2, Mi.at2_1, Mi.now, Mi.sameD, Mi.mLc, Mi.mLcs, Mi.mWalk, Mi.loopC, Mi.wipD, Mi.oLen, Mi.oEq, Mi.oNe, Mi.oAll, Mi.oAny, Mi.kit_non_int, Mi.kit_non_bool, Mi.kit_non_list, Mi.kit_non_tuple, Mi.kit_non_str, Mi.kit_bl_int, Mi.kit_bl_bool, Mi.kit_bl_list, Mi.kit_bl_tuple, Mi.kit_bl_str, Mi.kit_int_int, Mi.kit_int_bool, Mi.kit_int_list, Mi.kit_int_tuple, Mi.kit_int_str, Mi.kit_str_int, Mi.kit_str_bool, Mi.kit_str_list, Mi.kit_str_tuple, Mi.kit_str_str, Mi.kit_tup_int, Mi.kit_tup_bool, Mi.kit_tup_list, Mi.kit_tup_tuple, Mi.kit_tup_str, Mi.kit_lst_int, Mi.kit_lst_bool, Mi.kit_lst_list, Mi.kit_lst_tuple, Mi.kit_lst_str, Mi.kit_dic_int, Mi.kit_dic_bool, Mi.kit_dic_list, Mi.kit_dic_tuple, Mi.kit_dic_str, p_is_list_tup, p_is_list_lst, p_is_within, h1, h2, h3]; done
    | by_cases h4 : x % 2 = 1 <;> by_cases h5 : y % 2 = 1 <;> by_cases h6 : z % 2 = 1 <;> simp [Mi.fnM, Mi.outF, Mi.mSeq, Mi.thn, Mi.mNext, Mi.mRet, Mi.mRetN, Mi.mDrop, Mi.mIfS, Mi.mTst, Mi.tru, Mi.mAndT, Mi.mOrT, Mi.mNotT, Mi.mAnd, Mi.mOr, Mi.mNot, Mi.mIf, Mi.mBin, Mi.mUn, Mi.mCb, Mi.mVar, Mi.mC, Mi.mCons, Mi.mNil, Mi.bnd_at, Mi.ret_at, Mi.ofO_at, Mi.fail_at, Mi.ite_at, Mi.mAsg, Mi.gmName, Mi.mTup, Mi.mLst, Mi.mLstM, Mi.mCallL, Mi.calm_at, Mi.mCallNL, Mi.oCmp, Mi.oIsN, Mi.oNotN, Mi.isNon, Mi.oAdd, Mi.oSub, Mi.oNeg, Mi.oMod, Mi.mYes, Mi.mPar, Mi.mPar3, Mi.raise, Mi.big, Mi.kdv, Mi.asQ, Mi.asL, Mi.asS, Mi.asI, Mi.trus, Mi.oIx, Mi.at_0, Mi.at3_1, Mi.at3_2, Mi.at2_1, Mi.now, Mi.sameD, Mi.mLc, Mi.mLcs, Mi.mWalk, Mi.loopC, Mi.wipD, Mi.oLen, Mi.oEq, Mi.oNe, Mi.oAll, Mi.oAny, Mi.kit_non_int, Mi.kit_non_bool, Mi.kit_non_list, Mi.kit_non_tuple, Mi.kit_non_str, Mi.kit_bl_int, Mi.kit_bl_bool, Mi.kit_bl_list, Mi.kit_bl_tuple, Mi.kit_bl_str, Mi.kit_int_int, Mi.kit_int_bool, Mi.kit_int_list, Mi.kit_int_tuple, Mi.kit_int_str, Mi.kit_str_int, Mi.kit_str_bool, Mi.kit_str_list, Mi.kit_str_tuple, Mi.kit_str_str, Mi.kit_tup_int, Mi.kit_tup_bool, Mi.kit_tup_list, Mi.kit_tup_tuple, Mi.kit_tup_str, Mi.kit_lst_int, Mi.kit_lst_bool, Mi.kit_lst_list, Mi.kit_lst_tuple, Mi.kit_lst_str, Mi.kit_dic_int, Mi.kit_dic_bool, Mi.kit_dic_list, Mi.kit_dic_tuple, Mi.kit_dic_str, p_is_list_tup, p_is_list_lst, p_is_within, h1, h2, h3, h4, h5, h6]
end Ty

namespace Ty
open PySem PySem.Spec PyProof.Rows L2 Mi
variable {R : Pr}
/-- the jar -/
abbrev jr (cs : List Int) (t l : Int) : Ob := .lst [.lst (cs.map .int), .int t, .int l]
theorem scratch_left (cs : List Int) (t l n : Int) (B : Mem) (hn : 0 < n) (hn2 : n.natAbs.log2 < 9000) (h : 0 < l) : f_law_scratch R [.loc 0, .int n] (jr cs t l :: B) = some (.ok (.int (l % n)), jr cs t (l / n) :: B) := by
  unfold f_law_scratch m_law_scratch
  simp [Mi.fnM, Mi.outF, Mi.mSeq, Mi.thn, Mi.mNext, Mi.mRet, Mi.mRetN, Mi.mDrop, Mi.mIfS, Mi.mTst, Mi.tru, Mi.mAndT, Mi.mOrT, Mi.mNotT, Mi.mAnd, Mi.mOr, Mi.mNot, Mi.mIf, Mi.mBin, Mi.mUn, Mi.mCb, Mi.mVar, Mi.mC, Mi.mCons, Mi.mNil, Mi.bnd_at, Mi.ret_at, Mi.ofO_at, Mi.fail_at, Mi.ite_at, Mi.mAsg, Mi.gmName, Mi.mTup, Mi.mLst, Mi.mLstM, Mi.mCallL, Mi.calm_at, Mi.mCallNL, Mi.oCmp, Mi.oIsN, Mi.oNotN, Mi.isNon, Mi.oAdd, Mi.oSub, Mi.oNeg, Mi.oMod, Mi.mYes, Mi.mPar, Mi.mPar3, Mi.raise, Mi.big, Mi.kdv, Mi.asQ, Mi.asL, Mi.asS, Mi.asI, Mi.trus, Mi.oIx, Mi.at_0, Mi.at3_1, Mi.at3_2, Mi.at2_1, Mi.now, Mi.sameD, Mi.mLc, Mi.mLcs, Mi.mWalk, Mi.loopC, Mi.wipD, Mi.oLen, Mi.oEq, Mi.oNe, Mi.oAll, Mi.oAny, Mi.kit_non_int, Mi.kit_non_bool, Mi.kit_non_list, Mi.kit_non_tuple, Mi.kit_non_str, Mi.kit_bl_int, Mi.kit_bl_bool, Mi.kit_bl_list, Mi.kit_bl_tuple, Mi.kit_bl_str, Mi.kit_int_int, Mi.kit_int_bool, Mi.kit_int_list, Mi.kit_int_tuple, Mi.kit_int_str, Mi.kit_str_int, Mi.kit_str_bool, Mi.kit_str_list, Mi.kit_str_tuple, Mi.kit_str_str, Mi.kit_tup_int, Mi.kit_tup_bool, Mi.kit_tup_list, Mi.kit_tup_tuple, Mi.kit_tup_str, Mi.kit_lst_int, Mi.kit_lst_bool, Mi.kit_lst_list, Mi.kit_lst_tuple, Mi.kit_lst_str, Mi.kit_dic_int, Mi.kit_dic_bool, Mi.kit_dic_list, Mi.kit_dic_tuple, Mi.kit_dic_str, h, gmSub, putL, oDiv, oInt, hn, hn2, L2.ixN]
theorem log_small {x : Int} (h1 : -(2 ^ 200) < x) (h2 : x < 2 ^ 200) : x.natAbs.log2 < 1000000 := by
  by_cases h : x.natAbs = 0
  · rw [h]; decide
  · rw [Nat.log2_lt h]
    exact Nat.lt_of_lt_of_le (show x.natAbs < 2 ^ 200 by omega) (Nat.pow_le_pow_right (by decide) (by decide))
theorem cm_l {i j : Int} (h1 : -(2 ^ 64) < i) (h2 : i < 2 ^ 64) : CMulU i j := .inr (.inl ⟨h1, h2⟩)
theorem cm_r {i j : Int} (h1 : -(2 ^ 64) < j) (h2 : j < 2 ^ 64) : CMulU i j := .inr (.inr ⟨h1, h2⟩)
theorem scratch_new (cs : List Int) (t n : Int) (B : Mem) (hn : 0 < n) (hn2 : n.natAbs.log2 < 9000) (ht : 0 ≤ t) (ht2 : t ≤ 100000) :
    ∃ k l', 0 ≤ k ∧ k < n ∧ 0 ≤ l' ∧ f_law_scratch R [.loc 0, .int n] (jr cs t 0 :: B) = some (.ok (.int k), jr cs (t + 1) l' :: B) := by
  have c1 : CMulU 70325 t := cm_l (by decide) (by decide)
  have c2 : CMulU 57597 t := cm_l (by decide) (by decide)
  have c3 : CMulU 2 t := cm_l (by decide) (by decide)
  have c4 : CMulU (70325 * t) t := cm_r (by omega) (by omega)
  have c5 : ∀ m, CMulU m (2 * t + 2715) := fun m => cm_r (by omega) (by omega)
  have c6 : ∀ m, CMulU 2 m := fun m => cm_l (by decide) (by decide)
  have l64 : Nat.log2 64 < 9000 := by decide +kernel
  have p1 : ∀ c : Int, (c % 2147483587 + 57597 * t + 6655).natAbs.log2 < 1000000 := fun c => by
    have := Int.emod_nonneg c (show (2147483587 : Int) ≠ 0 by decide)
    have := Int.emod_lt_of_pos c (show (0 : Int) < 2147483587 by decide)
    exact log_small (by omega) (by omega)
  have tt : 0 ≤ t * t ∧ t * t ≤ 100000 * 100000 := ⟨Int.mul_nonneg ht ht, Int.mul_le_mul ht2 ht2 ht (by decide)⟩
  have p2 : ∀ c : Int, (c % 2147483549 * (2 * t + 2715) + 70325 * t * t + 57597).natAbs.log2 < 1000000 := fun c => by
    have h1 := Int.emod_nonneg c (show (2147483549 : Int) ≠ 0 by decide)
    have h2 := Int.emod_lt_of_pos c (show (0 : Int) < 2147483549 by decide)
    have h3 : 0 ≤ c % 2147483549 * (2 * t + 2715) := Int.mul_nonneg h1 (by omega)
    have h4 : c % 2147483549 * (2 * t + 2715) ≤ 2147483549 * 202715 := Int.mul_le_mul (by omega) (by omega) (by omega) (by decide)
    have h5 : 70325 * t * t = 70325 * (t * t) := Int.mul_assoc _ _ _
    exact log_small (by omega) (by omega)
  have m1 : ∀ x : Int, 0 ≤ x % n ∧ x % n < n := fun x => ⟨Int.emod_nonneg _ (by omega), Int.emod_lt_of_pos _ hn⟩
  have lg18 : Nat.log2 10 < 1000000 := by decide +kernel
  unfold f_law_scratch m_law_scratch
  by_cases hcs : cs = []
  · subst hcs
    have nl : ¬ t < 0 := by omega
    simp [Mi.fnM, Mi.outF, Mi.mSeq, Mi.thn, Mi.mNext, Mi.mRet, Mi.mRetN, Mi.mDrop, Mi.mIfS, Mi.mTst, Mi.tru, Mi.mAndT, Mi.mOrT, Mi.mNotT, Mi.mAnd, Mi.mOr, Mi.mNot, Mi.mIf, Mi.mBin, Mi.mUn, Mi.mCb, Mi.mVar, Mi.mC, Mi.mCons, Mi.mNil, Mi.bnd_at, Mi.ret_at, Mi.ofO_at, Mi.fail_at, Mi.ite_at, Mi.mAsg, Mi.gmName, Mi.mTup, Mi.mLst, Mi.mLstM, Mi.mCallL, Mi.calm_at, Mi.mCallNL, Mi.oCmp, Mi.oIsN, Mi.oNotN, Mi.isNon, Mi.oAdd, Mi.oSub, Mi.oNeg, Mi.oMod, Mi.mYes, Mi.mPar, Mi.mPar3, Mi.raise, Mi.big, Mi.kdv, Mi.asQ, Mi.asL, Mi.asS, Mi.asI, Mi.trus, Mi.oIx, Mi.at_0, Mi.at3_1, Mi.at3_2, Mi.at2_1, Mi.now, Mi.sameD, Mi.mLc, Mi.mLcs, Mi.mWalk, Mi.loopC, Mi.wipD, Mi.oLen, Mi.oEq, Mi.oNe, Mi.oAll, Mi.oAny, Mi.kit_non_int, Mi.kit_non_bool, Mi.kit_non_list, Mi.kit_non_tuple, Mi.kit_non_str, Mi.kit_bl_int, Mi.kit_bl_bool, Mi.kit_bl_list, Mi.kit_bl_tuple, Mi.kit_bl_str, Mi.kit_int_int, Mi.kit_int_bool, Mi.kit_int_list, Mi.kit_int_tuple, Mi.kit_int_str, Mi.kit_str_int, Mi.kit_str_bool, Mi.kit_str_list, Mi.kit_str_tuple, Mi.kit_str_str, Mi.kit_tup_int, Mi.kit_tup_bool, Mi.kit_tup_list, Mi.kit_tup_tuple, Mi.kit_tup_str, Mi.kit_lst_int, Mi.kit_lst_bool, Mi.kit_lst_list, Mi.kit_lst_tuple, Mi.kit_lst_str, Mi.kit_dic_int, Mi.kit_dic_bool, Mi.kit_dic_list, Mi.kit_dic_tuple, Mi.kit_dic_str, gmSub, putL, oDiv, oInt, oMul, oPow, hn, hn2, L2.ixN, c1, c2, c3, c4, c5, c6, p1, p2, l64, nl, isDv, isDvs, dpv, dpvs, beqD, beqDs, pdv, pdvs, m1]
  · obtain ⟨c, hc⟩ := at_mod cs hcs t
    have e1 : beqDs (cs.map Dv.int) [] = false := by
      cases cs with
      | nil => exact absurd rfl hcs
      | cons _ _ => rfl
    have e2 : PyData.eqv (.list (pdvs (cs.map Dv.int))) (.list []) = false := by
      cases cs with
      | nil => exact absurd rfl hcs
      | cons _ _ => rfl
    have e3 : 0 < cs.length := List.length_pos_iff.mpr hcs
    have left : ∀ z : Int, 0 ≤ z → 0 ≤ z / n := fun z hz => Int.ediv_nonneg hz (by omega)
    by_cases b1 : t < (cs.length : Int)
    · by_cases b2 : c < 0
      · by_cases b3 : (1000000000000000000 : Int) ≤ -c
        · have q := left (2 * (-c - 1000000000000000000) + 1) (by omega)
          simp [Mi.fnM, Mi.outF, Mi.mSeq, Mi.thn, Mi.mNext, Mi.mRet, Mi.mRetN, Mi.mDrop, Mi.mIfS, Mi.mTst, Mi.tru, Mi.mAndT, Mi.mOrT, Mi.mNotT, Mi.mAnd, Mi.mOr, Mi.mNot, Mi.mIf, Mi.mBin, Mi.mUn, Mi.mCb, Mi.mVar, Mi.mC, Mi.mCons, Mi.mNil, Mi.bnd_at, Mi.ret_at, Mi.ofO_at, Mi.fail_at, Mi.ite_at, Mi.mAsg, Mi.gmName, Mi.mTup, Mi.mLst, Mi.mLstM, Mi.mCallL, Mi.calm_at, Mi.mCallNL, Mi.oCmp, Mi.oIsN, Mi.oNotN, Mi.isNon, Mi.oAdd, Mi.oSub, Mi.oNeg, Mi.oMod, Mi.mYes, Mi.mPar, Mi.mPar3, Mi.raise, Mi.big, Mi.kdv, Mi.asQ, Mi.asL, Mi.asS, Mi.asI, Mi.trus, Mi.oIx, Mi.at_0, Mi.at3_1, Mi.at3_2, Mi.at2_1, Mi.now, Mi.sameD, Mi.mLc, Mi.mLcs, Mi.mWalk, Mi.loopC, Mi.wipD, Mi.oLen, Mi.oEq, Mi.oNe, Mi.oAll, Mi.oAny, Mi.kit_non_int, Mi.kit_non_bool, Mi.kit_non_list, Mi.kit_non_tuple, Mi.kit_non_str, Mi.kit_bl_int, Mi.kit_bl_bool, Mi.kit_bl_list, Mi.kit_bl_tuple, Mi.kit_bl_str, Mi.kit_int_int, Mi.kit_int_bool, Mi.kit_int_list, Mi.kit_int_tuple, Mi.kit_int_str, Mi.kit_str_int, Mi.kit_str_bool, Mi.kit_str_list, Mi.kit_str_tuple, Mi.kit_str_str, Mi.kit_tup_int, Mi.kit_tup_bool, Mi.kit_tup_list, Mi.kit_tup_tuple, Mi.kit_tup_str, Mi.kit_lst_int, Mi.kit_lst_bool, Mi.kit_lst_list, Mi.kit_lst_tuple, Mi.kit_lst_str, Mi.kit_dic_int, Mi.kit_dic_bool, Mi.kit_dic_list, Mi.kit_dic_tuple, Mi.kit_dic_str, gmSub, putL, oDiv, oInt, oMul, oPow, oAbs, hn, hn2, L2.ixN, c1, c2, c3, c4, c5, c6, p1, p2, l64, isDv, isDvs, dpv, dpvs, isDvs_ints, dpvs_ints, beqD, e1, pdv, pdvs, e2, e3, hc, m1, b1, b2, b3, lg18, q]
        · simp [Mi.fnM, Mi.outF, Mi.mSeq, Mi.thn, Mi.mNext, Mi.mRet, Mi.mRetN, Mi.mDrop, Mi.mIfS, Mi.mTst, Mi.tru, Mi.mAndT, Mi.mOrT, Mi.mNotT, Mi.mAnd, Mi.mOr, Mi.mNot, Mi.mIf, Mi.mBin, Mi.mUn, Mi.mCb, Mi.mVar, Mi.mC, Mi.mCons, Mi.mNil, Mi.bnd_at, Mi.ret_at, Mi.ofO_at, Mi.fail_at, Mi.ite_at, Mi.mAsg, Mi.gmName, Mi.mTup, Mi.mLst, Mi.mLstM, Mi.mCallL, Mi.calm_at, Mi.mCallNL, Mi.oCmp, Mi.oIsN, Mi.oNotN, Mi.isNon, Mi.oAdd, Mi.oSub, Mi.oNeg, Mi.oMod, Mi.mYes, Mi.mPar, Mi.mPar3, Mi.raise, Mi.big, Mi.kdv, Mi.asQ, Mi.asL, Mi.asS, Mi.asI, Mi.trus, Mi.oIx, Mi.at_0, Mi.at3_1, Mi.at3_2, Mi.at2_1, Mi.now, Mi.sameD, Mi.mLc, Mi.mLcs, Mi.mWalk, Mi.loopC, Mi.wipD, Mi.oLen, Mi.oEq, Mi.oNe, Mi.oAll, Mi.oAny, Mi.kit_non_int, Mi.kit_non_bool, Mi.kit_non_list, Mi.kit_non_tuple, Mi.kit_non_str, Mi.kit_bl_int, Mi.kit_bl_bool, Mi.kit_bl_list, Mi.kit_bl_tuple, Mi.kit_bl_str, Mi.kit_int_int, Mi.kit_int_bool, Mi.kit_int_list, Mi.kit_int_tuple, Mi.kit_int_str, Mi.kit_str_int, Mi.kit_str_bool, Mi.kit_str_list, Mi.kit_str_tuple, Mi.kit_str_str, Mi.kit_tup_int, Mi.kit_tup_bool, Mi.kit_tup_list, Mi.kit_tup_tuple, Mi.kit_tup_str, Mi.kit_lst_int, Mi.kit_lst_bool, Mi.kit_lst_list, Mi.kit_lst_tuple, Mi.kit_lst_str, Mi.kit_dic_int, Mi.kit_dic_bool, Mi.kit_dic_list, Mi.kit_dic_tuple, Mi.kit_dic_str, gmSub, putL, oDiv, oInt, oMul, oPow, oAbs, hn, hn2, L2.ixN, c1, c2, c3, c4, c5, c6, p1, p2, l64, isDv, isDvs, dpv, dpvs, isDvs_ints, dpvs_ints, beqD, e1, pdv, pdvs, e2, e3, hc, m1, b1, b2, b3, lg18]
      · by_cases b3 : (1000000000000000000 : Int) ≤ c
        · have q := left (2 * (c - 1000000000000000000)) (by omega)
          simp [Mi.fnM, Mi.outF, Mi.mSeq, Mi.thn, Mi.mNext, Mi.mRet, Mi.mRetN, Mi.mDrop, Mi.mIfS, Mi.mTst, Mi.tru, Mi.mAndT, Mi.mOrT, Mi.mNotT, Mi.mAnd, Mi.mOr, Mi.mNot, Mi.mIf, Mi.mBin, Mi.mUn, Mi.mCb, Mi.mVar, Mi.mC, Mi.mCons, Mi.mNil, Mi.bnd_at, Mi.ret_at, Mi.ofO_at, Mi.fail_at, Mi.ite_at, Mi.mAsg, Mi.gmName, Mi.mTup, Mi.mLst, Mi.mLstM, Mi.mCallL, Mi.calm_at, Mi.mCallNL, Mi.oCmp, Mi.oIsN, Mi.oNotN, Mi.isNon, Mi.oAdd, Mi.oSub, Mi.oNeg, Mi.oMod, Mi.mYes, Mi.mPar, Mi.mPar3, Mi.raise, Mi.big, Mi.kdv, Mi.asQ, Mi.asL, Mi.asS, Mi.asI, Mi.trus, Mi.oIx, Mi.at_0, Mi.at3_1, Mi.at3_2, Mi.at2_1, Mi.now, Mi.sameD, Mi.mLc, Mi.mLcs, Mi.mWalk, Mi.loopC, Mi.wipD, Mi.oLen, Mi.oEq, Mi.oNe, Mi.oAll, Mi.oAny, Mi.kit_non_int, Mi.kit_non_bool, Mi.kit_non_list, Mi.kit_non_tuple, Mi.kit_non_str, Mi.kit_bl_int, Mi.kit_bl_bool, Mi.kit_bl_list, Mi.kit_bl_tuple, Mi.kit_bl_str, Mi.kit_int_int, Mi.kit_int_bool, Mi.kit_int_list, Mi.kit_int_tuple, Mi.kit_int_str, Mi.kit_str_int, Mi.kit_str_bool, Mi.kit_str_list, Mi.kit_str_tuple, Mi.kit_str_str, Mi.kit_tup_int, Mi.kit_tup_bool, Mi.kit_tup_list, Mi.kit_tup_tuple, Mi.kit_tup_str, Mi.kit_lst_int, Mi.kit_lst_bool, Mi.kit_lst_list, Mi.kit_lst_tuple, Mi.kit_lst_str, Mi.kit_dic_int, Mi.kit_dic_bool, Mi.kit_dic_list, Mi.kit_dic_tuple, Mi.kit_dic_str, gmSub, putL, oDiv, oInt, oMul, oPow, oAbs, hn, hn2, L2.ixN, c1, c2, c3, c4, c5, c6, p1, p2, l64, isDv, isDvs, dpv, dpvs, isDvs_ints, dpvs_ints, beqD, e1, pdv, pdvs, e2, e3, hc, m1, b1, b2, b3, lg18, q]
        · simp [Mi.fnM, Mi.outF, Mi.mSeq, Mi.thn, Mi.mNext, Mi.mRet, Mi.mRetN, Mi.mDrop, Mi.mIfS, Mi.mTst, Mi.tru, Mi.mAndT, Mi.mOrT, Mi.mNotT, Mi.mAnd, Mi.mOr, Mi.mNot, Mi.mIf, Mi.mBin, Mi.mUn, Mi.mCb, Mi.mVar, Mi.mC, Mi.mCons, Mi.mNil, Mi.bnd_at, Mi.ret_at, Mi.ofO_at, Mi.fail_at, Mi.ite_at, Mi.mAsg, Mi.gmName, Mi.mTup, Mi.mLst, Mi.mLstM, Mi.mCallL, Mi.calm_at, Mi.mCallNL, Mi.oCmp, Mi.oIsN, Mi.oNotN, Mi.isNon, Mi.oAdd, Mi.oSub, Mi.oNeg, Mi.oMod, Mi.mYes, Mi.mPar, Mi.mPar3, Mi.raise, Mi.big, Mi.kdv, Mi.asQ, Mi.asL, Mi.asS, Mi.asI, Mi.trus, Mi.oIx, Mi.at_0, Mi.at3_1, Mi.at3_2, Mi.at2_1, Mi.now, Mi.sameD, Mi.mLc, Mi.mLcs, Mi.mWalk, Mi.loopC, Mi.wipD, Mi.oLen, Mi.oEq, Mi.oNe, Mi.oAll, Mi.oAny, Mi.kit_non_int, Mi.kit_non_bool, Mi.kit_non_list, Mi.kit_non_tuple, Mi.kit_non_str, Mi.kit_bl_int, Mi.kit_bl_bool, Mi.kit_bl_list, Mi.kit_bl_tuple, Mi.kit_bl_str, Mi.kit_int_int, Mi.kit_int_bool, Mi.kit_int_list, Mi.kit_int_tuple, Mi.kit_int_str, Mi.kit_str_int, Mi.kit_str_bool, Mi.kit_str_list, Mi.kit_str_tuple, Mi.kit_str_str, Mi.kit_tup_int, Mi.kit_tup_bool, Mi.kit_tup_list, Mi.kit_tup_tuple, Mi.kit_tup_str, Mi.kit_lst_int, Mi.kit_lst_bool, Mi.kit_lst_list, Mi.kit_lst_tuple, Mi.kit_lst_str, Mi.kit_dic_int, Mi.kit_dic_bool, Mi.kit_dic_list, Mi.kit_dic_tuple, Mi.kit_dic_str, gmSub, putL, oDiv, oInt, oMul, oPow, oAbs, hn, hn2, L2.ixN, c1, c2, c3, c4, c5, c6, p1, p2, l64, isDv, isDvs, dpv, dpvs, isDvs_ints, dpvs_ints, beqD, e1, pdv, pdvs, e2, e3, hc, m1, b1, b2, b3, lg18]
    · simp [Mi.fnM, Mi.outF, Mi.mSeq, Mi.thn, Mi.mNext, Mi.mRet, Mi.mRetN, Mi.mDrop, Mi.mIfS, Mi.mTst, Mi.tru, Mi.mAndT, Mi.mOrT, Mi.mNotT, Mi.mAnd, Mi.mOr, Mi.mNot, Mi.mIf, Mi.mBin, Mi.mUn, Mi.mCb, Mi.mVar, Mi.mC, Mi.mCons, Mi.mNil, Mi.bnd_at, Mi.ret_at, Mi.ofO_at, Mi.fail_at, Mi.ite_at, Mi.mAsg, Mi.gmName, Mi.mTup, Mi.mLst, Mi.mLstM, Mi.mCallL, Mi.calm_at, Mi.mCallNL, Mi.oCmp, Mi.oIsN, Mi.oNotN, Mi.isNon, Mi.oAdd, Mi.oSub, Mi.oNeg, Mi.oMod, Mi.mYes, Mi.mPar, Mi.mPar3, Mi.raise, Mi.big, Mi.kdv, Mi.asQ, Mi.asL, Mi.asS, Mi.asI, Mi.trus, Mi.oIx, Mi.at_0, Mi.at3_1, Mi.at3_2, Mi.at2_1, Mi.now, Mi.sameD, Mi.mLc, Mi.mLcs, Mi.mWalk, Mi.loopC, Mi.wipD, Mi.oLen, Mi.oEq, Mi.oNe, Mi.oAll, Mi.oAny, Mi.kit_non_int, Mi.kit_non_bool, Mi.kit_non_list, Mi.kit_non_tuple, Mi.kit_non_str, Mi.kit_bl_int, Mi.kit_bl_bool, Mi.kit_bl_list, Mi.kit_bl_tuple, Mi.kit_bl_str, Mi.kit_int_int, Mi.kit_int_bool, Mi.kit_int_list, Mi.kit_int_tuple, Mi.kit_int_str, Mi.kit_str_int, Mi.kit_str_bool, Mi.kit_str_list, Mi.kit_str_tuple, Mi.kit_str_str, Mi.kit_tup_int, Mi.kit_tup_bool, Mi.kit_tup_list, Mi.kit_tup_tuple, Mi.kit_tup_str, Mi.kit_lst_int, Mi.kit_lst_bool, Mi.kit_lst_list, Mi.kit_lst_tuple, Mi.kit_lst_str, Mi.kit_dic_int, Mi.kit_dic_bool, Mi.kit_dic_list, Mi.kit_dic_tuple, Mi.kit_dic_str, gmSub, putL, oDiv, oInt, oMul, oPow, oAbs, hn, hn2, L2.ixN, c1, c2, c3, c4, c5, c6, p1, p2, l64, isDv, isDvs, dpv, dpvs, isDvs_ints, dpvs_ints, beqD, e1, pdv, pdvs, e2, e3, hc, m1, b1, lg18]
end Ty

namespace Ty
open PySem PySem.Spec PyProof.Rows L2 Mi
variable {R : Pr}
theorem scratch (cs : List Int) (t l n : Int) (B : Mem) (hn : 0 < n) (hn2 : n.natAbs.log2 < 9000) (ht : 0 ≤ t) (ht2 : t ≤ 100000) (hl : 0 ≤ l) :
    ∃ k t' l', 0 ≤ k ∧ k < n ∧ t ≤ t' ∧ t' ≤ t + 1 ∧ 0 ≤ l' ∧ f_law_scratch R [.loc 0, .int n] (jr cs t l :: B) = some (.ok (.int k), jr cs t' l' :: B) := by
  by_cases h : 0 < l
  · exact ⟨l % n, t, l / n, Int.emod_nonneg _ (by omega), Int.emod_lt_of_pos _ hn, by omega, by omega, Int.ediv_nonneg hl (by omega), scratch_left cs t l n B hn hn2 h⟩
  · have e : l = 0 := by omega
    subst e
    obtain ⟨k, l', h1, h2, h3, h4⟩ := scratch_new (R := R) cs t n B hn hn2 ht ht2
    exact ⟨k, t + 1, l', h1, h2, by omega, by omega, h3, h4⟩
theorem pick (cs : List Int) (t l : Int) (B : Mem) (ds : List Dv) (hn : ds ≠ []) (hn2 : ds.length < 1000) (ht : 0 ≤ t) (ht2 : t ≤ 100000) (hl : 0 ≤ l) :
    ∃ x t' l', x ∈ ds ∧ t ≤ t' ∧ t' ≤ t + 1 ∧ 0 ≤ l' ∧ f_law_pick R [.loc 0, .lst ds] (jr cs t l :: B) = some (.ok x, jr cs t' l' :: B) := by
  have h0 : 0 < ds.length := List.length_pos_iff.mpr hn
  have h1 : ((ds.length : Int).natAbs).log2 < 9000 := by
    rw [Int.natAbs_natCast, Nat.log2_lt (by omega)]
    exact Nat.lt_of_lt_of_le (show ds.length < 2 ^ 10 by omega) (Nat.pow_le_pow_right (by decide) (by decide))
  obtain ⟨k, t', l', a1, a2, a3, a4, a5, e⟩ := scratch (R := R) cs t l ds.length B (by omega) h1 ht ht2 hl
  obtain ⟨x, b1, b2⟩ := at_in a1 a2
  refine ⟨x, t', l', b2, a3, a4, a5, ?_⟩
  unfold f_law_pick m_law_pick
  simp [Mi.fnM, Mi.outF, Mi.mSeq, Mi.thn, Mi.mNext, Mi.mRet, Mi.mRetN, Mi.mDrop, Mi.mIfS, Mi.mTst, Mi.tru, Mi.mAndT, Mi.mOrT, Mi.mNotT, Mi.mAnd, Mi.mOr, Mi.mNot, Mi.mIf, Mi.mBin, Mi.mUn, Mi.mCb, Mi.mVar, Mi.mC, Mi.mCons, Mi.mNil, Mi.bnd_at, Mi.ret_at, Mi.ofO_at, Mi.fail_at, Mi.ite_at, Mi.mAsg, Mi.gmName, Mi.mTup, Mi.mLst, Mi.mLstM, Mi.mCallL, Mi.calm_at, Mi.mCallNL, Mi.oCmp, Mi.oIsN, Mi.oNotN, Mi.isNon, Mi.oAdd, Mi.oSub, Mi.oNeg, Mi.oMod, Mi.mYes, Mi.mPar, Mi.mPar3, Mi.raise, Mi.big, Mi.kdv, Mi.asQ, Mi.asL, Mi.asS, Mi.asI, Mi.trus, Mi.oIx, Mi.at_0, Mi.at3_1, Mi.at3_2, Mi.at2_1, Mi.now, Mi.sameD, Mi.mLc, Mi.mLcs, Mi.mWalk, Mi.loopC, Mi.wipD, Mi.oLen, Mi.oEq, Mi.oNe, Mi.oAll, Mi.oAny, Mi.kit_non_int, Mi.kit_non_bool, Mi.kit_non_list, Mi.kit_non_tuple, Mi.kit_non_str, Mi.kit_bl_int, Mi.kit_bl_bool, Mi.kit_bl_list, Mi.kit_bl_tuple, Mi.kit_bl_str, Mi.kit_int_int, Mi.kit_int_bool, Mi.kit_int_list, Mi.kit_int_tuple, Mi.kit_int_str, Mi.kit_str_int, Mi.kit_str_bool, Mi.kit_str_list, Mi.kit_str_tuple, Mi.kit_str_str, Mi.kit_tup_int, Mi.kit_tup_bool, Mi.kit_tup_list, Mi.kit_tup_tuple, Mi.kit_tup_str, Mi.kit_lst_int, Mi.kit_lst_bool, Mi.kit_lst_list, Mi.kit_lst_tuple, Mi.kit_lst_str, Mi.kit_dic_int, Mi.kit_dic_bool, Mi.kit_dic_list, Mi.kit_dic_tuple, Mi.kit_dic_str, e, b1]
theorem od_even (x : Int) : od (2 * x) = false := by unfold od; simp
theorem word (cs : List Int) (t l : Int) (B : Mem) (most : Int) (hm : most = 2 ∨ most = 4 ∨ most = 24 ∨ most = 12) (ht : 0 ≤ t) (ht2 : t ≤ 90000) (hl : 0 ≤ l) :
    ∃ x y z t' l' J, isw x y z = true ∧ t ≤ t' ∧ t' ≤ t + 8 ∧ 0 ≤ l' ∧ f_law_word R [.loc 0, .int most] (jr cs t l :: B) = some (.ok (wz x y z), jr cs t' l' :: (B ++ J)) := by
  have n1 : ((most + 1).natAbs).log2 < 9000 := by rcases hm with rfl | rfl | rfl | rfl <;> decide +kernel
  have n3 : ((3 : Int).natAbs).log2 < 9000 := by decide +kernel
  have n2 : ((2 : Int).natAbs).log2 < 9000 := by decide +kernel
  obtain ⟨k1, t1, l1, a1, b1, c1, d1, e1, f1⟩ := scratch (R := R) cs t l (most + 1) B (by omega) n1 ht (by omega) hl
  obtain ⟨k2, t2, l2, a2, b2, c2, d2, e2, f2⟩ := scratch (R := R) cs t1 l1 (most + 1) B (by omega) n1 (by omega) (by omega) e1
  obtain ⟨k3, t3, l3, a3, b3, c3, d3, e3, f3⟩ := scratch (R := R) cs t2 l2 (most + 1) B (by omega) n1 (by omega) (by omega) e2
  obtain ⟨k4, t4, l4, a4, b4, c4, d4, e4, f4⟩ := scratch (R := R) cs t3 l3 3 B (by omega) n3 (by omega) (by omega) e3
  obtain ⟨k5, t5, l5, a5, b5, c5, d5, e5, f5⟩ := scratch (R := R) cs t4 l4 3 B (by omega) n3 (by omega) (by omega) e4
  obtain ⟨k6, t6, l6, a6, b6, c6, d6, e6, f6⟩ := scratch (R := R) cs t5 l5 3 B (by omega) n3 (by omega) (by omega) e5
  have cm : ∀ m, CMulU 2 m := fun m => cm_l (by decide) (by decide)
  have ev : ∀ k j : Int, 0 ≤ j → j < most + 1 → ∃ a, (if 0 < k then 2 * (j - most / 2) else 0) = 2 * a ∧ -most ≤ 2 * a ∧ 2 * a ≤ most := fun k j h1 h2 => by
    by_cases h : 0 < k
    · exact ⟨j - most / 2, if_pos h, by omega, by omega⟩
    · exact ⟨0, by simp [h], by omega, by omega⟩
  obtain ⟨x, hx, x1, x2⟩ := ev k4 k1 a1 b1
  obtain ⟨y, hy, y1, y2⟩ := ev k5 k2 a2 b2
  obtain ⟨z, hz, z1, z2⟩ := ev k6 k3 a3 b3
  obtain ⟨k7, t7, l7, a7, b7, c7, d7, e7, f7⟩ := scratch (R := R) cs t6 l6 2 (B ++ [.lst [.int (2 * x), .int (2 * y), .int (2 * z)]]) (by omega) n2 (by omega) (by omega) e6
  obtain ⟨k8, t8, l8, a8, b8, c8, d8, e8, f8⟩ := scratch (R := R) cs t7 l7 3 (B ++ [.lst [.int (2 * x), .int (2 * y), .int (2 * z)]]) (by omega) n3 (by omega) (by omega) e7
  have li : ∀ v : Int, -24 ≤ v → v ≤ 24 → lim v = true := fun v h1 h2 => by unfold lim; simp [h1, h2]
  unfold f_law_word m_law_word
  by_cases h7 : k7 = 0
  · have h8 : k8 = 0 ∨ k8 = 1 ∨ k8 = 2 := by omega
    have one : ∀ v : Int, -most ≤ 2 * v → 2 * v ≤ most → lim (2 * v + if 2 * v < most then 1 else -1) = true := fun v h1 h2 => by
      split <;> exact li _ (by omega) (by omega)
    have bit : ∀ b : Bool, (if b = true then 1 else 0) < 2 := fun b => by cases b <;> decide
    rcases h8 with rfl | rfl | rfl
    · refine ⟨(2 * x + if 2 * x < most then 1 else -1), 2 * y, 2 * z, t8, l8, [.lst [.int ((2 * x + if 2 * x < most then 1 else -1)), .int (2 * y), .int (2 * z)]], ?_, by omega, by omega, e8, ?_⟩
      · unfold isw nod
        rw [one x x1 x2, li (2 * y) (by omega) (by omega), li (2 * z) (by omega) (by omega), od_even, od_even]
        simp
        exact bit _
      · simp [Mi.fnM, Mi.outF, Mi.mSeq, Mi.thn, Mi.mNext, Mi.mRet, Mi.mRetN, Mi.mDrop, Mi.mIfS, Mi.mTst, Mi.tru, Mi.mAndT, Mi.mOrT, Mi.mNotT, Mi.mAnd, Mi.mOr, Mi.mNot, Mi.mIf, Mi.mBin, Mi.mUn, Mi.mCb, Mi.mVar, Mi.mC, Mi.mCons, Mi.mNil, Mi.bnd_at, Mi.ret_at, Mi.ofO_at, Mi.fail_at, Mi.ite_at, Mi.mAsg, Mi.gmName, Mi.mTup, Mi.mLst, Mi.mLstM, Mi.mCallL, Mi.calm_at, Mi.mCallNL, Mi.oCmp, Mi.oIsN, Mi.oNotN, Mi.isNon, Mi.oAdd, Mi.oSub, Mi.oNeg, Mi.oMod, Mi.mYes, Mi.mPar, Mi.mPar3, Mi.raise, Mi.big, Mi.kdv, Mi.asQ, Mi.asL, Mi.asS, Mi.asI, Mi.trus, Mi.oIx, Mi.at_0, Mi.at3_1, Mi.at3_2, Mi.at2_1, Mi.now, Mi.sameD, Mi.mLc, Mi.mLcs, Mi.mWalk, Mi.loopC, Mi.wipD, Mi.oLen, Mi.oEq, Mi.oNe, Mi.oAll, Mi.oAny, Mi.kit_non_int, Mi.kit_non_bool, Mi.kit_non_list, Mi.kit_non_tuple, Mi.kit_non_str, Mi.kit_bl_int, Mi.kit_bl_bool, Mi.kit_bl_list, Mi.kit_bl_tuple, Mi.kit_bl_str, Mi.kit_int_int, Mi.kit_int_bool, Mi.kit_int_list, Mi.kit_int_tuple, Mi.kit_int_str, Mi.kit_str_int, Mi.kit_str_bool, Mi.kit_str_list, Mi.kit_str_tuple, Mi.kit_str_str, Mi.kit_tup_int, Mi.kit_tup_bool, Mi.kit_tup_list, Mi.kit_tup_tuple, Mi.kit_tup_str, Mi.kit_lst_int, Mi.kit_lst_bool, Mi.kit_lst_list, Mi.kit_lst_tuple, Mi.kit_lst_str, Mi.kit_dic_int, Mi.kit_dic_bool, Mi.kit_dic_list, Mi.kit_dic_tuple, Mi.kit_dic_str, mRange1, rangeD, List.range, List.range.loop, f1, f2, f3, oMul, cm, oDiv, lg2, mLcM, f4, f5, f6, ite_ok, Mi.ite_int, oTuple, get_last, set_last, hx, hy, hz, f7, f8, h7, gmSub, putL, L2.ixN]
    · refine ⟨2 * x, (2 * y + if 2 * y < most then 1 else -1), 2 * z, t8, l8, [.lst [.int (2 * x), .int ((2 * y + if 2 * y < most then 1 else -1)), .int (2 * z)]], ?_, by omega, by omega, e8, ?_⟩
      · unfold isw nod
        rw [li (2 * x) (by omega) (by omega), one y y1 y2, li (2 * z) (by omega) (by omega), od_even, od_even]
        simp
        exact bit _
      · simp [Mi.fnM, Mi.outF, Mi.mSeq, Mi.thn, Mi.mNext, Mi.mRet, Mi.mRetN, Mi.mDrop, Mi.mIfS, Mi.mTst, Mi.tru, Mi.mAndT, Mi.mOrT, Mi.mNotT, Mi.mAnd, Mi.mOr, Mi.mNot, Mi.mIf, Mi.mBin, Mi.mUn, Mi.mCb, Mi.mVar, Mi.mC, Mi.mCons, Mi.mNil, Mi.bnd_at, Mi.ret_at, Mi.ofO_at, Mi.fail_at, Mi.ite_at, Mi.mAsg, Mi.gmName, Mi.mTup, Mi.mLst, Mi.mLstM, Mi.mCallL, Mi.calm_at, Mi.mCallNL, Mi.oCmp, Mi.oIsN, Mi.oNotN, Mi.isNon, Mi.oAdd, Mi.oSub, Mi.oNeg, Mi.oMod, Mi.mYes, Mi.mPar, Mi.mPar3, Mi.raise, Mi.big, Mi.kdv, Mi.asQ, Mi.asL, Mi.asS, Mi.asI, Mi.trus, Mi.oIx, Mi.at_0, Mi.at3_1, Mi.at3_2, Mi.at2_1, Mi.now, Mi.sameD, Mi.mLc, Mi.mLcs, Mi.mWalk, Mi.loopC, Mi.wipD, Mi.oLen, Mi.oEq, Mi.oNe, Mi.oAll, Mi.oAny, Mi.kit_non_int, Mi.kit_non_bool, Mi.kit_non_list, Mi.kit_non_tuple, Mi.kit_non_str, Mi.kit_bl_int, Mi.kit_bl_bool, Mi.kit_bl_list, Mi.kit_bl_tuple, Mi.kit_bl_str, Mi.kit_int_int, Mi.kit_int_bool, Mi.kit_int_list, Mi.kit_int_tuple, Mi.kit_int_str, Mi.kit_str_int, Mi.kit_str_bool, Mi.kit_str_list, Mi.kit_str_tuple, Mi.kit_str_str, Mi.kit_tup_int, Mi.kit_tup_bool, Mi.kit_tup_list, Mi.kit_tup_tuple, Mi.kit_tup_str, Mi.kit_lst_int, Mi.kit_lst_bool, Mi.kit_lst_list, Mi.kit_lst_tuple, Mi.kit_lst_str, Mi.kit_dic_int, Mi.kit_dic_bool, Mi.kit_dic_list, Mi.kit_dic_tuple, Mi.kit_dic_str, mRange1, rangeD, List.range, List.range.loop, f1, f2, f3, oMul, cm, oDiv, lg2, mLcM, f4, f5, f6, ite_ok, Mi.ite_int, oTuple, get_last, set_last, hx, hy, hz, f7, f8, h7, gmSub, putL, L2.ixN]
    · refine ⟨2 * x, 2 * y, (2 * z + if 2 * z < most then 1 else -1), t8, l8, [.lst [.int (2 * x), .int (2 * y), .int ((2 * z + if 2 * z < most then 1 else -1))]], ?_, by omega, by omega, e8, ?_⟩
      · unfold isw nod
        rw [li (2 * x) (by omega) (by omega), li (2 * y) (by omega) (by omega), one z z1 z2, od_even, od_even]
        simp
        exact bit _
      · simp [Mi.fnM, Mi.outF, Mi.mSeq, Mi.thn, Mi.mNext, Mi.mRet, Mi.mRetN, Mi.mDrop, Mi.mIfS, Mi.mTst, Mi.tru, Mi.mAndT, Mi.mOrT, Mi.mNotT, Mi.mAnd, Mi.mOr, Mi.mNot, Mi.mIf, Mi.mBin, Mi.mUn, Mi.mCb, Mi.mVar, Mi.mC, Mi.mCons, Mi.mNil, Mi.bnd_at, Mi.ret_at, Mi.ofO_at, Mi.fail_at, Mi.ite_at, Mi.mAsg, Mi.gmName, Mi.mTup, Mi.mLst, Mi.mLstM, Mi.mCallL, Mi.calm_at, Mi.mCallNL, Mi.oCmp, Mi.oIsN, Mi.oNotN, Mi.isNon, Mi.oAdd, Mi.oSub, Mi.oNeg, Mi.oMod, Mi.mYes, Mi.mPar, Mi.mPar3, Mi.raise, Mi.big, Mi.kdv, Mi.asQ, Mi.asL, Mi.asS, Mi.asI, Mi.trus, Mi.oIx, Mi.at_0, Mi.at3_1, Mi.at3_2, Mi.at2_1, Mi.now, Mi.sameD, Mi.mLc, Mi.mLcs, Mi.mWalk, Mi.loopC, Mi.wipD, Mi.oLen, Mi.oEq, Mi.oNe, Mi.oAll, Mi.oAny, Mi.kit_non_int, Mi.kit_non_bool, Mi.kit_non_list, Mi.kit_non_tuple, Mi.kit_non_str, Mi.kit_bl_int, Mi.kit_bl_bool, Mi.kit_bl_list, Mi.kit_bl_tuple, Mi.kit_bl_str, Mi.kit_int_int, Mi.kit_int_bool, Mi.kit_int_list, Mi.kit_int_tuple, Mi.kit_int_str, Mi.kit_str_int, Mi.kit_str_bool, Mi.kit_str_list, Mi.kit_str_tuple, Mi.kit_str_str, Mi.kit_tup_int, Mi.kit_tup_bool, Mi.kit_tup_list, Mi.kit_tup_tuple, Mi.kit_tup_str, Mi.kit_lst_int, Mi.kit_lst_bool, Mi.kit_lst_list, Mi.kit_lst_tuple, Mi.kit_lst_str, Mi.kit_dic_int, Mi.kit_dic_bool, Mi.kit_dic_list, Mi.kit_dic_tuple, Mi.kit_dic_str, mRange1, rangeD, List.range, List.range.loop, f1, f2, f3, oMul, cm, oDiv, lg2, mLcM, f4, f5, f6, ite_ok, Mi.ite_int, oTuple, get_last, set_last, hx, hy, hz, f7, f8, h7, gmSub, putL, L2.ixN]
  · refine ⟨2 * x, 2 * y, 2 * z, t7, l7, [.lst [.int (2 * x), .int (2 * y), .int (2 * z)]], ?_, by omega, by omega, e7, ?_⟩
    · unfold isw nod
      rw [li (2 * x) (by omega) (by omega), li (2 * y) (by omega) (by omega), li (2 * z) (by omega) (by omega), od_even, od_even, od_even]
      rfl
    · simp [Mi.fnM, Mi.outF, Mi.mSeq, Mi.thn, Mi.mNext, Mi.mRet, Mi.mRetN, Mi.mDrop, Mi.mIfS, Mi.mTst, Mi.tru, Mi.mAndT, Mi.mOrT, Mi.mNotT, Mi.mAnd, Mi.mOr, Mi.mNot, Mi.mIf, Mi.mBin, Mi.mUn, Mi.mCb, Mi.mVar, Mi.mC, Mi.mCons, Mi.mNil, Mi.bnd_at, Mi.ret_at, Mi.ofO_at, Mi.fail_at, Mi.ite_at, Mi.mAsg, Mi.gmName, Mi.mTup, Mi.mLst, Mi.mLstM, Mi.mCallL, Mi.calm_at, Mi.mCallNL, Mi.oCmp, Mi.oIsN, Mi.oNotN, Mi.isNon, Mi.oAdd, Mi.oSub, Mi.oNeg, Mi.oMod, Mi.mYes, Mi.mPar, Mi.mPar3, Mi.raise, Mi.big, Mi.kdv, Mi.asQ, Mi.asL, Mi.asS, Mi.asI, Mi.trus, Mi.oIx, Mi.at_0, Mi.at3_1, Mi.at3_2, Mi.at2_1, Mi.now, Mi.sameD, Mi.mLc, Mi.mLcs, Mi.mWalk, Mi.loopC, Mi.wipD, Mi.oLen, Mi.oEq, Mi.oNe, Mi.oAll, Mi.oAny, Mi.kit_non_int, Mi.kit_non_bool, Mi.kit_non_list, Mi.kit_non_tuple, Mi.kit_non_str, Mi.kit_bl_int, Mi.kit_bl_bool, Mi.kit_bl_list, Mi.kit_bl_tuple, Mi.kit_bl_str, Mi.kit_int_int, Mi.kit_int_bool, Mi.kit_int_list, Mi.kit_int_tuple, Mi.kit_int_str, Mi.kit_str_int, Mi.kit_str_bool, Mi.kit_str_list, Mi.kit_str_tuple, Mi.kit_str_str, Mi.kit_tup_int, Mi.kit_tup_bool, Mi.kit_tup_list, Mi.kit_tup_tuple, Mi.kit_tup_str, Mi.kit_lst_int, Mi.kit_lst_bool, Mi.kit_lst_list, Mi.kit_lst_tuple, Mi.kit_lst_str, Mi.kit_dic_int, Mi.kit_dic_bool, Mi.kit_dic_list, Mi.kit_dic_tuple, Mi.kit_dic_str, mRange1, rangeD, List.range, List.range.loop, f1, f2, f3, oMul, cm, oDiv, lg2, mLcM, f4, f5, f6, ite_ok, Mi.ite_int, oTuple, get_last, set_last, hx, hy, hz, f7, h7, gmSub, putL, L2.ixN]
end Ty

namespace Ty
open PySem PySem.Spec PyProof.Rows L2 Mi
variable {R : Pr}
theorem bit1 (x : Int) : Builtin.bitAnd x 1 = x % 2 := by
  have h := Bits.bit_at (x := x) 0
  simpa using h
def pa (x : Int) : Int := if x < 0 then 0 else if x % 2 = 0 then x / 2 else (x + 1) / 2
def pb (x : Int) : Int := if x < 0 then -x else if x % 2 = 0 then 0 else 1
/-- what a word is made of -/
def mo (x y z : Int) : Dv :=
  if x = 0 ∧ y = 0 ∧ z = 0 then .non
  else if y = 0 ∧ z = 0 then (if x = 1 then .non else .tup [wz (pa x) 0 0, wz (pb x) 0 0])
  else if x = 0 ∧ z = 0 then (if y = 1 then .non else .tup [wz 0 (pa y) 0, wz 0 (pb y) 0])
  else if x = 0 ∧ y = 0 then (if z = 1 then .non else .tup [wz 0 0 (pa z), wz 0 0 (pb z)])
  else if x ≠ 0 ∧ x % 2 = 0 then .tup [wz (x / 2) 0 0, wz 0 (-y) (-z)]
  else if y ≠ 0 ∧ y % 2 = 0 then .tup [wz 0 (y / 2) 0, wz (-x) 0 (-z)]
  else .tup [wz 0 0 (z / 2), wz (-x) (-y) 0]
theorem p_parts' (x : Int) (A : Mem) : f_parts_of_one R [.int x] A = some (.ok (.tup [.int (pa x), .int (pb x)]), A) := by
  rw [p_parts]
  unfold pa pb
  by_cases h1 : x < 0
  · simp [h1]
  by_cases h2 : x % 2 = 0 <;> simp [h1, h2]
theorem p_word_at0 (v : Int) (A : Mem) : f_word_at R [.int 0, .int v] A = some (.ok (wz v 0 0), A ++ [.lst [.int v, .int 0, .int 0]]) := by
  unfold f_word_at m_word_at
  simp [Mi.fnM, Mi.outF, Mi.mSeq, Mi.thn, Mi.mNext, Mi.mRet, Mi.mRetN, Mi.mDrop, Mi.mIfS, Mi.mTst, Mi.tru, Mi.mAndT, Mi.mOrT, Mi.mNotT, Mi.mAnd, Mi.mOr, Mi.mNot, Mi.mIf, Mi.mBin, Mi.mUn, Mi.mCb, Mi.mVar, Mi.mC, Mi.mCons, Mi.mNil, Mi.bnd_at, Mi.ret_at, Mi.ofO_at, Mi.fail_at, Mi.ite_at, Mi.mAsg, Mi.gmName, Mi.mTup, Mi.mLst, Mi.mLstM, Mi.mCallL, Mi.calm_at, Mi.mCallNL, Mi.oCmp, Mi.oIsN, Mi.oNotN, Mi.isNon, Mi.oAdd, Mi.oSub, Mi.oNeg, Mi.oMod, Mi.mYes, Mi.mPar, Mi.mPar3, Mi.raise, Mi.big, Mi.kdv, Mi.asQ, Mi.asL, Mi.asS, Mi.asI, Mi.trus, Mi.oIx, Mi.at_0, Mi.at3_1, Mi.at3_2, Mi.at2_1, Mi.now, Mi.sameD, Mi.mLc, Mi.mLcs, Mi.mWalk, Mi.loopC, Mi.wipD, Mi.oLen, Mi.oEq, Mi.oNe, Mi.oAll, Mi.oAny, Mi.kit_non_int, Mi.kit_non_bool, Mi.kit_non_list, Mi.kit_non_tuple, Mi.kit_non_str, Mi.kit_bl_int, Mi.kit_bl_bool, Mi.kit_bl_list, Mi.kit_bl_tuple, Mi.kit_bl_str, Mi.kit_int_int, Mi.kit_int_bool, Mi.kit_int_list, Mi.kit_int_tuple, Mi.kit_int_str, Mi.kit_str_int, Mi.kit_str_bool, Mi.kit_str_list, Mi.kit_str_tuple, Mi.kit_str_str, Mi.kit_tup_int, Mi.kit_tup_bool, Mi.kit_tup_list, Mi.kit_tup_tuple, Mi.kit_tup_str, Mi.kit_lst_int, Mi.kit_lst_bool, Mi.kit_lst_list, Mi.kit_lst_tuple, Mi.kit_lst_str, Mi.kit_dic_int, Mi.kit_dic_bool, Mi.kit_dic_list, Mi.kit_dic_tuple, Mi.kit_dic_str, gmSub, putL, L2.ixN, oTuple, get_last, set_last]
theorem p_word_at1 (v : Int) (A : Mem) : f_word_at R [.int 1, .int v] A = some (.ok (wz 0 v 0), A ++ [.lst [.int 0, .int v, .int 0]]) := by
  unfold f_word_at m_word_at
  simp [Mi.fnM, Mi.outF, Mi.mSeq, Mi.thn, Mi.mNext, Mi.mRet, Mi.mRetN, Mi.mDrop, Mi.mIfS, Mi.mTst, Mi.tru, Mi.mAndT, Mi.mOrT, Mi.mNotT, Mi.mAnd, Mi.mOr, Mi.mNot, Mi.mIf, Mi.mBin, Mi.mUn, Mi.mCb, Mi.mVar, Mi.mC, Mi.mCons, Mi.mNil, Mi.bnd_at, Mi.ret_at, Mi.ofO_at, Mi.fail_at, Mi.ite_at, Mi.mAsg, Mi.gmName, Mi.mTup, Mi.mLst, Mi.mLstM, Mi.mCallL, Mi.calm_at, Mi.mCallNL, Mi.oCmp, Mi.oIsN, Mi.oNotN, Mi.isNon, Mi.oAdd, Mi.oSub, Mi.oNeg, Mi.oMod, Mi.mYes, Mi.mPar, Mi.mPar3, Mi.raise, Mi.big, Mi.kdv, Mi.asQ, Mi.asL, Mi.asS, Mi.asI, Mi.trus, Mi.oIx, Mi.at_0, Mi.at3_1, Mi.at3_2, Mi.at2_1, Mi.now, Mi.sameD, Mi.mLc, Mi.mLcs, Mi.mWalk, Mi.loopC, Mi.wipD, Mi.oLen, Mi.oEq, Mi.oNe, Mi.oAll, Mi.oAny, Mi.kit_non_int, Mi.kit_non_bool, Mi.kit_non_list, Mi.kit_non_tuple, Mi.kit_non_str, Mi.kit_bl_int, Mi.kit_bl_bool, Mi.kit_bl_list, Mi.kit_bl_tuple, Mi.kit_bl_str, Mi.kit_int_int, Mi.kit_int_bool, Mi.kit_int_list, Mi.kit_int_tuple, Mi.kit_int_str, Mi.kit_str_int, Mi.kit_str_bool, Mi.kit_str_list, Mi.kit_str_tuple, Mi.kit_str_str, Mi.kit_tup_int, Mi.kit_tup_bool, Mi.kit_tup_list, Mi.kit_tup_tuple, Mi.kit_tup_str, Mi.kit_lst_int, Mi.kit_lst_bool, Mi.kit_lst_list, Mi.kit_lst_tuple, Mi.kit_lst_str, Mi.kit_dic_int, Mi.kit_dic_bool, Mi.kit_dic_list, Mi.kit_dic_tuple, Mi.kit_dic_str, gmSub, putL, L2.ixN, oTuple, get_last, set_last]
theorem p_word_at2 (v : Int) (A : Mem) : f_word_at R [.int 2, .int v] A = some (.ok (wz 0 0 v), A ++ [.lst [.int 0, .int 0, .int v]]) := by
  unfold f_word_at m_word_at
  simp [Mi.fnM, Mi.outF, Mi.mSeq, Mi.thn, Mi.mNext, Mi.mRet, Mi.mRetN, Mi.mDrop, Mi.mIfS, Mi.mTst, Mi.tru, Mi.mAndT, Mi.mOrT, Mi.mNotT, Mi.mAnd, Mi.mOr, Mi.mNot, Mi.mIf, Mi.mBin, Mi.mUn, Mi.mCb, Mi.mVar, Mi.mC, Mi.mCons, Mi.mNil, Mi.bnd_at, Mi.ret_at, Mi.ofO_at, Mi.fail_at, Mi.ite_at, Mi.mAsg, Mi.gmName, Mi.mTup, Mi.mLst, Mi.mLstM, Mi.mCallL, Mi.calm_at, Mi.mCallNL, Mi.oCmp, Mi.oIsN, Mi.oNotN, Mi.isNon, Mi.oAdd, Mi.oSub, Mi.oNeg, Mi.oMod, Mi.mYes, Mi.mPar, Mi.mPar3, Mi.raise, Mi.big, Mi.kdv, Mi.asQ, Mi.asL, Mi.asS, Mi.asI, Mi.trus, Mi.oIx, Mi.at_0, Mi.at3_1, Mi.at3_2, Mi.at2_1, Mi.now, Mi.sameD, Mi.mLc, Mi.mLcs, Mi.mWalk, Mi.loopC, Mi.wipD, Mi.oLen, Mi.oEq, Mi.oNe, Mi.oAll, Mi.oAny, Mi.kit_non_int, Mi.kit_non_bool, Mi.kit_non_list, Mi.kit_non_tuple, Mi.kit_non_str, Mi.kit_bl_int, Mi.kit_bl_bool, Mi.kit_bl_list, Mi.kit_bl_tuple, Mi.kit_bl_str, Mi.kit_int_int, Mi.kit_int_bool, Mi.kit_int_list, Mi.kit_int_tuple, Mi.kit_int_str, Mi.kit_str_int, Mi.kit_str_bool, Mi.kit_str_list, Mi.kit_str_tuple, Mi.kit_str_str, Mi.kit_tup_int, Mi.kit_tup_bool, Mi.kit_tup_list, Mi.kit_tup_tuple, Mi.kit_tup_str, Mi.kit_lst_int, Mi.kit_lst_bool, Mi.kit_lst_list, Mi.kit_lst_tuple, Mi.kit_lst_str, Mi.kit_dic_int, Mi.kit_dic_bool, Mi.kit_dic_list, Mi.kit_dic_tuple, Mi.kit_dic_str, gmSub, putL, L2.ixN, oTuple, get_last, set_last]
theorem p_need (d : Dv) (b : Bool) (A : Mem) (h : f_is_word R [d] A = some (.ok (.bl b), A)) : f_need_word R [d] A = if b = true then some (.ok .non, A) else some (.err 0 ["part"] [.str "word"], A) := by
  unfold f_need_word m_need_word
  cases b <;> simp [Mi.fnM, Mi.outF, Mi.mSeq, Mi.thn, Mi.mNext, Mi.mRet, Mi.mRetN, Mi.mDrop, Mi.mIfS, Mi.mTst, Mi.tru, Mi.mAndT, Mi.mOrT, Mi.mNotT, Mi.mAnd, Mi.mOr, Mi.mNot, Mi.mIf, Mi.mBin, Mi.mUn, Mi.mCb, Mi.mVar, Mi.mC, Mi.mCons, Mi.mNil, Mi.bnd_at, Mi.ret_at, Mi.ofO_at, Mi.fail_at, Mi.ite_at, Mi.mAsg, Mi.gmName, Mi.mTup, Mi.mLst, Mi.mLstM, Mi.mCallL, Mi.calm_at, Mi.mCallNL, Mi.oCmp, Mi.oIsN, Mi.oNotN, Mi.isNon, Mi.oAdd, Mi.oSub, Mi.oNeg, Mi.oMod, Mi.mYes, Mi.mPar, Mi.mPar3, Mi.raise, Mi.big, Mi.kdv, Mi.asQ, Mi.asL, Mi.asS, Mi.asI, Mi.trus, Mi.oIx, Mi.at_0, Mi.at3_1, Mi.at3_2, Mi.at2_1, Mi.now, Mi.sameD, Mi.mLc, Mi.mLcs, Mi.mWalk, Mi.loopC, Mi.wipD, Mi.oLen, Mi.oEq, Mi.oNe, Mi.oAll, Mi.oAny, Mi.kit_non_int, Mi.kit_non_bool, Mi.kit_non_list, Mi.kit_non_tuple, Mi.kit_non_str, Mi.kit_bl_int, Mi.kit_bl_bool, Mi.kit_bl_list, Mi.kit_bl_tuple, Mi.kit_bl_str, Mi.kit_int_int, Mi.kit_int_bool, Mi.kit_int_list, Mi.kit_int_tuple, Mi.kit_int_str, Mi.kit_str_int, Mi.kit_str_bool, Mi.kit_str_list, Mi.kit_str_tuple, Mi.kit_str_str, Mi.kit_tup_int, Mi.kit_tup_bool, Mi.kit_tup_list, Mi.kit_tup_tuple, Mi.kit_tup_str, Mi.kit_lst_int, Mi.kit_lst_bool, Mi.kit_lst_list, Mi.kit_lst_tuple, Mi.kit_lst_str, Mi.kit_dic_int, Mi.kit_dic_bool, Mi.kit_dic_list, Mi.kit_dic_tuple, Mi.kit_dic_str, h, mRaise1]
theorem in_four (A : Mem) (x y z : Int) : oIn A (wz x y z) (.tup [wz 0 0 0, wz 1 0 0, wz 0 1 0, wz 0 0 1]) = some (.bl (decide ((x = 0 ∧ y = 0 ∧ z = 0) ∨ (x = 1 ∧ y = 0 ∧ z = 0) ∨ (x = 0 ∧ y = 1 ∧ z = 0) ∨ (x = 0 ∧ y = 0 ∧ z = 1)))) := by
  unfold oIn
  simp [asS, now, isDv, isDvs, dpv, dpvs, pdv, pdvs, beqD, beqDs, PyData.eqv, PyData.eqvAll]
  rw [Bool.eq_iff_iff]
  simp
  omega
theorem isw_odd {x y z : Int} (h : isw x y z = true) : ¬ (x % 2 = 1 ∧ y % 2 = 1) ∧ ¬ (x % 2 = 1 ∧ z % 2 = 1) ∧ ¬ (y % 2 = 1 ∧ z % 2 = 1) := by
  unfold isw nod od at h
  simp at h
  refine ⟨?_, ?_, ?_⟩ <;> rintro ⟨h1, h2⟩ <;> simp [h1, h2] at h <;> omega
theorem set_at {α : Type} (B C : List α) (x y : α) : (B ++ x :: C).set B.length y = B ++ y :: C := by simp
theorem get_at {α : Type} (B C : List α) (x : α) : (B ++ x :: C)[B.length]? = some x := by simp
theorem made (x y z : Int) (d : Dv) (hd : d = wz x y z ∨ d = .lst [.int x, .int y, .int z]) (h : isw x y z = true) (A : Mem) : ∃ J, f_made_of R [d] A = some (.ok (mo x y z), A ++ J) := by
  have hw : f_is_word R [d] A = some (.ok (.bl true), A) := by rw [p_is_word x y z d hd A, h]
  have hn := p_need d true A hw
  obtain ⟨o1, o2, o3⟩ := isw_odd h
  unfold f_made_of m_made_of mo
  rcases Decidable.em (x = 0) with rfl | h0 <;> rcases Decidable.em (y = 0) with rfl | h1 <;> rcases Decidable.em (z = 0) with rfl | h2
  · refine ⟨[], ?_⟩
    rcases hd with rfl | rfl <;> simp [Mi.fnM, Mi.outF, Mi.mSeq, Mi.thn, Mi.mNext, Mi.mRet, Mi.mRetN, Mi.mDrop, Mi.mIfS, Mi.mTst, Mi.tru, Mi.mAndT, Mi.mOrT, Mi.mNotT, Mi.mAnd, Mi.mOr, Mi.mNot, Mi.mIf, Mi.mBin, Mi.mUn, Mi.mCb, Mi.mVar, Mi.mC, Mi.mCons, Mi.mNil, Mi.bnd_at, Mi.ret_at, Mi.ofO_at, Mi.fail_at, Mi.ite_at, Mi.mAsg, Mi.gmName, Mi.mTup, Mi.mLst, Mi.mLstM, Mi.mCallL, Mi.calm_at, Mi.mCallNL, Mi.oCmp, Mi.oIsN, Mi.oNotN, Mi.isNon, Mi.oAdd, Mi.oSub, Mi.oNeg, Mi.oMod, Mi.mYes, Mi.mPar, Mi.mPar3, Mi.raise, Mi.big, Mi.kdv, Mi.asQ, Mi.asL, Mi.asS, Mi.asI, Mi.trus, Mi.oIx, Mi.at_0, Mi.at3_1, Mi.at3_2, Mi.at2_1, Mi.now, Mi.sameD, Mi.mLc, Mi.mLcs, Mi.mWalk, Mi.loopC, Mi.wipD, Mi.oLen, Mi.oEq, Mi.oNe, Mi.oAll, Mi.oAny, Mi.kit_non_int, Mi.kit_non_bool, Mi.kit_non_list, Mi.kit_non_tuple, Mi.kit_non_str, Mi.kit_bl_int, Mi.kit_bl_bool, Mi.kit_bl_list, Mi.kit_bl_tuple, Mi.kit_bl_str, Mi.kit_int_int, Mi.kit_int_bool, Mi.kit_int_list, Mi.kit_int_tuple, Mi.kit_int_str, Mi.kit_str_int, Mi.kit_str_bool, Mi.kit_str_list, Mi.kit_str_tuple, Mi.kit_str_str, Mi.kit_tup_int, Mi.kit_tup_bool, Mi.kit_tup_list, Mi.kit_tup_tuple, Mi.kit_tup_str, Mi.kit_lst_int, Mi.kit_lst_bool, Mi.kit_lst_list, Mi.kit_lst_tuple, Mi.kit_lst_str, Mi.kit_dic_int, Mi.kit_dic_bool, Mi.kit_dic_list, Mi.kit_dic_tuple, Mi.kit_dic_str, mCall, hn, oTuple, in_four, oDiv]
  · rcases Decidable.em (z = 1) with rfl | h3
    · refine ⟨[], ?_⟩
      rcases hd with rfl | rfl <;> simp [Mi.fnM, Mi.outF, Mi.mSeq, Mi.thn, Mi.mNext, Mi.mRet, Mi.mRetN, Mi.mDrop, Mi.mIfS, Mi.mTst, Mi.tru, Mi.mAndT, Mi.mOrT, Mi.mNotT, Mi.mAnd, Mi.mOr, Mi.mNot, Mi.mIf, Mi.mBin, Mi.mUn, Mi.mCb, Mi.mVar, Mi.mC, Mi.mCons, Mi.mNil, Mi.bnd_at, Mi.ret_at, Mi.ofO_at, Mi.fail_at, Mi.ite_at, Mi.mAsg, Mi.gmName, Mi.mTup, Mi.mLst, Mi.mLstM, Mi.mCallL, Mi.calm_at, Mi.mCallNL, Mi.oCmp, Mi.oIsN, Mi.oNotN, Mi.isNon, Mi.oAdd, Mi.oSub, Mi.oNeg, Mi.oMod, Mi.mYes, Mi.mPar, Mi.mPar3, Mi.raise, Mi.big, Mi.kdv, Mi.asQ, Mi.asL, Mi.asS, Mi.asI, Mi.trus, Mi.oIx, Mi.at_0, Mi.at3_1, Mi.at3_2, Mi.at2_1, Mi.now, Mi.sameD, Mi.mLc, Mi.mLcs, Mi.mWalk, Mi.loopC, Mi.wipD, Mi.oLen, Mi.oEq, Mi.oNe, Mi.oAll, Mi.oAny, Mi.kit_non_int, Mi.kit_non_bool, Mi.kit_non_list, Mi.kit_non_tuple, Mi.kit_non_str, Mi.kit_bl_int, Mi.kit_bl_bool, Mi.kit_bl_list, Mi.kit_bl_tuple, Mi.kit_bl_str, Mi.kit_int_int, Mi.kit_int_bool, Mi.kit_int_list, Mi.kit_int_tuple, Mi.kit_int_str, Mi.kit_str_int, Mi.kit_str_bool, Mi.kit_str_list, Mi.kit_str_tuple, Mi.kit_str_str, Mi.kit_tup_int, Mi.kit_tup_bool, Mi.kit_tup_list, Mi.kit_tup_tuple, Mi.kit_tup_str, Mi.kit_lst_int, Mi.kit_lst_bool, Mi.kit_lst_list, Mi.kit_lst_tuple, Mi.kit_lst_str, Mi.kit_dic_int, Mi.kit_dic_bool, Mi.kit_dic_list, Mi.kit_dic_tuple, Mi.kit_dic_str, mCall, hn, oTuple, in_four, oDiv]
    · refine ⟨[.lst [.int 0, .int 0, .int (pa z)], .lst [.int 0, .int 0, .int (pb z)]], ?_⟩
      rcases hd with rfl | rfl <;> simp [Mi.fnM, Mi.outF, Mi.mSeq, Mi.thn, Mi.mNext, Mi.mRet, Mi.mRetN, Mi.mDrop, Mi.mIfS, Mi.mTst, Mi.tru, Mi.mAndT, Mi.mOrT, Mi.mNotT, Mi.mAnd, Mi.mOr, Mi.mNot, Mi.mIf, Mi.mBin, Mi.mUn, Mi.mCb, Mi.mVar, Mi.mC, Mi.mCons, Mi.mNil, Mi.bnd_at, Mi.ret_at, Mi.ofO_at, Mi.fail_at, Mi.ite_at, Mi.mAsg, Mi.gmName, Mi.mTup, Mi.mLst, Mi.mLstM, Mi.mCallL, Mi.calm_at, Mi.mCallNL, Mi.oCmp, Mi.oIsN, Mi.oNotN, Mi.isNon, Mi.oAdd, Mi.oSub, Mi.oNeg, Mi.oMod, Mi.mYes, Mi.mPar, Mi.mPar3, Mi.raise, Mi.big, Mi.kdv, Mi.asQ, Mi.asL, Mi.asS, Mi.asI, Mi.trus, Mi.oIx, Mi.at_0, Mi.at3_1, Mi.at3_2, Mi.at2_1, Mi.now, Mi.sameD, Mi.mLc, Mi.mLcs, Mi.mWalk, Mi.loopC, Mi.wipD, Mi.oLen, Mi.oEq, Mi.oNe, Mi.oAll, Mi.oAny, Mi.kit_non_int, Mi.kit_non_bool, Mi.kit_non_list, Mi.kit_non_tuple, Mi.kit_non_str, Mi.kit_bl_int, Mi.kit_bl_bool, Mi.kit_bl_list, Mi.kit_bl_tuple, Mi.kit_bl_str, Mi.kit_int_int, Mi.kit_int_bool, Mi.kit_int_list, Mi.kit_int_tuple, Mi.kit_int_str, Mi.kit_str_int, Mi.kit_str_bool, Mi.kit_str_list, Mi.kit_str_tuple, Mi.kit_str_str, Mi.kit_tup_int, Mi.kit_tup_bool, Mi.kit_tup_list, Mi.kit_tup_tuple, Mi.kit_tup_str, Mi.kit_lst_int, Mi.kit_lst_bool, Mi.kit_lst_list, Mi.kit_lst_tuple, Mi.kit_lst_str, Mi.kit_dic_int, Mi.kit_dic_bool, Mi.kit_dic_list, Mi.kit_dic_tuple, Mi.kit_dic_str, mCall, hn, oTuple, in_four, h2, h3, mRange1, rangeD, List.range, List.range.loop, p_parts', gmTup, gmCons, gmNil, p_word_at2]
  · rcases Decidable.em (y = 1) with rfl | h3
    · refine ⟨[], ?_⟩
      rcases hd with rfl | rfl <;> simp [Mi.fnM, Mi.outF, Mi.mSeq, Mi.thn, Mi.mNext, Mi.mRet, Mi.mRetN, Mi.mDrop, Mi.mIfS, Mi.mTst, Mi.tru, Mi.mAndT, Mi.mOrT, Mi.mNotT, Mi.mAnd, Mi.mOr, Mi.mNot, Mi.mIf, Mi.mBin, Mi.mUn, Mi.mCb, Mi.mVar, Mi.mC, Mi.mCons, Mi.mNil, Mi.bnd_at, Mi.ret_at, Mi.ofO_at, Mi.fail_at, Mi.ite_at, Mi.mAsg, Mi.gmName, Mi.mTup, Mi.mLst, Mi.mLstM, Mi.mCallL, Mi.calm_at, Mi.mCallNL, Mi.oCmp, Mi.oIsN, Mi.oNotN, Mi.isNon, Mi.oAdd, Mi.oSub, Mi.oNeg, Mi.oMod, Mi.mYes, Mi.mPar, Mi.mPar3, Mi.raise, Mi.big, Mi.kdv, Mi.asQ, Mi.asL, Mi.asS, Mi.asI, Mi.trus, Mi.oIx, Mi.at_0, Mi.at3_1, Mi.at3_2, Mi.at2_1, Mi.now, Mi.sameD, Mi.mLc, Mi.mLcs, Mi.mWalk, Mi.loopC, Mi.wipD, Mi.oLen, Mi.oEq, Mi.oNe, Mi.oAll, Mi.oAny, Mi.kit_non_int, Mi.kit_non_bool, Mi.kit_non_list, Mi.kit_non_tuple, Mi.kit_non_str, Mi.kit_bl_int, Mi.kit_bl_bool, Mi.kit_bl_list, Mi.kit_bl_tuple, Mi.kit_bl_str, Mi.kit_int_int, Mi.kit_int_bool, Mi.kit_int_list, Mi.kit_int_tuple, Mi.kit_int_str, Mi.kit_str_int, Mi.kit_str_bool, Mi.kit_str_list, Mi.kit_str_tuple, Mi.kit_str_str, Mi.kit_tup_int, Mi.kit_tup_bool, Mi.kit_tup_list, Mi.kit_tup_tuple, Mi.kit_tup_str, Mi.kit_lst_int, Mi.kit_lst_bool, Mi.kit_lst_list, Mi.kit_lst_tuple, Mi.kit_lst_str, Mi.kit_dic_int, Mi.kit_dic_bool, Mi.kit_dic_list, Mi.kit_dic_tuple, Mi.kit_dic_str, mCall, hn, oTuple, in_four, oDiv]
    · refine ⟨[.lst [.int 0, .int (pa y), .int 0], .lst [.int 0, .int (pb y), .int 0]], ?_⟩
      rcases hd with rfl | rfl <;> simp [Mi.fnM, Mi.outF, Mi.mSeq, Mi.thn, Mi.mNext, Mi.mRet, Mi.mRetN, Mi.mDrop, Mi.mIfS, Mi.mTst, Mi.tru, Mi.mAndT, Mi.mOrT, Mi.mNotT, Mi.mAnd, Mi.mOr, Mi.mNot, Mi.mIf, Mi.mBin, Mi.mUn, Mi.mCb, Mi.mVar, Mi.mC, Mi.mCons, Mi.mNil, Mi.bnd_at, Mi.ret_at, Mi.ofO_at, Mi.fail_at, Mi.ite_at, Mi.mAsg, Mi.gmName, Mi.mTup, Mi.mLst, Mi.mLstM, Mi.mCallL, Mi.calm_at, Mi.mCallNL, Mi.oCmp, Mi.oIsN, Mi.oNotN, Mi.isNon, Mi.oAdd, Mi.oSub, Mi.oNeg, Mi.oMod, Mi.mYes, Mi.mPar, Mi.mPar3, Mi.raise, Mi.big, Mi.kdv, Mi.asQ, Mi.asL, Mi.asS, Mi.asI, Mi.trus, Mi.oIx, Mi.at_0, Mi.at3_1, Mi.at3_2, Mi.at2_1, Mi.now, Mi.sameD, Mi.mLc, Mi.mLcs, Mi.mWalk, Mi.loopC, Mi.wipD, Mi.oLen, Mi.oEq, Mi.oNe, Mi.oAll, Mi.oAny, Mi.kit_non_int, Mi.kit_non_bool, Mi.kit_non_list, Mi.kit_non_tuple, Mi.kit_non_str, Mi.kit_bl_int, Mi.kit_bl_bool, Mi.kit_bl_list, Mi.kit_bl_tuple, Mi.kit_bl_str, Mi.kit_int_int, Mi.kit_int_bool, Mi.kit_int_list, Mi.kit_int_tuple, Mi.kit_int_str, Mi.kit_str_int, Mi.kit_str_bool, Mi.kit_str_list, Mi.kit_str_tuple, Mi.kit_str_str, Mi.kit_tup_int, Mi.kit_tup_bool, Mi.kit_tup_list, Mi.kit_tup_tuple, Mi.kit_tup_str, Mi.kit_lst_int, Mi.kit_lst_bool, Mi.kit_lst_list, Mi.kit_lst_tuple, Mi.kit_lst_str, Mi.kit_dic_int, Mi.kit_dic_bool, Mi.kit_dic_list, Mi.kit_dic_tuple, Mi.kit_dic_str, mCall, hn, oTuple, in_four, h1, h3, mRange1, rangeD, List.range, List.range.loop, p_parts', gmTup, gmCons, gmNil, p_word_at1]
  · by_cases h4 : y % 2 = 0
    · refine ⟨[.lst [.int 0, .int 0, .int (-z)], .lst [.int 0, .int (y / 2), .int 0]], ?_⟩
      by_cases h5 : z % 2 = 0 <;> (rcases hd with rfl | rfl <;> simp [Mi.fnM, Mi.outF, Mi.mSeq, Mi.thn, Mi.mNext, Mi.mRet, Mi.mRetN, Mi.mDrop, Mi.mIfS, Mi.mTst, Mi.tru, Mi.mAndT, Mi.mOrT, Mi.mNotT, Mi.mAnd, Mi.mOr, Mi.mNot, Mi.mIf, Mi.mBin, Mi.mUn, Mi.mCb, Mi.mVar, Mi.mC, Mi.mCons, Mi.mNil, Mi.bnd_at, Mi.ret_at, Mi.ofO_at, Mi.fail_at, Mi.ite_at, Mi.mAsg, Mi.gmName, Mi.mTup, Mi.mLst, Mi.mLstM, Mi.mCallL, Mi.calm_at, Mi.mCallNL, Mi.oCmp, Mi.oIsN, Mi.oNotN, Mi.isNon, Mi.oAdd, Mi.oSub, Mi.oNeg, Mi.oMod, Mi.mYes, Mi.mPar, Mi.mPar3, Mi.raise, Mi.big, Mi.kdv, Mi.asQ, Mi.asL, Mi.asS, Mi.asI, Mi.trus, Mi.oIx, Mi.at_0, Mi.at3_1, Mi.at3_2, Mi.at2_1, Mi.now, Mi.sameD, Mi.mLc, Mi.mLcs, Mi.mWalk, Mi.loopC, Mi.wipD, Mi.oLen, Mi.oEq, Mi.oNe, Mi.oAll, Mi.oAny, Mi.kit_non_int, Mi.kit_non_bool, Mi.kit_non_list, Mi.kit_non_tuple, Mi.kit_non_str, Mi.kit_bl_int, Mi.kit_bl_bool, Mi.kit_bl_list, Mi.kit_bl_tuple, Mi.kit_bl_str, Mi.kit_int_int, Mi.kit_int_bool, Mi.kit_int_list, Mi.kit_int_tuple, Mi.kit_int_str, Mi.kit_str_int, Mi.kit_str_bool, Mi.kit_str_list, Mi.kit_str_tuple, Mi.kit_str_str, Mi.kit_tup_int, Mi.kit_tup_bool, Mi.kit_tup_list, Mi.kit_tup_tuple, Mi.kit_tup_str, Mi.kit_lst_int, Mi.kit_lst_bool, Mi.kit_lst_list, Mi.kit_lst_tuple, Mi.kit_lst_str, Mi.kit_dic_int, Mi.kit_dic_bool, Mi.kit_dic_list, Mi.kit_dic_tuple, Mi.kit_dic_str, mCall, hn, oTuple, in_four, h1, h2, h4, h5, mRange1, rangeD, List.range, List.range.loop, p_word_at1, mLcM, gmSub, putL, L2.ixN, set_at, get_at, set_last, get_last, oDiv, lg2])
    · have h5 : z % 2 = 0 := by omega
      refine ⟨[.lst [.int 0, .int (-y), .int 0], .lst [.int 0, .int 0, .int (z / 2)]], ?_⟩
      rcases hd with rfl | rfl <;> simp [Mi.fnM, Mi.outF, Mi.mSeq, Mi.thn, Mi.mNext, Mi.mRet, Mi.mRetN, Mi.mDrop, Mi.mIfS, Mi.mTst, Mi.tru, Mi.mAndT, Mi.mOrT, Mi.mNotT, Mi.mAnd, Mi.mOr, Mi.mNot, Mi.mIf, Mi.mBin, Mi.mUn, Mi.mCb, Mi.mVar, Mi.mC, Mi.mCons, Mi.mNil, Mi.bnd_at, Mi.ret_at, Mi.ofO_at, Mi.fail_at, Mi.ite_at, Mi.mAsg, Mi.gmName, Mi.mTup, Mi.mLst, Mi.mLstM, Mi.mCallL, Mi.calm_at, Mi.mCallNL, Mi.oCmp, Mi.oIsN, Mi.oNotN, Mi.isNon, Mi.oAdd, Mi.oSub, Mi.oNeg, Mi.oMod, Mi.mYes, Mi.mPar, Mi.mPar3, Mi.raise, Mi.big, Mi.kdv, Mi.asQ, Mi.asL, Mi.asS, Mi.asI, Mi.trus, Mi.oIx, Mi.at_0, Mi.at3_1, Mi.at3_2, Mi.at2_1, Mi.now, Mi.sameD, Mi.mLc, Mi.mLcs, Mi.mWalk, Mi.loopC, Mi.wipD, Mi.oLen, Mi.oEq, Mi.oNe, Mi.oAll, Mi.oAny, Mi.kit_non_int, Mi.kit_non_bool, Mi.kit_non_list, Mi.kit_non_tuple, Mi.kit_non_str, Mi.kit_bl_int, Mi.kit_bl_bool, Mi.kit_bl_list, Mi.kit_bl_tuple, Mi.kit_bl_str, Mi.kit_int_int, Mi.kit_int_bool, Mi.kit_int_list, Mi.kit_int_tuple, Mi.kit_int_str, Mi.kit_str_int, Mi.kit_str_bool, Mi.kit_str_list, Mi.kit_str_tuple, Mi.kit_str_str, Mi.kit_tup_int, Mi.kit_tup_bool, Mi.kit_tup_list, Mi.kit_tup_tuple, Mi.kit_tup_str, Mi.kit_lst_int, Mi.kit_lst_bool, Mi.kit_lst_list, Mi.kit_lst_tuple, Mi.kit_lst_str, Mi.kit_dic_int, Mi.kit_dic_bool, Mi.kit_dic_list, Mi.kit_dic_tuple, Mi.kit_dic_str, mCall, hn, oTuple, in_four, h1, h2, h4, h5, mRange1, rangeD, List.range, List.range.loop, p_word_at2, mLcM, gmSub, putL, L2.ixN, set_at, get_at, set_last, get_last, oDiv, lg2]
  · rcases Decidable.em (x = 1) with rfl | h3
    · refine ⟨[], ?_⟩
      rcases hd with rfl | rfl <;> simp [Mi.fnM, Mi.outF, Mi.mSeq, Mi.thn, Mi.mNext, Mi.mRet, Mi.mRetN, Mi.mDrop, Mi.mIfS, Mi.mTst, Mi.tru, Mi.mAndT, Mi.mOrT, Mi.mNotT, Mi.mAnd, Mi.mOr, Mi.mNot, Mi.mIf, Mi.mBin, Mi.mUn, Mi.mCb, Mi.mVar, Mi.mC, Mi.mCons, Mi.mNil, Mi.bnd_at, Mi.ret_at, Mi.ofO_at, Mi.fail_at, Mi.ite_at, Mi.mAsg, Mi.gmName, Mi.mTup, Mi.mLst, Mi.mLstM, Mi.mCallL, Mi.calm_at, Mi.mCallNL, Mi.oCmp, Mi.oIsN, Mi.oNotN, Mi.isNon, Mi.oAdd, Mi.oSub, Mi.oNeg, Mi.oMod, Mi.mYes, Mi.mPar, Mi.mPar3, Mi.raise, Mi.big, Mi.kdv, Mi.asQ, Mi.asL, Mi.asS, Mi.asI, Mi.trus, Mi.oIx, Mi.at_0, Mi.at3_1, Mi.at3_2, Mi.at2_1, Mi.now, Mi.sameD, Mi.mLc, Mi.mLcs, Mi.mWalk, Mi.loopC, Mi.wipD, Mi.oLen, Mi.oEq, Mi.oNe, Mi.oAll, Mi.oAny, Mi.kit_non_int, Mi.kit_non_bool, Mi.kit_non_list, Mi.kit_non_tuple, Mi.kit_non_str, Mi.kit_bl_int, Mi.kit_bl_bool, Mi.kit_bl_list, Mi.kit_bl_tuple, Mi.kit_bl_str, Mi.kit_int_int, Mi.kit_int_bool, Mi.kit_int_list, Mi.kit_int_tuple, Mi.kit_int_str, Mi.kit_str_int, Mi.kit_str_bool, Mi.kit_str_list, Mi.kit_str_tuple, Mi.kit_str_str, Mi.kit_tup_int, Mi.kit_tup_bool, Mi.kit_tup_list, Mi.kit_tup_tuple, Mi.kit_tup_str, Mi.kit_lst_int, Mi.kit_lst_bool, Mi.kit_lst_list, Mi.kit_lst_tuple, Mi.kit_lst_str, Mi.kit_dic_int, Mi.kit_dic_bool, Mi.kit_dic_list, Mi.kit_dic_tuple, Mi.kit_dic_str, mCall, hn, oTuple, in_four, oDiv]
    · refine ⟨[.lst [.int (pa x), .int 0, .int 0], .lst [.int (pb x), .int 0, .int 0]], ?_⟩
      rcases hd with rfl | rfl <;> simp [Mi.fnM, Mi.outF, Mi.mSeq, Mi.thn, Mi.mNext, Mi.mRet, Mi.mRetN, Mi.mDrop, Mi.mIfS, Mi.mTst, Mi.tru, Mi.mAndT, Mi.mOrT, Mi.mNotT, Mi.mAnd, Mi.mOr, Mi.mNot, Mi.mIf, Mi.mBin, Mi.mUn, Mi.mCb, Mi.mVar, Mi.mC, Mi.mCons, Mi.mNil, Mi.bnd_at, Mi.ret_at, Mi.ofO_at, Mi.fail_at, Mi.ite_at, Mi.mAsg, Mi.gmName, Mi.mTup, Mi.mLst, Mi.mLstM, Mi.mCallL, Mi.calm_at, Mi.mCallNL, Mi.oCmp, Mi.oIsN, Mi.oNotN, Mi.isNon, Mi.oAdd, Mi.oSub, Mi.oNeg, Mi.oMod, Mi.mYes, Mi.mPar, Mi.mPar3, Mi.raise, Mi.big, Mi.kdv, Mi.asQ, Mi.asL, Mi.asS, Mi.asI, Mi.trus, Mi.oIx, Mi.at_0, Mi.at3_1, Mi.at3_2, Mi.at2_1, Mi.now, Mi.sameD, Mi.mLc, Mi.mLcs, Mi.mWalk, Mi.loopC, Mi.wipD, Mi.oLen, Mi.oEq, Mi.oNe, Mi.oAll, Mi.oAny, Mi.kit_non_int, Mi.kit_non_bool, Mi.kit_non_list, Mi.kit_non_tuple, Mi.kit_non_str, Mi.kit_bl_int, Mi.kit_bl_bool, Mi.kit_bl_list, Mi.kit_bl_tuple, Mi.kit_bl_str, Mi.kit_int_int, Mi.kit_int_bool, Mi.kit_int_list, Mi.kit_int_tuple, Mi.kit_int_str, Mi.kit_str_int, Mi.kit_str_bool, Mi.kit_str_list, Mi.kit_str_tuple, Mi.kit_str_str, Mi.kit_tup_int, Mi.kit_tup_bool, Mi.kit_tup_list, Mi.kit_tup_tuple, Mi.kit_tup_str, Mi.kit_lst_int, Mi.kit_lst_bool, Mi.kit_lst_list, Mi.kit_lst_tuple, Mi.kit_lst_str, Mi.kit_dic_int, Mi.kit_dic_bool, Mi.kit_dic_list, Mi.kit_dic_tuple, Mi.kit_dic_str, mCall, hn, oTuple, in_four, h0, h3, mRange1, rangeD, List.range, List.range.loop, p_parts', gmTup, gmCons, gmNil, p_word_at0]
  · by_cases h4 : x % 2 = 0
    · refine ⟨[.lst [.int 0, .int 0, .int (-z)], .lst [.int (x / 2), .int 0, .int 0]], ?_⟩
      by_cases h5 : z % 2 = 0 <;> (rcases hd with rfl | rfl <;> simp [Mi.fnM, Mi.outF, Mi.mSeq, Mi.thn, Mi.mNext, Mi.mRet, Mi.mRetN, Mi.mDrop, Mi.mIfS, Mi.mTst, Mi.tru, Mi.mAndT, Mi.mOrT, Mi.mNotT, Mi.mAnd, Mi.mOr, Mi.mNot, Mi.mIf, Mi.mBin, Mi.mUn, Mi.mCb, Mi.mVar, Mi.mC, Mi.mCons, Mi.mNil, Mi.bnd_at, Mi.ret_at, Mi.ofO_at, Mi.fail_at, Mi.ite_at, Mi.mAsg, Mi.gmName, Mi.mTup, Mi.mLst, Mi.mLstM, Mi.mCallL, Mi.calm_at, Mi.mCallNL, Mi.oCmp, Mi.oIsN, Mi.oNotN, Mi.isNon, Mi.oAdd, Mi.oSub, Mi.oNeg, Mi.oMod, Mi.mYes, Mi.mPar, Mi.mPar3, Mi.raise, Mi.big, Mi.kdv, Mi.asQ, Mi.asL, Mi.asS, Mi.asI, Mi.trus, Mi.oIx, Mi.at_0, Mi.at3_1, Mi.at3_2, Mi.at2_1, Mi.now, Mi.sameD, Mi.mLc, Mi.mLcs, Mi.mWalk, Mi.loopC, Mi.wipD, Mi.oLen, Mi.oEq, Mi.oNe, Mi.oAll, Mi.oAny, Mi.kit_non_int, Mi.kit_non_bool, Mi.kit_non_list, Mi.kit_non_tuple, Mi.kit_non_str, Mi.kit_bl_int, Mi.kit_bl_bool, Mi.kit_bl_list, Mi.kit_bl_tuple, Mi.kit_bl_str, Mi.kit_int_int, Mi.kit_int_bool, Mi.kit_int_list, Mi.kit_int_tuple, Mi.kit_int_str, Mi.kit_str_int, Mi.kit_str_bool, Mi.kit_str_list, Mi.kit_str_tuple, Mi.kit_str_str, Mi.kit_tup_int, Mi.kit_tup_bool, Mi.kit_tup_list, Mi.kit_tup_tuple, Mi.kit_tup_str, Mi.kit_lst_int, Mi.kit_lst_bool, Mi.kit_lst_list, Mi.kit_lst_tuple, Mi.kit_lst_str, Mi.kit_dic_int, Mi.kit_dic_bool, Mi.kit_dic_list, Mi.kit_dic_tuple, Mi.kit_dic_str, mCall, hn, oTuple, in_four, h0, h2, h4, h5, mRange1, rangeD, List.range, List.range.loop, p_word_at0, mLcM, gmSub, putL, L2.ixN, set_at, get_at, set_last, get_last, oDiv, lg2])
    · have h5 : z % 2 = 0 := by omega
      refine ⟨[.lst [.int (-x), .int 0, .int 0], .lst [.int 0, .int 0, .int (z / 2)]], ?_⟩
      rcases hd with rfl | rfl <;> simp [Mi.fnM, Mi.outF, Mi.mSeq, Mi.thn, Mi.mNext, Mi.mRet, Mi.mRetN, Mi.mDrop, Mi.mIfS, Mi.mTst, Mi.tru, Mi.mAndT, Mi.mOrT, Mi.mNotT, Mi.mAnd, Mi.mOr, Mi.mNot, Mi.mIf, Mi.mBin, Mi.mUn, Mi.mCb, Mi.mVar, Mi.mC, Mi.mCons, Mi.mNil, Mi.bnd_at, Mi.ret_at, Mi.ofO_at, Mi.fail_at, Mi.ite_at, Mi.mAsg, Mi.gmName, Mi.mTup, Mi.mLst, Mi.mLstM, Mi.mCallL, Mi.calm_at, Mi.mCallNL, Mi.oCmp, Mi.oIsN, Mi.oNotN, Mi.isNon, Mi.oAdd, Mi.oSub, Mi.oNeg, Mi.oMod, Mi.mYes, Mi.mPar, Mi.mPar3, Mi.raise, Mi.big, Mi.kdv, Mi.asQ, Mi.asL, Mi.asS, Mi.asI, Mi.trus, Mi.oIx, Mi.at_0, Mi.at3_1, Mi.at3_2, Mi.at2_1, Mi.now, Mi.sameD, Mi.mLc, Mi.mLcs, Mi.mWalk, Mi.loopC, Mi.wipD, Mi.oLen, Mi.oEq, Mi.oNe, Mi.oAll, Mi.oAny, Mi.kit_non_int, Mi.kit_non_bool, Mi.kit_non_list, Mi.kit_non_tuple, Mi.kit_non_str, Mi.kit_bl_int, Mi.kit_bl_bool, Mi.kit_bl_list, Mi.kit_bl_tuple, Mi.kit_bl_str, Mi.kit_int_int, Mi.kit_int_bool, Mi.kit_int_list, Mi.kit_int_tuple, Mi.kit_int_str, Mi.kit_str_int, Mi.kit_str_bool, Mi.kit_str_list, Mi.kit_str_tuple, Mi.kit_str_str, Mi.kit_tup_int, Mi.kit_tup_bool, Mi.kit_tup_list, Mi.kit_tup_tuple, Mi.kit_tup_str, Mi.kit_lst_int, Mi.kit_lst_bool, Mi.kit_lst_list, Mi.kit_lst_tuple, Mi.kit_lst_str, Mi.kit_dic_int, Mi.kit_dic_bool, Mi.kit_dic_list, Mi.kit_dic_tuple, Mi.kit_dic_str, mCall, hn, oTuple, in_four, h0, h2, h4, h5, mRange1, rangeD, List.range, List.range.loop, p_word_at2, mLcM, gmSub, putL, L2.ixN, set_at, get_at, set_last, get_last, oDiv, lg2]
  · by_cases h4 : x % 2 = 0
    · refine ⟨[.lst [.int 0, .int (-y), .int 0], .lst [.int (x / 2), .int 0, .int 0]], ?_⟩
      by_cases h5 : y % 2 = 0 <;> (rcases hd with rfl | rfl <;> simp [Mi.fnM, Mi.outF, Mi.mSeq, Mi.thn, Mi.mNext, Mi.mRet, Mi.mRetN, Mi.mDrop, Mi.mIfS, Mi.mTst, Mi.tru, Mi.mAndT, Mi.mOrT, Mi.mNotT, Mi.mAnd, Mi.mOr, Mi.mNot, Mi.mIf, Mi.mBin, Mi.mUn, Mi.mCb, Mi.mVar, Mi.mC, Mi.mCons, Mi.mNil, Mi.bnd_at, Mi.ret_at, Mi.ofO_at, Mi.fail_at, Mi.ite_at, Mi.mAsg, Mi.gmName, Mi.mTup, Mi.mLst, Mi.mLstM, Mi.mCallL, Mi.calm_at, Mi.mCallNL, Mi.oCmp, Mi.oIsN, Mi.oNotN, Mi.isNon, Mi.oAdd, Mi.oSub, Mi.oNeg, Mi.oMod, Mi.mYes, Mi.mPar, Mi.mPar3, Mi.raise, Mi.big, Mi.kdv, Mi.asQ, Mi.asL, Mi.asS, Mi.asI, Mi.trus, Mi.oIx, Mi.at_0, Mi.at3_1, Mi.at3_2, Mi.at2_1, Mi.now, Mi.sameD, Mi.mLc, Mi.mLcs, Mi.mWalk, Mi.loopC, Mi.wipD, Mi.oLen, Mi.oEq, Mi.oNe, Mi.oAll, Mi.oAny, Mi.kit_non_int, Mi.kit_non_bool, Mi.kit_non_list, Mi.kit_non_tuple, Mi.kit_non_str, Mi.kit_bl_int, Mi.kit_bl_bool, Mi.kit_bl_list, Mi.kit_bl_tuple, Mi.kit_bl_str, Mi.kit_int_int, Mi.kit_int_bool, Mi.kit_int_list, Mi.kit_int_tuple, Mi.kit_int_str, Mi.kit_str_int, Mi.kit_str_bool, Mi.kit_str_list, Mi.kit_str_tuple, Mi.kit_str_str, Mi.kit_tup_int, Mi.kit_tup_bool, Mi.kit_tup_list, Mi.kit_tup_tuple, Mi.kit_tup_str, Mi.kit_lst_int, Mi.kit_lst_bool, Mi.kit_lst_list, Mi.kit_lst_tuple, Mi.kit_lst_str, Mi.kit_dic_int, Mi.kit_dic_bool, Mi.kit_dic_list, Mi.kit_dic_tuple, Mi.kit_dic_str, mCall, hn, oTuple, in_four, h0, h1, h4, h5, mRange1, rangeD, List.range, List.range.loop, p_word_at0, mLcM, gmSub, putL, L2.ixN, set_at, get_at, set_last, get_last, oDiv, lg2])
    · have h5 : y % 2 = 0 := by omega
      refine ⟨[.lst [.int (-x), .int 0, .int 0], .lst [.int 0, .int (y / 2), .int 0]], ?_⟩
      rcases hd with rfl | rfl <;> simp [Mi.fnM, Mi.outF, Mi.mSeq, Mi.thn, Mi.mNext, Mi.mRet, Mi.mRetN, Mi.mDrop, Mi.mIfS, Mi.mTst, Mi.tru, Mi.mAndT, Mi.mOrT, Mi.mNotT, Mi.mAnd, Mi.mOr, Mi.mNot, Mi.mIf, Mi.mBin, Mi.mUn, Mi.mCb, Mi.mVar, Mi.mC, Mi.mCons, Mi.mNil, Mi.bnd_at, Mi.ret_at, Mi.ofO_at, Mi.fail_at, Mi.ite_at, Mi.mAsg, Mi.gmName, Mi.mTup, Mi.mLst, Mi.mLstM, Mi.mCallL, Mi.calm_at, Mi.mCallNL, Mi.oCmp, Mi.oIsN, Mi.oNotN, Mi.isNon, Mi.oAdd, Mi.oSub, Mi.oNeg, Mi.oMod, Mi.mYes, Mi.mPar, Mi.mPar3, Mi.raise, Mi.big, Mi.kdv, Mi.asQ, Mi.asL, Mi.asS, Mi.asI, Mi.trus, Mi.oIx, Mi.at_0, Mi.at3_1, Mi.at3_2, Mi.at2_1, Mi.now, Mi.sameD, Mi.mLc, Mi.mLcs, Mi.mWalk, Mi.loopC, Mi.wipD, Mi.oLen, Mi.oEq, Mi.oNe, Mi.oAll, Mi.oAny, Mi.kit_non_int, Mi.kit_non_bool, Mi.kit_non_list, Mi.kit_non_tuple, Mi.kit_non_str, Mi.kit_bl_int, Mi.kit_bl_bool, Mi.kit_bl_list, Mi.kit_bl_tuple, Mi.kit_bl_str, Mi.kit_int_int, Mi.kit_int_bool, Mi.kit_int_list, Mi.kit_int_tuple, Mi.kit_int_str, Mi.kit_str_int, Mi.kit_str_bool, Mi.kit_str_list, Mi.kit_str_tuple, Mi.kit_str_str, Mi.kit_tup_int, Mi.kit_tup_bool, Mi.kit_tup_list, Mi.kit_tup_tuple, Mi.kit_tup_str, Mi.kit_lst_int, Mi.kit_lst_bool, Mi.kit_lst_list, Mi.kit_lst_tuple, Mi.kit_lst_str, Mi.kit_dic_int, Mi.kit_dic_bool, Mi.kit_dic_list, Mi.kit_dic_tuple, Mi.kit_dic_str, mCall, hn, oTuple, in_four, h0, h1, h4, h5, mRange1, rangeD, List.range, List.range.loop, p_word_at1, mLcM, gmSub, putL, L2.ixN, set_at, get_at, set_last, get_last, oDiv, lg2]
  · by_cases h4 : x % 2 = 0
    · refine ⟨[.lst [.int 0, .int (-y), .int (-z)], .lst [.int (x / 2), .int 0, .int 0]], ?_⟩
      by_cases h5 : y % 2 = 0 <;> by_cases h6 : z % 2 = 0 <;> (rcases hd with rfl | rfl <;> simp [Mi.fnM, Mi.outF, Mi.mSeq, Mi.thn, Mi.mNext, Mi.mRet, Mi.mRetN, Mi.mDrop, Mi.mIfS, Mi.mTst, Mi.tru, Mi.mAndT, Mi.mOrT, Mi.mNotT, Mi.mAnd, Mi.mOr, Mi.mNot, Mi.mIf, Mi.mBin, Mi.mUn, Mi.mCb, Mi.mVar, Mi.mC, Mi.mCons, Mi.mNil, Mi.bnd_at, Mi.ret_at, Mi.ofO_at, Mi.fail_at, Mi.ite_at, Mi.mAsg, Mi.gmName, Mi.mTup, Mi.mLst, Mi.mLstM, Mi.mCallL, Mi.calm_at, Mi.mCallNL, Mi.oCmp, Mi.oIsN, Mi.oNotN, Mi.isNon, Mi.oAdd, Mi.oSub, Mi.oNeg, Mi.oMod, Mi.mYes, Mi.mPar, Mi.mPar3, Mi.raise, Mi.big, Mi.kdv, Mi.asQ, Mi.asL, Mi.asS, Mi.asI, Mi.trus, Mi.oIx, Mi.at_0, Mi.at3_1, Mi.at3_2, Mi.at2_1, Mi.now, Mi.sameD, Mi.mLc, Mi.mLcs, Mi.mWalk, Mi.loopC, Mi.wipD, Mi.oLen, Mi.oEq, Mi.oNe, Mi.oAll, Mi.oAny, Mi.kit_non_int, Mi.kit_non_bool, Mi.kit_non_list, Mi.kit_non_tuple, Mi.kit_non_str, Mi.kit_bl_int, Mi.kit_bl_bool, Mi.kit_bl_list, Mi.kit_bl_tuple, Mi.kit_bl_str, Mi.kit_int_int, Mi.kit_int_bool, Mi.kit_int_list, Mi.kit_int_tuple, Mi.kit_int_str, Mi.kit_str_int, Mi.kit_str_bool, Mi.kit_str_list, Mi.kit_str_tuple, Mi.kit_str_str, Mi.kit_tup_int, Mi.kit_tup_bool, Mi.kit_tup_list, Mi.kit_tup_tuple, Mi.kit_tup_str, Mi.kit_lst_int, Mi.kit_lst_bool, Mi.kit_lst_list, Mi.kit_lst_tuple, Mi.kit_lst_str, Mi.kit_dic_int, Mi.kit_dic_bool, Mi.kit_dic_list, Mi.kit_dic_tuple, Mi.kit_dic_str, mCall, hn, oTuple, in_four, h0, h1, h2, h4, h5, h6, mRange1, rangeD, List.range, List.range.loop, p_word_at0, mLcM, gmSub, putL, L2.ixN, set_at, get_at, set_last, get_last, oDiv, lg2])
    · have h5 : y % 2 = 0 := by omega
      have h6 : z % 2 = 0 := by omega
      refine ⟨[.lst [.int (-x), .int 0, .int (-z)], .lst [.int 0, .int (y / 2), .int 0]], ?_⟩
      rcases hd with rfl | rfl <;> simp [Mi.fnM, Mi.outF, Mi.mSeq, Mi.thn, Mi.mNext, Mi.mRet, Mi.mRetN, Mi.mDrop, Mi.mIfS, Mi.mTst, Mi.tru, Mi.mAndT, Mi.mOrT, Mi.mNotT, Mi.mAnd, Mi.mOr, Mi.mNot, Mi.mIf, Mi.mBin, Mi.mUn, Mi.mCb, Mi.mVar, Mi.mC, Mi.mCons, Mi.mNil, Mi.bnd_at, Mi.ret_at, Mi.ofO_at, Mi.fail_at, Mi.ite_at, Mi.mAsg, Mi.gmName, Mi.mTup, Mi.mLst, Mi.mLstM, Mi.mCallL, Mi.calm_at, Mi.mCallNL, Mi.oCmp, Mi.oIsN, Mi.oNotN, Mi.isNon, Mi.oAdd, Mi.oSub, Mi.oNeg, Mi.oMod, Mi.mYes, Mi.mPar, Mi.mPar3, Mi.raise, Mi.big, Mi.kdv, Mi.asQ, Mi.asL, Mi.asS, Mi.asI, Mi.trus, Mi.oIx, Mi.at_0, Mi.at3_1, Mi.at3_2, Mi.at2_1, Mi.now, Mi.sameD, Mi.mLc, Mi.mLcs, Mi.mWalk, Mi.loopC, Mi.wipD, Mi.oLen, Mi.oEq, Mi.oNe, Mi.oAll, Mi.oAny, Mi.kit_non_int, Mi.kit_non_bool, Mi.kit_non_list, Mi.kit_non_tuple, Mi.kit_non_str, Mi.kit_bl_int, Mi.kit_bl_bool, Mi.kit_bl_list, Mi.kit_bl_tuple, Mi.kit_bl_str, Mi.kit_int_int, Mi.kit_int_bool, Mi.kit_int_list, Mi.kit_int_tuple, Mi.kit_int_str, Mi.kit_str_int, Mi.kit_str_bool, Mi.kit_str_list, Mi.kit_str_tuple, Mi.kit_str_str, Mi.kit_tup_int, Mi.kit_tup_bool, Mi.kit_tup_list, Mi.kit_tup_tuple, Mi.kit_tup_str, Mi.kit_lst_int, Mi.kit_lst_bool, Mi.kit_lst_list, Mi.kit_lst_tuple, Mi.kit_lst_str, Mi.kit_dic_int, Mi.kit_dic_bool, Mi.kit_dic_list, Mi.kit_dic_tuple, Mi.kit_dic_str, mCall, hn, oTuple, in_four, h0, h1, h2, h4, h5, h6, mRange1, rangeD, List.range, List.range.loop, p_word_at1, mLcM, gmSub, putL, L2.ixN, set_at, get_at, set_last, get_last, oDiv, lg2]
end Ty

namespace Ty
open PySem PySem.Spec PyProof.Rows L2 Mi
variable {R : Pr}
theorem pa_neg {k : Int} (h : k < 0) : pa k = 0 ∧ pb k = -k := by unfold pa pb; simp [h]
theorem pa_pos {k : Int} (h : ¬ k < 0) : (k + 1) / 2 = pa k ∧ k % 2 = pb k := by
  unfold pa pb
  by_cases h2 : k % 2 = 0
  · simp [h, h2]; omega
  · simp [h, h2]; omega
theorem get_at1 {α : Type} (B C : List α) (x y : α) : (B ++ x :: y :: C)[B.length + 1]? = some y := by
  rw [List.getElem?_append_right (by omega)]
  simp
theorem set_at1 {α : Type} (B C : List α) (x y z : α) : (B ++ x :: y :: C).set (B.length + 1) z = B ++ x :: z :: C := by
  rw [List.set_append_right _ _ (by omega)]
  simp
theorem lmade (x y z : Int) (h : isw x y z = true) (A : Mem) : ∃ J, f_law_made R [wz x y z] A = some (.ok (mo x y z), A ++ J) := by
  obtain ⟨o1, o2, o3⟩ := isw_odd h
  unfold f_law_made m_law_made mo
  rcases Decidable.em (x = 0) with rfl | h0 <;> rcases Decidable.em (y = 0) with rfl | h1 <;> rcases Decidable.em (z = 0) with rfl | h2
  · refine ⟨[], ?_⟩
    simp [Mi.fnM, Mi.outF, Mi.mSeq, Mi.thn, Mi.mNext, Mi.mRet, Mi.mRetN, Mi.mDrop, Mi.mIfS, Mi.mTst, Mi.tru, Mi.mAndT, Mi.mOrT, Mi.mNotT, Mi.mAnd, Mi.mOr, Mi.mNot, Mi.mIf, Mi.mBin, Mi.mUn, Mi.mCb, Mi.mVar, Mi.mC, Mi.mCons, Mi.mNil, Mi.bnd_at, Mi.ret_at, Mi.ofO_at, Mi.fail_at, Mi.ite_at, Mi.mAsg, Mi.gmName, Mi.mTup, Mi.mLst, Mi.mLstM, Mi.mCallL, Mi.calm_at, Mi.mCallNL, Mi.oCmp, Mi.oIsN, Mi.oNotN, Mi.isNon, Mi.oAdd, Mi.oSub, Mi.oNeg, Mi.oMod, Mi.mYes, Mi.mPar, Mi.mPar3, Mi.raise, Mi.big, Mi.kdv, Mi.asQ, Mi.asL, Mi.asS, Mi.asI, Mi.trus, Mi.oIx, Mi.at_0, Mi.at3_1, Mi.at3_2, Mi.at2_1, Mi.now, Mi.sameD, Mi.mLc, Mi.mLcs, Mi.mWalk, Mi.loopC, Mi.wipD, Mi.oLen, Mi.oEq, Mi.oNe, Mi.oAll, Mi.oAny, Mi.kit_non_int, Mi.kit_non_bool, Mi.kit_non_list, Mi.kit_non_tuple, Mi.kit_non_str, Mi.kit_bl_int, Mi.kit_bl_bool, Mi.kit_bl_list, Mi.kit_bl_tuple, Mi.kit_bl_str, Mi.kit_int_int, Mi.kit_int_bool, Mi.kit_int_list, Mi.kit_int_tuple, Mi.kit_int_str, Mi.kit_str_int, Mi.kit_str_bool, Mi.kit_str_list, Mi.kit_str_tuple, Mi.kit_str_str, Mi.kit_tup_int, Mi.kit_tup_bool, Mi.kit_tup_list, Mi.kit_tup_tuple, Mi.kit_tup_str, Mi.kit_lst_int, Mi.kit_lst_bool, Mi.kit_lst_list, Mi.kit_lst_tuple, Mi.kit_lst_str, Mi.kit_dic_int, Mi.kit_dic_bool, Mi.kit_dic_list, Mi.kit_dic_tuple, Mi.kit_dic_str, in_four, lg2, mRange1, rangeD, List.range, List.range.loop, oBit, bit1, get_at1, set_at1, mPar3, gmSub, putL, L2.ixN, set_at, get_at, set_last, get_last, oDiv, lg2, oInt, oTuple, gmTup, gmCons, gmNil]
  · rcases Decidable.em (z = 1) with rfl | h3
    · refine ⟨[], ?_⟩
      simp [Mi.fnM, Mi.outF, Mi.mSeq, Mi.thn, Mi.mNext, Mi.mRet, Mi.mRetN, Mi.mDrop, Mi.mIfS, Mi.mTst, Mi.tru, Mi.mAndT, Mi.mOrT, Mi.mNotT, Mi.mAnd, Mi.mOr, Mi.mNot, Mi.mIf, Mi.mBin, Mi.mUn, Mi.mCb, Mi.mVar, Mi.mC, Mi.mCons, Mi.mNil, Mi.bnd_at, Mi.ret_at, Mi.ofO_at, Mi.fail_at, Mi.ite_at, Mi.mAsg, Mi.gmName, Mi.mTup, Mi.mLst, Mi.mLstM, Mi.mCallL, Mi.calm_at, Mi.mCallNL, Mi.oCmp, Mi.oIsN, Mi.oNotN, Mi.isNon, Mi.oAdd, Mi.oSub, Mi.oNeg, Mi.oMod, Mi.mYes, Mi.mPar, Mi.mPar3, Mi.raise, Mi.big, Mi.kdv, Mi.asQ, Mi.asL, Mi.asS, Mi.asI, Mi.trus, Mi.oIx, Mi.at_0, Mi.at3_1, Mi.at3_2, Mi.at2_1, Mi.now, Mi.sameD, Mi.mLc, Mi.mLcs, Mi.mWalk, Mi.loopC, Mi.wipD, Mi.oLen, Mi.oEq, Mi.oNe, Mi.oAll, Mi.oAny, Mi.kit_non_int, Mi.kit_non_bool, Mi.kit_non_list, Mi.kit_non_tuple, Mi.kit_non_str, Mi.kit_bl_int, Mi.kit_bl_bool, Mi.kit_bl_list, Mi.kit_bl_tuple, Mi.kit_bl_str, Mi.kit_int_int, Mi.kit_int_bool, Mi.kit_int_list, Mi.kit_int_tuple, Mi.kit_int_str, Mi.kit_str_int, Mi.kit_str_bool, Mi.kit_str_list, Mi.kit_str_tuple, Mi.kit_str_str, Mi.kit_tup_int, Mi.kit_tup_bool, Mi.kit_tup_list, Mi.kit_tup_tuple, Mi.kit_tup_str, Mi.kit_lst_int, Mi.kit_lst_bool, Mi.kit_lst_list, Mi.kit_lst_tuple, Mi.kit_lst_str, Mi.kit_dic_int, Mi.kit_dic_bool, Mi.kit_dic_list, Mi.kit_dic_tuple, Mi.kit_dic_str, in_four, lg2, mRange1, rangeD, List.range, List.range.loop, oBit, bit1, get_at1, set_at1, mPar3, gmSub, putL, L2.ixN, set_at, get_at, set_last, get_last, oDiv, lg2, oInt, oTuple, gmTup, gmCons, gmNil]
    · by_cases h4 : z < 0
      · obtain ⟨q1, q2⟩ := pa_neg h4
        refine ⟨[.lst [.int 0, .int 0, .int 0], .lst [.int 0, .int 0, .int (-z)]], ?_⟩
        rw [q1, q2]
        simp [Mi.fnM, Mi.outF, Mi.mSeq, Mi.thn, Mi.mNext, Mi.mRet, Mi.mRetN, Mi.mDrop, Mi.mIfS, Mi.mTst, Mi.tru, Mi.mAndT, Mi.mOrT, Mi.mNotT, Mi.mAnd, Mi.mOr, Mi.mNot, Mi.mIf, Mi.mBin, Mi.mUn, Mi.mCb, Mi.mVar, Mi.mC, Mi.mCons, Mi.mNil, Mi.bnd_at, Mi.ret_at, Mi.ofO_at, Mi.fail_at, Mi.ite_at, Mi.mAsg, Mi.gmName, Mi.mTup, Mi.mLst, Mi.mLstM, Mi.mCallL, Mi.calm_at, Mi.mCallNL, Mi.oCmp, Mi.oIsN, Mi.oNotN, Mi.isNon, Mi.oAdd, Mi.oSub, Mi.oNeg, Mi.oMod, Mi.mYes, Mi.mPar, Mi.mPar3, Mi.raise, Mi.big, Mi.kdv, Mi.asQ, Mi.asL, Mi.asS, Mi.asI, Mi.trus, Mi.oIx, Mi.at_0, Mi.at3_1, Mi.at3_2, Mi.at2_1, Mi.now, Mi.sameD, Mi.mLc, Mi.mLcs, Mi.mWalk, Mi.loopC, Mi.wipD, Mi.oLen, Mi.oEq, Mi.oNe, Mi.oAll, Mi.oAny, Mi.kit_non_int, Mi.kit_non_bool, Mi.kit_non_list, Mi.kit_non_tuple, Mi.kit_non_str, Mi.kit_bl_int, Mi.kit_bl_bool, Mi.kit_bl_list, Mi.kit_bl_tuple, Mi.kit_bl_str, Mi.kit_int_int, Mi.kit_int_bool, Mi.kit_int_list, Mi.kit_int_tuple, Mi.kit_int_str, Mi.kit_str_int, Mi.kit_str_bool, Mi.kit_str_list, Mi.kit_str_tuple, Mi.kit_str_str, Mi.kit_tup_int, Mi.kit_tup_bool, Mi.kit_tup_list, Mi.kit_tup_tuple, Mi.kit_tup_str, Mi.kit_lst_int, Mi.kit_lst_bool, Mi.kit_lst_list, Mi.kit_lst_tuple, Mi.kit_lst_str, Mi.kit_dic_int, Mi.kit_dic_bool, Mi.kit_dic_list, Mi.kit_dic_tuple, Mi.kit_dic_str, in_four, h2, h3, h4, mRange1, rangeD, List.range, List.range.loop, oBit, bit1, get_at1, set_at1, mPar3, gmSub, putL, L2.ixN, set_at, get_at, set_last, get_last, oDiv, lg2, oInt, oTuple, gmTup, gmCons, gmNil]
      · obtain ⟨q1, q2⟩ := pa_pos h4
        refine ⟨[.lst [.int 0, .int 0, .int (pa z)], .lst [.int 0, .int 0, .int (pb z)]], ?_⟩
        simp [Mi.fnM, Mi.outF, Mi.mSeq, Mi.thn, Mi.mNext, Mi.mRet, Mi.mRetN, Mi.mDrop, Mi.mIfS, Mi.mTst, Mi.tru, Mi.mAndT, Mi.mOrT, Mi.mNotT, Mi.mAnd, Mi.mOr, Mi.mNot, Mi.mIf, Mi.mBin, Mi.mUn, Mi.mCb, Mi.mVar, Mi.mC, Mi.mCons, Mi.mNil, Mi.bnd_at, Mi.ret_at, Mi.ofO_at, Mi.fail_at, Mi.ite_at, Mi.mAsg, Mi.gmName, Mi.mTup, Mi.mLst, Mi.mLstM, Mi.mCallL, Mi.calm_at, Mi.mCallNL, Mi.oCmp, Mi.oIsN, Mi.oNotN, Mi.isNon, Mi.oAdd, Mi.oSub, Mi.oNeg, Mi.oMod, Mi.mYes, Mi.mPar, Mi.mPar3, Mi.raise, Mi.big, Mi.kdv, Mi.asQ, Mi.asL, Mi.asS, Mi.asI, Mi.trus, Mi.oIx, Mi.at_0, Mi.at3_1, Mi.at3_2, Mi.at2_1, Mi.now, Mi.sameD, Mi.mLc, Mi.mLcs, Mi.mWalk, Mi.loopC, Mi.wipD, Mi.oLen, Mi.oEq, Mi.oNe, Mi.oAll, Mi.oAny, Mi.kit_non_int, Mi.kit_non_bool, Mi.kit_non_list, Mi.kit_non_tuple, Mi.kit_non_str, Mi.kit_bl_int, Mi.kit_bl_bool, Mi.kit_bl_list, Mi.kit_bl_tuple, Mi.kit_bl_str, Mi.kit_int_int, Mi.kit_int_bool, Mi.kit_int_list, Mi.kit_int_tuple, Mi.kit_int_str, Mi.kit_str_int, Mi.kit_str_bool, Mi.kit_str_list, Mi.kit_str_tuple, Mi.kit_str_str, Mi.kit_tup_int, Mi.kit_tup_bool, Mi.kit_tup_list, Mi.kit_tup_tuple, Mi.kit_tup_str, Mi.kit_lst_int, Mi.kit_lst_bool, Mi.kit_lst_list, Mi.kit_lst_tuple, Mi.kit_lst_str, Mi.kit_dic_int, Mi.kit_dic_bool, Mi.kit_dic_list, Mi.kit_dic_tuple, Mi.kit_dic_str, in_four, h2, h3, h4, q1, q2, mRange1, rangeD, List.range, List.range.loop, oBit, bit1, get_at1, set_at1, mPar3, gmSub, putL, L2.ixN, set_at, get_at, set_last, get_last, oDiv, lg2, oInt, oTuple, gmTup, gmCons, gmNil]
  · rcases Decidable.em (y = 1) with rfl | h3
    · refine ⟨[], ?_⟩
      simp [Mi.fnM, Mi.outF, Mi.mSeq, Mi.thn, Mi.mNext, Mi.mRet, Mi.mRetN, Mi.mDrop, Mi.mIfS, Mi.mTst, Mi.tru, Mi.mAndT, Mi.mOrT, Mi.mNotT, Mi.mAnd, Mi.mOr, Mi.mNot, Mi.mIf, Mi.mBin, Mi.mUn, Mi.mCb, Mi.mVar, Mi.mC, Mi.mCons, Mi.mNil, Mi.bnd_at, Mi.ret_at, Mi.ofO_at, Mi.fail_at, Mi.ite_at, Mi.mAsg, Mi.gmName, Mi.mTup, Mi.mLst, Mi.mLstM, Mi.mCallL, Mi.calm_at, Mi.mCallNL, Mi.oCmp, Mi.oIsN, Mi.oNotN, Mi.isNon, Mi.oAdd, Mi.oSub, Mi.oNeg, Mi.oMod, Mi.mYes, Mi.mPar, Mi.mPar3, Mi.raise, Mi.big, Mi.kdv, Mi.asQ, Mi.asL, Mi.asS, Mi.asI, Mi.trus, Mi.oIx, Mi.at_0, Mi.at3_1, Mi.at3_2, Mi.at2_1, Mi.now, Mi.sameD, Mi.mLc, Mi.mLcs, Mi.mWalk, Mi.loopC, Mi.wipD, Mi.oLen, Mi.oEq, Mi.oNe, Mi.oAll, Mi.oAny, Mi.kit_non_int, Mi.kit_non_bool, Mi.kit_non_list, Mi.kit_non_tuple, Mi.kit_non_str, Mi.kit_bl_int, Mi.kit_bl_bool, Mi.kit_bl_list, Mi.kit_bl_tuple, Mi.kit_bl_str, Mi.kit_int_int, Mi.kit_int_bool, Mi.kit_int_list, Mi.kit_int_tuple, Mi.kit_int_str, Mi.kit_str_int, Mi.kit_str_bool, Mi.kit_str_list, Mi.kit_str_tuple, Mi.kit_str_str, Mi.kit_tup_int, Mi.kit_tup_bool, Mi.kit_tup_list, Mi.kit_tup_tuple, Mi.kit_tup_str, Mi.kit_lst_int, Mi.kit_lst_bool, Mi.kit_lst_list, Mi.kit_lst_tuple, Mi.kit_lst_str, Mi.kit_dic_int, Mi.kit_dic_bool, Mi.kit_dic_list, Mi.kit_dic_tuple, Mi.kit_dic_str, in_four, lg2, mRange1, rangeD, List.range, List.range.loop, oBit, bit1, get_at1, set_at1, mPar3, gmSub, putL, L2.ixN, set_at, get_at, set_last, get_last, oDiv, lg2, oInt, oTuple, gmTup, gmCons, gmNil]
    · by_cases h4 : y < 0
      · obtain ⟨q1, q2⟩ := pa_neg h4
        refine ⟨[.lst [.int 0, .int 0, .int 0], .lst [.int 0, .int (-y), .int 0]], ?_⟩
        rw [q1, q2]
        simp [Mi.fnM, Mi.outF, Mi.mSeq, Mi.thn, Mi.mNext, Mi.mRet, Mi.mRetN, Mi.mDrop, Mi.mIfS, Mi.mTst, Mi.tru, Mi.mAndT, Mi.mOrT, Mi.mNotT, Mi.mAnd, Mi.mOr, Mi.mNot, Mi.mIf, Mi.mBin, Mi.mUn, Mi.mCb, Mi.mVar, Mi.mC, Mi.mCons, Mi.mNil, Mi.bnd_at, Mi.ret_at, Mi.ofO_at, Mi.fail_at, Mi.ite_at, Mi.mAsg, Mi.gmName, Mi.mTup, Mi.mLst, Mi.mLstM, Mi.mCallL, Mi.calm_at, Mi.mCallNL, Mi.oCmp, Mi.oIsN, Mi.oNotN, Mi.isNon, Mi.oAdd, Mi.oSub, Mi.oNeg, Mi.oMod, Mi.mYes, Mi.mPar, Mi.mPar3, Mi.raise, Mi.big, Mi.kdv, Mi.asQ, Mi.asL, Mi.asS, Mi.asI, Mi.trus, Mi.oIx, Mi.at_0, Mi.at3_1, Mi.at3_2, Mi.at2_1, Mi.now, Mi.sameD, Mi.mLc, Mi.mLcs, Mi.mWalk, Mi.loopC, Mi.wipD, Mi.oLen, Mi.oEq, Mi.oNe, Mi.oAll, Mi.oAny, Mi.kit_non_int, Mi.kit_non_bool, Mi.kit_non_list, Mi.kit_non_tuple, Mi.kit_non_str, Mi.kit_bl_int, Mi.kit_bl_bool, Mi.kit_bl_list, Mi.kit_bl_tuple, Mi.kit_bl_str, Mi.kit_int_int, Mi.kit_int_bool, Mi.kit_int_list, Mi.kit_int_tuple, Mi.kit_int_str, Mi.kit_str_int, Mi.kit_str_bool, Mi.kit_str_list, Mi.kit_str_tuple, Mi.kit_str_str, Mi.kit_tup_int, Mi.kit_tup_bool, Mi.kit_tup_list, Mi.kit_tup_tuple, Mi.kit_tup_str, Mi.kit_lst_int, Mi.kit_lst_bool, Mi.kit_lst_list, Mi.kit_lst_tuple, Mi.kit_lst_str, Mi.kit_dic_int, Mi.kit_dic_bool, Mi.kit_dic_list, Mi.kit_dic_tuple, Mi.kit_dic_str, in_four, h1, h3, h4, mRange1, rangeD, List.range, List.range.loop, oBit, bit1, get_at1, set_at1, mPar3, gmSub, putL, L2.ixN, set_at, get_at, set_last, get_last, oDiv, lg2, oInt, oTuple, gmTup, gmCons, gmNil]
      · obtain ⟨q1, q2⟩ := pa_pos h4
        refine ⟨[.lst [.int 0, .int (pa y), .int 0], .lst [.int 0, .int (pb y), .int 0]], ?_⟩
        simp [Mi.fnM, Mi.outF, Mi.mSeq, Mi.thn, Mi.mNext, Mi.mRet, Mi.mRetN, Mi.mDrop, Mi.mIfS, Mi.mTst, Mi.tru, Mi.mAndT, Mi.mOrT, Mi.mNotT, Mi.mAnd, Mi.mOr, Mi.mNot, Mi.mIf, Mi.mBin, Mi.mUn, Mi.mCb, Mi.mVar, Mi.mC, Mi.mCons, Mi.mNil, Mi.bnd_at, Mi.ret_at, Mi.ofO_at, Mi.fail_at, Mi.ite_at, Mi.mAsg, Mi.gmName, Mi.mTup, Mi.mLst, Mi.mLstM, Mi.mCallL, Mi.calm_at, Mi.mCallNL, Mi.oCmp, Mi.oIsN, Mi.oNotN, Mi.isNon, Mi.oAdd, Mi.oSub, Mi.oNeg, Mi.oMod, Mi.mYes, Mi.mPar, Mi.mPar3, Mi.raise, Mi.big, Mi.kdv, Mi.asQ, Mi.asL, Mi.asS, Mi.asI, Mi.trus, Mi.oIx, Mi.at_0, Mi.at3_1, Mi.at3_2, Mi.at2_1, Mi.now, Mi.sameD, Mi.mLc, Mi.mLcs, Mi.mWalk, Mi.loopC, Mi.wipD, Mi.oLen, Mi.oEq, Mi.oNe, Mi.oAll, Mi.oAny, Mi.kit_non_int, Mi.kit_non_bool, Mi.kit_non_list, Mi.kit_non_tuple, Mi.kit_non_str, Mi.kit_bl_int, Mi.kit_bl_bool, Mi.kit_bl_list, Mi.kit_bl_tuple, Mi.kit_bl_str, Mi.kit_int_int, Mi.kit_int_bool, Mi.kit_int_list, Mi.kit_int_tuple, Mi.kit_int_str, Mi.kit_str_int, Mi.kit_str_bool, Mi.kit_str_list, Mi.kit_str_tuple, Mi.kit_str_str, Mi.kit_tup_int, Mi.kit_tup_bool, Mi.kit_tup_list, Mi.kit_tup_tuple, Mi.kit_tup_str, Mi.kit_lst_int, Mi.kit_lst_bool, Mi.kit_lst_list, Mi.kit_lst_tuple, Mi.kit_lst_str, Mi.kit_dic_int, Mi.kit_dic_bool, Mi.kit_dic_list, Mi.kit_dic_tuple, Mi.kit_dic_str, in_four, h1, h3, h4, q1, q2, mRange1, rangeD, List.range, List.range.loop, oBit, bit1, get_at1, set_at1, mPar3, gmSub, putL, L2.ixN, set_at, get_at, set_last, get_last, oDiv, lg2, oInt, oTuple, gmTup, gmCons, gmNil]
  · by_cases h4 : y % 2 = 0
    · refine ⟨[.lst [.int 0, .int (y / 2), .int 0], .lst [.int 0, .int 0, .int 0]], ?_⟩
      by_cases h5 : z % 2 = 0 <;> simp [Mi.fnM, Mi.outF, Mi.mSeq, Mi.thn, Mi.mNext, Mi.mRet, Mi.mRetN, Mi.mDrop, Mi.mIfS, Mi.mTst, Mi.tru, Mi.mAndT, Mi.mOrT, Mi.mNotT, Mi.mAnd, Mi.mOr, Mi.mNot, Mi.mIf, Mi.mBin, Mi.mUn, Mi.mCb, Mi.mVar, Mi.mC, Mi.mCons, Mi.mNil, Mi.bnd_at, Mi.ret_at, Mi.ofO_at, Mi.fail_at, Mi.ite_at, Mi.mAsg, Mi.gmName, Mi.mTup, Mi.mLst, Mi.mLstM, Mi.mCallL, Mi.calm_at, Mi.mCallNL, Mi.oCmp, Mi.oIsN, Mi.oNotN, Mi.isNon, Mi.oAdd, Mi.oSub, Mi.oNeg, Mi.oMod, Mi.mYes, Mi.mPar, Mi.mPar3, Mi.raise, Mi.big, Mi.kdv, Mi.asQ, Mi.asL, Mi.asS, Mi.asI, Mi.trus, Mi.oIx, Mi.at_0, Mi.at3_1, Mi.at3_2, Mi.at2_1, Mi.now, Mi.sameD, Mi.mLc, Mi.mLcs, Mi.mWalk, Mi.loopC, Mi.wipD, Mi.oLen, Mi.oEq, Mi.oNe, Mi.oAll, Mi.oAny, Mi.kit_non_int, Mi.kit_non_bool, Mi.kit_non_list, Mi.kit_non_tuple, Mi.kit_non_str, Mi.kit_bl_int, Mi.kit_bl_bool, Mi.kit_bl_list, Mi.kit_bl_tuple, Mi.kit_bl_str, Mi.kit_int_int, Mi.kit_int_bool, Mi.kit_int_list, Mi.kit_int_tuple, Mi.kit_int_str, Mi.kit_str_int, Mi.kit_str_bool, Mi.kit_str_list, Mi.kit_str_tuple, Mi.kit_str_str, Mi.kit_tup_int, Mi.kit_tup_bool, Mi.kit_tup_list, Mi.kit_tup_tuple, Mi.kit_tup_str, Mi.kit_lst_int, Mi.kit_lst_bool, Mi.kit_lst_list, Mi.kit_lst_tuple, Mi.kit_lst_str, Mi.kit_dic_int, Mi.kit_dic_bool, Mi.kit_dic_list, Mi.kit_dic_tuple, Mi.kit_dic_str, in_four, h1, h2, h4, h5, mRange1, rangeD, List.range, List.range.loop, oBit, bit1, get_at1, set_at1, mPar3, gmSub, putL, L2.ixN, set_at, get_at, set_last, get_last, oDiv, lg2, oInt, oTuple, gmTup, gmCons, gmNil]
    · have h5 : z % 2 = 0 := by omega
      refine ⟨[.lst [.int 0, .int 0, .int (z / 2)], .lst [.int 0, .int 0, .int 0]], ?_⟩
      simp [Mi.fnM, Mi.outF, Mi.mSeq, Mi.thn, Mi.mNext, Mi.mRet, Mi.mRetN, Mi.mDrop, Mi.mIfS, Mi.mTst, Mi.tru, Mi.mAndT, Mi.mOrT, Mi.mNotT, Mi.mAnd, Mi.mOr, Mi.mNot, Mi.mIf, Mi.mBin, Mi.mUn, Mi.mCb, Mi.mVar, Mi.mC, Mi.mCons, Mi.mNil, Mi.bnd_at, Mi.ret_at, Mi.ofO_at, Mi.fail_at, Mi.ite_at, Mi.mAsg, Mi.gmName, Mi.mTup, Mi.mLst, Mi.mLstM, Mi.mCallL, Mi.calm_at, Mi.mCallNL, Mi.oCmp, Mi.oIsN, Mi.oNotN, Mi.isNon, Mi.oAdd, Mi.oSub, Mi.oNeg, Mi.oMod, Mi.mYes, Mi.mPar, Mi.mPar3, Mi.raise, Mi.big, Mi.kdv, Mi.asQ, Mi.asL, Mi.asS, Mi.asI, Mi.trus, Mi.oIx, Mi.at_0, Mi.at3_1, Mi.at3_2, Mi.at2_1, Mi.now, Mi.sameD, Mi.mLc, Mi.mLcs, Mi.mWalk, Mi.loopC, Mi.wipD, Mi.oLen, Mi.oEq, Mi.oNe, Mi.oAll, Mi.oAny, Mi.kit_non_int, Mi.kit_non_bool, Mi.kit_non_list, Mi.kit_non_tuple, Mi.kit_non_str, Mi.kit_bl_int, Mi.kit_bl_bool, Mi.kit_bl_list, Mi.kit_bl_tuple, Mi.kit_bl_str, Mi.kit_int_int, Mi.kit_int_bool, Mi.kit_int_list, Mi.kit_int_tuple, Mi.kit_int_str, Mi.kit_str_int, Mi.kit_str_bool, Mi.kit_str_list, Mi.kit_str_tuple, Mi.kit_str_str, Mi.kit_tup_int, Mi.kit_tup_bool, Mi.kit_tup_list, Mi.kit_tup_tuple, Mi.kit_tup_str, Mi.kit_lst_int, Mi.kit_lst_bool, Mi.kit_lst_list, Mi.kit_lst_tuple, Mi.kit_lst_str, Mi.kit_dic_int, Mi.kit_dic_bool, Mi.kit_dic_list, Mi.kit_dic_tuple, Mi.kit_dic_str, in_four, h1, h2, h4, h5, mRange1, rangeD, List.range, List.range.loop, oBit, bit1, get_at1, set_at1, mPar3, gmSub, putL, L2.ixN, set_at, get_at, set_last, get_last, oDiv, lg2, oInt, oTuple, gmTup, gmCons, gmNil]
  · rcases Decidable.em (x = 1) with rfl | h3
    · refine ⟨[], ?_⟩
      simp [Mi.fnM, Mi.outF, Mi.mSeq, Mi.thn, Mi.mNext, Mi.mRet, Mi.mRetN, Mi.mDrop, Mi.mIfS, Mi.mTst, Mi.tru, Mi.mAndT, Mi.mOrT, Mi.mNotT, Mi.mAnd, Mi.mOr, Mi.mNot, Mi.mIf, Mi.mBin, Mi.mUn, Mi.mCb, Mi.mVar, Mi.mC, Mi.mCons, Mi.mNil, Mi.bnd_at, Mi.ret_at, Mi.ofO_at, Mi.fail_at, Mi.ite_at, Mi.mAsg, Mi.gmName, Mi.mTup, Mi.mLst, Mi.mLstM, Mi.mCallL, Mi.calm_at, Mi.mCallNL, Mi.oCmp, Mi.oIsN, Mi.oNotN, Mi.isNon, Mi.oAdd, Mi.oSub, Mi.oNeg, Mi.oMod, Mi.mYes, Mi.mPar, Mi.mPar3, Mi.raise, Mi.big, Mi.kdv, Mi.asQ, Mi.asL, Mi.asS, Mi.asI, Mi.trus, Mi.oIx, Mi.at_0, Mi.at3_1, Mi.at3_2, Mi.at2_1, Mi.now, Mi.sameD, Mi.mLc, Mi.mLcs, Mi.mWalk, Mi.loopC, Mi.wipD, Mi.oLen, Mi.oEq, Mi.oNe, Mi.oAll, Mi.oAny, Mi.kit_non_int, Mi.kit_non_bool, Mi.kit_non_list, Mi.kit_non_tuple, Mi.kit_non_str, Mi.kit_bl_int, Mi.kit_bl_bool, Mi.kit_bl_list, Mi.kit_bl_tuple, Mi.kit_bl_str, Mi.kit_int_int, Mi.kit_int_bool, Mi.kit_int_list, Mi.kit_int_tuple, Mi.kit_int_str, Mi.kit_str_int, Mi.kit_str_bool, Mi.kit_str_list, Mi.kit_str_tuple, Mi.kit_str_str, Mi.kit_tup_int, Mi.kit_tup_bool, Mi.kit_tup_list, Mi.kit_tup_tuple, Mi.kit_tup_str, Mi.kit_lst_int, Mi.kit_lst_bool, Mi.kit_lst_list, Mi.kit_lst_tuple, Mi.kit_lst_str, Mi.kit_dic_int, Mi.kit_dic_bool, Mi.kit_dic_list, Mi.kit_dic_tuple, Mi.kit_dic_str, in_four, lg2, mRange1, rangeD, List.range, List.range.loop, oBit, bit1, get_at1, set_at1, mPar3, gmSub, putL, L2.ixN, set_at, get_at, set_last, get_last, oDiv, lg2, oInt, oTuple, gmTup, gmCons, gmNil]
    · by_cases h4 : x < 0
      · obtain ⟨q1, q2⟩ := pa_neg h4
        refine ⟨[.lst [.int 0, .int 0, .int 0], .lst [.int (-x), .int 0, .int 0]], ?_⟩
        rw [q1, q2]
        simp [Mi.fnM, Mi.outF, Mi.mSeq, Mi.thn, Mi.mNext, Mi.mRet, Mi.mRetN, Mi.mDrop, Mi.mIfS, Mi.mTst, Mi.tru, Mi.mAndT, Mi.mOrT, Mi.mNotT, Mi.mAnd, Mi.mOr, Mi.mNot, Mi.mIf, Mi.mBin, Mi.mUn, Mi.mCb, Mi.mVar, Mi.mC, Mi.mCons, Mi.mNil, Mi.bnd_at, Mi.ret_at, Mi.ofO_at, Mi.fail_at, Mi.ite_at, Mi.mAsg, Mi.gmName, Mi.mTup, Mi.mLst, Mi.mLstM, Mi.mCallL, Mi.calm_at, Mi.mCallNL, Mi.oCmp, Mi.oIsN, Mi.oNotN, Mi.isNon, Mi.oAdd, Mi.oSub, Mi.oNeg, Mi.oMod, Mi.mYes, Mi.mPar, Mi.mPar3, Mi.raise, Mi.big, Mi.kdv, Mi.asQ, Mi.asL, Mi.asS, Mi.asI, Mi.trus, Mi.oIx, Mi.at_0, Mi.at3_1, Mi.at3_2, Mi.at2_1, Mi.now, Mi.sameD, Mi.mLc, Mi.mLcs, Mi.mWalk, Mi.loopC, Mi.wipD, Mi.oLen, Mi.oEq, Mi.oNe, Mi.oAll, Mi.oAny, Mi.kit_non_int, Mi.kit_non_bool, Mi.kit_non_list, Mi.kit_non_tuple, Mi.kit_non_str, Mi.kit_bl_int, Mi.kit_bl_bool, Mi.kit_bl_list, Mi.kit_bl_tuple, Mi.kit_bl_str, Mi.kit_int_int, Mi.kit_int_bool, Mi.kit_int_list, Mi.kit_int_tuple, Mi.kit_int_str, Mi.kit_str_int, Mi.kit_str_bool, Mi.kit_str_list, Mi.kit_str_tuple, Mi.kit_str_str, Mi.kit_tup_int, Mi.kit_tup_bool, Mi.kit_tup_list, Mi.kit_tup_tuple, Mi.kit_tup_str, Mi.kit_lst_int, Mi.kit_lst_bool, Mi.kit_lst_list, Mi.kit_lst_tuple, Mi.kit_lst_str, Mi.kit_dic_int, Mi.kit_dic_bool, Mi.kit_dic_list, Mi.kit_dic_tuple, Mi.kit_dic_str, in_four, h0, h3, h4, mRange1, rangeD, List.range, List.range.loop, oBit, bit1, get_at1, set_at1, mPar3, gmSub, putL, L2.ixN, set_at, get_at, set_last, get_last, oDiv, lg2, oInt, oTuple, gmTup, gmCons, gmNil]
      · obtain ⟨q1, q2⟩ := pa_pos h4
        refine ⟨[.lst [.int (pa x), .int 0, .int 0], .lst [.int (pb x), .int 0, .int 0]], ?_⟩
        simp [Mi.fnM, Mi.outF, Mi.mSeq, Mi.thn, Mi.mNext, Mi.mRet, Mi.mRetN, Mi.mDrop, Mi.mIfS, Mi.mTst, Mi.tru, Mi.mAndT, Mi.mOrT, Mi.mNotT, Mi.mAnd, Mi.mOr, Mi.mNot, Mi.mIf, Mi.mBin, Mi.mUn, Mi.mCb, Mi.mVar, Mi.mC, Mi.mCons, Mi.mNil, Mi.bnd_at, Mi.ret_at, Mi.ofO_at, Mi.fail_at, Mi.ite_at, Mi.mAsg, Mi.gmName, Mi.mTup, Mi.mLst, Mi.mLstM, Mi.mCallL, Mi.calm_at, Mi.mCallNL, Mi.oCmp, Mi.oIsN, Mi.oNotN, Mi.isNon, Mi.oAdd, Mi.oSub, Mi.oNeg, Mi.oMod, Mi.mYes, Mi.mPar, Mi.mPar3, Mi.raise, Mi.big, Mi.kdv, Mi.asQ, Mi.asL, Mi.asS, Mi.asI, Mi.trus, Mi.oIx, Mi.at_0, Mi.at3_1, Mi.at3_2, Mi.at2_1, Mi.now, Mi.sameD, Mi.mLc, Mi.mLcs, Mi.mWalk, Mi.loopC, Mi.wipD, Mi.oLen, Mi.oEq, Mi.oNe, Mi.oAll, Mi.oAny, Mi.kit_non_int, Mi.kit_non_bool, Mi.kit_non_list, Mi.kit_non_tuple, Mi.kit_non_str, Mi.kit_bl_int, Mi.kit_bl_bool, Mi.kit_bl_list, Mi.kit_bl_tuple, Mi.kit_bl_str, Mi.kit_int_int, Mi.kit_int_bool, Mi.kit_int_list, Mi.kit_int_tuple, Mi.kit_int_str, Mi.kit_str_int, Mi.kit_str_bool, Mi.kit_str_list, Mi.kit_str_tuple, Mi.kit_str_str, Mi.kit_tup_int, Mi.kit_tup_bool, Mi.kit_tup_list, Mi.kit_tup_tuple, Mi.kit_tup_str, Mi.kit_lst_int, Mi.kit_lst_bool, Mi.kit_lst_list, Mi.kit_lst_tuple, Mi.kit_lst_str, Mi.kit_dic_int, Mi.kit_dic_bool, Mi.kit_dic_list, Mi.kit_dic_tuple, Mi.kit_dic_str, in_four, h0, h3, h4, q1, q2, mRange1, rangeD, List.range, List.range.loop, oBit, bit1, get_at1, set_at1, mPar3, gmSub, putL, L2.ixN, set_at, get_at, set_last, get_last, oDiv, lg2, oInt, oTuple, gmTup, gmCons, gmNil]
  · by_cases h4 : x % 2 = 0
    · refine ⟨[.lst [.int (x / 2), .int 0, .int 0], .lst [.int 0, .int 0, .int 0]], ?_⟩
      by_cases h5 : z % 2 = 0 <;> simp [Mi.fnM, Mi.outF, Mi.mSeq, Mi.thn, Mi.mNext, Mi.mRet, Mi.mRetN, Mi.mDrop, Mi.mIfS, Mi.mTst, Mi.tru, Mi.mAndT, Mi.mOrT, Mi.mNotT, Mi.mAnd, Mi.mOr, Mi.mNot, Mi.mIf, Mi.mBin, Mi.mUn, Mi.mCb, Mi.mVar, Mi.mC, Mi.mCons, Mi.mNil, Mi.bnd_at, Mi.ret_at, Mi.ofO_at, Mi.fail_at, Mi.ite_at, Mi.mAsg, Mi.gmName, Mi.mTup, Mi.mLst, Mi.mLstM, Mi.mCallL, Mi.calm_at, Mi.mCallNL, Mi.oCmp, Mi.oIsN, Mi.oNotN, Mi.isNon, Mi.oAdd, Mi.oSub, Mi.oNeg, Mi.oMod, Mi.mYes, Mi.mPar, Mi.mPar3, Mi.raise, Mi.big, Mi.kdv, Mi.asQ, Mi.asL, Mi.asS, Mi.asI, Mi.trus, Mi.oIx, Mi.at_0, Mi.at3_1, Mi.at3_2, Mi.at2_1, Mi.now, Mi.sameD, Mi.mLc, Mi.mLcs, Mi.mWalk, Mi.loopC, Mi.wipD, Mi.oLen, Mi.oEq, Mi.oNe, Mi.oAll, Mi.oAny, Mi.kit_non_int, Mi.kit_non_bool, Mi.kit_non_list, Mi.kit_non_tuple, Mi.kit_non_str, Mi.kit_bl_int, Mi.kit_bl_bool, Mi.kit_bl_list, Mi.kit_bl_tuple, Mi.kit_bl_str, Mi.kit_int_int, Mi.kit_int_bool, Mi.kit_int_list, Mi.kit_int_tuple, Mi.kit_int_str, Mi.kit_str_int, Mi.kit_str_bool, Mi.kit_str_list, Mi.kit_str_tuple, Mi.kit_str_str, Mi.kit_tup_int, Mi.kit_tup_bool, Mi.kit_tup_list, Mi.kit_tup_tuple, Mi.kit_tup_str, Mi.kit_lst_int, Mi.kit_lst_bool, Mi.kit_lst_list, Mi.kit_lst_tuple, Mi.kit_lst_str, Mi.kit_dic_int, Mi.kit_dic_bool, Mi.kit_dic_list, Mi.kit_dic_tuple, Mi.kit_dic_str, in_four, h0, h2, h4, h5, mRange1, rangeD, List.range, List.range.loop, oBit, bit1, get_at1, set_at1, mPar3, gmSub, putL, L2.ixN, set_at, get_at, set_last, get_last, oDiv, lg2, oInt, oTuple, gmTup, gmCons, gmNil]
    · have h5 : z % 2 = 0 := by omega
      refine ⟨[.lst [.int 0, .int 0, .int (z / 2)], .lst [.int 0, .int 0, .int 0]], ?_⟩
      simp [Mi.fnM, Mi.outF, Mi.mSeq, Mi.thn, Mi.mNext, Mi.mRet, Mi.mRetN, Mi.mDrop, Mi.mIfS, Mi.mTst, Mi.tru, Mi.mAndT, Mi.mOrT, Mi.mNotT, Mi.mAnd, Mi.mOr, Mi.mNot, Mi.mIf, Mi.mBin, Mi.mUn, Mi.mCb, Mi.mVar, Mi.mC, Mi.mCons, Mi.mNil, Mi.bnd_at, Mi.ret_at, Mi.ofO_at, Mi.fail_at, Mi.ite_at, Mi.mAsg, Mi.gmName, Mi.mTup, Mi.mLst, Mi.mLstM, Mi.mCallL, Mi.calm_at, Mi.mCallNL, Mi.oCmp, Mi.oIsN, Mi.oNotN, Mi.isNon, Mi.oAdd, Mi.oSub, Mi.oNeg, Mi.oMod, Mi.mYes, Mi.mPar, Mi.mPar3, Mi.raise, Mi.big, Mi.kdv, Mi.asQ, Mi.asL, Mi.asS, Mi.asI, Mi.trus, Mi.oIx, Mi.at_0, Mi.at3_1, Mi.at3_2, Mi.at2_1, Mi.now, Mi.sameD, Mi.mLc, Mi.mLcs, Mi.mWalk, Mi.loopC, Mi.wipD, Mi.oLen, Mi.oEq, Mi.oNe, Mi.oAll, Mi.oAny, Mi.kit_non_int, Mi.kit_non_bool, Mi.kit_non_list, Mi.kit_non_tuple, Mi.kit_non_str, Mi.kit_bl_int, Mi.kit_bl_bool, Mi.kit_bl_list, Mi.kit_bl_tuple, Mi.kit_bl_str, Mi.kit_int_int, Mi.kit_int_bool, Mi.kit_int_list, Mi.kit_int_tuple, Mi.kit_int_str, Mi.kit_str_int, Mi.kit_str_bool, Mi.kit_str_list, Mi.kit_str_tuple, Mi.kit_str_str, Mi.kit_tup_int, Mi.kit_tup_bool, Mi.kit_tup_list, Mi.kit_tup_tuple, Mi.kit_tup_str, Mi.kit_lst_int, Mi.kit_lst_bool, Mi.kit_lst_list, Mi.kit_lst_tuple, Mi.kit_lst_str, Mi.kit_dic_int, Mi.kit_dic_bool, Mi.kit_dic_list, Mi.kit_dic_tuple, Mi.kit_dic_str, in_four, h0, h2, h4, h5, mRange1, rangeD, List.range, List.range.loop, oBit, bit1, get_at1, set_at1, mPar3, gmSub, putL, L2.ixN, set_at, get_at, set_last, get_last, oDiv, lg2, oInt, oTuple, gmTup, gmCons, gmNil]
  · by_cases h4 : x % 2 = 0
    · refine ⟨[.lst [.int (x / 2), .int 0, .int 0], .lst [.int 0, .int 0, .int 0]], ?_⟩
      by_cases h5 : y % 2 = 0 <;> simp [Mi.fnM, Mi.outF, Mi.mSeq, Mi.thn, Mi.mNext, Mi.mRet, Mi.mRetN, Mi.mDrop, Mi.mIfS, Mi.mTst, Mi.tru, Mi.mAndT, Mi.mOrT, Mi.mNotT, Mi.mAnd, Mi.mOr, Mi.mNot, Mi.mIf, Mi.mBin, Mi.mUn, Mi.mCb, Mi.mVar, Mi.mC, Mi.mCons, Mi.mNil, Mi.bnd_at, Mi.ret_at, Mi.ofO_at, Mi.fail_at, Mi.ite_at, Mi.mAsg, Mi.gmName, Mi.mTup, Mi.mLst, Mi.mLstM, Mi.mCallL, Mi.calm_at, Mi.mCallNL, Mi.oCmp, Mi.oIsN, Mi.oNotN, Mi.isNon, Mi.oAdd, Mi.oSub, Mi.oNeg, Mi.oMod, Mi.mYes, Mi.mPar, Mi.mPar3, Mi.raise, Mi.big, Mi.kdv, Mi.asQ, Mi.asL, Mi.asS, Mi.asI, Mi.trus, Mi.oIx, Mi.at_0, Mi.at3_1, Mi.at3_2, Mi.at2_1, Mi.now, Mi.sameD, Mi.mLc, Mi.mLcs, Mi.mWalk, Mi.loopC, Mi.wipD, Mi.oLen, Mi.oEq, Mi.oNe, Mi.oAll, Mi.oAny, Mi.kit_non_int, Mi.kit_non_bool, Mi.kit_non_list, Mi.kit_non_tuple, Mi.kit_non_str, Mi.kit_bl_int, Mi.kit_bl_bool, Mi.kit_bl_list, Mi.kit_bl_tuple, Mi.kit_bl_str, Mi.kit_int_int, Mi.kit_int_bool, Mi.kit_int_list, Mi.kit_int_tuple, Mi.kit_int_str, Mi.kit_str_int, Mi.kit_str_bool, Mi.kit_str_list, Mi.kit_str_tuple, Mi.kit_str_str, Mi.kit_tup_int, Mi.kit_tup_bool, Mi.kit_tup_list, Mi.kit_tup_tuple, Mi.kit_tup_str, Mi.kit_lst_int, Mi.kit_lst_bool, Mi.kit_lst_list, Mi.kit_lst_tuple, Mi.kit_lst_str, Mi.kit_dic_int, Mi.kit_dic_bool, Mi.kit_dic_list, Mi.kit_dic_tuple, Mi.kit_dic_str, in_four, h0, h1, h4, h5, mRange1, rangeD, List.range, List.range.loop, oBit, bit1, get_at1, set_at1, mPar3, gmSub, putL, L2.ixN, set_at, get_at, set_last, get_last, oDiv, lg2, oInt, oTuple, gmTup, gmCons, gmNil]
    · have h5 : y % 2 = 0 := by omega
      refine ⟨[.lst [.int 0, .int (y / 2), .int 0], .lst [.int 0, .int 0, .int 0]], ?_⟩
      simp [Mi.fnM, Mi.outF, Mi.mSeq, Mi.thn, Mi.mNext, Mi.mRet, Mi.mRetN, Mi.mDrop, Mi.mIfS, Mi.mTst, Mi.tru, Mi.mAndT, Mi.mOrT, Mi.mNotT, Mi.mAnd, Mi.mOr, Mi.mNot, Mi.mIf, Mi.mBin, Mi.mUn, Mi.mCb, Mi.mVar, Mi.mC, Mi.mCons, Mi.mNil, Mi.bnd_at, Mi.ret_at, Mi.ofO_at, Mi.fail_at, Mi.ite_at, Mi.mAsg, Mi.gmName, Mi.mTup, Mi.mLst, Mi.mLstM, Mi.mCallL, Mi.calm_at, Mi.mCallNL, Mi.oCmp, Mi.oIsN, Mi.oNotN, Mi.isNon, Mi.oAdd, Mi.oSub, Mi.oNeg, Mi.oMod, Mi.mYes, Mi.mPar, Mi.mPar3, Mi.raise, Mi.big, Mi.kdv, Mi.asQ, Mi.asL, Mi.asS, Mi.asI, Mi.trus, Mi.oIx, Mi.at_0, Mi.at3_1, Mi.at3_2, Mi.at2_1, Mi.now, Mi.sameD, Mi.mLc, Mi.mLcs, Mi.mWalk, Mi.loopC, Mi.wipD, Mi.oLen, Mi.oEq, Mi.oNe, Mi.oAll, Mi.oAny, Mi.kit_non_int, Mi.kit_non_bool, Mi.kit_non_list, Mi.kit_non_tuple, Mi.kit_non_str, Mi.kit_bl_int, Mi.kit_bl_bool, Mi.kit_bl_list, Mi.kit_bl_tuple, Mi.kit_bl_str, Mi.kit_int_int, Mi.kit_int_bool, Mi.kit_int_list, Mi.kit_int_tuple, Mi.kit_int_str, Mi.kit_str_int, Mi.kit_str_bool, Mi.kit_str_list, Mi.kit_str_tuple, Mi.kit_str_str, Mi.kit_tup_int, Mi.kit_tup_bool, Mi.kit_tup_list, Mi.kit_tup_tuple, Mi.kit_tup_str, Mi.kit_lst_int, Mi.kit_lst_bool, Mi.kit_lst_list, Mi.kit_lst_tuple, Mi.kit_lst_str, Mi.kit_dic_int, Mi.kit_dic_bool, Mi.kit_dic_list, Mi.kit_dic_tuple, Mi.kit_dic_str, in_four, h0, h1, h4, h5, mRange1, rangeD, List.range, List.range.loop, oBit, bit1, get_at1, set_at1, mPar3, gmSub, putL, L2.ixN, set_at, get_at, set_last, get_last, oDiv, lg2, oInt, oTuple, gmTup, gmCons, gmNil]
  · by_cases h4 : x % 2 = 0
    · refine ⟨[.lst [.int (x / 2), .int 0, .int 0], .lst [.int 0, .int 0, .int 0]], ?_⟩
      by_cases h5 : y % 2 = 0 <;> by_cases h6 : z % 2 = 0 <;> simp [Mi.fnM, Mi.outF, Mi.mSeq, Mi.thn, Mi.mNext, Mi.mRet, Mi.mRetN, Mi.mDrop, Mi.mIfS, Mi.mTst, Mi.tru, Mi.mAndT, Mi.mOrT, Mi.mNotT, Mi.mAnd, Mi.mOr, Mi.mNot, Mi.mIf, Mi.mBin, Mi.mUn, Mi.mCb, Mi.mVar, Mi.mC, Mi.mCons, Mi.mNil, Mi.bnd_at, Mi.ret_at, Mi.ofO_at, Mi.fail_at, Mi.ite_at, Mi.mAsg, Mi.gmName, Mi.mTup, Mi.mLst, Mi.mLstM, Mi.mCallL, Mi.calm_at, Mi.mCallNL, Mi.oCmp, Mi.oIsN, Mi.oNotN, Mi.isNon, Mi.oAdd, Mi.oSub, Mi.oNeg, Mi.oMod, Mi.mYes, Mi.mPar, Mi.mPar3, Mi.raise, Mi.big, Mi.kdv, Mi.asQ, Mi.asL, Mi.asS, Mi.asI, Mi.trus, Mi.oIx, Mi.at_0, Mi.at3_1, Mi.at3_2, Mi.at2_1, Mi.now, Mi.sameD, Mi.mLc, Mi.mLcs, Mi.mWalk, Mi.loopC, Mi.wipD, Mi.oLen, Mi.oEq, Mi.oNe, Mi.oAll, Mi.oAny, Mi.kit_non_int, Mi.kit_non_bool, Mi.kit_non_list, Mi.kit_non_tuple, Mi.kit_non_str, Mi.kit_bl_int, Mi.kit_bl_bool, Mi.kit_bl_list, Mi.kit_bl_tuple, Mi.kit_bl_str, Mi.kit_int_int, Mi.kit_int_bool, Mi.kit_int_list, Mi.kit_int_tuple, Mi.kit_int_str, Mi.kit_str_int, Mi.kit_str_bool, Mi.kit_str_list, Mi.kit_str_tuple, Mi.kit_str_str, Mi.kit_tup_int, Mi.kit_tup_bool, Mi.kit_tup_list, Mi.kit_tup_tuple, Mi.kit_tup_str, Mi.kit_lst_int, Mi.kit_lst_bool, Mi.kit_lst_list, Mi.kit_lst_tuple, Mi.kit_lst_str, Mi.kit_dic_int, Mi.kit_dic_bool, Mi.kit_dic_list, Mi.kit_dic_tuple, Mi.kit_dic_str, in_four, h0, h1, h2, h4, h5, h6, mRange1, rangeD, List.range, List.range.loop, oBit, bit1, get_at1, set_at1, mPar3, gmSub, putL, L2.ixN, set_at, get_at, set_last, get_last, oDiv, lg2, oInt, oTuple, gmTup, gmCons, gmNil]
    · have h5 : y % 2 = 0 := by omega
      have h6 : z % 2 = 0 := by omega
      refine ⟨[.lst [.int 0, .int (y / 2), .int 0], .lst [.int 0, .int 0, .int 0]], ?_⟩
      simp [Mi.fnM, Mi.outF, Mi.mSeq, Mi.thn, Mi.mNext, Mi.mRet, Mi.mRetN, Mi.mDrop, Mi.mIfS, Mi.mTst, Mi.tru, Mi.mAndT, Mi.mOrT, Mi.mNotT, Mi.mAnd, Mi.mOr, Mi.mNot, Mi.mIf, Mi.mBin, Mi.mUn, Mi.mCb, Mi.mVar, Mi.mC, Mi.mCons, Mi.mNil, Mi.bnd_at, Mi.ret_at, Mi.ofO_at, Mi.fail_at, Mi.ite_at, Mi.mAsg, Mi.gmName, Mi.mTup, Mi.mLst, Mi.mLstM, Mi.mCallL, Mi.calm_at, Mi.mCallNL, Mi.oCmp, Mi.oIsN, Mi.oNotN, Mi.isNon, Mi.oAdd, Mi.oSub, Mi.oNeg, Mi.oMod, Mi.mYes, Mi.mPar, Mi.mPar3, Mi.raise, Mi.big, Mi.kdv, Mi.asQ, Mi.asL, Mi.asS, Mi.asI, Mi.trus, Mi.oIx, Mi.at_0, Mi.at3_1, Mi.at3_2, Mi.at2_1, Mi.now, Mi.sameD, Mi.mLc, Mi.mLcs, Mi.mWalk, Mi.loopC, Mi.wipD, Mi.oLen, Mi.oEq, Mi.oNe, Mi.oAll, Mi.oAny, Mi.kit_non_int, Mi.kit_non_bool, Mi.kit_non_list, Mi.kit_non_tuple, Mi.kit_non_str, Mi.kit_bl_int, Mi.kit_bl_bool, Mi.kit_bl_list, Mi.kit_bl_tuple, Mi.kit_bl_str, Mi.kit_int_int, Mi.kit_int_bool, Mi.kit_int_list, Mi.kit_int_tuple, Mi.kit_int_str, Mi.kit_str_int, Mi.kit_str_bool, Mi.kit_str_list, Mi.kit_str_tuple, Mi.kit_str_str, Mi.kit_tup_int, Mi.kit_tup_bool, Mi.kit_tup_list, Mi.kit_tup_tuple, Mi.kit_tup_str, Mi.kit_lst_int, Mi.kit_lst_bool, Mi.kit_lst_list, Mi.kit_lst_tuple, Mi.kit_lst_str, Mi.kit_dic_int, Mi.kit_dic_bool, Mi.kit_dic_list, Mi.kit_dic_tuple, Mi.kit_dic_str, in_four, h0, h1, h2, h4, h5, h6, mRange1, rangeD, List.range, List.range.loop, oBit, bit1, get_at1, set_at1, mPar3, gmSub, putL, L2.ixN, set_at, get_at, set_last, get_last, oDiv, lg2, oInt, oTuple, gmTup, gmCons, gmNil]
end Ty

namespace Ty
open PySem PySem.Spec PyProof.Rows L2 Mi
variable {R : Pr}
theorem isw_iff {x y z : Int} : isw x y z = true ↔ (-24 ≤ x ∧ x ≤ 24) ∧ (-24 ≤ y ∧ y ≤ 24) ∧ (-24 ≤ z ∧ z ≤ 24) ∧ ¬ (x % 2 = 1 ∧ y % 2 = 1) ∧ ¬ (x % 2 = 1 ∧ z % 2 = 1) ∧ ¬ (y % 2 = 1 ∧ z % 2 = 1) := by
  constructor
  · intro h
    have o := isw_odd h
    unfold isw lim at h
    simp at h
    omega
  · rintro ⟨h1, h2, h3, h4, h5, h6⟩
    unfold isw lim nod od
    by_cases a : x % 2 = 1 <;> by_cases b : y % 2 = 1 <;> by_cases c : z % 2 = 1 <;> simp_all
theorem mo_cases {x y z : Int} (h : isw x y z = true) :
    (mo x y z = .non ∧ (x = 0 ∧ y = 0 ∧ z = 0 ∨ x = 1 ∧ y = 0 ∧ z = 0 ∨ x = 0 ∧ y = 1 ∧ z = 0 ∨ x = 0 ∧ y = 0 ∧ z = 1)) ∨
    ∃ a b c d e f, mo x y z = .tup [wz a b c, wz d e f] ∧ 2 * a - d = x ∧ 2 * b - e = y ∧ 2 * c - f = z ∧ isw a b c = true ∧ isw d e f = true ∧ d % 2 = x % 2 ∧ e % 2 = y % 2 ∧ f % 2 = z % 2 := by
  rw [isw_iff] at h
  obtain ⟨h1, h2, h3, o1, o2, o3⟩ := h
  have pp : ∀ k : Int, -24 ≤ k → k ≤ 24 → k ≠ 0 → k ≠ 1 → 2 * pa k - pb k = k ∧ (-24 ≤ pa k ∧ pa k ≤ 24) ∧ (-24 ≤ pb k ∧ pb k ≤ 24) ∧ pb k % 2 = k % 2 := fun k k1 k2 k3 k4 => by
    unfold pa pb
    split
    · omega
    · split <;> omega
  unfold mo
  by_cases c1 : x = 0 ∧ y = 0 ∧ z = 0
  · exact .inl ⟨if_pos c1, .inl c1⟩
  rw [if_neg c1]
  by_cases c2 : y = 0 ∧ z = 0
  · rw [if_pos c2]
    by_cases c3 : x = 1
    · exact .inl ⟨if_pos c3, by omega⟩
    · rw [if_neg c3]
      obtain ⟨q1, q2, q3, q4⟩ := pp x (by omega) (by omega) (by omega) c3
      exact .inr ⟨_, _, _, _, _, _, rfl, by omega, by omega, by omega, by rw [isw_iff]; omega, by rw [isw_iff]; omega, by omega, by omega, by omega⟩
  rw [if_neg c2]
  by_cases c4 : x = 0 ∧ z = 0
  · rw [if_pos c4]
    by_cases c3 : y = 1
    · exact .inl ⟨if_pos c3, by omega⟩
    · rw [if_neg c3]
      obtain ⟨q1, q2, q3, q4⟩ := pp y (by omega) (by omega) (by omega) c3
      exact .inr ⟨_, _, _, _, _, _, rfl, by omega, by omega, by omega, by rw [isw_iff]; omega, by rw [isw_iff]; omega, by omega, by omega, by omega⟩
  rw [if_neg c4]
  by_cases c5 : x = 0 ∧ y = 0
  · rw [if_pos c5]
    by_cases c3 : z = 1
    · exact .inl ⟨if_pos c3, by omega⟩
    · rw [if_neg c3]
      obtain ⟨q1, q2, q3, q4⟩ := pp z (by omega) (by omega) (by omega) c3
      exact .inr ⟨_, _, _, _, _, _, rfl, by omega, by omega, by omega, by rw [isw_iff]; omega, by rw [isw_iff]; omega, by omega, by omega, by omega⟩
  rw [if_neg c5]
  by_cases c6 : x ≠ 0 ∧ x % 2 = 0
  · rw [if_pos c6]
    exact .inr ⟨_, _, _, _, _, _, rfl, by omega, by omega, by omega, by rw [isw_iff]; omega, by rw [isw_iff]; omega, by omega, by omega, by omega⟩
  rw [if_neg c6]
  by_cases c7 : y ≠ 0 ∧ y % 2 = 0
  · rw [if_pos c7]
    exact .inr ⟨_, _, _, _, _, _, rfl, by omega, by omega, by omega, by rw [isw_iff]; omega, by rw [isw_iff]; omega, by omega, by omega, by omega⟩
  rw [if_neg c7]
  exact .inr ⟨_, _, _, _, _, _, rfl, by omega, by omega, by omega, by rw [isw_iff]; omega, by rw [isw_iff]; omega, by omega, by omega, by omega⟩
end Ty

namespace Ty
open PySem PySem.Spec PyProof.Rows L2 Mi
variable {R : Pr}
theorem loop_filter {mt : Sl → Ms Bool} {i : Nat} {Γ : Sl} {A : Mem} {p : Int → Bool} (hi : i < Γ.length) (h : ∀ n, mt (Γ.set i (some (.int n))) A = some (.ok (p n), A)) : ∀ l : List Int, loopC (gmName i) mt (mVar i) Γ (l.map .int) A = some (.ok ((l.filter p).map .int), A)
  | [] => rfl
  | n :: l => by
    have ih := loop_filter hi h l
    have g : (Γ.set i (some (Dv.int n)))[i]? = some (some (.int n)) := List.getElem?_set_self hi
    show loopC (gmName i) mt (mVar i) Γ (.int n :: l.map .int) A = _
    unfold loopC
    cases q : p n with
    | true => simp [bnd_at, calm_at, gmName, ret_at, ite_at, h, q, mVar, g, ih]
    | false => simp [bnd_at, calm_at, gmName, ret_at, ite_at, h, q, ih]
theorem same_nil (l : List Int) : sameD (.lst (l.map .int)) (.lst []) = some l.isEmpty := by
  cases l with
  | nil => rfl
  | cons n l =>
    have e1 := isDvs_ints (n :: l)
    have e2 := dpvs_ints (n :: l)
    simp only [List.map_cons] at e1 e2
    simp [sameD, isDv, isDvs, dpv, dpvs, e1, e2, beqD, beqDs, pdv, pdvs, PyData.eqv, PyData.eqvAll]
/-- what _law_bent hands out -/
structure Gd (R : Pr) (v : Dv) (b : Bool) : Prop where
  w : ∀ A, f_is_word R [v] A = some (.ok (.bl b), A)
  s : ∃ r, (∀ A, oReprV A [v] = some (.rep r)) ∧ beqD r r = true
  g : b = true → ∃ x y z, (v = wz x y z ∨ v = .lst [.int x, .int y, .int z]) ∧ isw x y z = true
theorem gd_word {a b c : Int} {v : Dv} (hv : v = wz a b c ∨ v = .lst [.int a, .int b, .int c]) (n : numv (wz a b c) = true) : Gd R v (isw a b c) := by
  refine ⟨fun A => p_is_word a b c v hv A, ⟨v, fun A => ?_, ?_⟩, fun h => ⟨a, b, c, hv, h⟩⟩
  · have : okv v = true := by
      unfold okv
      rcases hv with rfl | rfl <;> simp only [numv, numvs, dpv, dpvs, wtv, wtvs, Bool.and_eq_true] at n ⊢ <;> simp [n]
    rcases hv with rfl | rfl <;> simp [oReprV, oRepr, now, this]
  · rcases hv with rfl | rfl <;> simp [beqD, beqDs]
theorem gd_bad {v : Dv} (h : ∀ A, f_is_word R [v] A = some (.ok (.bl false), A)) (r : Dv) (s : ∀ A, oReprV A [v] = some (.rep r)) (b : beqD r r = true) : Gd R v false := ⟨h, ⟨r, s, b⟩, fun z => by cases z⟩
theorem flag (a b c : Int) : (decide (((([a, b, c].filter od).map Dv.int).length : Int) < 2) && ([a, b, c].filter fun n => !lim n).isEmpty) = isw a b c := by
  unfold isw nod
  cases h1 : od a <;> cases h2 : od b <;> cases h3 : od c <;> cases h4 : lim a <;> cases h5 : lim b <;> cases h6 : lim c <;> simp [h1, h2, h3, h4, h5, h6]
/-- the flag of three numbers, as the law reckons it -/
theorem odd_list (Γ : Sl) (A : Mem) (a b c : Int) (h : 7 < Γ.length) : loopC (gmName 7) (mTst (mBin oEq (mBin oBit (mVar 7) (mC (.int 1))) (mC (.int 1)))) (mVar 7) Γ [.int a, .int b, .int c] A = some (.ok (([a, b, c].filter od).map .int), A) := by
  have q := loop_filter (p := od) (A := A) (mt := mTst (mBin oEq (mBin oBit (mVar 7) (mC (.int 1))) (mC (.int 1)))) h (fun n => by
    have g : (Γ.set 7 (some (Dv.int n)))[7]? = some (some (.int n)) := List.getElem?_set_self h
    simp [Mi.fnM, Mi.outF, Mi.mSeq, Mi.thn, Mi.mNext, Mi.mRet, Mi.mRetN, Mi.mDrop, Mi.mIfS, Mi.mTst, Mi.tru, Mi.mAndT, Mi.mOrT, Mi.mNotT, Mi.mAnd, Mi.mOr, Mi.mNot, Mi.mIf, Mi.mBin, Mi.mUn, Mi.mCb, Mi.mVar, Mi.mC, Mi.mCons, Mi.mNil, Mi.bnd_at, Mi.ret_at, Mi.ofO_at, Mi.fail_at, Mi.ite_at, Mi.mAsg, Mi.gmName, Mi.mTup, Mi.mLst, Mi.mLstM, Mi.mCallL, Mi.calm_at, Mi.mCallNL, Mi.oCmp, Mi.oIsN, Mi.oNotN, Mi.isNon, Mi.oAdd, Mi.oSub, Mi.oNeg, Mi.oMod, Mi.mYes, Mi.mPar, Mi.mPar3, Mi.raise, Mi.big, Mi.kdv, Mi.asQ, Mi.asL, Mi.asS, Mi.asI, Mi.trus, Mi.oIx, Mi.at_0, Mi.at3_1, Mi.at3_2, Mi.at2_1, Mi.now, Mi.sameD, Mi.mLc, Mi.mLcs, Mi.mWalk, Mi.loopC, Mi.wipD, Mi.oLen, Mi.oEq, Mi.oNe, Mi.oAll, Mi.oAny, Mi.kit_non_int, Mi.kit_non_bool, Mi.kit_non_list, Mi.kit_non_tuple, Mi.kit_non_str, Mi.kit_bl_int, Mi.kit_bl_bool, Mi.kit_bl_list, Mi.kit_bl_tuple, Mi.kit_bl_str, Mi.kit_int_int, Mi.kit_int_bool, Mi.kit_int_list, Mi.kit_int_tuple, Mi.kit_int_str, Mi.kit_str_int, Mi.kit_str_bool, Mi.kit_str_list, Mi.kit_str_tuple, Mi.kit_str_str, Mi.kit_tup_int, Mi.kit_tup_bool, Mi.kit_tup_list, Mi.kit_tup_tuple, Mi.kit_tup_str, Mi.kit_lst_int, Mi.kit_lst_bool, Mi.kit_lst_list, Mi.kit_lst_tuple, Mi.kit_lst_str, Mi.kit_dic_int, Mi.kit_dic_bool, Mi.kit_dic_list, Mi.kit_dic_tuple, Mi.kit_dic_str, g, oBit, bit1, od]) [a, b, c]
  exact q
theorem lim_list (Γ : Sl) (A : Mem) (a b c : Int) (h : 7 < Γ.length) : loopC (gmName 7) (mNotT (mTst (mChain (oCmp fun i j => decide (i ≤ j)) (oCmp fun i j => decide (i ≤ j)) (mUn oNeg (mC (.int 24))) (mVar 7) (mC (.int 24))))) (mVar 7) Γ [.int a, .int b, .int c] A = some (.ok (([a, b, c].filter fun n => !lim n).map .int), A) := by
  have q := loop_filter (p := fun n => !lim n) (A := A) (mt := mNotT (mTst (mChain (oCmp fun i j => decide (i ≤ j)) (oCmp fun i j => decide (i ≤ j)) (mUn oNeg (mC (.int 24))) (mVar 7) (mC (.int 24))))) h (fun n => by
    have g : (Γ.set 7 (some (Dv.int n)))[7]? = some (some (.int n)) := List.getElem?_set_self h
    unfold lim
    by_cases h1 : -24 ≤ n <;> by_cases h2 : n ≤ 24 <;> simp [Mi.fnM, Mi.outF, Mi.mSeq, Mi.thn, Mi.mNext, Mi.mRet, Mi.mRetN, Mi.mDrop, Mi.mIfS, Mi.mTst, Mi.tru, Mi.mAndT, Mi.mOrT, Mi.mNotT, Mi.mAnd, Mi.mOr, Mi.mNot, Mi.mIf, Mi.mBin, Mi.mUn, Mi.mCb, Mi.mVar, Mi.mC, Mi.mCons, Mi.mNil, Mi.bnd_at, Mi.ret_at, Mi.ofO_at, Mi.fail_at, Mi.ite_at, Mi.mAsg, Mi.gmName, Mi.mTup, Mi.mLst, Mi.mLstM, Mi.mCallL, Mi.calm_at, Mi.mCallNL, Mi.oCmp, Mi.oIsN, Mi.oNotN, Mi.isNon, Mi.oAdd, Mi.oSub, Mi.oNeg, Mi.oMod, Mi.mYes, Mi.mPar, Mi.mPar3, Mi.raise, Mi.big, Mi.kdv, Mi.asQ, Mi.asL, Mi.asS, Mi.asI, Mi.trus, Mi.oIx, Mi.at_0, Mi.at3_1, Mi.at3_2, Mi.at2_1, Mi.now, Mi.sameD, Mi.mLc, Mi.mLcs, Mi.mWalk, Mi.loopC, Mi.wipD, Mi.oLen, Mi.oEq, Mi.oNe, Mi.oAll, Mi.oAny, Mi.kit_non_int, Mi.kit_non_bool, Mi.kit_non_list, Mi.kit_non_tuple, Mi.kit_non_str, Mi.kit_bl_int, Mi.kit_bl_bool, Mi.kit_bl_list, Mi.kit_bl_tuple, Mi.kit_bl_str, Mi.kit_int_int, Mi.kit_int_bool, Mi.kit_int_list, Mi.kit_int_tuple, Mi.kit_int_str, Mi.kit_str_int, Mi.kit_str_bool, Mi.kit_str_list, Mi.kit_str_tuple, Mi.kit_str_str, Mi.kit_tup_int, Mi.kit_tup_bool, Mi.kit_tup_list, Mi.kit_tup_tuple, Mi.kit_tup_str, Mi.kit_lst_int, Mi.kit_lst_bool, Mi.kit_lst_list, Mi.kit_lst_tuple, Mi.kit_lst_str, Mi.kit_dic_int, Mi.kit_dic_bool, Mi.kit_dic_list, Mi.kit_dic_tuple, Mi.kit_dic_str, g, mChain, h1, h2]) [a, b, c]
  exact q
end Ty

namespace Ty
open PySem PySem.Spec PyProof.Rows L2 Mi
variable {R : Pr}
theorem num3 {a b c : Int} (h1 : -30 ≤ a) (h2 : a ≤ 10 ^ 20) (h3 : -30 ≤ b) (h4 : b ≤ 10 ^ 20) (h5 : -30 ≤ c) (h6 : c ≤ 10 ^ 20) : numv (wz a b c) = true := by
  have s : ∀ x : Int, -30 ≤ x → x ≤ 10 ^ 20 → x.natAbs.log2 < 1920 := fun x q1 q2 => by
    by_cases h : x.natAbs = 0
    · rw [h]; decide
    · rw [Nat.log2_lt h]
      exact Nat.lt_of_lt_of_le (show x.natAbs < 2 ^ 100 by omega) (Nat.pow_le_pow_right (by decide) (by decide))
  simp [numv, numvs, s a h1 h2, s b h3 h4, s c h5 h6]
/-- what is picked of the numbers -/
abbrev menu (w : Int) : List Dv := [.int 25, .int (-25), .int 24, .int (-24), .int 23, .int (-23), .int 1, .int (-1), .int (w + 1), .int (w - 1), .int 26, .int 100000000000000000000]
theorem menu_in {w : Int} (h1 : -24 ≤ w) (h2 : w ≤ 24) {v : Dv} (h : v ∈ menu w) : ∃ n, v = .int n ∧ -30 ≤ n ∧ n ≤ 10 ^ 20 := by
  simp only [menu, List.mem_cons, List.not_mem_nil, or_false] at h
  rcases h with rfl | rfl | rfl | rfl | rfl | rfl | rfl | rfl | rfl | rfl | rfl | rfl <;> exact ⟨_, rfl, by omega, by omega⟩
theorem bent_num (x y z : Int) (h : isw x y z = true) (cs : List Int) (t l : Int) (B : Mem) (ht : 0 ≤ t) (ht2 : t ≤ 90000) (hl : 0 ≤ l) (k1 k2 t1 l1 t2 l2 : Int) (a1 : 0 ≤ k1) (b1 : k1 < 3) (h2 : k2 < 3) (ht3 : 0 ≤ t2) (ht4 : t2 ≤ 95000) (hl2 : 0 ≤ l2)
    (e1 : f_law_scratch R [.loc 0, .int 3] (jr cs t l :: B) = some (.ok (.int k1), jr cs t1 l1 :: B)) (e2 : f_law_scratch R [.loc 0, .int 6] (jr cs t1 l1 :: B) = some (.ok (.int k2), jr cs t2 l2 :: B)) :
    ∃ v b t' l', Gd R v b ∧ t2 ≤ t' ∧ t' ≤ t2 + 1 ∧ 0 ≤ l' ∧ f_law_bent R [.loc 0, wz x y z] (jr cs t l :: B) = some (.ok (.tup [v, .bl b]), jr cs t' l' :: B) := by
  have hi := isw_iff.mp h
  obtain ⟨hx, hy, hz, _⟩ := hi
  have p20 : (10 : Int) ^ 20 = 100000000000000000000 := by decide
  have lg10 : Nat.log2 10 < 1000000 := by decide +kernel
  have k3 : k1 = 0 ∨ k1 = 1 ∨ k1 = 2 := by omega
  unfold f_law_bent m_law_bent
  rcases k3 with rfl | rfl | rfl
  · obtain ⟨v, t', l', m1, m2, m3, m4, e3⟩ := pick (R := R) cs t2 l2 B (menu x) (by simp) (by simp) ht3 (by omega) hl2
    obtain ⟨n, rfl, n1, n2⟩ := menu_in hx.1 hx.2 m1
    have fl := flag n y z
    rw [List.length_map] at fl
    refine ⟨wz n y z, isw n y z, t', l', gd_word (.inl rfl) (num3 (by omega) (by omega) (by omega) (by omega) (by omega) (by omega)), m2, m3, m4, ?_⟩
    by_cases q : (([n, y, z].filter od).length : Int) < 2
    · rw [decide_eq_true q, Bool.true_and] at fl
      simp [Mi.fnM, Mi.outF, Mi.mSeq, Mi.thn, Mi.mNext, Mi.mRet, Mi.mRetN, Mi.mDrop, Mi.mIfS, Mi.mTst, Mi.tru, Mi.mAndT, Mi.mOrT, Mi.mNotT, Mi.mAnd, Mi.mOr, Mi.mNot, Mi.mIf, Mi.mBin, Mi.mUn, Mi.mCb, Mi.mVar, Mi.mC, Mi.mCons, Mi.mNil, Mi.bnd_at, Mi.ret_at, Mi.ofO_at, Mi.fail_at, Mi.ite_at, Mi.mAsg, Mi.gmName, Mi.mTup, Mi.mLst, Mi.mLstM, Mi.mCallL, Mi.calm_at, Mi.mCallNL, Mi.oCmp, Mi.oIsN, Mi.oNotN, Mi.isNon, Mi.oAdd, Mi.oSub, Mi.oNeg, Mi.oMod, Mi.mYes, Mi.mPar, Mi.mPar3, Mi.raise, Mi.big, Mi.kdv, Mi.asQ, Mi.asL, Mi.asS, Mi.asI, Mi.trus, Mi.oIx, Mi.at_0, Mi.at3_1, Mi.at3_2, Mi.at2_1, Mi.now, Mi.same_int, Mi.same_bl, Mi.mLc, Mi.mLcs, Mi.mWalk, Mi.wipD, Mi.oLen, Mi.oEq, Mi.oNe, Mi.oAll, Mi.oAny, Mi.kit_non_int, Mi.kit_non_bool, Mi.kit_non_list, Mi.kit_non_tuple, Mi.kit_non_str, Mi.kit_bl_int, Mi.kit_bl_bool, Mi.kit_bl_list, Mi.kit_bl_tuple, Mi.kit_bl_str, Mi.kit_int_int, Mi.kit_int_bool, Mi.kit_int_list, Mi.kit_int_tuple, Mi.kit_int_str, Mi.kit_str_int, Mi.kit_str_bool, Mi.kit_str_list, Mi.kit_str_tuple, Mi.kit_str_str, Mi.kit_tup_int, Mi.kit_tup_bool, Mi.kit_tup_list, Mi.kit_tup_tuple, Mi.kit_tup_str, Mi.kit_lst_int, Mi.kit_lst_bool, Mi.kit_lst_list, Mi.kit_lst_tuple, Mi.kit_lst_str, Mi.kit_dic_int, Mi.kit_dic_bool, Mi.kit_dic_list, Mi.kit_dic_tuple, Mi.kit_dic_str, e1, e2, h2, e3, oPow, lg10, p20, mSl, mNoP, mPart, intO, oSl, Mi.cutD, HT.sIx, odd_list, lim_list, same_nil, q, fl]
    · rw [decide_eq_false q, Bool.false_and] at fl
      simp [Mi.fnM, Mi.outF, Mi.mSeq, Mi.thn, Mi.mNext, Mi.mRet, Mi.mRetN, Mi.mDrop, Mi.mIfS, Mi.mTst, Mi.tru, Mi.mAndT, Mi.mOrT, Mi.mNotT, Mi.mAnd, Mi.mOr, Mi.mNot, Mi.mIf, Mi.mBin, Mi.mUn, Mi.mCb, Mi.mVar, Mi.mC, Mi.mCons, Mi.mNil, Mi.bnd_at, Mi.ret_at, Mi.ofO_at, Mi.fail_at, Mi.ite_at, Mi.mAsg, Mi.gmName, Mi.mTup, Mi.mLst, Mi.mLstM, Mi.mCallL, Mi.calm_at, Mi.mCallNL, Mi.oCmp, Mi.oIsN, Mi.oNotN, Mi.isNon, Mi.oAdd, Mi.oSub, Mi.oNeg, Mi.oMod, Mi.mYes, Mi.mPar, Mi.mPar3, Mi.raise, Mi.big, Mi.kdv, Mi.asQ, Mi.asL, Mi.asS, Mi.asI, Mi.trus, Mi.oIx, Mi.at_0, Mi.at3_1, Mi.at3_2, Mi.at2_1, Mi.now, Mi.same_int, Mi.same_bl, Mi.mLc, Mi.mLcs, Mi.mWalk, Mi.wipD, Mi.oLen, Mi.oEq, Mi.oNe, Mi.oAll, Mi.oAny, Mi.kit_non_int, Mi.kit_non_bool, Mi.kit_non_list, Mi.kit_non_tuple, Mi.kit_non_str, Mi.kit_bl_int, Mi.kit_bl_bool, Mi.kit_bl_list, Mi.kit_bl_tuple, Mi.kit_bl_str, Mi.kit_int_int, Mi.kit_int_bool, Mi.kit_int_list, Mi.kit_int_tuple, Mi.kit_int_str, Mi.kit_str_int, Mi.kit_str_bool, Mi.kit_str_list, Mi.kit_str_tuple, Mi.kit_str_str, Mi.kit_tup_int, Mi.kit_tup_bool, Mi.kit_tup_list, Mi.kit_tup_tuple, Mi.kit_tup_str, Mi.kit_lst_int, Mi.kit_lst_bool, Mi.kit_lst_list, Mi.kit_lst_tuple, Mi.kit_lst_str, Mi.kit_dic_int, Mi.kit_dic_bool, Mi.kit_dic_list, Mi.kit_dic_tuple, Mi.kit_dic_str, e1, e2, h2, e3, oPow, lg10, p20, mSl, mNoP, mPart, intO, oSl, Mi.cutD, HT.sIx, odd_list, lim_list, same_nil, q, ← fl]
  · obtain ⟨v, t', l', m1, m2, m3, m4, e3⟩ := pick (R := R) cs t2 l2 B (menu y) (by simp) (by simp) ht3 (by omega) hl2
    obtain ⟨n, rfl, n1, n2⟩ := menu_in hy.1 hy.2 m1
    have fl := flag x n z
    rw [List.length_map] at fl
    refine ⟨wz x n z, isw x n z, t', l', gd_word (.inl rfl) (num3 (by omega) (by omega) (by omega) (by omega) (by omega) (by omega)), m2, m3, m4, ?_⟩
    by_cases q : (([x, n, z].filter od).length : Int) < 2
    · rw [decide_eq_true q, Bool.true_and] at fl
      simp [Mi.fnM, Mi.outF, Mi.mSeq, Mi.thn, Mi.mNext, Mi.mRet, Mi.mRetN, Mi.mDrop, Mi.mIfS, Mi.mTst, Mi.tru, Mi.mAndT, Mi.mOrT, Mi.mNotT, Mi.mAnd, Mi.mOr, Mi.mNot, Mi.mIf, Mi.mBin, Mi.mUn, Mi.mCb, Mi.mVar, Mi.mC, Mi.mCons, Mi.mNil, Mi.bnd_at, Mi.ret_at, Mi.ofO_at, Mi.fail_at, Mi.ite_at, Mi.mAsg, Mi.gmName, Mi.mTup, Mi.mLst, Mi.mLstM, Mi.mCallL, Mi.calm_at, Mi.mCallNL, Mi.oCmp, Mi.oIsN, Mi.oNotN, Mi.isNon, Mi.oAdd, Mi.oSub, Mi.oNeg, Mi.oMod, Mi.mYes, Mi.mPar, Mi.mPar3, Mi.raise, Mi.big, Mi.kdv, Mi.asQ, Mi.asL, Mi.asS, Mi.asI, Mi.trus, Mi.oIx, Mi.at_0, Mi.at3_1, Mi.at3_2, Mi.at2_1, Mi.now, Mi.same_int, Mi.same_bl, Mi.mLc, Mi.mLcs, Mi.mWalk, Mi.wipD, Mi.oLen, Mi.oEq, Mi.oNe, Mi.oAll, Mi.oAny, Mi.kit_non_int, Mi.kit_non_bool, Mi.kit_non_list, Mi.kit_non_tuple, Mi.kit_non_str, Mi.kit_bl_int, Mi.kit_bl_bool, Mi.kit_bl_list, Mi.kit_bl_tuple, Mi.kit_bl_str, Mi.kit_int_int, Mi.kit_int_bool, Mi.kit_int_list, Mi.kit_int_tuple, Mi.kit_int_str, Mi.kit_str_int, Mi.kit_str_bool, Mi.kit_str_list, Mi.kit_str_tuple, Mi.kit_str_str, Mi.kit_tup_int, Mi.kit_tup_bool, Mi.kit_tup_list, Mi.kit_tup_tuple, Mi.kit_tup_str, Mi.kit_lst_int, Mi.kit_lst_bool, Mi.kit_lst_list, Mi.kit_lst_tuple, Mi.kit_lst_str, Mi.kit_dic_int, Mi.kit_dic_bool, Mi.kit_dic_list, Mi.kit_dic_tuple, Mi.kit_dic_str, e1, e2, h2, e3, oPow, lg10, p20, mSl, mNoP, mPart, intO, oSl, Mi.cutD, HT.sIx, odd_list, lim_list, same_nil, q, fl]
    · rw [decide_eq_false q, Bool.false_and] at fl
      simp [Mi.fnM, Mi.outF, Mi.mSeq, Mi.thn, Mi.mNext, Mi.mRet, Mi.mRetN, Mi.mDrop, Mi.mIfS, Mi.mTst, Mi.tru, Mi.mAndT, Mi.mOrT, Mi.mNotT, Mi.mAnd, Mi.mOr, Mi.mNot, Mi.mIf, Mi.mBin, Mi.mUn, Mi.mCb, Mi.mVar, Mi.mC, Mi.mCons, Mi.mNil, Mi.bnd_at, Mi.ret_at, Mi.ofO_at, Mi.fail_at, Mi.ite_at, Mi.mAsg, Mi.gmName, Mi.mTup, Mi.mLst, Mi.mLstM, Mi.mCallL, Mi.calm_at, Mi.mCallNL, Mi.oCmp, Mi.oIsN, Mi.oNotN, Mi.isNon, Mi.oAdd, Mi.oSub, Mi.oNeg, Mi.oMod, Mi.mYes, Mi.mPar, Mi.mPar3, Mi.raise, Mi.big, Mi.kdv, Mi.asQ, Mi.asL, Mi.asS, Mi.asI, Mi.trus, Mi.oIx, Mi.at_0, Mi.at3_1, Mi.at3_2, Mi.at2_1, Mi.now, Mi.same_int, Mi.same_bl, Mi.mLc, Mi.mLcs, Mi.mWalk, Mi.wipD, Mi.oLen, Mi.oEq, Mi.oNe, Mi.oAll, Mi.oAny, Mi.kit_non_int, Mi.kit_non_bool, Mi.kit_non_list, Mi.kit_non_tuple, Mi.kit_non_str, Mi.kit_bl_int, Mi.kit_bl_bool, Mi.kit_bl_list, Mi.kit_bl_tuple, Mi.kit_bl_str, Mi.kit_int_int, Mi.kit_int_bool, Mi.kit_int_list, Mi.kit_int_tuple, Mi.kit_int_str, Mi.kit_str_int, Mi.kit_str_bool, Mi.kit_str_list, Mi.kit_str_tuple, Mi.kit_str_str, Mi.kit_tup_int, Mi.kit_tup_bool, Mi.kit_tup_list, Mi.kit_tup_tuple, Mi.kit_tup_str, Mi.kit_lst_int, Mi.kit_lst_bool, Mi.kit_lst_list, Mi.kit_lst_tuple, Mi.kit_lst_str, Mi.kit_dic_int, Mi.kit_dic_bool, Mi.kit_dic_list, Mi.kit_dic_tuple, Mi.kit_dic_str, e1, e2, h2, e3, oPow, lg10, p20, mSl, mNoP, mPart, intO, oSl, Mi.cutD, HT.sIx, odd_list, lim_list, same_nil, q, ← fl]
  · obtain ⟨v, t', l', m1, m2, m3, m4, e3⟩ := pick (R := R) cs t2 l2 B (menu z) (by simp) (by simp) ht3 (by omega) hl2
    obtain ⟨n, rfl, n1, n2⟩ := menu_in hz.1 hz.2 m1
    have fl := flag x y n
    rw [List.length_map] at fl
    refine ⟨wz x y n, isw x y n, t', l', gd_word (.inl rfl) (num3 (by omega) (by omega) (by omega) (by omega) (by omega) (by omega)), m2, m3, m4, ?_⟩
    by_cases q : (([x, y, n].filter od).length : Int) < 2
    · rw [decide_eq_true q, Bool.true_and] at fl
      simp [Mi.fnM, Mi.outF, Mi.mSeq, Mi.thn, Mi.mNext, Mi.mRet, Mi.mRetN, Mi.mDrop, Mi.mIfS, Mi.mTst, Mi.tru, Mi.mAndT, Mi.mOrT, Mi.mNotT, Mi.mAnd, Mi.mOr, Mi.mNot, Mi.mIf, Mi.mBin, Mi.mUn, Mi.mCb, Mi.mVar, Mi.mC, Mi.mCons, Mi.mNil, Mi.bnd_at, Mi.ret_at, Mi.ofO_at, Mi.fail_at, Mi.ite_at, Mi.mAsg, Mi.gmName, Mi.mTup, Mi.mLst, Mi.mLstM, Mi.mCallL, Mi.calm_at, Mi.mCallNL, Mi.oCmp, Mi.oIsN, Mi.oNotN, Mi.isNon, Mi.oAdd, Mi.oSub, Mi.oNeg, Mi.oMod, Mi.mYes, Mi.mPar, Mi.mPar3, Mi.raise, Mi.big, Mi.kdv, Mi.asQ, Mi.asL, Mi.asS, Mi.asI, Mi.trus, Mi.oIx, Mi.at_0, Mi.at3_1, Mi.at3_2, Mi.at2_1, Mi.now, Mi.same_int, Mi.same_bl, Mi.mLc, Mi.mLcs, Mi.mWalk, Mi.wipD, Mi.oLen, Mi.oEq, Mi.oNe, Mi.oAll, Mi.oAny, Mi.kit_non_int, Mi.kit_non_bool, Mi.kit_non_list, Mi.kit_non_tuple, Mi.kit_non_str, Mi.kit_bl_int, Mi.kit_bl_bool, Mi.kit_bl_list, Mi.kit_bl_tuple, Mi.kit_bl_str, Mi.kit_int_int, Mi.kit_int_bool, Mi.kit_int_list, Mi.kit_int_tuple, Mi.kit_int_str, Mi.kit_str_int, Mi.kit_str_bool, Mi.kit_str_list, Mi.kit_str_tuple, Mi.kit_str_str, Mi.kit_tup_int, Mi.kit_tup_bool, Mi.kit_tup_list, Mi.kit_tup_tuple, Mi.kit_tup_str, Mi.kit_lst_int, Mi.kit_lst_bool, Mi.kit_lst_list, Mi.kit_lst_tuple, Mi.kit_lst_str, Mi.kit_dic_int, Mi.kit_dic_bool, Mi.kit_dic_list, Mi.kit_dic_tuple, Mi.kit_dic_str, e1, e2, h2, e3, oPow, lg10, p20, mSl, mNoP, mPart, intO, oSl, Mi.cutD, HT.sIx, odd_list, lim_list, same_nil, q, fl]
    · rw [decide_eq_false q, Bool.false_and] at fl
      simp [Mi.fnM, Mi.outF, Mi.mSeq, Mi.thn, Mi.mNext, Mi.mRet, Mi.mRetN, Mi.mDrop, Mi.mIfS, Mi.mTst, Mi.tru, Mi.mAndT, Mi.mOrT, Mi.mNotT, Mi.mAnd, Mi.mOr, Mi.mNot, Mi.mIf, Mi.mBin, Mi.mUn, Mi.mCb, Mi.mVar, Mi.mC, Mi.mCons, Mi.mNil, Mi.bnd_at, Mi.ret_at, Mi.ofO_at, Mi.fail_at, Mi.ite_at, Mi.mAsg, Mi.gmName, Mi.mTup, Mi.mLst, Mi.mLstM, Mi.mCallL, Mi.calm_at, Mi.mCallNL, Mi.oCmp, Mi.oIsN, Mi.oNotN, Mi.isNon, Mi.oAdd, Mi.oSub, Mi.oNeg, Mi.oMod, Mi.mYes, Mi.mPar, Mi.mPar3, Mi.raise, Mi.big, Mi.kdv, Mi.asQ, Mi.asL, Mi.asS, Mi.asI, Mi.trus, Mi.oIx, Mi.at_0, Mi.at3_1, Mi.at3_2, Mi.at2_1, Mi.now, Mi.same_int, Mi.same_bl, Mi.mLc, Mi.mLcs, Mi.mWalk, Mi.wipD, Mi.oLen, Mi.oEq, Mi.oNe, Mi.oAll, Mi.oAny, Mi.kit_non_int, Mi.kit_non_bool, Mi.kit_non_list, Mi.kit_non_tuple, Mi.kit_non_str, Mi.kit_bl_int, Mi.kit_bl_bool, Mi.kit_bl_list, Mi.kit_bl_tuple, Mi.kit_bl_str, Mi.kit_int_int, Mi.kit_int_bool, Mi.kit_int_list, Mi.kit_int_tuple, Mi.kit_int_str, Mi.kit_str_int, Mi.kit_str_bool, Mi.kit_str_list, Mi.kit_str_tuple, Mi.kit_str_str, Mi.kit_tup_int, Mi.kit_tup_bool, Mi.kit_tup_list, Mi.kit_tup_tuple, Mi.kit_tup_str, Mi.kit_lst_int, Mi.kit_lst_bool, Mi.kit_lst_list, Mi.kit_lst_tuple, Mi.kit_lst_str, Mi.kit_dic_int, Mi.kit_dic_bool, Mi.kit_dic_list, Mi.kit_dic_tuple, Mi.kit_dic_str, e1, e2, h2, e3, oPow, lg10, p20, mSl, mNoP, mPart, intO, oSl, Mi.cutD, HT.sIx, odd_list, lim_list, same_nil, q, ← fl]
end Ty

namespace Ty
open PySem PySem.Spec PyProof.Rows L2 Mi
variable {R : Pr}
def kik : List (Int × Int) := [(0, 1), (1, 2), (2, 3)]
abbrev odds (x y z : Int) (p q r s : Dv) : List Dv := [.non, .int 5, .str "000", .tup [.int x, .int y], .tup [.int x, .int y, .int z, .int 0], .dik [(0, 1), (1, 2), (2, 3)], .bl true, p, q, r, s, .lst [.lst [.int x, .int y, .int z]], .tup []]
theorem w_len {l : List Dv} (hl : l.length ≠ 3) (A : Mem) : f_is_word R [.tup l] A = some (.ok (.bl false), A) := by
  have h : ¬ ((l.length : Int) = 3) := by omega
  unfold f_is_word m_is_word
  simp [Mi.fnM, Mi.outF, Mi.mSeq, Mi.thn, Mi.mNext, Mi.mRet, Mi.mRetN, Mi.mDrop, Mi.mIfS, Mi.mTst, Mi.tru, Mi.mAndT, Mi.mOrT, Mi.mNotT, Mi.mAnd, Mi.mOr, Mi.mNot, Mi.mIf, Mi.mBin, Mi.mUn, Mi.mCb, Mi.mVar, Mi.mC, Mi.mCons, Mi.mNil, Mi.bnd_at, Mi.ret_at, Mi.ofO_at, Mi.fail_at, Mi.ite_at, Mi.mAsg, Mi.gmName, Mi.mTup, Mi.mLst, Mi.mLstM, Mi.mCallL, Mi.calm_at, Mi.mCallNL, Mi.oCmp, Mi.oIsN, Mi.oNotN, Mi.isNon, Mi.oAdd, Mi.oSub, Mi.oNeg, Mi.oMod, Mi.mYes, Mi.mPar, Mi.mPar3, Mi.raise, Mi.big, Mi.kdv, Mi.asQ, Mi.asL, Mi.asS, Mi.asI, Mi.trus, Mi.oIx, Mi.at_0, Mi.at3_1, Mi.at3_2, Mi.at2_1, Mi.now, Mi.same_int, Mi.same_bl, Mi.mLc, Mi.mLcs, Mi.mWalk, Mi.wipD, Mi.oLen, Mi.oEq, Mi.oNe, Mi.oAll, Mi.oAny, Mi.kit_non_int, Mi.kit_non_bool, Mi.kit_non_list, Mi.kit_non_tuple, Mi.kit_non_str, Mi.kit_bl_int, Mi.kit_bl_bool, Mi.kit_bl_list, Mi.kit_bl_tuple, Mi.kit_bl_str, Mi.kit_int_int, Mi.kit_int_bool, Mi.kit_int_list, Mi.kit_int_tuple, Mi.kit_int_str, Mi.kit_str_int, Mi.kit_str_bool, Mi.kit_str_list, Mi.kit_str_tuple, Mi.kit_str_str, Mi.kit_tup_int, Mi.kit_tup_bool, Mi.kit_tup_list, Mi.kit_tup_tuple, Mi.kit_tup_str, Mi.kit_lst_int, Mi.kit_lst_bool, Mi.kit_lst_list, Mi.kit_lst_tuple, Mi.kit_lst_str, Mi.kit_dic_int, Mi.kit_dic_bool, Mi.kit_dic_list, Mi.kit_dic_tuple, Mi.kit_dic_str, p_is_list_tup, h]
theorem w_len' {l : List Dv} (hl : l.length ≠ 3) (A : Mem) : f_is_word R [.lst l] A = some (.ok (.bl false), A) := by
  have h : ¬ ((l.length : Int) = 3) := by omega
  unfold f_is_word m_is_word
  simp [Mi.fnM, Mi.outF, Mi.mSeq, Mi.thn, Mi.mNext, Mi.mRet, Mi.mRetN, Mi.mDrop, Mi.mIfS, Mi.mTst, Mi.tru, Mi.mAndT, Mi.mOrT, Mi.mNotT, Mi.mAnd, Mi.mOr, Mi.mNot, Mi.mIf, Mi.mBin, Mi.mUn, Mi.mCb, Mi.mVar, Mi.mC, Mi.mCons, Mi.mNil, Mi.bnd_at, Mi.ret_at, Mi.ofO_at, Mi.fail_at, Mi.ite_at, Mi.mAsg, Mi.gmName, Mi.mTup, Mi.mLst, Mi.mLstM, Mi.mCallL, Mi.calm_at, Mi.mCallNL, Mi.oCmp, Mi.oIsN, Mi.oNotN, Mi.isNon, Mi.oAdd, Mi.oSub, Mi.oNeg, Mi.oMod, Mi.mYes, Mi.mPar, Mi.mPar3, Mi.raise, Mi.big, Mi.kdv, Mi.asQ, Mi.asL, Mi.asS, Mi.asI, Mi.trus, Mi.oIx, Mi.at_0, Mi.at3_1, Mi.at3_2, Mi.at2_1, Mi.now, Mi.same_int, Mi.same_bl, Mi.mLc, Mi.mLcs, Mi.mWalk, Mi.wipD, Mi.oLen, Mi.oEq, Mi.oNe, Mi.oAll, Mi.oAny, Mi.kit_non_int, Mi.kit_non_bool, Mi.kit_non_list, Mi.kit_non_tuple, Mi.kit_non_str, Mi.kit_bl_int, Mi.kit_bl_bool, Mi.kit_bl_list, Mi.kit_bl_tuple, Mi.kit_bl_str, Mi.kit_int_int, Mi.kit_int_bool, Mi.kit_int_list, Mi.kit_int_tuple, Mi.kit_int_str, Mi.kit_str_int, Mi.kit_str_bool, Mi.kit_str_list, Mi.kit_str_tuple, Mi.kit_str_str, Mi.kit_tup_int, Mi.kit_tup_bool, Mi.kit_tup_list, Mi.kit_tup_tuple, Mi.kit_tup_str, Mi.kit_lst_int, Mi.kit_lst_bool, Mi.kit_lst_list, Mi.kit_lst_tuple, Mi.kit_lst_str, Mi.kit_dic_int, Mi.kit_dic_bool, Mi.kit_dic_list, Mi.kit_dic_tuple, Mi.kit_dic_str, p_is_list_lst, h]
theorem w_no (d : Dv) (h : ∀ A, f_is_list R [d] A = some (.ok (.bl false), A)) (A : Mem) : f_is_word R [d] A = some (.ok (.bl false), A) := by
  unfold f_is_word m_is_word
  simp [Mi.fnM, Mi.outF, Mi.mSeq, Mi.thn, Mi.mNext, Mi.mRet, Mi.mRetN, Mi.mDrop, Mi.mIfS, Mi.mTst, Mi.tru, Mi.mAndT, Mi.mOrT, Mi.mNotT, Mi.mAnd, Mi.mOr, Mi.mNot, Mi.mIf, Mi.mBin, Mi.mUn, Mi.mCb, Mi.mVar, Mi.mC, Mi.mCons, Mi.mNil, Mi.bnd_at, Mi.ret_at, Mi.ofO_at, Mi.fail_at, Mi.ite_at, Mi.mAsg, Mi.gmName, Mi.mTup, Mi.mLst, Mi.mLstM, Mi.mCallL, Mi.calm_at, Mi.mCallNL, Mi.oCmp, Mi.oIsN, Mi.oNotN, Mi.isNon, Mi.oAdd, Mi.oSub, Mi.oNeg, Mi.oMod, Mi.mYes, Mi.mPar, Mi.mPar3, Mi.raise, Mi.big, Mi.kdv, Mi.asQ, Mi.asL, Mi.asS, Mi.asI, Mi.trus, Mi.oIx, Mi.at_0, Mi.at3_1, Mi.at3_2, Mi.at2_1, Mi.now, Mi.same_int, Mi.same_bl, Mi.mLc, Mi.mLcs, Mi.mWalk, Mi.wipD, Mi.oLen, Mi.oEq, Mi.oNe, Mi.oAll, Mi.oAny, Mi.kit_non_int, Mi.kit_non_bool, Mi.kit_non_list, Mi.kit_non_tuple, Mi.kit_non_str, Mi.kit_bl_int, Mi.kit_bl_bool, Mi.kit_bl_list, Mi.kit_bl_tuple, Mi.kit_bl_str, Mi.kit_int_int, Mi.kit_int_bool, Mi.kit_int_list, Mi.kit_int_tuple, Mi.kit_int_str, Mi.kit_str_int, Mi.kit_str_bool, Mi.kit_str_list, Mi.kit_str_tuple, Mi.kit_str_str, Mi.kit_tup_int, Mi.kit_tup_bool, Mi.kit_tup_list, Mi.kit_tup_tuple, Mi.kit_tup_str, Mi.kit_lst_int, Mi.kit_lst_bool, Mi.kit_lst_list, Mi.kit_lst_tuple, Mi.kit_lst_str, Mi.kit_dic_int, Mi.kit_dic_bool, Mi.kit_dic_list, Mi.kit_dic_tuple, Mi.kit_dic_str, h]
theorem within_no (d : Dv) (h : ∀ A, f_is_integer R [d] A = some (.ok (.bl false), A)) (A : Mem) : f_is_within R [d, .int (-24), .int 24] A = some (.ok (.bl false), A) := by
  unfold f_is_within m_is_within
  simp [Mi.fnM, Mi.outF, Mi.mSeq, Mi.thn, Mi.mNext, Mi.mRet, Mi.mRetN, Mi.mDrop, Mi.mIfS, Mi.mTst, Mi.tru, Mi.mAndT, Mi.mOrT, Mi.mNotT, Mi.mAnd, Mi.mOr, Mi.mNot, Mi.mIf, Mi.mBin, Mi.mUn, Mi.mCb, Mi.mVar, Mi.mC, Mi.mCons, Mi.mNil, Mi.bnd_at, Mi.ret_at, Mi.ofO_at, Mi.fail_at, Mi.ite_at, Mi.mAsg, Mi.gmName, Mi.mTup, Mi.mLst, Mi.mLstM, Mi.mCallL, Mi.calm_at, Mi.mCallNL, Mi.oCmp, Mi.oIsN, Mi.oNotN, Mi.isNon, Mi.oAdd, Mi.oSub, Mi.oNeg, Mi.oMod, Mi.mYes, Mi.mPar, Mi.mPar3, Mi.raise, Mi.big, Mi.kdv, Mi.asQ, Mi.asL, Mi.asS, Mi.asI, Mi.trus, Mi.oIx, Mi.at_0, Mi.at3_1, Mi.at3_2, Mi.at2_1, Mi.now, Mi.same_int, Mi.same_bl, Mi.mLc, Mi.mLcs, Mi.mWalk, Mi.wipD, Mi.oLen, Mi.oEq, Mi.oNe, Mi.oAll, Mi.oAny, Mi.kit_non_int, Mi.kit_non_bool, Mi.kit_non_list, Mi.kit_non_tuple, Mi.kit_non_str, Mi.kit_bl_int, Mi.kit_bl_bool, Mi.kit_bl_list, Mi.kit_bl_tuple, Mi.kit_bl_str, Mi.kit_int_int, Mi.kit_int_bool, Mi.kit_int_list, Mi.kit_int_tuple, Mi.kit_int_str, Mi.kit_str_int, Mi.kit_str_bool, Mi.kit_str_list, Mi.kit_str_tuple, Mi.kit_str_str, Mi.kit_tup_int, Mi.kit_tup_bool, Mi.kit_tup_list, Mi.kit_tup_tuple, Mi.kit_tup_str, Mi.kit_lst_int, Mi.kit_lst_bool, Mi.kit_lst_list, Mi.kit_lst_tuple, Mi.kit_lst_str, Mi.kit_dic_int, Mi.kit_dic_bool, Mi.kit_dic_list, Mi.kit_dic_tuple, Mi.kit_dic_str, h]
/-- one of the three is no whole number -/
theorem w_one (a b c : Dv) (ba bb bc : Bool) (ha : ∀ A, f_is_within R [a, .int (-24), .int 24] A = some (.ok (.bl ba), A)) (hb : ∀ A, f_is_within R [b, .int (-24), .int 24] A = some (.ok (.bl bb), A)) (hc : ∀ A, f_is_within R [c, .int (-24), .int 24] A = some (.ok (.bl bc), A)) (n : (ba && bb && bc) = false) (A : Mem) : f_is_word R [.tup [a, b, c]] A = some (.ok (.bl false), A) := by
  unfold f_is_word m_is_word
  cases ba <;> cases bb <;> cases bc <;> first | (exact absurd n (by decide)) | simp [Mi.fnM, Mi.outF, Mi.mSeq, Mi.thn, Mi.mNext, Mi.mRet, Mi.mRetN, Mi.mDrop, Mi.mIfS, Mi.mTst, Mi.tru, Mi.mAndT, Mi.mOrT, Mi.mNotT, Mi.mAnd, Mi.mOr, Mi.mNot, Mi.mIf, Mi.mBin, Mi.mUn, Mi.mCb, Mi.mVar, Mi.mC, Mi.mCons, Mi.mNil, Mi.bnd_at, Mi.ret_at, Mi.ofO_at, Mi.fail_at, Mi.ite_at, Mi.mAsg, Mi.gmName, Mi.mTup, Mi.mLst, Mi.mLstM, Mi.mCallL, Mi.calm_at, Mi.mCallNL, Mi.oCmp, Mi.oIsN, Mi.oNotN, Mi.isNon, Mi.oAdd, Mi.oSub, Mi.oNeg, Mi.oMod, Mi.mYes, Mi.mPar, Mi.mPar3, Mi.raise, Mi.big, Mi.kdv, Mi.asQ, Mi.asL, Mi.asS, Mi.asI, Mi.trus, Mi.oIx, Mi.at_0, Mi.at3_1, Mi.at3_2, Mi.at2_1, Mi.now, Mi.same_int, Mi.same_bl, Mi.mLc, Mi.mLcs, Mi.mWalk, Mi.wipD, Mi.oLen, Mi.oEq, Mi.oNe, Mi.oAll, Mi.oAny, Mi.kit_non_int, Mi.kit_non_bool, Mi.kit_non_list, Mi.kit_non_tuple, Mi.kit_non_str, Mi.kit_bl_int, Mi.kit_bl_bool, Mi.kit_bl_list, Mi.kit_bl_tuple, Mi.kit_bl_str, Mi.kit_int_int, Mi.kit_int_bool, Mi.kit_int_list, Mi.kit_int_tuple, Mi.kit_int_str, Mi.kit_str_int, Mi.kit_str_bool, Mi.kit_str_list, Mi.kit_str_tuple, Mi.kit_str_str, Mi.kit_tup_int, Mi.kit_tup_bool, Mi.kit_tup_list, Mi.kit_tup_tuple, Mi.kit_tup_str, Mi.kit_lst_int, Mi.kit_lst_bool, Mi.kit_lst_list, Mi.kit_lst_tuple, Mi.kit_lst_str, Mi.kit_dic_int, Mi.kit_dic_bool, Mi.kit_dic_list, Mi.kit_dic_tuple, Mi.kit_dic_str, p_is_list_tup, loopC, ha, hb, hc]
theorem l_no (d : Dv) (k : Kd) (hk : ∀ A, kdv A d = some k) (h1 : k ≠ .lst) (h2 : k ≠ .tup) (A : Mem) : f_is_list R [d] A = some (.ok (.bl false), A) := by
  unfold f_is_list m_is_list
  cases k <;> first | (exact absurd rfl h1) | (exact absurd rfl h2) | (cases d <;> first | (have := hk []; simp [kdv] at this; done) | simp [Mi.fnM, Mi.outF, Mi.mSeq, Mi.thn, Mi.mNext, Mi.mRet, Mi.mRetN, Mi.mDrop, Mi.mIfS, Mi.mTst, Mi.tru, Mi.mAndT, Mi.mOrT, Mi.mNotT, Mi.mAnd, Mi.mOr, Mi.mNot, Mi.mIf, Mi.mBin, Mi.mUn, Mi.mCb, Mi.mVar, Mi.mC, Mi.mCons, Mi.mNil, Mi.bnd_at, Mi.ret_at, Mi.ofO_at, Mi.fail_at, Mi.ite_at, Mi.mAsg, Mi.gmName, Mi.mTup, Mi.mLst, Mi.mLstM, Mi.mCallL, Mi.calm_at, Mi.mCallNL, Mi.oCmp, Mi.oIsN, Mi.oNotN, Mi.isNon, Mi.oAdd, Mi.oSub, Mi.oNeg, Mi.oMod, Mi.mYes, Mi.mPar, Mi.mPar3, Mi.raise, Mi.big, Mi.kdv, Mi.asQ, Mi.asL, Mi.asS, Mi.asI, Mi.trus, Mi.oIx, Mi.at_0, Mi.at3_1, Mi.at3_2, Mi.at2_1, Mi.now, Mi.same_int, Mi.same_bl, Mi.mLc, Mi.mLcs, Mi.mWalk, Mi.wipD, Mi.oLen, Mi.oEq, Mi.oNe, Mi.oAll, Mi.oAny, Mi.kit_non_int, Mi.kit_non_bool, Mi.kit_non_list, Mi.kit_non_tuple, Mi.kit_non_str, Mi.kit_bl_int, Mi.kit_bl_bool, Mi.kit_bl_list, Mi.kit_bl_tuple, Mi.kit_bl_str, Mi.kit_int_int, Mi.kit_int_bool, Mi.kit_int_list, Mi.kit_int_tuple, Mi.kit_int_str, Mi.kit_str_int, Mi.kit_str_bool, Mi.kit_str_list, Mi.kit_str_tuple, Mi.kit_str_str, Mi.kit_tup_int, Mi.kit_tup_bool, Mi.kit_tup_list, Mi.kit_tup_tuple, Mi.kit_tup_str, Mi.kit_lst_int, Mi.kit_lst_bool, Mi.kit_lst_list, Mi.kit_lst_tuple, Mi.kit_lst_str, Mi.kit_dic_int, Mi.kit_dic_bool, Mi.kit_dic_list, Mi.kit_dic_tuple, Mi.kit_dic_str, oIsi])
end Ty

namespace Ty
open PySem PySem.Spec PyProof.Rows L2 Mi
variable {R : Pr}
theorem num_small' {x : Int} (h1 : -30 ≤ x) (h2 : x ≤ 30) : x.natAbs.log2 < 1920 := by
  by_cases h : x.natAbs = 0
  · rw [h]; decide
  · rw [Nat.log2_lt h]
    exact Nat.lt_of_lt_of_le (show x.natAbs < 2 ^ 5 by omega) (Nat.pow_le_pow_right (by decide) (by decide))
theorem str2 : wtv (.str "2") = 3 := by decide +kernel
theorem str000 : wtv (.str "000") = 5 := by decide +kernel
theorem i_no_non (A : Mem) : f_is_integer R [.non] A = some (.ok (.bl false), A) := by unfold f_is_integer m_is_integer; simp [Mi.fnM, Mi.outF, Mi.mSeq, Mi.thn, Mi.mNext, Mi.mRet, Mi.mRetN, Mi.mDrop, Mi.mIfS, Mi.mTst, Mi.tru, Mi.mAndT, Mi.mOrT, Mi.mNotT, Mi.mAnd, Mi.mOr, Mi.mNot, Mi.mIf, Mi.mBin, Mi.mUn, Mi.mCb, Mi.mVar, Mi.mC, Mi.mCons, Mi.mNil, Mi.bnd_at, Mi.ret_at, Mi.ofO_at, Mi.fail_at, Mi.ite_at, Mi.mAsg, Mi.gmName, Mi.mTup, Mi.mLst, Mi.mLstM, Mi.mCallL, Mi.calm_at, Mi.mCallNL, Mi.oCmp, Mi.oIsN, Mi.oNotN, Mi.isNon, Mi.oAdd, Mi.oSub, Mi.oNeg, Mi.oMod, Mi.mYes, Mi.mPar, Mi.mPar3, Mi.raise, Mi.big, Mi.kdv, Mi.asQ, Mi.asL, Mi.asS, Mi.asI, Mi.trus, Mi.oIx, Mi.at_0, Mi.at3_1, Mi.at3_2, Mi.at2_1, Mi.now, Mi.sameD, Mi.mLc, Mi.mLcs, Mi.mWalk, Mi.loopC, Mi.wipD, Mi.oLen, Mi.oEq, Mi.oNe, Mi.oAll, Mi.oAny, Mi.kit_non_int, Mi.kit_non_bool, Mi.kit_non_list, Mi.kit_non_tuple, Mi.kit_non_str, Mi.kit_bl_int, Mi.kit_bl_bool, Mi.kit_bl_list, Mi.kit_bl_tuple, Mi.kit_bl_str, Mi.kit_int_int, Mi.kit_int_bool, Mi.kit_int_list, Mi.kit_int_tuple, Mi.kit_int_str, Mi.kit_str_int, Mi.kit_str_bool, Mi.kit_str_list, Mi.kit_str_tuple, Mi.kit_str_str, Mi.kit_tup_int, Mi.kit_tup_bool, Mi.kit_tup_list, Mi.kit_tup_tuple, Mi.kit_tup_str, Mi.kit_lst_int, Mi.kit_lst_bool, Mi.kit_lst_list, Mi.kit_lst_tuple, Mi.kit_lst_str, Mi.kit_dic_int, Mi.kit_dic_bool, Mi.kit_dic_list, Mi.kit_dic_tuple, Mi.kit_dic_str, oIsi]
theorem i_no_bl (b : Bool) (A : Mem) : f_is_integer R [.bl b] A = some (.ok (.bl false), A) := by unfold f_is_integer m_is_integer; simp [Mi.fnM, Mi.outF, Mi.mSeq, Mi.thn, Mi.mNext, Mi.mRet, Mi.mRetN, Mi.mDrop, Mi.mIfS, Mi.mTst, Mi.tru, Mi.mAndT, Mi.mOrT, Mi.mNotT, Mi.mAnd, Mi.mOr, Mi.mNot, Mi.mIf, Mi.mBin, Mi.mUn, Mi.mCb, Mi.mVar, Mi.mC, Mi.mCons, Mi.mNil, Mi.bnd_at, Mi.ret_at, Mi.ofO_at, Mi.fail_at, Mi.ite_at, Mi.mAsg, Mi.gmName, Mi.mTup, Mi.mLst, Mi.mLstM, Mi.mCallL, Mi.calm_at, Mi.mCallNL, Mi.oCmp, Mi.oIsN, Mi.oNotN, Mi.isNon, Mi.oAdd, Mi.oSub, Mi.oNeg, Mi.oMod, Mi.mYes, Mi.mPar, Mi.mPar3, Mi.raise, Mi.big, Mi.kdv, Mi.asQ, Mi.asL, Mi.asS, Mi.asI, Mi.trus, Mi.oIx, Mi.at_0, Mi.at3_1, Mi.at3_2, Mi.at2_1, Mi.now, Mi.sameD, Mi.mLc, Mi.mLcs, Mi.mWalk, Mi.loopC, Mi.wipD, Mi.oLen, Mi.oEq, Mi.oNe, Mi.oAll, Mi.oAny, Mi.kit_non_int, Mi.kit_non_bool, Mi.kit_non_list, Mi.kit_non_tuple, Mi.kit_non_str, Mi.kit_bl_int, Mi.kit_bl_bool, Mi.kit_bl_list, Mi.kit_bl_tuple, Mi.kit_bl_str, Mi.kit_int_int, Mi.kit_int_bool, Mi.kit_int_list, Mi.kit_int_tuple, Mi.kit_int_str, Mi.kit_str_int, Mi.kit_str_bool, Mi.kit_str_list, Mi.kit_str_tuple, Mi.kit_str_str, Mi.kit_tup_int, Mi.kit_tup_bool, Mi.kit_tup_list, Mi.kit_tup_tuple, Mi.kit_tup_str, Mi.kit_lst_int, Mi.kit_lst_bool, Mi.kit_lst_list, Mi.kit_lst_tuple, Mi.kit_lst_str, Mi.kit_dic_int, Mi.kit_dic_bool, Mi.kit_dic_list, Mi.kit_dic_tuple, Mi.kit_dic_str, oIsi]
theorem i_no_str (s : Str) (A : Mem) : f_is_integer R [.str s] A = some (.ok (.bl false), A) := by unfold f_is_integer m_is_integer; simp [Mi.fnM, Mi.outF, Mi.mSeq, Mi.thn, Mi.mNext, Mi.mRet, Mi.mRetN, Mi.mDrop, Mi.mIfS, Mi.mTst, Mi.tru, Mi.mAndT, Mi.mOrT, Mi.mNotT, Mi.mAnd, Mi.mOr, Mi.mNot, Mi.mIf, Mi.mBin, Mi.mUn, Mi.mCb, Mi.mVar, Mi.mC, Mi.mCons, Mi.mNil, Mi.bnd_at, Mi.ret_at, Mi.ofO_at, Mi.fail_at, Mi.ite_at, Mi.mAsg, Mi.gmName, Mi.mTup, Mi.mLst, Mi.mLstM, Mi.mCallL, Mi.calm_at, Mi.mCallNL, Mi.oCmp, Mi.oIsN, Mi.oNotN, Mi.isNon, Mi.oAdd, Mi.oSub, Mi.oNeg, Mi.oMod, Mi.mYes, Mi.mPar, Mi.mPar3, Mi.raise, Mi.big, Mi.kdv, Mi.asQ, Mi.asL, Mi.asS, Mi.asI, Mi.trus, Mi.oIx, Mi.at_0, Mi.at3_1, Mi.at3_2, Mi.at2_1, Mi.now, Mi.sameD, Mi.mLc, Mi.mLcs, Mi.mWalk, Mi.loopC, Mi.wipD, Mi.oLen, Mi.oEq, Mi.oNe, Mi.oAll, Mi.oAny, Mi.kit_non_int, Mi.kit_non_bool, Mi.kit_non_list, Mi.kit_non_tuple, Mi.kit_non_str, Mi.kit_bl_int, Mi.kit_bl_bool, Mi.kit_bl_list, Mi.kit_bl_tuple, Mi.kit_bl_str, Mi.kit_int_int, Mi.kit_int_bool, Mi.kit_int_list, Mi.kit_int_tuple, Mi.kit_int_str, Mi.kit_str_int, Mi.kit_str_bool, Mi.kit_str_list, Mi.kit_str_tuple, Mi.kit_str_str, Mi.kit_tup_int, Mi.kit_tup_bool, Mi.kit_tup_list, Mi.kit_tup_tuple, Mi.kit_tup_str, Mi.kit_lst_int, Mi.kit_lst_bool, Mi.kit_lst_list, Mi.kit_lst_tuple, Mi.kit_lst_str, Mi.kit_dic_int, Mi.kit_dic_bool, Mi.kit_dic_list, Mi.kit_dic_tuple, Mi.kit_dic_str, oIsi]
theorem i_no_tup (l : List Dv) (A : Mem) : f_is_integer R [.tup l] A = some (.ok (.bl false), A) := by unfold f_is_integer m_is_integer; simp [Mi.fnM, Mi.outF, Mi.mSeq, Mi.thn, Mi.mNext, Mi.mRet, Mi.mRetN, Mi.mDrop, Mi.mIfS, Mi.mTst, Mi.tru, Mi.mAndT, Mi.mOrT, Mi.mNotT, Mi.mAnd, Mi.mOr, Mi.mNot, Mi.mIf, Mi.mBin, Mi.mUn, Mi.mCb, Mi.mVar, Mi.mC, Mi.mCons, Mi.mNil, Mi.bnd_at, Mi.ret_at, Mi.ofO_at, Mi.fail_at, Mi.ite_at, Mi.mAsg, Mi.gmName, Mi.mTup, Mi.mLst, Mi.mLstM, Mi.mCallL, Mi.calm_at, Mi.mCallNL, Mi.oCmp, Mi.oIsN, Mi.oNotN, Mi.isNon, Mi.oAdd, Mi.oSub, Mi.oNeg, Mi.oMod, Mi.mYes, Mi.mPar, Mi.mPar3, Mi.raise, Mi.big, Mi.kdv, Mi.asQ, Mi.asL, Mi.asS, Mi.asI, Mi.trus, Mi.oIx, Mi.at_0, Mi.at3_1, Mi.at3_2, Mi.at2_1, Mi.now, Mi.sameD, Mi.mLc, Mi.mLcs, Mi.mWalk, Mi.loopC, Mi.wipD, Mi.oLen, Mi.oEq, Mi.oNe, Mi.oAll, Mi.oAny, Mi.kit_non_int, Mi.kit_non_bool, Mi.kit_non_list, Mi.kit_non_tuple, Mi.kit_non_str, Mi.kit_bl_int, Mi.kit_bl_bool, Mi.kit_bl_list, Mi.kit_bl_tuple, Mi.kit_bl_str, Mi.kit_int_int, Mi.kit_int_bool, Mi.kit_int_list, Mi.kit_int_tuple, Mi.kit_int_str, Mi.kit_str_int, Mi.kit_str_bool, Mi.kit_str_list, Mi.kit_str_tuple, Mi.kit_str_str, Mi.kit_tup_int, Mi.kit_tup_bool, Mi.kit_tup_list, Mi.kit_tup_tuple, Mi.kit_tup_str, Mi.kit_lst_int, Mi.kit_lst_bool, Mi.kit_lst_list, Mi.kit_lst_tuple, Mi.kit_lst_str, Mi.kit_dic_int, Mi.kit_dic_bool, Mi.kit_dic_list, Mi.kit_dic_tuple, Mi.kit_dic_str, oIsi]
theorem lim_in {x : Int} (h1 : -24 ≤ x) (h2 : x ≤ 24) (A : Mem) : f_is_within R [.int x, .int (-24), .int 24] A = some (.ok (.bl true), A) := by
  rw [p_is_within]
  unfold lim
  simp [h1, h2]
theorem dik_ok : smallik [(0, 1), (1, 2), (2, 3)] = true := by decide +kernel
theorem shows {v : Dv} (h : okv v = true) (h1 : ∀ n, v ≠ .loc n) (h2 : ∀ l, v ≠ .dik l) (A : Mem) : oReprV A [v] = some (.rep v) := by
  cases v <;> first | exact absurd rfl (h1 _) | exact absurd rfl (h2 _) | simp [oReprV, oRepr, now, h]
/-- a value with another one in a word's place -/
theorem gd_spot (a b c : Dv) (ba bb bc : Bool) (ha : ∀ A, f_is_within R [a, .int (-24), .int 24] A = some (.ok (.bl ba), A)) (hb : ∀ A, f_is_within R [b, .int (-24), .int 24] A = some (.ok (.bl bb), A)) (hc : ∀ A, f_is_within R [c, .int (-24), .int 24] A = some (.ok (.bl bc), A)) (n : (ba && bb && bc) = false)
    (ok : okv (.tup [a, b, c]) = true) (e : beqD (.tup [a, b, c]) (.tup [a, b, c]) = true) : Gd R (.tup [a, b, c]) false :=
  gd_bad (w_one a b c ba bb bc ha hb hc n) _ (shows ok (fun _ => nofun) fun _ => nofun) e
theorem odd_gd (x y z : Int) (h : isw x y z = true) (v : Dv) (k : Nat) (hk : k < 3) (hv : v ∈ odds x y z (.tup ([Dv.int x, .int y, .int z].set k .non)) (.tup ([Dv.int x, .int y, .int z].set k (.bl true))) (.tup ([Dv.int x, .int y, .int z].set k (.str "2"))) (.tup ([Dv.int x, .int y, .int z].set k (.tup [.int 1, .int 2])))) : Gd R v false := by
  obtain ⟨⟨x1, x2⟩, ⟨y1, y2⟩, ⟨z1, z2⟩, _⟩ := isw_iff.mp h
  have nx := num_small' (x := x) (by omega) (by omega)
  have ny := num_small' (x := y) (by omega) (by omega)
  have nz := num_small' (x := z) (by omega) (by omega)
  have lx := fun A => lim_in (R := R) x1 x2 A
  have ly := fun A => lim_in (R := R) y1 y2 A
  have lz := fun A => lim_in (R := R) z1 z2 A
  have n1 : Nat.log2 1 < 1920 := by decide +kernel
  have n2 : Nat.log2 2 < 1920 := by decide +kernel
  have n0 : Nat.log2 0 < 1920 := by decide +kernel
  simp only [odds, List.mem_cons, List.not_mem_nil, or_false] at hv
  have hk3 : k = 0 ∨ k = 1 ∨ k = 2 := by omega
  rcases hv with rfl | rfl | rfl | rfl | rfl | rfl | rfl | rfl | rfl | rfl | rfl | rfl | rfl
  · exact gd_bad (w_no _ (l_no _ .non (fun _ => rfl) nofun nofun)) .non (fun _ => rfl) rfl
  · exact gd_bad (w_no _ (l_no _ .int (fun _ => rfl) nofun nofun)) (.int 5) (shows (by decide +kernel) (fun _ => nofun) fun _ => nofun) rfl
  · exact gd_bad (w_no _ (l_no _ .str (fun _ => rfl) nofun nofun)) (.str "000") (shows (by decide +kernel) (fun _ => nofun) fun _ => nofun) (by decide +kernel)
  · exact gd_bad (w_len (by simp)) _ (shows (by simp [okv, numv, numvs, nx, ny, dpv, dpvs, wtv, wtvs]) (fun _ => nofun) fun _ => nofun) (by simp [beqD, beqDs])
  · exact gd_bad (w_len (by simp)) _ (shows (by simp [okv, numv, numvs, nx, ny, nz, n0, dpv, dpvs, wtv, wtvs]) (fun _ => nofun) fun _ => nofun) (by simp [beqD, beqDs])
  · exact gd_bad (w_no _ (l_no _ .dic (fun _ => rfl) nofun nofun)) (.dik [(0, 1), (1, 2), (2, 3)]) (fun A => by simp [oReprV, dik_ok]) (by decide +kernel)
  · exact gd_bad (w_no _ (l_no _ .bl (fun _ => rfl) nofun nofun)) (.bl true) (fun _ => rfl) rfl
  · have w := fun A => within_no (R := R) .non (fun A => i_no_non A) A
    rcases hk3 with rfl | rfl | rfl
    · exact gd_spot _ _ _ false true true w ly lz rfl (by simp [okv, numv, numvs, nx, ny, nz, dpv, dpvs, wtv, wtvs]) (by simp [beqD, beqDs])
    · exact gd_spot _ _ _ true false true lx w lz rfl (by simp [okv, numv, numvs, nx, ny, nz, dpv, dpvs, wtv, wtvs]) (by simp [beqD, beqDs])
    · exact gd_spot _ _ _ true true false lx ly w rfl (by simp [okv, numv, numvs, nx, ny, nz, dpv, dpvs, wtv, wtvs]) (by simp [beqD, beqDs])
  · have w := fun A => within_no (R := R) (.bl true) (fun A => i_no_bl _ A) A
    rcases hk3 with rfl | rfl | rfl
    · exact gd_spot _ _ _ false true true w ly lz rfl (by simp [okv, numv, numvs, nx, ny, nz, dpv, dpvs, wtv, wtvs]) (by simp [beqD, beqDs])
    · exact gd_spot _ _ _ true false true lx w lz rfl (by simp [okv, numv, numvs, nx, ny, nz, dpv, dpvs, wtv, wtvs]) (by simp [beqD, beqDs])
    · exact gd_spot _ _ _ true true false lx ly w rfl (by simp [okv, numv, numvs, nx, ny, nz, dpv, dpvs, wtv, wtvs]) (by simp [beqD, beqDs])
  · have w := fun A => within_no (R := R) (.str "2") (fun A => i_no_str _ A) A
    rcases hk3 with rfl | rfl | rfl
    · exact gd_spot _ _ _ false true true w ly lz rfl (by simp [okv, numv, numvs, nx, ny, nz, dpv, dpvs, wtvs, wtv.eq_def (.tup _), wtv.eq_def (.int _), str2]) (by simp [beqD, beqDs])
    · exact gd_spot _ _ _ true false true lx w lz rfl (by simp [okv, numv, numvs, nx, ny, nz, dpv, dpvs, wtvs, wtv.eq_def (.tup _), wtv.eq_def (.int _), str2]) (by simp [beqD, beqDs])
    · exact gd_spot _ _ _ true true false lx ly w rfl (by simp [okv, numv, numvs, nx, ny, nz, dpv, dpvs, wtvs, wtv.eq_def (.tup _), wtv.eq_def (.int _), str2]) (by simp [beqD, beqDs])
  · have w := fun A => within_no (R := R) (.tup [.int 1, .int 2]) (fun A => i_no_tup _ A) A
    rcases hk3 with rfl | rfl | rfl
    · exact gd_spot _ _ _ false true true w ly lz rfl (by simp [okv, numv, numvs, nx, ny, nz, n1, n2, dpv, dpvs, wtv, wtvs]) (by simp [beqD, beqDs])
    · exact gd_spot _ _ _ true false true lx w lz rfl (by simp [okv, numv, numvs, nx, ny, nz, n1, n2, dpv, dpvs, wtv, wtvs]) (by simp [beqD, beqDs])
    · exact gd_spot _ _ _ true true false lx ly w rfl (by simp [okv, numv, numvs, nx, ny, nz, n1, n2, dpv, dpvs, wtv, wtvs]) (by simp [beqD, beqDs])
  · exact gd_bad (w_len' (by simp)) _ (shows (by simp [okv, numv, numvs, nx, ny, nz, dpv, dpvs, wtv, wtvs]) (fun _ => nofun) fun _ => nofun) (by simp [beqD, beqDs])
  · exact gd_bad (w_len (by decide)) (.tup []) (fun _ => by simp [oReprV, oRepr, now, okv, numv, numvs, dpv, dpvs, wtv, wtvs]) rfl
theorem bent_odd (x y z : Int) (h : isw x y z = true) (cs : List Int) (t l : Int) (B : Mem) (k1 k2 t1 l1 t2 l2 : Int) (a1 : 0 ≤ k1) (b1 : k1 < 3) (h2 : ¬ k2 < 3) (ht3 : 0 ≤ t2) (ht4 : t2 ≤ 95000) (hl2 : 0 ≤ l2)
    (e1 : f_law_scratch R [.loc 0, .int 3] (jr cs t l :: B) = some (.ok (.int k1), jr cs t1 l1 :: B)) (e2 : f_law_scratch R [.loc 0, .int 6] (jr cs t1 l1 :: B) = some (.ok (.int k2), jr cs t2 l2 :: B)) :
    ∃ v b t' l', Gd R v b ∧ t2 ≤ t' ∧ t' ≤ t2 + 1 ∧ 0 ≤ l' ∧ f_law_bent R [.loc 0, wz x y z] (jr cs t l :: B) = some (.ok (.tup [v, .bl b]), jr cs t' l' :: B) := by
  obtain ⟨⟨x1, x2⟩, ⟨y1, y2⟩, ⟨z1, z2⟩, _⟩ := isw_iff.mp h
  have k3 : k1 = 0 ∨ k1 = 1 ∨ k1 = 2 := by omega
  unfold f_law_bent m_law_bent
  by_cases h3 : k2 = 3
  · have g := gd_word (R := R) (a := x) (b := y) (c := z) (v := .lst [.int x, .int y, .int z]) (.inr rfl) (num3 (by omega) (by omega) (by omega) (by omega) (by omega) (by omega))
    rw [h] at g
    refine ⟨_, _, t2, l2, g, by omega, by omega, hl2, ?_⟩
    rcases k3 with rfl | rfl | rfl
    · simp [Mi.fnM, Mi.outF, Mi.mSeq, Mi.thn, Mi.mNext, Mi.mRet, Mi.mRetN, Mi.mDrop, Mi.mIfS, Mi.mTst, Mi.tru, Mi.mAndT, Mi.mOrT, Mi.mNotT, Mi.mAnd, Mi.mOr, Mi.mNot, Mi.mIf, Mi.mBin, Mi.mUn, Mi.mCb, Mi.mVar, Mi.mC, Mi.mCons, Mi.mNil, Mi.bnd_at, Mi.ret_at, Mi.ofO_at, Mi.fail_at, Mi.ite_at, Mi.mAsg, Mi.gmName, Mi.mTup, Mi.mLst, Mi.mLstM, Mi.mCallL, Mi.calm_at, Mi.mCallNL, Mi.oCmp, Mi.oIsN, Mi.oNotN, Mi.isNon, Mi.oAdd, Mi.oSub, Mi.oNeg, Mi.oMod, Mi.mYes, Mi.mPar, Mi.mPar3, Mi.raise, Mi.big, Mi.kdv, Mi.asQ, Mi.asL, Mi.asS, Mi.asI, Mi.trus, Mi.oIx, Mi.at_0, Mi.at3_1, Mi.at3_2, Mi.at2_1, Mi.now, Mi.same_int, Mi.same_bl, Mi.mLc, Mi.mLcs, Mi.mWalk, Mi.wipD, Mi.oLen, Mi.oEq, Mi.oNe, Mi.oAll, Mi.oAny, Mi.kit_non_int, Mi.kit_non_bool, Mi.kit_non_list, Mi.kit_non_tuple, Mi.kit_non_str, Mi.kit_bl_int, Mi.kit_bl_bool, Mi.kit_bl_list, Mi.kit_bl_tuple, Mi.kit_bl_str, Mi.kit_int_int, Mi.kit_int_bool, Mi.kit_int_list, Mi.kit_int_tuple, Mi.kit_int_str, Mi.kit_str_int, Mi.kit_str_bool, Mi.kit_str_list, Mi.kit_str_tuple, Mi.kit_str_str, Mi.kit_tup_int, Mi.kit_tup_bool, Mi.kit_tup_list, Mi.kit_tup_tuple, Mi.kit_tup_str, Mi.kit_lst_int, Mi.kit_lst_bool, Mi.kit_lst_list, Mi.kit_lst_tuple, Mi.kit_lst_str, Mi.kit_dic_int, Mi.kit_dic_bool, Mi.kit_dic_list, Mi.kit_dic_tuple, Mi.kit_dic_str, e1, e2, h2, h3, mSl, mNoP, mPart, intO, oSl, Mi.cutD, HT.sIx, oList]
    · simp [Mi.fnM, Mi.outF, Mi.mSeq, Mi.thn, Mi.mNext, Mi.mRet, Mi.mRetN, Mi.mDrop, Mi.mIfS, Mi.mTst, Mi.tru, Mi.mAndT, Mi.mOrT, Mi.mNotT, Mi.mAnd, Mi.mOr, Mi.mNot, Mi.mIf, Mi.mBin, Mi.mUn, Mi.mCb, Mi.mVar, Mi.mC, Mi.mCons, Mi.mNil, Mi.bnd_at, Mi.ret_at, Mi.ofO_at, Mi.fail_at, Mi.ite_at, Mi.mAsg, Mi.gmName, Mi.mTup, Mi.mLst, Mi.mLstM, Mi.mCallL, Mi.calm_at, Mi.mCallNL, Mi.oCmp, Mi.oIsN, Mi.oNotN, Mi.isNon, Mi.oAdd, Mi.oSub, Mi.oNeg, Mi.oMod, Mi.mYes, Mi.mPar, Mi.mPar3, Mi.raise, Mi.big, Mi.kdv, Mi.asQ, Mi.asL, Mi.asS, Mi.asI, Mi.trus, Mi.oIx, Mi.at_0, Mi.at3_1, Mi.at3_2, Mi.at2_1, Mi.now, Mi.same_int, Mi.same_bl, Mi.mLc, Mi.mLcs, Mi.mWalk, Mi.wipD, Mi.oLen, Mi.oEq, Mi.oNe, Mi.oAll, Mi.oAny, Mi.kit_non_int, Mi.kit_non_bool, Mi.kit_non_list, Mi.kit_non_tuple, Mi.kit_non_str, Mi.kit_bl_int, Mi.kit_bl_bool, Mi.kit_bl_list, Mi.kit_bl_tuple, Mi.kit_bl_str, Mi.kit_int_int, Mi.kit_int_bool, Mi.kit_int_list, Mi.kit_int_tuple, Mi.kit_int_str, Mi.kit_str_int, Mi.kit_str_bool, Mi.kit_str_list, Mi.kit_str_tuple, Mi.kit_str_str, Mi.kit_tup_int, Mi.kit_tup_bool, Mi.kit_tup_list, Mi.kit_tup_tuple, Mi.kit_tup_str, Mi.kit_lst_int, Mi.kit_lst_bool, Mi.kit_lst_list, Mi.kit_lst_tuple, Mi.kit_lst_str, Mi.kit_dic_int, Mi.kit_dic_bool, Mi.kit_dic_list, Mi.kit_dic_tuple, Mi.kit_dic_str, e1, e2, h2, h3, mSl, mNoP, mPart, intO, oSl, Mi.cutD, HT.sIx, oList]
    · simp [Mi.fnM, Mi.outF, Mi.mSeq, Mi.thn, Mi.mNext, Mi.mRet, Mi.mRetN, Mi.mDrop, Mi.mIfS, Mi.mTst, Mi.tru, Mi.mAndT, Mi.mOrT, Mi.mNotT, Mi.mAnd, Mi.mOr, Mi.mNot, Mi.mIf, Mi.mBin, Mi.mUn, Mi.mCb, Mi.mVar, Mi.mC, Mi.mCons, Mi.mNil, Mi.bnd_at, Mi.ret_at, Mi.ofO_at, Mi.fail_at, Mi.ite_at, Mi.mAsg, Mi.gmName, Mi.mTup, Mi.mLst, Mi.mLstM, Mi.mCallL, Mi.calm_at, Mi.mCallNL, Mi.oCmp, Mi.oIsN, Mi.oNotN, Mi.isNon, Mi.oAdd, Mi.oSub, Mi.oNeg, Mi.oMod, Mi.mYes, Mi.mPar, Mi.mPar3, Mi.raise, Mi.big, Mi.kdv, Mi.asQ, Mi.asL, Mi.asS, Mi.asI, Mi.trus, Mi.oIx, Mi.at_0, Mi.at3_1, Mi.at3_2, Mi.at2_1, Mi.now, Mi.same_int, Mi.same_bl, Mi.mLc, Mi.mLcs, Mi.mWalk, Mi.wipD, Mi.oLen, Mi.oEq, Mi.oNe, Mi.oAll, Mi.oAny, Mi.kit_non_int, Mi.kit_non_bool, Mi.kit_non_list, Mi.kit_non_tuple, Mi.kit_non_str, Mi.kit_bl_int, Mi.kit_bl_bool, Mi.kit_bl_list, Mi.kit_bl_tuple, Mi.kit_bl_str, Mi.kit_int_int, Mi.kit_int_bool, Mi.kit_int_list, Mi.kit_int_tuple, Mi.kit_int_str, Mi.kit_str_int, Mi.kit_str_bool, Mi.kit_str_list, Mi.kit_str_tuple, Mi.kit_str_str, Mi.kit_tup_int, Mi.kit_tup_bool, Mi.kit_tup_list, Mi.kit_tup_tuple, Mi.kit_tup_str, Mi.kit_lst_int, Mi.kit_lst_bool, Mi.kit_lst_list, Mi.kit_lst_tuple, Mi.kit_lst_str, Mi.kit_dic_int, Mi.kit_dic_bool, Mi.kit_dic_list, Mi.kit_dic_tuple, Mi.kit_dic_str, e1, e2, h2, h3, mSl, mNoP, mPart, intO, oSl, Mi.cutD, HT.sIx, oList]
  · rcases k3 with rfl | rfl | rfl
    · obtain ⟨v, t', l', m1, m2, m3, m4, e3⟩ := pick (R := R) cs t2 l2 B (odds x y z (.tup [.non, .int y, .int z]) (.tup [.bl true, .int y, .int z]) (.tup [.str "2", .int y, .int z]) (.tup [.tup [.int 1, .int 2], .int y, .int z])) (by simp) (by simp) ht3 (by omega) hl2
      refine ⟨v, false, t', l', odd_gd x y z h v 0 (by decide) m1, m2, m3, m4, ?_⟩
      simp [Mi.fnM, Mi.outF, Mi.mSeq, Mi.thn, Mi.mNext, Mi.mRet, Mi.mRetN, Mi.mDrop, Mi.mIfS, Mi.mTst, Mi.tru, Mi.mAndT, Mi.mOrT, Mi.mNotT, Mi.mAnd, Mi.mOr, Mi.mNot, Mi.mIf, Mi.mBin, Mi.mUn, Mi.mCb, Mi.mVar, Mi.mC, Mi.mCons, Mi.mNil, Mi.bnd_at, Mi.ret_at, Mi.ofO_at, Mi.fail_at, Mi.ite_at, Mi.mAsg, Mi.gmName, Mi.mTup, Mi.mLst, Mi.mLstM, Mi.mCallL, Mi.calm_at, Mi.mCallNL, Mi.oCmp, Mi.oIsN, Mi.oNotN, Mi.isNon, Mi.oAdd, Mi.oSub, Mi.oNeg, Mi.oMod, Mi.mYes, Mi.mPar, Mi.mPar3, Mi.raise, Mi.big, Mi.kdv, Mi.asQ, Mi.asL, Mi.asS, Mi.asI, Mi.trus, Mi.oIx, Mi.at_0, Mi.at3_1, Mi.at3_2, Mi.at2_1, Mi.now, Mi.same_int, Mi.same_bl, Mi.mLc, Mi.mLcs, Mi.mWalk, Mi.wipD, Mi.oLen, Mi.oEq, Mi.oNe, Mi.oAll, Mi.oAny, Mi.kit_non_int, Mi.kit_non_bool, Mi.kit_non_list, Mi.kit_non_tuple, Mi.kit_non_str, Mi.kit_bl_int, Mi.kit_bl_bool, Mi.kit_bl_list, Mi.kit_bl_tuple, Mi.kit_bl_str, Mi.kit_int_int, Mi.kit_int_bool, Mi.kit_int_list, Mi.kit_int_tuple, Mi.kit_int_str, Mi.kit_str_int, Mi.kit_str_bool, Mi.kit_str_list, Mi.kit_str_tuple, Mi.kit_str_str, Mi.kit_tup_int, Mi.kit_tup_bool, Mi.kit_tup_list, Mi.kit_tup_tuple, Mi.kit_tup_str, Mi.kit_lst_int, Mi.kit_lst_bool, Mi.kit_lst_list, Mi.kit_lst_tuple, Mi.kit_lst_str, Mi.kit_dic_int, Mi.kit_dic_bool, Mi.kit_dic_list, Mi.kit_dic_tuple, Mi.kit_dic_str, e1, e2, h2, h3, e3, mSl, mNoP, mPart, intO, oSl, Mi.cutD, HT.sIx, oList]
    · obtain ⟨v, t', l', m1, m2, m3, m4, e3⟩ := pick (R := R) cs t2 l2 B (odds x y z (.tup [.int x, .non, .int z]) (.tup [.int x, .bl true, .int z]) (.tup [.int x, .str "2", .int z]) (.tup [.int x, .tup [.int 1, .int 2], .int z])) (by simp) (by simp) ht3 (by omega) hl2
      refine ⟨v, false, t', l', odd_gd x y z h v 1 (by decide) m1, m2, m3, m4, ?_⟩
      simp [Mi.fnM, Mi.outF, Mi.mSeq, Mi.thn, Mi.mNext, Mi.mRet, Mi.mRetN, Mi.mDrop, Mi.mIfS, Mi.mTst, Mi.tru, Mi.mAndT, Mi.mOrT, Mi.mNotT, Mi.mAnd, Mi.mOr, Mi.mNot, Mi.mIf, Mi.mBin, Mi.mUn, Mi.mCb, Mi.mVar, Mi.mC, Mi.mCons, Mi.mNil, Mi.bnd_at, Mi.ret_at, Mi.ofO_at, Mi.fail_at, Mi.ite_at, Mi.mAsg, Mi.gmName, Mi.mTup, Mi.mLst, Mi.mLstM, Mi.mCallL, Mi.calm_at, Mi.mCallNL, Mi.oCmp, Mi.oIsN, Mi.oNotN, Mi.isNon, Mi.oAdd, Mi.oSub, Mi.oNeg, Mi.oMod, Mi.mYes, Mi.mPar, Mi.mPar3, Mi.raise, Mi.big, Mi.kdv, Mi.asQ, Mi.asL, Mi.asS, Mi.asI, Mi.trus, Mi.oIx, Mi.at_0, Mi.at3_1, Mi.at3_2, Mi.at2_1, Mi.now, Mi.same_int, Mi.same_bl, Mi.mLc, Mi.mLcs, Mi.mWalk, Mi.wipD, Mi.oLen, Mi.oEq, Mi.oNe, Mi.oAll, Mi.oAny, Mi.kit_non_int, Mi.kit_non_bool, Mi.kit_non_list, Mi.kit_non_tuple, Mi.kit_non_str, Mi.kit_bl_int, Mi.kit_bl_bool, Mi.kit_bl_list, Mi.kit_bl_tuple, Mi.kit_bl_str, Mi.kit_int_int, Mi.kit_int_bool, Mi.kit_int_list, Mi.kit_int_tuple, Mi.kit_int_str, Mi.kit_str_int, Mi.kit_str_bool, Mi.kit_str_list, Mi.kit_str_tuple, Mi.kit_str_str, Mi.kit_tup_int, Mi.kit_tup_bool, Mi.kit_tup_list, Mi.kit_tup_tuple, Mi.kit_tup_str, Mi.kit_lst_int, Mi.kit_lst_bool, Mi.kit_lst_list, Mi.kit_lst_tuple, Mi.kit_lst_str, Mi.kit_dic_int, Mi.kit_dic_bool, Mi.kit_dic_list, Mi.kit_dic_tuple, Mi.kit_dic_str, e1, e2, h2, h3, e3, mSl, mNoP, mPart, intO, oSl, Mi.cutD, HT.sIx, oList]
    · obtain ⟨v, t', l', m1, m2, m3, m4, e3⟩ := pick (R := R) cs t2 l2 B (odds x y z (.tup [.int x, .int y, .non]) (.tup [.int x, .int y, .bl true]) (.tup [.int x, .int y, .str "2"]) (.tup [.int x, .int y, .tup [.int 1, .int 2]])) (by simp) (by simp) ht3 (by omega) hl2
      refine ⟨v, false, t', l', odd_gd x y z h v 2 (by decide) m1, m2, m3, m4, ?_⟩
      simp [Mi.fnM, Mi.outF, Mi.mSeq, Mi.thn, Mi.mNext, Mi.mRet, Mi.mRetN, Mi.mDrop, Mi.mIfS, Mi.mTst, Mi.tru, Mi.mAndT, Mi.mOrT, Mi.mNotT, Mi.mAnd, Mi.mOr, Mi.mNot, Mi.mIf, Mi.mBin, Mi.mUn, Mi.mCb, Mi.mVar, Mi.mC, Mi.mCons, Mi.mNil, Mi.bnd_at, Mi.ret_at, Mi.ofO_at, Mi.fail_at, Mi.ite_at, Mi.mAsg, Mi.gmName, Mi.mTup, Mi.mLst, Mi.mLstM, Mi.mCallL, Mi.calm_at, Mi.mCallNL, Mi.oCmp, Mi.oIsN, Mi.oNotN, Mi.isNon, Mi.oAdd, Mi.oSub, Mi.oNeg, Mi.oMod, Mi.mYes, Mi.mPar, Mi.mPar3, Mi.raise, Mi.big, Mi.kdv, Mi.asQ, Mi.asL, Mi.asS, Mi.asI, Mi.trus, Mi.oIx, Mi.at_0, Mi.at3_1, Mi.at3_2, Mi.at2_1, Mi.now, Mi.same_int, Mi.same_bl, Mi.mLc, Mi.mLcs, Mi.mWalk, Mi.wipD, Mi.oLen, Mi.oEq, Mi.oNe, Mi.oAll, Mi.oAny, Mi.kit_non_int, Mi.kit_non_bool, Mi.kit_non_list, Mi.kit_non_tuple, Mi.kit_non_str, Mi.kit_bl_int, Mi.kit_bl_bool, Mi.kit_bl_list, Mi.kit_bl_tuple, Mi.kit_bl_str, Mi.kit_int_int, Mi.kit_int_bool, Mi.kit_int_list, Mi.kit_int_tuple, Mi.kit_int_str, Mi.kit_str_int, Mi.kit_str_bool, Mi.kit_str_list, Mi.kit_str_tuple, Mi.kit_str_str, Mi.kit_tup_int, Mi.kit_tup_bool, Mi.kit_tup_list, Mi.kit_tup_tuple, Mi.kit_tup_str, Mi.kit_lst_int, Mi.kit_lst_bool, Mi.kit_lst_list, Mi.kit_lst_tuple, Mi.kit_lst_str, Mi.kit_dic_int, Mi.kit_dic_bool, Mi.kit_dic_list, Mi.kit_dic_tuple, Mi.kit_dic_str, e1, e2, h2, h3, e3, mSl, mNoP, mPart, intO, oSl, Mi.cutD, HT.sIx, oList]
theorem bent (x y z : Int) (h : isw x y z = true) (cs : List Int) (t l : Int) (B : Mem) (ht : 0 ≤ t) (ht2 : t ≤ 90000) (hl : 0 ≤ l) :
    ∃ v b t' l', Gd R v b ∧ t ≤ t' ∧ t' ≤ t + 3 ∧ 0 ≤ l' ∧ f_law_bent R [.loc 0, wz x y z] (jr cs t l :: B) = some (.ok (.tup [v, .bl b]), jr cs t' l' :: B) := by
  obtain ⟨k1, t1, l1, a1, b1, c1, d1, g1, e1⟩ := scratch (R := R) cs t l 3 B (by omega) (by decide +kernel) ht (by omega) hl
  obtain ⟨k2, t2, l2, a2, b2, c2, d2, g2, e2⟩ := scratch (R := R) cs t1 l1 6 B (by omega) (by decide +kernel) (by omega) (by omega) g1
  by_cases h2 : k2 < 3
  · obtain ⟨v, b, t', l', q1, q2, q3, q4, q5⟩ := bent_num x y z h cs t l B ht ht2 hl k1 k2 t1 l1 t2 l2 a1 b1 h2 (by omega) (by omega) g2 e1 e2
    exact ⟨v, b, t', l', q1, by omega, by omega, q4, q5⟩
  · obtain ⟨v, b, t', l', q1, q2, q3, q4, q5⟩ := bent_odd x y z h cs t l B k1 k2 t1 l1 t2 l2 a1 b1 h2 (by omega) (by omega) g2 e1 e2
    exact ⟨v, b, t', l', q1, by omega, by omega, q4, q5⟩
end Ty

namespace Ty
open PySem PySem.Spec PyProof.Rows L2 Mi
variable {R : Pr}
theorem num_small {x : Int} (h1 : -24 ≤ x) (h2 : x ≤ 24) : x.natAbs.log2 < 1920 := by
  by_cases h : x.natAbs = 0
  · rw [h]; decide
  · rw [Nat.log2_lt h]
    exact Nat.lt_of_lt_of_le (show x.natAbs < 2 ^ 5 by omega) (Nat.pow_le_pow_right (by decide) (by decide))
theorem num_wz {a b c : Int} (h : isw a b c = true) : numv (wz a b c) = true := by
  rw [isw_iff] at h
  simp [numv, numvs, num_small h.1.1 h.1.2, num_small h.2.1.1 h.2.1.2, num_small h.2.2.1.1 h.2.2.1.2]
/-- the lists that are shown -/
theorem ok_four {x y z : Int} (h : isw x y z = true) : okv (.lst [.bl true, .bl true, mo x y z, mo x y z]) = true := by
  rcases mo_cases h with ⟨e, _⟩ | ⟨a, b, c, d, f, g, e, _, _, _, i1, i2, _⟩
  · rw [e]; decide +kernel
  · rw [e]
    have n1 := num_wz i1
    have n2 := num_wz i2
    unfold okv
    simp only [numv, numvs, dpv, dpvs, wtv, wtvs, Bool.and_eq_true] at n1 n2 ⊢
    simp [n1, n2]
theorem beq_four {x y z : Int} (h : isw x y z = true) : beqD (.lst [.bl true, .bl true, mo x y z, mo x y z]) (.lst [.bl true, .bl true, mo x y z, mo x y z]) = true := by
  rcases mo_cases h with ⟨e, _⟩ | ⟨a, b, c, d, f, g, e, _⟩ <;> rw [e] <;> simp [beqD, beqDs]
theorem rep_four {x y z : Int} (h : isw x y z = true) (A : Mem) : oReprV A [.lst [.bl true, .bl true, mo x y z, mo x y z]] = some (.rep (.lst [.bl true, .bl true, mo x y z, mo x y z])) := by
  simp [oReprV, oRepr, now, ok_four h]
theorem ne_four {x y z : Int} (h : isw x y z = true) (A : Mem) : oNe A (.rep (.lst [.bl true, .bl true, mo x y z, mo x y z])) (.rep (.lst [.bl true, .bl true, mo x y z, mo x y z])) = some (.bl false) := by
  simp [oNe, now, sameD, beq_four h]
theorem same3 (a b c : Int) : sameD (wz a b c) (wz a b c) = some true := by simp [sameD, isDv, isDvs, dpv, dpvs, beqD, beqDs]
theorem same3l (a b c : Int) : sameD (.lst [.int a, .int b, .int c]) (.lst [.int a, .int b, .int c]) = some true := by simp [sameD, isDv, isDvs, dpv, dpvs, beqD, beqDs]
theorem same2 : sameD (.lst [.bl true, .bl true]) (.lst [.bl true, .bl true]) = some true := by decide +kernel
theorem same_rep {a : Dv} (h : beqD a a = true) : sameD (.rep a) (.rep a) = some true := by simp [sameD, h]
theorem in00 (A : Mem) : oIn A (.lst [.int 0, .int 0, .int 0]) (.tup [.lst [.int 0, .int 0, .int 0], .lst [.int 0, .int 0, .int 1]]) = some (.bl true) := by
  show oIn [] (.lst [.int 0, .int 0, .int 0]) (.tup [.lst [.int 0, .int 0, .int 0], .lst [.int 0, .int 0, .int 1]]) = some (.bl true)
  simp [oIn, asS, now, isDv, isDvs, dpv, dpvs, beqD, beqDs]
theorem in01 (A : Mem) : oIn A (.lst [.int 0, .int 0, .int 1]) (.tup [.lst [.int 0, .int 0, .int 0], .lst [.int 0, .int 0, .int 1]]) = some (.bl true) := by
  show oIn [] (.lst [.int 0, .int 0, .int 1]) (.tup [.lst [.int 0, .int 0, .int 0], .lst [.int 0, .int 0, .int 1]]) = some (.bl true)
  simp [oIn, asS, now, isDv, isDvs, dpv, dpvs, beqD, beqDs]
theorem word_right (x y z : Int) (h : isw x y z = true) (cs : List Int) (t l : Int) (B : Mem) (ht : 0 ≤ t) (ht2 : t ≤ 90000) (hl : 0 ≤ l) :
    ∃ t' l' J, t ≤ t' ∧ t' ≤ t + 1 ∧ 0 ≤ l' ∧ f_law_word_right R [.loc 0, wz x y z] (jr cs t l :: B) = some (.ok (.bl true), jr cs t' l' :: (B ++ J)) := by
  obtain ⟨J1, e1⟩ := lmade (R := R) x y z h (jr cs t l :: B)
  obtain ⟨k, t', l', a1, a2, a3, a4, a5, e2⟩ := scratch (R := R) cs t l 2 (B ++ J1) (by omega) (by decide +kernel) ht (by omega) hl
  have given : ∀ d : Dv, d = wz x y z ∨ d = .lst [.int x, .int y, .int z] → True := fun _ _ => trivial
  obtain ⟨J2, e3⟩ := made (R := R) x y z (if k = 0 then wz x y z else .lst [.int x, .int y, .int z]) (by split <;> simp) h (jr cs t' l' :: (B ++ J1))
  obtain ⟨J3, e4⟩ := made (R := R) x y z (wz x y z) (.inl rfl) h (jr cs t' l' :: (B ++ (J1 ++ J2)))
  obtain ⟨J4, e5⟩ := made (R := R) x y z (wz x y z) (.inl rfl) h (jr cs t' l' :: (B ++ (J1 ++ (J2 ++ J3))))
  have w1 := fun A => p_is_word (R := R) x y z (wz x y z) (.inl rfl) A
  have w2 := fun A => p_is_word (R := R) x y z (.lst [.int x, .int y, .int z]) (.inr rfl) A
  rw [h] at w1 w2
  have cm : ∀ m, CMulU 2 m := fun m => cm_l (by decide) (by decide)
  have c7 := rep_four h
  have c8 := same_rep (beq_four h)
  unfold f_law_word_right m_law_word_right
  rcases mo_cases h with ⟨e, q⟩ | ⟨a, b, c, d, f, g, e, q1, q2, q3, i1, i2, s1, s2, s3⟩
  · rw [e] at e1 e3 e4 c7 c8
    refine ⟨t', l', J1 ++ (J2 ++ J3), a3, a4, a5, ?_⟩
    rcases q with q | q | q | q <;> obtain ⟨rfl, rfl, rfl⟩ := q <;> by_cases hk : k = 0 <;> simp only [hk, if_true, if_false] at e3 <;>
      simp [Mi.fnM, Mi.outF, Mi.mSeq, Mi.thn, Mi.mNext, Mi.mRet, Mi.mRetN, Mi.mDrop, Mi.mIfS, Mi.mTst, Mi.tru, Mi.mAndT, Mi.mOrT, Mi.mNotT, Mi.mAnd, Mi.mOr, Mi.mNot, Mi.mIf, Mi.mBin, Mi.mUn, Mi.mCb, Mi.mVar, Mi.mC, Mi.mCons, Mi.mNil, Mi.bnd_at, Mi.ret_at, Mi.ofO_at, Mi.fail_at, Mi.ite_at, Mi.mAsg, Mi.gmName, Mi.mTup, Mi.mLst, Mi.mLstM, Mi.mCallL, Mi.calm_at, Mi.mCallNL, Mi.oCmp, Mi.oIsN, Mi.oNotN, Mi.isNon, Mi.oAdd, Mi.oSub, Mi.oNeg, Mi.oMod, Mi.mYes, Mi.mPar, Mi.mPar3, Mi.raise, Mi.big, Mi.kdv, Mi.asQ, Mi.asL, Mi.asS, Mi.asI, Mi.trus, Mi.oIx, Mi.at_0, Mi.at3_1, Mi.at3_2, Mi.at2_1, Mi.now, Mi.same_int, Mi.same_bl, Mi.mLc, Mi.mLcs, Mi.mWalk, Mi.wipD, Mi.oLen, Mi.oEq, Mi.oNe, Mi.oAll, Mi.oAny, Mi.kit_non_int, Mi.kit_non_bool, Mi.kit_non_list, Mi.kit_non_tuple, Mi.kit_non_str, Mi.kit_bl_int, Mi.kit_bl_bool, Mi.kit_bl_list, Mi.kit_bl_tuple, Mi.kit_bl_str, Mi.kit_int_int, Mi.kit_int_bool, Mi.kit_int_list, Mi.kit_int_tuple, Mi.kit_int_str, Mi.kit_str_int, Mi.kit_str_bool, Mi.kit_str_list, Mi.kit_str_tuple, Mi.kit_str_str, Mi.kit_tup_int, Mi.kit_tup_bool, Mi.kit_tup_list, Mi.kit_tup_tuple, Mi.kit_tup_str, Mi.kit_lst_int, Mi.kit_lst_bool, Mi.kit_lst_list, Mi.kit_lst_tuple, Mi.kit_lst_str, Mi.kit_dic_int, Mi.kit_dic_bool, Mi.kit_dic_list, Mi.kit_dic_tuple, Mi.kit_dic_str, loopC, e1, e2, e3, e4, hk, oList, w1, w2, Ty.perm, oSorted, intsD, sortZ, insZ, in00, in01, c7, c8]
  · rw [e] at e1 e3 e4 e5 c7 c8
    have w3 := fun A => p_is_word (R := R) a b c (wz a b c) (.inl rfl) A
    have w4 := fun A => p_is_word (R := R) d f g (wz d f g) (.inl rfl) A
    rw [i1] at w3
    rw [i2] at w4
    refine ⟨t', l', J1 ++ (J2 ++ (J3 ++ J4)), a3, a4, a5, ?_⟩
    by_cases hk : k = 0 <;> simp only [hk, if_true, if_false] at e3
    · simp [Mi.fnM, Mi.outF, Mi.mSeq, Mi.thn, Mi.mNext, Mi.mRet, Mi.mRetN, Mi.mDrop, Mi.mIfS, Mi.mTst, Mi.tru, Mi.mAndT, Mi.mOrT, Mi.mNotT, Mi.mAnd, Mi.mOr, Mi.mNot, Mi.mIf, Mi.mBin, Mi.mUn, Mi.mCb, Mi.mVar, Mi.mC, Mi.mCons, Mi.mNil, Mi.bnd_at, Mi.ret_at, Mi.ofO_at, Mi.fail_at, Mi.ite_at, Mi.mAsg, Mi.gmName, Mi.mTup, Mi.mLst, Mi.mLstM, Mi.mCallL, Mi.calm_at, Mi.mCallNL, Mi.oCmp, Mi.oIsN, Mi.oNotN, Mi.isNon, Mi.oAdd, Mi.oSub, Mi.oNeg, Mi.oMod, Mi.mYes, Mi.mPar, Mi.mPar3, Mi.raise, Mi.big, Mi.kdv, Mi.asQ, Mi.asL, Mi.asS, Mi.asI, Mi.trus, Mi.oIx, Mi.at_0, Mi.at3_1, Mi.at3_2, Mi.at2_1, Mi.now, Mi.same_int, Mi.same_bl, Mi.mLc, Mi.mLcs, Mi.mWalk, Mi.wipD, Mi.oLen, Mi.oEq, Mi.oNe, Mi.oAll, Mi.oAny, Mi.kit_non_int, Mi.kit_non_bool, Mi.kit_non_list, Mi.kit_non_tuple, Mi.kit_non_str, Mi.kit_bl_int, Mi.kit_bl_bool, Mi.kit_bl_list, Mi.kit_bl_tuple, Mi.kit_bl_str, Mi.kit_int_int, Mi.kit_int_bool, Mi.kit_int_list, Mi.kit_int_tuple, Mi.kit_int_str, Mi.kit_str_int, Mi.kit_str_bool, Mi.kit_str_list, Mi.kit_str_tuple, Mi.kit_str_str, Mi.kit_tup_int, Mi.kit_tup_bool, Mi.kit_tup_list, Mi.kit_tup_tuple, Mi.kit_tup_str, Mi.kit_lst_int, Mi.kit_lst_bool, Mi.kit_lst_list, Mi.kit_lst_tuple, Mi.kit_lst_str, Mi.kit_dic_int, Mi.kit_dic_bool, Mi.kit_dic_list, Mi.kit_dic_tuple, Mi.kit_dic_str, loopC, e1, e2, e3, e4, e5, hk, oList, w1, w2, w3, w4, Ty.perm, c7, gmTup, gmCons, gmNil, mZip, zipD, oMul, cm, oTuple, oBit, bit1, q1, q2, q3, s1, s2, s3, c8, same3, same3l, same2]
    · simp [Mi.fnM, Mi.outF, Mi.mSeq, Mi.thn, Mi.mNext, Mi.mRet, Mi.mRetN, Mi.mDrop, Mi.mIfS, Mi.mTst, Mi.tru, Mi.mAndT, Mi.mOrT, Mi.mNotT, Mi.mAnd, Mi.mOr, Mi.mNot, Mi.mIf, Mi.mBin, Mi.mUn, Mi.mCb, Mi.mVar, Mi.mC, Mi.mCons, Mi.mNil, Mi.bnd_at, Mi.ret_at, Mi.ofO_at, Mi.fail_at, Mi.ite_at, Mi.mAsg, Mi.gmName, Mi.mTup, Mi.mLst, Mi.mLstM, Mi.mCallL, Mi.calm_at, Mi.mCallNL, Mi.oCmp, Mi.oIsN, Mi.oNotN, Mi.isNon, Mi.oAdd, Mi.oSub, Mi.oNeg, Mi.oMod, Mi.mYes, Mi.mPar, Mi.mPar3, Mi.raise, Mi.big, Mi.kdv, Mi.asQ, Mi.asL, Mi.asS, Mi.asI, Mi.trus, Mi.oIx, Mi.at_0, Mi.at3_1, Mi.at3_2, Mi.at2_1, Mi.now, Mi.same_int, Mi.same_bl, Mi.mLc, Mi.mLcs, Mi.mWalk, Mi.wipD, Mi.oLen, Mi.oEq, Mi.oNe, Mi.oAll, Mi.oAny, Mi.kit_non_int, Mi.kit_non_bool, Mi.kit_non_list, Mi.kit_non_tuple, Mi.kit_non_str, Mi.kit_bl_int, Mi.kit_bl_bool, Mi.kit_bl_list, Mi.kit_bl_tuple, Mi.kit_bl_str, Mi.kit_int_int, Mi.kit_int_bool, Mi.kit_int_list, Mi.kit_int_tuple, Mi.kit_int_str, Mi.kit_str_int, Mi.kit_str_bool, Mi.kit_str_list, Mi.kit_str_tuple, Mi.kit_str_str, Mi.kit_tup_int, Mi.kit_tup_bool, Mi.kit_tup_list, Mi.kit_tup_tuple, Mi.kit_tup_str, Mi.kit_lst_int, Mi.kit_lst_bool, Mi.kit_lst_list, Mi.kit_lst_tuple, Mi.kit_lst_str, Mi.kit_dic_int, Mi.kit_dic_bool, Mi.kit_dic_list, Mi.kit_dic_tuple, Mi.kit_dic_str, loopC, e1, e2, e3, e4, e5, hk, oList, w1, w2, w3, w4, Ty.perm, c7, gmTup, gmCons, gmNil, mZip, zipD, oMul, cm, oTuple, oBit, bit1, q1, q2, q3, s1, s2, s3, c8, same3, same3l, same2]
end Ty

namespace Ty
open PySem PySem.Spec PyProof.Rows L2 Mi
theorem made_bad {R : Pr} {v : Dv} (h : ∀ A, f_is_word R [v] A = some (.ok (.bl false), A)) (A : Mem) : f_made_of R [v] A = some (.err 0 ["part"] [.str "word"], A) := by
  have hn := p_need v false A (h A)
  unfold f_made_of m_made_of
  simp [Mi.fnM, Mi.outF, Mi.mSeq, Mi.thn, Mi.mNext, Mi.mRet, Mi.mRetN, Mi.mDrop, Mi.mIfS, Mi.mTst, Mi.tru, Mi.mAndT, Mi.mOrT, Mi.mNotT, Mi.mAnd, Mi.mOr, Mi.mNot, Mi.mIf, Mi.mBin, Mi.mUn, Mi.mCb, Mi.mVar, Mi.mC, Mi.mCons, Mi.mNil, Mi.bnd_at, Mi.ret_at, Mi.ofO_at, Mi.fail_at, Mi.ite_at, Mi.mAsg, Mi.gmName, Mi.mTup, Mi.mLst, Mi.mLstM, Mi.mCallL, Mi.calm_at, Mi.mCallNL, Mi.oCmp, Mi.oIsN, Mi.oNotN, Mi.isNon, Mi.oAdd, Mi.oSub, Mi.oNeg, Mi.oMod, Mi.mYes, Mi.mPar, Mi.mPar3, Mi.raise, Mi.big, Mi.kdv, Mi.asQ, Mi.asL, Mi.asS, Mi.asI, Mi.trus, Mi.oIx, Mi.at_0, Mi.at3_1, Mi.at3_2, Mi.at2_1, Mi.now, Mi.same_int, Mi.same_bl, Mi.mLc, Mi.mLcs, Mi.mWalk, Mi.wipD, Mi.oLen, Mi.oEq, Mi.oNe, Mi.oAll, Mi.oAny, Mi.kit_non_int, Mi.kit_non_bool, Mi.kit_non_list, Mi.kit_non_tuple, Mi.kit_non_str, Mi.kit_bl_int, Mi.kit_bl_bool, Mi.kit_bl_list, Mi.kit_bl_tuple, Mi.kit_bl_str, Mi.kit_int_int, Mi.kit_int_bool, Mi.kit_int_list, Mi.kit_int_tuple, Mi.kit_int_str, Mi.kit_str_int, Mi.kit_str_bool, Mi.kit_str_list, Mi.kit_str_tuple, Mi.kit_str_str, Mi.kit_tup_int, Mi.kit_tup_bool, Mi.kit_tup_list, Mi.kit_tup_tuple, Mi.kit_tup_str, Mi.kit_lst_int, Mi.kit_lst_bool, Mi.kit_lst_list, Mi.kit_lst_tuple, Mi.kit_lst_str, Mi.kit_dic_int, Mi.kit_dic_bool, Mi.kit_dic_list, Mi.kit_dic_tuple, Mi.kit_dic_str, mCall, hn]
theorem heard {K : PySem.W.Frag} {mg : Str → Option Value} (T : Txt K mg) (ask : Ms Dv) (A : Mem) (h : ask A = some (.err 0 ["part"] [.str "word"], A)) : g_law_heard (pp T) ask A = some (.ok (.tup [.str "word", .str "word"]), A) := by
  have s1 : (pp T).sub 0 1 = some true := rfl
  have s0 : (pp T).sub 0 0 = some true := rfl
  have f0 : (pp T).fld 0 "part" = true := by show decide (("part" : Str) = ("part" : Str)) = true; simp
  unfold g_law_heard fnL m_law_heard
  simp [Mi.fnM, Mi.outF, Mi.mSeq, Mi.thn, Mi.mNext, Mi.mRet, Mi.mRetN, Mi.mDrop, Mi.mIfS, Mi.mTst, Mi.tru, Mi.mAndT, Mi.mOrT, Mi.mNotT, Mi.mAnd, Mi.mOr, Mi.mNot, Mi.mIf, Mi.mBin, Mi.mUn, Mi.mCb, Mi.mVar, Mi.mC, Mi.mCons, Mi.mNil, Mi.bnd_at, Mi.ret_at, Mi.ofO_at, Mi.fail_at, Mi.ite_at, Mi.mAsg, Mi.gmName, Mi.mTup, Mi.mLst, Mi.mLstM, Mi.mCallL, Mi.calm_at, Mi.mCallNL, Mi.oCmp, Mi.oIsN, Mi.oNotN, Mi.isNon, Mi.oAdd, Mi.oSub, Mi.oNeg, Mi.oMod, Mi.mYes, Mi.mPar, Mi.mPar3, Mi.raise, Mi.big, Mi.kdv, Mi.asQ, Mi.asL, Mi.asS, Mi.asI, Mi.trus, Mi.oIx, Mi.at_0, Mi.at3_1, Mi.at3_2, Mi.at2_1, Mi.now, Mi.same_int, Mi.same_bl, Mi.mLc, Mi.mLcs, Mi.mWalk, Mi.wipD, Mi.oLen, Mi.oEq, Mi.oNe, Mi.oAll, Mi.oAny, Mi.kit_non_int, Mi.kit_non_bool, Mi.kit_non_list, Mi.kit_non_tuple, Mi.kit_non_str, Mi.kit_bl_int, Mi.kit_bl_bool, Mi.kit_bl_list, Mi.kit_bl_tuple, Mi.kit_bl_str, Mi.kit_int_int, Mi.kit_int_bool, Mi.kit_int_list, Mi.kit_int_tuple, Mi.kit_int_str, Mi.kit_str_int, Mi.kit_str_bool, Mi.kit_str_list, Mi.kit_str_tuple, Mi.kit_str_str, Mi.kit_tup_int, Mi.kit_tup_bool, Mi.kit_tup_list, Mi.kit_tup_tuple, Mi.kit_tup_str, Mi.kit_lst_int, Mi.kit_lst_bool, Mi.kit_lst_list, Mi.kit_lst_tuple, Mi.kit_lst_str, Mi.kit_dic_int, Mi.kit_dic_bool, Mi.kit_dic_list, Mi.kit_dic_tuple, Mi.kit_dic_str, mTryA, h, s1, mFor, loopF, turn, gmTup, gmCons, gmNil, oIsi, s0, mXt, oXt, f0, lkD]
end Ty

namespace Ty
open PySem PySem.Spec PyProof.Rows L2 Mi
def lawBody (R : Pr) : Sl → Ms Fl := (mSeq (mAsg (mCallL 2 (f_law_word R) (mCons (mVar 1) (mCons (mCallL 2 (f_law_pick R) (mCons (mVar 1) (mCons (mLst (mCons (mC (.int 2)) (mCons (mC (.int 4)) (mCons (mC (.int 24)) (mCons (mC (.int 24)) (mCons (mC (.int 12)) mNil)))))) mNil))) mNil))) (gmName 3))
      (mSeq (mIfS (mNotT (mTst (mCallL 2 (f_law_word_right R) (mCons (mVar 1) (mCons (mVar 3) mNil))))) (mRet (mC (.bl false))) mNext)
      (mSeq (mAsg (mCallL 2 (f_law_bent R) (mCons (mVar 1) (mCons (mVar 3) mNil))) (gmTup 2 (gmCons (gmName 4) (gmCons (gmName 5) gmNil))))
      (mSeq (mAsg (mCb oReprV (mCons (mVar 4) mNil)) (gmName 6))
      (mSeq (mIfS (mOrT (mTst (mBin oNe (mCb oReprV (mCons (mCallL 1 (f_is_word R) (mCons (mVar 4) mNil)) mNil)) (mCb oReprV (mCons (mVar 5) mNil)))) (mTst (mBin oNe (mCb oReprV (mCons (mVar 4) mNil)) (mVar 6)))) (mRet (mC (.bl false))) mNext)
      (mIfS (mOrT (mAndT (mTst (mVar 5)) (mNotT (mTst (mCallL 2 (f_law_word_right R) (mCons (mVar 1) (mCons (mCb oTuple (mCons (mVar 4) mNil)) mNil)))))) (mAndT (mNotT (mTst (mVar 5))) (mTst (mBin oNe (mLam (g_law_heard R) (mCall 1 (f_made_of R) (mCons (mVar 4) mNil))) (mTup (mCons (mC (.str "word")) (mCons (mC (.str "word")) mNil))))))) (mRet (mC (.bl false))) mNext))))))
def lawRest (R : Pr) : Sl → Ms Fl := (mSeq (mAsg (mLst (mCons (mTup (mCons (mC (.int 0)) (mCons (mC (.int 0)) (mCons (mC (.int 0)) mNil)))) (mCons (mTup (mCons (mC (.int 1)) (mCons (mC (.int 0)) (mCons (mC (.int 0)) mNil)))) (mCons (mTup (mCons (mC (.int 0)) (mCons (mC (.int 1)) (mCons (mC (.int 0)) mNil)))) (mCons (mTup (mCons (mC (.int 0)) (mCons (mC (.int 0)) (mCons (mC (.int 1)) mNil)))) mNil))))) (gmName 7))
      (mRet (mAnd (mBin oEq (mLc (mWalk (mVar 7)) (gmName 3) (mTst (mBin oNotN (mCallL 1 (f_made_of R) (mCons (mVar 3) mNil)) (mC .non))) (mVar 3) [3]) (mLst mNil)) (mAnd (mBin oEq (mCallL 1 (f_made_of R) (mCons (mTup (mCons (mC (.int 0)) (mCons (mUn oNeg (mC (.int 24))) (mCons (mC (.int 0)) mNil)))) mNil)) (mTup (mCons (mTup (mCons (mC (.int 0)) (mCons (mC (.int 0)) (mCons (mC (.int 0)) mNil)))) (mCons (mTup (mCons (mC (.int 0)) (mCons (mC (.int 24)) (mCons (mC (.int 0)) mNil)))) mNil)))) (mNot (mCallL 1 (f_is_word R) (mCons (mTup (mCons (mC (.int 1)) (mCons (mC (.int 0)) (mCons (mUn oNeg (mC (.int 1))) mNil)))) mNil)))))))
theorem law_parts (R : Pr) : m_law R = mSeq (mAsg (mCallL 1 (f_law_quill R) (mCons (mVar 0) mNil)) (gmName 1)) (mSeq (mFor (mRange1 (mCons (mC (.int 6)) mNil)) (gmName 2) (lawBody R)) (lawRest R)) := rfl
variable {R : Pr}
theorem loop_ints {Γ : Sl} {A : Mem} (hi : 1 < Γ.length) : ∀ l : List Int, loopC (gmName 1) mYes (mCb oInt (mCons (mVar 1) mNil)) Γ (l.map .int) A = some (.ok (l.map .int), A)
  | [] => rfl
  | n :: l => by
    have ih := loop_ints (A := A) hi l
    have g : (Γ.set 1 (some (Dv.int n)))[1]? = some (some (.int n)) := List.getElem?_set_self hi
    show loopC (gmName 1) mYes (mCb oInt (mCons (mVar 1) mNil)) Γ (.int n :: l.map .int) A = _
    unfold loopC
    simp [Mi.fnM, Mi.outF, Mi.mSeq, Mi.thn, Mi.mNext, Mi.mRet, Mi.mRetN, Mi.mDrop, Mi.mIfS, Mi.mTst, Mi.tru, Mi.mAndT, Mi.mOrT, Mi.mNotT, Mi.mAnd, Mi.mOr, Mi.mNot, Mi.mIf, Mi.mBin, Mi.mUn, Mi.mCb, Mi.mVar, Mi.mC, Mi.mCons, Mi.mNil, Mi.bnd_at, Mi.ret_at, Mi.ofO_at, Mi.fail_at, Mi.ite_at, Mi.mAsg, Mi.gmName, Mi.mTup, Mi.mLst, Mi.mLstM, Mi.mCallL, Mi.calm_at, Mi.mCallNL, Mi.oCmp, Mi.oIsN, Mi.oNotN, Mi.isNon, Mi.oAdd, Mi.oSub, Mi.oNeg, Mi.oMod, Mi.mYes, Mi.mPar, Mi.mPar3, Mi.raise, Mi.big, Mi.kdv, Mi.asQ, Mi.asL, Mi.asS, Mi.asI, Mi.trus, Mi.oIx, Mi.at_0, Mi.at3_1, Mi.at3_2, Mi.at2_1, Mi.now, Mi.same_int, Mi.same_bl, Mi.mLc, Mi.mLcs, Mi.mWalk, Mi.wipD, Mi.oLen, Mi.oEq, Mi.oNe, Mi.oAll, Mi.oAny, Mi.kit_non_int, Mi.kit_non_bool, Mi.kit_non_list, Mi.kit_non_tuple, Mi.kit_non_str, Mi.kit_bl_int, Mi.kit_bl_bool, Mi.kit_bl_list, Mi.kit_bl_tuple, Mi.kit_bl_str, Mi.kit_int_int, Mi.kit_int_bool, Mi.kit_int_list, Mi.kit_int_tuple, Mi.kit_int_str, Mi.kit_str_int, Mi.kit_str_bool, Mi.kit_str_list, Mi.kit_str_tuple, Mi.kit_str_str, Mi.kit_tup_int, Mi.kit_tup_bool, Mi.kit_tup_list, Mi.kit_tup_tuple, Mi.kit_tup_str, Mi.kit_lst_int, Mi.kit_lst_bool, Mi.kit_lst_list, Mi.kit_lst_tuple, Mi.kit_lst_str, Mi.kit_dic_int, Mi.kit_dic_bool, Mi.kit_dic_list, Mi.kit_dic_tuple, Mi.kit_dic_str, g, oInt, ih]
theorem quill (ns : List Int) : f_law_quill R [.scr (ns.map .int)] [] = some (.ok (.loc 0), [jr (ns.take 60) 0 0]) := by
  unfold f_law_quill m_law_quill
  have q := fun Γ A (h : 1 < Γ.length) => loop_ints (Γ := Γ) (A := A) h (ns.take 60)
  simp only [List.map_take] at q
  have mn : min 60 ns.length ≤ 1000000 := by omega
  have c : Mi.cutD (ns.map Dv.int) none (some 60) = (ns.take 60).map .int := by
    unfold Mi.cutD HT.sIx
    simp [List.map_take]
  simp [Mi.fnM, Mi.outF, Mi.mSeq, Mi.thn, Mi.mNext, Mi.mRet, Mi.mRetN, Mi.mDrop, Mi.mIfS, Mi.mTst, Mi.tru, Mi.mAndT, Mi.mOrT, Mi.mNotT, Mi.mAnd, Mi.mOr, Mi.mNot, Mi.mIf, Mi.mBin, Mi.mUn, Mi.mCb, Mi.mVar, Mi.mC, Mi.mCons, Mi.mNil, Mi.bnd_at, Mi.ret_at, Mi.ofO_at, Mi.fail_at, Mi.ite_at, Mi.mAsg, Mi.gmName, Mi.mTup, Mi.mLst, Mi.mLstM, Mi.mCallL, Mi.calm_at, Mi.mCallNL, Mi.oCmp, Mi.oIsN, Mi.oNotN, Mi.isNon, Mi.oAdd, Mi.oSub, Mi.oNeg, Mi.oMod, Mi.mYes, Mi.mPar, Mi.mPar3, Mi.raise, Mi.big, Mi.kdv, Mi.asQ, Mi.asL, Mi.asS, Mi.asI, Mi.trus, Mi.oIx, Mi.at_0, Mi.at3_1, Mi.at3_2, Mi.at2_1, Mi.now, Mi.same_int, Mi.same_bl, Mi.mLc, Mi.mLcs, Mi.mWalk, Mi.wipD, Mi.oLen, Mi.oEq, Mi.oNe, Mi.oAll, Mi.oAny, Mi.kit_non_int, Mi.kit_non_bool, Mi.kit_non_list, Mi.kit_non_tuple, Mi.kit_non_str, Mi.kit_bl_int, Mi.kit_bl_bool, Mi.kit_bl_list, Mi.kit_bl_tuple, Mi.kit_bl_str, Mi.kit_int_int, Mi.kit_int_bool, Mi.kit_int_list, Mi.kit_int_tuple, Mi.kit_int_str, Mi.kit_str_int, Mi.kit_str_bool, Mi.kit_str_list, Mi.kit_str_tuple, Mi.kit_str_str, Mi.kit_tup_int, Mi.kit_tup_bool, Mi.kit_tup_list, Mi.kit_tup_tuple, Mi.kit_tup_str, Mi.kit_lst_int, Mi.kit_lst_bool, Mi.kit_lst_list, Mi.kit_lst_tuple, Mi.kit_lst_str, Mi.kit_dic_int, Mi.kit_dic_bool, Mi.kit_dic_list, Mi.kit_dic_tuple, Mi.kit_dic_str, mSl, mNoP, mPart, intO, oSl, c, q, mn]
theorem loop_inv {mg : Dv → Sl → Ms Sl} {ms : Sl → Ms Fl} (I : Nat → Sl → Mem → Prop) (h : ∀ d Γ A n, I (n + 1) Γ A → ∃ Γ' A', bnd (mg d Γ) ms A = some (.ok (.nx Γ'), A') ∧ I n Γ' A') : ∀ (ds : List Dv) Γ A, I ds.length Γ A → ∃ Γ' A', loopF mg ms ds Γ A = some (.ok (.nx Γ'), A') ∧ I 0 Γ' A'
  | [], Γ, A, i => ⟨Γ, A, rfl, i⟩
  | d :: ds, Γ, A, i => by
    obtain ⟨Γ1, A1, e1, i1⟩ := h d Γ A ds.length i
    obtain ⟨Γ2, A2, e2, i2⟩ := loop_inv I h ds Γ1 A1 i1
    refine ⟨Γ2, A2, ?_, i2⟩
    unfold loopF
    have e : bnd (mg d Γ) (fun Γ1 => bnd (ms Γ1) fun f => turn f (loopF mg ms ds)) A = bnd (bnd (mg d Γ) ms) (fun f => turn f (loopF mg ms ds)) A := by rw [bnd_assoc]
    rw [e, bnd_at, e1]
    exact e2
/-- what holds before a turn: so many are left -/
def Iv (R : Pr) (n : Nat) (Γ : Sl) (A : Mem) : Prop := ∃ s0 s2 s3 s4 s5 s6 s7 cs t l B, Γ = [s0, some (.loc 0), s2, s3, s4, s5, s6, s7] ∧ A = jr cs t l :: B ∧ 0 ≤ t ∧ t ≤ 200 - 20 * (n : Int) ∧ 0 ≤ l
theorem rep_bl (b : Bool) (A : Mem) : oReprV A [.bl b] = some (.rep (.bl b)) := by cases b <;> rfl
theorem rep_bl' (b : Bool) : beqD (.bl b) (.bl b) = true := by cases b <;> rfl
theorem same_ww : sameD (.tup [.str "word", .str "word"]) (.tup [.str "word", .str "word"]) = some true := by decide +kernel
end Ty

namespace Ty
open PySem PySem.Spec PyProof.Rows L2 Mi
theorem turn_ok {K : PySem.W.Frag} {mg : Str → Option Value} (T : Txt K mg) (d : Dv) (Γ : Sl) (A : Mem) (n : Nat) (hn : n ≤ 6) (i : Iv (pp T) (n + 1) Γ A) : ∃ Γ' A', bnd (gmName 2 d Γ) (lawBody (pp T)) A = some (.ok (.nx Γ'), A') ∧ Iv (pp T) n Γ' A' := by
  obtain ⟨s0, s2, s3, s4, s5, s6, s7, cs, t, l, B, rfl, rfl, t0, t1, l0⟩ := i
  obtain ⟨m, ta, la, m1, m2, m3, m4, e1⟩ := pick (R := pp T) cs t l B [.int 2, .int 4, .int 24, .int 24, .int 12] (by simp) (by simp) t0 (by omega) l0
  obtain ⟨most, rfl, hm⟩ : ∃ k, m = .int k ∧ (k = 2 ∨ k = 4 ∨ k = 24 ∨ k = 12) := by
    simp only [List.mem_cons, List.not_mem_nil, or_false] at m1
    rcases m1 with rfl | rfl | rfl | rfl | rfl <;> exact ⟨_, rfl, by simp⟩
  obtain ⟨x, y, z, tb, lb, J1, hw, b1, b2, b3, e2⟩ := word (R := pp T) cs ta la B most hm (by omega) (by omega) m4
  obtain ⟨tc, lc, J2, c1, c2, c3, e3⟩ := word_right (R := pp T) x y z hw cs tb lb (B ++ J1) (by omega) (by omega) b3
  obtain ⟨v, b, td, ld, g, d1, d2, d3, e4⟩ := bent (R := pp T) x y z hw cs tc lc (B ++ (J1 ++ J2)) (by omega) (by omega) c3
  obtain ⟨gw, ⟨r, gs, gr⟩, gg⟩ := g
  have sr := same_rep gr
  have sb := same_rep (rep_bl' b)
  have rb := rep_bl b
  unfold lawBody
  cases b with
  | true =>
    obtain ⟨x', y', z', hv, hw'⟩ := gg rfl
    obtain ⟨te, le, J3, f1, f2, f3, e5⟩ := word_right (R := pp T) x' y' z' hw' cs td ld (B ++ (J1 ++ J2)) (by omega) (by omega) d3
    have tup : ∀ A, oTuple A [v] = some (wz x' y' z') := fun A => by rcases hv with rfl | rfl <;> simp [oTuple, asL, asS, asQ]
    refine ⟨[s0, some (.loc 0), some d, some (wz x y z), some v, some (.bl true), some (.rep r), s7], jr cs te le :: (B ++ (J1 ++ (J2 ++ J3))), ?_, s0, some d, some (wz x y z), some v, some (.bl true), some (.rep r), s7, cs, te, le, _, rfl, rfl, by omega, by omega, f3⟩
    simp [Mi.fnM, Mi.outF, Mi.mSeq, Mi.thn, Mi.mNext, Mi.mRet, Mi.mRetN, Mi.mDrop, Mi.mIfS, Mi.mTst, Mi.tru, Mi.mAndT, Mi.mOrT, Mi.mNotT, Mi.mAnd, Mi.mOr, Mi.mNot, Mi.mIf, Mi.mBin, Mi.mUn, Mi.mCb, Mi.mVar, Mi.mC, Mi.mCons, Mi.mNil, Mi.bnd_at, Mi.ret_at, Mi.ofO_at, Mi.fail_at, Mi.ite_at, Mi.mAsg, Mi.gmName, Mi.mTup, Mi.mLst, Mi.mLstM, Mi.mCallL, Mi.calm_at, Mi.mCallNL, Mi.oCmp, Mi.oIsN, Mi.oNotN, Mi.isNon, Mi.oAdd, Mi.oSub, Mi.oNeg, Mi.oMod, Mi.mYes, Mi.mPar, Mi.mPar3, Mi.raise, Mi.big, Mi.kdv, Mi.asQ, Mi.asL, Mi.asS, Mi.asI, Mi.trus, Mi.oIx, Mi.at_0, Mi.at3_1, Mi.at3_2, Mi.at2_1, Mi.now, Mi.same_int, Mi.same_bl, Mi.mLc, Mi.mLcs, Mi.mWalk, Mi.wipD, Mi.oLen, Mi.oEq, Mi.oNe, Mi.oAll, Mi.oAny, Mi.kit_non_int, Mi.kit_non_bool, Mi.kit_non_list, Mi.kit_non_tuple, Mi.kit_non_str, Mi.kit_bl_int, Mi.kit_bl_bool, Mi.kit_bl_list, Mi.kit_bl_tuple, Mi.kit_bl_str, Mi.kit_int_int, Mi.kit_int_bool, Mi.kit_int_list, Mi.kit_int_tuple, Mi.kit_int_str, Mi.kit_str_int, Mi.kit_str_bool, Mi.kit_str_list, Mi.kit_str_tuple, Mi.kit_str_str, Mi.kit_tup_int, Mi.kit_tup_bool, Mi.kit_tup_list, Mi.kit_tup_tuple, Mi.kit_tup_str, Mi.kit_lst_int, Mi.kit_lst_bool, Mi.kit_lst_list, Mi.kit_lst_tuple, Mi.kit_lst_str, Mi.kit_dic_int, Mi.kit_dic_bool, Mi.kit_dic_list, Mi.kit_dic_tuple, Mi.kit_dic_str, e1, e2, e3, e4, gmTup, gmCons, gmNil, gs, gw, rb, sr, sb, tup, e5]
  | false =>
    have hh := heard T (mCall 1 (f_made_of (pp T)) (mCons (mVar 4) mNil) [s0, some (.loc 0), some d, some (wz x y z), some v, some (.bl false), some (.rep r), s7]) (jr cs td ld :: (B ++ (J1 ++ J2))) (by simp [Mi.fnM, Mi.outF, Mi.mSeq, Mi.thn, Mi.mNext, Mi.mRet, Mi.mRetN, Mi.mDrop, Mi.mIfS, Mi.mTst, Mi.tru, Mi.mAndT, Mi.mOrT, Mi.mNotT, Mi.mAnd, Mi.mOr, Mi.mNot, Mi.mIf, Mi.mBin, Mi.mUn, Mi.mCb, Mi.mVar, Mi.mC, Mi.mCons, Mi.mNil, Mi.bnd_at, Mi.ret_at, Mi.ofO_at, Mi.fail_at, Mi.ite_at, Mi.mAsg, Mi.gmName, Mi.mTup, Mi.mLst, Mi.mLstM, Mi.mCallL, Mi.calm_at, Mi.mCallNL, Mi.oCmp, Mi.oIsN, Mi.oNotN, Mi.isNon, Mi.oAdd, Mi.oSub, Mi.oNeg, Mi.oMod, Mi.mYes, Mi.mPar, Mi.mPar3, Mi.raise, Mi.big, Mi.kdv, Mi.asQ, Mi.asL, Mi.asS, Mi.asI, Mi.trus, Mi.oIx, Mi.at_0, Mi.at3_1, Mi.at3_2, Mi.at2_1, Mi.now, Mi.same_int, Mi.same_bl, Mi.mLc, Mi.mLcs, Mi.mWalk, Mi.wipD, Mi.oLen, Mi.oEq, Mi.oNe, Mi.oAll, Mi.oAny, Mi.kit_non_int, Mi.kit_non_bool, Mi.kit_non_list, Mi.kit_non_tuple, Mi.kit_non_str, Mi.kit_bl_int, Mi.kit_bl_bool, Mi.kit_bl_list, Mi.kit_bl_tuple, Mi.kit_bl_str, Mi.kit_int_int, Mi.kit_int_bool, Mi.kit_int_list, Mi.kit_int_tuple, Mi.kit_int_str, Mi.kit_str_int, Mi.kit_str_bool, Mi.kit_str_list, Mi.kit_str_tuple, Mi.kit_str_str, Mi.kit_tup_int, Mi.kit_tup_bool, Mi.kit_tup_list, Mi.kit_tup_tuple, Mi.kit_tup_str, Mi.kit_lst_int, Mi.kit_lst_bool, Mi.kit_lst_list, Mi.kit_lst_tuple, Mi.kit_lst_str, Mi.kit_dic_int, Mi.kit_dic_bool, Mi.kit_dic_list, Mi.kit_dic_tuple, Mi.kit_dic_str, mCall, made_bad gw])
    refine ⟨[s0, some (.loc 0), some d, some (wz x y z), some v, some (.bl false), some (.rep r), s7], jr cs td ld :: (B ++ (J1 ++ J2)), ?_, s0, some d, some (wz x y z), some v, some (.bl false), some (.rep r), s7, cs, td, ld, _, rfl, rfl, by omega, by omega, d3⟩
    simp [Mi.fnM, Mi.outF, Mi.mSeq, Mi.thn, Mi.mNext, Mi.mRet, Mi.mRetN, Mi.mDrop, Mi.mIfS, Mi.mTst, Mi.tru, Mi.mAndT, Mi.mOrT, Mi.mNotT, Mi.mAnd, Mi.mOr, Mi.mNot, Mi.mIf, Mi.mBin, Mi.mUn, Mi.mCb, Mi.mVar, Mi.mC, Mi.mCons, Mi.mNil, Mi.bnd_at, Mi.ret_at, Mi.ofO_at, Mi.fail_at, Mi.ite_at, Mi.mAsg, Mi.gmName, Mi.mTup, Mi.mLst, Mi.mLstM, Mi.mCallL, Mi.calm_at, Mi.mCallNL, Mi.oCmp, Mi.oIsN, Mi.oNotN, Mi.isNon, Mi.oAdd, Mi.oSub, Mi.oNeg, Mi.oMod, Mi.mYes, Mi.mPar, Mi.mPar3, Mi.raise, Mi.big, Mi.kdv, Mi.asQ, Mi.asL, Mi.asS, Mi.asI, Mi.trus, Mi.oIx, Mi.at_0, Mi.at3_1, Mi.at3_2, Mi.at2_1, Mi.now, Mi.same_int, Mi.same_bl, Mi.mLc, Mi.mLcs, Mi.mWalk, Mi.wipD, Mi.oLen, Mi.oEq, Mi.oNe, Mi.oAll, Mi.oAny, Mi.kit_non_int, Mi.kit_non_bool, Mi.kit_non_list, Mi.kit_non_tuple, Mi.kit_non_str, Mi.kit_bl_int, Mi.kit_bl_bool, Mi.kit_bl_list, Mi.kit_bl_tuple, Mi.kit_bl_str, Mi.kit_int_int, Mi.kit_int_bool, Mi.kit_int_list, Mi.kit_int_tuple, Mi.kit_int_str, Mi.kit_str_int, Mi.kit_str_bool, Mi.kit_str_list, Mi.kit_str_tuple, Mi.kit_str_str, Mi.kit_tup_int, Mi.kit_tup_bool, Mi.kit_tup_list, Mi.kit_tup_tuple, Mi.kit_tup_str, Mi.kit_lst_int, Mi.kit_lst_bool, Mi.kit_lst_list, Mi.kit_lst_tuple, Mi.kit_lst_str, Mi.kit_dic_int, Mi.kit_dic_bool, Mi.kit_dic_list, Mi.kit_dic_tuple, Mi.kit_dic_str, e1, e2, e3, e4, gmTup, gmCons, gmNil, gs, gw, rb, sr, sb, mLam, hh, same_ww]
end Ty

namespace Ty
open PySem PySem.Spec PyProof.Rows L2 Mi
variable {R : Pr}
theorem same_mo : sameD (.tup [wz 0 0 0, wz 0 24 0]) (.tup [wz 0 0 0, wz 0 24 0]) = some true := by decide +kernel
theorem same_em : sameD (.lst []) (.lst []) = some true := by decide +kernel
theorem rest_ok (Γ : Sl) (A : Mem) (h : Γ.length = 8) : ∃ A', lawRest R Γ A = some (.ok (.rt (.bl true)), A') := by
  match Γ, h with
  | [s0, s1, s2, s3, s4, s5, s6, s7], _ =>
    obtain ⟨J1, e1⟩ := made (R := R) 0 0 0 _ (.inl rfl) (by decide +kernel) A
    obtain ⟨J2, e2⟩ := made (R := R) 1 0 0 _ (.inl rfl) (by decide +kernel) (A ++ J1)
    obtain ⟨J3, e3⟩ := made (R := R) 0 1 0 _ (.inl rfl) (by decide +kernel) (A ++ (J1 ++ J2))
    obtain ⟨J4, e4⟩ := made (R := R) 0 0 1 _ (.inl rfl) (by decide +kernel) (A ++ (J1 ++ (J2 ++ J3)))
    obtain ⟨J5, e5⟩ := made (R := R) 0 (-24) 0 _ (.inl rfl) (by decide +kernel) (A ++ (J1 ++ (J2 ++ (J3 ++ J4))))
    have w := fun A => p_is_word (R := R) 1 0 (-1) _ (.inl rfl) A
    have w0 : isw 1 0 (-1) = false := by decide +kernel
    rw [w0] at w
    have q1 : mo 0 0 0 = .non := rfl
    have q2 : mo 1 0 0 = .non := rfl
    have q3 : mo 0 1 0 = .non := rfl
    have q4 : mo 0 0 1 = .non := rfl
    have q5 : mo 0 (-24) 0 = .tup [wz 0 0 0, wz 0 24 0] := rfl
    rw [q1] at e1
    rw [q2] at e2
    rw [q3] at e3
    rw [q4] at e4
    rw [q5] at e5
    refine ⟨A ++ (J1 ++ (J2 ++ (J3 ++ (J4 ++ J5)))), ?_⟩
    unfold lawRest
    simp [Mi.fnM, Mi.outF, Mi.mSeq, Mi.thn, Mi.mNext, Mi.mRet, Mi.mRetN, Mi.mDrop, Mi.mIfS, Mi.mTst, Mi.tru, Mi.mAndT, Mi.mOrT, Mi.mNotT, Mi.mAnd, Mi.mOr, Mi.mNot, Mi.mIf, Mi.mBin, Mi.mUn, Mi.mCb, Mi.mVar, Mi.mC, Mi.mCons, Mi.mNil, Mi.bnd_at, Mi.ret_at, Mi.ofO_at, Mi.fail_at, Mi.ite_at, Mi.mAsg, Mi.gmName, Mi.mTup, Mi.mLst, Mi.mLstM, Mi.mCallL, Mi.calm_at, Mi.mCallNL, Mi.oCmp, Mi.oIsN, Mi.oNotN, Mi.isNon, Mi.oAdd, Mi.oSub, Mi.oNeg, Mi.oMod, Mi.mYes, Mi.mPar, Mi.mPar3, Mi.raise, Mi.big, Mi.kdv, Mi.asQ, Mi.asL, Mi.asS, Mi.asI, Mi.trus, Mi.oIx, Mi.at_0, Mi.at3_1, Mi.at3_2, Mi.at2_1, Mi.now, Mi.same_int, Mi.same_bl, Mi.mLc, Mi.mLcs, Mi.mWalk, Mi.wipD, Mi.oLen, Mi.oEq, Mi.oNe, Mi.oAll, Mi.oAny, Mi.kit_non_int, Mi.kit_non_bool, Mi.kit_non_list, Mi.kit_non_tuple, Mi.kit_non_str, Mi.kit_bl_int, Mi.kit_bl_bool, Mi.kit_bl_list, Mi.kit_bl_tuple, Mi.kit_bl_str, Mi.kit_int_int, Mi.kit_int_bool, Mi.kit_int_list, Mi.kit_int_tuple, Mi.kit_int_str, Mi.kit_str_int, Mi.kit_str_bool, Mi.kit_str_list, Mi.kit_str_tuple, Mi.kit_str_str, Mi.kit_tup_int, Mi.kit_tup_bool, Mi.kit_tup_list, Mi.kit_tup_tuple, Mi.kit_tup_str, Mi.kit_lst_int, Mi.kit_lst_bool, Mi.kit_lst_list, Mi.kit_lst_tuple, Mi.kit_lst_str, Mi.kit_dic_int, Mi.kit_dic_bool, Mi.kit_dic_list, Mi.kit_dic_tuple, Mi.kit_dic_str, loopC, e1, e2, e3, e4, e5, w, same_mo, same_em]
theorem law_pure {K : PySem.W.Frag} {mg : Str → Option Value} (T : Txt K mg) (ns : List Int) (hl : ns.length ≤ 63) : ∃ A, f_law (pp T) [.scr (ns.map .int)] [] = some (.ok (.bl true), A) := by
  have q := quill (R := pp T) ns
  have lp : ∃ Γ' A', loopF (gmName 2) (lawBody (pp T)) (rangeD 0 6) [some (.scr (ns.map .int)), some (.loc 0), none, none, none, none, none, none] [jr (ns.take 60) 0 0] = some (.ok (.nx Γ'), A') ∧ (∃ n, n ≤ 6 ∧ Iv (pp T) n Γ' A') := by
    obtain ⟨Γ', A', e, i⟩ := loop_inv (mg := gmName 2) (ms := lawBody (pp T)) (fun n Γ A => n ≤ 6 ∧ Iv (pp T) n Γ A) (fun d Γ A n i => by
      obtain ⟨Γ', A', e, k⟩ := turn_ok T d Γ A n (by omega) i.2
      exact ⟨Γ', A', e, by omega, k⟩) (rangeD 0 6) [some (.scr (ns.map .int)), some (.loc 0), none, none, none, none, none, none] [jr (ns.take 60) 0 0] ⟨by decide, _, _, _, _, _, _, _, _, _, _, _, rfl, rfl, by omega, by decide, by omega⟩
    exact ⟨Γ', A', e, 0, by omega, i.2⟩
  obtain ⟨Γ', A', e, n, _, s0, s2, s3, s4, s5, s6, s7, cs, t, l, B, rfl, rfl, _⟩ := lp
  obtain ⟨A2, e2⟩ := rest_ok (R := pp T) [s0, some (.loc 0), s2, s3, s4, s5, s6, s7] (jr cs t l :: B) rfl
  refine ⟨A2, ?_⟩
  unfold f_law
  rw [law_parts]
  simp [Mi.fnM, Mi.outF, Mi.mSeq, Mi.thn, Mi.mNext, Mi.mRet, Mi.mRetN, Mi.mDrop, Mi.mIfS, Mi.mTst, Mi.tru, Mi.mAndT, Mi.mOrT, Mi.mNotT, Mi.mAnd, Mi.mOr, Mi.mNot, Mi.mIf, Mi.mBin, Mi.mUn, Mi.mCb, Mi.mVar, Mi.mC, Mi.mCons, Mi.mNil, Mi.bnd_at, Mi.ret_at, Mi.ofO_at, Mi.fail_at, Mi.ite_at, Mi.mAsg, Mi.gmName, Mi.mTup, Mi.mLst, Mi.mLstM, Mi.mCallL, Mi.calm_at, Mi.mCallNL, Mi.oCmp, Mi.oIsN, Mi.oNotN, Mi.isNon, Mi.oAdd, Mi.oSub, Mi.oNeg, Mi.oMod, Mi.mYes, Mi.mPar, Mi.mPar3, Mi.raise, Mi.big, Mi.kdv, Mi.asQ, Mi.asL, Mi.asS, Mi.asI, Mi.trus, Mi.oIx, Mi.at_0, Mi.at3_1, Mi.at3_2, Mi.at2_1, Mi.now, Mi.same_int, Mi.same_bl, Mi.mLc, Mi.mLcs, Mi.mWalk, Mi.wipD, Mi.oLen, Mi.oEq, Mi.oNe, Mi.oAll, Mi.oAny, Mi.kit_non_int, Mi.kit_non_bool, Mi.kit_non_list, Mi.kit_non_tuple, Mi.kit_non_str, Mi.kit_bl_int, Mi.kit_bl_bool, Mi.kit_bl_list, Mi.kit_bl_tuple, Mi.kit_bl_str, Mi.kit_int_int, Mi.kit_int_bool, Mi.kit_int_list, Mi.kit_int_tuple, Mi.kit_int_str, Mi.kit_str_int, Mi.kit_str_bool, Mi.kit_str_list, Mi.kit_str_tuple, Mi.kit_str_str, Mi.kit_tup_int, Mi.kit_tup_bool, Mi.kit_tup_list, Mi.kit_tup_tuple, Mi.kit_tup_str, Mi.kit_lst_int, Mi.kit_lst_bool, Mi.kit_lst_list, Mi.kit_lst_tuple, Mi.kit_lst_str, Mi.kit_dic_int, Mi.kit_dic_bool, Mi.kit_dic_list, Mi.kit_dic_tuple, Mi.kit_dic_str, q, mFor, mRange1, e, e2]
end Ty

namespace Ty
open PySem PySem.Spec PyProof.Rows L2
/-! what the top has written, and the end -/
open Mi
theorem law_of {P : Program} {w : World} {K : PySem.W.Frag} {mg : Str → Option Value} {fa : Addr} (T : Txt K mg) (hfa : T.a_law = fa) (hb : ∀ (s : Shared) (v : Value), BindsTo s T.d_law ⟨[v], []⟩ [("_law_script", v)]) (ht : ∀ t ∈ tabs T, TabF K mg t.1 t.2.1 t.2.2) :
    ∃ (fd : FuncData) (ts : List (Str × Addr × Addr)) (sp : Sp), (∀ t ∈ ts, t.1 ∈ (["law"] : List Str)) ∧ (∀ t ∈ ts, TabF K mg t.1 t.2.1 t.2.2) ∧ (∀ (s : Shared) (u : Value), BindsTo s fd ⟨[u], []⟩ [("_law_script", u)]) ∧
        (∀ (H : Hp) (a : Addr) (ns : List Int) (so : Option HO), ns.length ≤ 63 → (∀ z ∈ ns, Builtin.Int.intBits z ≤ 1048576) → H = H0T (ts.map (·.2)) a so → (so = none ∨ ∃ o xs, so = some (.frz o (.lst xs))) → a ∉ (ts.map (·.2)).map (·.2) → SqL K H a (ns.map V.int) → sp [.ref a] H (fun v _ => v = .bl true) fun _ _ _ => False) ∧
        ∀ base : Heap, K.In base → base.Ns mainGlobals mg → (∀ t ∈ ts, LamX.TabB base mg t.2.1 t.2.2) → FnG P w K mg base CX0 8 fa fd ["_law_script"] sp := by
  subst hfa
  refine ⟨T.d_law, tabs T, spM (pp T) 1 (f_law (pp T)), fun t h => ?_, ht, hb, fun H a ns so hl hbits hH hso hna hS => ?_, fun base _ _ TB => ok_law T TB⟩
  · simp only [tabs, List.mem_cons, List.not_mem_nil, or_false] at h
    rcases h with rfl
    all_goals simp
  · exact spM_start (P := pp T) rfl (fun p hp => by
      simp only [pp, List.mem_cons, List.not_mem_nil, or_false] at hp
      rcases hp with rfl
      all_goals simp [tabs]) hH hso hna hS (law_pure T ns hl)
theorem all_mk {P : Program} {w : World} {K : PySem.W.Frag} {h : Heap} {mg : Str → Option Value} {fa : Addr} (X : K.In h) (G : h.Ns mainGlobals mg) (hfa : mg "law" = some (.ref fa))
  {a_is_list : Addr} {oc_is_list kV_is_list dc_is_list pm_is_list cd_is_list ct_is_list : Value} {od_is_list an_is_list : Option Addr} {sl_is_list : Array (Option Value)}
  {a_is_integer : Addr} {oc_is_integer kV_is_integer dc_is_integer pm_is_integer cd_is_integer ct_is_integer : Value} {od_is_integer an_is_integer : Option Addr} {sl_is_integer : Array (Option Value)}
  {a_is_within : Addr} {oc_is_within kV_is_within dc_is_within pm_is_within cd_is_within ct_is_within : Value} {od_is_within an_is_within : Option Addr} {sl_is_within : Array (Option Value)}
  {a_is_word : Addr} {oc_is_word kV_is_word dc_is_word pm_is_word cd_is_word ct_is_word : Value} {od_is_word an_is_word : Option Addr} {sl_is_word : Array (Option Value)}
  {a_made_of : Addr} {oc_made_of kV_made_of dc_made_of pm_made_of cd_made_of ct_made_of : Value} {od_made_of an_made_of : Option Addr} {sl_made_of : Array (Option Value)}
  {a_need_word : Addr} {oc_need_word kV_need_word dc_need_word pm_need_word cd_need_word ct_need_word : Value} {od_need_word an_need_word : Option Addr} {sl_need_word : Array (Option Value)}
  {a_parts_of_one : Addr} {oc_parts_of_one kV_parts_of_one dc_parts_of_one pm_parts_of_one cd_parts_of_one ct_parts_of_one : Value} {od_parts_of_one an_parts_of_one : Option Addr} {sl_parts_of_one : Array (Option Value)}
  {a_word_at : Addr} {oc_word_at kV_word_at dc_word_at pm_word_at cd_word_at ct_word_at : Value} {od_word_at an_word_at : Option Addr} {sl_word_at : Array (Option Value)}
  {a_law_quill : Addr} {oc_law_quill kV_law_quill dc_law_quill pm_law_quill cd_law_quill ct_law_quill : Value} {od_law_quill an_law_quill : Option Addr} {sl_law_quill : Array (Option Value)}
  {a_law_scratch : Addr} {oc_law_scratch kV_law_scratch dc_law_scratch pm_law_scratch cd_law_scratch ct_law_scratch : Value} {od_law_scratch an_law_scratch : Option Addr} {sl_law_scratch : Array (Option Value)}
  {a_law_pick : Addr} {oc_law_pick kV_law_pick dc_law_pick pm_law_pick cd_law_pick ct_law_pick : Value} {od_law_pick an_law_pick : Option Addr} {sl_law_pick : Array (Option Value)}
  {a_law_made : Addr} {oc_law_made kV_law_made dc_law_made pm_law_made cd_law_made ct_law_made : Value} {od_law_made an_law_made : Option Addr} {sl_law_made : Array (Option Value)}
  {a_law_word : Addr} {oc_law_word kV_law_word dc_law_word pm_law_word cd_law_word ct_law_word : Value} {od_law_word an_law_word : Option Addr} {sl_law_word : Array (Option Value)}
  {a_law_heard : Addr} {oc_law_heard kV_law_heard dc_law_heard pm_law_heard cd_law_heard ct_law_heard : Value} {od_law_heard an_law_heard : Option Addr} {sl_law_heard : Array (Option Value)}
  {a_law_bent : Addr} {oc_law_bent kV_law_bent dc_law_bent pm_law_bent cd_law_bent ct_law_bent : Value} {od_law_bent an_law_bent : Option Addr} {sl_law_bent : Array (Option Value)}
  {a_law_word_right : Addr} {oc_law_word_right kV_law_word_right dc_law_word_right pm_law_word_right cd_law_word_right ct_law_word_right : Value} {od_law_word_right an_law_word_right : Option Addr} {sl_law_word_right : Array (Option Value)}
  {a_law : Addr} {oc_law kV_law dc_law pm_law ct_law : Value} {od_law an_law : Option Addr} {sl_law : Array (Option Value)}
  {t_MOST_NUMBER : Tok}
  {c_CurveError : Addr}
  {c_BadWord : Addr}
  {nm_BadWord qn_BadWord : Str} {NS_BadWord i_BadWord : Addr} {bs_BadWord bm_BadWord sb_BadWord : List Value} {sn_BadWord : List Str} {ab_BadWord : Bool} {col_BadWord : Option Bool} {dd_BadWord : Option Addr} {k0_BadWord k1_BadWord k2_BadWord k3_BadWord k5_BadWord : Option Value} {oc_iBadWord kV_iBadWord dc_iBadWord pm_iBadWord cd_iBadWord ct_iBadWord : Value} {od_iBadWord an_iBadWord : Option Addr} {sl_iBadWord : Array (Option Value)}
  {cc_law tp_law : Addr} {te_law : Value} {tdd_law : Option Addr} {tvs_law : Array Value} {tsl_law : Array (Option Value)}
  {a_FIRST_WORDS : Addr} {fo : Option Addr} {fn : Nat} {fs : Array (Option Value)}
  {fa_0 : Addr} {fo_0 : Option Addr} {fx_0 fy_0 fz_0 : Tok} {fn_0 : Nat} {fs_0 : Array (Option Value)}
  {fa_1 : Addr} {fo_1 : Option Addr} {fx_1 fy_1 fz_1 : Tok} {fn_1 : Nat} {fs_1 : Array (Option Value)}
  {fa_2 : Addr} {fo_2 : Option Addr} {fx_2 fy_2 fz_2 : Tok} {fn_2 : Nat} {fs_2 : Array (Option Value)}
  {fa_3 : Addr} {fo_3 : Option Addr} {fx_3 fy_3 fz_3 : Tok} {fn_3 : Nat} {fs_3 : Array (Option Value)}
  (n_is_list : PySem.W.nsIn K mainGlobals "is_list" = some (some (.ref a_is_list)))
  (l_is_list : K.lookup a_is_list = some ⟨oc_is_list, od_is_list, .func (PySem.W.fnOf "is_list" "is_list" (defArgs s_is_list) (defBody s_is_list) (defScope s_is_list) .none kV_is_list dc_is_list pm_is_list an_is_list cd_is_list ct_is_list), sl_is_list⟩)
  (c_is_list : PySem.W.codeIn K cd_is_list "is_list" = true)
  (k_is_list : PySem.W.keepIn K (.ref a_is_list) = true)
  (n_is_integer : PySem.W.nsIn K mainGlobals "is_integer" = some (some (.ref a_is_integer)))
  (l_is_integer : K.lookup a_is_integer = some ⟨oc_is_integer, od_is_integer, .func (PySem.W.fnOf "is_integer" "is_integer" (defArgs s_is_integer) (defBody s_is_integer) (defScope s_is_integer) .none kV_is_integer dc_is_integer pm_is_integer an_is_integer cd_is_integer ct_is_integer), sl_is_integer⟩)
  (c_is_integer : PySem.W.codeIn K cd_is_integer "is_integer" = true)
  (k_is_integer : PySem.W.keepIn K (.ref a_is_integer) = true)
  (n_is_within : PySem.W.nsIn K mainGlobals "is_within" = some (some (.ref a_is_within)))
  (l_is_within : K.lookup a_is_within = some ⟨oc_is_within, od_is_within, .func (PySem.W.fnOf "is_within" "is_within" (defArgs s_is_within) (defBody s_is_within) (defScope s_is_within) .none kV_is_within dc_is_within pm_is_within an_is_within cd_is_within ct_is_within), sl_is_within⟩)
  (c_is_within : PySem.W.codeIn K cd_is_within "is_within" = true)
  (k_is_within : PySem.W.keepIn K (.ref a_is_within) = true)
  (n_is_word : PySem.W.nsIn K mainGlobals "is_word" = some (some (.ref a_is_word)))
  (l_is_word : K.lookup a_is_word = some ⟨oc_is_word, od_is_word, .func (PySem.W.fnOf "is_word" "is_word" (defArgs s_is_word) (defBody s_is_word) (defScope s_is_word) .none kV_is_word dc_is_word pm_is_word an_is_word cd_is_word ct_is_word), sl_is_word⟩)
  (c_is_word : PySem.W.codeIn K cd_is_word "is_word" = true)
  (k_is_word : PySem.W.keepIn K (.ref a_is_word) = true)
  (n_made_of : PySem.W.nsIn K mainGlobals "made_of" = some (some (.ref a_made_of)))
  (l_made_of : K.lookup a_made_of = some ⟨oc_made_of, od_made_of, .func (PySem.W.fnOf "made_of" "made_of" (defArgs s_made_of) (defBody s_made_of) (defScope s_made_of) .none kV_made_of dc_made_of pm_made_of an_made_of cd_made_of ct_made_of), sl_made_of⟩)
  (c_made_of : PySem.W.codeIn K cd_made_of "made_of" = true)
  (k_made_of : PySem.W.keepIn K (.ref a_made_of) = true)
  (n_need_word : PySem.W.nsIn K mainGlobals "_need_word" = some (some (.ref a_need_word)))
  (l_need_word : K.lookup a_need_word = some ⟨oc_need_word, od_need_word, .func (PySem.W.fnOf "_need_word" "_need_word" (defArgs s_need_word) (defBody s_need_word) (defScope s_need_word) .none kV_need_word dc_need_word pm_need_word an_need_word cd_need_word ct_need_word), sl_need_word⟩)
  (c_need_word : PySem.W.codeIn K cd_need_word "_need_word" = true)
  (k_need_word : PySem.W.keepIn K (.ref a_need_word) = true)
  (n_parts_of_one : PySem.W.nsIn K mainGlobals "_parts_of_one" = some (some (.ref a_parts_of_one)))
  (l_parts_of_one : K.lookup a_parts_of_one = some ⟨oc_parts_of_one, od_parts_of_one, .func (PySem.W.fnOf "_parts_of_one" "_parts_of_one" (defArgs s_parts_of_one) (defBody s_parts_of_one) (defScope s_parts_of_one) .none kV_parts_of_one dc_parts_of_one pm_parts_of_one an_parts_of_one cd_parts_of_one ct_parts_of_one), sl_parts_of_one⟩)
  (c_parts_of_one : PySem.W.codeIn K cd_parts_of_one "_parts_of_one" = true)
  (k_parts_of_one : PySem.W.keepIn K (.ref a_parts_of_one) = true)
  (n_word_at : PySem.W.nsIn K mainGlobals "_word_at" = some (some (.ref a_word_at)))
  (l_word_at : K.lookup a_word_at = some ⟨oc_word_at, od_word_at, .func (PySem.W.fnOf "_word_at" "_word_at" (defArgs s_word_at) (defBody s_word_at) (defScope s_word_at) .none kV_word_at dc_word_at pm_word_at an_word_at cd_word_at ct_word_at), sl_word_at⟩)
  (c_word_at : PySem.W.codeIn K cd_word_at "_word_at" = true)
  (k_word_at : PySem.W.keepIn K (.ref a_word_at) = true)
  (n_law_quill : PySem.W.nsIn K mainGlobals "_law_quill" = some (some (.ref a_law_quill)))
  (l_law_quill : K.lookup a_law_quill = some ⟨oc_law_quill, od_law_quill, .func (PySem.W.fnOf "_law_quill" "_law_quill" (defArgs s_law_quill) (defBody s_law_quill) (defScope s_law_quill) .none kV_law_quill dc_law_quill pm_law_quill an_law_quill cd_law_quill ct_law_quill), sl_law_quill⟩)
  (c_law_quill : PySem.W.codeIn K cd_law_quill "_law_quill" = true)
  (k_law_quill : PySem.W.keepIn K (.ref a_law_quill) = true)
  (n_law_scratch : PySem.W.nsIn K mainGlobals "_law_scratch" = some (some (.ref a_law_scratch)))
  (l_law_scratch : K.lookup a_law_scratch = some ⟨oc_law_scratch, od_law_scratch, .func (PySem.W.fnOf "_law_scratch" "_law_scratch" (defArgs s_law_scratch) (defBody s_law_scratch) (defScope s_law_scratch) .none kV_law_scratch dc_law_scratch pm_law_scratch an_law_scratch cd_law_scratch ct_law_scratch), sl_law_scratch⟩)
  (c_law_scratch : PySem.W.codeIn K cd_law_scratch "_law_scratch" = true)
  (k_law_scratch : PySem.W.keepIn K (.ref a_law_scratch) = true)
  (n_law_pick : PySem.W.nsIn K mainGlobals "_law_pick" = some (some (.ref a_law_pick)))
  (l_law_pick : K.lookup a_law_pick = some ⟨oc_law_pick, od_law_pick, .func (PySem.W.fnOf "_law_pick" "_law_pick" (defArgs s_law_pick) (defBody s_law_pick) (defScope s_law_pick) .none kV_law_pick dc_law_pick pm_law_pick an_law_pick cd_law_pick ct_law_pick), sl_law_pick⟩)
  (c_law_pick : PySem.W.codeIn K cd_law_pick "_law_pick" = true)
  (k_law_pick : PySem.W.keepIn K (.ref a_law_pick) = true)
  (n_law_made : PySem.W.nsIn K mainGlobals "_law_made" = some (some (.ref a_law_made)))
  (l_law_made : K.lookup a_law_made = some ⟨oc_law_made, od_law_made, .func (PySem.W.fnOf "_law_made" "_law_made" (defArgs s_law_made) (defBody s_law_made) (defScope s_law_made) .none kV_law_made dc_law_made pm_law_made an_law_made cd_law_made ct_law_made), sl_law_made⟩)
  (c_law_made : PySem.W.codeIn K cd_law_made "_law_made" = true)
  (k_law_made : PySem.W.keepIn K (.ref a_law_made) = true)
  (n_law_word : PySem.W.nsIn K mainGlobals "_law_word" = some (some (.ref a_law_word)))
  (l_law_word : K.lookup a_law_word = some ⟨oc_law_word, od_law_word, .func (PySem.W.fnOf "_law_word" "_law_word" (defArgs s_law_word) (defBody s_law_word) (defScope s_law_word) .none kV_law_word dc_law_word pm_law_word an_law_word cd_law_word ct_law_word), sl_law_word⟩)
  (c_law_word : PySem.W.codeIn K cd_law_word "_law_word" = true)
  (k_law_word : PySem.W.keepIn K (.ref a_law_word) = true)
  (n_law_heard : PySem.W.nsIn K mainGlobals "_law_heard" = some (some (.ref a_law_heard)))
  (l_law_heard : K.lookup a_law_heard = some ⟨oc_law_heard, od_law_heard, .func (PySem.W.fnOf "_law_heard" "_law_heard" (defArgs s_law_heard) (defBody s_law_heard) (defScope s_law_heard) .none kV_law_heard dc_law_heard pm_law_heard an_law_heard cd_law_heard ct_law_heard), sl_law_heard⟩)
  (c_law_heard : PySem.W.codeIn K cd_law_heard "_law_heard" = true)
  (k_law_heard : PySem.W.keepIn K (.ref a_law_heard) = true)
  (n_law_bent : PySem.W.nsIn K mainGlobals "_law_bent" = some (some (.ref a_law_bent)))
  (l_law_bent : K.lookup a_law_bent = some ⟨oc_law_bent, od_law_bent, .func (PySem.W.fnOf "_law_bent" "_law_bent" (defArgs s_law_bent) (defBody s_law_bent) (defScope s_law_bent) .none kV_law_bent dc_law_bent pm_law_bent an_law_bent cd_law_bent ct_law_bent), sl_law_bent⟩)
  (c_law_bent : PySem.W.codeIn K cd_law_bent "_law_bent" = true)
  (k_law_bent : PySem.W.keepIn K (.ref a_law_bent) = true)
  (n_law_word_right : PySem.W.nsIn K mainGlobals "_law_word_right" = some (some (.ref a_law_word_right)))
  (l_law_word_right : K.lookup a_law_word_right = some ⟨oc_law_word_right, od_law_word_right, .func (PySem.W.fnOf "_law_word_right" "_law_word_right" (defArgs s_law_word_right) (defBody s_law_word_right) (defScope s_law_word_right) .none kV_law_word_right dc_law_word_right pm_law_word_right an_law_word_right cd_law_word_right ct_law_word_right), sl_law_word_right⟩)
  (c_law_word_right : PySem.W.codeIn K cd_law_word_right "_law_word_right" = true)
  (k_law_word_right : PySem.W.keepIn K (.ref a_law_word_right) = true)
  (n_law : PySem.W.nsIn K mainGlobals "law" = some (some (.ref a_law)))
  (l_law : K.lookup a_law = some ⟨oc_law, od_law, .func (PySem.W.fnOf "law" "law" (defArgs s_law) (defBody s_law) (defScope s_law) .none kV_law dc_law pm_law an_law (.ref cc_law) ct_law), sl_law⟩)
  (c_law : PySem.W.codeIn K (.ref cc_law) "law" = true)
  (k_law : PySem.W.keepIn K (.ref a_law) = true)
  (n_MOST_NUMBER : PySem.W.nsIn K mainGlobals "MOST_NUMBER" = some (some (.int 24 t_MOST_NUMBER)))
  (n_CurveError : PySem.W.nsIn K mainGlobals "CurveError" = some (some (.ref c_CurveError)))
  (n_BadWord : PySem.W.nsIn K mainGlobals "BadWord" = some (some (.ref c_BadWord)))
  (xL_BadWord : K.lookup c_BadWord = some (excClassObj nm_BadWord qn_BadWord c_BadWord NS_BadWord bs_BadWord bm_BadWord true sn_BadWord sb_BadWord ab_BadWord col_BadWord dd_BadWord k0_BadWord k1_BadWord k2_BadWord k3_BadWord k5_BadWord "ValueError.__new__"))
  (xr_BadWord : PySem.HandSPX.refsVE bm_BadWord = true)
  (sa_BadWord : PySem.W.findIn K (.ref c_BadWord) "__setattr__" = some (some (.builtin "object.__setattr__")))
  (ge_BadWord : PySem.W.findIn K (.ref c_BadWord) "__getattribute__" = some (some (.builtin "BaseException.__getattribute__")))
  (gg_BadWord : PySem.W.findIn K (.ref c_BadWord) "__getattr__" = some none)
  (fi_BadWord : PySem.W.findIn K (.ref c_BadWord) "__init__" = some (some (.ref i_BadWord)))
  (ti_BadWord : PySem.W.typeIn K (.ref i_BadWord) = some (.type "function"))
  (kc_BadWord : PySem.W.keepIn K (.ref c_BadWord) = true)
  (ec_BadWord : PySem.W.subIn K (.ref c_BadWord) (.type "BaseException") = some true)
  (tc_BadWord : PySem.W.typeIn K (.ref c_BadWord) = some (.type "type"))
  (hd_BadWord : PySem.W.hasDictIn K c_BadWord = true)
  (ic_BadWord : PySem.W.isClsIn K c_BadWord = true)
  (kl_BadWord : PySem.W.findIn K (.ref c_BadWord) "__class__" = some (some (.builtin "object.__class__")))
  (mr_BadWord : PySem.W.mroIn K c_BadWord (.type "object") = some true)
  (li_BadWord : K.lookup i_BadWord = some ⟨oc_iBadWord, od_iBadWord, .func (PySem.W.fnOf "__init__" "BadWord.__init__" (defArgs si_BadWord) (defBody si_BadWord) (defScope si_BadWord) .none kV_iBadWord dc_iBadWord pm_iBadWord an_iBadWord cd_iBadWord ct_iBadWord), sl_iBadWord⟩)
  (ci_BadWord : PySem.W.codeIn K cd_iBadWord "BadWord.__init__" = true)
  (ki_BadWord : PySem.W.keepIn K (.ref i_BadWord) = true)
  (no_BadWord_part : PySem.W.findIn K (.ref c_BadWord) "part" = some none)
  (hxs : PySem.W.specialIn K (.builtin "object.__class__") "__get__" = some (some (.builtin "getset_descriptor.__get__")))
  (hxt : PySem.W.takesIn K (.builtin "object.__class__") = some true)
  (ec_CurveError : PySem.W.subIn K (.ref c_CurveError) (.type "BaseException") = some true)
  (tc_CurveError : PySem.W.typeIn K (.ref c_CurveError) = some (.type "type"))
  (ic_CurveError : PySem.W.isClsIn K c_CurveError = true)
  (sb_BadWord_BadWord : PySem.W.subIn K (.ref c_BadWord) (.ref c_BadWord) = some true)
  (sb_BadWord_CurveError : PySem.W.subIn K (.ref c_BadWord) (.ref c_CurveError) = some true)
  (z_abs : PySem.W.nsIn K mainGlobals "abs" = some none)
  (z_all : PySem.W.nsIn K mainGlobals "all" = some none)
  (z_bool : PySem.W.nsIn K mainGlobals "bool" = some none)
  (z_int : PySem.W.nsIn K mainGlobals "int" = some none)
  (z_isinstance : PySem.W.nsIn K mainGlobals "isinstance" = some none)
  (z_len : PySem.W.nsIn K mainGlobals "len" = some none)
  (z_list : PySem.W.nsIn K mainGlobals "list" = some none)
  (z_range : PySem.W.nsIn K mainGlobals "range" = some none)
  (z_repr : PySem.W.nsIn K mainGlobals "repr" = some none)
  (z_sorted : PySem.W.nsIn K mainGlobals "sorted" = some none)
  (z_tuple : PySem.W.nsIn K mainGlobals "tuple" = some none)
  (z_zip : PySem.W.nsIn K mainGlobals "zip" = some none)
  (n_FW : PySem.W.nsIn K mainGlobals "FIRST_WORDS" = some (some (.ref a_FIRST_WORDS)))
  (l_FW : K.lookup a_FIRST_WORDS = some ⟨.type "tuple", fo, .seq #[.ref fa_0, .ref fa_1, .ref fa_2, .ref fa_3] fn, fs⟩)
  (l_FW_0 : K.lookup fa_0 = some ⟨.type "tuple", fo_0, .seq #[.int 0 fx_0, .int 0 fy_0, .int 0 fz_0] fn_0, fs_0⟩)
  (l_FW_1 : K.lookup fa_1 = some ⟨.type "tuple", fo_1, .seq #[.int 1 fx_1, .int 0 fy_1, .int 0 fz_1] fn_1, fs_1⟩)
  (l_FW_2 : K.lookup fa_2 = some ⟨.type "tuple", fo_2, .seq #[.int 0 fx_2, .int 1 fy_2, .int 0 fz_2] fn_2, fs_2⟩)
  (l_FW_3 : K.lookup fa_3 = some ⟨.type "tuple", fo_3, .seq #[.int 0 fx_3, .int 0 fy_3, .int 1 fz_3] fn_3, fs_3⟩)
  (tl_law : K.lookup cc_law = some ⟨te_law, tdd_law, .fields tvs_law, tsl_law⟩)
  (tv_law : tvs_law[11]? = some (.ref tp_law))
  (tn_law : K.lookup tp_law = none) :
    ∃ (fd : FuncData) (ts : List (Str × Addr × Addr)) (sp : Sp), (∀ t ∈ ts, t.1 ∈ (["law"] : List Str)) ∧ (∀ t ∈ ts, TabF K mg t.1 t.2.1 t.2.2) ∧ (∀ (s : Shared) (u : Value), BindsTo s fd ⟨[u], []⟩ [("_law_script", u)]) ∧
        (∀ (H : Hp) (a : Addr) (ns : List Int) (so : Option HO), ns.length ≤ 63 → (∀ z ∈ ns, Builtin.Int.intBits z ≤ 1048576) → H = H0T (ts.map (·.2)) a so → (so = none ∨ ∃ o xs, so = some (.frz o (.lst xs))) → a ∉ (ts.map (·.2)).map (·.2) → SqL K H a (ns.map V.int) → sp [.ref a] H (fun v _ => v = .bl true) fun _ _ _ => False) ∧
        ∀ base : Heap, K.In base → base.Ns mainGlobals mg → (∀ t ∈ ts, LamX.TabB base mg t.2.1 t.2.2) → FnG P w K mg base CX0 8 fa fd ["_law_script"] sp := by
  have e := hfa.symm.trans (PySem.W.mg_of X G n_law)
  cases e
  refine law_of { a_is_list := a_is_list, d_is_list := _, m_is_list := PySem.W.mg_of X G n_is_list, F_is_list := fun_mk (st := s_is_list) l_is_list c_is_list k_is_list, a_is_integer := a_is_integer, d_is_integer := _, m_is_integer := PySem.W.mg_of X G n_is_integer, F_is_integer := fun_mk (st := s_is_integer) l_is_integer c_is_integer k_is_integer, a_is_within := a_is_within, d_is_within := _, m_is_within := PySem.W.mg_of X G n_is_within, F_is_within := fun_mk (st := s_is_within) l_is_within c_is_within k_is_within, a_is_word := a_is_word, d_is_word := _, m_is_word := PySem.W.mg_of X G n_is_word, F_is_word := fun_mk (st := s_is_word) l_is_word c_is_word k_is_word, a_made_of := a_made_of, d_made_of := _, m_made_of := PySem.W.mg_of X G n_made_of, F_made_of := fun_mk (st := s_made_of) l_made_of c_made_of k_made_of, a_need_word := a_need_word, d_need_word := _, m_need_word := PySem.W.mg_of X G n_need_word, F_need_word := fun_mk (st := s_need_word) l_need_word c_need_word k_need_word, a_parts_of_one := a_parts_of_one, d_parts_of_one := _, m_parts_of_one := PySem.W.mg_of X G n_parts_of_one, F_parts_of_one := fun_mk (st := s_parts_of_one) l_parts_of_one c_parts_of_one k_parts_of_one, a_word_at := a_word_at, d_word_at := _, m_word_at := PySem.W.mg_of X G n_word_at, F_word_at := fun_mk (st := s_word_at) l_word_at c_word_at k_word_at, a_law_quill := a_law_quill, d_law_quill := _, m_law_quill := PySem.W.mg_of X G n_law_quill, F_law_quill := fun_mk (st := s_law_quill) l_law_quill c_law_quill k_law_quill, a_law_scratch := a_law_scratch, d_law_scratch := _, m_law_scratch := PySem.W.mg_of X G n_law_scratch, F_law_scratch := fun_mk (st := s_law_scratch) l_law_scratch c_law_scratch k_law_scratch, a_law_pick := a_law_pick, d_law_pick := _, m_law_pick := PySem.W.mg_of X G n_law_pick, F_law_pick := fun_mk (st := s_law_pick) l_law_pick c_law_pick k_law_pick, a_law_made := a_law_made, d_law_made := _, m_law_made := PySem.W.mg_of X G n_law_made, F_law_made := fun_mk (st := s_law_made) l_law_made c_law_made k_law_made, a_law_word := a_law_word, d_law_word := _, m_law_word := PySem.W.mg_of X G n_law_word, F_law_word := fun_mk (st := s_law_word) l_law_word c_law_word k_law_word, a_law_heard := a_law_heard, d_law_heard := _, m_law_heard := PySem.W.mg_of X G n_law_heard, F_law_heard := fun_mk (st := s_law_heard) l_law_heard c_law_heard k_law_heard, a_law_bent := a_law_bent, d_law_bent := _, m_law_bent := PySem.W.mg_of X G n_law_bent, F_law_bent := fun_mk (st := s_law_bent) l_law_bent c_law_bent k_law_bent, a_law_word_right := a_law_word_right, d_law_word_right := _, m_law_word_right := PySem.W.mg_of X G n_law_word_right, F_law_word_right := fun_mk (st := s_law_word_right) l_law_word_right c_law_word_right k_law_word_right, a_law := _, d_law := _, m_law := PySem.W.mg_of X G n_law, F_law := ⟨⟨_, _, _, _, _, _, _, _, rfl, l_law, c_law⟩⟩, cc_law := cc_law, tp_law := tp_law, t_MOST_NUMBER := t_MOST_NUMBER, m_MOST_NUMBER := PySem.W.mg_of X G n_MOST_NUMBER, c_CurveError := c_CurveError, m_CurveError := PySem.W.mg_of X G n_CurveError, c_BadWord := c_BadWord, m_BadWord := PySem.W.mg_of X G n_BadWord, i_BadWord := i_BadWord, di_BadWord := _, Fi_BadWord := fun_mk (st := si_BadWord) li_BadWord ci_BadWord ki_BadWord, ox_BadWord := ⟨⟨_, _, _, _, _, _, _, _, _, _, _, _, _, _, _, xL_BadWord, xr_BadWord⟩, sa_BadWord, ec_BadWord, tc_BadWord, kc_BadWord⟩, fi_BadWord := fi_BadWord, ti_BadWord := ti_BadWord, xk_BadWord := ⟨ic_BadWord, ge_BadWord, gg_BadWord, ec_BadWord, hd_BadWord, kl_BadWord, hxs, hxt, mr_BadWord⟩, no_BadWord_part := no_BadWord_part, em_BadWord_BadWord := exm_is ec_BadWord ic_BadWord tc_BadWord sb_BadWord_BadWord, em_BadWord_CurveError := exm_is ec_CurveError ic_CurveError tc_CurveError sb_BadWord_CurveError, ki_BadWord_BadWord := kit_isT ic_BadWord tc_BadWord sb_BadWord_BadWord, ki_BadWord_CurveError := kit_isT ic_CurveError tc_CurveError sb_BadWord_CurveError, z_abs := PySem.W.mg_none_of X G z_abs, z_all := PySem.W.mg_none_of X G z_all, z_bool := PySem.W.mg_none_of X G z_bool, z_int := PySem.W.mg_none_of X G z_int, z_isinstance := PySem.W.mg_none_of X G z_isinstance, z_len := PySem.W.mg_none_of X G z_len, z_list := PySem.W.mg_none_of X G z_list, z_range := PySem.W.mg_none_of X G z_range, z_repr := PySem.W.mg_none_of X G z_repr, z_sorted := PySem.W.mg_none_of X G z_sorted, z_tuple := PySem.W.mg_none_of X G z_tuple, z_zip := PySem.W.mg_none_of X G z_zip, a_FIRST_WORDS := a_FIRST_WORDS, m_FIRST_WORDS := PySem.W.mg_of X G n_FW, k_FIRST_WORDS := ktd_of (vs := [.ref fa_0, .ref fa_1, .ref fa_2, .ref fa_3]) l_FW (by show 4 ≤ sizeLine; decide) (.cons rfl (.cons rfl (.cons rfl (.cons rfl .nil)))) fun e H hk => .cons ((ktd3 l_FW_0).h e H hk) (.cons ((ktd3 l_FW_1).h e H hk) (.cons ((ktd3 l_FW_2).h e H hk) (.cons ((ktd3 l_FW_3).h e H hk) .nil))) } rfl (fun s v => .of_eq rfl) (fun t ht => ?_)
  simp only [tabs, List.mem_cons, List.not_mem_nil, or_false] at ht
  rcases ht with rfl
  · exact ⟨_, _, _, _, _, _, _, PySem.W.mg_of X G n_law, l_law, rfl, rfl, tl_law, tv_law, tn_law⟩
end Ty
open PySem PySem.W PyProof.Rows in
set_option maxRecDepth 100000 in
set_option maxHeartbeats 0 in
theorem PySem.Challenge.cw_typedcurve_k39_words_and_what_they_are_m_holds : PySem.Challenge.rw_typedcurve_k39_words_and_what_they_are_m.Holds := by
  w_on; o_law; k_head; (case hw => w_witness2)
  k_fill
  refine Mi.walkGT (l := PySem.Challenge.rw_typedcurve_k39_words_and_what_they_are_m) (n := 63) (k := 8) (x := "_law_script") ["law"] rfl (by decide) rfl ⟨rfl, by decide, by decide⟩ ?hrec (fun w h Y => by first | exact PySem.W.kIn_of Y | exact PySem.W.km_in_of Y) ?F
  case hrec =>
    intro m hm
    simp only [List.mem_cons, List.not_mem_nil, or_false] at hm
    rcases hm with rfl
    all_goals decide +kernel
  case F =>
    intro w mg fa h KX G hmg
    refine' Ty.all_mk KX G hmg ?n_is_list ?l_is_list ?c_is_list ?k_is_list ?n_is_integer ?l_is_integer ?c_is_integer ?k_is_integer ?n_is_within ?l_is_within ?c_is_within ?k_is_within ?n_is_word ?l_is_word ?c_is_word ?k_is_word ?n_made_of ?l_made_of ?c_made_of ?k_made_of ?n_need_word ?l_need_word ?c_need_word ?k_need_word ?n_parts_of_one ?l_parts_of_one ?c_parts_of_one ?k_parts_of_one ?n_word_at ?l_word_at ?c_word_at ?k_word_at ?n_law_quill ?l_law_quill ?c_law_quill ?k_law_quill ?n_law_scratch ?l_law_scratch ?c_law_scratch ?k_law_scratch ?n_law_pick ?l_law_pick ?c_law_pick ?k_law_pick ?n_law_made ?l_law_made ?c_law_made ?k_law_made ?n_law_word ?l_law_word ?c_law_word ?k_law_word ?n_law_heard ?l_law_heard ?c_law_heard ?k_law_heard ?n_law_bent ?l_law_bent ?c_law_bent ?k_law_bent ?n_law_word_right ?l_law_word_right ?c_law_word_right ?k_law_word_right ?n_law ?l_law ?c_law ?k_law ?n_MOST_NUMBER ?n_CurveError ?n_BadWord ?xL_BadWord ?xr_BadWord ?sa_BadWord ?ge_BadWord ?gg_BadWord ?fi_BadWord ?ti_BadWord ?kc_BadWord ?ec_BadWord ?tc_BadWord ?hd_BadWord ?ic_BadWord ?kl_BadWord ?mr_BadWord ?li_BadWord ?ci_BadWord ?ki_BadWord ?no_BadWord_part ?hxs ?hxt ?ec_CurveError ?tc_CurveError ?ic_CurveError ?sb_BadWord_BadWord ?sb_BadWord_CurveError ?z_abs ?z_all ?z_bool ?z_int ?z_isinstance ?z_len ?z_list ?z_range ?z_repr ?z_sorted ?z_tuple ?z_zip ?n_FW ?l_FW ?l_FW_0 ?l_FW_1 ?l_FW_2 ?l_FW_3 ?tl_law ?tv_law ?tn_law
    (case n_is_list => k_is)
    (case l_is_list => k_is)
    (case c_is_list => k_is)
    (case k_is_list => k_is)
    (case n_is_integer => k_is)
    (case l_is_integer => k_is)
    (case c_is_integer => k_is)
    (case k_is_integer => k_is)
    (case n_is_within => k_is)
    (case l_is_within => k_is)
    (case c_is_within => k_is)
    (case k_is_within => k_is)
    (case n_is_word => k_is)
    (case l_is_word => k_is)
    (case c_is_word => k_is)
    (case k_is_word => k_is)
    (case n_made_of => k_is)
    (case l_made_of => k_is)
    (case c_made_of => k_is)
    (case k_made_of => k_is)
    (case n_need_word => k_is)
    (case l_need_word => k_is)
    (case c_need_word => k_is)
    (case k_need_word => k_is)
    (case n_parts_of_one => k_is)
    (case l_parts_of_one => k_is)
    (case c_parts_of_one => k_is)
    (case k_parts_of_one => k_is)
    (case n_word_at => k_is)
    (case l_word_at => k_is)
    (case c_word_at => k_is)
    (case k_word_at => k_is)
    (case n_law_quill => k_is)
    (case l_law_quill => k_is)
    (case c_law_quill => k_is)
    (case k_law_quill => k_is)
    (case n_law_scratch => k_is)
    (case l_law_scratch => k_is)
    (case c_law_scratch => k_is)
    (case k_law_scratch => k_is)
    (case n_law_pick => k_is)
    (case l_law_pick => k_is)
    (case c_law_pick => k_is)
    (case k_law_pick => k_is)
    (case n_law_made => k_is)
    (case l_law_made => k_is)
    (case c_law_made => k_is)
    (case k_law_made => k_is)
    (case n_law_word => k_is)
    (case l_law_word => k_is)
    (case c_law_word => k_is)
    (case k_law_word => k_is)
    (case n_law_heard => k_is)
    (case l_law_heard => k_is)
    (case c_law_heard => k_is)
    (case k_law_heard => k_is)
    (case n_law_bent => k_is)
    (case l_law_bent => k_is)
    (case c_law_bent => k_is)
    (case k_law_bent => k_is)
    (case n_law_word_right => k_is)
    (case l_law_word_right => k_is)
    (case c_law_word_right => k_is)
    (case k_law_word_right => k_is)
    (case n_law => k_is)
    (case l_law => k_is)
    (case c_law => k_is)
    (case k_law => k_is)
    (case n_MOST_NUMBER => k_is)
    (case n_CurveError => k_is)
    (case n_BadWord => k_is)
    (case xL_BadWord => k_is)
    (case xr_BadWord => decide +kernel)
    (case sa_BadWord => k_is)
    (case ge_BadWord => k_is)
    (case gg_BadWord => k_is)
    (case fi_BadWord => k_is)
    (case ti_BadWord => k_is)
    (case kc_BadWord => k_is)
    (case ec_BadWord => k_is)
    (case tc_BadWord => k_is)
    (case hd_BadWord => k_is)
    (case ic_BadWord => k_is)
    (case kl_BadWord => k_is)
    (case mr_BadWord => k_is)
    (case li_BadWord => k_is)
    (case ci_BadWord => k_is)
    (case ki_BadWord => k_is)
    (case no_BadWord_part => k_is)
    (case hxs => k_is)
    (case hxt => k_is)
    (case ec_CurveError => k_is)
    (case tc_CurveError => k_is)
    (case ic_CurveError => k_is)
    (case sb_BadWord_BadWord => k_is)
    (case sb_BadWord_CurveError => k_is)
    (case z_abs => k_is)
    (case z_all => k_is)
    (case z_bool => k_is)
    (case z_int => k_is)
    (case z_isinstance => k_is)
    (case z_len => k_is)
    (case z_list => k_is)
    (case z_range => k_is)
    (case z_repr => k_is)
    (case z_sorted => k_is)
    (case z_tuple => k_is)
    (case z_zip => k_is)
    (case n_FW => k_is)
    (case l_FW => k_is)
    (case l_FW_0 => k_is)
    (case l_FW_1 => k_is)
    (case l_FW_2 => k_is)
    (case l_FW_3 => k_is)
    (case tl_law => k_is)
    (case tv_law => first | rfl | decide +kernel)
    (case tn_law => kernel_rfl)

