import PyProof.Rows.All
import Wide.All
import OpenK.AllK
import Wide.FinOn
import PyProof.ReprRoads
import HandS.ForMost
import HandS.ForExc
import HandS.Wide
import HandS.Gcd
import HandS.IsInst
import HandS.Defaults
import HandS.NoneIn
import HandS.Style
import HandS.Evl
import PySem.Challenge.RW_typedcurve_k01_what_any_value_is
set_option Elab.async false
set_option linter.all false
set_option maxRecDepth 100000
set_option maxHeartbeats 4000000
namespace Ty
open PySem PySem.Spec PyProof.Rows L2
section
variable {X : Cx}
/-- repr of data -/
def rRepr (K : PySem.W.Frag) : List V → Hp → VK → Prop := fun xs H Q => ∃ a d, xs = [.ref a] ∧ Dp K H (.ref a) d ∧ d.showable = true ∧ d.hasDict = false ∧ d.depth ≤ 60 ∧ d.shown.length ≤ sizeLine ∧ Q (.str d.shown) H
theorem call_repr (hu : X.A.units + 64 < cLine) (hg : X.A.guards = some []) : CallR X (.builtin "repr") (rRepr X.K) := by
  intro pins s σ H xs us Q I r h
  obtain ⟨a, d, rfl, hd, h1, h2, h3, h4, q⟩ := h
  cases r with
  | cons rv rn =>
    cases rn
    cases (show _ = Value.ref a from rv)
    obtain ⟨as, rr⟩ := Dp.reads I d _ _ hd rfl
    refine repr_of_reads' rr h1 (fun z => by rw [h2] at z; cases z) hg (by omega) (fun _ _ e => e) (fun h' u tk hk => ?_) h4
    exact ⟨.str d.shown, H, I.kept hk, ⟨u, rfl⟩, q⟩
/-- a target of several names: a list or a tuple -/
theorem pg_or {tg : Expr} {g g' : TG} (h : PG X tg g) (h' : PG X tg g') : PG X tg (fun v σ H Q => g v σ H Q ∨ g' v σ H Q) := by
  refine ⟨fun pins s σ H v u Q I r hw => ?_⟩
  rcases hw with hw | hw
  · exact h.run pins s σ H v u Q I r hw
  · exact h'.run pins s σ H v u Q I r hw
variable {CX : CXT} {k : Nat} {f : Addr} {fd : FuncData} {ps ks : List Str} {sp : Sp} {E : XK} {x : Str} {p pos : Pos} {kws : List Keyword} {t tk : TA} {g : List Value → List Value → List Value} {gV : List V → List V → List V}
/-- f(k = v, ..) -/
theorem pe_callN0 (F : FnOk X.prog X.w X.K X.mg X.base CX k f fd ps sp) (hr : Room k X.A) (hg : Gl X x) (hm : X.mg x = some (.ref f)) (hk : PySem.W.keepIn X.K (.ref f) = true) (hb : KBn X.K fd ps 0 ks g gV) (hx : Passes CX X E)
    (hkw : PK X kws tk) (hall : (backToKw pos (keywordEach kws X.env)).all (·.1.isSome) = true := by rfl) (hks : (backToKw pos (keywordEach kws X.env)).filterMap (·.1) = ks := by rfl)
    (hdb : (x == ("__debug__" : Str)) = false := by decide)
    (hpl : ((backTo pos (starEach [] X.env)).any (·.1) || (backToKw pos (keywordEach kws X.env)).any (·.1.isNone)) = false := by rfl) :
    PE X (.Call (.Name x p) [] kws pos) (tCallN 0 ks.length sp gV E tNil tk) := by
  refine ⟨fun pins s σ H Q I h => ?_⟩
  refine wpAny_Call_Name_kw (ld_glob I hg hm ?_ hdb)
  refine PySem.W.callWith_KW0 (h₀ := X.base) I.ok.mod.kin hk hall (thn (hkw.run pos pins s σ H _ I h) fun ws s2 hh => ?_) hpl
  obtain ⟨zs, H2, I2, rz, l1, l2, q2⟩ := hh
  refine ⟨I2.kIn, ?_⟩
  rw [hks]
  exact run_fnN F hr hb hx I2 .nil rz l1 l2 q2
end
/-- how a call with keywords binds, no defaults -/
theorem kbn_of {K : PySem.W.Frag} {y qual : Str} {st : Stmt} {f : Addr} {fd : FuncData} {ps : List Str} {n : Nat} {ks : List Str} {g : List Value → List Value → List Value} {gV : List V → List V → List V} (F : Fun K y qual st f fd)
    (h : ∀ (kV doc pm : Value) (an : Option Addr) (cdv ct : Value) (us ws : List Value), us.length = n → ws.length = ks.length → bindArgs (PySem.W.fnOf y qual (defArgs st) (defBody st) (defScope st) .none kV doc pm an cdv ct) ⟨us, ks.zip ws⟩ = pure (ps.zip (g us ws)))
    (hrel : ∀ {vs : List V} {us : List Value} {zs : List V} {ws : List Value}, Vals vs us → Vals zs ws → Vals (gV vs zs) (g us ws)) : KBn K fd ps n ks g gV := by
  obtain ⟨oc, od, kV, doc, pm, an, cdv, ct, osl, rfl, lk, hcd⟩ := F.ex
  exact ⟨fun s us ws _ h1 h2 => .of_eq (h kV doc pm an cdv ct us ws h1 h2), hrel⟩
end Ty

namespace Ty
open PySem PySem.Spec PyProof.Rows L2
theorem Same.new {H : Hp} {p : Addr} {o : HO} (h : H p = none) : Same H (upd H p o) := fun a u e => by
  rw [upd_ne (ne_of_none e h)]
  exact e
/-! ### operators -/
def CPowW (i j : Int) : Prop := 0 ≤ j ∧ j ≤ 100 ∧ i.natAbs.log2 < 1000000
theorem op_powW {X : Cx} : OpR X (binaryOp .Pow) (rI CPowW fun i j => .int (i ^ j.toNat)) := opI fun i j _ _ _ _ _ hc q => by
  refine pow_int hc.1 ?_ q
  have b : Builtin.Int.intBits i ≤ i.natAbs.log2 + 1 := by
    unfold Builtin.Int.intBits
    split <;> omega
  have h1 := hc.1
  have h2 := hc.2.1
  have h3 := hc.2.2
  have h4 : (Builtin.Int.intBits i : Int) ≤ 1000000 := by omega
  have h5 : (Builtin.Int.intBits i : Int) * j ≤ 1000000 * 100 := Int.mul_le_mul h4 h2 h1 (by decide)
  exact Int.le_trans h5 (by decide)
/-- == and != of a list and an empty one -/
def rEqE (K : PySem.W.Frag) : R2 := fun x y H Q => ∃ a b xs, x = .ref a ∧ y = .ref b ∧ SqL K H a xs ∧ SqL K H b [] ∧ Q (.bl xs.isEmpty) H
def rNeE (K : PySem.W.Frag) : R2 := fun x y H Q => ∃ a b xs, x = .ref a ∧ y = .ref b ∧ SqL K H a xs ∧ SqL K H b [] ∧ Q (.bl (!xs.isEmpty)) H
theorem op_eqE {X : Cx} (hu : X.A.units < cLine) : OpR X (compareOp .Eq) (rEqE X.K) := by
  intro pins s σ H x y v u Q I rx ry h
  obtain ⟨a, b, xs, rfl, rfl, ha, hb, q⟩ := h
  cases (show v = Value.ref a from rx)
  cases (show u = Value.ref b from ry)
  obtain ⟨us, r1, p1, _⟩ := I.list ha
  obtain ⟨ws, r2, p2, _⟩ := I.list hb
  cases r2
  cases xs with
  | nil =>
    cases r1
    refine SeqAt.eq_listAt (e := fun _ => true) p1.isList p2.isList rfl hu (fun j h1 _ => absurd h1 (Nat.not_lt_zero _)) ?_
    exact ⟨.bl true, H, I, rfl, q⟩
  | cons z zs =>
    refine SeqAt.eq_list_lengthsAt p1.isList p2.isList ?_ hu ⟨.bl false, H, I, rfl, q⟩
    have e := r1.length
    rw [List.length_cons] at e
    rw [List.size_toArray, ← e]
    rfl
theorem op_neE {X : Cx} (hu : X.A.units < cLine) : OpR X (compareOp .NotEq) (rNeE X.K) := by
  intro pins s σ H x y v u Q I rx ry h
  obtain ⟨a, b, xs, rfl, rfl, ha, hb, q⟩ := h
  cases (show v = Value.ref a from rx)
  cases (show u = Value.ref b from ry)
  obtain ⟨us, r1, p1, _⟩ := I.list ha
  obtain ⟨ws, r2, p2, _⟩ := I.list hb
  cases r2
  cases xs with
  | nil =>
    cases r1
    refine SeqAt.RcNeAt.lists (e := fun _ => true) p1.isList p2.isList rfl hu (fun j h1 _ => absurd h1 (Nat.not_lt_zero _)) _ _ _ _ ?_
    exact ⟨.bl false, H, I, rfl, q⟩
  | cons z zs =>
    refine SeqAt.RcNeAt.lists_lengths p1.isList p2.isList ?_ hu _ _ _ _ ⟨.bl true, H, I, rfl, q⟩
    have e := r1.length
    rw [List.length_cons] at e
    rw [List.size_toArray, ← e]
    rfl
/-! ### any value -/
inductive Da where
  | non
  | bl (b : Bool)
  | int (i : Int)
  | str (x : Str)
  | tup (l : List Da)
  | lst (l : List Da)
  | dic
mutual
inductive Is (H : Hp) : V → Da → Prop
  | non : Is H .non .non
  | bl (b : Bool) : Is H (.bl b) (.bl b)
  | int (i : Int) : Is H (.int i) (.int i)
  | str (x : Str) : Is H (.str x) (.str x)
  | tup {a : Addr} {xs : List V} {ds : List Da} : H a = some (.tup xs) → IsAll H xs ds → Is H (.ref a) (.tup ds)
  | lst {a : Addr} {xs : List V} {ds : List Da} : H a = some (.lst xs) → IsAll H xs ds → Is H (.ref a) (.lst ds)
  | dic {a : Addr} : H a = some (.dK []) → Is H (.ref a) .dic
inductive IsAll (H : Hp) : List V → List Da → Prop
  | nil : IsAll H [] []
  | cons {v : V} {vs : List V} {d : Da} {ds : List Da} : Is H v d → IsAll H vs ds → IsAll H (v :: vs) (d :: ds)
end
mutual
theorem Is.mono {H H' : Hp} (s : Same H H') : ∀ (d : Da) (v : V), Is H v d → Is H' v d
  | .non, _, h => by cases h; exact .non
  | .bl _, _, h => by cases h; exact .bl _
  | .int _, _, h => by cases h; exact .int _
  | .str _, _, h => by cases h; exact .str _
  | .tup ds, _, h => by
    cases h with
    | tup e h => exact .tup (s _ _ e) (IsAll.mono s ds _ h)
  | .lst ds, _, h => by
    cases h with
    | lst e h => exact .lst (s _ _ e) (IsAll.mono s ds _ h)
  | .dic, _, h => by
    cases h with
    | dic e => exact .dic (s _ _ e)
theorem IsAll.mono {H H' : Hp} (s : Same H H') : ∀ (ds : List Da) (vs : List V), IsAll H vs ds → IsAll H' vs ds
  | [], _, h => by cases h; exact .nil
  | d :: ds, _, h => by
    cases h with
    | cons h t => exact .cons (Is.mono s d _ h) (IsAll.mono s ds _ t)
end
theorem Is.up {H H' : Hp} {v : V} {d : Da} (h : Is H v d) (s : Same H H') : Is H' v d := Is.mono s d v h
theorem IsAll.up {H H' : Hp} {v : List V} {d : List Da} (h : IsAll H v d) (s : Same H H') : IsAll H' v d := IsAll.mono s d v h
theorem IsAll.length {H : Hp} : ∀ {vs : List V} {ds : List Da}, IsAll H vs ds → vs.length = ds.length
  | _, [], h => by cases h; rfl
  | _, d :: ds, h => by
    cases h with
    | cons _ t => rw [List.length_cons, List.length_cons, IsAll.length t]
theorem IsAll.at {H : Hp} : ∀ {vs : List V} {ds : List Da} {i : Nat} {v : V}, IsAll H vs ds → vs[i]? = some v → ∃ d, ds[i]? = some d ∧ Is H v d
  | _, [], _, _, h, e => by cases h; simp at e
  | _, d :: ds, 0, _, h, e => by
    cases h with
    | cons h _ =>
      cases (Option.some.inj e)
      exact ⟨d, rfl, h⟩
  | _, d :: ds, i + 1, _, h, e => by
    cases h with
    | @cons _ vs _ _ _ t =>
      have e' : vs[i]? = some _ := e
      obtain ⟨d', h1, h2⟩ := IsAll.at t e'
      exact ⟨d', h1, h2⟩
/-! ### what kind a value is of -/
def kd : Da → String
  | .non => "NoneType" | .bl _ => "bool" | .int _ => "int" | .str _ => "str" | .tup _ => "tuple" | .lst _ => "list" | .dic => "dict"
def isI : Da → Bool
  | .int _ => true | .bl _ => true | _ => false
def isB : Da → Bool
  | .bl _ => true | _ => false
def isN : Da → Bool
  | .int _ => true | _ => false
def isS : Da → Bool
  | .tup _ => true | .lst _ => true | _ => false
def items : Da → List Da
  | .tup l => l | .lst l => l | _ => []
theorem Is.ty {K : PySem.W.Frag} {H : Hp} {v : V} {d : Da} (h : Is H v d) : TyX K H v (.type (kd d)) := by
  cases h with
  | non => exact .base .non
  | bl b => exact .base (.bl b)
  | int i => exact .base (.int i)
  | str x => exact .base (.str x)
  | tup e _ => exact .base (.tup e)
  | lst e _ => exact .base (.lst e)
  | dic e => exact .base (.dK e)
theorem kit_int : ∀ d : Da, kitB (kd d) "int" = some (isI d)
  | .non => show kitB "NoneType" "int" = some false by decide +kernel
  | .bl _ => show kitB "bool" "int" = some true by decide +kernel
  | .int _ => show kitB "int" "int" = some true by decide +kernel
  | .str _ => show kitB "str" "int" = some false by decide +kernel
  | .tup _ => show kitB "tuple" "int" = some false by decide +kernel
  | .lst _ => show kitB "list" "int" = some false by decide +kernel
  | .dic => show kitB "dict" "int" = some false by decide +kernel
theorem kit_bool : ∀ d : Da, kitB (kd d) "bool" = some (isB d)
  | .non => show kitB "NoneType" "bool" = some false by decide +kernel
  | .bl _ => show kitB "bool" "bool" = some true by decide +kernel
  | .int _ => show kitB "int" "bool" = some false by decide +kernel
  | .str _ => show kitB "str" "bool" = some false by decide +kernel
  | .tup _ => show kitB "tuple" "bool" = some false by decide +kernel
  | .lst _ => show kitB "list" "bool" = some false by decide +kernel
  | .dic => show kitB "dict" "bool" = some false by decide +kernel
def isL : Da → Bool
  | .lst _ => true | _ => false
def isT : Da → Bool
  | .tup _ => true | _ => false
theorem kit_list : ∀ d : Da, kitB (kd d) "list" = some (isL d)
  | .non => show kitB "NoneType" "list" = some false by decide +kernel
  | .bl _ => show kitB "bool" "list" = some false by decide +kernel
  | .int _ => show kitB "int" "list" = some false by decide +kernel
  | .str _ => show kitB "str" "list" = some false by decide +kernel
  | .tup _ => show kitB "tuple" "list" = some false by decide +kernel
  | .lst _ => show kitB "list" "list" = some true by decide +kernel
  | .dic => show kitB "dict" "list" = some false by decide +kernel
theorem kit_tuple : ∀ d : Da, kitB (kd d) "tuple" = some (isT d)
  | .non => show kitB "NoneType" "tuple" = some false by decide +kernel
  | .bl _ => show kitB "bool" "tuple" = some false by decide +kernel
  | .int _ => show kitB "int" "tuple" = some false by decide +kernel
  | .str _ => show kitB "str" "tuple" = some false by decide +kernel
  | .tup _ => show kitB "tuple" "tuple" = some true by decide +kernel
  | .lst _ => show kitB "list" "tuple" = some false by decide +kernel
  | .dic => show kitB "dict" "tuple" = some false by decide +kernel
theorem kit_seq {K : PySem.W.Frag} (d : Da) : PySem.W.kitAny K (.type (kd d)) [.type "list", .type "tuple"] = some (isS d) := by
  refine kitAny_cons (kit_ty (kit_list d)) (fun h => kitAny_cons (kit_ty (kit_tuple d)) (fun h2 => ?_) fun h2 => ?_) fun h => ?_
  · rw [kitAny_nil]
    cases d with
    | lst _ => cases h
    | tup _ => cases h2
    | _ => rfl
  · cases d with
    | tup _ => rfl
    | _ => cases h2
  · cases d with
    | lst _ => rfl
    | _ => cases h
section
variable {K : PySem.W.Frag} {H : Hp} {v : V} {d : Da} {Q : VK}
theorem isi_int (h : Is H v d) (q : Q (.bl (isI d)) H) : rIsi K [v, .ty "int"] H Q := ⟨v, .ty "int", _, _, _, rfl, .ty "int", h.ty, kit_ty (kit_int d), q⟩
theorem isi_bool (h : Is H v d) (q : Q (.bl (isB d)) H) : rIsi K [v, .ty "bool"] H Q := ⟨v, .ty "bool", _, _, _, rfl, .ty "bool", h.ty, kit_ty (kit_bool d), q⟩
theorem isi_tuple (h : Is H v d) (q : Q (.bl (isT d)) H) : rIsi K [v, .ty "tuple"] H Q := ⟨v, .ty "tuple", _, _, _, rfl, .ty "tuple", h.ty, kit_ty (kit_tuple d), q⟩
theorem isi_list (h : Is H v d) (q : Q (.bl (isL d)) H) : rIsi K [v, .ty "list"] H Q := ⟨v, .ty "list", _, _, _, rfl, .ty "list", h.ty, kit_ty (kit_list d), q⟩
theorem isi_seq {p : Addr} (h : Is H v d) (hp : H p = some (.tup [.ty "list", .ty "tuple"])) (q : Q (.bl (isS d)) H) : rIsiT K [v, .ref p] H Q :=
  ⟨v, p, _, _, [.type "list", .type "tuple"], _, rfl, hp, .cons (.ty "list") (.cons (.ty "tuple") .nil), h.ty, kit_seq d, q⟩
end
section
variable {X : Cx}
theorem call_isiInt : CallR X (.builtin "isinstance") (fun xs H Q => ∃ x d, xs = [x, .ty "int"] ∧ Is H x d ∧ Q (.bl (isI d)) H) := by
  intro pins s σ H xs us Q I r h
  obtain ⟨x, d, rfl, h, q⟩ := h
  exact call_isi pins s σ H _ us Q I r (isi_int h q)
theorem call_isiBool : CallR X (.builtin "isinstance") (fun xs H Q => ∃ x d, xs = [x, .ty "bool"] ∧ Is H x d ∧ Q (.bl (isB d)) H) := by
  intro pins s σ H xs us Q I r h
  obtain ⟨x, d, rfl, h, q⟩ := h
  exact call_isi pins s σ H _ us Q I r (isi_bool h q)
theorem call_isiList : CallR X (.builtin "isinstance") (fun xs H Q => ∃ x d, xs = [x, .ty "list"] ∧ Is H x d ∧ Q (.bl (isL d)) H) := by
  intro pins s σ H xs us Q I r h
  obtain ⟨x, d, rfl, h, q⟩ := h
  exact call_isi pins s σ H _ us Q I r (isi_list h q)
theorem call_isiTuple : CallR X (.builtin "isinstance") (fun xs H Q => ∃ x d, xs = [x, .ty "tuple"] ∧ Is H x d ∧ Q (.bl (isT d)) H) := by
  intro pins s σ H xs us Q I r h
  obtain ⟨x, d, rfl, h, q⟩ := h
  exact call_isi pins s σ H _ us Q I r (isi_tuple h q)
/-- isinstance(x, (list, tuple)) -/
theorem call_isiSeq : CallR X (.builtin "isinstance") (fun xs H Q => ∃ x d p, xs = [x, .ref p] ∧ H p = some (.tup [.ty "list", .ty "tuple"]) ∧ Is H x d ∧ Q (.bl (isS d)) H) := by
  intro pins s σ H xs us Q I r h
  obtain ⟨x, d, p, rfl, hp, h, q⟩ := h
  exact call_isiT pins s σ H _ us Q I r (isi_seq h hp q)
end
/-- what a sequence holds -/
theorem Is.seq {K : PySem.W.Frag} {H : Hp} {v : V} {d : Da} (h : Is H v d) (s : isS d = true) : ∃ a xs, v = .ref a ∧ (SqL K H a xs ∨ SqT K H a xs) ∧ IsAll H xs (items d) := by
  cases h with
  | tup e h => exact ⟨_, _, rfl, .inr (.inl (.inl e)), h⟩
  | lst e h => exact ⟨_, _, rfl, .inl (.inl (.inl e)), h⟩
  | _ => cases s
end Ty

namespace Ty
open PySem PySem.Spec PyProof.Rows L2
/-- a def's promise where nothing is being shown (repr) around the call -/
structure FnG (P : Program) (w : World) (K : PySem.W.Frag) (mg : Str → Option Value) (base : Heap) (CX : CXT) (k : Nat) (f : Addr) (fd : FuncData) (ps : List Str) (sp : Sp) : Prop where
  len : ∀ vs H Q E, sp vs H Q E → vs.length = ps.length
  run : ∀ (A : Around), A.guards = some [] → ∀ (outer : List Env) (s : Shared) (H : Hp) (args : Args) (us : List Value) (vs : List V) (Q : VK) (E : XK), Room k A → Env0 P w K mg base A outer s H → BindsTo s fd args (ps.zip us) → Vals vs us → sp vs H Q E →
    codeAny (model P w) A (.call (.ref f) args) (CR CX outer P w H s Q E) s
section
variable {P : Program} {w : World} {K : PySem.W.Frag} {mg : Str → Option Value} {base : Heap}
theorem FnG.of {CX : CXT} {k : Nat} {f : Addr} {fd : FuncData} {ps : List Str} {sp : Sp} (F : FnOk P w K mg base CX k f fd ps sp) : FnG P w K mg base CX k f fd ps sp :=
  ⟨F.len, fun A _ outer s H args us vs Q E => F.run A outer s H args us vs Q E⟩
theorem Fun.okX {CX : CXT} {y qual : Str} {st : Stmt} {f : Addr} {fd : FuncData} {N ps : List Str} {k : Nat} {sp : Sp} (F : Fun K y qual st f fd) (S : FnScope N ps (defScope st)) (len : ∀ vs H Q E, sp vs H Q E → vs.length = ps.length)
    (body : ∀ (cdv : Value) (A : Around) (outer : List Env) (s : Shared) (H : Hp) (vs : List V) (Q : VK) (E : XK), A.guards = some [] → Room k (A.deeper (envOfC qual (defScope st) s.heap.objs.size f cdv)) → sp vs H Q E →
      ∃ t, PSs (cxOf CX P w K mg base N qual (defScope st) f cdv A outer s H E) (defBody st) t ∧ t { nx := fun _ H' => Q .non H', rt := Q } (start N vs) H) : FnG P w K mg base CX (k + 1) f fd ps sp := by
  obtain ⟨oc, od, kV, doc, pm, an, cdv, ct, osl, rfl, lk, hcd⟩ := F.ex
  constructor
  · exact len
  intro A hgd outer s H args us vs Q E hr e0 hb r hsp
  obtain ⟨t, ht, hq⟩ := body cdv A outer s H vs Q E hgd (hr.deeper _) hsp
  have up : ∀ b o, base.get? b = some o → s.heap.get? b = some o := fun b o e => (e0.bs b o e).1
  have KX : K.In s.heap := e0.mod.kin.keeps up
  refine codeAny_call_function hr.depth (KX _ _ lk) rfl S.co S.gen rfl (PySem.W.codeRec_of KX hcd) (hb _ _ _ _ (wpAny_newFunctionEnv_cells S.kind ?_ ?_))
  · rintro ⟨n, v⟩ hy
    rcases S.par n (List.of_mem_zip hy).1 with q | q
    · exact Or.inl q
    · exact Or.inr ⟨q, PySem.W.cellsFrom_some _ _ _ (Or.inl q)⟩
  · intro env he s1 x
    subst he
    refine ⟨(e0.mod.nolimit.keeps up).keeps x.toInCall.keep, codeAny_func ?_⟩
    refine wpAny_mono (ht.run [] s1 (start N vs) H _ (inv_start S hr.hd e0 (len _ _ _ _ hsp) r x) hq) ?_ fun _ _ h => h
    intro fl s' hs
    cases fl with
    | ret u => obtain ⟨v, σ', H', J, rv, q⟩ := hs; exact ⟨v, H', J.os, J.bare, J.base, J.hok, rv, q⟩
    | next => obtain ⟨σ', H', J, q⟩ := hs; exact ⟨V.non, H', J.os, J.bare, J.base, J.hok, rfl, q⟩
    | brk => obtain ⟨_, _, _, q⟩ := hs; cases q
    | cont => obtain ⟨_, _, _, q⟩ := hs; cases q
theorem Fun.okG {y qual : Str} {st : Stmt} {f : Addr} {fd : FuncData} {N ps : List Str} {k : Nat} {sp : Sp} (F : Fun K y qual st f fd) (S : FnScope N ps (defScope st)) (len : ∀ vs H Q E, sp vs H Q E → vs.length = ps.length)
    (body : ∀ (cdv : Value) (A : Around) (outer : List Env) (s : Shared) (H : Hp) (vs : List V) (Q : VK) (E : XK), A.guards = some [] → Room k (A.deeper (envOfC qual (defScope st) s.heap.objs.size f cdv)) → sp vs H Q E →
      ∃ t, PSs (cxOf CX0 P w K mg base N qual (defScope st) f cdv A outer s H E).nox (defBody st) t ∧ t { nx := fun _ H' => Q .non H', rt := Q } (start N vs) H) : FnG P w K mg base CX0 (k + 1) f fd ps sp := by
  refine Ty.Fun.okX F S len ?_
  intro cdv A outer s H vs Q E h1 h2 h3
  obtain ⟨t, h4, h5⟩ := body cdv A outer s H vs Q E h1 h2 h3
  exact ⟨t, h4.nox, h5⟩
end
section
variable {X : Cx} {CX : CXT} {k n : Nat} {f : Addr} {fd : FuncData} {ps ks : List Str} {sp : Sp} {E : XK} {x : Str} {p pos : Pos} {e : Expr} {es : List Expr} {t : TA} {dvs : List V} {ds : List Value}
/-- f(e, ..) of such a def -/
theorem pe_callG (hgd : X.A.guards = some []) (F : FnG X.prog X.w X.K X.mg X.base CX k f fd ps sp) (hr : Room k X.A) (hg : Gl X x) (hm : X.mg x = some (.ref f)) (hk : PySem.W.keepIn X.K (.ref f) = true) (hb : Binds X.K fd ps ds) (hd : Vals dvs ds) (hx : Passes CX X E)
    (ha : PA X (e :: es) t) (hdb : (x == ("__debug__" : Str)) = false := by decide) (he : starEach (e :: es) X.env = (false, eval e X.env) :: starEach es X.env := by rfl) (hpl : (backTo pos (starEach es X.env)).any (·.1) = false := by rfl) :
    PE X (.Call (.Name x p) (e :: es) [] pos) (tCall sp dvs E t) := by
  constructor
  intro pins s σ H Q I h
  refine wpAny_Call_Name_kw (ld_glob I hg hm (PySem.W.callWith_K (h₀ := X.base) I.ok.mod.kin hk (thn (ha.run pos pins s σ H _ I h) ?_) he hpl) hdb)
  rintro us s1 ⟨vs, H1, I1, r, q⟩
  have r2 : Vals (vs ++ dvs) (us ++ ds) := r.append hd
  refine ⟨I1.kIn, wpAny_call (codeAny_mono (F.run X.A hgd X.stack s1 H1 ⟨us, []⟩ (us ++ ds) (vs ++ dvs) Q E hr I1.env0 (hb s1 us I1.kIn (r2.length.symm.trans (F.len _ _ _ _ q))) r2 q) ?_)⟩
  intro r s' hq
  cases r with
  | error e => exact hx pins σ H1 s1 e s' I1 hq
  | ok fl =>
    cases fl with
    | ret u => exact I1.after hq
    | _ => cases hq
end
/-- the law's call, where the law's def is promised so -/
theorem lawG {P : Program} {w : World} {K : PySem.W.Frag} {mg mb : Str → Option Value} {CX : CXT} {k : Nat} {fa a : Addr} {fd : FuncData} {x : Str} {sp : Sp} {s1 : Shared} {vs : List Value} {ns : List Int}
    (KX : K.In s1.heap) (hns : s1.heap.Ns mainGlobals mg) (hb : s1.heap.Ns builtinsNs mb) (hbb : ∀ x : Str, x ≠ "__name__" → mb x = bootBuiltins x) (hlim : s1.heap.NoLimit) (hg : s1.gens = #[])
    (ha : s1.heap.get? a = some { cls := .type "list", data := .seq vs.toArray }) (hi : IntsAre vs ns) (hl : ns.length ≤ sizeLine) (hr : Room k callerA)
    (F : ∀ base : Heap, K.In base → base.Ns mainGlobals mg → FnG P w K mg base CX k fa fd [x] sp) (hbind : ∀ (s : Shared) (u : Value), BindsTo s fd ⟨[u], []⟩ [(x, u)])
    (hsp : ∀ H : Hp, Only H → SqL K H a (ns.map V.int) → sp [.ref a] H (fun v _ => v = .bl true) fun _ _ _ => False)
    (hCX : ∀ H e s', CX [] H s1 (fun _ _ _ => False) e s' → False) :
    codeAny (model P w) callerA (.call (.ref fa) ⟨[.ref a], []⟩) (fun r s' => r = .ok (.ret (.bool true)) ∧ OldK s1.heap s'.heap ∧ s'.os = s1.os ∧ AllBare s'.gens) s1 := by
  have rv := vals_ints hi
  suffices main : ∃ H : Hp, Only H ∧ SqL K H a (ns.map V.int) ∧ HOk P w H s1.heap ∧ (∀ b, H b ≠ none → b = a) ∧ (H a ≠ none → K.lookup a = none) by
    obtain ⟨H, hO, hS, hok, hA, hK⟩ := main
    have free : ∀ {b : Addr}, b ≠ a → H b = none := fun {b} z => by
      cases q : H b with
      | none => rfl
      | some _ => exact absurd (hA b (by rw [q]; exact nofun)) z
    have dictFree : ∀ {b : Addr} {o : Obj} {es : Array DictEntry} {ep : Nat}, s1.heap.get? b = some o → o.data = .dict es ep → H b = none := fun {b o es ep} e d => by
      refine free fun z => ?_
      rw [z, ha] at e
      cases e
      cases (show Data.seq vs.toArray _ = Data.dict es ep from d)
    have keepNs : ∀ {b : Addr} {m : Str → Option Value}, s1.heap.Ns b m → (hidT s1.heap H).Ns b m := by
      rintro b m ⟨o, es, ep, e, d, r⟩
      exact ⟨o, es, ep, hidT_get e (dictFree e d), d, r⟩
    have KB : K.In (hidT s1.heap H) := fun b o e => by
      refine hidT_get (KX b o e) ?_
      by_cases z : b = a
      · cases q : H b with
        | none => rfl
        | some _ =>
          have z2 := hK (by rw [← z, q]; exact nofun)
          rw [← z, e] at z2
          cases z2
      · exact free z
    have M : Mod K mg (hidT s1.heap H) := by
      obtain ⟨mc, h1, h2⟩ := hlim
      exact ⟨KB, keepNs hns, ⟨mb, keepNs hb, hbb⟩, ⟨mc, keepNs h1, h2⟩⟩
    have e0 : Env0 P w K mg (hidT s1.heap H) callerA [] s1 H := by
      refine ⟨rfl, M, fun b o e => of_hidT e, Nat.le_of_eq (hidT_size _ _), trivial, ?_, hok, .of_eq hg⟩
      intro b hb
      cases hb
    refine codeAny_mono ((F _ KB (keepNs hns)).run callerA rfl [] s1 H ⟨[.ref a], []⟩ [.ref a] [.ref a] _ _ hr e0 (hbind s1 (.ref a)) (.cons rfl .nil) (hsp H hO hS)) ?_
    intro r s' h
    cases r with
    | error e => exact (hCX H e s' h).elim
    | ok fl =>
      cases fl with
      | ret u =>
        obtain ⟨v, H', os, bare, un, hok', r', q⟩ := h
        subst q
        obtain rfl : u = Value.bool true := r'
        refine ⟨rfl, OldK.of_keep ?_, os, bare⟩
        intro b o e
        cases q : H b with
        | none => exact un.keep b o e q (fun z => by cases z) (by simp)
        | some u =>
          rcases hO b with z | ⟨ob, xs, z⟩
          · rw [q] at z
            cases z
          · obtain ⟨e1, _⟩ := hok b _ z
            obtain ⟨e2, _⟩ := hok' b _ (un.frzs b ob _ z)
            rw [e] at e1
            cases e1
            exact e2
      | _ => cases h
  cases hk : K.lookup a with
  | some o =>
    have e := KX a o hk
    rw [ha] at e
    cases e
    have hz : vs.toArray.size ≤ sizeLine := by
      rw [List.size_toArray, hi.length]
      exact hl
    exact ⟨fun _ => none, fun _ => .inl rfl, .inr ⟨_, vs.toArray, _, hk, rfl, rfl, rfl, hz, by simpa using rv⟩, fun b u z => (nomatch z), fun b z => absurd rfl z, fun z => absurd rfl z⟩
  | none =>
    refine ⟨upd (fun _ => none) a (.frz { cls := .type "list", data := .seq vs.toArray } (.lst (ns.map V.int))), fun b => ?_, .inl (.inr ⟨_, upd_same⟩), fun b u z => ?_, fun b z => ?_, fun _ => rfl⟩
    · by_cases q : b = a
      · subst q
        exact .inr ⟨_, _, upd_same⟩
      · exact .inl (upd_ne q)
    · by_cases q : b = a
      · subst q
        rw [upd_same] at z
        cases z
        exact ⟨ha, by rw [List.length_map]; exact hl, vs, _, rv, ha⟩
      · rw [upd_ne q] at z
        cases z
    · by_cases q : b = a
      · exact q
      · exact absurd (upd_ne q) z
theorem walkG {l : PySem.W.OpenLaw} {n k : Nat} {q : Program} {loose : List Str} {XP : (Str → Option Value) → Heap → Prop} {YP : World → Heap → Prop} {d : DefRec} {K : Params → PySem.W.Frag} {CX : World → CXT} {sp : World → Sp} {x : Str}
    (hn : l.most = some n) (hn2 : n ≤ sizeLine) (hdf : d.params.defaults = []) (hr : Room k callerA)
    (hY : ∀ (w : World) (h : Heap), YP w h → (K w.params).In h)
    (F : ∀ (w : World) (mg : Str → Option Value) (fa : Addr) (h : Heap), (K w.params).In h → h.Ns mainGlobals mg → mg d.name = some (.ref fa) →
      ∃ fd : FuncData, (∀ (s : Shared) (u : Value), BindsTo s fd ⟨[u], []⟩ [(x, u)]) ∧
        ∀ base : Heap, (K w.params).In base → base.Ns mainGlobals mg → FnG l.prog w (K w.params) mg base (CX w) k fa fd [x] (sp w))
    (hsp : ∀ (w : World) (H : Hp) (a : Addr) (ns : List Int), ns.length ≤ n → Only H → SqL (K w.params) H a (ns.map V.int) → sp w [.ref a] H (fun v _ => v = .bl true) fun _ _ _ => False)
    (hCX : ∀ (w : World) (H : Hp) (s : Shared) (e : Value) (s' : Shared), CX w [] H s (fun _ _ _ => False) e s' → False) :
    PySem.W.WalkO q loose XP YP l.row.toRowW d [] (fun f vs => PySem.call f vs) := by
  refine Att.attach_call hn hdf ?_
  intro w s0 s1 mg mb fa o pm cd doc a vs ns G Y ho hd hcd hmg hobj hints hlen hg
  obtain ⟨fd, hb, hF⟩ := F w mg fa _ (hY w _ Y) G.T.g hmg
  refine lawG (hY w _ Y) G.T.g G.T.b G.T.builtins G.T.nolimit hg hobj hints (Nat.le_trans hlen hn2) hr hF hb (hsp w · a ns hlen) ?_
  exact fun H e s' => hCX w H s1 e s'
end Ty
namespace Ty
open PySem PySem.Spec PyProof.Rows L2
/-- the values in the parameters' order -/
def perm {α : Type} (is : List Nat) (l : List α) : List α := is.filterMap fun i => l[i]?
theorem Vals.perm {vs : List V} {us : List Value} (r : Vals vs us) : ∀ is : List Nat, Vals (Ty.perm is vs) (Ty.perm is us)
  | [] => .nil
  | i :: is => by
    have ih := Vals.perm r is
    cases e : vs[i]? with
    | none =>
      have e2 : us[i]? = none := by
        rw [List.getElem?_eq_none_iff] at e ⊢
        rw [← r.length]
        exact e
      have h1 : Ty.perm (i :: is) vs = Ty.perm is vs := by
        unfold Ty.perm
        rw [List.filterMap_cons, e]
      have h2 : Ty.perm (i :: is) us = Ty.perm is us := by
        unfold Ty.perm
        rw [List.filterMap_cons, e2]
      rw [h1, h2]
      exact ih
    | some v =>
      obtain ⟨u, e2, ru⟩ := r.get e
      have h1 : Ty.perm (i :: is) vs = v :: Ty.perm is vs := by
        unfold Ty.perm
        rw [List.filterMap_cons, e]
      have h2 : Ty.perm (i :: is) us = u :: Ty.perm is us := by
        unfold Ty.perm
        rw [List.filterMap_cons, e2]
      rw [h1, h2]
      exact .cons ru ih
/-- what a for or a comprehension walks: a list or a tuple -/
theorem pi_or {X : Cx} {tg l : Expr} {w w' : TI} (h : PI X tg l w) (h' : PI X tg l w') : PI X tg l (fun σ H R => w σ H R ∨ w' σ H R) := by
  refine ⟨?_⟩
  intro pins s σ H R I hw
  rcases hw with hw | hw
  · exact h.run pins s σ H R I hw
  · exact h'.run pins s σ H R I hw
end Ty

namespace Ty
open PySem PySem.Spec PyProof.Rows L2
/-! ### tests -/
section
variable {b : Bool} {c A B : Prop}
theorem iteN (h1 : b = false → A) (h2 : b = true → B) : if (!b) = true then A else B := by
  cases b with
  | false => rw [if_pos (by rfl)]; exact h1 rfl
  | true => rw [if_neg (by decide)]; exact h2 rfl
theorem iteB (h1 : b = true → A) (h2 : b = false → B) : if b = true then A else B := by
  cases b with
  | false => rw [if_neg (by decide)]; exact h2 rfl
  | true => rw [if_pos rfl]; exact h1 rfl
theorem iteD [Decidable c] (h1 : c → A) (h2 : ¬ c → B) : if decide c = true then A else B := by
  by_cases h : c
  · rw [if_pos (decide_eq_true h)]; exact h1 h
  · rw [if_neg (by rw [decide_eq_false h]; decide)]; exact h2 h
theorem iteE [Decidable c] (h1 : ¬ c → A) (h2 : c → B) : if (!decide c) = true then A else B := by
  by_cases h : c
  · rw [if_neg (by rw [decide_eq_true h]; decide)]; exact h2 h
  · rw [if_pos (by rw [decide_eq_false h]; rfl)]; exact h1 h
end
theorem int_ne {i j : Int} (h : ¬ V.int i = V.int j) : i ≠ j := fun e => h (congrArg V.int e)
theorem int_eq {i j : Int} (h : V.int i = V.int j) : i = j := by injection h
/-! ### numbers, points, turns among all values -/
def coprime (a b : Int) : Bool := decide (Nat.gcd a.natAbs b.natAbs = 1)
def isPair : List Da → Bool
  | [.int a, .int b] => decide (2 ≤ b) && coprime a b
  | _ => false
theorem isPair_len : ∀ l : List Da, l.length ≠ 2 → isPair l = false := by
  intro l h
  unfold isPair
  split
  · exact absurd rfl h
  · rfl
def isNum (d : Da) : Bool := isN d || (isS d && isPair (items d))
def isTwo : List Da → Bool
  | [a, b] => isNum a && isNum b
  | _ => false
def isPt (d : Da) : Bool := isS d && isTwo (items d)
/-- above and below the line -/
def above : Da → Int
  | .int i => i
  | .tup [.int a, _] => a
  | .lst [.int a, _] => a
  | _ => 0
def below : Da → Int
  | .int _ => 1
  | .tup [_, .int b] => b
  | .lst [_, .int b] => b
  | _ => 1
def onRing : List Da → Bool
  | [x, y] => decide ((above x * below y) ^ 2 + (above y * below x) ^ 2 = (below x * below y) ^ 2)
  | _ => false
def isTurn (d : Da) : Bool := isPt d && onRing (items d)
def optV : Option Int → V
  | none => .non
  | some i => .int i
def okLo (i : Int) : Option Int → Bool
  | none => true
  | some l => decide (l ≤ i)
def okHi (i : Int) : Option Int → Bool
  | none => true
  | some m => decide (i ≤ m)
def within (d : Da) (lo hi : Option Int) : Bool := match d with
  | .int i => okLo i lo && okHi i hi
  | _ => false
/-! ### promises -/
def spD (f : Da → Bool) : Sp := fun vs H Q _ => ∃ v d, vs = [v] ∧ Is H v d ∧ ∀ H', Same H H' → Q (.bl (f d)) H'
def spW : Sp := fun vs H Q _ => ∃ v d lo hi, vs = [v, optV lo, optV hi] ∧ Is H v d ∧ ∀ H', Same H H' → Q (.bl (within d lo hi)) H'
theorem isN_of {H : Hp} {v : V} {d : Da} (h : Is H v d) (e : isN d = true) : ∃ i, v = .int i ∧ d = .int i := by
  cases h with
  | int i => exact ⟨i, rfl, rfl⟩
  | _ => cases e
/-- the integers of a value are below 2 ^ n -/
def smallA (n : Nat) : List Da → Bool
  | [] => true
  | .int i :: l => decide (i.natAbs < 2 ^ n) && smallA n l
  | _ :: l => smallA n l
def small2 (n : Nat) : Da → Bool
  | .int i => decide (i.natAbs < 2 ^ n)
  | .tup l => smallA n l
  | .lst l => smallA n l
  | _ => true
def small3 (n : Nat) (d : Da) : Bool := (items d).all (small2 n)
/-- more bits than any integer has here -/
def huge : Nat := 200000
def spT : Sp := fun vs H Q _ => ∃ v d, vs = [v] ∧ Is H v d ∧ small3 huge d = true ∧ ∀ H', Same H H' → Q (.bl (isTurn d)) H'
/-- above and below of a number that stands there -/
theorem num_cases {H : Hp} {v : V} {d : Da} (h : Is H v d) (e : isNum d = true) : (∃ i, v = .int i ∧ d = .int i) ∨
    ∃ a i j, v = .ref a ∧ (H a = some (.tup [.int i, .int j]) ∧ d = .tup [.int i, .int j] ∨ H a = some (.lst [.int i, .int j]) ∧ d = .lst [.int i, .int j]) ∧ 2 ≤ j ∧ Nat.gcd i.natAbs j.natAbs = 1 := by
  have two : ∀ {xs : List V} {ds : List Da}, IsAll H xs ds → isPair ds = true → ∃ i j, xs = [.int i, .int j] ∧ ds = [.int i, .int j] ∧ 2 ≤ j ∧ Nat.gcd i.natAbs j.natAbs = 1 := by
    intro xs ds hx hp
    match ds, hp with
    | [.int a, .int b], hp =>
      have hp' : (decide (2 ≤ b) && coprime a b) = true := hp
      rw [Bool.and_eq_true] at hp'
      cases hx with
      | cons h1 hx =>
        cases hx with
        | cons h2 hx =>
          cases hx
          cases h1
          cases h2
          exact ⟨a, b, rfl, rfl, of_decide_eq_true hp'.1, of_decide_eq_true hp'.2⟩
  cases h with
  | int i => exact .inl ⟨i, rfl, rfl⟩
  | tup ha hx =>
    obtain ⟨i, j, rfl, rfl, h2, h3⟩ := two hx (by simpa [isNum, isN, isS, items] using e)
    exact .inr ⟨_, i, j, rfl, .inl ⟨ha, rfl⟩, h2, h3⟩
  | lst ha hx =>
    obtain ⟨i, j, rfl, rfl, h2, h3⟩ := two hx (by simpa [isNum, isN, isS, items] using e)
    exact .inr ⟨_, i, j, rfl, .inr ⟨ha, rfl⟩, h2, h3⟩
  | _ => cases e
/-- a number's two parts, given as a pair: a tuple, or the list itself -/
def spParts : Sp := fun vs H Q _ => ∃ v d, vs = [v] ∧ Is H v d ∧ isNum d = true ∧ ∀ H' p, Same H H' → (H' p = some (.tup [.int (above d), .int (below d)]) ∨ H' p = some (.lst [.int (above d), .int (below d)])) → Q (.ref p) H'
end Ty
namespace Ty
open PySem PySem.Spec PyProof.Rows L2
theorem dec_int (i j : Int) : decide (V.int i = V.int j) = decide (i = j) := by
  by_cases h : i = j
  · rw [decide_eq_true h]
    exact decide_eq_true (by rw [h])
  · rw [decide_eq_false h]
    exact decide_eq_false fun z => h (int_eq z)
/-- a number's two parts as a pair -/
def PtP (H : Hp) (u : V) (d : Da) : Prop := ∃ p, u = .ref p ∧ (H p = some (.tup [.int (above d), .int (below d)]) ∨ H p = some (.lst [.int (above d), .int (below d)]))
theorem PtP.up {H H' : Hp} {u : V} {d : Da} (h : PtP H u d) (s : Same H H') : PtP H' u d := by
  obtain ⟨p, rfl, h | h⟩ := h
  · exact ⟨p, rfl, .inl (s _ _ h)⟩
  · exact ⟨p, rfl, .inr (s _ _ h)⟩
theorem PtP.upd {H : Hp} {u : V} {d : Da} {D : Addr} {o : HO} {acc : List V} (h : PtP H u d) (hD : H D = some (.lst acc)) (hl : acc.length ≠ 2) : PtP (L2.upd H D o) u d := by
  obtain ⟨p, rfl, h | h⟩ := h
  · refine ⟨p, rfl, .inl ?_⟩
    rw [upd_ne (ne_of h hD (by intro z; cases z))]
    exact h
  · refine ⟨p, rfl, .inr ?_⟩
    rw [upd_ne (fun z => by
      rw [z, hD] at h
      injection h with h
      injection h with h
      exact hl (by rw [h]; rfl))]
    exact h
theorem un2 {K : PySem.W.Frag} {H : Hp} {u : V} {d : Da} {i j : Nat} {σ : L2.St} {Q : L2.St → Hp → Prop} (h : PtP H u d) (q : Q ((σ.set i (some (.int (above d)))).set j (some (.int (below d)))) H) :
    gUnl K 2 (gCons (gName i) (gCons (gName j) gNil)) u σ H Q ∨ gTup K 2 (gCons (gName i) (gCons (gName j) gNil)) u σ H Q := by
  obtain ⟨p, rfl, h | h⟩ := h
  · exact .inr ⟨p, _, rfl, .inl (.inl h), rfl, _, _, rfl, _, _, rfl, rfl, q⟩
  · exact .inl ⟨p, _, rfl, .inl (.inl h), rfl, _, _, rfl, _, _, rfl, rfl, q⟩
theorem parts_small {n : Nat} {d : Da} (h0 : 0 < n) (h : isNum d = true) (hs : small2 n d = true) : (above d).natAbs < 2 ^ n ∧ (below d).natAbs < 2 ^ n := by
  have one : (1 : Int).natAbs < 2 ^ n := Nat.one_lt_two_pow (by omega)
  match d, h, hs with
  | .int i, _, hs => exact ⟨of_decide_eq_true hs, one⟩
  | .tup [.int a, .int b], _, hs =>
    have hs' : (decide (a.natAbs < 2 ^ n) && (decide (b.natAbs < 2 ^ n) && true)) = true := hs
    rw [Bool.and_eq_true, Bool.and_eq_true] at hs'
    exact ⟨of_decide_eq_true hs'.1, of_decide_eq_true hs'.2.1⟩
  | .lst [.int a, .int b], _, hs =>
    have hs' : (decide (a.natAbs < 2 ^ n) && (decide (b.natAbs < 2 ^ n) && true)) = true := hs
    rw [Bool.and_eq_true, Bool.and_eq_true] at hs'
    exact ⟨of_decide_eq_true hs'.1, of_decide_eq_true hs'.2.1⟩
theorem pow_ok {i : Int} {a : Nat} (h : i.natAbs < 2 ^ a) (h0 : 0 < a) (ha : a ≤ 1000000) : CPowW i 2 :=
  ⟨by decide, by decide, Nat.lt_of_lt_of_le (PySem.Flt.log2_lt_of h0 h) ha⟩
theorem Same.mut {H H' : Hp} {p : Addr} {o : HO} (e : Same H H') (h : H p = none) : Same H (upd H' p o) := fun a u ha => by
  rw [upd_ne (ne_of_none ha h)]
  exact e a u ha
theorem isPt_of {d : Da} (h : isPt d = true) : isS d = true ∧ ∃ x y, items d = [x, y] ∧ isNum x = true ∧ isNum y = true := by
  have h' : (isS d && isTwo (items d)) = true := h
  rw [Bool.and_eq_true] at h'
  refine ⟨h'.1, ?_⟩
  have h2 := h'.2
  match items d, h2 with
  | [x, y], h2 =>
    have h3 : (isNum x && isNum y) = true := h2
    rw [Bool.and_eq_true] at h3
    exact ⟨x, y, rfl, h3.1, h3.2⟩
theorem IsAll.two {H : Hp} {xs : List V} {x y : Da} (h : IsAll H xs [x, y]) : ∃ u v, xs = [u, v] ∧ Is H u x ∧ Is H v y := by
  cases h with
  | cons h1 h =>
    cases h with
    | cons h2 h =>
      cases h
      exact ⟨_, _, rfl, h1, h2⟩
end Ty

namespace Ty
open PySem PySem.Spec PyProof.Rows L2
/-! ### what is drawn from: one list that changes, all else stays -/
/-- the heap without some addresses -/
def mn (S : Addr → Bool) (H : Hp) : Hp := fun b => if S b = true then none else H b
theorem mn_at {S : Addr → Bool} {H : Hp} {b : Addr} (h : S b = false) : mn S H b = H b := if_neg (by rw [h]; decide)
theorem mn_of {S : Addr → Bool} {H : Hp} {b : Addr} {o : HO} (h : mn S H b = some o) : S b = false ∧ H b = some o := by
  cases e : S b with
  | true =>
    have z : mn S H b = none := if_pos e
    rw [z] at h
    cases h
  | false => exact ⟨rfl, (mn_at e).symm.trans h⟩
theorem mn_same {S : Addr → Bool} {H : Hp} : Same (mn S H) H := fun _ _ h => (mn_of h).2
/-- they all stand -/
def Live (S : Addr → Bool) (H : Hp) : Prop := ∀ b, S b = true → H b ≠ none
theorem mn_put {S : Addr → Bool} {H : Hp} {p : Addr} {o : HO} (l : Live S H) (h : H p = none) : mn S (upd H p o) p = some o := by
  have e : S p = false := by
    cases e : S p with
    | false => rfl
    | true => exact absurd h (l p e)
  rw [mn_at e]
  exact upd_same
theorem Same.less {S : Addr → Bool} {H H' : Hp} (s : Same H H') : Same (mn S H) (mn S H') := fun b o h => by
  obtain ⟨h1, h2⟩ := mn_of h
  rw [mn_at h1]
  exact s _ _ h2
/-- what is not the list at j stays -/
def Keep (j : Addr) (H H' : Hp) : Prop := ∀ b o, b ≠ j → H b = some o → H' b = some o
theorem Keep.refl {j : Addr} (H : Hp) : Keep j H H := fun _ _ _ h => h
theorem Keep.trans {j : Addr} {H H1 H2 : Hp} (a : Keep j H H1) (b : Keep j H1 H2) : Keep j H H2 := fun c o h e => b c o h (a c o h e)
theorem Same.keep {j : Addr} {H H' : Hp} (s : Same H H') : Keep j H H' := fun b o _ h => s b o h
theorem keep_upd {H : Hp} {j : Addr} {o : HO} : Keep j H (upd H j o) := fun b u h e => by
  rw [upd_ne h]
  exact e
theorem Keep.less {S : Addr → Bool} {j : Addr} {H H' : Hp} (k : Keep j H H') (hj : S j = true) : Same (mn S H) (mn S H') := fun b o h => by
  obtain ⟨h1, h2⟩ := mn_of h
  rw [mn_at h1]
  exact k b o (fun z => by rw [z, hj] at h1; cases h1) h2
/-- the list at j: the cells, how many were begun (n at most), what is left of a great one -/
def Jar (j b : Addr) (H : Hp) (n : Nat) : Prop := ∃ (cells : List Int) (at_ left : Int), H j = some (.lst [.ref b, .int at_, .int left]) ∧ H b = some (.lst (cells.map V.int)) ∧ b ≠ j ∧ 0 ≤ at_ ∧ at_ ≤ (n : Int)
theorem Jar.up {j bk : Addr} {H H' : Hp} {n : Nat} (h : Jar j bk H n) (s : Same H H') : Jar j bk H' n := by
  obtain ⟨cells, a, l, h1, h2, h3, h4⟩ := h
  exact ⟨cells, a, l, s _ _ h1, s _ _ h2, h3, h4⟩
theorem Live.up {S : Addr → Bool} {j bk : Addr} {H H' : Hp} {n : Nat} (l : Live S H) (k : Keep j H H') (J : Jar j bk H' n) : Live S H' := fun b hb => by
  by_cases e : b = j
  · subst e
    obtain ⟨cells, a, lf, h1, _⟩ := J
    rw [h1]
    exact nofun
  · cases q : H b with
    | none => exact absurd q (l b hb)
    | some o =>
      rw [k b o e q]
      exact nofun
theorem Jar.put {j bk a : Addr} {H : Hp} {n : Nat} {o : HO} (h : Jar j bk H n) (h1 : a ≠ j) (h2 : a ≠ bk) : Jar j bk (upd H a o) n := by
  obtain ⟨cells, at_, l, e1, e2, e3⟩ := h
  refine ⟨cells, at_, l, ?_, ?_, e3⟩
  · rw [upd_ne h1.symm]
    exact e1
  · rw [upd_ne h2.symm]
    exact e2
theorem Jar.newB {j bk p : Addr} {H : Hp} {n : Nat} (h : Jar j bk H n) (hp : H p = none) : p ≠ bk := by
  obtain ⟨cells, at_, l, _, h1, _⟩ := h
  exact fun e => by rw [e, h1] at hp; cases hp
theorem Jar.le {j bk : Addr} {H : Hp} {n m : Nat} (h : Jar j bk H n) (s : n ≤ m) : Jar j bk H m := by
  obtain ⟨cells, a, l, h1, h2, h3, h4, h5⟩ := h
  exact ⟨cells, a, l, h1, h2, h3, h4, by omega⟩
theorem Jar.new {j bk p : Addr} {H : Hp} {n : Nat} (h : Jar j bk H n) (hp : H p = none) : p ≠ j := by
  obtain ⟨cells, a, l, h1, _⟩ := h
  exact fun e => by rw [e, h1] at hp; cases hp
/-- an integer from 0 below many -/
def spReach : Sp := fun vs H Q _ => ∃ (j bk : Addr) (many : Int) (n : Nat), vs = [.ref j, .int many] ∧ Jar j bk H n ∧ n ≤ 100000 ∧ 0 < many ∧ many.natAbs < 2 ^ 8000 ∧
  ∀ (r : Int) (H' : Hp), Keep j H H' → Jar j bk H' (n + 1) → 0 ≤ r → r < many → Q (.int r) H'
/-- one of some things -/
def spPick : Sp := fun vs H Q _ => ∃ (j bk p : Addr) (xs : List V) (n : Nat), vs = [.ref j, .ref p] ∧ Jar j bk H n ∧ n ≤ 100000 ∧ H p = some (.lst xs) ∧ p ≠ j ∧ 0 < xs.length ∧ xs.length ≤ 1000 ∧
  ∀ (v : V) (H' : Hp), Keep j H H' → Jar j bk H' (n + 1) → v ∈ xs → Q v H'
/-- what draws, made of the script -/
def spSack (K : PySem.W.Frag) : Sp := fun vs H Q _ => ∃ (a : Addr) (ns : List Int), vs = [.ref a] ∧ SqL K H a (ns.map V.int) ∧ ns.length ≤ 1000 ∧
  ∀ (j bk : Addr) (H' : Hp), Same H H' → H j = none → H bk = none → Jar j bk H' 0 → Q (.ref j) H'
theorem mod_lt_of {a b : Int} (h : 0 < b) : 0 ≤ a % b ∧ a % b < b := ⟨Int.emod_nonneg _ (by omega), Int.emod_lt_of_pos _ h⟩
theorem atI_of {xs : List V} {i : Int} {v : V} {n : Nat} (h0 : 0 ≤ i) (hn : i.toNat = n) (h : xs[n]? = some v) : atI xs i = some v := by
  have e : i = ((n : Nat) : Int) := by omega
  rw [e]
  exact atI_nat h
theorem cut_ints (ns : List Int) (lo hi : Option Int) : ∃ ms : List Int, cutV (ns.map V.int) lo hi = ms.map V.int ∧ ms.length ≤ ns.length := by
  refine ⟨(ns.drop (HT.sIx (ns.map V.int).length 0 lo)).take (HT.sIx (ns.map V.int).length (ns.map V.int).length hi - HT.sIx (ns.map V.int).length 0 lo), ?_, ?_⟩
  · unfold cutV
    rw [List.map_take, List.map_drop]
  · rw [List.length_take, List.length_drop]
    omega
end Ty

namespace Ty
open PySem PySem.Spec PyProof.Rows L2
/-! ### drawing: an expression that may draw from the list at j; S: what is out of the data (j is) -/
/-- from any heap behind H0 the expression gives a value of which P holds; c draws at most -/
def Dr (S : Addr → Bool) (j bk : Addr) (H0 : Hp) (c : Nat) (σ : L2.St) (te : TE) (P : Da → Prop) : Prop := ∀ (H : Hp) (n : Nat) (Q : VK), Keep j H0 H → Live S H → Jar j bk H n → n + c ≤ 100000 →
  (∀ v d H', Keep j H H' → Live S H' → Jar j bk H' (n + c) → Is (mn S H') v d → P d → Q v H') → te σ H Q
def DrA (S : Addr → Bool) (j bk : Addr) (H0 : Hp) (c : Nat) (σ : L2.St) (ta : TA) (P : List Da → Prop) : Prop := ∀ (H : Hp) (n : Nat) (Q : List V → Hp → Prop), Keep j H0 H → Live S H → Jar j bk H n → n + c ≤ 100000 →
  (∀ vs ds H', Keep j H H' → Live S H' → Jar j bk H' (n + c) → IsAll (mn S H') vs ds → P ds → Q vs H') → ta σ H Q
/-- a test -/
def DrT (S : Addr → Bool) (j bk : Addr) (H0 : Hp) (c : Nat) (σ : L2.St) (tt : TT) (P : Bool → Prop) : Prop := ∀ (H : Hp) (n : Nat) (Q : Bool → Hp → Prop), Keep j H0 H → Live S H → Jar j bk H n → n + c ≤ 100000 →
  (∀ b H', Keep j H H' → Live S H' → Jar j bk H' (n + c) → P b → Q b H') → tt σ H Q
theorem Live.more {S : Addr → Bool} {H H' : Hp} (l : Live S H) (s : Same H H') : Live S H' := fun b hb z => by
  cases q : H b with
  | none => exact l b hb q
  | some o =>
    rw [s b o q] at z
    cases z
section
variable {S : Addr → Bool} {j bk : Addr} {H0 H : Hp} {c c1 c2 n : Nat} {σ : L2.St} {te ta tb : TE} {tr : TA} {tt : TT} {P P1 P2 : Da → Prop} {K : PySem.W.Frag}
theorem Dr.imp (h : Dr S j bk H0 c σ te P) (g : ∀ d, P d → P1 d) : Dr S j bk H0 c σ te P1 := fun H n Q kp lv J hn k => h H n Q kp lv J hn fun v d H' kp' lv' J' hi hp => k v d H' kp' lv' J' hi (g d hp)
theorem Dr.later (h : Dr S j bk H0 c σ te P) (kp : Keep j H0 H) : Dr S j bk H c σ te P := fun H1 n Q kp1 lv J hn k => h H1 n Q (kp.trans kp1) lv J hn k
theorem Dr.more (h : Dr S j bk H0 c σ te P) (hc : c ≤ c1) : Dr S j bk H0 c1 σ te P := fun H n Q kp lv J hn k => h H n Q kp lv J (by omega) fun v d H' kp' lv' J' hi hp => k v d H' kp' lv' (J'.le (by omega)) hi hp
theorem dr_non : Dr S j bk H0 0 σ (tC .non) (· = .non) := fun H n Q kp lv J hn k => k _ _ H (Keep.refl _) lv J .non rfl
theorem dr_bl {b : Bool} : Dr S j bk H0 0 σ (tC (.bl b)) (· = .bl b) := fun H n Q kp lv J hn k => k _ _ H (Keep.refl _) lv J (.bl b) rfl
theorem dr_int {i : Int} : Dr S j bk H0 0 σ (tC (.int i)) (· = .int i) := fun H n Q kp lv J hn k => k _ _ H (Keep.refl _) lv J (.int i) rfl
theorem dr_str {x : Str} : Dr S j bk H0 0 σ (tC (.str x)) (· = .str x) := fun H n Q kp lv J hn k => k _ _ H (Keep.refl _) lv J (.str x) rfl
theorem dr_var {i : Nat} {v : V} {d : Da} (hj : S j = true) (h : σ[i]? = some (some v)) (hv : Is (mn S H0) v d) : Dr S j bk H0 0 σ (tVar i) (· = d) := fun H n Q kp lv J hn k => ⟨v, h, k _ _ H (Keep.refl _) lv J (hv.up (kp.less hj)) rfl⟩
theorem dr_varI {i : Nat} {z : Int} (h : σ[i]? = some (some (.int z))) : Dr S j bk H0 0 σ (tVar i) (· = .int z) := fun H n Q kp lv J hn k => ⟨_, h, k _ _ H (Keep.refl _) lv J (.int z) rfl⟩
theorem drA_nil : DrA S j bk H0 0 σ tNil (· = []) := fun H n Q kp lv J hn k => k _ _ H (Keep.refl _) lv J .nil rfl
theorem drA_cons {P2 : List Da → Prop} (hj : S j = true) (h : Dr S j bk H0 c1 σ te P) (hr : DrA S j bk H0 c2 σ tr P2) : DrA S j bk H0 (c1 + c2) σ (tCons te tr) (fun ds => ∃ d r, ds = d :: r ∧ P d ∧ P2 r) := fun H n Q kp lv J hn k =>
  h H n _ kp lv J (by omega) fun v d H1 k1 l1 J1 h1 p1 => hr H1 (n + c1) _ (kp.trans k1) l1 J1 (by omega) fun vs ds H2 k2 l2 J2 h2 p2 => k _ _ H2 (k1.trans k2) l2 (by rwa [Nat.add_assoc] at J2) (.cons (h1.up (k2.less hj)) h2) ⟨d, ds, rfl, p1, p2⟩
theorem dr_tup {P2 : List Da → Prop} (h : DrA S j bk H0 c σ tr P2) (hl : ∀ ds, P2 ds → ds.length ≤ 1000) : Dr S j bk H0 c σ (tTup tr) (fun d => ∃ ds, d = .tup ds ∧ P2 ds) := fun H n Q kp lv J hn k =>
  h H n _ kp lv J hn fun vs ds H1 k1 l1 J1 h1 p1 => ⟨by rw [h1.length]; exact Nat.le_trans (hl ds p1) (by decide), fun p hp =>
    k _ _ _ (k1.trans (Same.keep (Same.new hp))) (l1.more (Same.new hp)) (J1.up (Same.new hp)) (.tup (mn_put l1 hp) (h1.up (Same.less (Same.new hp)))) ⟨ds, rfl, p1⟩⟩
theorem dr_lst {P2 : List Da → Prop} (h : DrA S j bk H0 c σ tr P2) (hl : ∀ ds, P2 ds → ds.length ≤ 1000) : Dr S j bk H0 c σ (tLst tr) (fun d => ∃ ds, d = .lst ds ∧ P2 ds) := fun H n Q kp lv J hn k =>
  h H n _ kp lv J hn fun vs ds H1 k1 l1 J1 h1 p1 => ⟨by rw [h1.length]; exact Nat.le_trans (hl ds p1) (by decide), fun p hp =>
    k _ _ _ (k1.trans (Same.keep (Same.new hp))) (l1.more (Same.new hp)) (J1.up (Same.new hp)) (.lst (mn_put l1 hp) (h1.up (Same.less (Same.new hp)))) ⟨ds, rfl, p1⟩⟩
theorem dr_dict : Dr S j bk H0 0 σ tDNewK (· = .dic) := fun H n Q kp lv J hn k p hp =>
  k _ _ _ (Same.keep (Same.new hp)) (lv.more (Same.new hp)) (J.up (Same.new hp)) (.dic (mn_put lv hp)) rfl
/-- an operation on two integers -/
theorem dr_op {C : Int → Int → Prop} {g : Int → Int → Int} {Pa Pb : Int → Prop} (ha : Dr S j bk H0 c1 σ ta (fun d => ∃ i, d = .int i ∧ Pa i)) (hb : Dr S j bk H0 c2 σ tb (fun d => ∃ i, d = .int i ∧ Pb i)) (hc : ∀ a b, Pa a → Pb b → C a b) :
    Dr S j bk H0 (c1 + c2) σ (tOp (rI C fun i j => .int (g i j)) ta tb) (fun d => ∃ i, d = .int i ∧ ∃ a b, Pa a ∧ Pb b ∧ i = g a b) := fun H n Q kp lv J hn k =>
  ha H n _ kp lv J (by omega) fun v d H1 k1 l1 J1 h1 p1 => hb H1 (n + c1) _ (kp.trans k1) l1 J1 (by omega) fun u e H2 k2 l2 J2 h2 p2 => by
    obtain ⟨a, rfl, pa⟩ := p1
    obtain ⟨b, rfl, pb⟩ := p2
    cases h1
    cases h2
    exact ⟨a, b, rfl, rfl, hc a b pa pb, k _ _ H2 (k1.trans k2) l2 (by rwa [Nat.add_assoc] at J2) (.int _) ⟨_, rfl, a, b, pa, pb, rfl⟩⟩
theorem dr_op0 {g : Int → Int → Int} {Pa Pb : Int → Prop} (ha : Dr S j bk H0 c1 σ ta (fun d => ∃ i, d = .int i ∧ Pa i)) (hb : Dr S j bk H0 c2 σ tb (fun d => ∃ i, d = .int i ∧ Pb i)) :
    Dr S j bk H0 (c1 + c2) σ (tOp (rI0 fun i j => .int (g i j)) ta tb) (fun d => ∃ i, d = .int i ∧ ∃ a b, Pa a ∧ Pb b ∧ i = g a b) := fun H n Q kp lv J hn k =>
  ha H n _ kp lv J (by omega) fun v d H1 k1 l1 J1 h1 p1 => hb H1 (n + c1) _ (kp.trans k1) l1 J1 (by omega) fun u e H2 k2 l2 J2 h2 p2 => by
    obtain ⟨a, rfl, pa⟩ := p1
    obtain ⟨b, rfl, pb⟩ := p2
    cases h1
    cases h2
    exact ⟨a, b, rfl, rfl, k _ _ H2 (k1.trans k2) l2 (by rwa [Nat.add_assoc] at J2) (.int _) ⟨_, rfl, a, b, pa, pb, rfl⟩⟩
theorem dr_neg {i : Int} : Dr S j bk H0 0 σ (tUn (rU fun i => .int (-i)) (tC (.int i))) (· = .int (-i)) := fun H n Q kp lv J hn k => ⟨i, rfl, k _ _ H (Keep.refl _) lv J (.int _) rfl⟩
theorem dr_pow {a b : Int} (h : CPow a b) : Dr S j bk H0 0 σ (tOp (rI CPow fun i j => .int (i ^ j.toNat)) (tC (.int a)) (tC (.int b))) (· = .int (a ^ b.toNat)) := fun H n Q kp lv J hn k => ⟨a, b, rfl, rfl, h, k _ _ H (Keep.refl _) lv J (.int _) rfl⟩
theorem dr_cI {i : Int} : Dr S j bk H0 0 σ (tC (.int i)) (fun d => ∃ z, d = .int z ∧ z = i) := dr_int.imp fun d h => ⟨i, h, rfl⟩
theorem dr_vI {i : Nat} {z : Int} (h : σ[i]? = some (some (.int z))) : Dr S j bk H0 0 σ (tVar i) (fun d => ∃ y, d = .int y ∧ y = z) := (dr_varI h).imp fun d h => ⟨z, h, rfl⟩
/-- a draw: f(jar, many) -/
theorem dr_reach {i : Nat} {many : Int} (h : σ[i]? = some (some (.ref j))) (hp : 0 < many) (hb : many.natAbs < 2 ^ 8000) : Dr S j bk H0 1 σ (tCall spReach [] E0 (tCons (tVar i) (tCons (tC (.int many)) tNil))) (fun d => ∃ r, d = .int r ∧ 0 ≤ r ∧ r < many) := fun H n Q kp lv J hn k =>
  ⟨_, h, j, bk, many, n, rfl, J, by omega, hp, hb, fun r H' k1 J1 h0 h1 => k _ _ H' k1 (lv.up k1 J1) J1 (.int r) ⟨r, rfl, h0, h1⟩⟩
/-- one of some things -/
theorem dr_pick {i : Nat} {P2 : List Da → Prop} (hj : S j = true) (h : σ[i]? = some (some (.ref j))) (hr : DrA S j bk H0 c σ tr P2) (hl : ∀ ds, P2 ds → 0 < ds.length ∧ ds.length ≤ 1000) :
    Dr S j bk H0 (c + 1) σ (tCall spPick [] E0 (tCons (tVar i) (tCons (tLst tr) tNil))) (fun d => ∃ ds, P2 ds ∧ d ∈ ds) := fun H n Q kp lv J hn k =>
  ⟨_, h, hr H n _ kp lv J (by omega) fun vs ds H1 k1 l1 J1 h1 p1 => ⟨by rw [h1.length]; exact Nat.le_trans (hl ds p1).2 (by decide), fun p hp => by
    have hpj := J1.new hp
    have s1 : Same H1 (upd H1 p (.lst vs)) := Same.new hp
    have hl1 := hl ds p1
    have hl2 := h1.length
    refine ⟨j, bk, p, vs, n + c, rfl, J1.up s1, by omega, upd_same, hpj, by omega, by omega, fun v H' k2 J2 hv => ?_⟩
    obtain ⟨i, hi⟩ := List.getElem?_of_mem hv
    obtain ⟨d, hd, hi2⟩ := h1.at hi
    have k3 : Keep j H1 H' := (Same.keep s1).trans k2
    exact k v d H' (k1.trans k3) (l1.up k3 J2) (by rwa [Nat.add_assoc] at J2) (hi2.up (k3.less hj)) ⟨ds, p1, List.mem_of_getElem? hd⟩⟩⟩
/-- if, between two expressions -/
theorem dr_if {PT : Bool → Prop} (h : DrT S j bk H0 c1 σ tt PT) (ha : ∀ H1, Keep j H0 H1 → PT true → Dr S j bk H1 c2 σ ta P) (hb : ∀ H1, Keep j H0 H1 → PT false → Dr S j bk H1 c2 σ tb P) : Dr S j bk H0 (c1 + c2) σ (tIf tt ta tb) P := fun H n Q kp lv J hn k =>
  h H n _ kp lv J (by omega) fun b H1 k1 l1 J1 p1 => by
    have fin : ∀ v d H', Keep j H1 H' → Live S H' → Jar j bk H' (n + c1 + c2) → Is (mn S H') v d → P d → Q v H' := fun v d H' k2 l2 J2 h2 p2 => k v d H' (k1.trans k2) l2 (by rwa [Nat.add_assoc] at J2) h2 p2
    cases b with
    | true => exact ha H1 (kp.trans k1) p1 H1 (n + c1) Q (Keep.refl _) l1 J1 (by omega) fin
    | false => exact hb H1 (kp.trans k1) p1 H1 (n + c1) Q (Keep.refl _) l1 J1 (by omega) fin
/-- a comparison of two integers -/
theorem drT_cmp {g : Int → Int → Bool} {Pa Pb : Int → Prop} (ha : Dr S j bk H0 c1 σ ta (fun d => ∃ i, d = .int i ∧ Pa i)) (hb : Dr S j bk H0 c2 σ tb (fun d => ∃ i, d = .int i ∧ Pb i)) :
    DrT S j bk H0 (c1 + c2) σ (tTest (tOp (rI0 fun i j => .bl (g i j)) ta tb)) (fun k => ∃ a b, Pa a ∧ Pb b ∧ k = g a b) := fun H n Q kp lv J hn k =>
  ha H n _ kp lv J (by omega) fun v d H1 k1 l1 J1 h1 p1 => hb H1 (n + c1) _ (kp.trans k1) l1 J1 (by omega) fun u e H2 k2 l2 J2 h2 p2 => by
    obtain ⟨a, rfl, pa⟩ := p1
    obtain ⟨b, rfl, pb⟩ := p2
    cases h1
    cases h2
    exact ⟨a, b, rfl, rfl, _, rfl, k _ H2 (k1.trans k2) l2 (by rwa [Nat.add_assoc] at J2) ⟨a, b, pa, pb, rfl⟩⟩
theorem drT_eq {Pa Pb : Int → Prop} (ha : Dr S j bk H0 c1 σ ta (fun d => ∃ i, d = .int i ∧ Pa i)) (hb : Dr S j bk H0 c2 σ tb (fun d => ∃ i, d = .int i ∧ Pb i)) :
    DrT S j bk H0 (c1 + c2) σ (tTest (tOp rEq ta tb)) (fun k => ∃ a b, Pa a ∧ Pb b ∧ k = decide (a = b)) := fun H n Q kp lv J hn k =>
  ha H n _ kp lv J (by omega) fun v d H1 k1 l1 J1 h1 p1 => hb H1 (n + c1) _ (kp.trans k1) l1 J1 (by omega) fun u e H2 k2 l2 J2 h2 p2 => by
    obtain ⟨a, rfl, pa⟩ := p1
    obtain ⟨b, rfl, pb⟩ := p2
    cases h1
    cases h2
    exact ⟨rfl, _, rfl, k _ H2 (k1.trans k2) l2 (by rwa [Nat.add_assoc] at J2) ⟨a, b, pa, pb, dec_int a b⟩⟩
/-- list(pair): a new list of a tuple's items -/
theorem dr_listOf {i : Nat} {v : V} {ds : List Da} (hj : S j = true) (h : σ[i]? = some (some v)) (hv : Is (mn S H0) v (.tup ds)) :
    Dr S j bk H0 0 σ (tCB (fun xs H Q => ∃ p ys, xs = [.ref p] ∧ (SqL K H p ys ∨ SqT K H p ys) ∧ ∀ l, H l = none → Q (.ref l) (upd H l (.lst ys))) (tCons (tVar i) tNil)) (· = .lst ds) := fun H n Q kp lv J hn k => by
  have hv' := hv.up (kp.less hj)
  cases hv' with
  | tup e hx =>
    refine ⟨_, h, _, _, rfl, .inr (.inl (.inl (mn_same _ _ e))), fun l hl => ?_⟩
    exact k _ _ _ (Same.keep (Same.new hl)) (lv.more (Same.new hl)) (J.up (Same.new hl)) (.lst (mn_put lv hl) (hx.up (Same.less (Same.new hl)))) rfl
/-! statements -/
theorem dr_asg {i : Nat} {tz : TS} {D : Ends} (h : Dr S j bk H c σ te P) (lv : Live S H) (J : Jar j bk H n) (hn : n + c ≤ 100000) (k : ∀ v d H', Keep j H H' → Live S H' → Jar j bk H' (n + c) → Is (mn S H') v d → P d → tz D (σ.set i (some v)) H') : tSeq (tAsg te (gName i)) tz D σ H :=
  h H n _ (Keep.refl _) lv J hn k
theorem dr_ret {D : Ends} (h : Dr S j bk H c σ te P) (lv : Live S H) (J : Jar j bk H n) (hn : n + c ≤ 100000) (k : ∀ v d H', Keep j H H' → Live S H' → Jar j bk H' (n + c) → Is (mn S H') v d → P d → D.rt v H') : tRet te D σ H :=
  h H n _ (Keep.refl _) lv J hn k
theorem dr_par {i l : Nat} {tz : TS} {D : Ends} {Pa Pb : Da → Prop} (hj : S j = true) (ha : Dr S j bk H c1 σ ta Pa) (hb : Dr S j bk H c2 σ tb Pb) (lv : Live S H) (J : Jar j bk H n) (hn : n + (c1 + c2) ≤ 100000)
    (k : ∀ v d u e H', Keep j H H' → Live S H' → Jar j bk H' (n + (c1 + c2)) → Is (mn S H') v d → Pa d → Is (mn S H') u e → Pb e → tz D ((σ.set i (some v)).set l (some u)) H') : tSeq (tPar i l (tCons ta (tCons tb tNil))) tz D σ H :=
  ha H n _ (Keep.refl _) lv J (by omega) fun v d H1 k1 l1 J1 h1 p1 => hb H1 (n + c1) _ k1 l1 J1 (by omega) fun u e H2 k2 l2 J2 h2 p2 => ⟨v, u, rfl, k v d u e H2 (k1.trans k2) l2 (by rwa [Nat.add_assoc] at J2) (h1.up (k2.less hj)) p1 h2 p2⟩
/-- an if whose test draws -/
theorem dr_ifS {PT : Bool → Prop} {tu tw : TS} {D : Ends} (h : DrT S j bk H c σ tt PT) (lv : Live S H) (J : Jar j bk H n) (hn : n + c ≤ 100000) (h1 : ∀ H', Keep j H H' → Live S H' → Jar j bk H' (n + c) → PT true → tu D σ H') (h2 : ∀ H', Keep j H H' → Live S H' → Jar j bk H' (n + c) → PT false → tw D σ H') : tIfS tt tu tw D σ H :=
  h H n _ (Keep.refl _) lv J hn fun b H' k' l' J' p => by
    cases b with
    | true => exact h1 H' k' l' J' p
    | false => exact h2 H' k' l' J' p
theorem dr_when {PT : Bool → Prop} {tu tz : TS} {D : Ends} (h : DrT S j bk H c σ tt PT) (lv : Live S H) (J : Jar j bk H n) (hn : n + c ≤ 100000) (h1 : ∀ H', Keep j H H' → Live S H' → Jar j bk H' (n + c) → PT true → tu { D with nx := tz D } σ H') (h2 : ∀ H', Keep j H H' → Live S H' → Jar j bk H' (n + c) → PT false → tz D σ H') : tSeq (tIfS tt tu tNext) tz D σ H :=
  dr_ifS h lv J hn h1 h2
end
/-- what is out of the data, j alone -/
def only (j : Addr) : Addr → Bool := fun b => decide (b = j)
theorem only_self {j : Addr} : only j j = true := decide_eq_true rfl
theorem only_live {j bk : Addr} {H : Hp} {n : Nat} (J : Jar j bk H n) : Live (only j) H := fun b hb => by
  have e : b = j := of_decide_eq_true hb
  subst e
  obtain ⟨cells, a, l, h, _⟩ := J
  rw [h]
  exact nofun
end Ty
namespace Ty
open PySem PySem.Spec PyProof.Rows L2
section
variable {S : Addr → Bool} {j bk : Addr} {H0 H : Hp} {c c1 c2 n : Nat} {σ : L2.St} {te ta tb : TE} {tr : TA} {d : Da} {ds : List Da}
theorem drA_consE (hj : S j = true) (h : Dr S j bk H0 0 σ te (· = d)) (hr : DrA S j bk H0 0 σ tr (· = ds)) : DrA S j bk H0 0 σ (tCons te tr) (· = d :: ds) := fun H n Q kp lv J hn k =>
  drA_cons hj h hr H n Q kp lv J hn fun vs es H' k' l' J' h' p' => by
    obtain ⟨_, _, rfl, rfl, rfl⟩ := p'
    exact k vs _ H' k' l' J' h' rfl
theorem dr_tupE (h : DrA S j bk H0 0 σ tr (· = ds)) (hl : ds.length ≤ 1000) : Dr S j bk H0 0 σ (tTup tr) (· = .tup ds) := (dr_tup h fun _ e => by rw [e]; exact hl).imp fun d ⟨_, e1, e2⟩ => by rw [e1, e2]
theorem dr_lstE (h : DrA S j bk H0 0 σ tr (· = ds)) (hl : ds.length ≤ 1000) : Dr S j bk H0 0 σ (tLst tr) (· = .lst ds) := (dr_lst h fun _ e => by rw [e]; exact hl).imp fun d ⟨_, e1, e2⟩ => by rw [e1, e2]
/-- one of written things -/
theorem dr_pickE {i : Nat} (hj : S j = true) (h : σ[i]? = some (some (.ref j))) (hr : DrA S j bk H0 0 σ tr (· = ds)) (hl : 0 < ds.length) (hl2 : ds.length ≤ 1000) :
    Dr S j bk H0 1 σ (tCall spPick [] E0 (tCons (tVar i) (tCons (tLst tr) tNil))) (· ∈ ds) := (dr_pick hj h hr fun _ e => by rw [e]; exact ⟨hl, hl2⟩).imp fun d ⟨_, e1, e2⟩ => by rwa [← e1]
theorem dr_opE {C : Int → Int → Prop} {g : Int → Int → Int} {a b : Int} (ha : Dr S j bk H0 c1 σ ta (· = .int a)) (hb : Dr S j bk H0 c2 σ tb (· = .int b)) (hc : C a b) :
    Dr S j bk H0 (c1 + c2) σ (tOp (rI C fun i j => .int (g i j)) ta tb) (· = .int (g a b)) :=
  (dr_op (Pa := (· = a)) (Pb := (· = b)) (ha.imp fun d e => ⟨a, e, rfl⟩) (hb.imp fun d e => ⟨b, e, rfl⟩) fun _ _ e1 e2 => by rw [e1, e2]; exact hc).imp fun d ⟨i, e, _, _, e1, e2, e3⟩ => by rw [e, e3, e1, e2]
theorem dr_op0E {g : Int → Int → Int} {a b : Int} (ha : Dr S j bk H0 c1 σ ta (· = .int a)) (hb : Dr S j bk H0 c2 σ tb (· = .int b)) :
    Dr S j bk H0 (c1 + c2) σ (tOp (rI0 fun i j => .int (g i j)) ta tb) (· = .int (g a b)) :=
  (dr_op0 (Pa := (· = a)) (Pb := (· = b)) (ha.imp fun d e => ⟨a, e, rfl⟩) (hb.imp fun d e => ⟨b, e, rfl⟩)).imp fun d ⟨i, e, _, _, e1, e2, e3⟩ => by rw [e, e3, e1, e2]
end
end Ty

namespace Ty
open PySem PySem.Spec PyProof.Rows L2
/-- [x for x in xs if test]: whether anything is in it -/
theorem r_filter {K : PySem.W.Frag} {l i : Nat} {tt : TT} {σ : L2.St} {H : Hp} {Q : VK} {a : Addr} {xs : List V} {ds : List Da} (t : Da → Bool) (hv : σ[l]? = some (some (.ref a))) (hs : SqL K H a xs ∨ SqT K H a xs) (hx : IsAll H xs ds) (hlen : xs.length ≤ 1000)
    (hw : ∀ x, wipe ((wipe σ [i]).set i (some x)) [i] = wipe σ [i]) (hi : ∀ x : V, ((wipe σ [i]).set i (some x))[i]? = some (some x))
    (ht : ∀ (x : V) (dx : Da) (H' : Hp) (Q' : Bool → Hp → Prop), Same H H' → Is H' x dx → dx ∈ ds → (∀ H'', Same H' H'' → Q' (t dx) H'') → tt ((wipe σ [i]).set i (some x)) H' Q')
    (k : ∀ (D : Addr) (H' : Hp) (acc : List V), Same H H' → H D = none → H' D = some (.lst acc) → acc.isEmpty = (ds.all fun d => !t d) → Q (.ref D) H') :
    tLc (fun σ H R => iList K (tVar l) σ H R ∨ iTup K (tVar l) σ H R) (gName i) tt (tVar i) [i] σ H Q := by
  have turn : ∀ (D : Addr) (m : Nat) (x : V) (H' : Hp), H D = none → xs[m]? = some x → (Same H H' ∧ ∃ acc, H' D = some (.lst acc) ∧ acc.length ≤ m ∧ acc.isEmpty = ((ds.take m).all fun d => !t d)) →
      gName i x (wipe σ [i]) H' fun σ2 H2 => wipe σ2 [i] = wipe σ [i] ∧ tt σ2 H2 fun b H3 => if b = true then tVar i σ2 H3 fun y H4 => ∃ acc, H4 D = some (.lst acc) ∧ acc.length < sizeLine ∧ (Same H (upd H4 D (.lst (acc ++ [y]))) ∧ ∃ acc', (upd H4 D (.lst (acc ++ [y]))) D = some (.lst acc') ∧ acc'.length ≤ m + 1 ∧ acc'.isEmpty = ((ds.take (m + 1)).all fun d => !t d))
        else (Same H H3 ∧ ∃ acc', H3 D = some (.lst acc') ∧ acc'.length ≤ m + 1 ∧ acc'.isEmpty = ((ds.take (m + 1)).all fun d => !t d)) := by
    rintro D m x H' hD hm ⟨s1, acc, hacc, hl, he⟩
    obtain ⟨dx, hdx, hix⟩ := hx.at hm
    have more : ((ds.take (m + 1)).all fun d => !t d) = (((ds.take m).all fun d => !t d) && !t dx) := by
      rw [List.take_add_one, hdx, List.all_append]
      simp
    have mlt := (List.getElem?_eq_some_iff.mp hm).1
    refine ⟨hw x, ht x dx H' _ s1 (hix.up s1) (List.mem_of_getElem? hdx) fun H3 s3 => iteB (fun c => ?_) fun c => ?_⟩
    · refine ⟨x, hi x, acc, s3 _ _ hacc, Nat.lt_of_le_of_lt (show acc.length ≤ 1000 by omega) (by decide), Same.mut (s1.trans s3) hD, _, upd_same, by rw [List.length_append]; simp; omega, ?_⟩
      rw [more, c]
      simp
    · refine ⟨s1.trans s3, acc, s3 _ _ hacc, by omega, ?_⟩
      rw [more, c, he]
      simp
  have fin : ∀ (D : Addr) (H' : Hp), H D = none → (Same H H' ∧ ∃ acc, H' D = some (.lst acc) ∧ acc.length ≤ xs.length ∧ acc.isEmpty = ((ds.take xs.length).all fun d => !t d)) → Q (.ref D) H' := by
    rintro D H' hD ⟨s1, acc, hacc, _, he⟩
    refine k D H' acc s1 hD hacc ?_
    rwa [hx.length, List.take_length] at he
  rcases hs with hs | hs
  · exact .inl ⟨_, hv, a, rfl, ⟨_, hs⟩, fun D hD => lc_list (xs := xs) (fun m H' => Same H H' ∧ ∃ acc, H' D = some (.lst acc) ∧ acc.length ≤ m ∧ acc.isEmpty = ((ds.take m).all fun d => !t d))
      ⟨Same.new hD, [], upd_same, Nat.le_refl _, by simp⟩ (fun m H' _ p => p.1.seq hs) (fun m x H' hm p => turn D m x H' hD hm p) (fun H' p => fin D H' hD p)⟩
  · exact .inr ⟨_, hv, a, rfl, ⟨_, hs⟩, fun D hD => lc_tup (xs := xs) (fun m H' => Same H H' ∧ ∃ acc, H' D = some (.lst acc) ∧ acc.length ≤ m ∧ acc.isEmpty = ((ds.take m).all fun d => !t d))
      ⟨Same.new hD, [], upd_same, Nat.le_refl _, by simp⟩ (fun m H' _ p => Evl.ex_t p.1 hs) (fun m x H' hm p => turn D m x H' hD hm p) (fun H' p => fin D H' hD p)⟩
/-! ### no divisor -/
def noDiv (a b : Int) (n : Nat) : Bool := (List.range n).all fun k => !(decide (a % (2 + (k : Int)) = 0) && decide (b % (2 + (k : Int)) = 0))
theorem noDiv_gcd {a b : Int} (h2 : 2 ≤ b) {n : Nat} (hn : (n : Int) = b + 1 - 2) : noDiv a b n = coprime a b := by
  unfold noDiv coprime
  by_cases g : Nat.gcd a.natAbs b.natAbs = 1
  · rw [decide_eq_true g, List.all_eq_true]
    intro k hk
    rw [Bool.not_eq_true', Bool.and_eq_false_iff]
    by_cases h1 : a % (2 + (k : Int)) = 0
    · right
      refine decide_eq_false fun h3 => ?_
      have d1 : (2 + k) ∣ a.natAbs := Int.ofNat_dvd_left.mp (by have := Int.dvd_of_emod_eq_zero h1; push_cast; exact this)
      have d2 : (2 + k) ∣ b.natAbs := Int.ofNat_dvd_left.mp (by have := Int.dvd_of_emod_eq_zero h3; push_cast; exact this)
      have d3 := Nat.dvd_gcd d1 d2
      rw [g] at d3
      have := Nat.le_of_dvd (by decide) d3
      omega
    · left
      exact decide_eq_false h1
  · rw [decide_eq_false g, List.all_eq_false]
    have pos : 0 < Nat.gcd a.natAbs b.natAbs := Nat.gcd_pos_of_pos_right _ (by omega)
    have le : Nat.gcd a.natAbs b.natAbs ≤ b.natAbs := Nat.le_of_dvd (by omega) (Nat.gcd_dvd_right _ _)
    refine ⟨Nat.gcd a.natAbs b.natAbs - 2, List.mem_range.mpr (by omega), ?_⟩
    have e : (2 + ((Nat.gcd a.natAbs b.natAbs - 2 : Nat) : Int)) = ((Nat.gcd a.natAbs b.natAbs : Nat) : Int) := by omega
    rw [e]
    have d1 : a % ((Nat.gcd a.natAbs b.natAbs : Nat) : Int) = 0 := Int.emod_eq_zero_of_dvd (Int.ofNat_dvd_left.mpr (Nat.gcd_dvd_left _ _))
    have d2 : b % ((Nat.gcd a.natAbs b.natAbs : Nat) : Int) = 0 := Int.emod_eq_zero_of_dvd (Int.ofNat_dvd_left.mpr (Nat.gcd_dvd_right _ _))
    rw [decide_eq_true d1, decide_eq_true d2]
    decide
def okPair : List Da → Bool
  | [.int _, .int b] => decide (b ≤ 400)
  | _ => true
/-- of a value with such a pair -/
def spForm : Sp := fun vs H Q _ => ∃ v d, vs = [v] ∧ Is H v d ∧ okPair (items d) = true ∧ (items d).length ≤ 1000 ∧ ∀ H', Same H H' → Q (.bl (isNum d)) H'
end Ty
namespace Ty
open PySem PySem.Spec PyProof.Rows L2
section
variable {σ : L2.St} {H : Hp} {D : Ends} {t u : TS} {c c' : TT} {te ta tb : TE} {tr : TA} {Q : VK} {QT : Bool → Hp → Prop} {QA : List V → Hp → Prop} {r : R2} {f : List V → Hp → VK → Prop} {g : TG}
theorem go_next (h : D.nx σ H) : tNext D σ H := h
theorem go_seq (h : t { D with nx := u D } σ H) : tSeq t u D σ H := h
theorem go_if (h : c σ H fun b H1 => if b = true then t D σ H1 else u D σ H1) : tIfS c t u D σ H := h
theorem go_asg (h : te σ H fun x H1 => g x σ H1 D.nx) : tAsg te g D σ H := h
theorem go_ret (h : te σ H D.rt) : tRet te D σ H := h
theorem go_or (h : c σ H fun b H1 => if b = true then QT true H1 else c' σ H1 QT) : tOr c c' σ H QT := h
theorem go_and (h : c σ H fun b H1 => if b = true then c' σ H1 QT else QT false H1) : tAnd c c' σ H QT := h
theorem go_not (h : c σ H fun b H1 => QT (!b) H1) : tNot c σ H QT := h
theorem go_test (h : te σ H fun x H1 => ∃ k, x = .bl k ∧ QT k H1) : tTest te σ H QT := h
theorem go_B (h : te σ H fun x H1 => ∃ k, x = .bl k ∧ QT k H1) : tB te σ H QT := h
theorem go_op (h : ta σ H fun x H1 => tb σ H1 fun y H2 => r x y H2 Q) : tOp r ta tb σ H Q := h
theorem go_cb (h : tr σ H fun vs H1 => f vs H1 Q) : tCB f tr σ H Q := h
theorem go_cons (h : te σ H fun x H1 => tr σ H1 fun xs H2 => QA (x :: xs) H2) : tCons te tr σ H QA := h
end
end Ty
namespace Ty
open PySem PySem.Spec PyProof.Rows L2
def good1 (d : Da) : Bool := okPair (items d) && decide ((items d).length ≤ 1000) && small2 huge d
def good (d : Da) : Bool := good1 d && (items d).all good1
theorem small_big {i : Int} (h : i.natAbs < 2 ^ 200) : decide (i.natAbs < 2 ^ huge) = true := decide_eq_true (Nat.lt_of_lt_of_le h (Nat.pow_le_pow_right (by decide) (by decide)))
theorem good1_int {i : Int} (h : i.natAbs < 2 ^ 200) : good1 (.int i) = true := by
  show (true && true && decide (i.natAbs < 2 ^ huge)) = true
  rw [small_big h]
  decide
theorem good_int {i : Int} (h : i.natAbs < 2 ^ 200) : good (.int i) = true := by
  show (good1 (.int i) && true) = true
  rw [good1_int h]
  decide
theorem good1_pair {a b : Int} (ha : a.natAbs < 2 ^ 200) (hb : b.natAbs < 2 ^ 200) (h4 : b ≤ 400) : good1 (.tup [.int a, .int b]) = true ∧ good1 (.lst [.int a, .int b]) = true := by
  constructor
  · show (decide (b ≤ 400) && true && (decide (a.natAbs < 2 ^ huge) && (decide (b.natAbs < 2 ^ huge) && true))) = true
    rw [small_big ha, small_big hb, decide_eq_true h4]
    decide
  · show (decide (b ≤ 400) && true && (decide (a.natAbs < 2 ^ huge) && (decide (b.natAbs < 2 ^ huge) && true))) = true
    rw [small_big ha, small_big hb, decide_eq_true h4]
    decide
theorem good_pair {a b : Int} (ha : a.natAbs < 2 ^ 200) (hb : b.natAbs < 2 ^ 200) (h4 : b ≤ 400) : good (.tup [.int a, .int b]) = true ∧ good (.lst [.int a, .int b]) = true := by
  have e := good1_pair ha hb h4
  constructor
  · show (good1 (.tup [.int a, .int b]) && (good1 (.int a) && (good1 (.int b) && true))) = true
    rw [e.1, good1_int ha, good1_int hb]
    decide
  · show (good1 (.lst [.int a, .int b]) && (good1 (.int a) && (good1 (.int b) && true))) = true
    rw [e.2, good1_int ha, good1_int hb]
    decide
def spValue : Sp := fun vs H Q _ => ∃ (S : Addr → Bool) (j bk : Addr) (n : Nat), vs = [.ref j] ∧ S j = true ∧ Live S H ∧ Jar j bk H n ∧ n + 3 ≤ 100000 ∧
  ∀ v d H', Keep j H H' → Live S H' → Jar j bk H' (n + 3) → Is (mn S H') v d → good d = true → Q v H'
def spHalves : Sp := fun vs H Q _ => ∃ v d, vs = [v] ∧ Is H v d ∧ isNum d = true ∧ ∀ H' p, Same H H' → H' p = some (.tup [.int (above d), .int (below d)]) → Q (.ref p) H'
def okEach (d : Da) : Bool := decide ((items d).length ≤ 1000) && (items d).all fun e => okPair (items e) && decide ((items e).length ≤ 1000)
def spRound : Sp := fun vs H Q _ => ∃ v d, vs = [v] ∧ Is H v d ∧ okEach d = true ∧ small3 huge d = true ∧ ∀ H', Same H H' → Q (.bl (isTurn d)) H'
def spPair : Sp := fun vs H Q _ => ∃ v d, vs = [v] ∧ Is H v d ∧ okEach d = true ∧ ∀ H', Same H H' → Q (.bl (isPt d)) H'
def spFrac : Sp := fun vs H Q _ => ∃ a b : Int, vs = [.int a, .int b] ∧ 0 < b ∧ a.natAbs < 2 ^ 31 ∧ b < 2 ^ 31 ∧ (∀ i : Int, i.natAbs ≤ a.natAbs → Q (.int i) H) ∧
  ∀ (i m : Int) (p : Addr) (H' : Hp), Same H H' → H p = none → H' p = some (.tup [.int i, .int m]) → i.natAbs ≤ a.natAbs → 0 ≤ m → m ≤ b → Q (.ref p) H'
end Ty
namespace Ty
open PySem PySem.Spec PyProof.Rows L2
theorem ediv_abs {a p : Int} (hp : 0 < p) : (a / p).natAbs ≤ a.natAbs := by
  by_cases h : 0 ≤ a
  · have h1 := Int.ediv_nonneg h (Int.le_of_lt hp)
    have h2 := Int.ediv_le_self p h
    omega
  · have h1 : a / p < 0 := Int.ediv_neg_of_neg_of_pos (by omega) hp
    have h2 : a ≤ a / p := by
      have h3 := Int.lt_ediv_add_one_mul_self a hp
      have h4 : a / p * p ≤ a / p * 1 := Int.mul_le_mul_of_nonpos_left (by omega) (by omega)
      have h5 : (a / p + 1) * p = a / p * p + p := by rw [Int.add_mul, Int.one_mul]
      by_cases h6 : a ≤ a / p
      · exact h6
      · exfalso
        have h7 : a / p + 1 ≤ a := by omega
        have h8 : (a / p + 1) * p ≤ (a / p + 1) * 1 := Int.mul_le_mul_of_nonpos_left (by omega) (by omega)
        omega
    omega
/-- a fraction made of two integers -/
def FracOf (a b : Int) (d : Da) : Prop := (∃ i, d = .int i ∧ i.natAbs ≤ a.natAbs) ∨ ∃ i m, d = .tup [.int i, .int m] ∧ i.natAbs ≤ a.natAbs ∧ 0 ≤ m ∧ m ≤ b
theorem dr_frac {S : Addr → Bool} {j bk : Addr} {H0 : Hp} {σ : L2.St} {ta tb : TE} {a b : Int} (ha : Dr S j bk H0 0 σ ta (· = .int a)) (hb : Dr S j bk H0 0 σ tb (· = .int b)) (h0 : 0 < b) (h1 : a.natAbs < 2 ^ 31) (h2 : b < 2 ^ 31) :
    Dr S j bk H0 0 σ (tCall spFrac [] E0 (tCons ta (tCons tb tNil))) (FracOf a b) := fun H n Q kp lv J hn k =>
  ha H n _ kp lv J hn fun v d H1 k1 l1 J1 i1 p1 => hb H1 n _ (kp.trans k1) l1 J1 hn fun u e H2 k2 l2 J2 i2 p2 => by
    subst p1
    subst p2
    cases i1
    cases i2
    exact ⟨a, b, rfl, h0, h1, h2, fun i hi => k _ _ H2 (k1.trans k2) l2 J2 (.int i) (.inl ⟨i, rfl, hi⟩), fun i m p H' s hp hp' hi hm0 hm1 => by
      have Sp : S p = false := by
        cases e : S p with
        | false => rfl
        | true => exact absurd hp (l2 p e)
      refine k _ _ H' ((k1.trans k2).trans (Same.keep s)) (l2.more s) (J2.up s) (.tup ?_ (.cons (.int i) (.cons (.int m) .nil))) (.inr ⟨i, m, rfl, hi, hm0, hm1⟩)
      rw [mn_at Sp]
      exact hp'⟩
theorem FracOf.good {a b : Int} {d : Da} (h : FracOf a b d) (ha : a.natAbs < 2 ^ 31) (hb : b ≤ 400) : good1 d = true := by
  rcases h with ⟨i, rfl, hi⟩ | ⟨i, m, rfl, hi, hm0, hm1⟩
  · exact good1_int (Nat.lt_of_le_of_lt hi (Nat.lt_trans ha (by decide)))
  · exact (good1_pair (Nat.lt_of_le_of_lt hi (Nat.lt_trans ha (by decide))) (Nat.lt_of_le_of_lt (show m.natAbs ≤ 400 by omega) (by decide)) (by omega)).1
/-- such a value is no list -/
theorem FracOf.off {S S' : Addr → Bool} {H : Hp} {a b : Int} {d : Da} {v : V} {p : Addr} {xs : List V} (h : FracOf a b d) (hv : Is (mn S H) v d) (hp : H p = some (.lst xs)) (hS : ∀ q, S' q = true → S q = true ∨ q = p) : Is (mn S' H) v d := by
  rcases h with ⟨i, rfl, hi⟩ | ⟨i, m, rfl, hi, hm0, hm1⟩
  · cases hv
    exact .int i
  · cases hv with
    | tup e hx =>
      obtain ⟨e1, e2⟩ := mn_of e
      rename_i q ys
      have off : S' q = false := by
        cases z : S' q with
        | false => rfl
        | true =>
          rcases hS q z with w | w
          · rw [w] at e1
            cases e1
          · subst w
            rw [e2] at hp
            cases hp
      have e3 : mn S' H q = some (.tup ys) := by
        rw [mn_at off]
        exact e2
      cases hx with
      | cons x1 hx =>
        cases x1
        cases hx with
        | cons x2 hx =>
          cases x2
          cases hx
          exact .tup e3 (.cons (.int _) (.cons (.int _) .nil))
def spTurn : Sp := fun vs H Q _ => ∃ (S : Addr → Bool) (j bk : Addr) (n : Nat), vs = [.ref j] ∧ S j = true ∧ Live S H ∧ Jar j bk H n ∧ n + 8 ≤ 100000 ∧
  ∀ v d H', Keep j H H' → Live S H' → Jar j bk H' (n + 8) → Is (mn S H') v d → okEach d = true → small3 huge d = true → Q v H'
theorem good1_small {d : Da} (h : good1 d = true) : small2 huge d = true := by
  unfold good1 at h
  rw [Bool.and_eq_true] at h
  exact h.2
theorem good1_ok {d : Da} (h : good1 d = true) : (okPair (items d) && decide ((items d).length ≤ 1000)) = true := by
  unfold good1 at h
  rw [Bool.and_eq_true] at h
  exact h.1
theorem two_ok {x y : Da} (h1 : good1 x = true) (h2 : good1 y = true) : okEach (.lst [x, y]) = true ∧ okEach (.tup [x, y]) = true ∧ small3 huge (.lst [x, y]) = true ∧ small3 huge (.tup [x, y]) = true := by
  have e1 : okEach (.lst [x, y]) = true := by
    show (true && ((okPair (items x) && decide ((items x).length ≤ 1000)) && ((okPair (items y) && decide ((items y).length ≤ 1000)) && true))) = true
    rw [good1_ok h1, good1_ok h2]
    decide
  have e2 : small3 huge (.lst [x, y]) = true := by
    show (small2 huge x && (small2 huge y && true)) = true
    rw [good1_small h1, good1_small h2]
    decide
  exact ⟨e1, e1, e2, e2⟩
theorem good_good1 {d : Da} (h : good d = true) : good1 d = true := by
  unfold good at h
  rw [Bool.and_eq_true] at h
  exact h.1
end Ty
namespace Ty
open PySem PySem.Spec PyProof.Rows L2
theorem sq_bounds {p : Int} (h1 : -7 ≤ p) (h2 : p ≤ 7) : 0 ≤ p * p ∧ p * p ≤ 49 := by
  have e := Int.natAbs_mul_self (a := p)
  have h3 : p.natAbs * p.natAbs ≤ 7 * 7 := Nat.mul_le_mul (by omega) (by omega)
  omega
theorem prod_bounds {p q : Int} (h1 : -7 ≤ p) (h2 : p ≤ 7) (h3 : -7 ≤ q) (h4 : q ≤ 7) : (2 * p * q).natAbs ≤ 98 := by
  rw [Int.natAbs_mul, Int.natAbs_mul]
  have h5 : (2 : Int).natAbs * p.natAbs ≤ 2 * 7 := Nat.mul_le_mul (by decide) (by omega)
  exact Nat.le_trans (Nat.mul_le_mul h5 (show q.natAbs ≤ 7 by omega)) (by decide)
theorem Is.wide {S S' : Addr → Bool} {H : Hp} {v : V} {d : Da} (h : Is (mn S H) v d) (hs : ∀ b, S' b = true → S b = true) : Is (mn S' H) v d := h.up fun b o e => by
  obtain ⟨h1, h2⟩ := mn_of e
  rw [mn_at]
  · exact h2
  · cases z : S' b with
    | false => rfl
    | true =>
      rw [hs b z] at h1
      cases h1
end Ty

namespace Ty
open PySem PySem.Spec PyProof.Rows L2
def top (i : Nat) : Stmt := PySem.Challenge.pw_typedcurve_k01_what_any_value_is.main.body.getD i (.Pass ⟨0, 0, 0, 0⟩)
abbrev s_is_list : Stmt := top 2
abbrev N_is_list : List Str := ["value"]
theorem sc_is_list : FnScope N_is_list ["value"] (defScope s_is_list) := ⟨rfl, rfl, rfl, by decide +kernel, rfl, by decide +kernel, by decide +kernel⟩
abbrev s_is_integer : Stmt := top 3
abbrev N_is_integer : List Str := ["value"]
theorem sc_is_integer : FnScope N_is_integer ["value"] (defScope s_is_integer) := ⟨rfl, rfl, rfl, by decide +kernel, rfl, by decide +kernel, by decide +kernel⟩
abbrev s_is_within : Stmt := top 4
abbrev N_is_within : List Str := ["value", "least", "most"]
theorem sc_is_within : FnScope N_is_within ["value", "least", "most"] (defScope s_is_within) := ⟨rfl, rfl, rfl, by decide +kernel, rfl, by decide +kernel, by decide +kernel⟩
abbrev s_is_number : Stmt := top 5
abbrev N_is_number : List Str := ["value", "above", "below"]
theorem sc_is_number : FnScope N_is_number ["value"] (defScope s_is_number) := ⟨rfl, rfl, rfl, by decide +kernel, rfl, by decide +kernel, by decide +kernel⟩
abbrev s_is_point : Stmt := top 6
abbrev N_is_point : List Str := ["value"]
theorem sc_is_point : FnScope N_is_point ["value"] (defScope s_is_point) := ⟨rfl, rfl, rfl, by decide +kernel, rfl, by decide +kernel, by decide +kernel⟩
abbrev s_is_turn : Stmt := top 7
abbrev N_is_turn : List Str := ["value", "c_above", "c_below", "s_above", "s_below", "squares", "number"]
theorem sc_is_turn : FnScope N_is_turn ["value"] (defScope s_is_turn) := ⟨rfl, rfl, rfl, by decide +kernel, rfl, by decide +kernel, by decide +kernel⟩
abbrev s_parts : Stmt := top 8
abbrev N_parts : List Str := ["number"]
theorem sc_parts : FnScope N_parts ["number"] (defScope s_parts) := ⟨rfl, rfl, rfl, by decide +kernel, rfl, by decide +kernel, by decide +kernel⟩
abbrev s_law_sack : Stmt := top 10
abbrev N_law_sack : List Str := ["_law_script", "_law_cell"]
theorem sc_law_sack : FnScope N_law_sack ["_law_script"] (defScope s_law_sack) := ⟨rfl, rfl, rfl, by decide +kernel, rfl, by decide +kernel, by decide +kernel⟩
abbrev s_law_reach : Stmt := top 11
abbrev N_law_reach : List Str := ["_law_sack_here", "_law_many", "_law_rest", "_law_turn_here", "_law_cell", "_law_mixed"]
theorem sc_law_reach : FnScope N_law_reach ["_law_sack_here", "_law_many"] (defScope s_law_reach) := ⟨rfl, rfl, rfl, by decide +kernel, rfl, by decide +kernel, by decide +kernel⟩
abbrev s_law_pick : Stmt := top 12
abbrev N_law_pick : List Str := ["_law_sack_here", "_law_some"]
theorem sc_law_pick : FnScope N_law_pick ["_law_sack_here", "_law_some"] (defScope s_law_pick) := ⟨rfl, rfl, rfl, by decide +kernel, rfl, by decide +kernel, by decide +kernel⟩
abbrev s_law_has_form : Stmt := top 13
abbrev N_law_has_form : List Str := ["_law_value_here", "_law_each", "_law_by"]
theorem sc_law_has_form : FnScope N_law_has_form ["_law_value_here"] (defScope s_law_has_form) := ⟨rfl, rfl, rfl, by decide +kernel, rfl, by decide +kernel, by decide +kernel⟩
abbrev s_law_value : Stmt := top 14
abbrev N_law_value : List Str := ["_law_sack_here", "_law_way", "_law_pair"]
theorem sc_law_value : FnScope N_law_value ["_law_sack_here"] (defScope s_law_value) := ⟨rfl, rfl, rfl, by decide +kernel, rfl, by decide +kernel, by decide +kernel⟩
abbrev s_law_halves : Stmt := top 15
abbrev N_law_halves : List Str := ["_law_value_here"]
theorem sc_law_halves : FnScope N_law_halves ["_law_value_here"] (defScope s_law_halves) := ⟨rfl, rfl, rfl, by decide +kernel, rfl, by decide +kernel, by decide +kernel⟩
abbrev s_law_is_round : Stmt := top 16
abbrev N_law_is_round : List Str := ["_law_value_here", "_law_a", "_law_b", "_law_c", "_law_d", "_law_each"]
theorem sc_law_is_round : FnScope N_law_is_round ["_law_value_here"] (defScope s_law_is_round) := ⟨rfl, rfl, rfl, by decide +kernel, rfl, by decide +kernel, by decide +kernel⟩
abbrev s_law_fraction : Stmt := top 17
abbrev N_law_fraction : List Str := ["_law_above", "_law_below", "_law_part", "_law_other"]
theorem sc_law_fraction : FnScope N_law_fraction ["_law_above", "_law_below"] (defScope s_law_fraction) := ⟨rfl, rfl, rfl, by decide +kernel, rfl, by decide +kernel, by decide +kernel⟩
abbrev s_law_turn : Stmt := top 18
abbrev N_law_turn : List Str := ["_law_sack_here", "_law_p", "_law_q", "_law_whole", "_law_found", "_law_way"]
theorem sc_law_turn : FnScope N_law_turn ["_law_sack_here"] (defScope s_law_turn) := ⟨rfl, rfl, rfl, by decide +kernel, rfl, by decide +kernel, by decide +kernel⟩
abbrev s_law_is_pair : Stmt := top 19
abbrev N_law_is_pair : List Str := ["_law_value_here", "_law_each"]
theorem sc_law_is_pair : FnScope N_law_is_pair ["_law_value_here"] (defScope s_law_is_pair) := ⟨rfl, rfl, rfl, by decide +kernel, rfl, by decide +kernel, by decide +kernel⟩
abbrev s_law : Stmt := top 20
abbrev N_law : List Str := ["_law_script", "_law_sack_here", "_law_turn_here", "_law_value_here", "_law_other", "_law_whole", "_law_least", "_law_most", "_law_within", "_law_pair", "_law_due", "_law_round_one"]
theorem sc_law : FnScope N_law ["_law_script"] (defScope s_law) := ⟨rfl, rfl, rfl, by decide +kernel, rfl, by decide +kernel, by decide +kernel⟩
structure Txt (K : PySem.W.Frag) (mg : Str → Option Value) where
  a_is_list : Addr
  d_is_list : FuncData
  m_is_list : mg "is_list" = some (.ref a_is_list)
  F_is_list : Fun K "is_list" "is_list" s_is_list a_is_list d_is_list
  a_is_integer : Addr
  d_is_integer : FuncData
  m_is_integer : mg "is_integer" = some (.ref a_is_integer)
  F_is_integer : Fun K "is_integer" "is_integer" s_is_integer a_is_integer d_is_integer
  a_is_within : Addr
  d_is_within : FuncData
  m_is_within : mg "is_within" = some (.ref a_is_within)
  F_is_within : Fun K "is_within" "is_within" s_is_within a_is_within d_is_within
  a_is_number : Addr
  d_is_number : FuncData
  m_is_number : mg "is_number" = some (.ref a_is_number)
  F_is_number : Fun K "is_number" "is_number" s_is_number a_is_number d_is_number
  a_is_point : Addr
  d_is_point : FuncData
  m_is_point : mg "is_point" = some (.ref a_is_point)
  F_is_point : Fun K "is_point" "is_point" s_is_point a_is_point d_is_point
  a_is_turn : Addr
  d_is_turn : FuncData
  m_is_turn : mg "is_turn" = some (.ref a_is_turn)
  F_is_turn : Fun K "is_turn" "is_turn" s_is_turn a_is_turn d_is_turn
  a_parts : Addr
  d_parts : FuncData
  m_parts : mg "_parts" = some (.ref a_parts)
  F_parts : Fun K "_parts" "_parts" s_parts a_parts d_parts
  a_law_sack : Addr
  d_law_sack : FuncData
  m_law_sack : mg "_law_sack" = some (.ref a_law_sack)
  F_law_sack : Fun K "_law_sack" "_law_sack" s_law_sack a_law_sack d_law_sack
  a_law_reach : Addr
  d_law_reach : FuncData
  m_law_reach : mg "_law_reach" = some (.ref a_law_reach)
  F_law_reach : Fun K "_law_reach" "_law_reach" s_law_reach a_law_reach d_law_reach
  a_law_pick : Addr
  d_law_pick : FuncData
  m_law_pick : mg "_law_pick" = some (.ref a_law_pick)
  F_law_pick : Fun K "_law_pick" "_law_pick" s_law_pick a_law_pick d_law_pick
  a_law_has_form : Addr
  d_law_has_form : FuncData
  m_law_has_form : mg "_law_has_form" = some (.ref a_law_has_form)
  F_law_has_form : Fun K "_law_has_form" "_law_has_form" s_law_has_form a_law_has_form d_law_has_form
  a_law_value : Addr
  d_law_value : FuncData
  m_law_value : mg "_law_value" = some (.ref a_law_value)
  F_law_value : Fun K "_law_value" "_law_value" s_law_value a_law_value d_law_value
  a_law_halves : Addr
  d_law_halves : FuncData
  m_law_halves : mg "_law_halves" = some (.ref a_law_halves)
  F_law_halves : Fun K "_law_halves" "_law_halves" s_law_halves a_law_halves d_law_halves
  a_law_is_round : Addr
  d_law_is_round : FuncData
  m_law_is_round : mg "_law_is_round" = some (.ref a_law_is_round)
  F_law_is_round : Fun K "_law_is_round" "_law_is_round" s_law_is_round a_law_is_round d_law_is_round
  a_law_fraction : Addr
  d_law_fraction : FuncData
  m_law_fraction : mg "_law_fraction" = some (.ref a_law_fraction)
  F_law_fraction : Fun K "_law_fraction" "_law_fraction" s_law_fraction a_law_fraction d_law_fraction
  a_law_turn : Addr
  d_law_turn : FuncData
  m_law_turn : mg "_law_turn" = some (.ref a_law_turn)
  F_law_turn : Fun K "_law_turn" "_law_turn" s_law_turn a_law_turn d_law_turn
  a_law_is_pair : Addr
  d_law_is_pair : FuncData
  m_law_is_pair : mg "_law_is_pair" = some (.ref a_law_is_pair)
  F_law_is_pair : Fun K "_law_is_pair" "_law_is_pair" s_law_is_pair a_law_is_pair d_law_is_pair
  a_law : Addr
  d_law : FuncData
  m_law : mg "law" = some (.ref a_law)
  F_law : Fun K "law" "law" s_law a_law d_law
  m_gcd : mg "gcd" = some (.builtin "math.gcd")
  z_abs : mg "abs" = none
  z_bool : mg "bool" = none
  z_int : mg "int" = none
  z_isinstance : mg "isinstance" = none
  z_len : mg "len" = none
  z_list : mg "list" = none
  z_min : mg "min" = none
  z_range : mg "range" = none
  z_repr : mg "repr" = none
  z_tuple : mg "tuple" = none
section
variable {K : PySem.W.Frag} {mg : Str → Option Value}
theorem b_is_list (T : Txt K mg) : Binds K T.d_is_list ["value"] [] := T.F_is_list.binds fun _ _ _ _ _ _ us hl => match us, hl with | [_], _ => rfl
theorem b_is_integer (T : Txt K mg) : Binds K T.d_is_integer ["value"] [] := T.F_is_integer.binds fun _ _ _ _ _ _ us hl => match us, hl with | [_], _ => rfl
theorem b_is_within (T : Txt K mg) : Binds K T.d_is_within ["value", "least", "most"] [] := T.F_is_within.binds fun _ _ _ _ _ _ us hl => match us, hl with | [_, _, _], _ => rfl
theorem b_is_number (T : Txt K mg) : Binds K T.d_is_number ["value"] [] := T.F_is_number.binds fun _ _ _ _ _ _ us hl => match us, hl with | [_], _ => rfl
theorem b_is_point (T : Txt K mg) : Binds K T.d_is_point ["value"] [] := T.F_is_point.binds fun _ _ _ _ _ _ us hl => match us, hl with | [_], _ => rfl
theorem b_is_turn (T : Txt K mg) : Binds K T.d_is_turn ["value"] [] := T.F_is_turn.binds fun _ _ _ _ _ _ us hl => match us, hl with | [_], _ => rfl
theorem b_parts (T : Txt K mg) : Binds K T.d_parts ["number"] [] := T.F_parts.binds fun _ _ _ _ _ _ us hl => match us, hl with | [_], _ => rfl
theorem b_law_sack (T : Txt K mg) : Binds K T.d_law_sack ["_law_script"] [] := T.F_law_sack.binds fun _ _ _ _ _ _ us hl => match us, hl with | [_], _ => rfl
theorem b_law_reach (T : Txt K mg) : Binds K T.d_law_reach ["_law_sack_here", "_law_many"] [] := T.F_law_reach.binds fun _ _ _ _ _ _ us hl => match us, hl with | [_, _], _ => rfl
theorem b_law_pick (T : Txt K mg) : Binds K T.d_law_pick ["_law_sack_here", "_law_some"] [] := T.F_law_pick.binds fun _ _ _ _ _ _ us hl => match us, hl with | [_, _], _ => rfl
theorem b_law_has_form (T : Txt K mg) : Binds K T.d_law_has_form ["_law_value_here"] [] := T.F_law_has_form.binds fun _ _ _ _ _ _ us hl => match us, hl with | [_], _ => rfl
theorem b_law_value (T : Txt K mg) : Binds K T.d_law_value ["_law_sack_here"] [] := T.F_law_value.binds fun _ _ _ _ _ _ us hl => match us, hl with | [_], _ => rfl
theorem b_law_halves (T : Txt K mg) : Binds K T.d_law_halves ["_law_value_here"] [] := T.F_law_halves.binds fun _ _ _ _ _ _ us hl => match us, hl with | [_], _ => rfl
theorem b_law_is_round (T : Txt K mg) : Binds K T.d_law_is_round ["_law_value_here"] [] := T.F_law_is_round.binds fun _ _ _ _ _ _ us hl => match us, hl with | [_], _ => rfl
theorem b_law_fraction (T : Txt K mg) : Binds K T.d_law_fraction ["_law_above", "_law_below"] [] := T.F_law_fraction.binds fun _ _ _ _ _ _ us hl => match us, hl with | [_, _], _ => rfl
theorem b_law_turn (T : Txt K mg) : Binds K T.d_law_turn ["_law_sack_here"] [] := T.F_law_turn.binds fun _ _ _ _ _ _ us hl => match us, hl with | [_], _ => rfl
theorem b_law_is_pair (T : Txt K mg) : Binds K T.d_law_is_pair ["_law_value_here"] [] := T.F_law_is_pair.binds fun _ _ _ _ _ _ us hl => match us, hl with | [_], _ => rfl
theorem b_law (T : Txt K mg) : Binds K T.d_law ["_law_script"] [] := T.F_law.binds fun _ _ _ _ _ _ us hl => match us, hl with | [_], _ => rfl
theorem kb_is_within_0_value_least_most (T : Txt K mg) : KBn K T.d_is_within ["value", "least", "most"] 0 ["value", "least", "most"] (fun us ws => perm [0, 1, 2] (us ++ ws)) (fun us ws => perm [0, 1, 2] (us ++ ws)) := kbn_of T.F_is_within (fun _ _ _ _ _ _ us ws h1 h2 => match us, ws, h1, h2 with | [], [_, _, _], _, _ => rfl) (fun r1 r2 => Vals.perm (r1.append r2) [0, 1, 2])
theorem kb_is_integer_0_value (T : Txt K mg) : KBn K T.d_is_integer ["value"] 0 ["value"] (fun us ws => perm [0] (us ++ ws)) (fun us ws => perm [0] (us ++ ws)) := kbn_of T.F_is_integer (fun _ _ _ _ _ _ us ws h1 h2 => match us, ws, h1, h2 with | [], [_], _, _ => rfl) (fun r1 r2 => Vals.perm (r1.append r2) [0])
theorem kb_is_number_0_value (T : Txt K mg) : KBn K T.d_is_number ["value"] 0 ["value"] (fun us ws => perm [0] (us ++ ws)) (fun us ws => perm [0] (us ++ ws)) := kbn_of T.F_is_number (fun _ _ _ _ _ _ us ws h1 h2 => match us, ws, h1, h2 with | [], [_], _, _ => rfl) (fun r1 r2 => Vals.perm (r1.append r2) [0])
theorem kb_is_point_0_value (T : Txt K mg) : KBn K T.d_is_point ["value"] 0 ["value"] (fun us ws => perm [0] (us ++ ws)) (fun us ws => perm [0] (us ++ ws)) := kbn_of T.F_is_point (fun _ _ _ _ _ _ us ws h1 h2 => match us, ws, h1, h2 with | [], [_], _, _ => rfl) (fun r1 r2 => Vals.perm (r1.append r2) [0])
theorem kb_is_turn_0_value (T : Txt K mg) : KBn K T.d_is_turn ["value"] 0 ["value"] (fun us ws => perm [0] (us ++ ws)) (fun us ws => perm [0] (us ++ ws)) := kbn_of T.F_is_turn (fun _ _ _ _ _ _ us ws h1 h2 => match us, ws, h1, h2 with | [], [_], _, _ => rfl) (fun r1 r2 => Vals.perm (r1.append r2) [0])
end
end Ty

namespace Ty
open PySem PySem.Spec PyProof.Rows L2
section
variable {P : Program} {w : World} {K : PySem.W.Frag} {mg : Str → Option Value} {base : Heap}
theorem ok_is_list (T : Txt K mg) : FnOk P w K mg base CX0 1 T.a_is_list T.d_is_list ["value"] (spD isS) := by
  refine T.F_is_list.ok sc_is_list (fun vs H Q E h => ?_) (fun cdv A outer s H vs Q E hr h => ?_)
  · obtain ⟨v, d, rfl, _⟩ := h
    rfl
  · obtain ⟨v, d, rfl, h, k⟩ := h
    refine ⟨_, (pss_one (ps_ret (pe_callB call_isiSeq (by rfl) T.z_isinstance (by decide +kernel) (pa_cons (pv 0) (pa_cons (pe_tup (pa_cons (pe_bltn (v := .ty "list") (by rfl) T.z_list (by decide +kernel) rfl) (pa_cons (pe_bltn (v := .ty "tuple") (by rfl) T.z_tuple (by decide +kernel) rfl) pa_nil))) pa_nil))))), ?_⟩
    exact ⟨_, rfl, (by decide : 2 ≤ sizeLine), fun p hp => ⟨v, d, p, rfl, upd_same, h.up (Same.new hp), k _ (Same.new hp)⟩⟩
theorem ok_is_integer (T : Txt K mg) : FnOk P w K mg base CX0 1 T.a_is_integer T.d_is_integer ["value"] (spD isN) := by
  refine T.F_is_integer.ok sc_is_integer (fun vs H Q E h => ?_) (fun cdv A outer s H vs Q E hr h => ?_)
  · obtain ⟨v, d, rfl, _⟩ := h
    rfl
  · obtain ⟨v, d, rfl, h, k⟩ := h
    refine ⟨_, (pss_one (ps_ret (pe_and (pe_callB call_isiInt (by rfl) T.z_isinstance (by decide +kernel) (pa_cons (pv 0) (pa_cons (pe_bltn (v := .ty "int") (by rfl) T.z_int (by decide +kernel) rfl) pa_nil))) (pe_one (pe_not (pe_callB call_isiBool (by rfl) T.z_isinstance (by decide +kernel) (pa_cons (pv 0) (pa_cons (pe_bltn (v := .ty "bool") (by rfl) T.z_bool (by decide +kernel) rfl) pa_nil)))))))), ?_⟩
    have kk : ∀ {b : Bool}, isN d = b → Q (.bl b) H := fun e => e ▸ k H (Same.refl H)
    refine ⟨_, rfl, v, d, rfl, h, _, rfl, iteB (fun c => ?_) fun c => ?_⟩
    · refine ⟨_, rfl, v, d, rfl, h, _, rfl, ?_⟩
      refine kk ?_
      cases d with
      | int _ => rfl
      | bl _ => rfl
      | _ => cases c
    · refine kk ?_
      cases d with
      | int _ => cases c
      | _ => rfl
theorem ok_is_within (T : Txt K mg) : FnOk P w K mg base CX0 2 T.a_is_within T.d_is_within ["value", "least", "most"] spW := by
  have G_is_integer := ok_is_integer (P := P) (w := w) (base := base) T
  refine T.F_is_within.ok sc_is_within (fun vs H Q E h => ?_) (fun cdv A outer s H vs Q E hr h => ?_)
  · obtain ⟨v, d, lo, hi, rfl, _⟩ := h
    rfl
  · obtain ⟨v, d, lo, hi, rfl, h, k⟩ := h
    refine ⟨_, (pss_cons (ps_if (pt_not (pt_val (pe_call G_is_integer (hr.mono (by decide)) (by rfl) T.m_is_integer T.F_is_integer.kp (b_is_integer T) .nil pass0 (pa_cons (pv 0) pa_nil)))) (pss_one (ps_ret pe_bl)) pss_nil)
      (pss_one (ps_ret (pe_and (pe_or (pe_cmpR op_isN (pv 1) pe_non (nomark _)) (pe_one (pe_cmpR op_ge (pv 0) (pv 1) (nomark _)))) (pe_one (pe_or (pe_cmpR op_isN (pv 2) pe_non (nomark _)) (pe_one (pe_cmpR op_le (pv 0) (pv 2) (nomark _))))))))), ?_⟩
    refine ⟨_, rfl, v, d, rfl, h, fun H1 s1 => ⟨_, rfl, iteN (fun c => ?_) fun c => ?_⟩⟩
    · have kk : ∀ {b : Bool}, within d lo hi = b → Q (.bl b) H1 := fun e => e ▸ k H1 s1
      refine kk ?_
      cases d with
      | int _ => cases c
      | _ => rfl
    · obtain ⟨i, rfl, rfl⟩ := isN_of h c
      have kk : ∀ {b : Bool}, within (.int i) lo hi = b → Q (.bl b) H1 := fun e => e ▸ k H1 s1
      have fin : ∀ b : Bool, okLo i lo = b → if b = true then tOrV (tOp (fun x y H Q => y = .non ∧ Q (.bl (decide (x = .non))) H) (tVar 2) (tC .non)) (tOp (rI0 fun i j => .bl (decide (i ≤ j))) (tVar 0) (tVar 2)) (start N_is_within [.int i, optV lo, optV hi]) H1 Q else Q (.bl false) H1 := by
        intro b e
        refine iteB (fun c => ?_) fun c => ?_
        · subst c
          have w : within (.int i) lo hi = okHi i hi := by
            show (okLo i lo && okHi i hi) = _
            rw [e, Bool.true_and]
          cases hi with
          | none => exact ⟨_, rfl, rfl, _, rfl, iteD (fun _ => kk w) fun z => absurd rfl z⟩
          | some m => exact ⟨_, rfl, rfl, _, rfl, iteD (fun z => nomatch z) fun _ => ⟨_, rfl, _, rfl, _, _, rfl, rfl, kk w⟩⟩
        · subst c
          refine kk ?_
          show (okLo i lo && okHi i hi) = _
          rw [e, Bool.false_and]
      cases lo with
      | none => exact ⟨_, rfl, rfl, _, rfl, iteD (fun _ => ⟨_, rfl, fin _ rfl⟩) fun z => absurd rfl z⟩
      | some l => exact ⟨_, rfl, rfl, _, rfl, iteD (fun z => nomatch z) fun _ => ⟨_, rfl, _, rfl, _, _, rfl, rfl, ⟨_, rfl, fin _ rfl⟩⟩⟩
theorem ok_is_number (T : Txt K mg) : FnOk P w K mg base CX0 3 T.a_is_number T.d_is_number ["value"] (spD isNum) := by
  have G_is_integer := ok_is_integer (P := P) (w := w) (base := base) T
  have G_is_within := ok_is_within (P := P) (w := w) (base := base) T
  have G_is_list := ok_is_list (P := P) (w := w) (base := base) T
  refine T.F_is_number.ok sc_is_number (fun vs H Q E h => ?_) (fun cdv A outer s H vs Q E hr h => ?_)
  · obtain ⟨v, d, rfl, _⟩ := h
    rfl
  · obtain ⟨v, d, rfl, h, k⟩ := h
    refine ⟨_, (pss_cons (ps_if (pt_val (pe_call G_is_integer (hr.mono (by decide)) (by rfl) T.m_is_integer T.F_is_integer.kp (b_is_integer T) .nil pass0 (pa_cons (pv 0) pa_nil))) (pss_one (ps_ret pe_bl)) pss_nil)
      (pss_cons (ps_if (PW.pt (pw_or (pt_not (pt_val (pe_call G_is_list (hr.mono (by decide)) (by rfl) T.m_is_list T.F_is_list.kp (b_is_list T) .nil pass0 (pa_cons (pv 0) pa_nil)))) (pw_or1 (pt_cmpR op_ne (pe_callB call_len_seq (by rfl) T.z_len PySem.boot_len (pa_cons (pv 0) pa_nil)) pe_int (nomark _))))) (pss_one (ps_ret pe_bl)) pss_nil)
      (pss_cons (ps_asg (pv 0) (pg_or (pg_unl rfl (pgs_cons (pg_name (i := 1) sc_is_number.nd rfl (Or.inl rfl)) (pgs_cons (pg_name (i := 2) sc_is_number.nd rfl (Or.inl rfl)) pgs_nil))) (pg_tup rfl (pgs_cons (pg_name (i := 1) sc_is_number.nd rfl (Or.inl rfl)) (pgs_cons (pg_name (i := 2) sc_is_number.nd rfl (Or.inl rfl)) pgs_nil)))))
      (pss_one (ps_ret (pe_and (pe_call G_is_integer (hr.mono (by decide)) (by rfl) T.m_is_integer T.F_is_integer.kp (b_is_integer T) .nil pass0 (pa_cons (pv 1) pa_nil)) (pe_and (pe_call G_is_within (hr.mono (by decide)) (by rfl) T.m_is_within T.F_is_within.kp (b_is_within T) .nil pass0 (pa_cons (pv 2) (pa_cons pe_int (pa_cons pe_non pa_nil)))) (pe_one (pe_cmpR op_eq (pe_callBfun cr_gcd (by rfl) T.m_gcd (pa_cons (pv 1) (pa_cons (pv 2) pa_nil))) pe_int (nomark _)))))))))), ?_⟩
    have kk : ∀ {b : Bool} {H1 : Hp}, Same H H1 → isNum d = b → Q (.bl b) H1 := fun s e => e ▸ k _ s
    refine ⟨_, rfl, v, d, rfl, h, fun H1 s1 => ⟨_, rfl, iteB (fun c => ?_) fun c => ?_⟩⟩
    · exact kk s1 (by rw [isNum, c, Bool.true_or])
    refine ⟨_, rfl, v, d, rfl, h.up s1, fun H2 s2 => ⟨_, rfl, iteN (fun e => ?_) fun e => ?_⟩⟩
    · exact iteT (kk (s1.trans s2) (by rw [isNum, c, e, Bool.false_and, Bool.or_false]))
    have s12 := s1.trans s2
    obtain ⟨a, xs, rfl, hs, hx⟩ := (h.up s12).seq (K := K) e
    refine ⟨_, rfl, a, xs, rfl, hs, rfl, _, rfl, iteE (fun l => ?_) fun l => ?_⟩
    · refine kk s12 ?_
      have l' : (items d).length ≠ 2 := fun z => int_ne l (by rw [hx.length, z]; rfl)
      rw [isNum, c, e, Bool.true_and, Bool.false_or]
      exact isPair_len _ l'
    have l2 := int_eq l
    match xs, l2, hx with
    | [x, y], _, hx =>
      obtain ⟨dx, dy, e1, h1, h2⟩ : ∃ dx dy, items d = [dx, dy] ∧ Is H2 x dx ∧ Is H2 y dy := by
        generalize items d = ds at hx
        cases hx with
        | cons h1 hx =>
          cases hx with
          | cons h2 hx =>
            cases hx
            exact ⟨_, _, rfl, h1, h2⟩
      have nm : isNum d = isPair [dx, dy] := by rw [isNum, c, e, e1, Bool.true_and, Bool.false_or]
      have fin : tRet (tAndV (tCall (spD isN) [] E0 (tCons (tVar 1) tNil)) (tAndV (tCall spW [] E0 (tCons (tVar 2) (tCons (tC (.int 2)) (tCons (tC .non) tNil)))) (tOp rEq (tCB rGcd (tCons (tVar 1) (tCons (tVar 2) tNil))) (tC (.int 1))))) { nx := fun _ H' => Q .non H', rt := Q } [some (.ref a), some x, some y] H2 := by
        refine ⟨_, rfl, x, dx, rfl, h1, fun H3 s3 => ⟨_, rfl, iteB (fun c1 => ?_) fun c1 => ?_⟩⟩
        · obtain ⟨i, rfl, rfl⟩ := isN_of h1 c1
          refine ⟨_, rfl, y, dy, some 2, none, rfl, h2.up s3, fun H4 s4 => ⟨_, rfl, iteB (fun c2 => ?_) fun c2 => ?_⟩⟩
          · cases h2 with
            | int j =>
              have c3 : (2 : Int) ≤ j := of_decide_eq_true (by rwa [within, okHi, okLo, Bool.and_true] at c2)
              refine ⟨_, rfl, _, rfl, i, j, rfl, rfl, kk ((s12.trans s3).trans s4) ?_⟩
              rw [nm, isPair, decide_eq_true c3, Bool.true_and, coprime]
              by_cases g : Nat.gcd i.natAbs j.natAbs = 1
              · rw [decide_eq_true g]
                exact (decide_eq_true (by rw [g]; rfl)).symm
              · rw [decide_eq_false g]
                exact (decide_eq_false fun z => g (by have := int_eq z; omega)).symm
            | _ => cases c2
          · refine kk ((s12.trans s3).trans s4) ?_
            rw [nm]
            cases h2 with
            | int j =>
              have c3 : decide ((2 : Int) ≤ j) = false := by rwa [within, okHi, okLo, Bool.and_true] at c2
              rw [isPair, c3, Bool.false_and]
            | _ => rfl
        · refine kk (s12.trans s3) ?_
          rw [nm]
          cases h1 with
          | int j => cases c1
          | _ => rfl
      rcases hs with hs | hs
      · exact ⟨_, rfl, .inl ⟨a, _, rfl, hs, rfl, x, _, rfl, y, _, rfl, rfl, fin⟩⟩
      · exact ⟨_, rfl, .inr ⟨a, _, rfl, hs, rfl, x, _, rfl, y, _, rfl, rfl, fin⟩⟩
theorem ok_is_point (T : Txt K mg) : FnOk P w K mg base CX0 4 T.a_is_point T.d_is_point ["value"] (spD isPt) := by
  have G_is_list := ok_is_list (P := P) (w := w) (base := base) T
  have G_is_number := ok_is_number (P := P) (w := w) (base := base) T
  refine T.F_is_point.ok sc_is_point (fun vs H Q E h => ?_) (fun cdv A outer s H vs Q E hr h => ?_)
  · obtain ⟨v, d, rfl, _⟩ := h
    rfl
  · obtain ⟨v, d, rfl, h, k⟩ := h
    refine ⟨_, (pss_one (ps_ret (pe_and (pe_call G_is_list (hr.mono (by decide)) (by rfl) T.m_is_list T.F_is_list.kp (b_is_list T) .nil pass0 (pa_cons (pv 0) pa_nil)) (pe_and (pe_cmpR op_eq (pe_callB call_len_seq (by rfl) T.z_len PySem.boot_len (pa_cons (pv 0) pa_nil)) pe_int (nomark _)) (pe_and (pe_call G_is_number (hr.mono (by decide)) (by rfl) T.m_is_number T.F_is_number.kp (b_is_number T) .nil pass0 (pa_cons (pe_ix (IxR.or (r := rIxL K) (r' := rIxT K) ix_list ix_tup) (pv 0) pe_int (fun _ _ => rfl)) pa_nil)) (pe_one (pe_call G_is_number (hr.mono (by decide)) (by rfl) T.m_is_number T.F_is_number.kp (b_is_number T) .nil pass0 (pa_cons (pe_ix (IxR.or (r := rIxL K) (r' := rIxT K) ix_list ix_tup) (pv 0) pe_int (fun _ _ => rfl)) pa_nil)))))))), ?_⟩
    have kk : ∀ {b : Bool} {H1 : Hp}, Same H H1 → isPt d = b → Q (.bl b) H1 := fun s e => e ▸ k _ s
    refine ⟨_, rfl, v, d, rfl, h, fun H1 s1 => ⟨_, rfl, iteB (fun c => ?_) fun c => ?_⟩⟩
    · obtain ⟨a, xs, rfl, hs, hx⟩ := (h.up s1).seq (K := K) c
      refine ⟨_, rfl, a, xs, rfl, hs, rfl, _, rfl, iteD (fun l => ?_) fun l => ?_⟩
      · have l2 := int_eq l
        match xs, l2, hx with
        | [x, y], _, hx =>
          obtain ⟨dx, dy, e1, h1, h2⟩ : ∃ dx dy, items d = [dx, dy] ∧ Is H1 x dx ∧ Is H1 y dy := by
            generalize items d = ds at hx
            cases hx with
            | cons h1 hx =>
              cases hx with
              | cons h2 hx =>
                cases hx
                exact ⟨_, _, rfl, h1, h2⟩
          have nm : isPt d = (isNum dx && isNum dy) := by rw [isPt, c, e1, Bool.true_and, isTwo]
          have ix : ∀ {H' : Hp} {i : Int} {u : V} {Q' : VK}, Same H1 H' → atI [x, y] i = some u → Q' u H' → (rIxL K (.ref a) (.int i) H' Q' ∨ rIxT K (.ref a) (.int i) H' Q') := fun {H' i u Q'} s e q => by
            rcases hs with hs | hs
            · exact .inl ⟨a, _, i, u, rfl, rfl, s.seq hs, e, q⟩
            · exact .inr ⟨a, _, i, u, rfl, rfl, Evl.ex_t s hs, e, q⟩
          refine ⟨_, rfl, ix (Same.refl _) (by rfl) ⟨x, dx, rfl, h1, fun H2 s2 => ⟨_, rfl, iteB (fun c1 => ?_) fun c1 => ?_⟩⟩⟩
          · refine ⟨_, rfl, ix s2 (by rfl) ⟨y, dy, rfl, h2.up s2, fun H3 s3 => kk ((s1.trans s2).trans s3) ?_⟩⟩
            rw [nm, c1, Bool.true_and]
          · exact kk (s1.trans s2) (by rw [nm, c1, Bool.false_and])
      · refine kk s1 ?_
        have l' : (items d).length ≠ 2 := fun z => int_ne l (by rw [hx.length, z]; rfl)
        rw [isPt, c, Bool.true_and]
        match items d, l' with
        | [], _ => rfl
        | [_], _ => rfl
        | _ :: _ :: _ :: _, _ => rfl
        | [_, _], z => exact absurd rfl z
    · exact kk s1 (by rw [isPt, c, Bool.false_and])
theorem ok_parts (T : Txt K mg) : FnOk P w K mg base CX0 2 T.a_parts T.d_parts ["number"] spParts := by
  have G_is_integer := ok_is_integer (P := P) (w := w) (base := base) T
  refine T.F_parts.ok sc_parts (fun vs H Q E h => ?_) (fun cdv A outer s H vs Q E hr h => ?_)
  · obtain ⟨v, d, rfl, _⟩ := h
    rfl
  · obtain ⟨v, d, rfl, h, hn, k⟩ := h
    refine ⟨_, (pss_one (ps_ret (pe_ifExp (pt_val (pe_call G_is_integer (hr.mono (by decide)) (by rfl) T.m_is_integer T.F_is_integer.kp (b_is_integer T) .nil pass0 (pa_cons (pv 0) pa_nil))) (pe_tup (pa_cons (pv 0) (pa_cons pe_int pa_nil))) (pv 0)))), ?_⟩
    refine ⟨_, rfl, v, d, rfl, h, fun H1 s1 => ⟨_, rfl, iteB (fun c => ?_) fun c => ?_⟩⟩
    · obtain ⟨i, rfl, rfl⟩ := isN_of h c
      exact ⟨_, rfl, (by decide : 2 ≤ sizeLine), fun p hp => k _ p (s1.trans (Same.new hp)) (.inl upd_same)⟩
    · rcases num_cases h hn with ⟨i, rfl, rfl⟩ | ⟨a, i, j, rfl, ⟨ha, rfl⟩ | ⟨ha, rfl⟩, _, _⟩
      · cases c
      · exact ⟨_, rfl, k _ a s1 (.inl (s1 _ _ ha))⟩
      · exact ⟨_, rfl, k _ a s1 (.inr (s1 _ _ ha))⟩
theorem ok_is_turn (T : Txt K mg) : FnOk P w K mg base CX0 5 T.a_is_turn T.d_is_turn ["value"] spT := by
  have G_is_point := ok_is_point (P := P) (w := w) (base := base) T
  have G_parts := ok_parts (P := P) (w := w) (base := base) T
  refine T.F_is_turn.ok sc_is_turn (fun vs H Q E h => ?_) (fun cdv A outer s H vs Q E hr h => ?_)
  · obtain ⟨v, d, rfl, _⟩ := h
    rfl
  · obtain ⟨v, d, rfl, h, sm, k⟩ := h
    refine ⟨_, (pss_cons (ps_if (pt_not (pt_val (pe_call G_is_point (hr.mono (by decide)) (by rfl) T.m_is_point T.F_is_point.kp (b_is_point T) .nil pass0 (pa_cons (pv 0) pa_nil)))) (pss_one (ps_ret pe_bl)) pss_nil)
      (pss_cons (ps_asg (pe_lc (own := [("number", 6)]) (g := gName 6) rfl sc_is_turn.nd (pi_or (pi_list (pv 0)) (pi_tup (pv 0))) (blkOk_by (N := N_is_turn) (sc := defScope s_is_turn) (by decide +kernel)) (fun _ _ _ _ _ => (pg_name (i := 6) sc_is_turn.nd rfl (Or.inl rfl))) (fun _ _ _ _ _ => pts_nil) (fun _ _ _ _ _ => (pe_call G_parts (hr.mono (by decide)) (by rfl) T.m_parts T.F_parts.kp (b_parts T) .nil pass0 (pa_cons (pv 6) pa_nil)))) (pg_unl rfl (pgs_cons (pg_or (pg_unl rfl (pgs_cons (pg_name (i := 1) sc_is_turn.nd rfl (Or.inl rfl)) (pgs_cons (pg_name (i := 2) sc_is_turn.nd rfl (Or.inl rfl)) pgs_nil))) (pg_tup rfl (pgs_cons (pg_name (i := 1) sc_is_turn.nd rfl (Or.inl rfl)) (pgs_cons (pg_name (i := 2) sc_is_turn.nd rfl (Or.inl rfl)) pgs_nil)))) (pgs_cons (pg_or (pg_unl rfl (pgs_cons (pg_name (i := 3) sc_is_turn.nd rfl (Or.inl rfl)) (pgs_cons (pg_name (i := 4) sc_is_turn.nd rfl (Or.inl rfl)) pgs_nil))) (pg_tup rfl (pgs_cons (pg_name (i := 3) sc_is_turn.nd rfl (Or.inl rfl)) (pgs_cons (pg_name (i := 4) sc_is_turn.nd rfl (Or.inl rfl)) pgs_nil)))) pgs_nil))))
      (pss_cons (ps_set (i := 5) sc_is_turn.nd rfl (Or.inl rfl) (pe_op op_add (pe_op op_powW (pe_op op_mulW (pv 1) (pv 4)) pe_int) (pe_op op_powW (pe_op op_mulW (pv 3) (pv 2)) pe_int)))
      (pss_one (ps_ret (pe_cmpR op_eq (pv 5) (pe_op op_powW (pe_op op_mulW (pv 2) (pv 4)) pe_int) (nomark _))))))), ?_⟩
    have kk : ∀ {b : Bool} {H1 : Hp}, Same H H1 → isTurn d = b → Q (.bl b) H1 := fun s e => e ▸ k _ s
    refine ⟨_, rfl, v, d, rfl, h, fun H1 s1 => ⟨_, rfl, iteN (fun c => ?_) fun c => ?_⟩⟩
    · exact kk s1 (by rw [isTurn, c, Bool.false_and])
    obtain ⟨sq, x, y, e1, nx, ny⟩ := isPt_of c
    obtain ⟨a, xs, rfl, hs, hx⟩ := (h.up s1).seq (K := K) sq
    rw [e1] at hx
    obtain ⟨u, v, rfl, hu, hv⟩ := hx.two
    have sm' : small2 huge x = true ∧ small2 huge y = true := by
      have q : (small2 huge x && (small2 huge y && true)) = true := by
        have q' := sm
        rw [small3, e1] at q'
        exact q'
      rw [Bool.and_eq_true, Bool.and_eq_true] at q
      exact ⟨q.1, q.2.1⟩
    have bx := parts_small (by decide) nx sm'.1
    have bq := parts_small (by decide) ny sm'.2
    -- what follows the list of both pairs
    have rest : ∀ (H2 : Hp) (D : Addr) (p q : V), Same H1 H2 → H2 D = some (.lst [p, q]) → PtP H2 p x → PtP H2 q y → gUnl K 2 (gCons (fun v σ H Q => gUnl K 2 (gCons (gName 1) (gCons (gName 2) gNil)) v σ H Q ∨ gTup K 2 (gCons (gName 1) (gCons (gName 2) gNil)) v σ H Q) (gCons (fun v σ H Q => gUnl K 2 (gCons (gName 3) (gCons (gName 4) gNil)) v σ H Q ∨ gTup K 2 (gCons (gName 3) (gCons (gName 4) gNil)) v σ H Q) gNil)) (.ref D) (start N_is_turn [.ref a]) H2
        (tSeq (tAsg (tOp (rI0 fun i j => .int (i + j)) (tOp (rI CPowW fun i j => .int (i ^ j.toNat)) (tOp (rI CMulW fun i j => .int (i * j)) (tVar 1) (tVar 4)) (tC (.int 2))) (tOp (rI CPowW fun i j => .int (i ^ j.toNat)) (tOp (rI CMulW fun i j => .int (i * j)) (tVar 3) (tVar 2)) (tC (.int 2)))) (gName 5))
          (tRet (tOp rEq (tVar 5) (tOp (rI CPowW fun i j => .int (i ^ j.toNat)) (tOp (rI CMulW fun i j => .int (i * j)) (tVar 2) (tVar 4)) (tC (.int 2))))) { nx := fun _ H' => Q .non H', rt := Q }) := by
      intro H2 D p q s2 hD hp hq
      refine ⟨D, _, rfl, .inl (.inl hD), rfl, p, _, rfl, un2 hp ⟨q, _, rfl, un2 hq ⟨rfl, ?_⟩⟩⟩
      have m1 := wide_lt bx.1 bq.2
      have m2 := wide_lt bq.1 bx.2
      have m3 := wide_lt bx.2 bq.2
      refine ⟨_, rfl, _, rfl, _, _, rfl, rfl, wide_mul bx.1 bq.2 (by decide) (by decide) (by decide), _, _, rfl, rfl, pow_ok m1 (by decide) (by decide), ?_⟩
      refine ⟨_, rfl, _, rfl, _, _, rfl, rfl, wide_mul bq.1 bx.2 (by decide) (by decide) (by decide), _, _, rfl, rfl, pow_ok m2 (by decide) (by decide), _, _, rfl, rfl, ?_⟩
      refine ⟨_, rfl, _, rfl, _, rfl, _, _, rfl, rfl, wide_mul bx.2 bq.2 (by decide) (by decide) (by decide), _, _, rfl, rfl, pow_ok m3 (by decide) (by decide), rfl, kk (s1.trans s2) ?_⟩
      rw [isTurn, c, Bool.true_and, e1, dec_int]
      rfl
    -- the list of both pairs
    have turn : ∀ (D : Addr) (i : Nat) (z : V) (H' : Hp), H1 D = none → [u, v][i]? = some z → (Same H1 H' ∧ ∃ acc, H' D = some (.lst acc) ∧ acc.length = i ∧ ∀ (j : Nat) (w : V) (dj : Da), acc[j]? = some w → [x, y][j]? = some dj → PtP H' w dj) →
        tCall spParts [] E0 (tCons (tVar 6) tNil) ((wipe (start N_is_turn [.ref a]) [6]).set 6 (some z)) H' fun w H4 => ∃ acc, H4 D = some (.lst acc) ∧ acc.length < sizeLine ∧ (Same H1 (upd H4 D (.lst (acc ++ [w]))) ∧ ∃ acc', upd H4 D (.lst (acc ++ [w])) D = some (.lst acc') ∧ acc'.length = i + 1 ∧ ∀ (j : Nat) (w' : V) (dj : Da), acc'[j]? = some w' → [x, y][j]? = some dj → PtP (upd H4 D (.lst (acc ++ [w]))) w' dj) := by
      rintro D i z H' hD hz ⟨s2, acc, hacc, hl, hall⟩
      have hi : i < 2 := (List.getElem?_eq_some_iff.mp hz).1
      obtain ⟨dz, e2, hzd, nz⟩ : ∃ dz, [x, y][i]? = some dz ∧ Is H1 z dz ∧ isNum dz = true := by
        match i, hi, hz with
        | 0, _, hz => cases hz; exact ⟨x, rfl, hu, nx⟩
        | 1, _, hz => cases hz; exact ⟨y, rfl, hv, ny⟩
      refine ⟨_, rfl, z, dz, rfl, hzd.up s2, nz, fun H4 p s4 hp => ⟨acc, s4 _ _ hacc, by rw [hl]; exact Nat.lt_of_lt_of_le hi (by decide), Same.mut (s2.trans s4) hD, _, upd_same, by rw [List.length_append, hl]; rfl, ?_⟩⟩
      intro j w' dj hw hj
      have hacc4 := s4 _ _ hacc
      by_cases lt : j < i
      · rw [List.getElem?_append_left (by omega)] at hw
        exact ((hall j w' dj hw hj).up s4).upd hacc4 (by omega)
      · have ej : j = i := by
          have := (List.getElem?_eq_some_iff.mp hw).1
          rw [List.length_append, hl] at this
          have : j < i + 1 := this
          omega
        subst ej
        rw [List.getElem?_append_right (by omega), hl, Nat.sub_self] at hw
        cases hw
        rw [e2] at hj
        cases hj
        exact (PtP.upd ⟨p, rfl, hp⟩ hacc4 (by omega))
    rcases hs with hs | hs
    · refine .inl ⟨_, rfl, a, rfl, ⟨_, hs⟩, fun D hD => lc_list (xs := [u, v]) (fun i H' => Same H1 H' ∧ ∃ acc, H' D = some (.lst acc) ∧ acc.length = i ∧ ∀ (j : Nat) (w : V) (dj : Da), acc[j]? = some w → [x, y][j]? = some dj → PtP H' w dj)
        ⟨Same.new hD, [], upd_same, rfl, fun j w dj z => by simp at z⟩ (fun i H' _ p => p.1.seq hs) (fun i z H' hz p => ⟨rfl, turn D i z H' hD hz p⟩) (fun H' pf => by
        obtain ⟨s2, acc, hacc, hl, hall⟩ := pf
        match acc, hl with
        | [p, q], _ => exact rest H' D p q s2 hacc (hall 0 p x rfl rfl) (hall 1 q y rfl rfl))⟩
    · refine .inr ⟨_, rfl, a, rfl, ⟨_, hs⟩, fun D hD => lc_tup (xs := [u, v]) (fun i H' => Same H1 H' ∧ ∃ acc, H' D = some (.lst acc) ∧ acc.length = i ∧ ∀ (j : Nat) (w : V) (dj : Da), acc[j]? = some w → [x, y][j]? = some dj → PtP H' w dj)
        ⟨Same.new hD, [], upd_same, rfl, fun j w dj z => by simp at z⟩ (fun i H' _ p => Evl.ex_t p.1 hs) (fun i z H' hz p => ⟨rfl, turn D i z H' hD hz p⟩) (fun H' pf => by
        obtain ⟨s2, acc, hacc, hl, hall⟩ := pf
        match acc, hl with
        | [p, q], _ => exact rest H' D p q s2 hacc (hall 0 p x rfl rfl) (hall 1 q y rfl rfl))⟩
end
end Ty

namespace Ty
open PySem PySem.Spec PyProof.Rows L2
section
variable {P : Program} {w : World} {K : PySem.W.Frag} {mg : Str → Option Value} {base : Heap}
theorem ok_law_sack (T : Txt K mg) : FnOk P w K mg base CX0 1 T.a_law_sack T.d_law_sack ["_law_script"] (spSack K) := by
  refine T.F_law_sack.ok sc_law_sack (fun vs H Q E h => ?_) (fun cdv A outer s H vs Q E hr h => ?_)
  · obtain ⟨a, ns, rfl, _⟩ := h
    rfl
  · obtain ⟨a, ns, rfl, hS, hl, k⟩ := h
    refine ⟨_, (pss_one (ps_ret (pe_lst (pa_cons (pe_lc (own := [("_law_cell", 1)]) (g := gName 1) rfl sc_law_sack.nd (pi_list (pe_slice sl_list (pv 0) po_none (po_some pe_int))) (blkOk_by (N := N_law_sack) (sc := defScope s_law_sack) (by decide +kernel)) (fun _ _ _ _ _ => (pg_name (i := 1) sc_law_sack.nd rfl (Or.inl rfl))) (fun _ _ _ _ _ => pts_nil) (fun _ _ _ _ _ => (pe_callTy call_int1 (by rfl) T.z_int (by decide +kernel) (pa_cons (pv 1) pa_nil)))) (pa_cons pe_int (pa_cons pe_int pa_nil)))))), ?_⟩
    obtain ⟨ms, e, hm⟩ := cut_ints ns none (some 60)
    refine ⟨_, rfl, _, rfl, a, _, rfl, hS, fun p hp => ?_⟩
    refine ⟨p, rfl, ⟨_, .inl (.inl upd_same)⟩, fun D hD => ?_⟩
    have hDp : D ≠ p := fun z => by rw [z, upd_same] at hD; cases hD
    have hD0 : H D = none := by rwa [upd_ne hDp] at hD
    refine lc_list (xs := cutV (ns.map V.int) none (some 60)) (fun i H' => Same H H' ∧ H' p = some (.lst (cutV (ns.map V.int) none (some 60))) ∧ H' D = some (.lst ((ms.take i).map V.int))) ?_ ?_ ?_ ?_
    · refine ⟨(Same.new hp).trans (Same.new hD), ?_, upd_same⟩
      rw [upd_ne hDp.symm]
      exact upd_same
    · intro i H' _ q
      exact .inl (.inl q.2.1)
    · intro i x H' hx q
      rw [e] at hx
      obtain ⟨z, hz, rfl⟩ : ∃ z, ms[i]? = some z ∧ x = V.int z := by
        rw [List.getElem?_map] at hx
        cases e : ms[i]? with
        | none => rw [e] at hx; cases hx
        | some z => rw [e] at hx; exact ⟨z, rfl, (Option.some.inj hx).symm⟩
      refine ⟨rfl, _, rfl, .inl ⟨z, rfl, _, q.2.2, ?_, Same.mut q.1 hD0, ?_, ?_⟩⟩
      · rw [List.length_map, List.length_take]
        exact Nat.lt_of_le_of_lt (Nat.min_le_right _ _) (Nat.lt_of_le_of_lt (Nat.le_trans hm hl) (by decide))
      · rw [upd_ne hDp.symm]
        exact q.2.1
      · rw [upd_same, List.take_add_one, hz, List.map_append]
        rfl
    · intro H' q
      have eD : H' D = some (.lst (ms.map V.int)) := by
        have q3 := q.2.2
        rwa [e, List.length_map, List.take_length] at q3
      refine ⟨(by decide : 3 ≤ sizeLine), fun j hj => k j D _ (q.1.trans (Same.new hj)) (q.1.free hj) hD0 ⟨ms, 0, 0, upd_same, ?_, ?_, by decide, by decide⟩⟩
      · rw [upd_ne (ne_of_none eD hj)]
        exact eD
      · exact ne_of_none eD hj
theorem ok_law_reach (T : Txt K mg) : FnOk P w K mg base CX0 1 T.a_law_reach T.d_law_reach ["_law_sack_here", "_law_many"] spReach := by
  refine T.F_law_reach.ok sc_law_reach (fun vs H Q E h => ?_) (fun cdv A outer s H vs Q E hr h => ?_)
  · obtain ⟨j, c, many, n, rfl, _⟩ := h
    rfl
  · obtain ⟨j, c, many, n, rfl, ⟨cells, at_, left, hj, hc, hcj, h0, hn⟩, hn2, hpos, hbig, k⟩ := h
    refine ⟨_, (pss_cons (ps_if (pt_cmpR op_gt (pe_ix ix_list (pv 0) pe_int (fun _ _ => rfl)) pe_int (nomark _)) (pss_cons (ps_set (i := 2) sc_law_reach.nd rfl (Or.inl rfl) (pe_callTy call_int1 (by rfl) T.z_int (by decide +kernel) (pa_cons (pe_ix ix_list (pv 0) pe_int (fun _ _ => rfl)) pa_nil)))
      (pss_cons (ps_asg (pe_op op_fdivW (pv 2) (pv 1)) (pg_sub (pv 0) pe_int set_list))
      (pss_one (ps_ret (pe_op op_mod (pe_callTy call_int1 (by rfl) T.z_int (by decide +kernel) (pa_cons (pv 2) pa_nil)) (pv 1)))))) pss_nil)
      (pss_cons (ps_set (i := 3) sc_law_reach.nd rfl (Or.inl rfl) (pe_ix ix_list (pv 0) pe_int (fun _ _ => rfl)))
      (pss_cons (ps_asg (pe_op op_add (pv 3) pe_int) (pg_sub (pv 0) pe_int set_list))
      (pss_cons (ps_set (i := 4) sc_law_reach.nd rfl (Or.inl rfl) (pe_op op_add (pe_op op_mul pe_int (pv 3)) pe_int))
      (Evl.pss_cut (ps_if (pt_cmpR (op_neE hr.units0) (pe_ix ix_list (pv 0) pe_int (fun _ _ => rfl)) (pe_lst pa_nil) (nomark _)) (pss_one (ps_set (i := 4) sc_law_reach.nd rfl (Or.inl rfl) (pe_ix ix_list (pe_ix ix_list (pv 0) pe_int (fun _ _ => rfl)) (pe_op op_mod (pe_callTy call_int1 (by rfl) T.z_int (by decide +kernel) (pa_cons (pv 3) pa_nil)) (pe_callB call_len_seq (by rfl) T.z_len PySem.boot_len (pa_cons (pe_ix ix_list (pv 0) pe_int (fun _ _ => rfl)) pa_nil))) (fun _ _ => rfl)))) pss_nil)
      (Evl.pss_cut (ps_if (PW.pt (pw_and (pt_cmpR op_lt (pv 3) (pe_callB call_len_seq (by rfl) T.z_len PySem.boot_len (pa_cons (pe_ix ix_list (pv 0) pe_int (fun _ _ => rfl)) pa_nil)) (nomark _)) (pw_and1 (pt_cmpR op_ge (pe_callB call_abs (by rfl) T.z_abs (by decide +kernel) (pa_cons (pv 4) pa_nil)) (pe_op op_pow pe_int pe_int) (nomark _))))) (pss_cons (ps_set (i := 2) sc_law_reach.nd rfl (Or.inl rfl) (pe_op op_add (pe_op op_mul pe_int (pe_op op_sub (pe_callB call_abs (by rfl) T.z_abs (by decide +kernel) (pa_cons (pe_callTy call_int1 (by rfl) T.z_int (by decide +kernel) (pa_cons (pv 4) pa_nil)) pa_nil)) (pe_op op_pow pe_int pe_int))) (pe_callTy call_int1 (by rfl) T.z_int (by decide +kernel) (pa_cons (pe_cmpR op_lt (pv 4) pe_int (nomark _)) pa_nil))))
      (pss_cons (ps_asg (pe_op op_fdivW (pv 2) (pv 1)) (pg_sub (pv 0) pe_int set_list))
      (pss_one (ps_ret (pe_op op_mod (pe_callTy call_int1 (by rfl) T.z_int (by decide +kernel) (pa_cons (pv 2) pa_nil)) (pv 1)))))) pss_nil)
      (pss_cons (ps_set (i := 5) sc_law_reach.nd rfl (Or.inl rfl) (pe_op op_mod (pe_callTy call_int1 (by rfl) T.z_int (by decide +kernel) (pa_cons (pe_op op_pow (pe_op op_add (pe_op op_add (pe_op op_mod (pe_callTy call_int1 (by rfl) T.z_int (by decide +kernel) (pa_cons (pv 4) pa_nil)) pe_int) (pe_op op_mul pe_int (pv 3))) pe_int) pe_int) pa_nil)) pe_int))
      (pss_cons (ps_set (i := 5) sc_law_reach.nd rfl (Or.inl rfl) (pe_op op_mod (pe_callTy call_int1 (by rfl) T.z_int (by decide +kernel) (pa_cons (pe_op op_pow (pe_op op_add (pe_op op_add (pe_op op_mul (pv 5) (pe_op op_add (pe_op op_mul pe_int (pv 3)) pe_int)) (pe_op op_mul (pe_op op_mul pe_int (pv 3)) (pv 3))) pe_int) pe_int) pa_nil)) pe_int))
      (pss_one (ps_ret (pe_op op_mod (pe_callTy call_int1 (by rfl) T.z_int (by decide +kernel) (pa_cons (pe_op op_fdivW (pv 5) pe_int) pa_nil)) (pv 1)))))))))))), ?_⟩
    have cdiv : ∀ i : Int, CDivW i many := fun i => wide_div hpos hbig (by decide) (by decide)
    refine ⟨_, rfl, j, _, _, _, rfl, rfl, .inl (.inl hj), rfl, _, _, rfl, rfl, _, rfl, iteD (fun pos => ?_) fun _ => ?_⟩
    · refine ⟨_, rfl, j, _, _, _, rfl, rfl, .inl (.inl hj), rfl, .inl ⟨_, rfl, ?_⟩⟩
      refine ⟨_, rfl, _, rfl, _, _, rfl, rfl, cdiv _, _, rfl, j, _, _, _, rfl, rfl, hj, rfl, ?_⟩
      refine ⟨_, rfl, .inl ⟨_, rfl, _, rfl, _, _, rfl, rfl, hpos, k _ _ keep_upd ⟨cells, at_, _, upd_same, ?_, hcj, h0, by omega⟩ (mod_lt_of hpos).1 (mod_lt_of hpos).2⟩⟩
      rw [upd_ne hcj]
      exact hc
    refine ⟨_, rfl, j, _, _, _, rfl, rfl, .inl (.inl hj), rfl, ?_⟩
    refine ⟨_, rfl, _, _, rfl, rfl, _, rfl, j, _, _, _, rfl, rfl, hj, rfl, ?_⟩
    refine ⟨_, rfl, _, _, rfl, rfl, .inl ⟨by decide, by decide⟩, _, _, rfl, rfl, ?_⟩
    -- the cell
    have hj2 : upd H j (.lst ([V.ref c, .int at_, .int left].set (Int.toNat 1) ((fun i j => V.int (i + j)) at_ 1))) j = some (.lst [.ref c, .int (at_ + 1), .int left]) := upd_same
    have hc2 : upd H j (.lst ([V.ref c, .int at_, .int left].set (Int.toNat 1) ((fun i j => V.int (i + j)) at_ 1))) c = some (.lst (cells.map V.int)) := by
      rw [upd_ne hcj]
      exact hc
    have kp : Keep j H (upd H j (.lst ([V.ref c, .int at_, .int left].set (Int.toNat 1) ((fun i j => V.int (i + j)) at_ 1)))) := keep_upd
    generalize upd H j (.lst ([V.ref c, .int at_, .int left].set (Int.toNat 1) ((fun i j => V.int (i + j)) at_ 1))) = H1 at hj2 hc2 kp ⊢
    refine ⟨fun σ' H' => Same H1 H' ∧ ∃ z : Int, σ' = [some (.ref j), some (.int many), none, some (.int at_), some (.int z), none], ?_, ?_⟩
    · refine ⟨_, rfl, j, _, _, _, rfl, rfl, .inl (.inl hj2), rfl, Nat.zero_le _, fun l hl => ⟨c, l, _, rfl, rfl, .inl (.inl (Same.new hl _ _ hc2)), .inl (.inl upd_same), _, rfl, iteN (fun ne => ?_) fun _ => ?_⟩⟩
      · have hj3 := Same.new (o := .lst []) hl _ _ hj2
        have hc3 := Same.new (o := .lst []) hl _ _ hc2
        have pl : (0 : Int) < ((cells.map V.int).length : Int) := by
          cases cells with
          | nil => cases ne
          | cons _ _ => rw [List.length_map, List.length_cons]; omega
        have m := mod_lt_of (a := at_) pl
        have lt : (at_ % ((cells.map V.int).length : Int)).toNat < cells.length := by
          have m1 := m.1
          have m2 := m.2
          rw [List.length_map] at m1 m2 ⊢
          omega
        refine ⟨_, rfl, j, _, _, _, rfl, rfl, .inl (.inl hj3), rfl, _, rfl, .inl ⟨_, rfl, _, rfl, j, _, _, _, rfl, rfl, .inl (.inl hj3), rfl, c, _, rfl, .inl (.inl (.inl hc3)), _, _, rfl, rfl, pl, c, _, _, .int cells[(at_ % ((cells.map V.int).length : Int)).toNat], rfl, rfl, .inl (.inl hc3), ?_, Same.new hl, _, rfl⟩⟩
        refine atI_of m.1 rfl ?_
        rw [List.getElem?_map, List.getElem?_eq_getElem lt]
        rfl
      · exact ⟨Same.new hl, _, rfl⟩
    rintro σ' H2 ⟨s2, z, rfl⟩
    have hj3 := s2 _ _ hj2
    have hc3 := s2 _ _ hc2
    have kp2 : Keep j H H2 := kp.trans (Same.keep s2)
    have J2 : Jar j c H2 (n + 1) := ⟨cells, at_ + 1, left, hj3, hc3, hcj, by omega, by omega⟩
    refine ⟨fun σ' H' => σ' = [some (.ref j), some (.int many), none, some (.int at_), some (.int z), none] ∧ H' = H2, ?_, ?_⟩
    · have great : ∀ (w : Int), (upd H2 j (.lst ([V.ref c, .int (at_ + 1), .int left].set (Int.toNat 2) ((fun i j => V.int (i / j)) w many)))) c = some (.lst (cells.map V.int)) := fun w => by
        rw [upd_ne hcj]
        exact hc3
      refine ⟨_, rfl, _, rfl, j, _, _, _, rfl, rfl, .inl (.inl hj3), rfl, c, _, rfl, .inl (.inl (.inl hc3)), _, _, rfl, rfl, _, rfl, iteD (fun _ => ?_) fun _ => ⟨rfl, rfl⟩⟩
      refine ⟨_, rfl, _, rfl, _, _, rfl, rfl, ⟨by decide, by decide, by decide⟩, _, _, rfl, rfl, _, rfl, iteD (fun _ => ?_) fun _ => ⟨rfl, rfl⟩⟩
      refine ⟨_, rfl, .inl ⟨_, rfl, _, rfl, _, _, rfl, rfl, ⟨by decide, by decide, by decide⟩, _, _, rfl, rfl, _, _, rfl, rfl, .inl ⟨by decide, by decide⟩, ?_⟩⟩
      refine ⟨_, rfl, _, _, rfl, rfl, .inr ⟨_, rfl, _, _, rfl, rfl, ?_⟩⟩
      refine ⟨_, rfl, _, rfl, _, _, rfl, rfl, cdiv _, _, rfl, j, _, _, _, rfl, rfl, hj3, rfl, ?_⟩
      refine ⟨_, rfl, .inl ⟨_, rfl, _, rfl, _, _, rfl, rfl, hpos, k _ _ (kp2.trans keep_upd) ⟨cells, at_ + 1, _, upd_same, great _, hcj, by omega, by omega⟩ (mod_lt_of hpos).1 (mod_lt_of hpos).2⟩⟩
    rintro σ' H3 ⟨rfl, rfl⟩
    have m1 := mod_lt_of (a := z) (b := 2147483629) (by decide)
    refine ⟨_, rfl, .inl ⟨_, rfl, _, _, rfl, rfl, (by show (0 : Int) < 2147483629; decide), _, rfl, _, _, rfl, rfl, .inl ⟨by decide, by decide⟩, _, _, rfl, rfl, _, _, rfl, rfl, _, _, rfl, rfl, ⟨by decide, by decide, ?_⟩, .inl ⟨_, rfl, _, _, rfl, rfl, (by show (0 : Int) < 2147483563; decide), ?_⟩⟩⟩
    · show (z % 2147483629 + 74829 * at_ + 4809).natAbs < 2 ^ 64
      omega
    have m2 := mod_lt_of (a := (z % 2147483629 + 74829 * at_ + 4809) ^ (5 : Int).toNat) (b := 2147483563) (by decide)
    obtain ⟨y, hy⟩ : ∃ y : Int, (z % 2147483629 + 74829 * at_ + 4809) ^ (5 : Int).toNat % 2147483563 = y := ⟨_, rfl⟩
    rw [hy] at m2
    have b1 : 0 ≤ y * (2 * at_ + 4929) ∧ y * (2 * at_ + 4929) ≤ 2147483563 * 300000 := ⟨Int.mul_nonneg m2.1 (by omega), Int.mul_le_mul (by omega) (by omega) (by omega) (by decide)⟩
    have b2 : 0 ≤ 62759 * at_ * at_ ∧ 62759 * at_ * at_ ≤ 6275900000 * 100000 := ⟨Int.mul_nonneg (by omega) (by omega), Int.mul_le_mul (by omega) (by omega) (by omega) (by decide)⟩
    refine ⟨_, rfl, _, rfl, _, _, rfl, rfl, .inl ⟨by decide, by decide⟩, _, _, rfl, rfl, _, _, rfl, rfl, .inr ⟨by omega, by omega⟩, _, rfl, _, _, rfl, rfl, .inl ⟨by decide, by decide⟩, _, rfl, _, _, rfl, rfl, .inr ⟨by omega, by omega⟩, _, _, rfl, rfl, _, _, rfl, rfl, _, _, rfl, rfl, ⟨by decide, by decide, ?_⟩, .inl ⟨_, rfl, _, _, rfl, rfl, (by show (0 : Int) < 2147483587; decide), ?_⟩⟩
    · show ((z % 2147483629 + 74829 * at_ + 4809) ^ (5 : Int).toNat % 2147483563 * (2 * at_ + 4929) + 62759 * at_ * at_ + 74863).natAbs < 2 ^ 64
      rw [hy]
      omega
    refine ⟨_, rfl, _, _, rfl, rfl, ⟨by decide, by decide⟩, .inl ⟨_, rfl, _, rfl, _, _, rfl, rfl, hpos, k _ _ kp2 J2 (mod_lt_of hpos).1 (mod_lt_of hpos).2⟩⟩
theorem ok_law_pick (T : Txt K mg) : FnOk P w K mg base CX0 2 T.a_law_pick T.d_law_pick ["_law_sack_here", "_law_some"] spPick := by
  have G_law_reach := ok_law_reach (P := P) (w := w) (base := base) T
  refine T.F_law_pick.ok sc_law_pick (fun vs H Q E h => ?_) (fun cdv A outer s H vs Q E hr h => ?_)
  · obtain ⟨j, bk, p, xs, n, rfl, _⟩ := h
    rfl
  · obtain ⟨j, bk, p, xs, n, rfl, hJ, hn, hp, hpj, hl0, hl, k⟩ := h
    refine ⟨_, (pss_one (ps_ret (pe_ix ix_list (pv 1) (pe_call G_law_reach (hr.mono (by decide)) (by rfl) T.m_law_reach T.F_law_reach.kp (b_law_reach T) .nil pass0 (pa_cons (pv 0) (pa_cons (pe_callB call_len_seq (by rfl) T.z_len PySem.boot_len (pa_cons (pv 1) pa_nil)) pa_nil))) (fun _ _ => rfl)))), ?_⟩
    have b : ((xs.length : Int)).natAbs < 2 ^ 8000 := Nat.lt_of_le_of_lt (show (xs.length : Int).natAbs ≤ 2 ^ 10 by omega) (Nat.pow_lt_pow_right (by decide) (by decide))
    refine ⟨_, rfl, _, rfl, _, rfl, p, xs, rfl, .inl (.inl (.inl hp)), j, bk, _, n, rfl, hJ, hn, by omega, b, fun r H' kp hJ' h0 h1 => ?_⟩
    have hp' : H' p = some (.lst xs) := kp p _ hpj hp
    have lt : r.toNat < xs.length := by omega
    exact ⟨p, xs, r, xs[r.toNat], rfl, rfl, .inl (.inl hp'), atI_of h0 rfl (List.getElem?_eq_getElem lt), k _ _ kp hJ' (List.getElem_mem lt)⟩
end
end Ty

namespace Ty
open PySem PySem.Spec PyProof.Rows L2
local macro_rules | `(tactic| walk_at "go") => `(tactic| (repeat (with_reducible first | refine go_next ?_ | refine go_seq ?_ | refine go_if ?_ | refine go_asg ?_ | refine go_ret ?_ | refine go_or ?_ | refine go_and ?_ | refine go_not ?_ | refine go_test ?_ | refine go_B ?_ | refine go_op ?_ | refine go_cb ?_ | refine go_cons ?_)))
section
variable {P : Program} {w : World} {K : PySem.W.Frag} {mg : Str → Option Value} {base : Heap}
theorem ok_law_has_form (T : Txt K mg) : FnOk P w K mg base CX0 1 T.a_law_has_form T.d_law_has_form ["_law_value_here"] spForm := by
  refine T.F_law_has_form.ok sc_law_has_form (fun vs H Q E h => ?_) (fun cdv A outer s H vs Q E hr h => ?_)
  · obtain ⟨v, d, rfl, _⟩ := h
    rfl
  · obtain ⟨v, d, rfl, h, ok, hlen, k⟩ := h
    refine ⟨_, (pss_cons (ps_if (pt_val (pe_callB call_isiInt (by rfl) T.z_isinstance (by decide +kernel) (pa_cons (pv 0) (pa_cons (pe_bltn (v := .ty "int") (by rfl) T.z_int (by decide +kernel) rfl) pa_nil)))) (pss_one (ps_ret (pe_not (pe_callB call_isiBool (by rfl) T.z_isinstance (by decide +kernel) (pa_cons (pv 0) (pa_cons (pe_bltn (v := .ty "bool") (by rfl) T.z_bool (by decide +kernel) rfl) pa_nil)))))) pss_nil)
      (pss_cons (ps_if (PW.pt (pw_or (pt_not (pt_val (pe_callB call_isiSeq (by rfl) T.z_isinstance (by decide +kernel) (pa_cons (pv 0) (pa_cons (pe_tup (pa_cons (pe_bltn (v := .ty "list") (by rfl) T.z_list (by decide +kernel) rfl) (pa_cons (pe_bltn (v := .ty "tuple") (by rfl) T.z_tuple (by decide +kernel) rfl) pa_nil))) pa_nil))))) (pw_or1 (pt_cmpR op_ne (pe_callB call_len_seq (by rfl) T.z_len PySem.boot_len (pa_cons (pv 0) pa_nil)) pe_int (nomark _))))) (pss_one (ps_ret pe_bl)) pss_nil)
      (pss_cons (ps_if (PW.pt (pw_or (pt_cmpR (op_neE hr.units0) (pe_lc (own := [("_law_each", 1)]) (g := gName 1) rfl sc_law_has_form.nd (pi_or (pi_list (pv 0)) (pi_tup (pv 0))) (blkOk_by (N := N_law_has_form) (sc := defScope s_law_has_form) (by decide +kernel)) (fun _ _ _ _ _ => (pg_name (i := 1) sc_law_has_form.nd rfl (Or.inl rfl))) (fun _ _ _ _ _ => pts_one (PW.pt (pw_or (pt_val (pe_callB call_isiBool (by rfl) T.z_isinstance (by decide +kernel) (pa_cons (pv 1) (pa_cons (pe_bltn (v := .ty "bool") (by rfl) T.z_bool (by decide +kernel) rfl) pa_nil)))) (pw_or1 (pt_not (pt_val (pe_callB call_isiInt (by rfl) T.z_isinstance (by decide +kernel) (pa_cons (pv 1) (pa_cons (pe_bltn (v := .ty "int") (by rfl) T.z_int (by decide +kernel) rfl) pa_nil))))))))) (fun _ _ _ _ _ => (pv 1))) (pe_lst pa_nil) (nomark _)) (pw_or1 (pt_cmpR op_lt (pe_ix (IxR.or (r := rIxL K) (r' := rIxT K) ix_list ix_tup) (pv 0) pe_int (fun _ _ => rfl)) pe_int (nomark _))))) (pss_one (ps_ret pe_bl)) pss_nil)
      (pss_one (ps_ret (pe_cmpR (op_eqE hr.units0) (pe_lc (own := [("_law_by", 2)]) (g := gName 2) rfl sc_law_has_form.nd (pi_range2 (by rfl) T.z_range (pa_cons pe_int (pa_cons (pe_op op_add (pe_callB (call_min2 rfl) (by rfl) T.z_min (by decide +kernel) (pa_cons (pe_ix (IxR.or (r := rIxL K) (r' := rIxT K) ix_list ix_tup) (pv 0) pe_int (fun _ _ => rfl)) (pa_cons pe_int pa_nil))) pe_int) pa_nil))) (blkOk_by (N := N_law_has_form) (sc := defScope s_law_has_form) (by decide +kernel)) (fun _ _ _ _ _ => (pg_name (i := 2) sc_law_has_form.nd rfl (Or.inl rfl))) (fun _ _ _ _ _ => pts_one (PW.pt (pw_and (pt_cmpR op_eq (pe_op op_mod (pe_callTy call_int1 (by rfl) T.z_int (by decide +kernel) (pa_cons (pe_ix (IxR.or (r := rIxL K) (r' := rIxT K) ix_list ix_tup) (pv 0) pe_int (fun _ _ => rfl)) pa_nil)) (pv 2)) pe_int (nomark _)) (pw_and1 (pt_cmpR op_eq (pe_op op_mod (pe_callTy call_int1 (by rfl) T.z_int (by decide +kernel) (pa_cons (pe_ix (IxR.or (r := rIxL K) (r' := rIxT K) ix_list ix_tup) (pv 0) pe_int (fun _ _ => rfl)) pa_nil)) (pv 2)) pe_int (nomark _)))))) (fun _ _ _ _ _ => (pv 2))) (pe_lst pa_nil) (nomark _))))))), ?_⟩
    have kk : ∀ {b : Bool} {H1 : Hp}, Same H H1 → isNum d = b → Q (.bl b) H1 := fun s e => e ▸ k _ s
    refine ⟨_, rfl, v, d, rfl, h, _, rfl, iteB (fun c => ?_) fun c => ?_⟩
    · refine ⟨_, rfl, v, d, rfl, h, _, rfl, kk (Same.refl _) ?_⟩
      cases d with
      | int _ => rfl
      | bl _ => rfl
      | _ => cases c
    have nN : isN d = false := by
      cases d with
      | int _ => cases c
      | _ => rfl
    refine ⟨_, rfl, (by decide : 2 ≤ sizeLine), fun p hp => ⟨v, d, p, rfl, upd_same, h.up (Same.new hp), _, rfl, iteN (fun e => ?_) fun e => ?_⟩⟩
    · exact kk (Same.new hp) (by rw [isNum, nN, e, Bool.false_and, Bool.or_false])
    have s1 : Same H (upd H p (.tup [.ty "list", .ty "tuple"])) := Same.new hp
    obtain ⟨a, xs, rfl, hs, hx⟩ := (h.up s1).seq (K := K) e
    refine ⟨_, rfl, a, xs, rfl, hs, rfl, _, rfl, iteE (fun l => ?_) fun l => ?_⟩
    · refine kk s1 ?_
      have l' : (items d).length ≠ 2 := fun z => int_ne l (by rw [hx.length, z]; rfl)
      rw [isNum, nN, e, Bool.true_and, Bool.false_or]
      exact isPair_len _ l'
    have l2 := int_eq l
    obtain ⟨dx, dy, e1⟩ : ∃ dx dy, items d = [dx, dy] := by
      have q := hx.length
      generalize items d = ds at q
      match ds, xs, l2, q with
      | [dx, dy], _, _, _ => exact ⟨dx, dy, rfl⟩
      | [], [_, _], _, q => cases q
      | [_], [_, _], _, q => cases q
      | _ :: _ :: _ :: _, [_, _], _, q => cases q
    rw [e1] at hx
    have nm : isNum d = isPair [dx, dy] := by rw [isNum, nN, e, e1, Bool.true_and, Bool.false_or]
    obtain ⟨x, y, rfl, hxx, hxy⟩ := hx.two
    have ix : ∀ {H' : Hp} {i : Int} {u : V} {Q' : VK}, Same (upd H p (.tup [.ty "list", .ty "tuple"])) H' → atI [x, y] i = some u → Q' u H' → (rIxL K (.ref a) (.int i) H' Q' ∨ rIxT K (.ref a) (.int i) H' Q') := fun {H' i u Q'} s e q => by
      rcases hs with hs | hs
      · exact .inl ⟨a, _, i, u, rfl, rfl, s.seq hs, e, q⟩
      · exact .inr ⟨a, _, i, u, rfl, rfl, Evl.ex_t s hs, e, q⟩
    walk_at "go"
    refine r_filter (σ := start N_law_has_form [V.ref a]) (l := 0) (i := 1) (K := K) (xs := [x, y]) (ds := [dx, dy]) (fun d => isB d || !isI d) rfl hs hx (by show 2 ≤ 1000; decide) (by intro _; rfl) (by intro _; rfl) ?_ ?_
    · intro z dz H' Q' s' hz _ q
      have q' : ∀ {b : Bool}, (isB dz || !isI dz) = b → Q' b H' := fun e => e ▸ q H' (Same.refl _)
      refine ⟨_, rfl, z, dz, rfl, hz, _, rfl, iteB (fun c => q' (by rw [c, Bool.true_or])) fun c => ⟨_, rfl, z, dz, rfl, hz, _, rfl, q' (by rw [c, Bool.false_or])⟩⟩
    intro D H3 acc s3 hD hacc he
    refine ⟨Nat.zero_le _, fun b hb => ⟨D, b, acc, rfl, rfl, .inl (.inl (Same.new hb _ _ hacc)), .inl (.inl upd_same), _, rfl, iteN (fun ne => ?_) fun em => ?_⟩⟩
    · refine kk ((s1.trans s3).trans (Same.new hb)) ?_
      rw [nm]
      rw [ne] at he
      unfold isPair
      split
      · rename_i heq
        cases heq
        cases he
      · rfl
    have all : isN dx = true ∧ isN dy = true := by
      rw [em] at he
      have he' : ((!(isB dx || !isI dx)) && ((!(isB dy || !isI dy)) && true)) = true := he.symm
      constructor
      · cases dx <;> first | rfl | (exfalso; simp [isB, isI] at he')
      · cases dy <;> first | rfl | (exfalso; simp [isB, isI] at he')
    obtain ⟨i, rfl, rfl⟩ := isN_of hxx all.1
    obtain ⟨m, rfl, rfl⟩ := isN_of hxy all.2
    have ok' : m ≤ 400 := by
      rw [e1] at ok
      exact of_decide_eq_true ok
    have s4 : Same (upd H p (.tup [.ty "list", .ty "tuple"])) (upd H3 b (.lst [])) := s3.trans (Same.new hb)
    generalize upd H3 b (.lst []) = H4 at s4 ⊢
    refine ⟨_, rfl, ix s4 (by rfl) ⟨_, _, rfl, rfl, _, rfl, iteD (fun lt => ?_) fun ge => ?_⟩⟩
    · refine kk (s1.trans s4) ?_
      rw [nm, isPair, decide_eq_false (by omega), Bool.false_and]
    have em2 : (if (400 : Int) < m then (400 : Int) else m) = m := if_neg (by omega)
    refine ⟨_, rfl, ix s4 (by rfl) ⟨m, 400, rfl, _, _, rfl, rfl, 2, _, rfl, ?_, fun D hD => ?_⟩⟩
    · show -(2 ^ 62) ≤ (2 : Int) ∧ (2 : Int) < 2 ^ 62 ∧ -(2 ^ 62) ≤ (if (400 : Int) < m then (400 : Int) else m) + 1 ∧ (if (400 : Int) < m then (400 : Int) else m) + 1 < 2 ^ 62
      rw [em2]
      omega
    have en : ((if (400 : Int) < m then (400 : Int) else m) + 1 - 2).toNat = (m + 1 - 2).toNat := by rw [em2]
    refine lc_range (lo := 2) (fun q H' => Same H4 H' ∧ ∃ acc, H' D = some (.lst acc) ∧ acc.length ≤ q ∧ acc.isEmpty = noDiv i m q) ⟨Same.new hD, [], upd_same, Nat.le_refl _, by rfl⟩ ?_ ?_
    · rintro q H' hq ⟨s5, acc, hacc2, hl2, he2⟩
      have q1 : (0 : Int) < 2 + (q : Int) := by omega
      have ix2 : ∀ {j : Int} {u : V} {Q' : VK}, atI [V.int i, V.int m] j = some u → Q' u H' → (rIxL K (.ref a) (.int j) H' Q' ∨ rIxT K (.ref a) (.int j) H' Q') := fun e q => ix (s4.trans s5) e q
      have more : noDiv i m (q + 1) = (noDiv i m q && !(decide (i % (2 + (q : Int)) = 0) && decide (m % (2 + (q : Int)) = 0))) := by
        unfold noDiv
        rw [List.range_succ, List.all_append]
        simp
      have hq2 : q ≤ 400 := by
        have : (q : Int) < ((if (400 : Int) < m then (400 : Int) else m) + 1 - 2).toNat := by exact_mod_cast hq
        rw [em2] at this
        omega
      have no : (decide (i % (2 + (q : Int)) = 0) && decide (m % (2 + (q : Int)) = 0)) = false → (Same H4 H' ∧ ∃ acc, H' D = some (.lst acc) ∧ acc.length ≤ q + 1 ∧ acc.isEmpty = noDiv i m (q + 1)) := fun z => by
        refine ⟨s5, acc, hacc2, by omega, ?_⟩
        rw [more, z, he2]
        simp
      refine ⟨rfl, _, rfl, ix2 (by rfl) (.inl ⟨_, rfl, _, rfl, _, _, rfl, rfl, q1, rfl, _, rfl, iteD (fun d1 => ?_) fun d1 => ?_⟩)⟩
      · refine ⟨_, rfl, ix2 (by rfl) (.inl ⟨_, rfl, _, rfl, _, _, rfl, rfl, q1, rfl, _, rfl, iteD (fun d2 => ?_) fun d2 => ?_⟩)⟩
        · refine ⟨_, rfl, acc, hacc2, Nat.lt_of_le_of_lt (show acc.length ≤ 1000 by omega) (by decide), Same.mut s5 hD, _, upd_same, by rw [List.length_append]; simp; omega, ?_⟩
          rw [more, decide_eq_true (int_eq d1), decide_eq_true (int_eq d2)]
          simp
        · exact no (by rw [decide_eq_false (int_ne d2), Bool.and_false])
      · exact no (by rw [decide_eq_false (int_ne d1), Bool.false_and])
    · rintro H5 ⟨s5, acc, hacc2, hl2, he2⟩
      refine ⟨Nat.zero_le _, fun b hb => ⟨D, b, acc, rfl, rfl, .inl (.inl (Same.new hb _ _ hacc2)), .inl (.inl upd_same), kk (((s1.trans s4).trans s5).trans (Same.new hb)) ?_⟩⟩
      have e5 : noDiv i m ((if (400 : Int) < m then (400 : Int) else m) + 1 - 2).toNat = coprime i m := by
        rw [en]
        exact noDiv_gcd (by omega) (by omega)
      rw [he2]
      refine Eq.trans ?_ e5.symm
      rw [nm, isPair, decide_eq_true (by omega), Bool.true_and]
theorem ok_law_value (T : Txt K mg) : FnOk P w K mg base CX0 3 T.a_law_value T.d_law_value ["_law_sack_here"] spValue := by
  have G_law_reach := ok_law_reach (P := P) (w := w) (base := base) T
  have G_law_pick := ok_law_pick (P := P) (w := w) (base := base) T
  refine T.F_law_value.ok sc_law_value (fun vs H Q E h => ?_) (fun cdv A outer s H vs Q E hr h => ?_)
  · obtain ⟨S, j, bk, n, rfl, _⟩ := h
    rfl
  · obtain ⟨S, j, bk, n, rfl, hS, lv, J, hn, k⟩ := h
    refine ⟨_, (pss_cons (ps_set (i := 1) sc_law_value.nd rfl (Or.inl rfl) (pe_call G_law_reach (hr.mono (by decide)) (by rfl) T.m_law_reach T.F_law_reach.kp (b_law_reach T) .nil pass0 (pa_cons (pv 0) (pa_cons pe_int pa_nil))))
      (pss_cons (ps_if (pt_cmpR op_eq (pv 1) pe_int (nomark _)) (pss_one (ps_ret (pe_op op_sub (pe_call G_law_reach (hr.mono (by decide)) (by rfl) T.m_law_reach T.F_law_reach.kp (b_law_reach T) .nil pass0 (pa_cons (pv 0) (pa_cons pe_int pa_nil))) pe_int))) pss_nil)
      (pss_cons (ps_if (pt_cmpR op_lt (pv 1) pe_int (nomark _)) (pss_cons (ps_set (i := 2) sc_law_value.nd rfl (Or.inl rfl) (pe_tup (pa_cons (pe_op op_sub (pe_call G_law_reach (hr.mono (by decide)) (by rfl) T.m_law_reach T.F_law_reach.kp (b_law_reach T) .nil pass0 (pa_cons (pv 0) (pa_cons pe_int pa_nil))) pe_int) (pa_cons (pe_call G_law_pick (hr.mono (by decide)) (by rfl) T.m_law_pick T.F_law_pick.kp (b_law_pick T) .nil pass0 (pa_cons (pv 0) (pa_cons (pe_lst (pa_cons pe_int (pa_cons pe_int (pa_cons pe_int (pa_cons pe_int (pa_cons pe_int (pa_cons pe_int (pa_cons pe_int (pa_cons (pe_un un_neg pe_int) (pa_cons pe_int (pa_cons pe_int pa_nil))))))))))) pa_nil))) pa_nil))))
      (pss_one (ps_ret (pe_ifExp (pt_cmpR op_eq (pv 1) pe_int (nomark _)) (pe_callTy call_list_of (by rfl) T.z_list (by decide +kernel) (pa_cons (pv 2) pa_nil)) (pv 2))))) pss_nil)
      (pss_one (ps_ret (pe_call G_law_pick (hr.mono (by decide)) (by rfl) T.m_law_pick T.F_law_pick.kp (b_law_pick T) .nil pass0 (pa_cons (pv 0) (pa_cons (pe_lst (pa_cons pe_non (pa_cons pe_bl (pa_cons pe_bl (pa_cons pe_str (pa_cons pe_str (pa_cons (pe_tup pa_nil) (pa_cons (pe_lst (pa_cons pe_int pa_nil)) (pa_cons (pe_tup (pa_cons pe_int (pa_cons pe_int (pa_cons pe_int pa_nil)))) (pa_cons (pe_tup (pa_cons pe_int (pa_cons pe_bl pa_nil))) (pa_cons (pe_tup (pa_cons pe_non (pa_cons pe_int pa_nil))) (pa_cons (pe_tup (pa_cons (pe_tup (pa_cons pe_int (pa_cons pe_int pa_nil))) (pa_cons pe_int pa_nil))) (pa_cons pe_dnewK (pa_cons (pe_op op_pow pe_int pe_int) (pa_cons (pe_tup (pa_cons (pe_op op_pow pe_int pe_int) (pa_cons pe_int pa_nil))) pa_nil))))))))))))))) pa_nil)))))))), ?_⟩
    refine dr_asg (dr_reach rfl (by decide) (by decide)) lv J (by omega) fun v d H1 k1 l1 J1 h1 p1 => ?_
    obtain ⟨way, rfl, w0, w1⟩ := p1
    cases h1
    refine dr_when (drT_eq (dr_vI rfl) dr_cI) l1 J1 (by omega) (fun H2 k2 l2 J2 _ => ?_) fun H2 k2 l2 J2 _ => ?_
    · refine dr_ret (dr_op0 (dr_reach rfl (by decide) (by decide)) dr_cI) l2 J2 (by omega) fun v d H3 k3 l3 J3 h3 p3 => ?_
      obtain ⟨i, rfl, a, b, ⟨a0, a1⟩, rfl, rfl⟩ := p3
      exact k v _ H3 ((k1.trans k2).trans k3) l3 (J3.le (by omega)) h3 (good_int (Nat.lt_of_le_of_lt (show (a - 20).natAbs ≤ 40 by omega) (by decide)))
    refine dr_when (drT_cmp (dr_vI rfl) dr_cI) l2 J2 (by omega) (fun H3 k3 l3 J3 _ => ?_) fun H3 k3 l3 J3 _ => ?_
    · refine dr_asg (dr_tup (drA_cons hS (dr_op0 (dr_reach rfl (by decide) (by decide)) dr_cI) (drA_cons hS (dr_pickE hS rfl (drA_consE hS dr_int (drA_consE hS dr_int (drA_consE hS dr_int (drA_consE hS dr_int (drA_consE hS dr_int (drA_consE hS dr_int (drA_consE hS dr_int (drA_consE hS dr_neg (drA_consE hS dr_int (drA_consE hS dr_int drA_nil)))))))))) (by decide) (by decide)) drA_nil)) ?_) l3 J3 (by omega) fun v d H4 k4 l4 J4 h4 p4 => ?_
      · rintro ds ⟨_, _, rfl, _, _, _, rfl, _, rfl⟩
        show 2 ≤ 1000
        decide
      obtain ⟨ds, rfl, _, _, rfl, ⟨i, rfl, a, b, ⟨a0, a1⟩, rfl, rfl⟩, m, _, rfl, hm, rfl⟩ := p4
      obtain ⟨z, rfl, z0, z4⟩ : ∃ z : Int, m = .int z ∧ z.natAbs ≤ 400 ∧ z ≤ 400 := by
        simp only [List.mem_cons, List.not_mem_nil, or_false] at hm
        rcases hm with rfl | rfl | rfl | rfl | rfl | rfl | rfl | rfl | rfl | rfl <;> exact ⟨_, rfl, by decide, by decide⟩
      have gd := good_pair (a := a - 20) (b := z) (Nat.lt_of_le_of_lt (show (a - 20).natAbs ≤ 40 by omega) (by decide)) (Nat.lt_of_le_of_lt z0 (by decide)) z4
      refine dr_ret (dr_if (P := fun d => d = .lst [.int (a - 20), .int z] ∨ d = .tup [.int (a - 20), .int z]) (drT_eq (dr_vI rfl) dr_cI) (fun H5 k5 _ => (dr_listOf hS rfl (h4.up (k5.less hS))).imp fun _ e => .inl e) fun H5 k5 _ => (dr_var hS rfl (h4.up (k5.less hS))).imp fun _ e => .inr e) l4 J4 (by omega) fun v d H5 k5 l5 J5 h5 p5 => ?_
      refine k v d H5 ((((k1.trans k2).trans k3).trans k4).trans k5) l5 (J5.le (by omega)) h5 ?_
      rcases p5 with rfl | rfl
      · exact gd.2
      · exact gd.1
    · refine dr_ret (dr_pickE hS rfl (drA_consE hS dr_non (drA_consE hS dr_bl (drA_consE hS dr_bl (drA_consE hS dr_str (drA_consE hS dr_str (drA_consE hS (dr_tupE drA_nil (by decide)) (drA_consE hS (dr_lstE (drA_consE hS dr_int drA_nil) (by decide)) (drA_consE hS (dr_tupE (drA_consE hS dr_int (drA_consE hS dr_int (drA_consE hS dr_int drA_nil))) (by decide)) (drA_consE hS (dr_tupE (drA_consE hS dr_int (drA_consE hS dr_bl drA_nil)) (by decide)) (drA_consE hS (dr_tupE (drA_consE hS dr_non (drA_consE hS dr_int drA_nil)) (by decide)) (drA_consE hS (dr_tupE (drA_consE hS (dr_tupE (drA_consE hS dr_int (drA_consE hS dr_int drA_nil)) (by decide)) (drA_consE hS dr_int drA_nil)) (by decide)) (drA_consE hS dr_dict (drA_consE hS (dr_pow ⟨by decide, by decide, by decide⟩) (drA_consE hS (dr_tupE (drA_consE hS (dr_pow ⟨by decide, by decide, by decide⟩) (drA_consE hS dr_int drA_nil)) (by decide)) drA_nil)))))))))))))) (by decide) (by decide)) l3 J3 (by omega) fun v d H4 k4 l4 J4 h4 p4 => ?_
      refine k v d H4 (((k1.trans k2).trans k3).trans k4) l4 (J4.le (by omega)) h4 ?_
      simp only [List.mem_cons, List.not_mem_nil, or_false] at p4
      rcases p4 with rfl | rfl | rfl | rfl | rfl | rfl | rfl | rfl | rfl | rfl | rfl | rfl | rfl | rfl <;> decide +kernel
theorem ok_law_halves (T : Txt K mg) : FnOk P w K mg base CX0 1 T.a_law_halves T.d_law_halves ["_law_value_here"] spHalves := by
  refine T.F_law_halves.ok sc_law_halves (fun vs H Q E h => ?_) (fun cdv A outer s H vs Q E hr h => ?_)
  · obtain ⟨v, d, rfl, _⟩ := h
    rfl
  · obtain ⟨v, d, rfl, h, hn, k⟩ := h
    refine ⟨_, (pss_one (ps_ret (pe_ifExp (pt_val (pe_callB call_isiInt (by rfl) T.z_isinstance (by decide +kernel) (pa_cons (pv 0) (pa_cons (pe_bltn (v := .ty "int") (by rfl) T.z_int (by decide +kernel) rfl) pa_nil)))) (pe_tup (pa_cons (pv 0) (pa_cons pe_int pa_nil))) (pe_tup (pa_cons (pe_ix (IxR.or (r := rIxL K) (r' := rIxT K) ix_list ix_tup) (pv 0) pe_int (fun _ _ => rfl)) (pa_cons (pe_ix (IxR.or (r := rIxL K) (r' := rIxT K) ix_list ix_tup) (pv 0) pe_int (fun _ _ => rfl)) pa_nil)))))), ?_⟩
    refine ⟨_, rfl, v, d, rfl, h, _, rfl, iteB (fun c => ?_) fun c => ?_⟩
    · rcases num_cases h hn with ⟨i, rfl, rfl⟩ | ⟨a, i, j, rfl, ⟨ha, rfl⟩ | ⟨ha, rfl⟩, _, _⟩
      · exact ⟨_, rfl, (by decide : 2 ≤ sizeLine), fun p hp => k _ p (Same.new hp) upd_same⟩
      · cases c
      · cases c
    · rcases num_cases h hn with ⟨i, rfl, rfl⟩ | ⟨a, i, j, rfl, ⟨ha, rfl⟩ | ⟨ha, rfl⟩, _, _⟩
      · cases c
      · exact ⟨_, rfl, .inr ⟨a, _, _, _, rfl, rfl, .inl (.inl ha), rfl, _, rfl, .inr ⟨a, _, _, _, rfl, rfl, .inl (.inl ha), rfl, (by decide : 2 ≤ sizeLine), fun p hp => k _ p (Same.new hp) upd_same⟩⟩⟩
      · exact ⟨_, rfl, .inl ⟨a, _, _, _, rfl, rfl, .inl (.inl ha), rfl, _, rfl, .inl ⟨a, _, _, _, rfl, rfl, .inl (.inl ha), rfl, (by decide : 2 ≤ sizeLine), fun p hp => k _ p (Same.new hp) upd_same⟩⟩⟩
theorem ok_law_is_pair (T : Txt K mg) : FnOk P w K mg base CX0 2 T.a_law_is_pair T.d_law_is_pair ["_law_value_here"] spPair := by
  have G_law_has_form := ok_law_has_form (P := P) (w := w) (base := base) T
  refine T.F_law_is_pair.ok sc_law_is_pair (fun vs H Q E h => ?_) (fun cdv A outer s H vs Q E hr h => ?_)
  · obtain ⟨v, d, rfl, _⟩ := h
    rfl
  · obtain ⟨v, d, rfl, h, ok, k⟩ := h
    refine ⟨_, (pss_cons (ps_if (PW.pt (pw_or (pt_not (pt_val (pe_callB call_isiSeq (by rfl) T.z_isinstance (by decide +kernel) (pa_cons (pv 0) (pa_cons (pe_tup (pa_cons (pe_bltn (v := .ty "list") (by rfl) T.z_list (by decide +kernel) rfl) (pa_cons (pe_bltn (v := .ty "tuple") (by rfl) T.z_tuple (by decide +kernel) rfl) pa_nil))) pa_nil))))) (pw_or1 (pt_cmpR op_ne (pe_callB call_len_seq (by rfl) T.z_len PySem.boot_len (pa_cons (pv 0) pa_nil)) pe_int (nomark _))))) (pss_one (ps_ret pe_bl)) pss_nil)
      (pss_one (ps_ret (pe_cmpR (op_eqE hr.units0) (pe_lc (own := [("_law_each", 1)]) (g := gName 1) rfl sc_law_is_pair.nd (pi_or (pi_list (pv 0)) (pi_tup (pv 0))) (blkOk_by (N := N_law_is_pair) (sc := defScope s_law_is_pair) (by decide +kernel)) (fun _ _ _ _ _ => (pg_name (i := 1) sc_law_is_pair.nd rfl (Or.inl rfl))) (fun _ _ _ _ _ => pts_one (pt_not (pt_val (pe_call G_law_has_form (hr.mono (by decide)) (by rfl) T.m_law_has_form T.F_law_has_form.kp (b_law_has_form T) .nil pass0 (pa_cons (pv 1) pa_nil))))) (fun _ _ _ _ _ => (pv 1))) (pe_lst pa_nil) (nomark _))))), ?_⟩
    have kk : ∀ {b : Bool} {H1 : Hp}, Same H H1 → isPt d = b → Q (.bl b) H1 := fun s e => e ▸ k _ s
    have ok1 : (items d).length ≤ 1000 ∧ ∀ e ∈ items d, okPair (items e) = true ∧ (items e).length ≤ 1000 := by
      rw [okEach, Bool.and_eq_true, List.all_eq_true] at ok
      refine ⟨of_decide_eq_true ok.1, fun e he => ?_⟩
      have q := ok.2 e he
      rw [Bool.and_eq_true] at q
      exact ⟨q.1, of_decide_eq_true q.2⟩
    refine ⟨_, rfl, (by decide : 2 ≤ sizeLine), fun p hp => ⟨v, d, p, rfl, upd_same, h.up (Same.new hp), _, rfl, iteN (fun e => ?_) fun e => ?_⟩⟩
    · exact kk (Same.new hp) (by rw [isPt, e, Bool.false_and])
    have s1 : Same H (upd H p (.tup [.ty "list", .ty "tuple"])) := Same.new hp
    obtain ⟨a, xs, rfl, hs, hx⟩ := (h.up s1).seq (K := K) e
    refine ⟨_, rfl, a, xs, rfl, hs, rfl, _, rfl, iteE (fun l => ?_) fun l => ?_⟩
    · refine kk s1 ?_
      have l' : (items d).length ≠ 2 := fun z => int_ne l (by rw [hx.length, z]; rfl)
      rw [isPt, e, Bool.true_and]
      match items d, l' with
      | [], _ => rfl
      | [_], _ => rfl
      | _ :: _ :: _ :: _, _ => rfl
      | [_, _], z => exact absurd rfl z
    walk_at "go"
    refine r_filter (σ := start N_law_is_pair [V.ref a]) (l := 0) (i := 1) (K := K) (xs := xs) (ds := items d) (fun d => !isNum d) rfl hs hx (by rw [hx.length]; exact ok1.1) (fun _ => rfl) (fun _ => rfl) ?_ ?_
    · intro z dz H' Q' s' hz mem q
      exact ⟨_, rfl, z, dz, rfl, hz, (ok1.2 dz mem).1, (ok1.2 dz mem).2, fun H'' s'' => ⟨_, rfl, q H'' s''⟩⟩
    intro D H3 acc s3 hD hacc he
    refine ⟨Nat.zero_le _, fun b hb => ⟨D, b, acc, rfl, rfl, .inl (.inl (Same.new hb _ _ hacc)), .inl (.inl upd_same), kk ((s1.trans s3).trans (Same.new hb)) ?_⟩⟩
    have l2 : (items d).length = 2 := by
      have := int_eq l
      rw [hx.length] at this
      omega
    rw [he, isPt, e, Bool.true_and]
    match items d, l2 with
    | [x, y], _ =>
      show (isNum x && isNum y) = ((!!isNum x) && ((!!isNum y) && true))
      rw [Bool.not_not, Bool.not_not, Bool.and_true]
theorem ok_law_is_round (T : Txt K mg) : FnOk P w K mg base CX0 2 T.a_law_is_round T.d_law_is_round ["_law_value_here"] spRound := by
  have G_law_halves := ok_law_halves (P := P) (w := w) (base := base) T
  have G_law_has_form := ok_law_has_form (P := P) (w := w) (base := base) T
  refine T.F_law_is_round.ok sc_law_is_round (fun vs H Q E h => ?_) (fun cdv A outer s H vs Q E hr h => ?_)
  · obtain ⟨v, d, rfl, _⟩ := h
    rfl
  · obtain ⟨v, d, rfl, h, ok, sm, k⟩ := h
    refine ⟨_, (pss_cons (ps_if (PW.pt (pw_or (pt_not (pt_val (pe_callB call_isiSeq (by rfl) T.z_isinstance (by decide +kernel) (pa_cons (pv 0) (pa_cons (pe_tup (pa_cons (pe_bltn (v := .ty "list") (by rfl) T.z_list (by decide +kernel) rfl) (pa_cons (pe_bltn (v := .ty "tuple") (by rfl) T.z_tuple (by decide +kernel) rfl) pa_nil))) pa_nil))))) (pw_or (pt_cmpR op_ne (pe_callB call_len_seq (by rfl) T.z_len PySem.boot_len (pa_cons (pv 0) pa_nil)) pe_int (nomark _)) (pw_or1 (pt_cmpR (op_neE hr.units0) (pe_lc (own := [("_law_each", 5)]) (g := gName 5) rfl sc_law_is_round.nd (pi_or (pi_list (pv 0)) (pi_tup (pv 0))) (blkOk_by (N := N_law_is_round) (sc := defScope s_law_is_round) (by decide +kernel)) (fun _ _ _ _ _ => (pg_name (i := 5) sc_law_is_round.nd rfl (Or.inl rfl))) (fun _ _ _ _ _ => pts_one (pt_not (pt_val (pe_call G_law_has_form (hr.mono (by decide)) (by rfl) T.m_law_has_form T.F_law_has_form.kp (b_law_has_form T) .nil pass0 (pa_cons (pv 5) pa_nil))))) (fun _ _ _ _ _ => (pv 5))) (pe_lst pa_nil) (nomark _)))))) (pss_one (ps_ret pe_bl)) pss_nil)
      (pss_cons (ps_asg (pe_tup (pa_cons (pe_call G_law_halves (hr.mono (by decide)) (by rfl) T.m_law_halves T.F_law_halves.kp (b_law_halves T) .nil pass0 (pa_cons (pe_ix (IxR.or (r := rIxL K) (r' := rIxT K) ix_list ix_tup) (pv 0) pe_int (fun _ _ => rfl)) pa_nil)) (pa_cons (pe_call G_law_halves (hr.mono (by decide)) (by rfl) T.m_law_halves T.F_law_halves.kp (b_law_halves T) .nil pass0 (pa_cons (pe_ix (IxR.or (r := rIxL K) (r' := rIxT K) ix_list ix_tup) (pv 0) pe_int (fun _ _ => rfl)) pa_nil)) pa_nil))) (pg_tup rfl (pgs_cons (pg_tup rfl (pgs_cons (pg_name (i := 1) sc_law_is_round.nd rfl (Or.inl rfl)) (pgs_cons (pg_name (i := 2) sc_law_is_round.nd rfl (Or.inl rfl)) pgs_nil))) (pgs_cons (pg_tup rfl (pgs_cons (pg_name (i := 3) sc_law_is_round.nd rfl (Or.inl rfl)) (pgs_cons (pg_name (i := 4) sc_law_is_round.nd rfl (Or.inl rfl)) pgs_nil))) pgs_nil))))
      (pss_one (ps_ret (pe_cmpR op_eq (pe_op op_add (pe_op op_powW (pe_op op_mulW (pv 1) (pv 4)) pe_int) (pe_op op_powW (pe_op op_mulW (pv 3) (pv 2)) pe_int)) (pe_op op_powW (pe_op op_mulW (pv 2) (pv 4)) pe_int) (nomark _)))))), ?_⟩
    have kk : ∀ {b : Bool} {H1 : Hp}, Same H H1 → isTurn d = b → Q (.bl b) H1 := fun s e => e ▸ k _ s
    have ok1 : (items d).length ≤ 1000 ∧ ∀ e ∈ items d, okPair (items e) = true ∧ (items e).length ≤ 1000 := by
      rw [okEach, Bool.and_eq_true, List.all_eq_true] at ok
      refine ⟨of_decide_eq_true ok.1, fun e he => ?_⟩
      have q := ok.2 e he
      rw [Bool.and_eq_true] at q
      exact ⟨q.1, of_decide_eq_true q.2⟩
    refine ⟨_, rfl, (by decide : 2 ≤ sizeLine), fun p hp => ⟨v, d, p, rfl, upd_same, h.up (Same.new hp), _, rfl, iteN (fun e => ?_) fun e => ?_⟩⟩
    · exact kk (Same.new hp) (by rw [isTurn, isPt, e, Bool.false_and, Bool.false_and])
    have s1 : Same H (upd H p (.tup [.ty "list", .ty "tuple"])) := Same.new hp
    obtain ⟨a, xs, rfl, hs, hx⟩ := (h.up s1).seq (K := K) e
    refine ⟨_, rfl, a, xs, rfl, hs, rfl, _, rfl, iteE (fun l => ?_) fun l => ?_⟩
    · refine kk s1 ?_
      have l' : (items d).length ≠ 2 := fun z => int_ne l (by rw [hx.length, z]; rfl)
      rw [isTurn, isPt, e, Bool.true_and]
      match items d, l' with
      | [], _ => rfl
      | [_], _ => rfl
      | _ :: _ :: _ :: _, _ => rfl
      | [_, _], z => exact absurd rfl z
    walk_at "go"
    refine r_filter (σ := start N_law_is_round [V.ref a]) (l := 0) (i := 5) (K := K) (xs := xs) (ds := items d) (fun d => !isNum d) rfl hs hx (by rw [hx.length]; exact ok1.1) (fun _ => rfl) (fun _ => rfl) ?_ ?_
    · intro z dz H' Q' s' hz mem q
      exact ⟨_, rfl, z, dz, rfl, hz, (ok1.2 dz mem).1, (ok1.2 dz mem).2, fun H'' s'' => ⟨_, rfl, q H'' s''⟩⟩
    intro D H3 acc s3 hD hacc he
    have l2 : (items d).length = 2 := by
      have := int_eq l
      rw [hx.length] at this
      omega
    obtain ⟨x, y, e1⟩ : ∃ x y, items d = [x, y] := by
      generalize items d = ds at l2
      match ds, l2 with
      | [x, y], _ => exact ⟨x, y, rfl⟩
    have ep : isPt d = acc.isEmpty := by
      rw [he, isPt, e, Bool.true_and, e1]
      show (isNum x && isNum y) = ((!!isNum x) && ((!!isNum y) && true))
      rw [Bool.not_not, Bool.not_not, Bool.and_true]
    refine ⟨Nat.zero_le _, fun b hb => ⟨D, b, acc, rfl, rfl, .inl (.inl (Same.new hb _ _ hacc)), .inl (.inl upd_same), _, rfl, iteN (fun ne => ?_) fun em => ?_⟩⟩
    · exact kk ((s1.trans s3).trans (Same.new hb)) (by rw [isTurn, ep, ne, Bool.false_and])
    have c : isPt d = true := by rw [ep, em]
    obtain ⟨_, x', y', e2, nx, ny⟩ := isPt_of c
    rw [e1] at e2
    cases e2
    rw [e1] at hx
    obtain ⟨u, v, rfl, hu, hv⟩ := hx.two
    have sm' : small2 huge x = true ∧ small2 huge y = true := by
      have q : (small2 huge x && (small2 huge y && true)) = true := by
        have q' := sm
        rw [small3, e1] at q'
        exact q'
      rw [Bool.and_eq_true, Bool.and_eq_true] at q
      exact ⟨q.1, q.2.1⟩
    have bx := parts_small (by decide) nx sm'.1
    have bq := parts_small (by decide) ny sm'.2
    have s4 : Same (upd H p (.tup [.ty "list", .ty "tuple"])) (upd H3 b (.lst [])) := s3.trans (Same.new hb)
    generalize upd H3 b (.lst []) = H4 at s4 ⊢
    have ix : ∀ {H' : Hp} {i : Int} {u' : V} {Q' : VK}, Same (upd H p (.tup [.ty "list", .ty "tuple"])) H' → atI [u, v] i = some u' → Q' u' H' → (rIxL K (.ref a) (.int i) H' Q' ∨ rIxT K (.ref a) (.int i) H' Q') := fun {H' i u' Q'} s e q => by
      rcases hs with hs | hs
      · exact .inl ⟨a, _, i, u', rfl, rfl, s.seq hs, e, q⟩
      · exact .inr ⟨a, _, i, u', rfl, rfl, Evl.ex_t s hs, e, q⟩
    refine ⟨_, rfl, ix s4 (by rfl) ⟨u, x, rfl, hu.up s4, nx, fun H5 p5 s5 hp5 => ⟨_, rfl, ix (s4.trans s5) (by rfl) ⟨v, y, rfl, hv.up (s4.trans s5), ny, fun H6 p6 s6 hp6 => ⟨(by decide : 2 ≤ sizeLine), fun t ht => ?_⟩⟩⟩⟩⟩
    have n5 : (upd H6 t (.tup [.ref p5, .ref p6])) p5 = some (.tup [.int (above x), .int (below x)]) := Same.new ht _ _ (s6 _ _ hp5)
    have n6 : (upd H6 t (.tup [.ref p5, .ref p6])) p6 = some (.tup [.int (above y), .int (below y)]) := Same.new ht _ _ hp6
    refine ⟨t, _, rfl, .inl (.inl upd_same), rfl, .ref p5, _, rfl, ⟨p5, _, rfl, .inl (.inl n5), rfl, _, _, rfl, _, _, rfl, rfl, .ref p6, _, rfl, ⟨p6, _, rfl, .inl (.inl n6), rfl, _, _, rfl, _, _, rfl, rfl, rfl, ?_⟩⟩⟩
    have m1 := wide_lt bx.1 bq.2
    have m2 := wide_lt bq.1 bx.2
    have m3 := wide_lt bx.2 bq.2
    refine ⟨_, rfl, _, rfl, _, _, rfl, rfl, wide_mul bx.1 bq.2 (by decide) (by decide) (by decide), _, _, rfl, rfl, pow_ok m1 (by decide) (by decide), ?_⟩
    refine ⟨_, rfl, _, rfl, _, _, rfl, rfl, wide_mul bq.1 bx.2 (by decide) (by decide) (by decide), _, _, rfl, rfl, pow_ok m2 (by decide) (by decide), _, _, rfl, rfl, ?_⟩
    refine ⟨_, rfl, _, rfl, _, _, rfl, rfl, wide_mul bx.2 bq.2 (by decide) (by decide) (by decide), _, _, rfl, rfl, pow_ok m3 (by decide) (by decide), rfl, kk (((s1.trans s4).trans (s5.trans s6)).trans (Same.new ht)) ?_⟩
    rw [isTurn, c, Bool.true_and, e1, dec_int]
    rfl
theorem ok_law_fraction (T : Txt K mg) : FnOk P w K mg base CX0 1 T.a_law_fraction T.d_law_fraction ["_law_above", "_law_below"] spFrac := by
  refine T.F_law_fraction.ok sc_law_fraction (fun vs H Q E h => ?_) (fun cdv A outer s H vs Q E hr h => ?_)
  · obtain ⟨a, b, rfl, _⟩ := h
    rfl
  · obtain ⟨a, b, rfl, hb, ha, hb2, k1, k2⟩ := h
    refine ⟨_, (pss_cons (ps_par (i := 2) (j := 3) rfl sc_law_fraction.nd rfl rfl (by decide) rfl rfl (pa_cons (pe_callB call_abs (by rfl) T.z_abs (by decide +kernel) (pa_cons (pv 0) pa_nil)) (pa_cons (pv 1) pa_nil)) (by rfl))
      (pss_cons (ps_while PassesOwn.never (pt_cmpR op_ne (pv 3) pe_int (nomark _)) (pss_one (ps_par (i := 2) (j := 3) rfl sc_law_fraction.nd rfl rfl (by decide) rfl rfl (pa_cons (pv 3) (pa_cons (pe_op op_mod (pe_callTy call_int1 (by rfl) T.z_int (by decide +kernel) (pa_cons (pv 2) pa_nil)) (pv 3)) pa_nil)) (by rfl))))
      (pss_one (ps_ret (pe_ifExp (pt_cmpR op_eq (pv 1) (pv 2) (nomark _)) (pe_op op_fdivW (pv 0) (pv 2)) (pe_tup (pa_cons (pe_op op_fdivW (pv 0) (pv 2)) (pa_cons (pe_op op_fdivW (pv 1) (pv 2)) pa_nil)))))))), ?_⟩
    refine ⟨_, rfl, a, rfl, _, rfl, _, _, rfl, ?_⟩
    refine ⟨fun m σ' H' => ∃ p o : Int, σ' = [some (.int a), some (.int b), some (.int p), some (.int o)] ∧ H' = H ∧ m = o.toNat ∧ 0 ≤ o ∧ 0 ≤ p ∧ (0 < p ∨ 0 < o) ∧ p < 2 ^ 31 ∧ o < 2 ^ 31, ⟨b.toNat, (if a < 0 then -a else a), b, rfl, rfl, rfl, by omega, by split <;> omega, .inr hb, by split <;> omega, hb2⟩, ?_⟩
    rintro m σ' H' ⟨p, o, rfl, rfl, rfl, o0, p0, po, p1, o1⟩
    refine ⟨_, rfl, rfl, _, rfl, iteE (fun ne => ?_) fun eq => ?_⟩
    · have o2 : 0 < o := by
        have := int_ne ne
        omega
      have q := mod_lt_of (a := p) o2
      refine ⟨fun σ2 H2 => σ2 = [some (.int a), some (.int b), some (.int o), some (.int (p % o))] ∧ H2 = H', ?_, ?_⟩
      · rintro σ2 H2 ⟨rfl, rfl⟩
        exact ⟨(p % o).toNat, by omega, o, p % o, rfl, rfl, rfl, q.1, by omega, .inl o2, o1, by omega⟩
      · exact ⟨_, rfl, _, rfl, .inl ⟨_, rfl, _, rfl, _, _, rfl, rfl, o2, _, _, rfl, rfl, rfl⟩⟩
    · have o2 : o = 0 := int_eq eq
      have p2 : 0 < p := by omega
      have cd : ∀ i : Int, CDivW i p := fun i => wide_div p2 (b := 31) (by omega) (by decide) (by decide)
      refine ⟨_, rfl, _, rfl, rfl, _, rfl, iteD (fun _ => ?_) fun _ => ?_⟩
      · exact ⟨_, rfl, _, rfl, _, _, rfl, rfl, cd _, k1 _ (ediv_abs p2)⟩
      · exact ⟨_, rfl, _, rfl, _, _, rfl, rfl, cd _, _, rfl, _, rfl, _, _, rfl, rfl, cd _, (by decide : 2 ≤ sizeLine), fun t ht => k2 _ _ t _ (Same.new ht) ht upd_same (ediv_abs p2) (Int.ediv_nonneg (by omega) (by omega)) (Int.ediv_le_self _ (by omega))⟩
end
end Ty

namespace Ty
open PySem PySem.Spec PyProof.Rows L2
section
variable {P : Program} {w : World} {K : PySem.W.Frag} {mg : Str → Option Value} {base : Heap}
theorem ok_law_turn (T : Txt K mg) : FnOk P w K mg base CX0 4 T.a_law_turn T.d_law_turn ["_law_sack_here"] spTurn := by
  have G_law_reach := ok_law_reach (P := P) (w := w) (base := base) T
  have G_law_fraction := ok_law_fraction (P := P) (w := w) (base := base) T
  have G_law_value := ok_law_value (P := P) (w := w) (base := base) T
  refine T.F_law_turn.ok sc_law_turn (fun vs H Q E h => ?_) (fun cdv A outer s H vs Q E hr h => ?_)
  · obtain ⟨S, j, bk, n, rfl, _⟩ := h
    rfl
  · obtain ⟨S, j, bk, n, rfl, hS0, lv0, J, hn, k⟩ := h
    refine ⟨_, (pss_cons (ps_par (i := 1) (j := 2) rfl sc_law_turn.nd rfl rfl (by decide) rfl rfl (pa_cons (pe_op op_sub (pe_call G_law_reach (hr.mono (by decide)) (by rfl) T.m_law_reach T.F_law_reach.kp (b_law_reach T) .nil pass0 (pa_cons (pv 0) (pa_cons pe_int pa_nil))) pe_int) (pa_cons (pe_op op_add pe_int (pe_call G_law_reach (hr.mono (by decide)) (by rfl) T.m_law_reach T.F_law_reach.kp (b_law_reach T) .nil pass0 (pa_cons (pv 0) (pa_cons pe_int pa_nil)))) pa_nil)) (by rfl))
      (pss_cons (ps_set (i := 3) sc_law_turn.nd rfl (Or.inl rfl) (pe_op op_add (pe_op op_mul (pv 1) (pv 1)) (pe_op op_mul (pv 2) (pv 2))))
      (pss_cons (ps_set (i := 4) sc_law_turn.nd rfl (Or.inl rfl) (pe_lst (pa_cons (pe_call G_law_fraction (hr.mono (by decide)) (by rfl) T.m_law_fraction T.F_law_fraction.kp (b_law_fraction T) .nil pass0 (pa_cons (pe_op op_sub (pe_op op_mul (pv 2) (pv 2)) (pe_op op_mul (pv 1) (pv 1))) (pa_cons (pv 3) pa_nil))) (pa_cons (pe_call G_law_fraction (hr.mono (by decide)) (by rfl) T.m_law_fraction T.F_law_fraction.kp (b_law_fraction T) .nil pass0 (pa_cons (pe_op op_mul (pe_op op_mul pe_int (pv 1)) (pv 2)) (pa_cons (pv 3) pa_nil))) pa_nil))))
      (pss_cons (ps_set (i := 5) sc_law_turn.nd rfl (Or.inl rfl) (pe_call G_law_reach (hr.mono (by decide)) (by rfl) T.m_law_reach T.F_law_reach.kp (b_law_reach T) .nil pass0 (pa_cons (pv 0) (pa_cons pe_int pa_nil))))
      (Evl.pss_cut (ps_if (pt_cmpR op_eq (pv 5) pe_int (nomark _)) (pss_one (ps_asg (pe_call G_law_value (hr.mono (by decide)) (by rfl) T.m_law_value T.F_law_value.kp (b_law_value T) .nil pass0 (pa_cons (pv 0) pa_nil)) (pg_sub (pv 4) (pe_call G_law_reach (hr.mono (by decide)) (by rfl) T.m_law_reach T.F_law_reach.kp (b_law_reach T) .nil pass0 (pa_cons (pv 0) (pa_cons pe_int pa_nil))) set_list))) pss_nil)
      (Evl.pss_cut (ps_if (pt_cmpR op_eq (pv 5) pe_int (nomark _)) (pss_one (ps_set (i := 4) sc_law_turn.nd rfl (Or.inl rfl) (pe_lst (pa_cons (pe_ix ix_list (pv 4) pe_int (fun _ _ => rfl)) (pa_cons (pe_call G_law_fraction (hr.mono (by decide)) (by rfl) T.m_law_fraction T.F_law_fraction.kp (b_law_fraction T) .nil pass0 (pa_cons (pe_op op_add (pe_op op_mul (pe_op op_mul pe_int (pv 1)) (pv 2)) pe_int) (pa_cons (pv 3) pa_nil))) pa_nil))))) pss_nil)
      (pss_one (ps_ret (pe_ifExp (pt_cmpR op_gt (pv 5) pe_int (nomark _)) (pe_callTy call_tuple_of (by rfl) T.z_tuple (by decide +kernel) (pa_cons (pv 4) pa_nil)) (pv 4)))))))))), ?_⟩
    obtain ⟨S1, eS1⟩ : ∃ S1 : Addr → Bool, S1 = fun b => S b || (H b).isSome := ⟨_, rfl⟩
    have hS : S1 j = true := by rw [eS1]; show (S j || _) = true; rw [hS0]; rfl
    have sub : ∀ b, S b = true → S1 b = true := fun b hb => by rw [eS1]; show (S b || _) = true; rw [hb]; rfl
    have fresh : ∀ b, S1 b = false → H b = none := fun b hb => by
      rw [eS1] at hb
      have hb' : (S b || (H b).isSome) = false := hb
      rw [Bool.or_eq_false_iff] at hb'
      cases e : H b with
      | none => rfl
      | some o => rw [e] at hb'; cases hb'.2
    have lv : Live S1 H := fun b hb => by
      rw [eS1] at hb
      have hb' : (S b || (H b).isSome) = true := hb
      rw [Bool.or_eq_true] at hb'
      rcases hb' with z | z
      · exact lv0 b z
      · intro e
        rw [e] at z
        cases z
    have hbk : S1 bk = true := by
      obtain ⟨cells, at_, l, _, e, _⟩ := id J
      rw [eS1]
      show (S bk || (H bk).isSome) = true
      rw [e]
      exact Bool.or_true _
    refine dr_par hS (dr_op0 (dr_reach rfl (by decide) (by decide)) dr_cI) (dr_op0 dr_cI (dr_reach rfl (by decide) (by decide))) lv J (by omega) fun v d u e H1 k1 l1 J1 h1 p1 h2 p2 => ?_
    obtain ⟨p, rfl, a1, b1, ⟨a10, a11⟩, rfl, rfl⟩ := p1
    obtain ⟨q, rfl, a2, b2, rfl, ⟨b20, b21⟩, rfl⟩ := p2
    cases h1
    cases h2
    obtain ⟨p, ep⟩ : ∃ p, p = a1 - 7 := ⟨_, rfl⟩
    obtain ⟨q, eq⟩ : ∃ q, q = 1 + b2 := ⟨_, rfl⟩
    rw [← ep, ← eq]
    have pp := sq_bounds (p := p) (by omega) (by omega)
    have qq := sq_bounds (p := q) (by omega) (by omega)
    have q1 : 1 ≤ q * q := by
      have h := Int.mul_le_mul (a := 1) (b := 1) (c := q) (d := q) (by omega) (by omega) (by omega) (by omega)
      omega
    have pq := prod_bounds (p := p) (q := q) (by omega) (by omega) (by omega) (by omega)
    refine ⟨_, rfl, _, rfl, _, _, rfl, rfl, .inl ⟨by omega, by omega⟩, _, rfl, _, rfl, _, _, rfl, rfl, .inl ⟨by omega, by omega⟩, _, _, rfl, rfl, ?_⟩
    obtain ⟨w, ew⟩ : ∃ w, w = p * p + q * q := ⟨_, rfl⟩
    show tSeq _ _ _ [some (.ref j), some (.int p), some (.int q), some (.int (p * p + q * q)), none, none] _
    rw [← ew]
    refine dr_asg (dr_lst (drA_cons hS (dr_frac (a := q * q - p * p) (b := w) (dr_op0E (dr_opE (dr_varI rfl) (dr_varI rfl) (.inl ⟨by omega, by omega⟩)) (dr_opE (dr_varI rfl) (dr_varI rfl) (.inl ⟨by omega, by omega⟩))) (dr_varI rfl) (by omega) (by omega) (by omega))
      (drA_cons hS (dr_frac (a := 2 * p * q) (b := w) (dr_opE (dr_opE dr_int (dr_varI rfl) (.inl ⟨by decide, by decide⟩)) (dr_varI rfl) (.inr ⟨by omega, by omega⟩)) (dr_varI rfl) (by omega) (by omega) (by omega)) drA_nil)) ?_) l1 J1 (by omega) fun v d H2 k2 l2 J2 h2 p2 => ?_
    · rintro ds ⟨_, _, rfl, _, _, _, rfl, _, rfl⟩
      show 2 ≤ 1000
      decide
    obtain ⟨ds, rfl, x, _, rfl, fx, y, _, rfl, fy, rfl⟩ := p2
    have gx := fx.good (by omega) (by omega)
    have gy := fy.good (by omega) (by omega)
    cases h2 with
    | @lst a xs _ e hx =>
      obtain ⟨v1, v2, rfl, hv1, hv2⟩ := hx.two
      obtain ⟨Sa, ha⟩ := mn_of e
      have Ha := fresh a Sa
      have aj : a ≠ j := fun z => by rw [z, hS] at Sa; cases Sa
      have ab : a ≠ bk := fun z => by rw [z, hbk] at Sa; cases Sa
      obtain ⟨S2, eS2⟩ : ∃ S2 : Addr → Bool, S2 = fun b => S1 b || decide (b = a) := ⟨_, rfl⟩
      have or2 : ∀ b, S2 b = true → S1 b = true ∨ b = a := fun b hb => by
        rw [eS2] at hb
        have hb' : (S1 b || decide (b = a)) = true := hb
        rw [Bool.or_eq_true] at hb'
        exact hb'.imp_right of_decide_eq_true
      have sub2 : ∀ b, S1 b = true → S2 b = true := fun b hb => by rw [eS2]; show (S1 b || _) = true; rw [hb]; rfl
      have a2 : S2 a = true := by rw [eS2]; show (S1 a || decide (a = a)) = true; rw [decide_eq_true rfl]; exact Bool.or_true _
      have w1 := fx.off (S' := S2) hv1 ha or2
      have w2 := fy.off (S' := S2) hv2 ha or2
      have hS2 := sub2 j hS
      have lv2 : Live S2 H2 := fun b hb => by
        rcases or2 b hb with z | z
        · exact l2 b z
        · rw [z, ha]
          exact nofun
      refine dr_asg (dr_reach rfl (by decide) (by decide)) lv2 J2 (by omega) fun v d H3 k3 l3 J3 h3 p3 => ?_
      obtain ⟨way, rfl, way0, way1⟩ := p3
      cases h3
      have K3 : Keep j H H3 := (k1.trans k2).trans k3
      refine ⟨fun σ' H' => ∃ (v1 v2 : V) (x y : Da), σ' = [some (.ref j), some (.int p), some (.int q), some (.int w), some (.ref a), some (.int way)] ∧ Keep j H H' ∧ Live S2 H' ∧ Jar j bk H' (n + 8) ∧ H' a = some (.lst [v1, v2]) ∧ Is (mn S2 H') v1 x ∧ Is (mn S2 H') v2 y ∧ good1 x = true ∧ good1 y = true, ?_, ?_⟩
      · refine dr_ifS (drT_eq (dr_vI rfl) dr_cI) l3 J3 (by omega) (fun H4 k4 l4 J4 _ => ?_) fun H4 k4 l4 J4 _ => ?_
        · refine ⟨_, rfl, S2, j, bk, _, rfl, hS2, l4, J4, by omega, fun v d H5 k5 l5 J5 h5 g5 => ⟨_, rfl, _, rfl, j, bk, 2, _, rfl, J5, by omega, by decide, by decide, fun r H6 k6 J6 r0 r1 => ?_⟩⟩
          have kk : Keep j H2 H6 := ((k3.trans k4).trans k5).trans k6
          have ha6 : H6 a = some (.lst [v1, v2]) := kk a _ aj ha
          have l6 := l5.up k6 J6
          have v6 := h5.up (k6.less hS2)
          have w16 := w1.up (kk.less hS2)
          have w26 := w2.up (kk.less hS2)
          have up : ∀ (o : HO), Same (mn S2 H6) (mn S2 (upd H6 a o)) := fun o b z hb => by
            obtain ⟨z1, z2⟩ := mn_of hb
            have ne : b ≠ a := fun z => by rw [z, a2] at z1; cases z1
            rw [mn_at z1, upd_ne ne]
            exact z2
          have keep : ∀ (o : HO), Keep j H (upd H6 a o) := fun o b z hb hz => by
            have ne : b ≠ a := fun z => by rw [z, Ha] at hz; cases hz
            rw [upd_ne ne]
            exact ((k1.trans k2).trans kk) b z hb hz
          have live : ∀ (o : HO), Live S2 (upd H6 a o) := fun o b hb => by
            by_cases e : b = a
            · subst e
              rw [upd_same]
              exact nofun
            · rw [upd_ne e]
              exact l6 b hb
          have J7 := (J6.le (m := n + 8) (by omega)).put (o := .lst ([v1, v2].set r.toNat v)) aj ab
          have gd := good_good1 g5
          rcases (show r = 0 ∨ r = 1 by omega) with rfl | rfl
          · exact ⟨a, _, 0, 0, rfl, rfl, ha6, rfl, v, v2, d, y, rfl, keep _, live _, J7, upd_same, v6.up (up _), w26.up (up _), gd, gy⟩
          · exact ⟨a, _, 1, 1, rfl, rfl, ha6, rfl, v1, v, x, d, rfl, keep _, live _, J7, upd_same, w16.up (up _), v6.up (up _), gx, gd⟩
        · exact ⟨v1, v2, x, y, rfl, K3.trans k4, l4, J4.le (by omega), k4 a _ aj (k3 a _ aj ha), w1.up ((k3.trans k4).less hS2), w2.up ((k3.trans k4).less hS2), gx, gy⟩
      rintro σ' H4 ⟨v1, v2, x, y, rfl, K4, l4, J4, ha4, w1, w2, gx, gy⟩
      have l41 : Live S1 H4 := fun b hb => l4 b (sub2 b hb)
      refine ⟨fun σ' H' => ∃ (a' : Addr) (v1 v2 : V) (x y : Da), σ' = [some (.ref j), some (.int p), some (.int q), some (.int w), some (.ref a'), some (.int way)] ∧ Keep j H H' ∧ Live S1 H' ∧ Jar j bk H' (n + 8) ∧ mn S1 H' a' = some (.lst [v1, v2]) ∧ Is (mn S1 H') v1 x ∧ Is (mn S1 H') v2 y ∧ good1 x = true ∧ good1 y = true, ?_, ?_⟩
      · refine ⟨_, rfl, rfl, _, rfl, iteD (fun _ => ?_) fun _ => ?_⟩
        · refine ⟨_, rfl, a, _, 0, v1, rfl, rfl, .inl (.inl ha4), rfl, ?_⟩
          refine dr_frac (S := S1) (j := j) (bk := bk) (H0 := H4) (a := 2 * p * q + 1) (b := w) (dr_op0E (dr_opE (dr_opE dr_int (dr_varI rfl) (.inl ⟨by decide, by decide⟩)) (dr_varI rfl) (.inr ⟨by omega, by omega⟩)) dr_int) (dr_varI rfl) (by omega) (by omega) (by omega) H4 (n + 8) _ (Keep.refl _) l41 J4 (by omega) fun v3 d3 H5 k5 l5 J5 h5 f5 => ⟨(by decide : 2 ≤ sizeLine), fun t ht => ?_⟩
          exact ⟨t, v1, v3, x, d3, rfl, K4.trans (k5.trans (Same.keep (Same.new ht))), l5.more (Same.new ht), J5.up (Same.new ht), mn_put l5 ht, (w1.wide sub2).up ((k5.trans (Same.keep (Same.new ht))).less hS), h5.up (Same.less (Same.new ht)), gx, f5.good (by omega) (by omega)⟩
        · exact ⟨a, v1, v2, x, y, rfl, K4, l41, J4, by rw [mn_at Sa]; exact ha4, w1.wide sub2, w2.wide sub2, gx, gy⟩
      rintro σ' H5 ⟨a', v1, v2, x, y, rfl, K5, l5, J5, ha5, w1, w2, gx, gy⟩
      have ok := two_ok gx gy
      have l50 : Live S H5 := fun b hb => l5 b (sub b hb)
      refine ⟨_, rfl, _, _, rfl, rfl, _, rfl, iteD (fun _ => ?_) fun _ => ?_⟩
      · refine ⟨_, rfl, a', _, rfl, .inl ⟨.inl (.inl (mn_of ha5).2), fun t ht => ?_⟩⟩
        have s := Same.new (o := .tup [v1, v2]) ht
        exact k _ (.tup [x, y]) _ (K5.trans (Same.keep s)) (l50.more s) (J5.up s) (.tup (mn_put l50 ht) (.cons ((w1.wide sub).up (Same.less s)) (.cons ((w2.wide sub).up (Same.less s)) .nil))) ok.2.1 ok.2.2.2
      · refine ⟨_, rfl, k _ (.lst [x, y]) _ K5 l50 J5 (.lst (xs := [v1, v2]) ?_ (.cons (w1.wide sub) (.cons (w2.wide sub) .nil))) ok.1 ok.2.2.1⟩
        have z := mn_of ha5
        rw [mn_at]
        · exact z.2
        · cases q : S a' with
          | false => rfl
          | true => rw [sub _ q] at z; cases z.1
end
end Ty

namespace Ty
open PySem PySem.Spec PyProof.Rows L2
section
variable {S : Addr → Bool} {j bk : Addr} {H0 H : Hp} {σ : L2.St} {K : PySem.W.Frag} {Q : VK}
theorem dr_value {i : Nat} (hS : S j = true) (h : σ[i]? = some (some (.ref j))) : Dr S j bk H0 3 σ (tCall spValue [] E0 (tCons (tVar i) tNil)) (fun d => good d = true) := fun H n Q kp lv J hn k =>
  ⟨_, h, S, j, bk, n, rfl, hS, lv, J, hn, fun v d H' k' l' J' h' g => k v d H' k' l' J' h' g⟩
theorem dr_turn {i : Nat} (hS : S j = true) (h : σ[i]? = some (some (.ref j))) : Dr S j bk H0 8 σ (tCall spTurn [] E0 (tCons (tVar i) tNil)) (fun d => okEach d = true ∧ small3 huge d = true) := fun H n Q kp lv J hn k =>
  ⟨_, h, S, j, bk, n, rfl, hS, lv, J, hn, fun v d H' k' l' J' h' g1 g2 => k v d H' k' l' J' h' ⟨g1, g2⟩⟩
theorem cond3 (a b c : Bool) : (PyData.list [.bool a, .bool b, .bool c]).showable = true ∧ (PyData.list [.bool a, .bool b, .bool c]).hasDict = false ∧ (PyData.list [.bool a, .bool b, .bool c]).depth ≤ 60 ∧ (PyData.list [.bool a, .bool b, .bool c]).shown.length ≤ sizeLine := by
  cases a <;> cases b <;> cases c <;> decide +kernel
theorem cond2 (a b : Bool) : (PyData.list [.bool a, .bool b]).showable = true ∧ (PyData.list [.bool a, .bool b]).hasDict = false ∧ (PyData.list [.bool a, .bool b]).depth ≤ 60 ∧ (PyData.list [.bool a, .bool b]).shown.length ≤ sizeLine := by
  cases a <;> cases b <;> decide +kernel
end
theorem good_each {d : Da} (h : good d = true) : okEach d = true ∧ okPair (items d) = true ∧ (items d).length ≤ 1000 := by
  unfold good at h
  rw [Bool.and_eq_true] at h
  have h1 := good1_ok h.1
  rw [Bool.and_eq_true] at h1
  refine ⟨?_, h1.1, of_decide_eq_true h1.2⟩
  rw [okEach, h1.2, Bool.true_and, List.all_eq_true]
  intro e he
  exact good1_ok (List.all_eq_true.mp h.2 e he)
theorem pairs_ok {d e p : Da} (h1 : good d = true) (h2 : good e = true) (hp : p ∈ [Da.tup [d, e], .lst [d, e], .tup [d, e, d], .tup [d]]) :
    okEach p = true ∧ small3 huge p = true ∧ isS p = true ∧ isPt p = (decide ((items p).length = 2) && (isNum d && isNum e)) := by
  have g1 := good_good1 h1
  have g2 := good_good1 h2
  have a1 := good1_ok g1
  have a2 := good1_ok g2
  have b1 := good1_small g1
  have b2 := good1_small g2
  have two := two_ok g1 g2
  simp only [List.mem_cons, List.not_mem_nil, or_false] at hp
  rcases hp with rfl | rfl | rfl | rfl
  · exact ⟨two.2.1, two.2.2.2, rfl, rfl⟩
  · exact ⟨two.1, two.2.2.1, rfl, rfl⟩
  · refine ⟨?_, ?_, rfl, rfl⟩
    · show (true && ((okPair (items d) && decide ((items d).length ≤ 1000)) && ((okPair (items e) && decide ((items e).length ≤ 1000)) && ((okPair (items d) && decide ((items d).length ≤ 1000)) && true)))) = true
      rw [a1, a2]
      decide
    · show (small2 huge d && (small2 huge e && (small2 huge d && true))) = true
      rw [b1, b2]
      decide
  · refine ⟨?_, ?_, rfl, rfl⟩
    · show (true && ((okPair (items d) && decide ((items d).length ≤ 1000)) && true)) = true
      rw [a1]
      decide
    · show (small2 huge d && true) = true
      rw [b1]
      decide
def spLaw (K : PySem.W.Frag) : Sp := fun vs H Q _ => ∃ (a : Addr) (ns : List Int), vs = [.ref a] ∧ SqL K H a (ns.map V.int) ∧ ns.length ≤ 63 ∧ ∀ H', Q (.bl true) H'
def OptI (d : Da) : Prop := ∃ o : Option Int, d = match o with | none => .non | some i => .int i
theorem OptI.is {H : Hp} {v : V} {d : Da} (h : OptI d) (hv : Is H v d) : ∃ o, v = optV o := by
  obtain ⟨o, rfl⟩ := h
  cases o with
  | none => cases hv; exact ⟨none, rfl⟩
  | some i => cases hv; exact ⟨some i, rfl⟩
section
variable {P : Program} {w : World} {K : PySem.W.Frag} {mg : Str → Option Value} {base : Heap}
theorem ok_law (T : Txt K mg) : FnG P w K mg base CX0 6 T.a_law T.d_law ["_law_script"] (spLaw K) := by
  have G_law_sack := ok_law_sack (P := P) (w := w) (base := base) T
  have G_law_pick := ok_law_pick (P := P) (w := w) (base := base) T
  have G_law_turn := ok_law_turn (P := P) (w := w) (base := base) T
  have G_law_value := ok_law_value (P := P) (w := w) (base := base) T
  have G_law_has_form := ok_law_has_form (P := P) (w := w) (base := base) T
  have G_is_turn := ok_is_turn (P := P) (w := w) (base := base) T
  have G_is_point := ok_is_point (P := P) (w := w) (base := base) T
  have G_is_within := ok_is_within (P := P) (w := w) (base := base) T
  have G_law_reach := ok_law_reach (P := P) (w := w) (base := base) T
  have G_is_integer := ok_is_integer (P := P) (w := w) (base := base) T
  have G_is_number := ok_is_number (P := P) (w := w) (base := base) T
  have G_law_is_pair := ok_law_is_pair (P := P) (w := w) (base := base) T
  have G_law_is_round := ok_law_is_round (P := P) (w := w) (base := base) T
  refine Ty.Fun.okG T.F_law sc_law (fun vs H Q E h => ?_) (fun cdv A outer s H vs Q E hgd hr h => ?_)
  · obtain ⟨a, ns, rfl, _⟩ := h
    rfl
  · obtain ⟨a, ns, rfl, hsq, hlen, k⟩ := h
    refine ⟨_, (pss_cons (ps_set (i := 1) sc_law.nd rfl (Or.inl rfl) (pe_call G_law_sack (hr.mono (by decide)) (by rfl) T.m_law_sack T.F_law_sack.kp (b_law_sack T) .nil pass0 (pa_cons (pv 0) pa_nil)))
      (pss_cons (ps_for PassesOwn.never rfl (pi_range1 (by rfl) T.z_range (pa_cons pe_int pa_nil)) (pg_name (i := 2) sc_law.nd rfl (Or.inl rfl)) (pss_cons (ps_par (i := 3) (j := 4) rfl sc_law.nd rfl rfl (by decide) rfl rfl (pa_cons (pe_call G_law_value (hr.mono (by decide)) (by rfl) T.m_law_value T.F_law_value.kp (b_law_value T) .nil pass0 (pa_cons (pv 1) pa_nil)) (pa_cons (pe_call G_law_value (hr.mono (by decide)) (by rfl) T.m_law_value T.F_law_value.kp (b_law_value T) .nil pass0 (pa_cons (pv 1) pa_nil)) pa_nil)) (by rfl))
      (Evl.pss_cut (ps_set (i := 5) sc_law.nd rfl (Or.inl rfl) (pe_and (pe_callB call_isiInt (by rfl) T.z_isinstance (by decide +kernel) (pa_cons (pv 3) (pa_cons (pe_bltn (v := .ty "int") (by rfl) T.z_int (by decide +kernel) rfl) pa_nil))) (pe_one (pe_not (pe_callB call_isiBool (by rfl) T.z_isinstance (by decide +kernel) (pa_cons (pv 3) (pa_cons (pe_bltn (v := .ty "bool") (by rfl) T.z_bool (by decide +kernel) rfl) pa_nil)))))))
      (pss_cons (ps_par (i := 6) (j := 7) rfl sc_law.nd rfl rfl (by decide) rfl rfl (pa_cons (pe_call G_law_pick (hr.mono (by decide)) (by rfl) T.m_law_pick T.F_law_pick.kp (b_law_pick T) .nil pass0 (pa_cons (pv 1) (pa_cons (pe_lst (pa_cons pe_non (pa_cons pe_int (pa_cons (pe_un un_neg pe_int) (pa_cons (pe_call G_law_reach (hr.mono (by decide)) (by rfl) T.m_law_reach T.F_law_reach.kp (b_law_reach T) .nil pass0 (pa_cons (pv 1) (pa_cons pe_int pa_nil))) pa_nil))))) pa_nil))) (pa_cons (pe_call G_law_pick (hr.mono (by decide)) (by rfl) T.m_law_pick T.F_law_pick.kp (b_law_pick T) .nil pass0 (pa_cons (pv 1) (pa_cons (pe_lst (pa_cons pe_non (pa_cons pe_int (pa_cons pe_int (pa_cons (pe_call G_law_reach (hr.mono (by decide)) (by rfl) T.m_law_reach T.F_law_reach.kp (b_law_reach T) .nil pass0 (pa_cons (pv 1) (pa_cons pe_int pa_nil))) pa_nil))))) pa_nil))) pa_nil)) (by rfl))
      (Evl.pss_cut (ps_set (i := 8) sc_law.nd rfl (Or.inl rfl) (pe_and (pv 5) (pe_and (pe_or (pe_cmpR op_isN (pv 6) pe_non (nomark _)) (pe_one (pe_cmpR op_ge (pv 3) (pv 6) (nomark _)))) (pe_one (pe_or (pe_cmpR op_isN (pv 7) pe_non (nomark _)) (pe_one (pe_cmpR op_le (pv 3) (pv 7) (nomark _))))))))
      (Evl.pss_cut (ps_if (pt_cmpR op_ne (pe_callB (call_repr hr.units hgd) (by rfl) T.z_repr (by decide +kernel) (pa_cons (pe_lst (pa_cons (pe_call G_is_integer (hr.mono (by decide)) (by rfl) T.m_is_integer T.F_is_integer.kp (b_is_integer T) .nil pass0 (pa_cons (pv 3) pa_nil)) (pa_cons (pe_callN0 G_is_integer (hr.mono (by decide)) (by rfl) T.m_is_integer T.F_is_integer.kp (kb_is_integer_0_value T) pass0 (pk_cons (pv 3) pk_nil)) (pa_cons (pe_call G_is_within (hr.mono (by decide)) (by rfl) T.m_is_within T.F_is_within.kp (b_is_within T) .nil pass0 (pa_cons (pv 3) (pa_cons (pv 6) (pa_cons (pv 7) pa_nil)))) pa_nil)))) pa_nil)) (pe_callB (call_repr hr.units hgd) (by rfl) T.z_repr (by decide +kernel) (pa_cons (pe_lst (pa_cons (pv 5) (pa_cons (pv 5) (pa_cons (pv 8) pa_nil)))) pa_nil)) (nomark _)) (pss_one (ps_ret pe_bl)) pss_nil)
      (Evl.pss_cut (ps_if (pt_cmpR op_ne (pe_callB (call_repr hr.units hgd) (by rfl) T.z_repr (by decide +kernel) (pa_cons (pe_lst (pa_cons (pe_call G_is_number (hr.mono (by decide)) (by rfl) T.m_is_number T.F_is_number.kp (b_is_number T) .nil pass0 (pa_cons (pv 3) pa_nil)) (pa_cons (pe_callN0 G_is_number (hr.mono (by decide)) (by rfl) T.m_is_number T.F_is_number.kp (kb_is_number_0_value T) pass0 (pk_cons (pv 4) pk_nil)) pa_nil))) pa_nil)) (pe_callB (call_repr hr.units hgd) (by rfl) T.z_repr (by decide +kernel) (pa_cons (pe_lst (pa_cons (pe_call G_law_has_form (hr.mono (by decide)) (by rfl) T.m_law_has_form T.F_law_has_form.kp (b_law_has_form T) .nil pass0 (pa_cons (pv 3) pa_nil)) (pa_cons (pe_call G_law_has_form (hr.mono (by decide)) (by rfl) T.m_law_has_form T.F_law_has_form.kp (b_law_has_form T) .nil pass0 (pa_cons (pv 4) pa_nil)) pa_nil))) pa_nil)) (nomark _)) (pss_one (ps_ret pe_bl)) pss_nil)
      (pss_cons (ps_set (i := 9) sc_law.nd rfl (Or.inl rfl) (pe_call G_law_pick (hr.mono (by decide)) (by rfl) T.m_law_pick T.F_law_pick.kp (b_law_pick T) .nil pass0 (pa_cons (pv 1) (pa_cons (pe_lst (pa_cons (pe_tup (pa_cons (pv 3) (pa_cons (pv 4) pa_nil))) (pa_cons (pe_lst (pa_cons (pv 3) (pa_cons (pv 4) pa_nil))) (pa_cons (pe_tup (pa_cons (pv 3) (pa_cons (pv 4) (pa_cons (pv 3) pa_nil)))) (pa_cons (pe_tup (pa_cons (pv 3) pa_nil)) pa_nil))))) pa_nil))))
      (Evl.pss_cut (ps_set (i := 10) sc_law.nd rfl (Or.inl rfl) (pe_and (pe_cmpR op_eq (pe_callB call_len_seq (by rfl) T.z_len PySem.boot_len (pa_cons (pv 9) pa_nil)) pe_int (nomark _)) (pe_and (pe_call G_law_has_form (hr.mono (by decide)) (by rfl) T.m_law_has_form T.F_law_has_form.kp (b_law_has_form T) .nil pass0 (pa_cons (pv 3) pa_nil)) (pe_one (pe_call G_law_has_form (hr.mono (by decide)) (by rfl) T.m_law_has_form T.F_law_has_form.kp (b_law_has_form T) .nil pass0 (pa_cons (pv 4) pa_nil))))))
      (Evl.pss_cut (ps_if (pt_cmpR op_ne (pe_callB (call_repr hr.units hgd) (by rfl) T.z_repr (by decide +kernel) (pa_cons (pe_lst (pa_cons (pe_call G_is_point (hr.mono (by decide)) (by rfl) T.m_is_point T.F_is_point.kp (b_is_point T) .nil pass0 (pa_cons (pv 9) pa_nil)) (pa_cons (pe_callN0 G_is_point (hr.mono (by decide)) (by rfl) T.m_is_point T.F_is_point.kp (kb_is_point_0_value T) pass0 (pk_cons (pv 9) pk_nil)) (pa_cons (pe_call G_is_point (hr.mono (by decide)) (by rfl) T.m_is_point T.F_is_point.kp (b_is_point T) .nil pass0 (pa_cons (pv 3) pa_nil)) pa_nil)))) pa_nil)) (pe_callB (call_repr hr.units hgd) (by rfl) T.z_repr (by decide +kernel) (pa_cons (pe_lst (pa_cons (pv 10) (pa_cons (pv 10) (pa_cons (pe_call G_law_is_pair (hr.mono (by decide)) (by rfl) T.m_law_is_pair T.F_law_is_pair.kp (b_law_is_pair T) .nil pass0 (pa_cons (pv 3) pa_nil)) pa_nil)))) pa_nil)) (nomark _)) (pss_one (ps_ret pe_bl)) pss_nil)
      (pss_cons (ps_set (i := 11) sc_law.nd rfl (Or.inl rfl) (pe_call G_law_turn (hr.mono (by decide)) (by rfl) T.m_law_turn T.F_law_turn.kp (b_law_turn T) .nil pass0 (pa_cons (pv 1) pa_nil)))
      (pss_one (ps_if (pt_cmpR op_ne (pe_callB (call_repr hr.units hgd) (by rfl) T.z_repr (by decide +kernel) (pa_cons (pe_lst (pa_cons (pe_call G_is_turn (hr.mono (by decide)) (by rfl) T.m_is_turn T.F_is_turn.kp (b_is_turn T) .nil pass0 (pa_cons (pv 11) pa_nil)) (pa_cons (pe_callN0 G_is_turn (hr.mono (by decide)) (by rfl) T.m_is_turn T.F_is_turn.kp (kb_is_turn_0_value T) pass0 (pk_cons (pv 9) pk_nil)) pa_nil))) pa_nil)) (pe_callB (call_repr hr.units hgd) (by rfl) T.z_repr (by decide +kernel) (pa_cons (pe_lst (pa_cons (pe_call G_law_is_round (hr.mono (by decide)) (by rfl) T.m_law_is_round T.F_law_is_round.kp (b_law_is_round T) .nil pass0 (pa_cons (pv 11) pa_nil)) (pa_cons (pe_call G_law_is_round (hr.mono (by decide)) (by rfl) T.m_law_is_round T.F_law_is_round.kp (b_law_is_round T) .nil pass0 (pa_cons (pv 9) pa_nil)) pa_nil))) pa_nil)) (nomark _)) (pss_one (ps_ret pe_bl)) pss_nil)))))))))))))
      (pss_one (ps_ret (pe_and (pe_cmpR op_isBl (pe_call G_is_turn (hr.mono (by decide)) (by rfl) T.m_is_turn T.F_is_turn.kp (b_is_turn T) .nil pass0 (pa_cons pe_non pa_nil)) pe_bl (nomark _)) (pe_and (pe_cmpR op_isBl (pe_call G_is_point (hr.mono (by decide)) (by rfl) T.m_is_point T.F_is_point.kp (b_is_point T) .nil pass0 (pa_cons pe_str pa_nil)) pe_bl (nomark _)) (pe_one (pe_cmpR op_isBl (pe_callN0 G_is_within (hr.mono (by decide)) (by rfl) T.m_is_within T.F_is_within.kp (kb_is_within_0_value_least_most T) pass0 (pk_cons pe_bl (pk_cons pe_non (pk_cons pe_non pk_nil)))) pe_bl (nomark _))))))))), ?_⟩
    refine ⟨_, rfl, a, ns, rfl, hsq, by omega, fun j bk H1 s1 hj hb J1 => ?_⟩
    have hS : only j j = true := only_self
    refine ⟨6, rfl, by decide, by decide, for_range (n := 6) (fun i σ H' => Jar j bk H' (19 * i) ∧ ∃ s2 s3 s4 s5 s6 s7 s8 s9 s10 s11 : Option V, σ = [some (.ref a), some (.ref j), s2, s3, s4, s5, s6, s7, s8, s9, s10, s11]) ⟨J1, none, none, none, none, none, none, none, none, none, none, rfl⟩ ?_ ?_⟩
    · rintro i σ H2 hi ⟨J2, s2, s3, s4, s5, s6, s7, s8, s9, s10, s11, rfl⟩
      refine dr_par hS (dr_value hS rfl) (dr_value hS rfl) (only_live J2) J2 (by omega) fun v d u e H3 k3 l3 J3 hv gd hu ge => ?_
      have gd2 := good_each gd
      have ge2 := good_each ge
      refine ⟨fun σ' H' => H' = H3 ∧ σ' = [some (.ref a), some (.ref j), some (.int (0 + (i : Int))), some v, some u, some (.bl (isN d)), s6, s7, s8, s9, s10, s11], ?_, ?_⟩
      · have hv' := hv.up mn_same
        refine ⟨_, rfl, v, d, rfl, hv', _, rfl, iteB (fun c => ⟨_, rfl, v, d, rfl, hv', _, rfl, rfl, ?_⟩) fun c => ⟨rfl, ?_⟩⟩
        · have : isN d = !isB d := by
            cases d with
            | int _ => rfl
            | bl _ => rfl
            | _ => cases c
          rw [this]
          rfl
        · have : isN d = false := by
            cases d with
            | int _ => cases c
            | _ => rfl
          rw [this]
          rfl
      rintro σ' H' ⟨rfl, rfl⟩
      refine dr_par hS (dr_pick hS rfl (drA_cons hS dr_non (drA_cons hS dr_int (drA_cons hS dr_neg (drA_cons hS (dr_reach rfl (by decide) (by decide)) drA_nil)))) ?_) (dr_pick hS rfl (drA_cons hS dr_non (drA_cons hS dr_int (drA_cons hS dr_int (drA_cons hS (dr_reach rfl (by decide) (by decide)) drA_nil)))) ?_) l3 J3 (by omega) fun lo dl hi' dh H4 k4 l4 J4 hlo plo hhi phi => ?_
      · rintro ds ⟨_, _, rfl, _, _, _, rfl, _, _, _, rfl, _, _, _, rfl, _, rfl⟩
        exact ⟨by show 0 < 4; decide, by show 4 ≤ 1000; decide⟩
      · rintro ds ⟨_, _, rfl, _, _, _, rfl, _, _, _, rfl, _, _, _, rfl, _, rfl⟩
        exact ⟨by show 0 < 4; decide, by show 4 ≤ 1000; decide⟩
      obtain ⟨lo, rfl⟩ : ∃ o, lo = optV o := by
        obtain ⟨ds, ⟨_, _, rfl, rfl, _, _, rfl, rfl, _, _, rfl, rfl, _, _, rfl, ⟨r, rfl, _⟩, rfl⟩, hm⟩ := plo
        simp only [List.mem_cons, List.not_mem_nil, or_false] at hm
        rcases hm with rfl | rfl | rfl | rfl
        · exact OptI.is ⟨none, rfl⟩ hlo
        · exact OptI.is ⟨some _, rfl⟩ hlo
        · exact OptI.is ⟨some _, rfl⟩ hlo
        · exact OptI.is ⟨some _, rfl⟩ hlo
      obtain ⟨hi', rfl⟩ : ∃ o, hi' = optV o := by
        obtain ⟨ds, ⟨_, _, rfl, rfl, _, _, rfl, rfl, _, _, rfl, rfl, _, _, rfl, ⟨r, rfl, _⟩, rfl⟩, hm⟩ := phi
        simp only [List.mem_cons, List.not_mem_nil, or_false] at hm
        rcases hm with rfl | rfl | rfl | rfl
        · exact OptI.is ⟨none, rfl⟩ hhi
        · exact OptI.is ⟨some _, rfl⟩ hhi
        · exact OptI.is ⟨some _, rfl⟩ hhi
        · exact OptI.is ⟨some _, rfl⟩ hhi
      have hv4 := hv.up (k4.less hS)
      have hu4 := hu.up (k4.less hS)
      refine ⟨fun σ' H' => H' = H4 ∧ σ' = [some (.ref a), some (.ref j), some (.int (0 + (i : Int))), some v, some u, some (.bl (isN d)), some (optV lo), some (optV hi'), some (.bl (within d lo hi')), s9, s10, s11], ?_, ?_⟩
      · refine ⟨_, rfl, _, rfl, iteB (fun c => ?_) fun c => ⟨rfl, ?_⟩⟩
        · obtain ⟨z, rfl, rfl⟩ := isN_of (hv4.up mn_same) c
          have fin : ∀ b : Bool, okLo z lo = b → if b = true then tOrV (tOp (fun x y H Q => y = .non ∧ Q (.bl (decide (x = .non))) H) (tVar 7) (tC .non)) (tOp (rI0 fun i j => .bl (decide (i ≤ j))) (tVar 3) (tVar 7)) [some (.ref a), some (.ref j), some (.int (0 + (i : Int))), some (.int z), some u, some (.bl (isN (.int z))), some (optV lo), some (optV hi'), s8, s9, s10, s11] H4 (fun x H' => H' = H4 ∧ [some (.ref a), some (.ref j), some (.int (0 + (i : Int))), some (.int z), some u, some (.bl (isN (.int z))), some (optV lo), some (optV hi'), some x, s9, s10, s11] = [some (.ref a), some (.ref j), some (.int (0 + (i : Int))), some (.int z), some u, some (.bl (isN (.int z))), some (optV lo), some (optV hi'), some (.bl (within (.int z) lo hi')), s9, s10, s11])
              else (H4 = H4 ∧ [some (.ref a), some (.ref j), some (.int (0 + (i : Int))), some (.int z), some u, some (.bl (isN (.int z))), some (optV lo), some (optV hi'), some (.bl false), s9, s10, s11] = [some (.ref a), some (.ref j), some (.int (0 + (i : Int))), some (.int z), some u, some (.bl (isN (.int z))), some (optV lo), some (optV hi'), some (.bl (within (.int z) lo hi')), s9, s10, s11]) := by
            intro b eb
            refine iteB (fun c => ?_) fun c => ?_
            · subst c
              have ew : within (.int z) lo hi' = okHi z hi' := by
                show (okLo z lo && okHi z hi') = _
                rw [eb, Bool.true_and]
              rw [ew]
              cases hi' with
              | none => exact ⟨_, rfl, rfl, _, rfl, iteD (fun _ => ⟨rfl, rfl⟩) fun z => absurd rfl z⟩
              | some m => exact ⟨_, rfl, rfl, _, rfl, iteD (fun z => nomatch z) fun _ => ⟨_, rfl, _, rfl, _, _, rfl, rfl, rfl, rfl⟩⟩
            · subst c
              have ew : within (.int z) lo hi' = false := by
                show (okLo z lo && okHi z hi') = _
                rw [eb, Bool.false_and]
              rw [ew]
              exact ⟨rfl, rfl⟩
          cases lo with
          | none => exact ⟨_, rfl, rfl, _, rfl, iteD (fun _ => ⟨_, rfl, fin _ rfl⟩) fun z => absurd rfl z⟩
          | some l => exact ⟨_, rfl, rfl, _, rfl, iteD (fun z => nomatch z) fun _ => ⟨_, rfl, _, rfl, _, _, rfl, rfl, ⟨_, rfl, fin _ rfl⟩⟩⟩
        · have : within d lo hi' = false := by
            cases d with
            | int _ => cases c
            | _ => rfl
          rw [this]
          rfl
      rintro σ' H' ⟨rfl, rfl⟩
      have hv5 := hv4.up mn_same
      have hu5 := hu4.up mn_same
      refine ⟨fun σ' H'' => Same H' H'' ∧ σ' = [some (.ref a), some (.ref j), some (.int (0 + (i : Int))), some v, some u, some (.bl (isN d)), some (optV lo), some (optV hi'), some (.bl (within d lo hi')), s9, s10, s11], ?_, ?_⟩
      · refine ⟨_, rfl, v, d, rfl, hv5, fun H5 s5 => ⟨_, rfl, rfl, rfl, v, d, rfl, hv5.up s5, fun H6 s6 => ⟨_, rfl, _, rfl, _, rfl, v, d, lo, hi', rfl, (hv5.up s5).up s6, fun H7 s7 => ⟨(by decide : 3 ≤ sizeLine), fun l hl => ⟨l, .list [.bool (isN d), .bool (isN d), .bool (within d lo hi')], rfl, .lst (.inl (.inl upd_same)) (.cons (.bl _) (.cons (.bl _) (.cons (.bl _) .nil))), (cond3 _ _ _).1, (cond3 _ _ _).2.1, (cond3 _ _ _).2.2.1, (cond3 _ _ _).2.2.2, ?_⟩⟩⟩⟩⟩
        refine ⟨_, rfl, _, rfl, _, rfl, (by decide : 3 ≤ sizeLine), fun l2 hl2 => ⟨l2, .list [.bool (isN d), .bool (isN d), .bool (within d lo hi')], rfl, .lst (.inl (.inl upd_same)) (.cons (.bl _) (.cons (.bl _) (.cons (.bl _) .nil))), (cond3 _ _ _).1, (cond3 _ _ _).2.1, (cond3 _ _ _).2.2.1, (cond3 _ _ _).2.2.2, rfl, _, rfl, iteE (fun ne => absurd rfl ne) fun _ => ⟨((s5.trans s6).trans s7).trans ((Same.new hl).trans (Same.new hl2)), rfl⟩⟩⟩
      rintro σ' H5 ⟨s5, rfl⟩
      have J5 := J4.up s5
      have hv6 := hv5.up s5
      have hu6 := hu5.up s5
      refine ⟨fun σ' H'' => Same H5 H'' ∧ σ' = [some (.ref a), some (.ref j), some (.int (0 + (i : Int))), some v, some u, some (.bl (isN d)), some (optV lo), some (optV hi'), some (.bl (within d lo hi')), s9, s10, s11], ?_, ?_⟩
      · refine ⟨_, rfl, v, d, rfl, hv6, fun H6 s6 => ⟨_, rfl, rfl, rfl, u, e, rfl, hu6.up s6, fun H7 s7 => ⟨(by decide : 2 ≤ sizeLine), fun l hl => ⟨l, .list [.bool (isNum d), .bool (isNum e)], rfl, .lst (.inl (.inl upd_same)) (.cons (.bl _) (.cons (.bl _) .nil)), (cond2 _ _).1, (cond2 _ _).2.1, (cond2 _ _).2.2.1, (cond2 _ _).2.2.2, ?_⟩⟩⟩⟩
        have s8 : Same H5 (upd H7 l (.lst [.bl (isNum d), .bl (isNum e)])) := (s6.trans s7).trans (Same.new hl)
        refine ⟨_, rfl, v, d, rfl, hv6.up s8, gd2.2.1, gd2.2.2, fun H8 s9 => ⟨_, rfl, u, e, rfl, (hu6.up s8).up s9, ge2.2.1, ge2.2.2, fun H9 s10 => ⟨(by decide : 2 ≤ sizeLine), fun l2 hl2 => ⟨l2, .list [.bool (isNum d), .bool (isNum e)], rfl, .lst (.inl (.inl upd_same)) (.cons (.bl _) (.cons (.bl _) .nil)), (cond2 _ _).1, (cond2 _ _).2.1, (cond2 _ _).2.2.1, (cond2 _ _).2.2.2, rfl, _, rfl, iteE (fun ne => absurd rfl ne) fun _ => ⟨((s8.trans s9).trans s10).trans (Same.new hl2), rfl⟩⟩⟩⟩⟩
      rintro σ' H6 ⟨s6, rfl⟩
      have J6 := J5.up s6
      have l6 := only_live J6
      have hv7 := (hv4.up (Same.less s5)).up (Same.less s6)
      have hu7 := (hu4.up (Same.less s5)).up (Same.less s6)
      refine dr_asg (dr_pickE hS rfl (drA_consE hS (dr_tupE (drA_consE hS (dr_var hS rfl hv7) (drA_consE hS (dr_var hS rfl hu7) drA_nil)) (by show 2 ≤ 1000; decide)) (drA_consE hS (dr_lstE (drA_consE hS (dr_var hS rfl hv7) (drA_consE hS (dr_var hS rfl hu7) drA_nil)) (by show 2 ≤ 1000; decide)) (drA_consE hS (dr_tupE (drA_consE hS (dr_var hS rfl hv7) (drA_consE hS (dr_var hS rfl hu7) (drA_consE hS (dr_var hS rfl hv7) drA_nil))) (by show 3 ≤ 1000; decide)) (drA_consE hS (dr_tupE (drA_consE hS (dr_var hS rfl hv7) drA_nil) (by show 1 ≤ 1000; decide)) drA_nil)))) (by show 0 < 4; decide) (by show 4 ≤ 1000; decide)) l6 J6 (by omega) fun pr dp H7 k7 l7 J7 hpr pp => ?_
      obtain ⟨okp, smp, sqp, ptp⟩ := pairs_ok gd ge pp
      have hv8 := (hv7.up (k7.less hS)).up mn_same
      have hu8 := (hu7.up (k7.less hS)).up mn_same
      have hp8 := hpr.up mn_same
      obtain ⟨ap, xs, rfl, hs, hx⟩ := hp8.seq (K := K) sqp
      refine ⟨fun σ' H'' => Same H7 H'' ∧ σ' = [some (.ref a), some (.ref j), some (.int (0 + (i : Int))), some v, some u, some (.bl (isN d)), some (optV lo), some (optV hi'), some (.bl (within d lo hi')), some (.ref ap), some (.bl (isPt dp)), s11], ?_, ?_⟩
      · have fin : ∀ (b : Bool) (H8 : Hp), isPt dp = b → Same H7 H8 → Same H7 H8 ∧ [some (V.ref a), some (.ref j), some (.int (0 + (i : Int))), some v, some u, some (.bl (isN d)), some (optV lo), some (optV hi'), some (.bl (within d lo hi')), some (.ref ap), some (.bl b), s11] = [some (.ref a), some (.ref j), some (.int (0 + (i : Int))), some v, some u, some (.bl (isN d)), some (optV lo), some (optV hi'), some (.bl (within d lo hi')), some (.ref ap), some (.bl (isPt dp)), s11] := fun b H8 e s => ⟨s, by rw [e]⟩
        refine ⟨_, rfl, ap, xs, rfl, hs, rfl, _, rfl, iteD (fun ll => ?_) fun ll => ?_⟩
        · have l2 : (items dp).length = 2 := by
            have := int_eq ll
            rw [hx.length] at this
            omega
          refine ⟨_, rfl, v, d, rfl, hv8, gd2.2.1, gd2.2.2, fun H8 s8 => ⟨_, rfl, iteB (fun c => ?_) fun c => ?_⟩⟩
          · exact ⟨_, rfl, u, e, rfl, hu8.up s8, ge2.2.1, ge2.2.2, fun H9 s9 => fin _ _ (by rw [ptp, l2, c]; rfl) (s8.trans s9)⟩
          · exact fin _ _ (by rw [ptp, c, Bool.false_and, Bool.and_false]) s8
        · refine fin _ _ ?_ (Same.refl _)
          have l2 : (items dp).length ≠ 2 := fun z => int_ne ll (by rw [hx.length, z]; rfl)
          rw [ptp, decide_eq_false l2, Bool.false_and]
      rintro σ' H8 ⟨s8, rfl⟩
      have J8 := J7.up s8
      have hv9 := hv8.up s8
      have hp9 := hp8.up s8
      refine ⟨fun σ' H'' => Same H8 H'' ∧ σ' = [some (.ref a), some (.ref j), some (.int (0 + (i : Int))), some v, some u, some (.bl (isN d)), some (optV lo), some (optV hi'), some (.bl (within d lo hi')), some (.ref ap), some (.bl (isPt dp)), s11], ?_, ?_⟩
      · refine ⟨_, rfl, _, dp, rfl, hp9, fun H9 t1 => ⟨_, rfl, rfl, rfl, _, dp, rfl, hp9.up t1, fun H10 t2 => ⟨_, rfl, v, d, rfl, (hv9.up t1).up t2, fun H11 t3 => ⟨(by decide : 3 ≤ sizeLine), fun l hl => ⟨l, .list [.bool (isPt dp), .bool (isPt dp), .bool (isPt d)], rfl, .lst (.inl (.inl upd_same)) (.cons (.bl _) (.cons (.bl _) (.cons (.bl _) .nil))), (cond3 _ _ _).1, (cond3 _ _ _).2.1, (cond3 _ _ _).2.2.1, (cond3 _ _ _).2.2.2, ?_⟩⟩⟩⟩⟩
        have t4 : Same H8 (upd H11 l (.lst [.bl (isPt dp), .bl (isPt dp), .bl (isPt d)])) := ((t1.trans t2).trans t3).trans (Same.new hl)
        refine ⟨_, rfl, _, rfl, _, rfl, v, d, rfl, hv9.up t4, gd2.1, fun H12 t5 => ⟨(by decide : 3 ≤ sizeLine), fun l2 hl2 => ⟨l2, .list [.bool (isPt dp), .bool (isPt dp), .bool (isPt d)], rfl, .lst (.inl (.inl upd_same)) (.cons (.bl _) (.cons (.bl _) (.cons (.bl _) .nil))), (cond3 _ _ _).1, (cond3 _ _ _).2.1, (cond3 _ _ _).2.2.1, (cond3 _ _ _).2.2.2, rfl, _, rfl, iteE (fun ne => absurd rfl ne) fun _ => ⟨(t4.trans t5).trans (Same.new hl2), rfl⟩⟩⟩⟩
      rintro σ' H9 ⟨s9, rfl⟩
      have J9 := J8.up s9
      refine dr_asg (dr_turn hS rfl) (only_live J9) J9 (by omega) fun r dr H10 k10 l10 J10 hr1 pr1 => ?_
      have hp10 := ((hpr.up (Same.less s8)).up (Same.less s9)).up (k10.less hS)
      have hp11 := hp10.up mn_same
      have hr2 := hr1.up mn_same
      refine ⟨_, rfl, r, dr, rfl, hr2, pr1.2, fun H11 t1 => ⟨_, rfl, rfl, rfl, _, dp, rfl, hp11.up t1, smp, fun H12 t2 => ⟨(by decide : 2 ≤ sizeLine), fun l hl => ⟨l, .list [.bool (isTurn dr), .bool (isTurn dp)], rfl, .lst (.inl (.inl upd_same)) (.cons (.bl _) (.cons (.bl _) .nil)), (cond2 _ _).1, (cond2 _ _).2.1, (cond2 _ _).2.2.1, (cond2 _ _).2.2.2, ?_⟩⟩⟩⟩
      have t4 : Same H10 (upd H12 l (.lst [.bl (isTurn dr), .bl (isTurn dp)])) := (t1.trans t2).trans (Same.new hl)
      refine ⟨_, rfl, r, dr, rfl, hr2.up t4, pr1.1, pr1.2, fun H13 t5 => ⟨_, rfl, _, dp, rfl, (hp11.up t4).up t5, okp, smp, fun H14 t6 => ⟨(by decide : 2 ≤ sizeLine), fun l2 hl2 => ⟨l2, .list [.bool (isTurn dr), .bool (isTurn dp)], rfl, .lst (.inl (.inl upd_same)) (.cons (.bl _) (.cons (.bl _) .nil)), (cond2 _ _).1, (cond2 _ _).2.1, (cond2 _ _).2.2.1, (cond2 _ _).2.2.2, rfl, _, rfl, iteE (fun ne => absurd rfl ne) fun _ => ⟨(J10.up (((t4.trans t5).trans t6).trans (Same.new hl2))).le (by omega), _, _, _, _, _, _, _, _, _, _, rfl⟩⟩⟩⟩⟩
    · rintro σ H2 ⟨J2, s2, s3, s4, s5, s6, s7, s8, s9, s10, s11, rfl⟩
      refine ⟨.non, .non, rfl, .non, by decide +kernel, fun H3 s3 => ⟨_, _, rfl, rfl, _, rfl, ?_⟩⟩
      refine iteD (fun _ => ?_) fun z => absurd rfl z
      refine ⟨_, .str _, rfl, .str _, fun H4 s4 => ⟨_, _, rfl, rfl, _, rfl, ?_⟩⟩
      refine iteD (fun _ => ?_) fun z => absurd rfl z
      exact ⟨rfl, rfl, .bl true, .bl true, none, none, rfl, .bl true, fun H5 s5 => ⟨_, _, rfl, rfl, k H5⟩⟩
end
end Ty

namespace Ty
open PySem PySem.Spec PyProof.Rows L2
/-! what the top has written, and the end -/
theorem all_mk {l : PySem.W.OpenLaw} {w : World} {K : PySem.W.Frag} {h : Heap} {mg : Str → Option Value} {fa : Addr} (X : K.In h) (G : h.Ns mainGlobals mg) (hfa : mg "law" = some (.ref fa))
  {a_is_list : Addr} {oc_is_list kV_is_list dc_is_list pm_is_list cd_is_list ct_is_list : Value} {od_is_list an_is_list : Option Addr} {sl_is_list : Array (Option Value)}
  {a_is_integer : Addr} {oc_is_integer kV_is_integer dc_is_integer pm_is_integer cd_is_integer ct_is_integer : Value} {od_is_integer an_is_integer : Option Addr} {sl_is_integer : Array (Option Value)}
  {a_is_within : Addr} {oc_is_within kV_is_within dc_is_within pm_is_within cd_is_within ct_is_within : Value} {od_is_within an_is_within : Option Addr} {sl_is_within : Array (Option Value)}
  {a_is_number : Addr} {oc_is_number kV_is_number dc_is_number pm_is_number cd_is_number ct_is_number : Value} {od_is_number an_is_number : Option Addr} {sl_is_number : Array (Option Value)}
  {a_is_point : Addr} {oc_is_point kV_is_point dc_is_point pm_is_point cd_is_point ct_is_point : Value} {od_is_point an_is_point : Option Addr} {sl_is_point : Array (Option Value)}
  {a_is_turn : Addr} {oc_is_turn kV_is_turn dc_is_turn pm_is_turn cd_is_turn ct_is_turn : Value} {od_is_turn an_is_turn : Option Addr} {sl_is_turn : Array (Option Value)}
  {a_parts : Addr} {oc_parts kV_parts dc_parts pm_parts cd_parts ct_parts : Value} {od_parts an_parts : Option Addr} {sl_parts : Array (Option Value)}
  {a_law_sack : Addr} {oc_law_sack kV_law_sack dc_law_sack pm_law_sack cd_law_sack ct_law_sack : Value} {od_law_sack an_law_sack : Option Addr} {sl_law_sack : Array (Option Value)}
  {a_law_reach : Addr} {oc_law_reach kV_law_reach dc_law_reach pm_law_reach cd_law_reach ct_law_reach : Value} {od_law_reach an_law_reach : Option Addr} {sl_law_reach : Array (Option Value)}
  {a_law_pick : Addr} {oc_law_pick kV_law_pick dc_law_pick pm_law_pick cd_law_pick ct_law_pick : Value} {od_law_pick an_law_pick : Option Addr} {sl_law_pick : Array (Option Value)}
  {a_law_has_form : Addr} {oc_law_has_form kV_law_has_form dc_law_has_form pm_law_has_form cd_law_has_form ct_law_has_form : Value} {od_law_has_form an_law_has_form : Option Addr} {sl_law_has_form : Array (Option Value)}
  {a_law_value : Addr} {oc_law_value kV_law_value dc_law_value pm_law_value cd_law_value ct_law_value : Value} {od_law_value an_law_value : Option Addr} {sl_law_value : Array (Option Value)}
  {a_law_halves : Addr} {oc_law_halves kV_law_halves dc_law_halves pm_law_halves cd_law_halves ct_law_halves : Value} {od_law_halves an_law_halves : Option Addr} {sl_law_halves : Array (Option Value)}
  {a_law_is_round : Addr} {oc_law_is_round kV_law_is_round dc_law_is_round pm_law_is_round cd_law_is_round ct_law_is_round : Value} {od_law_is_round an_law_is_round : Option Addr} {sl_law_is_round : Array (Option Value)}
  {a_law_fraction : Addr} {oc_law_fraction kV_law_fraction dc_law_fraction pm_law_fraction cd_law_fraction ct_law_fraction : Value} {od_law_fraction an_law_fraction : Option Addr} {sl_law_fraction : Array (Option Value)}
  {a_law_turn : Addr} {oc_law_turn kV_law_turn dc_law_turn pm_law_turn cd_law_turn ct_law_turn : Value} {od_law_turn an_law_turn : Option Addr} {sl_law_turn : Array (Option Value)}
  {a_law_is_pair : Addr} {oc_law_is_pair kV_law_is_pair dc_law_is_pair pm_law_is_pair cd_law_is_pair ct_law_is_pair : Value} {od_law_is_pair an_law_is_pair : Option Addr} {sl_law_is_pair : Array (Option Value)}
  {a_law : Addr} {oc_law kV_law dc_law pm_law cd_law ct_law : Value} {od_law an_law : Option Addr} {sl_law : Array (Option Value)}
  (n_is_list : PySem.W.nsIn K mainGlobals "is_list" = some (some (.ref a_is_list)))
  (l_is_list : K.lookup a_is_list = some ⟨oc_is_list, od_is_list, .func (PySem.W.fnOf "is_list" "is_list" (defArgs s_is_list) (defBody s_is_list) (defScope s_is_list) .none kV_is_list dc_is_list pm_is_list an_is_list cd_is_list ct_is_list), sl_is_list⟩)
  (c_is_list : PySem.W.codeIn K cd_is_list "is_list" = true)
  (k_is_list : PySem.W.keepIn K (.ref a_is_list) = true)
  (n_is_integer : PySem.W.nsIn K mainGlobals "is_integer" = some (some (.ref a_is_integer)))
  (l_is_integer : K.lookup a_is_integer = some ⟨oc_is_integer, od_is_integer, .func (PySem.W.fnOf "is_integer" "is_integer" (defArgs s_is_integer) (defBody s_is_integer) (defScope s_is_integer) .none kV_is_integer dc_is_integer pm_is_integer an_is_integer cd_is_integer ct_is_integer), sl_is_integer⟩)
  (c_is_integer : PySem.W.codeIn K cd_is_integer "is_integer" = true)
  (k_is_integer : PySem.W.keepIn K (.ref a_is_integer) = true)
  (n_is_within : PySem.W.nsIn K mainGlobals "is_within" = some (some (.ref a_is_within)))
  (l_is_within : K.lookup a_is_within = some ⟨oc_is_within, od_is_within, .func (PySem.W.fnOf "is_within" "is_within" (defArgs s_is_within) (defBody s_is_within) (defScope s_is_within) .none kV_is_within dc_is_within pm_is_within an_is_within cd_is_within ct_is_within), sl_is_within⟩)
  (c_is_within : PySem.W.codeIn K cd_is_within "is_within" = true)
  (k_is_within : PySem.W.keepIn K (.ref a_is_within) = true)
  (n_is_number : PySem.W.nsIn K mainGlobals "is_number" = some (some (.ref a_is_number)))
  (l_is_number : K.lookup a_is_number = some ⟨oc_is_number, od_is_number, .func (PySem.W.fnOf "is_number" "is_number" (defArgs s_is_number) (defBody s_is_number) (defScope s_is_number) .none kV_is_number dc_is_number pm_is_number an_is_number cd_is_number ct_is_number), sl_is_number⟩)
  (c_is_number : PySem.W.codeIn K cd_is_number "is_number" = true)
  (k_is_number : PySem.W.keepIn K (.ref a_is_number) = true)
  (n_is_point : PySem.W.nsIn K mainGlobals "is_point" = some (some (.ref a_is_point)))
  (l_is_point : K.lookup a_is_point = some ⟨oc_is_point, od_is_point, .func (PySem.W.fnOf "is_point" "is_point" (defArgs s_is_point) (defBody s_is_point) (defScope s_is_point) .none kV_is_point dc_is_point pm_is_point an_is_point cd_is_point ct_is_point), sl_is_point⟩)
  (c_is_point : PySem.W.codeIn K cd_is_point "is_point" = true)
  (k_is_point : PySem.W.keepIn K (.ref a_is_point) = true)
  (n_is_turn : PySem.W.nsIn K mainGlobals "is_turn" = some (some (.ref a_is_turn)))
  (l_is_turn : K.lookup a_is_turn = some ⟨oc_is_turn, od_is_turn, .func (PySem.W.fnOf "is_turn" "is_turn" (defArgs s_is_turn) (defBody s_is_turn) (defScope s_is_turn) .none kV_is_turn dc_is_turn pm_is_turn an_is_turn cd_is_turn ct_is_turn), sl_is_turn⟩)
  (c_is_turn : PySem.W.codeIn K cd_is_turn "is_turn" = true)
  (k_is_turn : PySem.W.keepIn K (.ref a_is_turn) = true)
  (n_parts : PySem.W.nsIn K mainGlobals "_parts" = some (some (.ref a_parts)))
  (l_parts : K.lookup a_parts = some ⟨oc_parts, od_parts, .func (PySem.W.fnOf "_parts" "_parts" (defArgs s_parts) (defBody s_parts) (defScope s_parts) .none kV_parts dc_parts pm_parts an_parts cd_parts ct_parts), sl_parts⟩)
  (c_parts : PySem.W.codeIn K cd_parts "_parts" = true)
  (k_parts : PySem.W.keepIn K (.ref a_parts) = true)
  (n_law_sack : PySem.W.nsIn K mainGlobals "_law_sack" = some (some (.ref a_law_sack)))
  (l_law_sack : K.lookup a_law_sack = some ⟨oc_law_sack, od_law_sack, .func (PySem.W.fnOf "_law_sack" "_law_sack" (defArgs s_law_sack) (defBody s_law_sack) (defScope s_law_sack) .none kV_law_sack dc_law_sack pm_law_sack an_law_sack cd_law_sack ct_law_sack), sl_law_sack⟩)
  (c_law_sack : PySem.W.codeIn K cd_law_sack "_law_sack" = true)
  (k_law_sack : PySem.W.keepIn K (.ref a_law_sack) = true)
  (n_law_reach : PySem.W.nsIn K mainGlobals "_law_reach" = some (some (.ref a_law_reach)))
  (l_law_reach : K.lookup a_law_reach = some ⟨oc_law_reach, od_law_reach, .func (PySem.W.fnOf "_law_reach" "_law_reach" (defArgs s_law_reach) (defBody s_law_reach) (defScope s_law_reach) .none kV_law_reach dc_law_reach pm_law_reach an_law_reach cd_law_reach ct_law_reach), sl_law_reach⟩)
  (c_law_reach : PySem.W.codeIn K cd_law_reach "_law_reach" = true)
  (k_law_reach : PySem.W.keepIn K (.ref a_law_reach) = true)
  (n_law_pick : PySem.W.nsIn K mainGlobals "_law_pick" = some (some (.ref a_law_pick)))
  (l_law_pick : K.lookup a_law_pick = some ⟨oc_law_pick, od_law_pick, .func (PySem.W.fnOf "_law_pick" "_law_pick" (defArgs s_law_pick) (defBody s_law_pick) (defScope s_law_pick) .none kV_law_pick dc_law_pick pm_law_pick an_law_pick cd_law_pick ct_law_pick), sl_law_pick⟩)
  (c_law_pick : PySem.W.codeIn K cd_law_pick "_law_pick" = true)
  (k_law_pick : PySem.W.keepIn K (.ref a_law_pick) = true)
  (n_law_has_form : PySem.W.nsIn K mainGlobals "_law_has_form" = some (some (.ref a_law_has_form)))
  (l_law_has_form : K.lookup a_law_has_form = some ⟨oc_law_has_form, od_law_has_form, .func (PySem.W.fnOf "_law_has_form" "_law_has_form" (defArgs s_law_has_form) (defBody s_law_has_form) (defScope s_law_has_form) .none kV_law_has_form dc_law_has_form pm_law_has_form an_law_has_form cd_law_has_form ct_law_has_form), sl_law_has_form⟩)
  (c_law_has_form : PySem.W.codeIn K cd_law_has_form "_law_has_form" = true)
  (k_law_has_form : PySem.W.keepIn K (.ref a_law_has_form) = true)
  (n_law_value : PySem.W.nsIn K mainGlobals "_law_value" = some (some (.ref a_law_value)))
  (l_law_value : K.lookup a_law_value = some ⟨oc_law_value, od_law_value, .func (PySem.W.fnOf "_law_value" "_law_value" (defArgs s_law_value) (defBody s_law_value) (defScope s_law_value) .none kV_law_value dc_law_value pm_law_value an_law_value cd_law_value ct_law_value), sl_law_value⟩)
  (c_law_value : PySem.W.codeIn K cd_law_value "_law_value" = true)
  (k_law_value : PySem.W.keepIn K (.ref a_law_value) = true)
  (n_law_halves : PySem.W.nsIn K mainGlobals "_law_halves" = some (some (.ref a_law_halves)))
  (l_law_halves : K.lookup a_law_halves = some ⟨oc_law_halves, od_law_halves, .func (PySem.W.fnOf "_law_halves" "_law_halves" (defArgs s_law_halves) (defBody s_law_halves) (defScope s_law_halves) .none kV_law_halves dc_law_halves pm_law_halves an_law_halves cd_law_halves ct_law_halves), sl_law_halves⟩)
  (c_law_halves : PySem.W.codeIn K cd_law_halves "_law_halves" = true)
  (k_law_halves : PySem.W.keepIn K (.ref a_law_halves) = true)
  (n_law_is_round : PySem.W.nsIn K mainGlobals "_law_is_round" = some (some (.ref a_law_is_round)))
  (l_law_is_round : K.lookup a_law_is_round = some ⟨oc_law_is_round, od_law_is_round, .func (PySem.W.fnOf "_law_is_round" "_law_is_round" (defArgs s_law_is_round) (defBody s_law_is_round) (defScope s_law_is_round) .none kV_law_is_round dc_law_is_round pm_law_is_round an_law_is_round cd_law_is_round ct_law_is_round), sl_law_is_round⟩)
  (c_law_is_round : PySem.W.codeIn K cd_law_is_round "_law_is_round" = true)
  (k_law_is_round : PySem.W.keepIn K (.ref a_law_is_round) = true)
  (n_law_fraction : PySem.W.nsIn K mainGlobals "_law_fraction" = some (some (.ref a_law_fraction)))
  (l_law_fraction : K.lookup a_law_fraction = some ⟨oc_law_fraction, od_law_fraction, .func (PySem.W.fnOf "_law_fraction" "_law_fraction" (defArgs s_law_fraction) (defBody s_law_fraction) (defScope s_law_fraction) .none kV_law_fraction dc_law_fraction pm_law_fraction an_law_fraction cd_law_fraction ct_law_fraction), sl_law_fraction⟩)
  (c_law_fraction : PySem.W.codeIn K cd_law_fraction "_law_fraction" = true)
  (k_law_fraction : PySem.W.keepIn K (.ref a_law_fraction) = true)
  (n_law_turn : PySem.W.nsIn K mainGlobals "_law_turn" = some (some (.ref a_law_turn)))
  (l_law_turn : K.lookup a_law_turn = some ⟨oc_law_turn, od_law_turn, .func (PySem.W.fnOf "_law_turn" "_law_turn" (defArgs s_law_turn) (defBody s_law_turn) (defScope s_law_turn) .none kV_law_turn dc_law_turn pm_law_turn an_law_turn cd_law_turn ct_law_turn), sl_law_turn⟩)
  (c_law_turn : PySem.W.codeIn K cd_law_turn "_law_turn" = true)
  (k_law_turn : PySem.W.keepIn K (.ref a_law_turn) = true)
  (n_law_is_pair : PySem.W.nsIn K mainGlobals "_law_is_pair" = some (some (.ref a_law_is_pair)))
  (l_law_is_pair : K.lookup a_law_is_pair = some ⟨oc_law_is_pair, od_law_is_pair, .func (PySem.W.fnOf "_law_is_pair" "_law_is_pair" (defArgs s_law_is_pair) (defBody s_law_is_pair) (defScope s_law_is_pair) .none kV_law_is_pair dc_law_is_pair pm_law_is_pair an_law_is_pair cd_law_is_pair ct_law_is_pair), sl_law_is_pair⟩)
  (c_law_is_pair : PySem.W.codeIn K cd_law_is_pair "_law_is_pair" = true)
  (k_law_is_pair : PySem.W.keepIn K (.ref a_law_is_pair) = true)
  (n_law : PySem.W.nsIn K mainGlobals "law" = some (some (.ref a_law)))
  (l_law : K.lookup a_law = some ⟨oc_law, od_law, .func (PySem.W.fnOf "law" "law" (defArgs s_law) (defBody s_law) (defScope s_law) .none kV_law dc_law pm_law an_law cd_law ct_law), sl_law⟩)
  (c_law : PySem.W.codeIn K cd_law "law" = true)
  (k_law : PySem.W.keepIn K (.ref a_law) = true)
  (g_gcd : PySem.W.nsIn K mainGlobals "gcd" = some (some (.builtin "math.gcd")))
  (z_abs : PySem.W.nsIn K mainGlobals "abs" = some none)
  (z_bool : PySem.W.nsIn K mainGlobals "bool" = some none)
  (z_int : PySem.W.nsIn K mainGlobals "int" = some none)
  (z_isinstance : PySem.W.nsIn K mainGlobals "isinstance" = some none)
  (z_len : PySem.W.nsIn K mainGlobals "len" = some none)
  (z_list : PySem.W.nsIn K mainGlobals "list" = some none)
  (z_min : PySem.W.nsIn K mainGlobals "min" = some none)
  (z_range : PySem.W.nsIn K mainGlobals "range" = some none)
  (z_repr : PySem.W.nsIn K mainGlobals "repr" = some none)
  (z_tuple : PySem.W.nsIn K mainGlobals "tuple" = some none) :
    ∃ fd : FuncData, (∀ (s : Shared) (v : Value), BindsTo s fd ⟨[v], []⟩ [("_law_script", v)]) ∧ ∀ base : Heap, K.In base → base.Ns mainGlobals mg → FnG l.prog w K mg base CX0 6 fa fd ["_law_script"] (spLaw K) := by
  have e := hfa.symm.trans (PySem.W.mg_of X G n_law)
  cases e
  exact ⟨PySem.W.fnOf "law" "law" (defArgs s_law) (defBody s_law) (defScope s_law) .none kV_law dc_law pm_law an_law cd_law ct_law, fun s v => .of_eq rfl, fun base _ _ => ok_law (base := base) (w := w) (P := l.prog) { a_is_list := a_is_list, d_is_list := _, m_is_list := PySem.W.mg_of X G n_is_list, F_is_list := fun_mk (st := s_is_list) l_is_list c_is_list k_is_list, a_is_integer := a_is_integer, d_is_integer := _, m_is_integer := PySem.W.mg_of X G n_is_integer, F_is_integer := fun_mk (st := s_is_integer) l_is_integer c_is_integer k_is_integer, a_is_within := a_is_within, d_is_within := _, m_is_within := PySem.W.mg_of X G n_is_within, F_is_within := fun_mk (st := s_is_within) l_is_within c_is_within k_is_within, a_is_number := a_is_number, d_is_number := _, m_is_number := PySem.W.mg_of X G n_is_number, F_is_number := fun_mk (st := s_is_number) l_is_number c_is_number k_is_number, a_is_point := a_is_point, d_is_point := _, m_is_point := PySem.W.mg_of X G n_is_point, F_is_point := fun_mk (st := s_is_point) l_is_point c_is_point k_is_point, a_is_turn := a_is_turn, d_is_turn := _, m_is_turn := PySem.W.mg_of X G n_is_turn, F_is_turn := fun_mk (st := s_is_turn) l_is_turn c_is_turn k_is_turn, a_parts := a_parts, d_parts := _, m_parts := PySem.W.mg_of X G n_parts, F_parts := fun_mk (st := s_parts) l_parts c_parts k_parts, a_law_sack := a_law_sack, d_law_sack := _, m_law_sack := PySem.W.mg_of X G n_law_sack, F_law_sack := fun_mk (st := s_law_sack) l_law_sack c_law_sack k_law_sack, a_law_reach := a_law_reach, d_law_reach := _, m_law_reach := PySem.W.mg_of X G n_law_reach, F_law_reach := fun_mk (st := s_law_reach) l_law_reach c_law_reach k_law_reach, a_law_pick := a_law_pick, d_law_pick := _, m_law_pick := PySem.W.mg_of X G n_law_pick, F_law_pick := fun_mk (st := s_law_pick) l_law_pick c_law_pick k_law_pick, a_law_has_form := a_law_has_form, d_law_has_form := _, m_law_has_form := PySem.W.mg_of X G n_law_has_form, F_law_has_form := fun_mk (st := s_law_has_form) l_law_has_form c_law_has_form k_law_has_form, a_law_value := a_law_value, d_law_value := _, m_law_value := PySem.W.mg_of X G n_law_value, F_law_value := fun_mk (st := s_law_value) l_law_value c_law_value k_law_value, a_law_halves := a_law_halves, d_law_halves := _, m_law_halves := PySem.W.mg_of X G n_law_halves, F_law_halves := fun_mk (st := s_law_halves) l_law_halves c_law_halves k_law_halves, a_law_is_round := a_law_is_round, d_law_is_round := _, m_law_is_round := PySem.W.mg_of X G n_law_is_round, F_law_is_round := fun_mk (st := s_law_is_round) l_law_is_round c_law_is_round k_law_is_round, a_law_fraction := a_law_fraction, d_law_fraction := _, m_law_fraction := PySem.W.mg_of X G n_law_fraction, F_law_fraction := fun_mk (st := s_law_fraction) l_law_fraction c_law_fraction k_law_fraction, a_law_turn := a_law_turn, d_law_turn := _, m_law_turn := PySem.W.mg_of X G n_law_turn, F_law_turn := fun_mk (st := s_law_turn) l_law_turn c_law_turn k_law_turn, a_law_is_pair := a_law_is_pair, d_law_is_pair := _, m_law_is_pair := PySem.W.mg_of X G n_law_is_pair, F_law_is_pair := fun_mk (st := s_law_is_pair) l_law_is_pair c_law_is_pair k_law_is_pair, a_law := _, d_law := _, m_law := PySem.W.mg_of X G n_law, F_law := fun_mk (st := s_law) l_law c_law k_law, m_gcd := PySem.W.mg_of X G g_gcd, z_abs := PySem.W.mg_none_of X G z_abs, z_bool := PySem.W.mg_none_of X G z_bool, z_int := PySem.W.mg_none_of X G z_int, z_isinstance := PySem.W.mg_none_of X G z_isinstance, z_len := PySem.W.mg_none_of X G z_len, z_list := PySem.W.mg_none_of X G z_list, z_min := PySem.W.mg_none_of X G z_min, z_range := PySem.W.mg_none_of X G z_range, z_repr := PySem.W.mg_none_of X G z_repr, z_tuple := PySem.W.mg_none_of X G z_tuple }⟩
theorem walk_law {l : PySem.W.OpenLaw} {q : Program} {loose : List Str} {XP : (Str → Option Value) → Heap → Prop} {YP : World → Heap → Prop} {d : DefRec} {K : Params → PySem.W.Frag} (hn : l.most = some 63) (hdf : d.params.defaults = [])
    (hY : ∀ (w : World) (h : Heap), YP w h → (K w.params).In h)
    (F : ∀ (w : World) (mg : Str → Option Value) (fa : Addr) (h : Heap), (K w.params).In h → h.Ns mainGlobals mg → mg d.name = some (.ref fa) →
      ∃ fd : FuncData, (∀ (s : Shared) (u : Value), BindsTo s fd ⟨[u], []⟩ [("_law_script", u)]) ∧ ∀ base : Heap, (K w.params).In base → base.Ns mainGlobals mg → FnG l.prog w (K w.params) mg base CX0 6 fa fd ["_law_script"] (spLaw (K w.params))) :
    PySem.W.WalkO q loose XP YP l.row.toRowW d [] (fun f vs => PySem.call f vs) :=
  walkG (n := 63) (k := 6) (x := "_law_script") (CX := fun _ => CX0) (sp := fun w => spLaw (K w.params)) hn (by decide) hdf ⟨rfl, by decide, by decide⟩ hY F (fun _ _ a ns hl _ hS => ⟨a, ns, rfl, hS, hl, fun _ => rfl⟩) fun _ _ _ _ _ z => z
end Ty
open PySem PySem.W PyProof.Rows in
set_option maxRecDepth 100000 in
set_option maxHeartbeats 0 in
theorem PySem.Challenge.cw_typedcurve_k01_what_any_value_is_holds : PySem.Challenge.rw_typedcurve_k01_what_any_value_is.Holds := by
  w_on; o_law; k_head; (case hw => w_witness2)
  k_fill
  refine Ty.walk_law (l := PySem.Challenge.rw_typedcurve_k01_what_any_value_is) rfl rfl (fun w h Y => PySem.W.kIn_of Y) ?F
  case F =>
    intro w mg fa h KX G hmg
    refine' Ty.all_mk KX G hmg ?n_is_list ?l_is_list ?c_is_list ?k_is_list ?n_is_integer ?l_is_integer ?c_is_integer ?k_is_integer ?n_is_within ?l_is_within ?c_is_within ?k_is_within ?n_is_number ?l_is_number ?c_is_number ?k_is_number ?n_is_point ?l_is_point ?c_is_point ?k_is_point ?n_is_turn ?l_is_turn ?c_is_turn ?k_is_turn ?n_parts ?l_parts ?c_parts ?k_parts ?n_law_sack ?l_law_sack ?c_law_sack ?k_law_sack ?n_law_reach ?l_law_reach ?c_law_reach ?k_law_reach ?n_law_pick ?l_law_pick ?c_law_pick ?k_law_pick ?n_law_has_form ?l_law_has_form ?c_law_has_form ?k_law_has_form ?n_law_value ?l_law_value ?c_law_value ?k_law_value ?n_law_halves ?l_law_halves ?c_law_halves ?k_law_halves ?n_law_is_round ?l_law_is_round ?c_law_is_round ?k_law_is_round ?n_law_fraction ?l_law_fraction ?c_law_fraction ?k_law_fraction ?n_law_turn ?l_law_turn ?c_law_turn ?k_law_turn ?n_law_is_pair ?l_law_is_pair ?c_law_is_pair ?k_law_is_pair ?n_law ?l_law ?c_law ?k_law ?g_gcd ?z_abs ?z_bool ?z_int ?z_isinstance ?z_len ?z_list ?z_min ?z_range ?z_repr ?z_tuple
    (case n_is_list => k_is)
    (case l_is_list => k_is)
    (case c_is_list => k_is)
    (case k_is_list => k_is)
    (case n_is_integer => k_is)
    (case l_is_integer => k_is)
    (case c_is_integer => k_is)
    (case k_is_integer => k_is)
    (case n_is_within => k_is)
    (case l_is_within => k_is)
    (case c_is_within => k_is)
    (case k_is_within => k_is)
    (case n_is_number => k_is)
    (case l_is_number => k_is)
    (case c_is_number => k_is)
    (case k_is_number => k_is)
    (case n_is_point => k_is)
    (case l_is_point => k_is)
    (case c_is_point => k_is)
    (case k_is_point => k_is)
    (case n_is_turn => k_is)
    (case l_is_turn => k_is)
    (case c_is_turn => k_is)
    (case k_is_turn => k_is)
    (case n_parts => k_is)
    (case l_parts => k_is)
    (case c_parts => k_is)
    (case k_parts => k_is)
    (case n_law_sack => k_is)
    (case l_law_sack => k_is)
    (case c_law_sack => k_is)
    (case k_law_sack => k_is)
    (case n_law_reach => k_is)
    (case l_law_reach => k_is)
    (case c_law_reach => k_is)
    (case k_law_reach => k_is)
    (case n_law_pick => k_is)
    (case l_law_pick => k_is)
    (case c_law_pick => k_is)
    (case k_law_pick => k_is)
    (case n_law_has_form => k_is)
    (case l_law_has_form => k_is)
    (case c_law_has_form => k_is)
    (case k_law_has_form => k_is)
    (case n_law_value => k_is)
    (case l_law_value => k_is)
    (case c_law_value => k_is)
    (case k_law_value => k_is)
    (case n_law_halves => k_is)
    (case l_law_halves => k_is)
    (case c_law_halves => k_is)
    (case k_law_halves => k_is)
    (case n_law_is_round => k_is)
    (case l_law_is_round => k_is)
    (case c_law_is_round => k_is)
    (case k_law_is_round => k_is)
    (case n_law_fraction => k_is)
    (case l_law_fraction => k_is)
    (case c_law_fraction => k_is)
    (case k_law_fraction => k_is)
    (case n_law_turn => k_is)
    (case l_law_turn => k_is)
    (case c_law_turn => k_is)
    (case k_law_turn => k_is)
    (case n_law_is_pair => k_is)
    (case l_law_is_pair => k_is)
    (case c_law_is_pair => k_is)
    (case k_law_is_pair => k_is)
    (case n_law => k_is)
    (case l_law => k_is)
    (case c_law => k_is)
    (case k_law => k_is)
    (case g_gcd => k_is)
    (case z_abs => k_is)
    (case z_bool => k_is)
    (case z_int => k_is)
    (case z_isinstance => k_is)
    (case z_len => k_is)
    (case z_list => k_is)
    (case z_min => k_is)
    (case z_range => k_is)
    (case z_repr => k_is)
    (case z_tuple => k_is)

