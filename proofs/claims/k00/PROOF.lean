import PyProof.Rows.All
import Wide.All
import OpenK.AllK
import Wide.FinOn
import HandS.ForMost
import HandS.Zip
import HandS.ExcInit
import HandS.ExcValue
import HandS.ExcField
import HandS.ExcIs
import HandS.ClsMeth
import KE.KExcIs
import KE.KExcSuper
import HandS.Codes
import PySem.Challenge.RW_toldmeans_k00_errors
import KE.RegKSuper
set_option Elab.async false
set_option linter.all false
set_option maxRecDepth 100000
set_option maxHeartbeats 4000000
/-! Rules of our own over the hand layer: errors as values, repr of data, lists that stand apart from the table of modules. -/
namespace Kz
open PySem PySem.Spec PyProof.Rows L2

/-! ### an own error class, called for a value -/
section
variable {X : Cx} {e : Expr} {es : List Expr} {ta : TA} {p pos p1 p2 : Pos}

/-- Base.__init__(self, ..) where Base is an own class that has it from ValueError -/
theorem pe_baseInit {x : Str} {B : Addr} {mc : Value} {pl : Sem Bool} (hg : Gl X x) (hm : X.mg x = some (.ref B)) (rd : ClX.CRead X.K B mc)
    (fnd : PySem.W.findCls X.K (.ref B) mc "__init__" = some (.val (.builtin "ValueError.__init__"))) (ha : PA X (e :: es) ta)
    (shape : eval (.Call (.Attribute (.Name x p1) "__init__" p2) (e :: es) [] pos) X.env = (do
      let base ← eval (.Name x p1) X.env
      standAt p2.atName
      let (fn, before) ← holding [base] (getMethod base "__init__" pl)
      callWith pos fn before (backTo pos (starEach (e :: es) X.env)) (backToKw pos (keywordEach [] X.env))) := by rfl)
    (hdb : (x == ("__debug__" : Str)) = false := by decide)
    (st : starEach (e :: es) X.env = (false, eval e X.env) :: starEach es X.env := by rfl)
    (nost : (backTo pos (starEach es X.env)).any (·.1) = false := by rfl) :
    PE X (.Call (.Attribute (.Name x p1) "__init__" p2) (e :: es) [] pos) (tVeI X.K ta) := by
  constructor
  intro pins s σ H Q I h
  refine PySem.W.methodCall_KW (pl := pl) (ld_glob I hg hm ?_ hdb) shape
  refine PySem.W.method_cls I.kIn rd.ga (PySem.W.cls_value I.kIn rd.rd fnd (by rfl) ?_)
  show wpAny _ _ (callWith pos (Value.builtin "ValueError.__init__") [] _ _) _ _ _
  refine PyProof.Rows.callWith_method1 ?_ st nost
  refine thn (ha.run pos pins _ σ H _ (I.tok _) h) ?_
  rintro us s1 ⟨vs, H1, I1, r1, a, C, ws, rfl, hl, T, ea, q⟩
  cases r1 with
  | @cons _ u0 _ ur ra rw' =>
    cases (show u0 = Value.ref a from ra)
    have few : ur.length ≤ sizeLine := by
      have := Paired.length rw'
      rw [sizeLine_eq]
      omega
    exact oinit_ok T I1 ea few fun s' J => ⟨.non, H1, J, rfl, q⟩

/-- C(e, ..) as a value: the new error object stands at a; C's own __init__ keeps sp -/
def tErr (C : Addr) (sp : Sp) (ta : TA) : TE := fun σ H Q => ta σ H fun vs H1 => vs.length ≤ 1000 ∧ ∀ a, H1 a = none →
  sp (.ref a :: vs) (upd H1 a (exo a C none)) (fun v H2 => v = .non ∧ Q (.ref a) H2) fun _ _ _ => False
theorem pe_err {CX : CXT} {x : Str} {C fI : Addr} {k : Nat} {fd : FuncData} {ps : List Str} {sp : Sp} (T : OexC X.K C)
    (iC : PySem.W.findIn X.K (.ref C) "__init__" = some (some (.ref fI))) (tI : PySem.W.typeIn X.K (.ref fI) = some (.type "function"))
    (F1 : FnOk X.prog X.w X.K X.mg X.base CX k fI fd ps sp) (hr : Room (k + 1) X.A) (hb : Binds X.K fd ps []) (hx : Passes CX X fun _ _ _ => False)
    (hg : Gl X x) (hm : X.mg x = some (.ref C)) (ha : PA X (e :: es) ta) (hdb : (x == ("__debug__" : Str)) = false := by decide)
    (st : starEach (e :: es) X.env = (false, eval e X.env) :: starEach es X.env := by rfl)
    (nost : (backTo pos (starEach es X.env)).any (·.1) = false := by rfl) :
    PE X (.Call (.Name x p) (e :: es) [] pos) (tErr C sp ta) := by
  constructor
  intro pins s σ H Q I h
  obtain ⟨nm, q, N, bs, bm, sn, sub, ab, col, dd, k0, k1, k2, k3, k5, hC, hbm⟩ := T.cls
  refine wpAny_Call_Name_kw (ld_glob I hg hm ?_ hdb)
  refine PySem.W.callWith_K (h₀ := X.base) I.ok.mod.kin T.kC ?_ st nost
  refine thn (ha.run pos pins s σ H _ I h) ?_
  rintro us s1 ⟨vs, H1, I1, r1, hz, q1⟩
  refine ⟨I1.kIn, ?_⟩
  show wpAny _ _ (call (.ref C) us) _ _ _
  obtain ⟨hp, g, dr, tk, os⟩ := s1
  have fresh : H1 (hp.objs.size + 1) = none := I1.hok.fresh (Nat.le_succ _)
  have want := q1 (hp.objs.size + 1) fresh
  have old : ∀ b o, hp.get? b = some o → ((hp.push (PySem.W.kdv_tup us)).push (PySem.HandSPX.excO C hp.objs.size)).get? b = some o :=
    fun b o z => Heap.get?_push_of_some _ (Heap.get?_push_of_some _ z)
  have there : ((hp.push (PySem.W.kdv_tup us)).push (PySem.HandSPX.excO C hp.objs.size)).get? (hp.objs.size + 1) = some (PySem.HandSPX.excO C hp.objs.size) := by heap_get
  have I2 : Inv X pins σ (upd H1 (hp.objs.size + 1) (exo (hp.objs.size + 1) C none)) ⟨(hp.push (PySem.W.kdv_tup us)).push (PySem.HandSPX.excO C hp.objs.size), g, dr, tk, os⟩ :=
    I1.laid (t' := tk) (o := exo (hp.objs.size + 1) C none) old (Nat.le_succ _) (exo_ok there)
  have r2 : Vals (V.ref (hp.objs.size + 1) :: vs) (Value.ref (hp.objs.size + 1) :: us) := .cons rfl r1
  have len2 : (Value.ref (hp.objs.size + 1) :: us).length = ps.length := by
    rw [← r2.length]
    exact F1.len _ _ _ _ want
  have few : us.length ≤ sizeLine := by
    have := Paired.length r1
    rw [sizeLine_eq]
    omega
  have bnd := hb _ (Value.ref (hp.objs.size + 1) :: us) I2.kIn (by rw [List.append_nil]; exact len2)
  rw [List.append_nil] at bnd
  refine wpAny_call (PySem.HandSPX.call_own F.excBase_ValueError (fun Y => PySem.HandSPX.refsVE_contains Y bm hbm) (I1.kIn _ _ hC) (PySem.W.looks_findIn I1.kIn iC) (fun self => PySem.W.bind_fn I1.kIn self tI) few ?_)
  refine codeAny_mono (F1.run _ X.stack _ _ ⟨Value.ref (hp.objs.size + 1) :: us, []⟩ _ _ _ (fun _ _ _ => False) (hr.make C us []) (I2.env0.make C us []) bnd r2 want) ?_
  intro r s' hq'
  rcases r with er | fl
  · exact hx pins σ _ _ er s' I2 hq'
  · rcases fl with _ | _ | _ | u
    all_goals try exact False.elim hq'
    obtain ⟨v, H2, J, rv, ev, q2⟩ := I2.after hq'
    subst ev
    have out : (V.ref (hp.objs.size + 1)) = (V.ref (hp.objs.size + 1)) := rfl
    exact ⟨rv, ⟨V.ref (hp.objs.size + 1), H2, J, rfl, q2⟩⟩

/-- C() where neither C nor its bases have an own __init__ -/
theorem pe_err0 {C : Addr} {bmB : List Value} {B newId initId : String} {x : Str} (F : ExcBaseFacts B newId initId bmB) (q : PySem.W.excIn X.K C bmB newId = true)
    (gC : X.mg x = some (.ref C)) (kC : PySem.W.keepIn X.K (.ref C) = true) (hg : Gl X x) (hdb : (x == ("__debug__" : Str)) = false := by decide) :
    PE X (.Call (.Name x p) [] [] pos) (fun _ H Q => ∀ a, H a = none → Q (.ref a) (upd H a (exo a C none))) := by
  constructor
  intro pins s σ H Q I h
  refine wpAny_Call_Name_kw (ld_glob I hg gC ?_ hdb)
  refine PySem.W.callWith_K0 I.kIn kC ?_
  show wpAny _ _ (call (.ref C) []) _ _ _
  obtain ⟨bm, N, nm, qn, bs, hdct, sn, sub, ab, col, dd, k0, k1, k2, k3, k5, mN, hC, hN, hni, T⟩ := exc_obj I.kIn q
  obtain ⟨hp, g, dr, tk, os⟩ := s
  refine wpAny_call_exc_subT F T hC hN hni (fun h' a hm => ?_) (Nat.zero_le _)
  have hn : H a = none := I.hok.gone hm.new
  obtain ⟨t, ht, _, _⟩ := hm.there
  exact ⟨.ref a, upd H a (exo a C none), I.laidN hm.keeps hm.new hn (exo_ok ht), rfl, h a hn⟩

/-- e.f, e an error object that has its dict -/
def tErrF (K : PySem.W.Frag) (f : Str) (te : TE) : TE := fun σ H Q => te σ H fun x H1 => ∃ (a C dd : Addr) (fs : List (Str × V)) (v : V), x = .ref a ∧ XfC K C ∧
  PySem.W.findIn K (.ref C) f = some none ∧ H1 a = some (exo a C (some dd)) ∧ H1 dd = some (exd dd fs) ∧ fs.lookup f = some v ∧ Q v H1
theorem pe_errF {n : Str} {te : TE} (he : PE X e te) (hb : attributeBase e n X.env (eval e X.env) = eval e X.env := by rfl) : PE X (.Attribute e n pos) (tErrF X.K n te) := by
  constructor
  intro pins s σ H Q I h
  refine attr_of hb (thn (he.run pins s σ H _ I h) ?_)
  rintro u s1 ⟨x, H1, I1, rx, a, C, dd, fs, v, rfl, T, hno, ea, ed, l, q⟩
  cases (show u = Value.ref a from rx)
  obtain ⟨t1, ho⟩ := exo_at I1.hok ea
  obtain ⟨mA, hns, rel⟩ := exd_at I1.hok ed
  obtain ⟨od, hod, hl⟩ := lookIn_ns hns
  obtain ⟨u', hu, ru⟩ := RelO.some_of (v := v) (o := mA n) (by rw [← l]; exact rel n)
  have J : PySem.W.InstAt s1.heap a { cls := .ref C, dict := some dd, data := .fields #[.ref t1, .none, .none, .none, .bool false, .none] } C (some od) := ⟨ho, rfl, rfl, hod⟩
  refine HandSPX.exc_get I1.kIn J T.ga T.gg T.exC (PySem.W.findObj_own T.hdC hno rfl ?_) (handed_of ru) ⟨v, H1, I1.tok _, ru, q⟩
  rw [hl, hu]

/-- isinstance(e, c), e an error object, c a class -/
def rIsErr (K : PySem.W.Frag) : List V → Hp → VK → Prop := fun xs H Q => ∃ (a D : Addr) (d : Option Addr) (c : V) (cv : Value) (b : Bool), xs = [.ref a, c] ∧ ExcC K D ∧ H a = some (exo a D d) ∧
  (∀ dd, d = some dd → ∃ fs, H dd = some (exd dd fs)) ∧ (∀ u, RelV c u → u = cv) ∧ PySem.W.kitOne K (.ref D) cv = some b ∧ Q (.bl b) H
theorem call_isErr : CallR X (.builtin "isinstance") (rIsErr X.K) := by
  intro pins s σ H xs us Q I r h
  obtain ⟨a, D, d, c, cv, b, rfl, T, ea, ed, hcv, ek, q⟩ := h
  obtain ⟨u, v, rfl, ru, rv⟩ := vals2 r
  cases (show u = Value.ref a from ru)
  cases hcv v rv
  obtain ⟨t1, ho⟩ := exo_at I.hok ea
  have go : ∀ od, PySem.W.InstAt s.heap a { cls := .ref D, dict := d, data := .fields #[.ref t1, .none, .none, .none, .bool false, .none] } D od →
      wpAny (model X.prog X.w) X.A (call (.builtin "isinstance") [.ref a, cv]) (EP X pins σ Q) X.xe s := fun od J => by
    have hcl : (PySem.W.clsIn X.K D).isSome = true := by
      obtain ⟨cd, hc, _⟩ := PySem.W.any_some T.hd
      rw [hc]
      rfl
    exact PySem.W.kia_one (PySem.W.kitx_exc hcl T.hg T.hk T.hs T.ha T.hn T.ht T.hm) I.kIn J ek (fun z => nomatch z) fun tk => ⟨.bl b, H, I.tok tk, rfl, q⟩
  cases d with
  | none => exact go none ⟨ho, rfl, rfl, trivial⟩
  | some dd =>
    obtain ⟨fs, e2⟩ := ed dd rfl
    obtain ⟨mA, hns, _⟩ := exd_at I.hok e2
    obtain ⟨od, hod, _⟩ := lookIn_ns hns
    exact go (some od) ⟨ho, rfl, rfl, hod⟩
end

/-! ### new lists that are not the table of modules -/
section
variable {X : Cx} {es : List Expr} {t : TA} {pos : Pos}
def tLstN (t : TA) : TE := fun σ H Q => t σ H fun xs H1 => xs.length ≤ sizeLine ∧ ∀ p, H1 p = none → p ≠ sysModules → Q (.ref p) (upd H1 p (.lst xs))
theorem pe_lstN (h : PA X es t) : PE X (.List es pos) (tLstN t) := by
  constructor
  intro pins s σ H Q I hq
  refine wpAny_List_spliced (thn (h.run pos pins s σ H _ I hq) ?_)
  rintro us s1 ⟨xs, H1, I1, r, z, q⟩
  refine ⟨by rw [← r.length]; exact z, ?_⟩
  have free : H1 s1.heap.objs.size = none := I1.hok.fresh (Nat.le_refl _)
  have ob : ObjOk X.prog X.w (upd H1 s1.heap.objs.size (.lst xs)) (s1.heap.push { cls := .type "list", data := .seq us.toArray }) s1.heap.objs.size (.lst xs) :=
    ⟨z, us, 0, r, Heap.get?_push_size _ rfl⟩
  exact ⟨.ref s1.heap.objs.size, _, I1.laid (t' := s1.toks) (fun b u e => Heap.get?_push_of_some _ e) (Nat.le_refl _) ob, rfl, q _ free (Nat.ne_of_gt I1.big)⟩
end

/-! ### repr of data: None, bools, ints, texts, lists, tuples, dicts by int and text keys -/
def keyD : Key → PyData
  | .inl i => .int i
  | .inr x => .str x
mutual
inductive Dq (K : PySem.W.Frag) (H : Hp) : V → PyData → Prop
  | non : Dq K H .non .none
  | bl (b : Bool) : Dq K H (.bl b) (.bool b)
  | int (i : Int) : Dq K H (.int i) (.int i)
  | str (x : Str) : Dq K H (.str x) (.str x)
  | lst {a : Addr} {xs : List V} {ds : List PyData} : H a = some (.lst xs) → a ≠ sysModules → DqAll K H xs ds → Dq K H (.ref a) (.list ds)
  | tup {a : Addr} {xs : List V} {ds : List PyData} : SqT K H a xs → DqAll K H xs ds → Dq K H (.ref a) (.tuple ds)
  | dic {a : Addr} {kvs : List (Key × V)} {ds : List PyData} : H a = some (.dK kvs) → DqAll K H (kvs.map (·.2)) ds → Dq K H (.ref a) (.dict ((kvs.map fun kv => keyD kv.1).zip ds))
inductive DqAll (K : PySem.W.Frag) (H : Hp) : List V → List PyData → Prop
  | nil : DqAll K H [] []
  | cons {v : V} {vs : List V} {d : PyData} {ds : List PyData} : Dq K H v d → DqAll K H vs ds → DqAll K H (v :: vs) (d :: ds)
end
theorem DqAll.length {K : PySem.W.Frag} {H : Hp} : ∀ {vs : List V} {ds : List PyData}, DqAll K H vs ds → vs.length = ds.length
  | _, _, .nil => rfl
  | _, _, .cons _ t => congrArg (· + 1) t.length
section
variable {X : Cx} {pins : List (Addr × Obj)} {σ : L2.St} {H : Hp} {s : Shared}
theorem reads_keys {P : Program} {w : World} {h : Heap} : ∀ {es : List DictEntry} {vs : List (Key × Value)}, PySem.Pairs (mixKind P w) es vs → ReadsAll h (es.map (·.key)) (vs.map fun kv => keyD kv.1) []
  | _, _, .nil => .nil
  | _, _, .cons (e := e) (kv := kv) hk hv t => by
    have rest := reads_keys (h := h) t
    have one : Reads h e.key (keyD kv.1) [] := by
      rcases keyIs_shape (show keyIs kv.1 e.key = true from hk) with ⟨i, t, e1, e2⟩ | ⟨x, t, e1, e2⟩
      · rw [e1, e2]
        exact .int i t
      · rw [e1, e2]
        exact .str x t
    exact .cons one rest
theorem vals_entries {P : Program} {w : World} : ∀ {es : List DictEntry} {vs : List (Key × Value)}, PySem.Pairs (mixKind P w) es vs → es.map (·.val) = vs.map (·.2)
  | _, _, .nil => rfl
  | _, _, .cons hk hv t => by
    rw [List.map_cons, List.map_cons, vals_entries t, hv]
theorem kv_vals : ∀ {kvs : List (Key × V)} {vs : List (Key × Value)}, KV kvs vs → Vals (kvs.map (·.2)) (vs.map (·.2))
  | _, _, .nil => .nil
  | _, _, .cons h t => .cons h.2 (kv_vals t)
theorem map_fst_zip' : ∀ {α β : Type} (l : List α) (m : List β), l.length = m.length → (l.zip m).map (·.1) = l
  | _, _, [], _, _ => rfl
  | _, _, a :: l, [], h => by cases h
  | _, _, a :: l, b :: m, h => by
    rw [List.zip_cons_cons, List.map_cons, map_fst_zip' l m (Nat.succ.inj h)]
theorem map_snd_zip' : ∀ {α β : Type} (l : List α) (m : List β), l.length = m.length → (l.zip m).map (·.2) = m
  | _, _, [], [], _ => rfl
  | _, _, [], _ :: _, h => by cases h
  | _, _, a :: l, [], h => by cases h
  | _, _, a :: l, b :: m, h => by
    rw [List.zip_cons_cons, List.map_cons, map_snd_zip' l m (Nat.succ.inj h)]
mutual
theorem Dq.reads (I : Inv X pins σ H s) : ∀ {v : V} {d : PyData} {u : Value}, Dq X.K H v d → RelV v u → ∃ as, Reads s.heap u d as ∧ sysModules ∉ as
  | _, _, _, .non, r => by
    cases r
    exact ⟨_, .none, by simp⟩
  | _, _, _, .bl b, r => by
    cases r
    exact ⟨_, .bool b, by simp⟩
  | _, _, _, .int i, r => by
    obtain ⟨t, rfl⟩ := r
    exact ⟨_, .int i t, by simp⟩
  | _, _, _, .str x, r => by
    obtain ⟨t, rfl⟩ := r
    exact ⟨_, .str x t, by simp⟩
  | _, _, _, .lst (a := a) hs hne ha, r => by
    cases r
    obtain ⟨_, its, n, rv, ho⟩ := (show ObjOk X.prog X.w H s.heap a (.lst _) from I.hok a _ hs)
    obtain ⟨as, hr, hn⟩ := DqAll.reads I ha rv
    refine ⟨_, .list ho rfl rfl hr, ?_⟩
    intro m
    rcases List.mem_cons.mp m with m | m
    · exact hne m.symm
    · exact hn m
  | _, _, _, .tup hs ha, r => by
    cases r
    obtain ⟨its, rv, ⟨o, ho, hc, n, hd⟩, _⟩ := I.tuple hs
    obtain ⟨as, hr, hn⟩ := DqAll.reads I ha rv
    exact ⟨_, .tuple ho hc hd hr, hn⟩
  | _, _, _, .dic (a := a) (kvs := kvs) (ds := ds) hs ha, r => by
    cases r
    obtain ⟨_, hne, vs, rel, o, es, ep, ho, hx, hd, _, hp, _⟩ := dk_of I.hok hs
    obtain ⟨bs, hr, hn⟩ := DqAll.reads I ha (kv_vals rel)
    have lk : (kvs.map fun kv => keyD kv.1).length = ds.length := by
      rw [List.length_map, ← ha.length, List.length_map]
    have ek : (vs.map fun kv => keyD kv.1) = kvs.map fun kv => keyD kv.1 := by
      have := rel.keys
      have c := congrArg (List.map keyD) this
      rw [List.map_map, List.map_map] at c
      exact c.symm
    have k1 : ReadsAll s.heap (es.toList.map (·.key)) (((kvs.map fun kv => keyD kv.1).zip ds).map (·.1)) [] := by
      rw [map_fst_zip' _ _ lk, ← ek]
      exact reads_keys hp
    have k2 : ReadsAll s.heap (es.toList.map (·.val)) (((kvs.map fun kv => keyD kv.1).zip ds).map (·.2)) bs := by
      rw [map_snd_zip' _ _ lk, vals_entries hp]
      exact hr
    refine ⟨_, .dict ho hx.1 hd k1 k2, ?_⟩
    intro m
    rcases List.mem_append.mp m with m | m
    · rcases List.mem_cons.mp m with m | m
      · rw [← m] at hne
        simp at hne
      · cases m
    · exact hn m
theorem DqAll.reads (I : Inv X pins σ H s) : ∀ {vs : List V} {ds : List PyData} {us : List Value}, DqAll X.K H vs ds → Vals vs us → ∃ as, ReadsAll s.heap us ds as ∧ sysModules ∉ as
  | _, _, _, .nil, r => by
    cases r
    exact ⟨_, .nil, by simp⟩
  | _, _, _, .cons h1 h2, r => by
    cases r with
    | cons r1 r2 =>
      obtain ⟨as, q1, n1⟩ := Dq.reads I h1 r1
      obtain ⟨bs, q2, n2⟩ := DqAll.reads I h2 r2
      exact ⟨_, .cons q1 q2, fun m => (List.mem_append.mp m).elim n1 n2⟩
end
end
/-- repr(x), x data at an address -/
def rRepr (K : PySem.W.Frag) : List V → Hp → VK → Prop := fun xs H Q => ∃ (a : Addr) (d : PyData), xs = [.ref a] ∧ Dq K H (.ref a) d ∧ d.showable = true ∧ d.depth ≤ 60 ∧ d.shown.length ≤ sizeLine ∧ Q (.str d.shown) H
theorem call_repr {X : Cx} (hg : X.A.guards = some []) (hu : X.A.units + 64 < cLine) : CallR X (.builtin "repr") (rRepr X.K) := by
  intro pins s σ H xs us Q I r h
  obtain ⟨a, d, rfl, hd, hs, hdp, hz, q⟩ := h
  obtain ⟨u, rfl, ru⟩ := vals1 r
  cases (show u = Value.ref a from ru)
  obtain ⟨as, rd, hn⟩ := Dq.reads I hd rfl
  refine repr_of_reads' rd hs (fun _ => hn) hg (by omega) (fun _ _ e => e) (fun h' t tk hk => ?_) hz
  exact ⟨.str d.shown, H, I.kept (t' := tk) hk, ⟨t, rfl⟩, q⟩
end Kz
set_option linter.all false
set_option maxRecDepth 100000
set_option maxHeartbeats 4000000
/-! An own error's `__init__` that begins with super().__init__(text). -/
namespace Kz
open PySem PySem.Spec PyProof.Rows L2
abbrev supEnv (qual : Str) (scope : Scope) (L f : Addr) (cd : Value) (cc : Addr) : Env := PySem.W.envX qual scope L f cd [("__class__", cc)]
def cxSup (P : Program) (w : World) (K : PySem.W.Frag) (mg : Str → Option Value) (base : Heap) (N : List Str) (qual : Str) (scope : Scope) (f : Addr) (cd : Value) (cc : Addr) (A : Around) (outer : List Env) (s : Shared) (H : Hp) (E : XK) : Cx where
  prog := P
  w := w
  K := K
  mg := mg
  base := base
  A := A.deeper (supEnv qual scope s.heap.objs.size f cd cc)
  N := N
  s_0 := s
  H_0 := H
  env := supEnv qual scope s.heap.objs.size f cd cc
  outer := outer
  stack := supEnv qual scope s.heap.objs.size f cd cc :: outer
  ex := []
  calm := true
  fn := fun _ => false
  pn := []
  xe := fun e s' => wpAny (model P w) (A.deeper (supEnv qual scope s.heap.objs.size f cd cc)) (leaving (supEnv qual scope s.heap.objs.size f cd cc) e) (fun _ s'' => CX0 outer H s E e s'') (fun e' s'' => CX0 outer H s E e' s'') s'
/-- the scope of such a def -/
structure SupScope (N P : List Str) (sc : Scope) : Prop where
  kind : sc.kind = .function
  co : sc.isCoroutine = false
  gen : sc.isGenerator = false
  nd : N.Nodup
  pre : N.take P.length = P
  par : ∀ x ∈ P, sc.names.lookup x = some .local
  nocell : ∀ y ∈ sc.names, y.2 ≠ .cell
  free : ∀ y ∈ sc.names, y.2 = .free → y.1 = ("__class__" : Str)
  sup : sc.names.lookup ("super" : Str) = some .globalImplicit
  cls : sc.names.lookup ("__class__" : Str) = some .free
theorem lookup_out {x : Str} : ∀ {l : List (Str × Value)}, (∀ v, (x, v) ∉ l) → l.lookup x = none
  | [], _ => rfl
  | (n, v) :: r, h => by
    have ne : (x == n) = false := by
      cases e : x == n with
      | false => rfl
      | true =>
        cases beq_iff_eq.mp e
        exact absurd List.mem_cons_self (h v)
    show (match x == n with | true => some v | false => r.lookup x) = none
    rw [ne]
    exact lookup_out fun u hu => h u (List.mem_cons_of_mem _ hu)
theorem rev_lookup {x : Str} {v : Value} : ∀ {ps : List Str} {us : List Value} {i : Nat}, ps.Nodup → ps[i]? = some x → us[i]? = some v → ((ps.zip us).reverse).lookup x = some v
  | [], _, _, _, h, _ => by simp at h
  | _ :: _, [], _, _, _, h => by simp at h
  | p :: ps, w :: us, 0, nd, h1, h2 => by
    simp at h1 h2
    subst h1
    subst h2
    show ((p, w) :: ps.zip us).reverse.lookup p = some w
    have no : ((ps.zip us).reverse).lookup p = none := lookup_out fun v hv => (List.nodup_cons.mp nd).1 (List.of_mem_zip (List.mem_reverse.mp hv)).1
    rw [List.reverse_cons, List.lookup_append, no]
    simp [List.lookup]
  | p :: ps, w :: us, i + 1, nd, h1, h2 => by
    show ((p, w) :: ps.zip us).reverse.lookup x = some v
    rw [List.reverse_cons, List.lookup_append, rev_lookup (i := i) (List.nodup_cons.mp nd).2 (by simpa using h1) (by simpa using h2)]
    rfl
theorem inv_startS {P : Program} {w : World} {K : PySem.W.Frag} {mg : Str → Option Value} {base : Heap} {N ps : List Str} {qual : Str} {scope : Scope} {f cc : Addr} {cd : Value} {A : Around} {outer : List Env} {s : Shared} {H : Hp} {E : XK} {us : List Value} {vs : List V} {h₁ : Heap} {tk : Nat} {D : Value} {ocl : Obj}
    (S : SupScope N ps scope) (hd : A.handled = none) (e0 : Env0 P w K mg base A outer s H) (hl : vs.length = ps.length) (r : Vals vs us)
    (hc : K.lookup cc = some ocl) (hcd : ocl.data = .cell (some D))
    (hns : h₁.Ns s.heap.objs.size (fun x => (ps.zip us).reverse.lookup x)) (hk : ∀ b o, s.heap.get? b = some o → h₁.get? b = some o) :
    Inv (cxSup P w K mg base N qual scope f cd cc A outer s H E) [] (start N vs) H { s with heap := h₁, toks := tk } := by
  have hpl : ps.length ≤ N.length := by have := congrArg List.length S.pre; rw [List.length_take] at this; omega
  have noA : ∀ b : Addr, b ∉ (cxSup P w K mg base N qual scope f cd cc A outer s H E).ex := fun b z => absurd (show b ∈ ([] : List Addr) from z) (by simp)
  have only : ∀ {x : Str} {c : Addr}, List.lookup x [(("__class__" : Str), cc)] = some c → x = "__class__" ∧ c = cc := fun {x c} z => by
    have m := PySem.mem_of_lookup z
    rw [List.mem_singleton] at m
    exact ⟨congrArg (·.1) m, congrArg (·.2) m⟩
  have bc := e0.bs cc _ (e0.mod.kin cc _ hc)
  refine ⟨⟨e0.mod, S.kind, rfl, rfl, Nat.le_refl _, fun y z c h1 h2 => ?_, fun y hy => ?_, fun y c h => ?_, fun _ => hd, Around.frames_deeper e0.frames, .inr ⟨rfl, rfl⟩, fun b z => absurd z (noA b), e0.bs, e0.bsz, fun b _ _ => noA b, fun b z => absurd z (noA b), e0.funs, e0.frf⟩,
    rfl, e0.bare, Un.kept hk, ⟨_, hns, fun i y v h1 h2 h3 => ?_⟩, fun y c h => ⟨some D, ?_⟩, e0.hok.fresh (Nat.le_refl _), fun y c h => ?_, fun p hp => absurd (show p ∈ ([] : List (Addr × Obj)) from hp) (by simp), e0.hok.kept hk, ?_⟩
  · exact (only h1).1.trans (only h2).1.symm
  · have hy : scope.names.lookup y = some .cell ∨ scope.names.lookup y = some .free := hy
    rcases hy with hy | hy
    · exact absurd rfl (S.nocell _ (PySem.mem_of_lookup hy))
    · have e := S.free _ (PySem.mem_of_lookup hy) rfl
      exact ⟨cc, by rw [show y = "__class__" from e]; rfl⟩
  · cases h
  · have hi : i < vs.length := by
      unfold L2.start at h2
      by_cases hi : i < vs.length
      · exact hi
      · rw [List.getElem?_append_right (by simpa using hi)] at h2
        rw [List.getElem?_replicate] at h2
        split at h2 <;> cases h2
    have ha : vs[i]? = some v := by
      unfold L2.start at h2
      rw [List.getElem?_append_left (by simpa using hi), List.getElem?_map] at h2
      cases e : vs[i]? with
      | none => rw [e] at h2; cases h2
      | some a => rw [e] at h2; cases h2; rfl
    obtain ⟨u, hu, rv⟩ := r.get ha
    have hp : ps[i]? = some y := by
      rw [← S.pre, List.getElem?_take_of_lt (by omega)]; exact h1
    have ndP : ps.Nodup := by rw [← S.pre]; exact S.nd.sublist (List.take_sublist _ _)
    exact ⟨u, rv, .inl ⟨S.par y (List.mem_of_getElem? hp), rev_lookup ndP hp hu⟩⟩
  · rw [(only h).2]
    exact ⟨_, hk _ _ bc.1, hcd⟩
  · rw [(only h).2]
    exact bc.2
  · unfold L2.start
    show _ = N.length
    rw [List.length_append, List.length_map, List.length_replicate]
    omega
/-- such an `__init__` as it stands: of the class at C -/
structure FunS (K : PySem.W.Frag) (P : Program) (qual : Str) (st : Stmt) (C f : Addr) (fd : FuncData) : Prop where
  ex : ∃ (oc : Value) (od : Option Addr) (kV doc pm : Value) (an : Option Addr) (cda cc : Addr) (ct : Value) (osl : Array (Option Value)),
    fd = PySem.W.fnX "__init__" qual (defArgs st) (defBody st) (defScope st) [("__class__", cc)] .none kV doc pm an (.ref cda) ct ∧ K.lookup f = some ⟨oc, od, .func fd, osl⟩ ∧ PySem.W.codeIn K (.ref cda) qual = true ∧
    (∃ cl cld csl, K.lookup cc = some ⟨cl, cld, .cell (some (.ref C)), csl⟩) ∧
    (∃ ccl cdd vs ccs file tf, K.lookup cda = some ⟨ccl, cdd, .fields vs, ccs⟩ ∧ (vs[2]? : Option Value) = some (.str file tf) ∧ ((P.main.file : Str) == file) = true)
  sup : ∀ {h : Heap} {mg : Str → Option Value}, K.In h → h.Ns mainGlobals mg → mg "super" = none
  top : (P.main.scope.names.lookup ("super" : Str)).isSome = false
  opq : PySem.W.nsIn K cStatics "thirdparty.any" = some none
  cls : ∃ cd, PySem.W.clsIn K C = some cd
  own : PySem.W.mroIn K C (.ref C) = some true
  nxt : PySem.W.ks_superIn K C C "__init__" = some (some (.builtin "ValueError.__init__"))
  isV : PySem.W.subIn K (.ref C) (.type "ValueError") = some true
section
variable {P : Program} {w : World} {K : PySem.W.Frag} {mg : Str → Option Value} {base : Heap}
/-- the method-wrapper is called -/
theorem mw_call {X : Cx} {pins : List (Addr × Obj)} {σ : L2.St} {H : Hp} {s : Shared} {C a u : Addr} {us : List Value} {Q : Value → Shared → Prop} {E : Value → Shared → Prop} (T : OexC X.K C) (I : Inv X pins σ H s) (e : H a = some (exo a C none)) (hl : us.length ≤ sizeLine)
    (hu : s.heap.get? u = some (PySem.W.kxs_mw "ValueError.__init__" a)) (h : ∀ s', Inv X pins σ H s' → Q .none s') : wpAny (model X.prog X.w) X.A (call (.ref u) us) Q E s := by
  obtain ⟨nm, q, N, bs, bm, sn, sub, ab, col, dd, k0, k1, k2, k3, k5, hC, hbm⟩ := T.cls
  obtain ⟨t1, ho⟩ := exo_at I.hok e
  obtain ⟨hp, g, d, t, os⟩ := s
  refine wpAny_call (codeAny_of_tree ?_)
  show wpAny _ X.A.in1 (callAny (.ref u) ⟨us, []⟩) _ _ _
  simp only [callAny]
  refine wpAny_bind (wpAny_load hu ?_)
  simp only [PySem.W.kxs_mw, show (Value.type "method-wrapper" == Value.type "method" || Value.type "method-wrapper" == Value.type "builtin_function_or_method" || Value.type "method-wrapper" == Value.type "method-wrapper") = true by decide, if_true]
  refine PySem.W.KFB.if_so (by decide) ?_
  refine wpAny_bind (PySem.W.check_bound_init F.excBase_ValueError.toExcCallFacts (I.kIn _ _ hC) ho rfl ?_)
  refine wpAny_bind (wpAny_pure (wpAny_pure ?_))
  refine ⟨PySem.plainId_quiet F.excBase_ValueError.init.plain _, codeAny_builtin F.excBase_ValueError.initEntry ?_⟩
  refine PySem.W.exc_init_tree (cls := .ref C) (t0 := t1) (dv := none) (c2 := .none) (c3 := .none) (b4 := .bool false) ho hl fun h' k hx _ => ?_
  have J := I.write (t' := t) (x := a) (e := a) (o := exo a C none) (by rw [e]; exact True.intro) (.inl rfl) k ⟨_, hx⟩ (exo_ok hx)
  have eu : upd H a (exo a C none) = H := by
    funext b
    by_cases hb : b = a
    · rw [hb, upd_same, e]
    · rw [upd_ne hb]
  rw [eu] at J
  exact h _ J
end
end Kz
set_option linter.all false
set_option maxRecDepth 100000
set_option maxHeartbeats 4000000
namespace Kz
open PySem PySem.Spec PyProof.Rows L2
section
variable {P : Program} {w : World} {K : PySem.W.Frag} {mg : Str → Option Value} {base : Heap}
theorem boot_super : bootBuiltins "super" = some (.type "super") := by decide +kernel
/-- THE RULE for an `__init__` that begins with super().__init__(text): its further rows as a term of rules -/
theorem fn_sup {k : Nat} {N ps : List Str} {qual : Str} {st : Stmt} {C f : Addr} {fd : FuncData} {sp : Sp} {msg : Str} {j : Nat} {pc : Pos} {rest : List Stmt} {p0 p1 p2 pos pe : Pos} {ar : Arg} {pl : Sem Bool} (F : FunS K P qual st C f fd) (S : SupScope N ps (defScope st))
    (body : defBody st = .Expr (.Call (.Attribute (.Call (.Name "super" p0) [] [] p1) "__init__" p2) (.Constant (.str msg) j pc :: []) [] pos) pe :: rest)
    (shape : ∀ env : Env, eval (.Call (.Attribute (.Call (.Name "super" p0) [] [] p1) "__init__" p2) (.Constant (.str msg) j pc :: []) [] pos) env = (do
      let ov ← attributeBase (.Call (.Name "super" p0) [] [] p1) "__init__" env (eval (.Call (.Name "super" p0) [] [] p1) env)
      standAt p2.atName
      let (f, first) ← holding [ov] (getMethod ov "__init__" pl)
      callWith pos f first (backTo pos (starEach (.Constant (.str msg) j pc :: []) env)) []))
    (arg : ((defArgs st).posonlyargs ++ (defArgs st).args).head? = some ar) (self : ps[0]? = some ar.arg)
    (len : ∀ vs H Q E, sp vs H Q E → vs.length = ps.length)
    (main : ∀ (cda : Value) (cc : Addr) (A : Around) (outer : List Env) (s : Shared) (H : Hp) (vs : List V) (Q : VK) (E : XK), sp vs H Q E →
      ∃ a ws t, vs = .ref a :: ws ∧ OexC K C ∧ H a = some (exo a C none) ∧ PSs (cxSup P w K mg base N qual (defScope st) f cda cc A outer s H E) rest t ∧ t { nx := fun _ H' => Q .non H', rt := Q } (start N vs) H) :
    FnOk P w K mg base CX0 (k + 1) f fd ps sp := by
  refine ⟨len, fun A outer s H args us vs Q E hr e0 hb r hsp => ?_⟩
  obtain ⟨oc, od, kV, doc, pm, an, cda, cc, ct, osl, rfl, lk, hcd, ⟨cl, cld, csl, lc⟩, ccl, cdd, cvs, ccs, file, tf, lcd, h2, hfile⟩ := F.ex
  have hl := len _ _ _ _ hsp
  have KX : K.In s.heap := e0.mod.kin.keeps fun b o e => (e0.bs b o e).1
  have lim : s.heap.NoLimit := e0.mod.nolimit.keeps fun b o e => (e0.bs b o e).1
  refine PySem.ks_codeAny_call_defAt (body := defBody st) (binds := ps.zip us) hr.depth (KX _ _ lk) rfl lim (PySem.W.codeRec_of KX hcd) rfl hb S.nocell (fun y hy => S.par _ (List.of_mem_zip hy).1) (fun h₁ hns hk => ?_) S.co S.gen S.kind
  obtain ⟨a, ws, t, rfl, T, ea, ht, hq⟩ := main (.ref cda) cc A outer s H vs Q E hsp
  have I : Inv (cxSup P w K mg base N qual (defScope st) f (.ref cda) cc A outer s H E) [] (start N (.ref a :: ws)) H { s with heap := h₁, toks := s.toks + (ps.zip us).length } := inv_startS S hr.hd e0 hl r lc rfl hns hk
  refine PySem.ks_wpAt_mono (Q := SP (cxSup P w K mg base N qual (defScope st) f (.ref cda) cc A outer s H E) [] { nx := fun _ H' => Q .non H', rt := Q }) (E := (cxSup P w K mg base N qual (defScope st) f (.ref cda) cc A outer s H E).xe) ?_ (fun fl s' hs => ?_) (fun e s' h => h)
  · show _root_.PySem.wpAt (model P w) (A.deeper (supEnv qual (defScope st) s.heap.objs.size f (.ref cda) cc)) (.func (defBody st) (supEnv qual (defScope st) s.heap.objs.size f (.ref cda) cc)) (execs (defBody st) (supEnv qual (defScope st) s.heap.objs.size f (.ref cda) cc)) _ _ _
    have d0 : us[0]? = some (.ref a) := by
      obtain ⟨u, hu, ru⟩ := r.get (i := 0) (x := V.ref a) rfl
      cases (show u = Value.ref a from ru)
      exact hu
    have ndP : ps.Nodup := by rw [← S.pre]; exact S.nd.sublist (List.take_sublist _ _)
    have hv : (ps.zip us).reverse.lookup ar.arg = some (.ref a) := rev_lookup ndP self d0
    obtain ⟨cd, hcls⟩ := F.cls
    obtain ⟨t1, ho⟩ := exo_at I.hok ea
    obtain ⟨oD, hD1, hD2⟩ : ∃ oD, h₁.get? C = some oD ∧ oD.data = .cls cd := by
      unfold PySem.W.clsIn at hcls
      split at hcls
      · rename_i c d cd' sl ho
        cases hcls
        exact ⟨_, I.kIn _ _ ho, rfl⟩
      · cases hcls
    rw [body]
    refine PySem.ks_wpAt_execs_cons (PySem.ks_wpAt_Expr_any (PySem.ks_wpAt_MethodCall ?_ (shape _)) I.quiet)
    refine PySem.ks_wpAt_super_base (env := supEnv qual (defScope st) s.heap.objs.size f (.ref cda) cc) S.sup S.cls (by decide) rfl (I.kIn _ _ lk) rfl arg rfl (I.kIn _ _ lcd) rfl h2 hfile F.top ?_
    obtain ⟨mb, b1, b2⟩ := e0.mod.blt
    refine PySem.W.ks_loadName_global S.kind S.sup (Calls.loadGlobal_builtin (env := supEnv qual (defScope st) s.heap.objs.size f (.ref cda) cc) (e0.mod.glob.keeps I.bk) (F.sup e0.mod.kin e0.mod.glob) (b1.keeps I.bk) ((b2 _ (by decide)).trans boot_super) ⟨rfl, ?_⟩)
    refine wpAny_loadName_free S.kind S.cls rfl ⟨_, I.kIn _ _ lc, rfl⟩ ?_
    refine wpAny_loadName_local S.kind (S.par _ (List.mem_of_getElem? self)) hns hv ?_
    refine PySem.ks_wpAny_isType_cls hD1 hD2 ⟨rfl, ?_⟩
    refine PySem.ks_wpAny_call_super hD1 hD2 ho rfl (fun c e => nomatch e) (PySem.W.looks_mroIn I.kIn F.own) (fun h' e k => ?_)
    have J1 := I.kept (t' := s.toks + (ps.zip us).length) k
    obtain ⟨t2, ho2⟩ := exo_at J1.hok ea
    have Ia : PySem.W.InstAt h' a { cls := .ref C, dict := none, data := .fields #[.ref t2, .none, .none, .none, .bool false, .none] } C none := ⟨ho2, rfl, rfl, trivial⟩
    have hf : PySem.W.alongIn K "__init__" ((cd.mro.dropWhile (· != .ref C)).drop 1) = some (some (.builtin "ValueError.__init__")) := by
      have z := F.nxt
      unfold PySem.W.ks_superIn at z
      rw [hcls] at z
      exact z
    refine PySem.W.kxs_getMethod PySem.W.kxs_ValueError e (PySem.W.looks_opaque J1.kIn F.opq) (l₀ := cd.mro) (fun A Q E s k q => wpAny_bind ((PySem.W.looks_clsIn J1.kIn hcls) A _ E s k (wpAny_pure q))) rfl J1.kIn hf (Ia.type.andThen (PySem.W.looks_subIn J1.kIn F.isV)) (PySem.W.ks_ne J1.kIn Ia hcls) (by decide) ?_
    have J2 := J1.kept (t' := s.toks + (ps.zip us).length + 1) (h' := h'.push (PySem.W.kxs_mw "ValueError.__init__" a)) fun b o z => Heap.get?_push_of_some _ z
    have Jp : Inv (cxSup P w K mg base N qual (defScope st) f (.ref cda) cc A outer s H E) [(h'.objs.size, PySem.W.kxs_mw "ValueError.__init__" a)] (start N (.ref a :: ws)) H { s with heap := h'.push (PySem.W.kxs_mw "ValueError.__init__" a), toks := s.toks + (ps.zip us).length + 1 } := by
      refine J2.pins_of fun p hp => ?_
      rw [List.mem_singleton] at hp
      subst hp
      exact ⟨Heap.get?_push_at rfl rfl, J1.hok.fresh (Nat.le_refl _), Nat.ne_of_gt J1.lt, J1.nofs (Nat.le_refl _), fun v z => nomatch z⟩
    refine PySem.W.kxs_callWith (i := "ValueError.__init__") (x := a) rfl (Calls.evalArgs_plain ?_)
    have ha : PA (cxSup P w K mg base N qual (defScope st) f (.ref cda) cc A outer s H E) [.Constant (.str msg) j pc] (tCons (tC (.str msg)) tNil) := pa_cons pe_str pa_nil
    refine thn (ha.run pos _ _ _ H (fun vs H1 => vs = [.str msg] ∧ H1 = H) Jp ⟨rfl, rfl⟩) ?_
    rintro us1 s1 ⟨vs1, H1, I1, r1, rfl, rfl⟩
    have at1 := (I1.pin _ (List.mem_singleton.mpr rfl)).1
    refine ⟨at1, ?_⟩
    have few : us1.length ≤ sizeLine := by
      have := Paired.length r1
      rw [sizeLine_eq]
      show _ ≤ _
      have e1 : [V.str msg].length = 1 := rfl
      omega
    refine mw_call T I1 ea few at1 fun s2 J => ?_
    exact wpAt_of_wpAny (ht.run [] s2 _ _ _ (J.pins_of fun p hp => nomatch hp) hq)
  · have fin : ∀ {σ' : L2.St} {H' : Hp} {v : V} {u : Value}, Inv (cxSup P w K mg base N qual (defScope st) f (.ref cda) cc A outer s H E) [] σ' H' s' → RelV v u → Q v H' → CE outer P w H s Q u s' :=
      fun {σ' H' v u} J rv q => ⟨v, H', J.os, J.bare, J.base, J.hok, rv, q⟩
    cases fl with
    | ret u =>
      obtain ⟨v, σ', H', J, rv, q⟩ := hs
      exact fin J rv q
    | next =>
      obtain ⟨σ', H', J, q⟩ := hs
      exact fin (v := V.non) (u := Value.none) J rfl q
    | brk =>
      obtain ⟨_, _, _, q⟩ := hs
      exact False.elim q
    | cont =>
      obtain ⟨_, _, _, q⟩ := hs
      exact False.elim q
theorem FunS.binds {qual : Str} {st : Stmt} {C f : Addr} {fd : FuncData} {ps : List Str} (F : FunS K P qual st C f fd)
    (h : ∀ (kV doc pm : Value) (an : Option Addr) (cc : Addr) (cdv ct : Value) (us : List Value), us.length = ps.length → bindArgs (PySem.W.fnX "__init__" qual (defArgs st) (defBody st) (defScope st) [("__class__", cc)] .none kV doc pm an cdv ct) ⟨us, []⟩ = pure (ps.zip us)) : Binds K fd ps [] := by
  obtain ⟨oc, od, kV, doc, pm, an, cda, cc, ct, osl, rfl, _⟩ := F.ex
  exact .all (h kV doc pm an cc (.ref cda) ct)
end
end Kz
set_option linter.all false
set_option maxRecDepth 100000
set_option maxHeartbeats 4000000
namespace Kz
open PySem PySem.Spec PyProof.Rows L2
theorem funS_mk {P : Program} {K : PySem.W.Frag} {qual : Str} {st : Stmt} {C f ca cc : Addr} {oc : Value} {od an : Option Addr} {osl : Array (Option Value)} {kV doc pm ct : Value} {cl : Value} {cld : Option Addr} {csl : Array (Option Value)} {ccl : Value} {cdd : Option Addr} {vs : Array Value} {ccs : Array (Option Value)} {file : Str} {tf : Tok}
    (l : K.lookup f = some ⟨oc, od, .func (PySem.W.fnX "__init__" qual (defArgs st) (defBody st) (defScope st) [("__class__", cc)] .none kV doc pm an (.ref ca) ct), osl⟩) (c : PySem.W.codeIn K (.ref ca) qual = true)
    (lc : K.lookup cc = some ⟨cl, cld, .cell (some (.ref C)), csl⟩) (la : K.lookup ca = some ⟨ccl, cdd, .fields vs, ccs⟩) (h2 : (vs[2]? : Option Value) = some (.str file tf)) (hf : ((P.main.file : Str) == file) = true)
    (zs : PySem.W.nsIn K mainGlobals "super" = some none) (tp : (P.main.scope.names.lookup ("super" : Str)).isSome = false) (op : PySem.W.nsIn K cStatics "thirdparty.any" = some none) (cls : ∃ cd, PySem.W.clsIn K C = some cd)
    (ow : PySem.W.mroIn K C (.ref C) = some true) (nx : PySem.W.ks_superIn K C C "__init__" = some (some (.builtin "ValueError.__init__"))) (iv : PySem.W.subIn K (.ref C) (.type "ValueError") = some true) :
    FunS K P qual st C f (PySem.W.fnX "__init__" qual (defArgs st) (defBody st) (defScope st) [("__class__", cc)] .none kV doc pm an (.ref ca) ct) :=
  ⟨⟨oc, od, kV, doc, pm, an, ca, cc, ct, osl, rfl, l, c, ⟨cl, cld, csl, lc⟩, ccl, cdd, vs, ccs, file, tf, la, h2, hf⟩, fun X G => PySem.W.mg_none_of X G zs, tp, op, cls, ow, nx, iv⟩
theorem ErrT_cls {K : PySem.W.Frag} {C : Addr} {l : List Value} (h : ∃ cd, PySem.W.clsIn K C = some cd ∧ cd.mro = l) : ∃ cd, PySem.W.clsIn K C = some cd := let ⟨cd, e, _⟩ := h; ⟨cd, e⟩
end Kz
set_option linter.all false
set_option maxRecDepth 100000
set_option maxHeartbeats 4000000
/-! Defs whose bodies ask for repr: the promise holds wherever no repr is under way around the call. -/
namespace Kz
open PySem PySem.Spec PyProof.Rows L2
section
variable {X : Cx}
/-- xs[lo:hi], the new list not the table of modules -/
def rSlN (K : PySem.W.Frag) : V → Option Int → Option Int → Hp → VK → Prop := fun x lo hi H Q => ∃ a xs, x = .ref a ∧ SqL K H a xs ∧
  ∀ p, H p = none → p ≠ sysModules → Q (.ref p) (upd H p (.lst (cutV xs lo hi)))
theorem sl_listN : SlR X (rSlN X.K) := by
  rintro pins s σ H x v vl vu lo hi sl Q I rx hs pl pu ⟨a, xs, rfl, hx, q⟩
  cases rx
  obtain ⟨its, r, ht, hz⟩ := I.list hx
  refine ⟨"list", _, slot_list_getitem.lookup, ht.isList.typeIs, ?_⟩
  have len := r.length
  refine wpAny_getItem_list_slice ht.isList hs pl pu .none (by simp) ?_ ?_
  · rw [slicePick_cut]
    rw [← len]
    have cut : Vals (cutV xs lo hi) _ := (r.drop (HT.sIx xs.length 0 lo)).take (HT.sIx xs.length xs.length hi - HT.sIx xs.length 0 lo)
    exact ⟨.ref s.heap.objs.size, _, I.lnew (t' := s.toks) cut (Nat.le_trans (cutV_length xs lo hi) hz), rfl, q _ I.fresh (Nat.ne_of_gt I.big)⟩
  · rw [List.size_toArray]
    omega
end

/-- FnOk where no repr is under way -/
structure FnG (P : Program) (w : World) (K : PySem.W.Frag) (mg : Str → Option Value) (base : Heap) (CX : CXT) (k : Nat) (f : Addr) (fd : FuncData) (ps : List Str) (sp : Sp) : Prop where
  many : ∀ vs H Q E, sp vs H Q E → vs.length = ps.length
  go : ∀ (A : Around), A.guards = some [] → Room k A → ∀ (outer : List Env) (s : Shared) (H : Hp), Env0 P w K mg base A outer s H → ∀ (args : Args) (us : List Value) (vs : List V),
    BindsTo s fd args (ps.zip us) → Vals vs us → ∀ (Q : VK) (E : XK), sp vs H Q E → codeAny (model P w) A (.call (.ref f) args) (CR CX outer P w H s Q E) s
theorem FnG.of {P : Program} {w : World} {K : PySem.W.Frag} {mg : Str → Option Value} {base : Heap} {CX : CXT} {k : Nat} {f : Addr} {fd : FuncData} {ps : List Str} {sp : Sp} (F : FnOk P w K mg base CX k f fd ps sp) :
    FnG P w K mg base CX k f fd ps sp := ⟨F.len, fun A _ hr outer s H e0 args us vs hb r Q E h => F.run A outer s H args us vs Q E hr e0 hb r h⟩

section
variable {P : Program} {w : World} {K : PySem.W.Frag} {mg : Str → Option Value} {base : Heap} {CX : CXT} {k : Nat} {f : Addr} {x qual : Str} {st : Stmt} {fd : FuncData} {N ps : List Str} {sp : Sp}
/-- a def by its body -/
theorem fnG_of (F : Fun K x qual st f fd) (S : FnScope N ps (defScope st)) (many : ∀ vs H Q E, sp vs H Q E → vs.length = ps.length)
    (body : ∀ (cdv : Value) (A : Around) (outer : List Env) (s : Shared) (H : Hp) (vs : List V) (Q : VK) (E : XK), A.guards = some [] → Room k (A.deeper (envOfC qual (defScope st) s.heap.objs.size f cdv)) → sp vs H Q E →
      ∃ t, PSs (cxOf CX P w K mg base N qual (defScope st) f cdv A outer s H E) (defBody st) t ∧ t { nx := fun _ H' => Q .non H', rt := Q } (start N vs) H) :
    FnG P w K mg base CX (k + 1) f fd ps sp := by
  obtain ⟨oc, od, kV, doc, pm, an, cdv, ct, osl, rfl, lk, hcd⟩ := F.ex
  constructor
  · exact many
  intro A hg room outer s H e0 args us vs hb r Q E want
  have KX : K.In s.heap := e0.mod.kin.keeps fun b o z => (e0.bs b o z).1
  have lim : s.heap.NoLimit := e0.mod.nolimit.keeps fun b o z => (e0.bs b o z).1
  refine codeAny_call_function room.depth (KX _ _ lk) rfl S.co S.gen rfl (PySem.W.codeRec_of KX hcd) (hb _ _ _ _ ?_)
  refine wpAny_newFunctionEnv_cells S.kind ?_ ?_
  · rintro ⟨n, v⟩ mem
    cases S.par n (List.of_mem_zip mem).1 with
    | inl q => exact .inl q
    | inr q => exact .inr ⟨q, PySem.W.cellsFrom_some _ _ _ (.inl q)⟩
  rintro env rfl s1 xs
  refine ⟨lim.keeps xs.toInCall.keep, codeAny_func ?_⟩
  obtain ⟨t, ht, hq⟩ := body cdv A outer s H vs Q E hg (room.deeper _) want
  have I := inv_start (CX := CX) (P := P) (mg := mg) (E := E) S room.hd e0 (many _ _ _ _ want) r xs
  refine wpAny_mono (ht.run [] s1 (start N vs) H _ I hq) ?_ fun _ _ z => z
  intro fl s' hs
  have fin : ∀ {σ' : L2.St} {H' : Hp} {v : V} {u : Value}, Inv (cxOf CX P w K mg base N qual (defScope st) f cdv A outer s H E) [] σ' H' s' → RelV v u → Q v H' → CE outer P w H s Q u s' := by
    intro σ' H' v u J rv q
    exact ⟨v, H', J.os, J.bare, J.base, J.hok, rv, q⟩
  rcases fl with _ | _ | _ | u
  · obtain ⟨σ', H', J, q⟩ := hs
    exact fin (v := V.non) (u := Value.none) J rfl q
  · obtain ⟨_, _, _, q⟩ := hs
    exact q.elim
  · obtain ⟨_, _, _, q⟩ := hs
    exact q.elim
  · obtain ⟨v, σ', H', J, rv, q⟩ := hs
    exact fin J rv q
end

section
variable {X : Cx} {CX : CXT} {k : Nat} {f : Addr} {fd : FuncData} {ps : List Str} {sp : Sp} {E : XK} {x : Str} {p pos : Pos} {e : Expr} {es : List Expr} {t : TA}
theorem run_fnG {pins : List (Addr × Obj)} {σ : L2.St} {H : Hp} {s : Shared} {Q : VK} {us : List Value} {vs : List V} (F : FnG X.prog X.w X.K X.mg X.base CX k f fd ps sp) (hg : X.A.guards = some []) (hr : Room k X.A)
    (hb : Binds X.K fd ps []) (hx : Passes CX X E) (I : Inv X pins σ H s) (r : Vals vs us) (h : sp vs H Q E) : wpAny (model X.prog X.w) X.A (call (.ref f) us) (EP X pins σ Q) X.xe s := by
  have many : us.length = ps.length := by
    rw [← r.length]
    exact F.many _ _ _ _ h
  have bnd := hb s us I.kIn (by rw [List.append_nil]; exact many)
  rw [List.append_nil] at bnd
  refine wpAny_call (codeAny_mono (F.go X.A hg hr X.stack s H I.env0 ⟨us, []⟩ us vs bnd r Q E h) ?_)
  intro res s' hq
  rcases res with er | fl
  · exact hx pins σ H s er s' I hq
  · rcases fl with _ | _ | _ | u
    all_goals first | exact I.after hq | exact False.elim hq
theorem pe_callG (F : FnG X.prog X.w X.K X.mg X.base CX k f fd ps sp) (hgu : X.A.guards = some []) (hr : Room k X.A) (hg : Gl X x) (hm : X.mg x = some (.ref f)) (hk : PySem.W.keepIn X.K (.ref f) = true)
    (hb : Binds X.K fd ps []) (hx : Passes CX X E) (ha : PA X (e :: es) t) (hdb : (x == ("__debug__" : Str)) = false := by decide)
    (st : starEach (e :: es) X.env = (false, eval e X.env) :: starEach es X.env := by rfl) (nost : (backTo pos (starEach es X.env)).any (·.1) = false := by rfl) :
    PE X (.Call (.Name x p) (e :: es) [] pos) (tCall sp [] E t) := by
  constructor
  intro pins s σ H Q I h
  refine wpAny_Call_Name_kw (ld_glob I hg hm ?_ hdb)
  refine PySem.W.callWith_K (h₀ := X.base) I.ok.mod.kin hk ?_ st nost
  refine thn (ha.run pos pins s σ H _ I h) ?_
  rintro us s1 ⟨vs, H1, I1, r, q⟩
  rw [List.append_nil] at q
  exact ⟨I1.kIn, run_fnG F hgu hr hb hx I1 r q⟩
end

/-! ### the end of a law whose def asks for repr -/
/-- the script, tracked by what it is -/
def scrH (a : Addr) (o : Obj) (xs : List V) : Hp := fun b => if b = a then some (.frz o (.lst xs)) else none
theorem scrH_at {a : Addr} {o : Obj} {xs : List V} : scrH a o xs a = some (.frz o (.lst xs)) := if_pos rfl
theorem scrH_off {a b : Addr} {o : Obj} {xs : List V} (h : b ≠ a) : scrH a o xs b = none := if_neg h
/-- the base that a heap with the script aside makes -/
theorem side_env {P : Program} {w : World} {K : PySem.W.Frag} {mg mb : Str → Option Value} {h : Heap} {H : Hp} {s : Shared} {a : Addr} {l : Array Value} (hs : s.heap = h) (KX : K.In h) (hns : h.Ns mainGlobals mg) (hb : h.Ns builtinsNs mb)
    (hbb : ∀ x : Str, x ≠ "__name__" → mb x = bootBuiltins x) (lim : h.NoLimit) (gens : s.gens = #[]) (ha : h.get? a = some { cls := .type "list", data := .seq l })
    (only : ∀ b, b ≠ a → H b = none) (ok : HOk P w H h) (apart : H a ≠ none → K.lookup a = none) :
    K.In (hidT h H) ∧ (hidT h H).Ns mainGlobals mg ∧ Env0 P w K mg (hidT h H) callerA [] s H := by
  subst hs
  have free : ∀ {b : Addr} {o : Obj} {es : Array DictEntry} {ep : Nat}, s.heap.get? b = some o → o.data = .dict es ep → H b = none := by
    intro b o es ep e1 e2
    by_cases hba : b = a
    · rw [hba, ha] at e1
      cases e1
      cases e2
    · exact only b hba
  have ns : ∀ {b : Addr} {m : Str → Option Value}, s.heap.Ns b m → (hidT s.heap H).Ns b m := by
    rintro b m ⟨o, es, ep, e1, e2, r⟩
    exact ⟨o, es, ep, hidT_get e1 (free e1 e2), e2, r⟩
  have kin : K.In (hidT s.heap H) := by
    intro b o e1
    refine hidT_get (KX b o e1) ?_
    by_cases hba : b = a
    · subst hba
      cases q : H b with
      | none => rfl
      | some u =>
        have z := apart (by rw [q]; exact fun z => nomatch z)
        rw [z] at e1
        cases e1
    · exact only b hba
  have nolim : (hidT s.heap H).NoLimit := by
    obtain ⟨mc, z1, z2⟩ := lim
    exact ⟨mc, ns z1, z2⟩
  refine ⟨kin, ns hns, ⟨rfl, ⟨kin, ns hns, ⟨mb, ns hb, hbb⟩, nolim⟩, fun b o z => of_hidT z, Nat.le_of_eq (hidT_size _ _), trivial, ?_, ok, .of_eq gens⟩⟩
  intro b z
  cases (show b ∈ ([] : List Addr) from z)

theorem law_G {P : Program} {w : World} {K : PySem.W.Frag} {mg mb : Str → Option Value} {CX : CXT} {k : Nat} {fa a : Addr} {fd : FuncData} {x : Str} {sp : Sp} {s : Shared} {vs : List Value} {ns : List Int}
    (KX : K.In s.heap) (hns : s.heap.Ns mainGlobals mg) (hb : s.heap.Ns builtinsNs mb) (hbb : ∀ x : Str, x ≠ "__name__" → mb x = bootBuiltins x) (lim : s.heap.NoLimit) (gens : s.gens = #[])
    (ha : s.heap.get? a = some { cls := .type "list", data := .seq vs.toArray }) (hi : IntsAre vs ns) (hl : ns.length ≤ sizeLine) (hr : Room k callerA)
    (F : ∀ base : Heap, K.In base → base.Ns mainGlobals mg → FnG P w K mg base CX k fa fd [x] sp) (bind : ∀ (s : Shared) (u : Value), BindsTo s fd ⟨[u], []⟩ [(x, u)])
    (hsp : ∀ H : Hp, Only H → SqL K H a (ns.map V.int) → sp [.ref a] H (fun v _ => v = .bl true) fun _ _ _ => False)
    (hCX : ∀ H e s', CX [] H s (fun _ _ _ => False) e s' → False) :
    codeAny (model P w) callerA (.call (.ref fa) ⟨[.ref a], []⟩) (fun r s' => r = .ok (.ret (.bool true)) ∧ OldK s.heap s'.heap ∧ s'.os = s.os ∧ AllBare s'.gens) s := by
  have rv := L2.vals_ints hi
  have core : ∀ H : Hp, Only H → SqL K H a (ns.map V.int) → (∀ b, b ≠ a → H b = none) → HOk P w H s.heap → (H a ≠ none → K.lookup a = none) →
      codeAny (model P w) callerA (.call (.ref fa) ⟨[.ref a], []⟩) (fun r s' => r = .ok (.ret (.bool true)) ∧ OldK s.heap s'.heap ∧ s'.os = s.os ∧ AllBare s'.gens) s := by
    intro H hO hS only ok apart
    obtain ⟨k1, k2, e0⟩ := side_env (P := P) (w := w) rfl KX hns hb hbb lim gens ha only ok apart
    refine codeAny_mono ((F _ k1 k2).go callerA rfl hr [] s H e0 ⟨[.ref a], []⟩ [.ref a] [.ref a] (bind s (.ref a)) (.cons rfl .nil) _ _ (hsp H hO hS)) ?_
    intro r s' got
    rcases r with er | fl
    · exact (hCX H er s' got).elim
    rcases fl with _ | _ | _ | u
    all_goals try exact False.elim got
    obtain ⟨v, H', os, bare, un, ok', rel, q⟩ := got
    cases (show v = V.bl true from q)
    cases (show u = Value.bool true from rel)
    refine ⟨rfl, OldK.of_keep fun b o e1 => ?_, os, bare⟩
    rcases hO b with z | ⟨ob, xs, z⟩
    · exact un.keep b o e1 z (fun m => by cases (show b ∈ ([] : List Addr) from m)) (by simp)
    · obtain ⟨w1, _⟩ := ok b _ z
      obtain ⟨w2, _⟩ := ok' b _ (un.frzs b ob _ z)
      rw [e1] at w1
      cases w1
      exact w2
  cases hk : K.lookup a with
  | some o =>
    have e1 := KX a o hk
    rw [ha] at e1
    cases e1
    have many : (vs.toArray).size ≤ sizeLine := by
      rw [List.size_toArray, hi.length]
      exact hl
    exact core (fun _ => none) (fun _ => .inl rfl) (.inr ⟨_, vs.toArray, _, hk, rfl, rfl, rfl, many, by simpa using rv⟩) (fun _ _ => rfl) (fun b u z => nomatch z) (fun z => absurd rfl z)
  | none =>
    refine core (scrH a { cls := .type "list", data := .seq vs.toArray } (ns.map V.int)) (fun b => ?_) (.inl (.inr ⟨_, scrH_at⟩)) (fun b hb => scrH_off hb) (fun b u z => ?_) fun _ => hk
    · by_cases hba : b = a
      · rw [hba]
        exact .inr ⟨_, _, scrH_at⟩
      · exact .inl (scrH_off hba)
    · by_cases hba : b = a
      · subst hba
        cases scrH_at.symm.trans z
        refine ⟨ha, ?_, vs, _, rv, ha⟩
        rw [List.length_map]
        exact hl
      · cases (scrH_off hba).symm.trans z

theorem walk_G {l : PySem.W.OpenLaw} {n k : Nat} {q : Program} {loose : List Str} {XP : (Str → Option Value) → Heap → Prop} {YP : World → Heap → Prop} {d : DefRec} {K : Params → PySem.W.Frag} {CX : World → CXT} {sp : World → Sp} {x : Str}
    (hn : l.most = some n) (small : n ≤ sizeLine) (nodf : d.params.defaults = []) (hr : Room k callerA) (hY : ∀ (w : World) (h : Heap), YP w h → (K w.params).In h)
    (F : ∀ (w : World) (mg : Str → Option Value) (fa : Addr) (h : Heap), (K w.params).In h → h.Ns mainGlobals mg → mg d.name = some (.ref fa) →
      ∃ fd : FuncData, (∀ (s : Shared) (u : Value), BindsTo s fd ⟨[u], []⟩ [(x, u)]) ∧
        ∀ base : Heap, (K w.params).In base → base.Ns mainGlobals mg → FnG l.prog w (K w.params) mg base (CX w) k fa fd [x] (sp w))
    (hsp : ∀ (w : World) (H : Hp) (a : Addr) (ns : List Int), ns.length ≤ n → Only H → SqL (K w.params) H a (ns.map V.int) → sp w [.ref a] H (fun v _ => v = .bl true) fun _ _ _ => False)
    (hCX : ∀ (w : World) (H : Hp) (s : Shared) (e : Value) (s' : Shared), CX w [] H s (fun _ _ _ => False) e s' → False) :
    PySem.W.WalkO q loose XP YP l.row.toRowW d [] (fun f vs => PySem.call f vs) := by
  refine Att.attach_call hn nodf ?_
  intro w s₀ s₁ mg mb fa o pm cd doc a vs ns G Y ho hd hcd hmg hobj hints few hg
  obtain ⟨fd, hb, hF⟩ := F w mg fa _ (hY w _ Y) G.T.g hmg
  exact law_G (hY w _ Y) G.T.g G.T.b G.T.builtins G.T.nolimit hg hobj hints (Nat.le_trans few small) hr hF hb (fun H hO hS => hsp w H a ns few hO hS) fun H e s' => hCX w H s₁ e s'
end Kz
set_option linter.all false
set_option maxRecDepth 100000
set_option maxHeartbeats 4000000
/-! The pen that a law draws from: a dict of five entries. -/
namespace Kz
open PySem PySem.Spec PyProof.Rows L2
def penK (c : Addr) (i d n f : Int) : List (Key × V) := [(.inr "cells", .ref c), (.inr "at", .int i), (.inr "digits", .int d), (.inr "count", .int n), (.inr "fold", .int f)]
theorem q01 : ¬ (("cells" : Str) = "at") := by decide +kernel
theorem q02 : ¬ (("cells" : Str) = "digits") := by decide +kernel
theorem q03 : ¬ (("cells" : Str) = "count") := by decide +kernel
theorem q04 : ¬ (("cells" : Str) = "fold") := by decide +kernel
theorem q12 : ¬ (("at" : Str) = "digits") := by decide +kernel
theorem q13 : ¬ (("at" : Str) = "count") := by decide +kernel
theorem q14 : ¬ (("at" : Str) = "fold") := by decide +kernel
theorem q23 : ¬ (("digits" : Str) = "count") := by decide +kernel
theorem q24 : ¬ (("digits" : Str) = "fold") := by decide +kernel
theorem q34 : ¬ (("count" : Str) = "fold") := by decide +kernel
theorem kne {a b : Str} (h : ¬ a = b) : ¬ ((Sum.inr a : Key) = Sum.inr b) := fun e => h (Sum.inr.inj e)
theorem kne' {a b : Str} (h : ¬ a = b) : ¬ ((Sum.inr b : Key) = Sum.inr a) := fun e => h (Sum.inr.inj e).symm
section
variable {c : Addr} {i d n f z : Int}
theorem pk_cells : valV (penK c i d n f) (.inr "cells") = some (.ref c) := valV_pos rfl
theorem pk_at : valV (penK c i d n f) (.inr "at") = some (.int i) := (valV_neg (kne q01)).trans (valV_pos rfl)
theorem pk_digits : valV (penK c i d n f) (.inr "digits") = some (.int d) := (valV_neg (kne q02)).trans ((valV_neg (kne q12)).trans (valV_pos rfl))
theorem pk_count : valV (penK c i d n f) (.inr "count") = some (.int n) := (valV_neg (kne q03)).trans ((valV_neg (kne q13)).trans ((valV_neg (kne q23)).trans (valV_pos rfl)))
theorem pk_fold : valV (penK c i d n f) (.inr "fold") = some (.int f) := (valV_neg (kne q04)).trans ((valV_neg (kne q14)).trans ((valV_neg (kne q24)).trans ((valV_neg (kne q34)).trans (valV_pos rfl))))
theorem put_there {kvs : List (Key × V)} {k : Key} {v w : V} (h : valV kvs k = some v) : putK kvs k w = kvs.map fun kv => if kv.1 = k then (kv.1, w) else kv := by
  unfold putK
  have e : (kvs.any fun kv => decide (kv.1 = k)) = true := by
    rw [valV_any, h]
    rfl
  rw [if_pos e]
theorem put_at : putK (penK c i d n f) (.inr "at") (.int z) = penK c z d n f := by
  rw [put_there pk_at]
  simp only [penK, List.map_cons, List.map_nil, if_neg (kne q01), if_neg (kne' q12), if_neg (kne' q13), if_neg (kne' q14), if_pos]
theorem put_digits : putK (penK c i d n f) (.inr "digits") (.int z) = penK c i z n f := by
  rw [put_there pk_digits]
  simp only [penK, List.map_cons, List.map_nil, if_neg (kne q02), if_neg (kne q12), if_neg (kne' q23), if_neg (kne' q24), if_pos]
theorem put_count : putK (penK c i d n f) (.inr "count") (.int z) = penK c i d z f := by
  rw [put_there pk_count]
  simp only [penK, List.map_cons, List.map_nil, if_neg (kne q03), if_neg (kne q13), if_neg (kne q23), if_neg (kne' q34), if_pos]
theorem put_fold : putK (penK c i d n f) (.inr "fold") (.int z) = penK c i d n z := by
  rw [put_there pk_fold]
  simp only [penK, List.map_cons, List.map_nil, if_neg (kne q04), if_neg (kne q14), if_neg (kne q24), if_neg (kne q34), if_pos]
end
theorem dg_of {H : Hp} {a : Addr} {kvs : List (Key × V)} {k : Key} {v : V} (h : H a = some (.dK kvs)) (e : valV kvs k = some v) : DGet H a (kV k) (some v) := e ▸ DGet.k h
theorem dp_of {H : Hp} {a : Addr} {kvs kvs' : List (Key × V)} {k : Key} {v : V} (h : H a = some (.dK kvs)) (l : kvs.length ≤ 1000) (e : putK kvs k v = kvs') : DPut H a (kV k) v (upd H a (.dK kvs')) := e ▸ DPut.k h (small1000 l)

/-- all stands as before but what is at p -/
def But (p : Addr) (H H' : Hp) : Prop := ∀ b o, H b = some o → b ≠ p → H' b = some o
theorem But.refl {p : Addr} {H : Hp} : But p H H := fun _ _ e _ => e
theorem But.trans {p : Addr} {H H1 H2 : Hp} (a : But p H H1) (b : But p H1 H2) : But p H H2 := fun c o e n => b c o (a c o e n) n
theorem But.set {p : Addr} {H H' : Hp} {o : HO} (a : But p H H') : But p H (upd H' p o) := fun c u e n => by
  rw [upd_ne n]
  exact a c u e n
theorem But.new {p q : Addr} {H H' : Hp} {o : HO} (a : But p H H') (n : H' q = none) : But p H (upd H' q o) := fun c u e m => by
  have z := a c u e m
  rw [upd_ne (ne_of_none z n)]
  exact z
theorem But.same {p : Addr} {H H' : Hp} (s : Same H H') : But p H H' := fun c u e _ => s c u e

/-- a pen at p from which n draws were made at most, its cells at c -/
def Pen (H : Hp) (p c : Addr) (n : Nat) : Prop := ∃ (ns : List Int) (i d m f : Int), H p = some (.dK (penK c i d m f)) ∧ H c = some (.lst (ns.map V.int)) ∧
  0 ≤ i ∧ 0 ≤ d ∧ 0 ≤ m ∧ m ≤ (n : Int) ∧ 0 ≤ f ∧ f < 2147483587
theorem Pen.keep {H H' : Hp} {p c : Addr} {n : Nat} (h : Pen H p c n) (hp : H' p = H p) (hc : H' c = H c) : Pen H' p c n := by
  obtain ⟨ns, i, d, m, f, e1, e2, r⟩ := h
  exact ⟨ns, i, d, m, f, hp.trans e1, hc.trans e2, r⟩
theorem Pen.new {H : Hp} {p c q : Addr} {n : Nat} {o : HO} (h : Pen H p c n) (e : H q = none) : Pen (upd H q o) p c n := by
  obtain ⟨ns, i, d, m, f, e1, e2, r⟩ := id h
  exact h.keep (upd_ne (ne_of_none e1 e)) (upd_ne (ne_of_none e2 e))
theorem Pen.same {H H' : Hp} {p c : Addr} {n : Nat} (h : Pen H p c n) (s : Same H H') : Pen H' p c n := by
  obtain ⟨ns, i, d, m, f, e1, e2, r⟩ := h
  exact ⟨ns, i, d, m, f, s _ _ e1, s _ _ e2, r⟩
theorem Pen.more {H : Hp} {p c : Addr} {n k : Nat} (h : Pen H p c n) (l : n ≤ k) : Pen H p c k := by
  obtain ⟨ns, i, d, m, f, e1, e2, a, b, x, y, r⟩ := h
  exact ⟨ns, i, d, m, f, e1, e2, a, b, x, by omega, r⟩
theorem Pen.off {H : Hp} {p c q : Addr} {n : Nat} {o : HO} (h : Pen H p c n) (e : H q = some o) (u : ∀ kvs, o ≠ .dK kvs) : q ≠ p := by
  obtain ⟨ns, i, d, m, f, e1, _⟩ := h
  exact ne_of e e1 (u _)
theorem Pen.newP {H : Hp} {p c q : Addr} {n : Nat} (h : Pen H p c n) (e : H q = none) : q ≠ p := by
  obtain ⟨ns, i, d, m, f, e1, _⟩ := h
  exact (ne_of_none e1 e).symm
theorem Pen.newC {H : Hp} {p c q : Addr} {n : Nat} (h : Pen H p c n) (e : H q = none) : q ≠ c := by
  obtain ⟨ns, i, d, m, f, _, e1, _⟩ := h
  exact (ne_of_none e1 e).symm
theorem Pen.set {H : Hp} {p c q : Addr} {n : Nat} {o : HO} (h : Pen H p c n) (np : q ≠ p) (nc : q ≠ c) : Pen (upd H q o) p c n := h.keep (upd_ne np.symm) (upd_ne nc.symm)

/-! ### the promises -/
def spPen (K : PySem.W.Frag) : Sp := fun vs H Q _ => ∃ (a : Addr) (ns : List Int), vs = [.ref a] ∧ SqL K H a (ns.map V.int) ∧ ∀ (p c : Addr) (H' : Hp), H p = none → Same H H' → Pen H' p c 0 → Q (.ref p) H'
def spDraw : Sp := fun vs H Q _ => ∃ (p c : Addr) (n : Nat) (many : Int), vs = [.ref p, .int many] ∧ Pen H p c n ∧ n ≤ 1000000 ∧ 0 < many ∧ many < 1073741824 ∧
  ∀ (d : Int) (H' : Hp), 0 ≤ d → d < many → Pen H' p c (n + 1) → But p H H' → Q (.int d) H'
def spPick : Sp := fun vs H Q _ => ∃ (p c l : Addr) (n : Nat) (xs : List V), vs = [.ref p, .ref l] ∧ Pen H p c n ∧ n ≤ 1000000 ∧ H l = some (.lst xs) ∧ 0 < xs.length ∧ xs.length < 1000000 ∧
  ∀ (j : Nat) (v : V) (H' : Hp), xs[j]? = some v → Pen H' p c (n + 1) → But p H H' → Q v H'
/-- a number of up to eighteen figures -/
def spFar : Sp := fun vs H Q _ => ∃ (p c : Addr) (n : Nat), vs = [.ref p] ∧ Pen H p c n ∧ n ≤ 900000 ∧
  ∀ (z : Int) (H' : Hp), -(10 ^ 18) < z → z < 10 ^ 18 → Pen H' p c (n + 20) → But p H H' → Q (.int z) H'
end Kz
set_option linter.all false
set_option maxRecDepth 100000
set_option maxHeartbeats 4000000
namespace Kz
open PySem PySem.Spec PyProof.Rows L2
def top (i : Nat) : Stmt := PySem.Challenge.pw_toldmeans_k00_errors.main.body.getD i (.Pass ⟨0, 0, 0, 0⟩)
abbrev sPen : Stmt := top 15
abbrev sDraw : Stmt := top 16
abbrev sPick : Stmt := top 17
abbrev sFar : Stmt := top 18
/-- built-in names that the module leaves alone -/
structure Blt (mg : Str → Option Value) : Prop where
  len : mg "len" = none
  int : mg "int" = none
  list : mg "list" = none
  range : mg "range" = none
section
variable {P : Program} {w : World} {K : PySem.W.Frag} {mg : Str → Option Value} {base : Heap}
theorem scPen : FnScope ["_law_script", "_law_fold", "_law_cell"] ["_law_script"] (defScope sPen) := ⟨rfl, rfl, rfl, by decide +kernel, rfl, by decide +kernel, by decide +kernel⟩
theorem ok_pen {f : Addr} {fd : FuncData} (F : Fun K "_law_pen" "_law_pen" sPen f fd) (B : Blt mg) : FnOk P w K mg base CX0 1 f fd ["_law_script"] (spPen K) := by
  refine F.ok scPen (fun vs H Q E h => ?_) (fun cdv A outer s H vs Q E hr h => ?_)
  · obtain ⟨a, ns, rfl, _⟩ := h
    rfl
  · obtain ⟨a, ns, rfl, hS, k⟩ := h
    have hu := hu_of hr
    refine ⟨_, pss_cons (ps_set (i := 1) scPen.nd rfl (.inl rfl) pe_int)
      (pss_cons (ps_for PassesOwn.never rfl (pi_list (pv 0)) (pg_name (i := 2) scPen.nd rfl (.inl rfl))
        (pss_one (ps_set (i := 1) scPen.nd rfl (.inl rfl) (pe_op op_mod (pe_callTy call_int1 (by rfl) B.int boot_int (pa_cons (pe_op op_add (pe_op op_mul (pv 1) pe_int) (pv 2)) pa_nil)) pe_int))))
      (pss_one (ps_ret (pe_disp (pps_cons pe_str (pe_callTy call_list_of (by rfl) B.list (by decide +kernel) (pa_cons (pv 0) pa_nil)) (pps_cons pe_str pe_int (pps_cons pe_str pe_int (pps_cons pe_str pe_int (pps_cons pe_str (pv 1) pps_nil))))) (by rfl) (by rfl) (fun z => by cases z) (by decide))))), ?_⟩
    refine ⟨_, rfl, a, rfl, ⟨_, hS⟩, for_list (K := K) (a := a) (xs := ns.map V.int) (fun i σ H' => H' = H ∧ ∃ (f : Int) (v : Option V), σ = [some (.ref a), some (.int f), v] ∧ 0 ≤ f ∧ f < 2147483587)
      ⟨rfl, 0, none, rfl, by decide, by decide⟩ (fun i σ H' _ ⟨e, _⟩ => e ▸ hS) ?_ ?_⟩
    · rintro i y σ H' hi ⟨rfl, f, v, rfl, h0, h1⟩
      obtain ⟨z, rfl⟩ : ∃ z, y = V.int z := by
        rw [List.getElem?_map] at hi
        cases e : ns[i]? with
        | none =>
          rw [e] at hi
          cases hi
        | some z =>
          rw [e] at hi
          exact ⟨z, (Option.some.inj hi).symm⟩
      refine ⟨_, rfl, _, _, rfl, rfl, .inr ⟨by decide, by decide⟩, _, rfl, _, _, rfl, rfl, .inl ⟨_, rfl, _, _, rfl, rfl, (by show (0 : Int) < 1000000007; decide), ?_⟩⟩
      have b1 := Int.emod_nonneg (f * 47 + z) (show (1000000007 : Int) ≠ 0 by decide)
      have b2 := Int.emod_lt_of_pos (f * 47 + z) (show (0 : Int) < 1000000007 by decide)
      exact ⟨rfl, _, some (.int z), rfl, b1, by omega⟩
    · rintro σ H' ⟨rfl, f, v, rfl, h0, h1⟩
      intro p hp
      refine ⟨_, rfl, a, _, rfl, .inl (Same.seq (fun b o e => ?_) hS), fun l hl => ?_⟩
      · rw [upd_ne (ne_of_none e hp)]
        exact e
      have lp : l ≠ p := fun e => by
        rw [e, upd_same] at hl
        cases hl
      refine ⟨_, rfl, ?_⟩
      refine ⟨by rw [upd_ne lp.symm, upd_same], penK l 0 0 0 f, rfl, (by show 5 ≤ 15; decide), ?_⟩
      have em : mergeK [] (penK l 0 0 0 f) = penK l 0 0 0 f := by
        have e1 : valV ([] : List (Key × V)) (.inr "cells") = none := rfl
        have a1 : putK [] (.inr "cells") (V.ref l) = [((.inr "cells" : Key), V.ref l)] := putK_new _ e1
        have a2 : putK [((.inr "cells" : Key), V.ref l)] (.inr "at") (V.int 0) = [((.inr "cells" : Key), V.ref l), (.inr "at", V.int 0)] := putK_new _ (valV_neg (kne q01))
        have a3 : putK [((.inr "cells" : Key), V.ref l), (.inr "at", V.int 0)] (.inr "digits") (V.int 0) = [((.inr "cells" : Key), V.ref l), (.inr "at", V.int 0), (.inr "digits", V.int 0)] :=
          putK_new _ ((valV_neg (kne q02)).trans (valV_neg (kne q12)))
        have a4 : putK [((.inr "cells" : Key), V.ref l), (.inr "at", V.int 0), (.inr "digits", V.int 0)] (.inr "count") (V.int 0) = [((.inr "cells" : Key), V.ref l), (.inr "at", V.int 0), (.inr "digits", V.int 0), (.inr "count", V.int 0)] :=
          putK_new _ ((valV_neg (kne q03)).trans ((valV_neg (kne q13)).trans (valV_neg (kne q23))))
        have a5 : putK [((.inr "cells" : Key), V.ref l), (.inr "at", V.int 0), (.inr "digits", V.int 0), (.inr "count", V.int 0)] (.inr "fold") (V.int f) = penK l 0 0 0 f :=
          putK_new _ ((valV_neg (kne q04)).trans ((valV_neg (kne q14)).trans ((valV_neg (kne q24)).trans (valV_neg (kne q34)))))
        show putK (putK (putK (putK (putK ([] : List (Key × V)) (.inr "cells") (V.ref l)) (.inr "at") (V.int 0)) (.inr "digits") (V.int 0)) (.inr "count") (V.int 0)) (.inr "fold") (V.int f) = _
        rw [a1, a2, a3, a4, a5]
      refine k p l _ hp (fun b o e => ?_) ⟨ns, 0, 0, 0, f, by rw [upd_same, em], ?_, by decide, by decide, by decide, by decide, h0, h1⟩
      · have bp := ne_of_none e hp
        have bl : b ≠ l := fun z => by
          rw [z] at e bp
          rw [upd_ne bp, e] at hl
          cases hl
        rw [upd_ne bp, upd_ne bl, upd_ne bp]
        exact e
      · rw [upd_ne lp, upd_same]

theorem scDraw : FnScope ["_law_pen_here", "_law_many", "_law_cell", "_law_digit", "_law_blend"] ["_law_pen_here", "_law_many"] (defScope sDraw) := ⟨rfl, rfl, rfl, by decide +kernel, rfl, by decide +kernel, by decide +kernel⟩
theorem five {c : Addr} {i d m f : Int} : (penK c i d m f).length ≤ 1000 := by
  show 5 ≤ 1000
  decide
theorem ok_draw {f : Addr} {fd : FuncData} (F : Fun K "_law_draw" "_law_draw" sDraw f fd) (B : Blt mg) : FnOk P w K mg base CX0 1 f fd ["_law_pen_here", "_law_many"] spDraw := by
  refine F.ok scDraw (fun vs H Q E h => ?_) (fun cdv A outer s H vs Q E hr h => ?_)
  · obtain ⟨p, c, n, many, rfl, _⟩ := h
    rfl
  · obtain ⟨p, c, n, many, rfl, ⟨ns, i, d, m, f, e1, e2, b1, b2, b3, b4, b5, b6⟩, hn, m0, m1, k⟩ := h
    have hu := hu_of hr
    refine ⟨_, pss_cons (ps_dput hu (pv 0) pe_str (pe_op op_add (pe_dget hu (pv 0) pe_str (fun _ _ => rfl)) pe_int) rfl)
      (C8.pss_cut (ps_if (PW.pt (pw_and (pt_cmpR op_eq (pe_dget hu (pv 0) pe_str (fun _ _ => rfl)) pe_int (nomark _))
          (pw_and1 (pt_cmpR op_lt (pe_dget hu (pv 0) pe_str (fun _ _ => rfl)) (pe_callB call_len_seq (by rfl) B.len PySem.boot_len (pa_cons (pe_dget hu (pv 0) pe_str (fun _ _ => rfl)) pa_nil)) (nomark _)))))
        (pss_cons (ps_set (i := 2) scDraw.nd rfl (.inl rfl) (pe_ix ix_list (pe_dget hu (pv 0) pe_str (fun _ _ => rfl)) (pe_dget hu (pv 0) pe_str (fun _ _ => rfl)) (fun _ _ => rfl)))
        (pss_cons (ps_dput hu (pv 0) pe_str (pe_op op_add (pe_dget hu (pv 0) pe_str (fun _ _ => rfl)) pe_int) rfl)
        (pss_one (ps_if (pt_cmpR op_ge (pv 2) (pe_op op_pow pe_int pe_int) (nomark _))
          (pss_one (ps_dput hu (pv 0) pe_str (pe_op op_sub (pv 2) (pe_op op_pow pe_int pe_int)) rfl))
          (pss_one (ps_dput hu (pv 0) pe_str (pe_op op_mod (pe_callTy call_int1 (by rfl) B.int boot_int (pa_cons (pe_op op_add (pe_op op_mul (pe_dget hu (pv 0) pe_str (fun _ _ => rfl)) pe_int) (pv 2)) pa_nil)) pe_int) rfl))))))
        pss_nil)
      (pss_cons (ps_if (pt_cmpR op_gt (pe_dget hu (pv 0) pe_str (fun _ _ => rfl)) pe_int (nomark _))
        (pss_cons (ps_set (i := 3) scDraw.nd rfl (.inl rfl) (pe_op op_mod (pe_callTy call_int1 (by rfl) B.int boot_int (pa_cons (pe_dget hu (pv 0) pe_str (fun _ _ => rfl)) pa_nil)) (pv 1)))
        (pss_cons (ps_dput hu (pv 0) pe_str (pe_op op_fdiv (pe_dget hu (pv 0) pe_str (fun _ _ => rfl)) (pv 1)) rfl)
        (pss_one (ps_ret (pv 3))))) pss_nil)
      (pss_cons (ps_set (i := 4) scDraw.nd rfl (.inl rfl) (pe_op op_add (pe_op op_add (pe_dget hu (pv 0) pe_str (fun _ _ => rfl)) (pe_op op_mul (pe_dget hu (pv 0) pe_str (fun _ _ => rfl)) pe_int)) pe_int))
      (pss_one (ps_ret (pe_op op_mod (pe_op op_fdiv (pe_callTy call_int1 (by rfl) B.int boot_int (pa_cons (pe_op op_mod (pe_op op_pow (pv 4) pe_int) pe_int) pa_nil)) pe_int) (pv 1))))))), ?_⟩
    -- count
    refine ⟨_, rfl, p, _, rfl, dg_of e1 pk_count, _, _, rfl, rfl, _, rfl, p, _, rfl, dp_of e1 five put_count, ?_⟩
    have cp : c ≠ p := ne_of e2 e1 (fun z => nomatch z)
    have c1 : upd H p (.dK (penK c i d (m + 1) f)) p = some (.dK (penK c i d (m + 1) f)) := upd_same
    have c2 : upd H p (.dK (penK c i d (m + 1) f)) c = some (.lst (ns.map V.int)) := by
      rw [upd_ne cp]
      exact e2
    have c3 : But p H (upd H p (.dK (penK c i d (m + 1) f))) := But.refl.set
    generalize upd H p (.dK (penK c i d (m + 1) f)) = H1 at c1 c2 c3
    refine ⟨fun σ H' => ∃ (v : Option V) (i' d' f' : Int), σ = [some (.ref p), some (.int many), v, none, none] ∧ H' p = some (.dK (penK c i' d' (m + 1) f')) ∧ H' c = some (.lst (ns.map V.int)) ∧ But p H H' ∧ 0 ≤ i' ∧ 0 ≤ d' ∧ 0 ≤ f' ∧ f' < 2147483587, ?_, ?_⟩
    · refine ⟨_, rfl, p, _, rfl, dg_of c1 pk_digits, rfl, _, rfl, ?_⟩
      by_cases z : V.int d = V.int 0
      · rw [decide_eq_true z]
        refine iteT ⟨_, rfl, p, _, rfl, dg_of c1 pk_at, _, rfl, p, _, rfl, dg_of c1 pk_cells, c, _, rfl, .inl (SqL.of c2), _, _, rfl, rfl, _, rfl, ?_⟩
        refine ite2 (fun lt => ?_) (fun nlt => ⟨none, i, d, f, rfl, c1, c2, c3, b1, b2, b5, b6⟩)
        have lt' := of_decide_eq_true lt
        rw [List.length_map] at lt'
        obtain ⟨j, rfl⟩ := Int.eq_ofNat_of_zero_le b1
        have jl : j < ns.length := by omega
        have it : (ns.map V.int)[j]? = some (.int ns[j]) := by
          rw [List.getElem?_map, List.getElem?_eq_getElem jl]
          rfl
        refine ⟨_, rfl, p, _, rfl, dg_of c1 pk_cells, _, rfl, p, _, rfl, dg_of c1 pk_at, c, _, _, _, rfl, rfl, SqL.of c2, atI_nat it, ?_⟩
        refine ⟨_, rfl, p, _, rfl, dg_of c1 pk_at, _, _, rfl, rfl, _, rfl, p, _, rfl, dp_of c1 five put_at, ?_⟩
        have d1 : upd H1 p (.dK (penK c ((j : Int) + 1) d (m + 1) f)) p = some (.dK (penK c ((j : Int) + 1) d (m + 1) f)) := upd_same
        have d2 : upd H1 p (.dK (penK c ((j : Int) + 1) d (m + 1) f)) c = some (.lst (ns.map V.int)) := by
          rw [upd_ne cp]
          exact c2
        have d3 : But p H (upd H1 p (.dK (penK c ((j : Int) + 1) d (m + 1) f))) := c3.set
        generalize upd H1 p (.dK (penK c ((j : Int) + 1) d (m + 1) f)) = H2 at d1 d2 d3
        refine ⟨_, rfl, _, _, rfl, rfl, ⟨by decide, by decide, by decide⟩, _, _, rfl, rfl, _, rfl, ?_⟩
        refine ite2 (fun ge => ?_) (fun nge => ?_)
        · have ge' := of_decide_eq_true ge
          refine ⟨_, rfl, _, _, rfl, rfl, ⟨by decide, by decide, by decide⟩, _, _, rfl, rfl, _, rfl, p, _, rfl, dp_of d1 five put_digits, ?_⟩
          exact ⟨_, _, _, _, rfl, upd_same, by rw [upd_ne cp]; exact d2, d3.set, by omega, Int.sub_nonneg_of_le ge', b5, b6⟩
        · refine ⟨_, rfl, p, _, rfl, dg_of d1 pk_fold, _, _, rfl, rfl, .inr ⟨by decide, by decide⟩, _, rfl, _, _, rfl, rfl, .inl ⟨_, rfl, _, _, rfl, rfl, (by show (0 : Int) < 2147483587; decide), _, rfl, p, _, rfl, dp_of d1 five put_fold, ?_⟩⟩
          have l1 := Int.emod_nonneg (f * 69069 + ns[j]) (show (2147483587 : Int) ≠ 0 by decide)
          have l2 := Int.emod_lt_of_pos (f * 69069 + ns[j]) (show (0 : Int) < 2147483587 by decide)
          exact ⟨_, _, _, _, rfl, upd_same, by rw [upd_ne cp]; exact d2, d3.set, by omega, b2, l1, l2⟩
      · rw [decide_eq_false z]
        refine iteF (iteF ?_)
        exact ⟨none, i, d, f, rfl, c1, c2, c3, b1, b2, b5, b6⟩
    · rintro σ H' ⟨v, i', d', f', rfl, g1, g2, g3, a1, a2, a3, a4⟩
      refine ⟨_, rfl, p, _, rfl, dg_of g1 pk_digits, _, _, rfl, rfl, _, rfl, ?_⟩
      refine ite2 (fun gt => ?_) (fun ngt => ?_)
      · have gt' := of_decide_eq_true gt
        refine ⟨_, rfl, p, _, rfl, dg_of g1 pk_digits, .inl ⟨_, rfl, _, rfl, _, _, rfl, rfl, m0, ?_⟩⟩
        refine ⟨_, rfl, p, _, rfl, dg_of g1 pk_digits, _, rfl, _, _, rfl, rfl, ⟨m0, m1⟩, _, rfl, p, _, rfl, dp_of g1 five put_digits, _, rfl, ?_⟩
        have l1 := Int.emod_nonneg d' (show many ≠ 0 by omega)
        have l2 := Int.emod_lt_of_pos d' m0
        refine k _ _ l1 l2 ⟨ns, i', d' / many, m + 1, f', upd_same, by rw [upd_ne cp]; exact g2, a1, Int.ediv_nonneg a2 (by omega), by omega, by omega, a3, a4⟩ g3.set
      · refine ⟨_, rfl, p, _, rfl, dg_of g1 pk_fold, _, rfl, p, _, rfl, dg_of g1 pk_count, _, _, rfl, rfl, .inr ⟨by decide, by decide⟩, _, _, rfl, rfl, _, _, rfl, rfl, ?_⟩
        refine ⟨_, rfl, _, _, rfl, rfl, ⟨by decide, by decide, ?_⟩, _, _, rfl, rfl, (by show (0 : Int) < 2305843009213693951; decide), .inl ⟨_, rfl, _, _, rfl, rfl, ⟨by decide, by decide⟩, _, rfl, _, _, rfl, rfl, m0, ?_⟩⟩
        · have : (2 : Nat) ^ 64 = 18446744073709551616 := by decide
          omega
        · generalize (f' + (m + 1) * 7907 + 43) ^ (17 : Int).toNat % 2305843009213693951 / 128 = y
          have l1 := Int.emod_nonneg y (show many ≠ 0 by omega)
          have l2 := Int.emod_lt_of_pos y m0
          exact k _ _ l1 l2 ⟨ns, i', d', m + 1, f', g1, g2, a1, a2, by omega, by omega, a3, a4⟩ g3

theorem scPick : FnScope ["_law_pen_here", "_law_some"] ["_law_pen_here", "_law_some"] (defScope sPick) := ⟨rfl, rfl, rfl, by decide +kernel, rfl, by decide +kernel, by decide +kernel⟩
theorem ok_pick {f fD : Addr} {fd fdD : FuncData} (F : Fun K "_law_pick" "_law_pick" sPick f fd) (B : Blt mg) (FD : Fun K "_law_draw" "_law_draw" sDraw fD fdD) (gD : mg "_law_draw" = some (.ref fD)) (bD : Binds K fdD ["_law_pen_here", "_law_many"] []) :
    FnOk P w K mg base CX0 2 f fd ["_law_pen_here", "_law_some"] spPick := by
  have GD : FnOk P w K mg base CX0 1 fD fdD ["_law_pen_here", "_law_many"] spDraw := ok_draw FD B
  refine F.ok scPick (fun vs H Q E h => ?_) (fun cdv A outer s H vs Q E hr h => ?_)
  · obtain ⟨p, c, l, n, xs, rfl, _⟩ := h
    rfl
  · obtain ⟨p, c, l, n, xs, rfl, pen, hn, el, l0, l1, k⟩ := h
    refine ⟨_, pss_one (ps_ret (pe_ix ix_list (pv 1) (pe_call GD hr rfl gD FD.kp bD .nil pass0 (pa_cons (pv 0) (pa_cons (pe_callB call_len_seq (by rfl) B.len PySem.boot_len (pa_cons (pv 1) pa_nil)) pa_nil))) (fun _ _ => rfl))), ?_⟩
    refine ⟨_, rfl, _, rfl, _, rfl, l, _, rfl, .inl (SqL.of el), p, c, n, _, rfl, pen, hn, by omega, by omega, fun d H' d0 d1 pen' but => ?_⟩
    obtain ⟨j, rfl⟩ := Int.eq_ofNat_of_zero_le d0
    have jl : j < xs.length := by omega
    have lp : l ≠ p := pen.off el (fun _ z => nomatch z)
    exact ⟨l, _, _, _, rfl, rfl, SqL.of (but _ _ el lp), atI_nat (List.getElem?_eq_getElem jl), k j _ H' (List.getElem?_eq_getElem jl) pen' but⟩
theorem scFar : FnScope ["_law_pen_here", "_law_found", "_law_k"] ["_law_pen_here"] (defScope sFar) := ⟨rfl, rfl, rfl, by decide +kernel, rfl, by decide +kernel, by decide +kernel⟩
theorem pow_six : ∀ {i : Nat}, i ≤ 6 → (1000 : Int) ^ i ≤ 1000 ^ 6
  | 0, _ | 1, _ | 2, _ | 3, _ | 4, _ | 5, _ | 6, _ => by decide
  | n + 7, h => by omega
theorem mem_of_at {xs : List V} {j : Nat} {v : V} (h : xs[j]? = some v) : v ∈ xs := List.mem_of_getElem? h
theorem ok_far {f fD fP : Addr} {fd fdD fdP : FuncData} (F : Fun K "_law_far" "_law_far" sFar f fd) (B : Blt mg) (FD : Fun K "_law_draw" "_law_draw" sDraw fD fdD) (gD : mg "_law_draw" = some (.ref fD)) (bD : Binds K fdD ["_law_pen_here", "_law_many"] [])
    (FP : Fun K "_law_pick" "_law_pick" sPick fP fdP) (gP : mg "_law_pick" = some (.ref fP)) (bP : Binds K fdP ["_law_pen_here", "_law_some"] []) :
    FnOk P w K mg base CX0 3 f fd ["_law_pen_here"] spFar := by
  have GD : FnOk P w K mg base CX0 1 fD fdD ["_law_pen_here", "_law_many"] spDraw := ok_draw FD B
  have GP : FnOk P w K mg base CX0 2 fP fdP ["_law_pen_here", "_law_some"] spPick := ok_pick FP B FD gD bD
  refine F.ok scFar (fun vs H Q E h => ?_) (fun cdv A outer s H vs Q E hr h => ?_)
  · obtain ⟨p, c, n, rfl, _⟩ := h
    rfl
  · obtain ⟨p, c, n, rfl, pen, hn, k⟩ := h
    have hr1 : Room 1 _ := hr.mono (by decide)
    refine ⟨_, pss_cons (ps_set (i := 1) scFar.nd rfl (.inl rfl) pe_int)
      (pss_cons (ps_for PassesOwn.never rfl (pi_range1 rfl B.range (pa_cons (pe_call GP hr rfl gP FP.kp bP .nil pass0 (pa_cons (pv 0) (pa_cons (pe_lst (pa_cons pe_int (pa_cons pe_int (pa_cons pe_int (pa_cons pe_int (pa_cons pe_int pa_nil)))))) pa_nil))) pa_nil)) (pg_name (i := 2) scFar.nd rfl (.inl rfl))
        (pss_one (ps_set (i := 1) scFar.nd rfl (.inl rfl) (pe_op op_add (pe_op op_mul (pv 1) pe_int) (pe_call GD hr1 rfl gD FD.kp bD .nil pass0 (pa_cons (pv 0) (pa_cons pe_int pa_nil)))))))
      (pss_one (ps_ret (pe_ifExp (pt_cmpR op_gt (pe_call GD hr1 rfl gD FD.kp bD .nil pass0 (pa_cons (pv 0) (pa_cons pe_int pa_nil))) pe_int (nomark _)) (pv 1) (pe_un un_neg (pv 1)))))), ?_⟩
    refine ⟨_, rfl, ?_⟩
    refine ⟨(by show 5 ≤ sizeLine; decide), fun l hl => ?_⟩
    refine ⟨p, c, l, n, _, rfl, pen.new hl, by omega, upd_same, by decide, by decide, fun j v H1 hj pen1 but1 => ?_⟩
    have six : ∃ m : Nat, v = .int (m : Int) ∧ m ≤ 6 := by
      have mem := mem_of_at hj
      simp only [List.mem_cons, List.not_mem_nil, or_false] at mem
      rcases mem with rfl | rfl | rfl | rfl | rfl
      · exact ⟨0, rfl, by decide⟩
      · exact ⟨1, rfl, by decide⟩
      · exact ⟨1, rfl, by decide⟩
      · exact ⟨2, rfl, by decide⟩
      · exact ⟨6, rfl, by decide⟩
    obtain ⟨m, rfl, hm⟩ := six
    have but0 : But p H H1 := (But.refl.new hl).trans but1
    refine ⟨(m : Int), rfl, by omega, by omega, for_range (lo := 0) (n := (m : Int).toNat) (fun i σ H' => ∃ (z : Int) (v : Option V), σ = [some (.ref p), some (.int z), v] ∧ Pen H' p c (n + 1 + i) ∧ But p H H' ∧ 0 ≤ z ∧ z < 1000 ^ i) ⟨0, none, rfl, pen1, but0, by decide, by decide⟩ ?_ ?_⟩
    · rintro i σ H' hi ⟨z, v, rfl, pen2, but2, z0, z1⟩
      have hi6 : i < 6 := by
        have : i < (m : Int).toNat := hi
        omega
      have zb : z < 1000 ^ 6 := Int.lt_of_lt_of_le z1 (pow_six (by omega))
      refine ⟨_, rfl, _, _, rfl, rfl, .inr ⟨by decide, by decide⟩, _, rfl, p, c, n + 1 + i, 1000, rfl, pen2, by omega, by decide, by decide, fun d H3 d0 d1 pen3 but3 => ?_⟩
      refine ⟨_, _, rfl, rfl, z * 1000 + d, _, rfl, pen3, but2.trans but3, by omega, ?_⟩
      rw [Int.pow_succ]
      omega
    · rintro σ H' ⟨z, v, rfl, pen2, but2, z0, z1⟩
      have zb : z < 1000 ^ 6 := Int.lt_of_lt_of_le z1 (pow_six (by have : (m : Int).toNat = m := rfl; omega))
      have zb' : z < 10 ^ 18 := by
        have : (1000 : Int) ^ 6 = 10 ^ 18 := by decide
        omega
      refine ⟨_, rfl, p, c, _, 3, rfl, pen2, by have : (m : Int).toNat = m := rfl; omega, by decide, by decide, fun d H3 d0 d1 pen3 but3 => ?_⟩
      have pen4 : Pen H3 p c (n + 20) := pen3.more (by have : (m : Int).toNat = m := rfl; omega)
      refine ⟨_, _, rfl, rfl, _, rfl, ?_⟩
      refine ite2 (fun _ => ?_) (fun _ => ?_)
      · exact ⟨_, rfl, k z H3 (by have : (0 : Int) < 10 ^ 18 := by decide
                                  omega) zb' pen4 (but2.trans but3)⟩
      · refine ⟨_, rfl, _, rfl, k (-z) H3 (by omega) (by have : (0 : Int) < 10 ^ 18 := by decide
                                                         omega) pen4 (but2.trans but3)⟩
end
end Kz
set_option linter.all false
set_option maxRecDepth 100000
set_option maxHeartbeats 4000000
namespace Kz
open PySem PySem.Spec PyProof.Rows L2
/-! ### error objects -/
/-- an error object with its fields -/
def EAt (H : Hp) (a C : Addr) (fs : List (Str × V)) : Prop := ∃ d, H a = some (exo a C (some d)) ∧ H d = some (exd d fs)
theorem EAt.same {H H' : Hp} {a C : Addr} {fs : List (Str × V)} (h : EAt H a C fs) (s : Same H H') : EAt H' a C fs := by
  obtain ⟨d, e1, e2⟩ := h
  exact ⟨d, s _ _ e1, s _ _ e2⟩
theorem same_new {H H' : Hp} {a : Addr} {o : HO} (n : H a = none) (b : But a (upd H a o) H') : Same H H' := fun c u e => by
  have ne := ne_of_none e n
  refine b c u ?_ ne
  rw [upd_ne ne]
  exact e
def spI1 (K : PySem.W.Frag) (C : Addr) (f : Str) : Sp := fun vs H Q _ => ∃ (a : Addr) (v : V), vs = [.ref a, v] ∧ OexC K C ∧ PySem.W.findIn K (.ref C) f = some none ∧ H a = some (exo a C none) ∧
  ∀ H', EAt H' a C [(f, v)] → But a H H' → Q .non H'
def spI2 (K : PySem.W.Frag) (C : Addr) (f g : Str) : Sp := fun vs H Q _ => ∃ (a : Addr) (v u : V), vs = [.ref a, v, u] ∧ OexC K C ∧ PySem.W.findIn K (.ref C) f = some none ∧ PySem.W.findIn K (.ref C) g = some none ∧ H a = some (exo a C none) ∧
  ∀ H', EAt H' a C [(g, u), (f, v)] → But a H H' → Q .non H'
def t1 (K : PySem.W.Frag) (f : Str) : TS := tOst K f (tVar 0) (tVar 1)
def t2 (K : PySem.W.Frag) (f g : Str) : TS := tSeq (tOst K f (tVar 0) (tVar 1)) (tOst K g (tVar 0) (tVar 2))
theorem run1 {K : PySem.W.Frag} {C : Addr} {f x : Str} {vs : List V} {H : Hp} {Q : VK} {E : XK} (h : spI1 K C f vs H Q E) : t1 K f { nx := fun _ H' => Q .non H', rt := Q } (start ["self", x] vs) H := by
  obtain ⟨a, v, rfl, T, no, ea, k⟩ := h
  refine ⟨_, rfl, _, rfl, a, C, rfl, T, no, .inl ⟨ea, fun d nd ne => ?_⟩⟩
  refine k _ ⟨d, upd_same, ?_⟩ fun b o e nb => ?_
  · rw [upd_ne ne]
    exact upd_same
  · rw [upd_ne nb, upd_ne (ne_of_none e nd)]
    exact e
theorem run2 {K : PySem.W.Frag} {C : Addr} {f g x y : Str} {vs : List V} {H : Hp} {Q : VK} {E : XK} (h : spI2 K C f g vs H Q E) : t2 K f g { nx := fun _ H' => Q .non H', rt := Q } (start ["self", x, y] vs) H := by
  obtain ⟨a, v, u, rfl, T, no, no2, ea, k⟩ := h
  refine ⟨_, rfl, _, rfl, a, C, rfl, T, no, .inl ⟨ea, fun d nd ne => ?_⟩⟩
  refine ⟨_, rfl, _, rfl, a, C, rfl, T, no2, .inr ⟨d, [(f, v)], upd_same, ?_, (by show 1 ≤ 900; decide), ?_⟩⟩
  · rw [upd_ne ne]
    exact upd_same
  refine k _ ⟨d, ?_, upd_same⟩ fun b o e nb => ?_
  · rw [upd_ne ne.symm]
    exact upd_same
  · have nbd := ne_of_none e nd
    rw [upd_ne nbd, upd_ne nb, upd_ne nbd]
    exact e

/-! ### what the top has written of the classes -/
structure BaseT (K : PySem.W.Frag) (mg : Str → Option Value) (B : Addr) (mc : Value) : Prop where
  g : mg "MeanError" = some (.ref B)
  rd : ClX.CRead K B mc
  fnd : PySem.W.findCls K (.ref B) mc "__init__" = some (.val (.builtin "ValueError.__init__"))
  cls : (PySem.W.clsIn K B).isSome = true
  ty : PySem.W.typeIn K (.ref B) = some (.type "type")
structure ErrT (K : PySem.W.Frag) (mg : Str → Option Value) (x : Str) (B C : Addr) : Prop where
  o : OexC K C
  xf : XfC K C
  ex : ExcC K C
  g : mg x = some (.ref C)
  mro : ∃ cd, PySem.W.clsIn K C = some cd ∧ cd.mro = [.ref C, .ref B, .type "ValueError", .type "Exception", .type "BaseException", .type "object"]
structure InitT (K : PySem.W.Frag) (P : Program) (x : Str) (st : Stmt) (C f : Addr) (fd : FuncData) : Prop where
  i : PySem.W.findIn K (.ref C) "__init__" = some (some (.ref f))
  t : PySem.W.typeIn K (.ref f) = some (.type "function")
  fn : FunS K P x st C f fd
theorem ErrT.kit {K : PySem.W.Frag} {mg : Str → Option Value} {x y : Str} {B C D : Addr} (T : ErrT K mg x B C) (U : ErrT K mg y B D) (nb : D ≠ B) : PySem.W.kitOne K (.ref C) (.ref D) = some (decide (D = C)) := by
  obtain ⟨cd, e1, e2⟩ := T.mro
  obtain ⟨cd', e1', _⟩ := U.mro
  unfold PySem.W.kitOne
  by_cases h : C = D
  · subst h
    simp
  · have n1 : ¬ ((Value.ref C == Value.ref D) = true) := by
      intro z
      exact h (Value.ref.inj (beq_iff_eq.mp z))
    rw [if_neg n1]
    have ok : ((PySem.W.clsIn K D).isSome && PySem.W.typeIn K (.ref D) == some (.type "type")) = true := by
      rw [e1', U.o.tyC]
      rfl
    show (if ((PySem.W.clsIn K D).isSome && PySem.W.typeIn K (.ref D) == some (.type "type")) = true then PySem.W.mroIn K C (.ref D) else none) = _
    rw [if_pos ok]
    unfold PySem.W.mroIn
    rw [e1, Option.bind_some, e2]
    have n2 : ¬ (D = C) := fun z => h z.symm
    simp [n2, nb]
theorem ErrT.kitB {K : PySem.W.Frag} {mg : Str → Option Value} {x : Str} {B C : Addr} {mc : Value} (T : ErrT K mg x B C) (U : BaseT K mg B mc) : PySem.W.kitOne K (.ref C) (.ref B) = some true := by
  obtain ⟨cd, e1, e2⟩ := T.mro
  unfold PySem.W.kitOne
  by_cases h : C = B
  · subst h
    simp
  · have n1 : ¬ ((Value.ref C == Value.ref B) = true) := by
      intro z
      exact h (Value.ref.inj (beq_iff_eq.mp z))
    rw [if_neg n1]
    have ok : ((PySem.W.clsIn K B).isSome && PySem.W.typeIn K (.ref B) == some (.type "type")) = true := by
      rw [U.cls, U.ty]
      rfl
    show (if ((PySem.W.clsIn K B).isSome && PySem.W.typeIn K (.ref B) == some (.type "type")) = true then PySem.W.mroIn K C (.ref B) else none) = _
    rw [if_pos ok]
    unfold PySem.W.mroIn
    rw [e1, Option.bind_some, e2]
    simp
theorem ErrT.kitV {K : PySem.W.Frag} {mg : Str → Option Value} {x : Str} {B C : Addr} (T : ErrT K mg x B C) : PySem.W.kitOne K (.ref C) (.type "ValueError") = some true := by
  obtain ⟨cd, e1, e2⟩ := T.mro
  unfold PySem.W.kitOne
  have n1 : ¬ ((Value.ref C == Value.type "ValueError") = true) := by
    intro z
    cases beq_iff_eq.mp z
  rw [if_neg n1]
  have ok : PySem.W.kitMeta "ValueError" = true := by decide +kernel
  show (if PySem.W.kitMeta "ValueError" = true then PySem.W.mroIn K C (.type "ValueError") else none) = _
  rw [if_pos ok]
  unfold PySem.W.mroIn
  rw [e1, Option.bind_some, e2]
  simp

abbrev sI2 : Stmt := inClass (top 2) 0
abbrev sI3 : Stmt := inClass (top 3) 0
abbrev sI4 : Stmt := inClass (top 4) 0
abbrev sI5 : Stmt := inClass (top 5) 0
abbrev sI6 : Stmt := inClass (top 6) 0
abbrev sI7 : Stmt := inClass (top 7) 0
abbrev sI8 : Stmt := inClass (top 8) 0
abbrev sI9 : Stmt := inClass (top 9) 0
abbrev sI10 : Stmt := inClass (top 10) 0
abbrev sI11 : Stmt := inClass (top 11) 0
section
variable {P : Program} {w : World} {K : PySem.W.Frag} {mg : Str → Option Value} {base : Heap}
theorem scI2 : SupScope ["self", "column"] ["self", "column"] (defScope sI2) := ⟨rfl, rfl, rfl, by decide +kernel, rfl, by decide +kernel, by decide +kernel, by decide +kernel, rfl, rfl⟩
theorem ok_i2 {C f : Addr} {fd : FuncData} (F : FunS K P "BadText.__init__" sI2 C f fd) : FnOk P w K mg base CX0 1 f fd ["self", "column"] (spI1 K C "column") := by
  refine fn_sup F scI2 rfl (fun _ => rfl) rfl rfl (fun vs H Q E h => ?_) (fun cda cc A outer s H vs Q E h => ?_)
  · obtain ⟨a, v, rfl, _⟩ := h
    rfl
  · have h0 := h
    obtain ⟨a, v, rfl, T, no, ea, _⟩ := h
    exact ⟨a, _, _, rfl, T, ea, pss_one (ps_ost (pv 0) (pv 1)), run1 h0⟩
theorem scI3 : SupScope ["self", "line", "column"] ["self", "line", "column"] (defScope sI3) := ⟨rfl, rfl, rfl, by decide +kernel, rfl, by decide +kernel, by decide +kernel, by decide +kernel, rfl, rfl⟩
theorem ok_i3 {C f : Addr} {fd : FuncData} (F : FunS K P "BadLine.__init__" sI3 C f fd) : FnOk P w K mg base CX0 1 f fd ["self", "line", "column"] (spI2 K C "line" "column") := by
  refine fn_sup F scI3 rfl (fun _ => rfl) rfl rfl (fun vs H Q E h => ?_) (fun cda cc A outer s H vs Q E h => ?_)
  · obtain ⟨a, v, u, rfl, _⟩ := h
    rfl
  · have h0 := h
    obtain ⟨a, v, u, rfl, T, no, no2, ea, _⟩ := h
    exact ⟨a, _, _, rfl, T, ea, pss_cons (ps_ost (pv 0) (pv 1)) (pss_one (ps_ost (pv 0) (pv 2))), run2 h0⟩
theorem scI4 : SupScope ["self", "what", "number"] ["self", "what", "number"] (defScope sI4) := ⟨rfl, rfl, rfl, by decide +kernel, rfl, by decide +kernel, by decide +kernel, by decide +kernel, rfl, rfl⟩
theorem ok_i4 {C f : Addr} {fd : FuncData} (F : FunS K P "BadNumber.__init__" sI4 C f fd) : FnOk P w K mg base CX0 1 f fd ["self", "what", "number"] (spI2 K C "what" "number") := by
  refine fn_sup F scI4 rfl (fun _ => rfl) rfl rfl (fun vs H Q E h => ?_) (fun cda cc A outer s H vs Q E h => ?_)
  · obtain ⟨a, v, u, rfl, _⟩ := h
    rfl
  · have h0 := h
    obtain ⟨a, v, u, rfl, T, no, no2, ea, _⟩ := h
    exact ⟨a, _, _, rfl, T, ea, pss_cons (ps_ost (pv 0) (pv 1)) (pss_one (ps_ost (pv 0) (pv 2))), run2 h0⟩
theorem scI5 : SupScope ["self", "row"] ["self", "row"] (defScope sI5) := ⟨rfl, rfl, rfl, by decide +kernel, rfl, by decide +kernel, by decide +kernel, by decide +kernel, rfl, rfl⟩
theorem ok_i5 {C f : Addr} {fd : FuncData} (F : FunS K P "BadRow.__init__" sI5 C f fd) : FnOk P w K mg base CX0 1 f fd ["self", "row"] (spI1 K C "row") := by
  refine fn_sup F scI5 rfl (fun _ => rfl) rfl rfl (fun vs H Q E h => ?_) (fun cda cc A outer s H vs Q E h => ?_)
  · obtain ⟨a, v, rfl, _⟩ := h
    rfl
  · have h0 := h
    obtain ⟨a, v, rfl, T, no, ea, _⟩ := h
    exact ⟨a, _, _, rfl, T, ea, pss_one (ps_ost (pv 0) (pv 1)), run1 h0⟩
theorem scI6 : SupScope ["self", "low", "high"] ["self", "low", "high"] (defScope sI6) := ⟨rfl, rfl, rfl, by decide +kernel, rfl, by decide +kernel, by decide +kernel, by decide +kernel, rfl, rfl⟩
theorem ok_i6 {C f : Addr} {fd : FuncData} (F : FunS K P "BadInterval.__init__" sI6 C f fd) : FnOk P w K mg base CX0 1 f fd ["self", "low", "high"] (spI2 K C "low" "high") := by
  refine fn_sup F scI6 rfl (fun _ => rfl) rfl rfl (fun vs H Q E h => ?_) (fun cda cc A outer s H vs Q E h => ?_)
  · obtain ⟨a, v, u, rfl, _⟩ := h
    rfl
  · have h0 := h
    obtain ⟨a, v, u, rfl, T, no, no2, ea, _⟩ := h
    exact ⟨a, _, _, rfl, T, ea, pss_cons (ps_ost (pv 0) (pv 1)) (pss_one (ps_ost (pv 0) (pv 2))), run2 h0⟩
theorem scI7 : SupScope ["self", "name"] ["self", "name"] (defScope sI7) := ⟨rfl, rfl, rfl, by decide +kernel, rfl, by decide +kernel, by decide +kernel, by decide +kernel, rfl, rfl⟩
theorem ok_i7 {C f : Addr} {fd : FuncData} (F : FunS K P "BadName.__init__" sI7 C f fd) : FnOk P w K mg base CX0 1 f fd ["self", "name"] (spI1 K C "name") := by
  refine fn_sup F scI7 rfl (fun _ => rfl) rfl rfl (fun vs H Q E h => ?_) (fun cda cc A outer s H vs Q E h => ?_)
  · obtain ⟨a, v, rfl, _⟩ := h
    rfl
  · have h0 := h
    obtain ⟨a, v, rfl, T, no, ea, _⟩ := h
    exact ⟨a, _, _, rfl, T, ea, pss_one (ps_ost (pv 0) (pv 1)), run1 h0⟩
theorem scI8 : SupScope ["self", "what"] ["self", "what"] (defScope sI8) := ⟨rfl, rfl, rfl, by decide +kernel, rfl, by decide +kernel, by decide +kernel, by decide +kernel, rfl, rfl⟩
theorem ok_i8 {C f : Addr} {fd : FuncData} (F : FunS K P "Unlike.__init__" sI8 C f fd) : FnOk P w K mg base CX0 1 f fd ["self", "what"] (spI1 K C "what") := by
  refine fn_sup F scI8 rfl (fun _ => rfl) rfl rfl (fun vs H Q E h => ?_) (fun cda cc A outer s H vs Q E h => ?_)
  · obtain ⟨a, v, rfl, _⟩ := h
    rfl
  · have h0 := h
    obtain ⟨a, v, rfl, T, no, ea, _⟩ := h
    exact ⟨a, _, _, rfl, T, ea, pss_one (ps_ost (pv 0) (pv 1)), run1 h0⟩
theorem scI9 : SupScope ["self", "name"] ["self", "name"] (defScope sI9) := ⟨rfl, rfl, rfl, by decide +kernel, rfl, by decide +kernel, by decide +kernel, by decide +kernel, rfl, rfl⟩
theorem ok_i9 {C f : Addr} {fd : FuncData} (F : FunS K P "NoName.__init__" sI9 C f fd) : FnOk P w K mg base CX0 1 f fd ["self", "name"] (spI1 K C "name") := by
  refine fn_sup F scI9 rfl (fun _ => rfl) rfl rfl (fun vs H Q E h => ?_) (fun cda cc A outer s H vs Q E h => ?_)
  · obtain ⟨a, v, rfl, _⟩ := h
    rfl
  · have h0 := h
    obtain ⟨a, v, rfl, T, no, ea, _⟩ := h
    exact ⟨a, _, _, rfl, T, ea, pss_one (ps_ost (pv 0) (pv 1)), run1 h0⟩
theorem scI10 : SupScope ["self", "name"] ["self", "name"] (defScope sI10) := ⟨rfl, rfl, rfl, by decide +kernel, rfl, by decide +kernel, by decide +kernel, by decide +kernel, rfl, rfl⟩
theorem ok_i10 {C f : Addr} {fd : FuncData} (F : FunS K P "TakenName.__init__" sI10 C f fd) : FnOk P w K mg base CX0 1 f fd ["self", "name"] (spI1 K C "name") := by
  refine fn_sup F scI10 rfl (fun _ => rfl) rfl rfl (fun vs H Q E h => ?_) (fun cda cc A outer s H vs Q E h => ?_)
  · obtain ⟨a, v, rfl, _⟩ := h
    rfl
  · have h0 := h
    obtain ⟨a, v, rfl, T, no, ea, _⟩ := h
    exact ⟨a, _, _, rfl, T, ea, pss_one (ps_ost (pv 0) (pv 1)), run1 h0⟩
theorem scI11 : SupScope ["self", "promise", "witness"] ["self", "promise", "witness"] (defScope sI11) := ⟨rfl, rfl, rfl, by decide +kernel, rfl, by decide +kernel, by decide +kernel, by decide +kernel, rfl, rfl⟩
theorem ok_i11 {C f : Addr} {fd : FuncData} (F : FunS K P "NotKept.__init__" sI11 C f fd) : FnOk P w K mg base CX0 1 f fd ["self", "promise", "witness"] (spI2 K C "promise" "witness") := by
  refine fn_sup F scI11 rfl (fun _ => rfl) rfl rfl (fun vs H Q E h => ?_) (fun cda cc A outer s H vs Q E h => ?_)
  · obtain ⟨a, v, u, rfl, _⟩ := h
    rfl
  · have h0 := h
    obtain ⟨a, v, u, rfl, T, no, no2, ea, _⟩ := h
    exact ⟨a, _, _, rfl, T, ea, pss_cons (ps_ost (pv 0) (pv 1)) (pss_one (ps_ost (pv 0) (pv 2))), run2 h0⟩
end
end Kz
set_option linter.all false
set_option maxRecDepth 100000
set_option maxHeartbeats 4000000
namespace Kz
open PySem PySem.Spec PyProof.Rows L2
theorem Same.new {H : Hp} {p : Addr} {o : HO} (n : H p = none) : Same H (upd H p o) := fun b u e => by
  rw [upd_ne (ne_of_none e n)]
  exact e
/-- the classes, by their places in the text -/
structure Cs where
  b : Addr
  c2 : Addr
  c3 : Addr
  c4 : Addr
  c5 : Addr
  c6 : Addr
  c7 : Addr
  c8 : Addr
  c9 : Addr
  c10 : Addr
  c11 : Addr
  c12 : Addr
  c13 : Addr
def Cs.l (c : Cs) : List Addr := [c.c2, c.c3, c.c4, c.c5, c.c6, c.c7, c.c8, c.c9, c.c10, c.c11, c.c12, c.c13]
structure Txt (K : PySem.W.Frag) (mg : Str → Option Value) (c : Cs) (mc : Value) : Prop where
  blt : Blt mg
  mIsinstance : mg "isinstance" = none
  mValueerror : mg "ValueError" = none
  mRepr : mg "repr" = none
  mStr : mg "str" = none
  mEnumerate : mg "enumerate" = none
  mZip : mg "zip" = none
  base : BaseT K mg c.b mc
  e2 : ErrT K mg "BadText" c.b c.c2
  n2a : PySem.W.findIn K (.ref c.c2) "column" = some none
  e3 : ErrT K mg "BadLine" c.b c.c3
  n3a : PySem.W.findIn K (.ref c.c3) "line" = some none
  n3b : PySem.W.findIn K (.ref c.c3) "column" = some none
  e4 : ErrT K mg "BadNumber" c.b c.c4
  n4a : PySem.W.findIn K (.ref c.c4) "what" = some none
  n4b : PySem.W.findIn K (.ref c.c4) "number" = some none
  e5 : ErrT K mg "BadRow" c.b c.c5
  n5a : PySem.W.findIn K (.ref c.c5) "row" = some none
  e6 : ErrT K mg "BadInterval" c.b c.c6
  n6a : PySem.W.findIn K (.ref c.c6) "low" = some none
  n6b : PySem.W.findIn K (.ref c.c6) "high" = some none
  e7 : ErrT K mg "BadName" c.b c.c7
  n7a : PySem.W.findIn K (.ref c.c7) "name" = some none
  e8 : ErrT K mg "Unlike" c.b c.c8
  n8a : PySem.W.findIn K (.ref c.c8) "what" = some none
  e9 : ErrT K mg "NoName" c.b c.c9
  n9a : PySem.W.findIn K (.ref c.c9) "name" = some none
  e10 : ErrT K mg "TakenName" c.b c.c10
  n10a : PySem.W.findIn K (.ref c.c10) "name" = some none
  e11 : ErrT K mg "NotKept" c.b c.c11
  n11a : PySem.W.findIn K (.ref c.c11) "promise" = some none
  n11b : PySem.W.findIn K (.ref c.c11) "witness" = some none
  e12 : ErrT K mg "NothingToUndo" c.b c.c12
  e13 : ErrT K mg "NothingToRedo" c.b c.c13
  x12 : PySem.W.excIn K c.c12 [.type "ValueError", .type "Exception", .type "BaseException", .type "object"] "ValueError.__new__" = true
  x13 : PySem.W.excIn K c.c13 [.type "ValueError", .type "Exception", .type "BaseException", .type "object"] "ValueError.__new__" = true
  nd : c.l.Nodup
  nb : ∀ C ∈ c.l, C ≠ c.b
def kindsOf (v u : V) : List (Option (List (Str × V))) := [some [(("column" : Str), v)], some [(("column" : Str), u), (("line" : Str), v)], some [(("number" : Str), u), (("what" : Str), v)], some [(("row" : Str), v)], some [(("high" : Str), u), (("low" : Str), v)], some [(("name" : Str), v)], some [(("what" : Str), v)], some [(("name" : Str), v)], some [(("name" : Str), v)], some [(("witness" : Str), u), (("promise" : Str), v)], none, none]
def fssOf (v u : V) : List (List V) := [[v], [v, u], [v, u], [v], [v, u], [v], [v], [v], [v], [v, u], [], []]
def EObj (H : Hp) (a C : Addr) : Option (List (Str × V)) → Prop
  | some fs => EAt H a C fs
  | none => H a = some (exo a C none)
theorem EObj.same {H H' : Hp} {a C : Addr} {o : Option (List (Str × V))} (h : EObj H a C o) (s : Same H H') : EObj H' a C o := by
  cases o with
  | none => exact s _ _ h
  | some fs => exact EAt.same h s
/-- the twelve objects -/
structure Row (H : Hp) (c : Cs) (es : List Addr) (v u : V) : Prop where
  many : es.length = 12
  at_ : ∀ (i : Nat) (a C : Addr) (o : Option (List (Str × V))), es[i]? = some a → c.l[i]? = some C → (kindsOf v u)[i]? = some o → EObj H a C o
theorem Row.same {H H' : Hp} {c : Cs} {es : List Addr} {v u : V} (h : Row H c es v u) (s : Same H H') : Row H' c es v u := ⟨h.many, fun i a C o e1 e2 e3 => (h.at_ i a C o e1 e2 e3).same s⟩
def spObjs (c : Cs) : Sp := fun vs H Q _ => ∃ v u : V, vs = [v, u] ∧ ∀ (H' : Hp) (p : Addr) (es : List Addr), Same H H' → H' p = some (.lst (es.map V.ref)) → Row H' c es v u → Q (.ref p) H'
theorem err1 {K : PySem.W.Frag} {C : Addr} {f : Str} {v : V} {H : Hp} {Q : Addr → Hp → Prop} (T : OexC K C) (no : PySem.W.findIn K (.ref C) f = some none)
    (k : ∀ (a : Addr) (H' : Hp), Same H H' → EAt H' a C [(f, v)] → Q a H') :
    [v].length ≤ 1000 ∧ ∀ a, H a = none → spI1 K C f (.ref a :: [v]) (upd H a (exo a C none)) (fun x H2 => x = .non ∧ Q a H2) fun _ _ _ => False :=
  ⟨by show 1 ≤ 1000; decide, fun a n => ⟨a, v, rfl, T, no, upd_same, fun H' e b => ⟨rfl, k a H' (same_new n b) e⟩⟩⟩
theorem err2 {K : PySem.W.Frag} {C : Addr} {f g : Str} {v u : V} {H : Hp} {Q : Addr → Hp → Prop} (T : OexC K C) (no : PySem.W.findIn K (.ref C) f = some none) (no2 : PySem.W.findIn K (.ref C) g = some none)
    (k : ∀ (a : Addr) (H' : Hp), Same H H' → EAt H' a C [(g, u), (f, v)] → Q a H') :
    [v, u].length ≤ 1000 ∧ ∀ a, H a = none → spI2 K C f g (.ref a :: [v, u]) (upd H a (exo a C none)) (fun x H2 => x = .non ∧ Q a H2) fun _ _ _ => False :=
  ⟨by show 2 ≤ 1000; decide, fun a n => ⟨a, v, u, rfl, T, no, no2, upd_same, fun H' e b => ⟨rfl, k a H' (same_new n b) e⟩⟩⟩
theorem lk1 {f : Str} {y : V} {fs : List (Str × V)} : ((f, y) :: fs).lookup f = some y := by
  rw [lookup_put, if_pos rfl]
theorem lk2 {f g : Str} {x y : V} (h : ¬ g = f) : ((f, y) :: [(g, x)]).lookup g = some x := by
  rw [lookup_put, if_neg h]
  exact lk1
theorem getF {K : PySem.W.Frag} {mg : Str → Option Value} {x : Str} {B a C : Addr} {f : Str} {v : V} {fs : List (Str × V)} {H : Hp} {Q : V → Prop} (T : ErrT K mg x B C) (no : PySem.W.findIn K (.ref C) f = some none) (e : EAt H a C fs) (l : fs.lookup f = some v) (q : Q v) :
    ∃ (a' C' dd : Addr) (fs' : List (Str × V)) (v' : V), V.ref a = V.ref a' ∧ XfC K C' ∧ PySem.W.findIn K (.ref C') f = some none ∧ H a' = some (exo a' C' (some dd)) ∧ H dd = some (exd dd fs') ∧ fs'.lookup f = some v' ∧ Q v' := by
  obtain ⟨d, e1, e2⟩ := e
  exact ⟨a, C, d, fs, v, rfl, T.xf, no, e1, e2, l, q⟩
abbrev sKinds : Stmt := top 19
abbrev sObjs : Stmt := top 20
abbrev sFields : Stmt := top 21
section
variable {P : Program} {w : World} {K : PySem.W.Frag} {mg : Str → Option Value} {base : Heap} {c : Cs} {mc : Value}
theorem scObjs : FnScope ["_law_a", "_law_b", "_law_first"] ["_law_a", "_law_b"] (defScope sObjs) := ⟨rfl, rfl, rfl, by decide +kernel, rfl, by decide +kernel, by decide +kernel⟩
/-- the classes' __init__ as they stand -/
structure Inits (K : PySem.W.Frag) (P : Program) (c : Cs) (f : Nat → Addr) (fd : Nat → FuncData) : Prop where
  i2 : InitT K P "BadText.__init__" sI2 c.c2 (f 2) (fd 2)
  b2 : Binds K (fd 2) ["self", "column"] []
  i3 : InitT K P "BadLine.__init__" sI3 c.c3 (f 3) (fd 3)
  b3 : Binds K (fd 3) ["self", "line", "column"] []
  i4 : InitT K P "BadNumber.__init__" sI4 c.c4 (f 4) (fd 4)
  b4 : Binds K (fd 4) ["self", "what", "number"] []
  i5 : InitT K P "BadRow.__init__" sI5 c.c5 (f 5) (fd 5)
  b5 : Binds K (fd 5) ["self", "row"] []
  i6 : InitT K P "BadInterval.__init__" sI6 c.c6 (f 6) (fd 6)
  b6 : Binds K (fd 6) ["self", "low", "high"] []
  i7 : InitT K P "BadName.__init__" sI7 c.c7 (f 7) (fd 7)
  b7 : Binds K (fd 7) ["self", "name"] []
  i8 : InitT K P "Unlike.__init__" sI8 c.c8 (f 8) (fd 8)
  b8 : Binds K (fd 8) ["self", "what"] []
  i9 : InitT K P "NoName.__init__" sI9 c.c9 (f 9) (fd 9)
  b9 : Binds K (fd 9) ["self", "name"] []
  i10 : InitT K P "TakenName.__init__" sI10 c.c10 (f 10) (fd 10)
  b10 : Binds K (fd 10) ["self", "name"] []
  i11 : InitT K P "NotKept.__init__" sI11 c.c11 (f 11) (fd 11)
  b11 : Binds K (fd 11) ["self", "promise", "witness"] []
theorem ok_objs {f : Addr} {fd : FuncData} {fi : Nat → Addr} {di : Nat → FuncData} (F : Fun K "_law_objects" "_law_objects" sObjs f fd) (T : Txt K mg c mc) (N : Inits K P c fi di) : FnOk P w K mg base CX0 3 f fd ["_law_a", "_law_b"] (spObjs c) := by
  refine F.ok scObjs (fun vs H Q E h => ?_) (fun cdv A outer s H vs Q E hr h => ?_)
  · obtain ⟨v, u, rfl, _⟩ := h
    rfl
  · obtain ⟨v, u, rfl, k⟩ := h
    refine ⟨_, pss_cons (ps_set (i := 2) scObjs.nd rfl (.inl rfl) (pe_lst (pa_cons (pe_err T.e2.o N.i2.i N.i2.t (ok_i2 N.i2.fn) hr N.b2 pass0 rfl T.e2.g (pa_cons (pv 0) pa_nil)) (pa_cons (pe_err T.e3.o N.i3.i N.i3.t (ok_i3 N.i3.fn) hr N.b3 pass0 rfl T.e3.g (pa_cons (pv 0) (pa_cons (pv 1) pa_nil))) (pa_cons (pe_err T.e4.o N.i4.i N.i4.t (ok_i4 N.i4.fn) hr N.b4 pass0 rfl T.e4.g (pa_cons (pv 0) (pa_cons (pv 1) pa_nil))) (pa_cons (pe_err T.e5.o N.i5.i N.i5.t (ok_i5 N.i5.fn) hr N.b5 pass0 rfl T.e5.g (pa_cons (pv 0) pa_nil)) (pa_cons (pe_err T.e6.o N.i6.i N.i6.t (ok_i6 N.i6.fn) hr N.b6 pass0 rfl T.e6.g (pa_cons (pv 0) (pa_cons (pv 1) pa_nil))) (pa_cons (pe_err T.e7.o N.i7.i N.i7.t (ok_i7 N.i7.fn) hr N.b7 pass0 rfl T.e7.g (pa_cons (pv 0) pa_nil)) (pa_cons (pe_err T.e8.o N.i8.i N.i8.t (ok_i8 N.i8.fn) hr N.b8 pass0 rfl T.e8.g (pa_cons (pv 0) pa_nil)) (pa_cons (pe_err T.e9.o N.i9.i N.i9.t (ok_i9 N.i9.fn) hr N.b9 pass0 rfl T.e9.g (pa_cons (pv 0) pa_nil)) pa_nil))))))))))
      (pss_one (ps_ret (pe_op op_cat (pv 2) (pe_lst (pa_cons (pe_err T.e10.o N.i10.i N.i10.t (ok_i10 N.i10.fn) hr N.b10 pass0 rfl T.e10.g (pa_cons (pv 0) pa_nil)) (pa_cons (pe_err T.e11.o N.i11.i N.i11.t (ok_i11 N.i11.fn) hr N.b11 pass0 rfl T.e11.g (pa_cons (pv 0) (pa_cons (pv 1) pa_nil))) (pa_cons (pe_err0 PySem.F.excBase_ValueError T.x12 T.e12.g T.e12.o.kC rfl) (pa_cons (pe_err0 PySem.F.excBase_ValueError T.x13 T.e13.g T.e13.o.kC rfl) pa_nil)))))))), ?_⟩
    refine ⟨_, rfl, err1 T.e2.o T.n2a fun a2 H2 s2 x2 => ?_⟩
    refine ⟨_, rfl, _, rfl, err2 T.e3.o T.n3a T.n3b fun a3 H3 s3 x3 => ?_⟩
    refine ⟨_, rfl, _, rfl, err2 T.e4.o T.n4a T.n4b fun a4 H4 s4 x4 => ?_⟩
    refine ⟨_, rfl, err1 T.e5.o T.n5a fun a5 H5 s5 x5 => ?_⟩
    refine ⟨_, rfl, _, rfl, err2 T.e6.o T.n6a T.n6b fun a6 H6 s6 x6 => ?_⟩
    refine ⟨_, rfl, err1 T.e7.o T.n7a fun a7 H7 s7 x7 => ?_⟩
    refine ⟨_, rfl, err1 T.e8.o T.n8a fun a8 H8 s8 x8 => ?_⟩
    refine ⟨_, rfl, err1 T.e9.o T.n9a fun a9 H9 s9 x9 => ?_⟩
    refine ⟨(by show 8 ≤ sizeLine; decide), fun p1 n1 => ?_⟩
    have t1 := Same.new (o := .lst [V.ref a2, V.ref a3, V.ref a4, V.ref a5, V.ref a6, V.ref a7, V.ref a8, V.ref a9]) n1
    refine ⟨_, rfl, ?_⟩
    refine ⟨_, rfl, err1 T.e10.o T.n10a fun a10 H10 s10 x10 => ?_⟩
    refine ⟨_, rfl, _, rfl, err2 T.e11.o T.n11a T.n11b fun a11 H11 s11 x11 => ?_⟩
    intro a12 n12
    have t12 := Same.new (o := exo a12 c.c12 none) n12
    intro a13 n13
    have t13 := Same.new (o := exo a13 c.c13 none) n13
    refine ⟨(by show 4 ≤ sizeLine; decide), fun p2 n2 => ?_⟩
    have t2 := Same.new (o := .lst [V.ref a10, V.ref a11, V.ref a12, V.ref a13]) n2
    refine ⟨p1, p2, _, _, rfl, rfl, t2 _ _ (t13 _ _ (t12 _ _ (s11 _ _ (s10 _ _ upd_same)))), upd_same, (by show 8 + 4 ≤ sizeLine; decide), fun p3 n3 => ?_⟩
    have t3 := Same.new (o := .lst ([V.ref a2, V.ref a3, V.ref a4, V.ref a5, V.ref a6, V.ref a7, V.ref a8, V.ref a9] ++ [V.ref a10, V.ref a11, V.ref a12, V.ref a13])) n3
    have g14 := t3
    have g_t2 := Same.trans t2 t3
    have g_t13 := Same.trans t13 g_t2
    have g_t12 := Same.trans t12 g_t13
    have g_s11 := Same.trans s11 g_t12
    have g_s10 := Same.trans s10 g_s11
    have g_t1 := Same.trans t1 g_s10
    have g_s9 := Same.trans s9 g_t1
    have g_s8 := Same.trans s8 g_s9
    have g_s7 := Same.trans s7 g_s8
    have g_s6 := Same.trans s6 g_s7
    have g_s5 := Same.trans s5 g_s6
    have g_s4 := Same.trans s4 g_s5
    have g_s3 := Same.trans s3 g_s4
    have g_s2 := Same.trans s2 g_s3
    refine k _ p3 [a2, a3, a4, a5, a6, a7, a8, a9, a10, a11, a12, a13] g_s2 upd_same ⟨rfl, ?_⟩
    intro i a C o e1 e2 e3
    match i, e1, e2, e3 with
    | 0, e1, e2, e3 => cases e1; cases e2; cases e3; exact EAt.same x2 g_s3
    | 1, e1, e2, e3 => cases e1; cases e2; cases e3; exact EAt.same x3 g_s4
    | 2, e1, e2, e3 => cases e1; cases e2; cases e3; exact EAt.same x4 g_s5
    | 3, e1, e2, e3 => cases e1; cases e2; cases e3; exact EAt.same x5 g_s6
    | 4, e1, e2, e3 => cases e1; cases e2; cases e3; exact EAt.same x6 g_s7
    | 5, e1, e2, e3 => cases e1; cases e2; cases e3; exact EAt.same x7 g_s8
    | 6, e1, e2, e3 => cases e1; cases e2; cases e3; exact EAt.same x8 g_s9
    | 7, e1, e2, e3 => cases e1; cases e2; cases e3; exact EAt.same x9 g_t1
    | 8, e1, e2, e3 => cases e1; cases e2; cases e3; exact EAt.same x10 g_s11
    | 9, e1, e2, e3 => cases e1; cases e2; cases e3; exact EAt.same x11 g_t12
    | 10, e1, e2, e3 => cases e1; cases e2; cases e3; exact g_t13 _ _ upd_same
    | 11, e1, e2, e3 => cases e1; cases e2; cases e3; exact g_t2 _ _ upd_same
    | n + 12, e1, _, _ => cases e1
/-- what isinstance says of the twelve classes -/
def spKinds (K : PySem.W.Frag) (c : Cs) : Sp := fun vs H Q _ => ∃ (a D : Addr) (od : Option Addr) (b2 b3 b4 b5 b6 b7 b8 b9 b10 b11 b12 b13 : Bool), vs = [.ref a] ∧ ExcC K D ∧ H a = some (exo a D od) ∧ (∀ dd, od = some dd → ∃ fs, H dd = some (exd dd fs)) ∧
  (PySem.W.kitOne K (.ref D) (.ref c.c2) = some b2 ∧ PySem.W.kitOne K (.ref D) (.ref c.c3) = some b3 ∧ PySem.W.kitOne K (.ref D) (.ref c.c4) = some b4 ∧ PySem.W.kitOne K (.ref D) (.ref c.c5) = some b5 ∧ PySem.W.kitOne K (.ref D) (.ref c.c6) = some b6 ∧ PySem.W.kitOne K (.ref D) (.ref c.c7) = some b7 ∧ PySem.W.kitOne K (.ref D) (.ref c.c8) = some b8 ∧ PySem.W.kitOne K (.ref D) (.ref c.c9) = some b9 ∧ PySem.W.kitOne K (.ref D) (.ref c.c10) = some b10 ∧ PySem.W.kitOne K (.ref D) (.ref c.c11) = some b11 ∧ PySem.W.kitOne K (.ref D) (.ref c.c12) = some b12 ∧ PySem.W.kitOne K (.ref D) (.ref c.c13) = some b13) ∧
  ∀ (H' : Hp) (p : Addr), Same H H' → H' p = some (.lst [V.bl b2, V.bl b3, V.bl b4, V.bl b5, V.bl b6, V.bl b7, V.bl b8, V.bl b9, V.bl b10, V.bl b11, V.bl b12, V.bl b13]) → Q (.ref p) H'
theorem scKinds : FnScope ["_law_e", "_law_first"] ["_law_e"] (defScope sKinds) := ⟨rfl, rfl, rfl, by decide +kernel, rfl, by decide +kernel, by decide +kernel⟩
theorem ok_kinds {f : Addr} {fd : FuncData} (F : Fun K "_law_kinds" "_law_kinds" sKinds f fd) (T : Txt K mg c mc) : FnOk P w K mg base CX0 1 f fd ["_law_e"] (spKinds K c) := by
  refine F.ok scKinds (fun vs H Q E h => ?_) (fun cdv A outer s H vs Q E hr h => ?_)
  · obtain ⟨a, D, od, b2, b3, b4, b5, b6, b7, b8, b9, b10, b11, b12, b13, rfl, _⟩ := h
    rfl
  · obtain ⟨a, D, od, b2, b3, b4, b5, b6, b7, b8, b9, b10, b11, b12, b13, rfl, xD, ea, ed, ⟨k2, k3, k4, k5, k6, k7, k8, k9, k10, k11, k12, k13⟩, k⟩ := h
    refine ⟨_, pss_cons (ps_set (i := 1) scKinds.nd rfl (.inl rfl) (pe_lst (pa_cons (pe_callB call_isErr (by rfl) T.mIsinstance boot_isinstance (pa_cons (pv 0) (pa_cons (pe_glob (v := V.ref c.c2) rfl T.e2.g rfl) pa_nil))) (pa_cons (pe_callB call_isErr (by rfl) T.mIsinstance boot_isinstance (pa_cons (pv 0) (pa_cons (pe_glob (v := V.ref c.c3) rfl T.e3.g rfl) pa_nil))) (pa_cons (pe_callB call_isErr (by rfl) T.mIsinstance boot_isinstance (pa_cons (pv 0) (pa_cons (pe_glob (v := V.ref c.c4) rfl T.e4.g rfl) pa_nil))) (pa_cons (pe_callB call_isErr (by rfl) T.mIsinstance boot_isinstance (pa_cons (pv 0) (pa_cons (pe_glob (v := V.ref c.c5) rfl T.e5.g rfl) pa_nil))) pa_nil))))))
      (pss_cons (ps_set (i := 1) scKinds.nd rfl (.inl rfl) (pe_op op_cat (pv 1) (pe_lst (pa_cons (pe_callB call_isErr (by rfl) T.mIsinstance boot_isinstance (pa_cons (pv 0) (pa_cons (pe_glob (v := V.ref c.c6) rfl T.e6.g rfl) pa_nil))) (pa_cons (pe_callB call_isErr (by rfl) T.mIsinstance boot_isinstance (pa_cons (pv 0) (pa_cons (pe_glob (v := V.ref c.c7) rfl T.e7.g rfl) pa_nil))) (pa_cons (pe_callB call_isErr (by rfl) T.mIsinstance boot_isinstance (pa_cons (pv 0) (pa_cons (pe_glob (v := V.ref c.c8) rfl T.e8.g rfl) pa_nil))) (pa_cons (pe_callB call_isErr (by rfl) T.mIsinstance boot_isinstance (pa_cons (pv 0) (pa_cons (pe_glob (v := V.ref c.c9) rfl T.e9.g rfl) pa_nil))) pa_nil)))))))
      (pss_cons (ps_set (i := 1) scKinds.nd rfl (.inl rfl) (pe_op op_cat (pv 1) (pe_lst (pa_cons (pe_callB call_isErr (by rfl) T.mIsinstance boot_isinstance (pa_cons (pv 0) (pa_cons (pe_glob (v := V.ref c.c10) rfl T.e10.g rfl) pa_nil))) (pa_cons (pe_callB call_isErr (by rfl) T.mIsinstance boot_isinstance (pa_cons (pv 0) (pa_cons (pe_glob (v := V.ref c.c11) rfl T.e11.g rfl) pa_nil))) pa_nil)))))
      (pss_one (ps_ret (pe_op op_cat (pv 1) (pe_lst (pa_cons (pe_callB call_isErr (by rfl) T.mIsinstance boot_isinstance (pa_cons (pv 0) (pa_cons (pe_glob (v := V.ref c.c12) rfl T.e12.g rfl) pa_nil))) (pa_cons (pe_callB call_isErr (by rfl) T.mIsinstance boot_isinstance (pa_cons (pv 0) (pa_cons (pe_glob (v := V.ref c.c13) rfl T.e13.g rfl) pa_nil))) pa_nil)))))))), ?_⟩
    refine ⟨_, rfl, a, D, od, _, _, _, rfl, xD, (Same.refl H) _ _ ea, fun dd z => (ed dd z).imp fun fs x => (Same.refl H) _ _ x, fun _ r => r, k2, ?_⟩
    refine ⟨_, rfl, a, D, od, _, _, _, rfl, xD, (Same.refl H) _ _ ea, fun dd z => (ed dd z).imp fun fs x => (Same.refl H) _ _ x, fun _ r => r, k3, ?_⟩
    refine ⟨_, rfl, a, D, od, _, _, _, rfl, xD, (Same.refl H) _ _ ea, fun dd z => (ed dd z).imp fun fs x => (Same.refl H) _ _ x, fun _ r => r, k4, ?_⟩
    refine ⟨_, rfl, a, D, od, _, _, _, rfl, xD, (Same.refl H) _ _ ea, fun dd z => (ed dd z).imp fun fs x => (Same.refl H) _ _ x, fun _ r => r, k5, ?_⟩
    refine ⟨(by show 4 ≤ sizeLine; decide), fun p1 n1 => ?_⟩
    have s1 := Same.new (o := .lst [V.bl b2, V.bl b3, V.bl b4, V.bl b5]) n1
    refine ⟨_, rfl, ?_⟩
    refine ⟨_, rfl, a, D, od, _, _, _, rfl, xD, s1 _ _ ea, fun dd z => (ed dd z).imp fun fs x => s1 _ _ x, fun _ r => r, k6, ?_⟩
    refine ⟨_, rfl, a, D, od, _, _, _, rfl, xD, s1 _ _ ea, fun dd z => (ed dd z).imp fun fs x => s1 _ _ x, fun _ r => r, k7, ?_⟩
    refine ⟨_, rfl, a, D, od, _, _, _, rfl, xD, s1 _ _ ea, fun dd z => (ed dd z).imp fun fs x => s1 _ _ x, fun _ r => r, k8, ?_⟩
    refine ⟨_, rfl, a, D, od, _, _, _, rfl, xD, s1 _ _ ea, fun dd z => (ed dd z).imp fun fs x => s1 _ _ x, fun _ r => r, k9, ?_⟩
    refine ⟨(by show 4 ≤ sizeLine; decide), fun q1 m1 => ?_⟩
    have r1 := Same.new (o := .lst [V.bl b6, V.bl b7, V.bl b8, V.bl b9]) m1
    refine ⟨p1, q1, _, _, rfl, rfl, r1 _ _ upd_same, upd_same, (by show 4 + 4 ≤ sizeLine; decide), fun p2 n2 => ?_⟩
    have z1 : Same H _ := Same.trans s1 (Same.trans r1 (Same.new (o := .lst ([V.bl b2, V.bl b3, V.bl b4, V.bl b5] ++ [V.bl b6, V.bl b7, V.bl b8, V.bl b9])) n2))
    refine ⟨_, rfl, ?_⟩
    refine ⟨_, rfl, a, D, od, _, _, _, rfl, xD, z1 _ _ ea, fun dd z => (ed dd z).imp fun fs x => z1 _ _ x, fun _ r => r, k10, ?_⟩
    refine ⟨_, rfl, a, D, od, _, _, _, rfl, xD, z1 _ _ ea, fun dd z => (ed dd z).imp fun fs x => z1 _ _ x, fun _ r => r, k11, ?_⟩
    refine ⟨(by show 2 ≤ sizeLine; decide), fun q2 m2 => ?_⟩
    have r2 := Same.new (o := .lst [V.bl b10, V.bl b11]) m2
    refine ⟨p2, q2, _, _, rfl, rfl, r2 _ _ upd_same, upd_same, (by show 8 + 2 ≤ sizeLine; decide), fun p3 n3 => ?_⟩
    have z2 : Same H _ := Same.trans z1 (Same.trans r2 (Same.new (o := .lst ([V.bl b2, V.bl b3, V.bl b4, V.bl b5, V.bl b6, V.bl b7, V.bl b8, V.bl b9] ++ [V.bl b10, V.bl b11])) n3))
    refine ⟨_, rfl, ?_⟩
    refine ⟨_, rfl, a, D, od, _, _, _, rfl, xD, z2 _ _ ea, fun dd z => (ed dd z).imp fun fs x => z2 _ _ x, fun _ r => r, k12, ?_⟩
    refine ⟨_, rfl, a, D, od, _, _, _, rfl, xD, z2 _ _ ea, fun dd z => (ed dd z).imp fun fs x => z2 _ _ x, fun _ r => r, k13, ?_⟩
    refine ⟨(by show 2 ≤ sizeLine; decide), fun q3 m3 => ?_⟩
    have r3 := Same.new (o := .lst [V.bl b12, V.bl b13]) m3
    refine ⟨p3, q3, _, _, rfl, rfl, r3 _ _ upd_same, upd_same, (by show 10 + 2 ≤ sizeLine; decide), fun p4 n4 => ?_⟩
    have z3 : Same H _ := Same.trans z2 (Same.trans r3 (Same.new (o := .lst ([V.bl b2, V.bl b3, V.bl b4, V.bl b5, V.bl b6, V.bl b7, V.bl b8, V.bl b9, V.bl b10, V.bl b11] ++ [V.bl b12, V.bl b13])) n4))
    exact k _ p4 z3 upd_same
structure FL (H : Hp) (qs : List Addr) (v u : V) : Prop where
  many : qs.length = 12
  at_ : ∀ (i : Nat) (q : Addr) (fs : List V), qs[i]? = some q → (fssOf v u)[i]? = some fs → H q = some (.lst fs) ∧ q ≠ sysModules
def spFields (c : Cs) : Sp := fun vs H Q _ => ∃ (l : Addr) (es : List Addr) (v u : V), vs = [.ref l] ∧ H l = some (.lst (es.map V.ref)) ∧ Row H c es v u ∧
  ∀ (H' : Hp) (p : Addr) (qs : List Addr), Same H H' → H' p = some (.lst (qs.map V.ref)) → FL H' qs v u → Q (.ref p) H'
theorem scFields : FnScope ["_law_row", "_law_first"] ["_law_row"] (defScope sFields) := ⟨rfl, rfl, rfl, by decide +kernel, rfl, by decide +kernel, by decide +kernel⟩
theorem ok_fields {f : Addr} {fd : FuncData} (F : Fun K "_law_fields" "_law_fields" sFields f fd) (T : Txt K mg c mc) : FnOk P w K mg base CX0 1 f fd ["_law_row"] (spFields c) := by
  refine F.ok scFields (fun vs H Q E h => ?_) (fun cdv A outer s H vs Q E hr h => ?_)
  · obtain ⟨l, es, v, u, rfl, _⟩ := h
    rfl
  · obtain ⟨l, es, v, u, rfl, el, row, k⟩ := h
    refine ⟨_, pss_cons (ps_set (i := 1) scFields.nd rfl (.inl rfl) (pe_lst (pa_cons (pe_lstN (pa_cons (pe_errF (pe_ix ix_list (pv 0) pe_int (fun _ _ => rfl))) pa_nil)) (pa_cons (pe_lstN (pa_cons (pe_errF (pe_ix ix_list (pv 0) pe_int (fun _ _ => rfl))) (pa_cons (pe_errF (pe_ix ix_list (pv 0) pe_int (fun _ _ => rfl))) pa_nil))) (pa_cons (pe_lstN (pa_cons (pe_errF (pe_ix ix_list (pv 0) pe_int (fun _ _ => rfl))) (pa_cons (pe_errF (pe_ix ix_list (pv 0) pe_int (fun _ _ => rfl))) pa_nil))) (pa_cons (pe_lstN (pa_cons (pe_errF (pe_ix ix_list (pv 0) pe_int (fun _ _ => rfl))) pa_nil)) pa_nil))))))
      (pss_cons (ps_set (i := 1) scFields.nd rfl (.inl rfl) (pe_op op_cat (pv 1) (pe_lst (pa_cons (pe_lstN (pa_cons (pe_errF (pe_ix ix_list (pv 0) pe_int (fun _ _ => rfl))) (pa_cons (pe_errF (pe_ix ix_list (pv 0) pe_int (fun _ _ => rfl))) pa_nil))) (pa_cons (pe_lstN (pa_cons (pe_errF (pe_ix ix_list (pv 0) pe_int (fun _ _ => rfl))) pa_nil)) (pa_cons (pe_lstN (pa_cons (pe_errF (pe_ix ix_list (pv 0) pe_int (fun _ _ => rfl))) pa_nil)) (pa_cons (pe_lstN (pa_cons (pe_errF (pe_ix ix_list (pv 0) pe_int (fun _ _ => rfl))) pa_nil)) (pa_cons (pe_lstN (pa_cons (pe_errF (pe_ix ix_list (pv 0) pe_int (fun _ _ => rfl))) pa_nil)) pa_nil))))))))
      (pss_one (ps_ret (pe_op op_cat (pv 1) (pe_lst (pa_cons (pe_lstN (pa_cons (pe_errF (pe_ix ix_list (pv 0) pe_int (fun _ _ => rfl))) (pa_cons (pe_errF (pe_ix ix_list (pv 0) pe_int (fun _ _ => rfl))) pa_nil))) (pa_cons (pe_lstN (pa_nil)) (pa_cons (pe_lstN (pa_nil)) pa_nil)))))))), ?_⟩
    obtain ⟨a2, a3, a4, a5, a6, a7, a8, a9, a10, a11, a12, a13, rfl⟩ : ∃ a2 a3 a4 a5 a6 a7 a8 a9 a10 a11 a12 a13, es = [a2, a3, a4, a5, a6, a7, a8, a9, a10, a11, a12, a13] := by
      have m := row.many
      match es, m with
      | [a2, a3, a4, a5, a6, a7, a8, a9, a10, a11, a12, a13], _ => exact ⟨a2, a3, a4, a5, a6, a7, a8, a9, a10, a11, a12, a13, rfl⟩
    have x2 : EAt H a2 c.c2 [(("column" : Str), v)] := row.at_ 0 _ _ _ rfl rfl rfl
    have x3 : EAt H a3 c.c3 [(("column" : Str), u), (("line" : Str), v)] := row.at_ 1 _ _ _ rfl rfl rfl
    have x4 : EAt H a4 c.c4 [(("number" : Str), u), (("what" : Str), v)] := row.at_ 2 _ _ _ rfl rfl rfl
    have x5 : EAt H a5 c.c5 [(("row" : Str), v)] := row.at_ 3 _ _ _ rfl rfl rfl
    have x6 : EAt H a6 c.c6 [(("high" : Str), u), (("low" : Str), v)] := row.at_ 4 _ _ _ rfl rfl rfl
    have x7 : EAt H a7 c.c7 [(("name" : Str), v)] := row.at_ 5 _ _ _ rfl rfl rfl
    have x8 : EAt H a8 c.c8 [(("what" : Str), v)] := row.at_ 6 _ _ _ rfl rfl rfl
    have x9 : EAt H a9 c.c9 [(("name" : Str), v)] := row.at_ 7 _ _ _ rfl rfl rfl
    have x10 : EAt H a10 c.c10 [(("name" : Str), v)] := row.at_ 8 _ _ _ rfl rfl rfl
    have x11 : EAt H a11 c.c11 [(("witness" : Str), u), (("promise" : Str), v)] := row.at_ 9 _ _ _ rfl rfl rfl
    refine ⟨_, rfl, l, _, _, _, rfl, rfl, SqL.of ((Same.refl H) _ _ el), atI_nat (j := 0) rfl, getF T.e2 T.n2a (x2.same (Same.refl H)) lk1 ?_⟩
    refine ⟨(by show 1 ≤ sizeLine; decide), fun q2 n2 u2 => ?_⟩
    have w2 := Same.new (o := .lst [v]) n2
    have y2 : Same H _ := Same.trans (Same.refl H) w2
    refine ⟨_, rfl, l, _, _, _, rfl, rfl, SqL.of (y2 _ _ el), atI_nat (j := 1) rfl, getF T.e3 T.n3a (x3.same y2) (lk2 (by decide +kernel)) ?_⟩
    refine ⟨_, rfl, l, _, _, _, rfl, rfl, SqL.of (y2 _ _ el), atI_nat (j := 1) rfl, getF T.e3 T.n3b (x3.same y2) lk1 ?_⟩
    refine ⟨(by show 2 ≤ sizeLine; decide), fun q3 n3 u3 => ?_⟩
    have w3 := Same.new (o := .lst [v, u]) n3
    have y3 : Same H _ := Same.trans y2 w3
    refine ⟨_, rfl, l, _, _, _, rfl, rfl, SqL.of (y3 _ _ el), atI_nat (j := 2) rfl, getF T.e4 T.n4a (x4.same y3) (lk2 (by decide +kernel)) ?_⟩
    refine ⟨_, rfl, l, _, _, _, rfl, rfl, SqL.of (y3 _ _ el), atI_nat (j := 2) rfl, getF T.e4 T.n4b (x4.same y3) lk1 ?_⟩
    refine ⟨(by show 2 ≤ sizeLine; decide), fun q4 n4 u4 => ?_⟩
    have w4 := Same.new (o := .lst [v, u]) n4
    have y4 : Same H _ := Same.trans y3 w4
    refine ⟨_, rfl, l, _, _, _, rfl, rfl, SqL.of (y4 _ _ el), atI_nat (j := 3) rfl, getF T.e5 T.n5a (x5.same y4) lk1 ?_⟩
    refine ⟨(by show 1 ≤ sizeLine; decide), fun q5 n5 u5 => ?_⟩
    have w5 := Same.new (o := .lst [v]) n5
    have y5 : Same H _ := Same.trans y4 w5
    refine ⟨(by show 4 ≤ sizeLine; decide), fun p0 m0 => ?_⟩
    have r0 := Same.new (o := .lst [V.ref q2, V.ref q3, V.ref q4, V.ref q5]) m0
    have z0 : Same H _ := Same.trans y5 r0
    refine ⟨_, rfl, ?_⟩
    refine ⟨_, rfl, l, _, _, _, rfl, rfl, SqL.of (z0 _ _ el), atI_nat (j := 4) rfl, getF T.e6 T.n6a (x6.same z0) (lk2 (by decide +kernel)) ?_⟩
    refine ⟨_, rfl, l, _, _, _, rfl, rfl, SqL.of (z0 _ _ el), atI_nat (j := 4) rfl, getF T.e6 T.n6b (x6.same z0) lk1 ?_⟩
    refine ⟨(by show 2 ≤ sizeLine; decide), fun q6 n6 u6 => ?_⟩
    have w6 := Same.new (o := .lst [v, u]) n6
    have y6 : Same H _ := Same.trans z0 w6
    refine ⟨_, rfl, l, _, _, _, rfl, rfl, SqL.of (y6 _ _ el), atI_nat (j := 5) rfl, getF T.e7 T.n7a (x7.same y6) lk1 ?_⟩
    refine ⟨(by show 1 ≤ sizeLine; decide), fun q7 n7 u7 => ?_⟩
    have w7 := Same.new (o := .lst [v]) n7
    have y7 : Same H _ := Same.trans y6 w7
    refine ⟨_, rfl, l, _, _, _, rfl, rfl, SqL.of (y7 _ _ el), atI_nat (j := 6) rfl, getF T.e8 T.n8a (x8.same y7) lk1 ?_⟩
    refine ⟨(by show 1 ≤ sizeLine; decide), fun q8 n8 u8 => ?_⟩
    have w8 := Same.new (o := .lst [v]) n8
    have y8 : Same H _ := Same.trans y7 w8
    refine ⟨_, rfl, l, _, _, _, rfl, rfl, SqL.of (y8 _ _ el), atI_nat (j := 7) rfl, getF T.e9 T.n9a (x9.same y8) lk1 ?_⟩
    refine ⟨(by show 1 ≤ sizeLine; decide), fun q9 n9 u9 => ?_⟩
    have w9 := Same.new (o := .lst [v]) n9
    have y9 : Same H _ := Same.trans y8 w9
    refine ⟨_, rfl, l, _, _, _, rfl, rfl, SqL.of (y9 _ _ el), atI_nat (j := 8) rfl, getF T.e10 T.n10a (x10.same y9) lk1 ?_⟩
    refine ⟨(by show 1 ≤ sizeLine; decide), fun q10 n10 u10 => ?_⟩
    have w10 := Same.new (o := .lst [v]) n10
    have y10 : Same H _ := Same.trans y9 w10
    refine ⟨(by show 5 ≤ sizeLine; decide), fun p1 m1 => ?_⟩
    have r1 := Same.new (o := .lst [V.ref q6, V.ref q7, V.ref q8, V.ref q9, V.ref q10]) m1
    have z1 : Same H _ := Same.trans y10 r1
    refine ⟨p0, p1, _, _, rfl, rfl, (r1 _ _ (w10 _ _ (w9 _ _ (w8 _ _ (w7 _ _ (w6 _ _ upd_same)))))), upd_same, (by show 4 + 5 ≤ sizeLine; decide), fun o1 d1 => ?_⟩
    have j1 := Same.new (o := .lst ([V.ref q2, V.ref q3, V.ref q4, V.ref q5] ++ [V.ref q6, V.ref q7, V.ref q8, V.ref q9, V.ref q10])) d1
    have h1 : Same H _ := Same.trans z1 j1
    refine ⟨_, rfl, ?_⟩
    refine ⟨_, rfl, l, _, _, _, rfl, rfl, SqL.of (h1 _ _ el), atI_nat (j := 9) rfl, getF T.e11 T.n11a (x11.same h1) (lk2 (by decide +kernel)) ?_⟩
    refine ⟨_, rfl, l, _, _, _, rfl, rfl, SqL.of (h1 _ _ el), atI_nat (j := 9) rfl, getF T.e11 T.n11b (x11.same h1) lk1 ?_⟩
    refine ⟨(by show 2 ≤ sizeLine; decide), fun q11 n11 u11 => ?_⟩
    have w11 := Same.new (o := .lst [v, u]) n11
    have y11 : Same H _ := Same.trans h1 w11
    refine ⟨(by show 0 ≤ sizeLine; decide), fun q12 n12 u12 => ?_⟩
    have w12 := Same.new (o := .lst []) n12
    have y12 : Same H _ := Same.trans y11 w12
    refine ⟨(by show 0 ≤ sizeLine; decide), fun q13 n13 u13 => ?_⟩
    have w13 := Same.new (o := .lst []) n13
    have y13 : Same H _ := Same.trans y12 w13
    refine ⟨(by show 3 ≤ sizeLine; decide), fun p2 m2 => ?_⟩
    have r2 := Same.new (o := .lst [V.ref q11, V.ref q12, V.ref q13]) m2
    have z2 : Same H _ := Same.trans y13 r2
    refine ⟨o1, p2, _, _, rfl, rfl, (r2 _ _ (w13 _ _ (w12 _ _ (w11 _ _ upd_same)))), upd_same, (by show 9 + 3 ≤ sizeLine; decide), fun o2 d2 => ?_⟩
    have j2 := Same.new (o := .lst ([V.ref q2, V.ref q3, V.ref q4, V.ref q5, V.ref q6, V.ref q7, V.ref q8, V.ref q9, V.ref q10] ++ [V.ref q11, V.ref q12, V.ref q13])) d2
    have h2 : Same H _ := Same.trans z2 j2
    have k_j2 := j2
    have k_r2 := Same.trans r2 k_j2
    have k_w13 := Same.trans w13 k_r2
    have k_w12 := Same.trans w12 k_w13
    have k_w11 := Same.trans w11 k_w12
    have k_j1 := Same.trans j1 k_w11
    have k_r1 := Same.trans r1 k_j1
    have k_w10 := Same.trans w10 k_r1
    have k_w9 := Same.trans w9 k_w10
    have k_w8 := Same.trans w8 k_w9
    have k_w7 := Same.trans w7 k_w8
    have k_w6 := Same.trans w6 k_w7
    have k_r0 := Same.trans r0 k_w6
    have k_w5 := Same.trans w5 k_r0
    have k_w4 := Same.trans w4 k_w5
    have k_w3 := Same.trans w3 k_w4
    have k_w2 := Same.trans w2 k_w3
    refine k _ o2 [q2, q3, q4, q5, q6, q7, q8, q9, q10, q11, q12, q13] h2 upd_same ⟨rfl, ?_⟩
    intro i q fs e1 e2
    match i, e1, e2 with
    | 0, e1, e2 => cases e1; cases e2; exact ⟨k_w3 _ _ upd_same, u2⟩
    | 1, e1, e2 => cases e1; cases e2; exact ⟨k_w4 _ _ upd_same, u3⟩
    | 2, e1, e2 => cases e1; cases e2; exact ⟨k_w5 _ _ upd_same, u4⟩
    | 3, e1, e2 => cases e1; cases e2; exact ⟨k_r0 _ _ upd_same, u5⟩
    | 4, e1, e2 => cases e1; cases e2; exact ⟨k_w7 _ _ upd_same, u6⟩
    | 5, e1, e2 => cases e1; cases e2; exact ⟨k_w8 _ _ upd_same, u7⟩
    | 6, e1, e2 => cases e1; cases e2; exact ⟨k_w9 _ _ upd_same, u8⟩
    | 7, e1, e2 => cases e1; cases e2; exact ⟨k_w10 _ _ upd_same, u9⟩
    | 8, e1, e2 => cases e1; cases e2; exact ⟨k_r1 _ _ upd_same, u10⟩
    | 9, e1, e2 => cases e1; cases e2; exact ⟨k_w12 _ _ upd_same, u11⟩
    | 10, e1, e2 => cases e1; cases e2; exact ⟨k_w13 _ _ upd_same, u12⟩
    | 11, e1, e2 => cases e1; cases e2; exact ⟨k_r2 _ _ upd_same, u13⟩
    | n + 12, e1, _ => cases e1
end
end Kz
set_option linter.all false
set_option maxRecDepth 100000
set_option maxHeartbeats 4000000
/-! Data that a law draws, and its text by repr. -/
namespace Kz
open PySem PySem.Spec PyProof.Rows L2
theorem Same.seqT {K : PySem.W.Frag} {H H' : Hp} {a : Addr} {xs : List V} (e : Same H H') (h : SqT K H a xs) : SqT K H' a xs := by
  rcases h with (h | ⟨o, h⟩) | h
  · exact .inl (.inl (e _ _ h))
  · exact .inl (.inr ⟨o, e _ _ h⟩)
  · exact .inr h
mutual
theorem Dq.same {K : PySem.W.Frag} {H H' : Hp} (s : Same H H') : ∀ {v : V} {d : PyData}, Dq K H v d → Dq K H' v d
  | _, _, .non => .non
  | _, _, .bl b => .bl b
  | _, _, .int i => .int i
  | _, _, .str x => .str x
  | _, _, .lst h n a => .lst (s _ _ h) n (DqAll.same s a)
  | _, _, .tup h a => .tup (Kz.Same.seqT s h) (DqAll.same s a)
  | _, _, .dic h a => .dic (s _ _ h) (DqAll.same s a)
theorem DqAll.same {K : PySem.W.Frag} {H H' : Hp} (s : Same H H') : ∀ {vs : List V} {ds : List PyData}, DqAll K H vs ds → DqAll K H' vs ds
  | _, _, .nil => .nil
  | _, _, .cons h t => .cons (Dq.same s h) (DqAll.same s t)
end
/-- the heap without what stands at p and at g -/
def dd (p g : Addr) (H : Hp) : Hp := fun b => if b = p then none else if b = g then none else H b
theorem dd_at {p g b : Addr} {H : Hp} (n : b ≠ p) (m : b ≠ g) : dd p g H b = H b := by
  unfold dd
  rw [if_neg n, if_neg m]
theorem dd_some {p g b : Addr} {H : Hp} {o : HO} (e : dd p g H b = some o) : b ≠ p ∧ b ≠ g ∧ H b = some o := by
  unfold dd at e
  by_cases n : b = p
  · rw [if_pos n] at e
    cases e
  · rw [if_neg n] at e
    by_cases m : b = g
    · rw [if_pos m] at e
      cases e
    · rw [if_neg m] at e
      exact ⟨n, m, e⟩
theorem dd_sub {p g : Addr} {H : Hp} : Same (dd p g H) H := fun _ _ e => (dd_some e).2.2
theorem dd_step {p g : Addr} {H H' : Hp} (s : ∀ b o, H b = some o → b ≠ p → b ≠ g → H' b = some o) : Same (dd p g H) (dd p g H') := fun b o e => by
  obtain ⟨n, m, e'⟩ := dd_some e
  rw [dd_at n m]
  exact s b o e' n m
/-- small data: its repr is short -/
structure Small (d : PyData) : Prop where
  sh : d.showable = true
  dp : d.depth ≤ 5
  lv : d.leavesShort 1921 = true
  bk : d.bulk ≤ 2000
structure Good (K : PySem.W.Frag) (H : Hp) (v : V) : Prop where
  ex : ∃ d, Dq K H v d ∧ Small d
theorem Good.same {K : PySem.W.Frag} {H H' : Hp} {v : V} (g : Good K H v) (s : Same H H') : Good K H' v := by
  obtain ⟨d, q, m⟩ := g
  exact ⟨d, q.same s, m⟩
theorem all_good {K : PySem.W.Frag} {H : Hp} : ∀ {vs : List V}, (∀ v ∈ vs, Good K H v) → ∃ ds, DqAll K H vs ds ∧ PyData.showableAll ds = true ∧ PyData.depthAll ds ≤ 5 ∧ PyData.leavesShortAll 1921 ds = true ∧ PyData.bulkAll ds ≤ 2001 * vs.length
  | [], _ => ⟨[], .nil, rfl, Nat.zero_le _, rfl, Nat.zero_le _⟩
  | v :: vs, h => by
    obtain ⟨d, q, m⟩ := (h v List.mem_cons_self).ex
    obtain ⟨ds, q2, a1, a2, a3, a4⟩ := all_good fun x hx => h x (List.mem_cons_of_mem _ hx)
    refine ⟨d :: ds, .cons q q2, ?_, ?_, ?_, ?_⟩
    · simp only [PyData.showableAll, m.sh, a1, Bool.and_self]
    · simp only [PyData.depthAll]
      have := m.dp
      omega
    · simp only [PyData.leavesShortAll, m.lv, a3, Bool.and_self]
    · simp only [PyData.bulkAll, List.length_cons]
      have := m.bk
      omega
theorem list_shown {ds : List PyData} {n : Nat} (hn : n ≤ 3) (lv : PyData.leavesShortAll 1921 ds = true) (bk : PyData.bulkAll ds ≤ 2001 * n) : (PyData.list ds).shown.length ≤ sizeLine := by
  have h := PyData.shown_le_bulk 1921 (by decide) (.list ds) (by simpa only [PyData.leavesShort] using lv)
  simp only [PyData.bulk] at h
  rw [sizeLine_eq]
  omega

/-! ### the numbers and texts -/
theorem small_log {z : Int} (h0 : -(10 ^ 18) < z) (h1 : z < 10 ^ 18) : z.natAbs.log2 < 1920 := by
  by_cases e : z.natAbs = 0
  · rw [e]
    decide
  · have : z.natAbs < 2 ^ 64 := by
      have : (2 : Nat) ^ 64 = 18446744073709551616 := by decide
      omega
    have := (Nat.log2_lt e).mpr this
    omega
theorem small_int {z : Int} (h : z.natAbs.log2 < 1920) : Small (.int z) where
  sh := by simp only [PyData.showable, h, decide_true]
  dp := Nat.zero_le _
  lv := by
    have := int_text_len_1921 h
    simp only [PyData.leavesShort, PyData.shown]
    exact decide_eq_true this
  bk := Nat.zero_le _
theorem signs_small (s : String) : ((Str.ofString s).cps.toList.all fun c => decide (c < 16 ^ 8)) = true := by
  rw [List.all_eq_true]
  intro c hc
  rw [signs_ofString] at hc
  obtain ⟨x, _, rfl⟩ := List.mem_map.mp hc
  have : x.toNat < 1114112 := by
    have := x.valid
    have e : x.toNat = x.val.toNat := rfl
    rcases this with h | ⟨_, h⟩
    · have : x.val.toNat < 55296 := h
      omega
    · have : x.val.toNat < 1114112 := h
      omega
  have : (16 : Nat) ^ 8 = 4294967296 := by decide
  exact decide_eq_true (by omega)
theorem small_text {x : Str} (h : (x.cps.toList.all fun c => decide (c < 16 ^ 8)) = true) (l : x.length ≤ 2000) : Small (.str x) where
  sh := rfl
  dp := Nat.zero_le _
  lv := by simp only [PyData.leavesShort, h]
  bk := l
theorem text_app {x y : Str} (h : (x.cps.toList.all fun c => decide (c < 16 ^ 8)) = true) (h' : (y.cps.toList.all fun c => decide (c < 16 ^ 8)) = true) : ((x ++ y).cps.toList.all fun c => decide (c < 16 ^ 8)) = true := by
  show ((x.cps ++ y.cps).toList.all _) = true
  rw [Array.toList_append, List.all_append, h, h']
  rfl
theorem for_enum {K : PySem.W.Frag} {a : Addr} {xs : List V} {g : TG} {tb : TS} {D : Ends} {σ : L2.St} {H : Hp} (Pv : Nat → L2.St → Hp → Prop) (h0 : Pv 0 σ H) (hq : ∀ i σ H, Pv i σ H → SqL K H a xs)
    (hs : ∀ (i : Nat) (x : V) (T : Addr) (σ : L2.St) (H : Hp), xs[i]? = some x → Pv i σ H → H T = none → g (.ref T) σ (upd H T (.tup [.int (i : Nat), x])) fun σ2 H2 => tb { D with nx := Pv (i + 1), ct := Pv (i + 1), bk := D.nx } σ2 H2)
    (hd : ∀ σ H, Pv xs.length σ H → D.nx σ H) : ∃ W : Nat → Nat → L2.St → Hp → Prop, (∃ m, W 0 m σ H) ∧ ∀ i m σ H, W i m σ H →
      ((Ite K a).stop i H ∧ D.nx σ H) ∨ ((Ite K a).go i H ∧ ∃ N : L2.St → Hp → Prop, (∀ σ' H', N σ' H' → ∃ m', m' < m ∧ W (i + 1) m' σ' H') ∧ ∀ v H', (Ite K a).yld i H v H' → g v σ H' fun σ2 H2 => tb { D with nx := N, ct := N, bk := D.nx } σ2 H2) := by
  refine ⟨fun i m σ H => m = xs.length - i ∧ i ≤ xs.length ∧ Pv i σ H, ⟨_, rfl, Nat.zero_le _, h0⟩, ?_⟩
  rintro i m σ H ⟨rfl, le, p⟩
  rcases Nat.lt_or_ge i xs.length with lt | ge
  · right
    refine ⟨⟨xs, _, hq i σ H p, List.getElem?_eq_getElem lt⟩, Pv (i + 1), ?_, ?_⟩
    · intro σ' H' p'
      exact ⟨xs.length - (i + 1), by omega, rfl, lt, p'⟩
    · rintro v H' ⟨T, x, rfl, hT, rfl, f⟩
      exact hs i x T σ H (f xs (hq i σ H p)) p hT
  · left
    have e : i = xs.length := by omega
    subst e
    exact ⟨⟨xs, hq _ σ H p, Nat.le_refl _⟩, hd σ H p⟩
end Kz
set_option linter.all false
set_option maxRecDepth 100000
set_option maxHeartbeats 4000000
namespace Kz
open PySem PySem.Spec PyProof.Rows L2
abbrev sLaw : Stmt := top 22
def spLaw (K : PySem.W.Frag) : Sp := fun vs H Q _ => ∃ (a : Addr) (ns : List Int), vs = [.ref a] ∧ SqL K H a (ns.map V.int) ∧ ∀ H', Q (.bl true) H'
def manys : List V := [.int 1, .int 2, .int 2, .int 1, .int 2, .int 1, .int 1, .int 1, .int 1, .int 2, .int 0, .int 0]
theorem cut_row {v u : V} : ∀ (i : Nat) (fs : List V) (y : V), (fssOf v u)[i]? = some fs → manys[i]? = some y → ∃ m : Int, y = .int m ∧ cutV [v, u] none (some m) = fs ∧ (∀ z ∈ fs, z = v ∨ z = u) ∧ fs.length ≤ 2 := by
  intro i fs y e1 e2
  match i, e1, e2 with
  | 0, e1, e2 | 3, e1, e2 | 5, e1, e2 | 6, e1, e2 | 7, e1, e2 | 8, e1, e2 => cases e1; cases e2; exact ⟨1, rfl, rfl, by simp, by simp⟩
  | 1, e1, e2 | 2, e1, e2 | 4, e1, e2 | 9, e1, e2 => cases e1; cases e2; exact ⟨2, rfl, rfl, by simp, by simp⟩
  | 10, e1, e2 | 11, e1, e2 => cases e1; cases e2; exact ⟨0, rfl, rfl, by simp, by simp⟩
  | n + 12, e1, _ => cases e1
/-- what a turn of the second loop asks of its item -/
structure Item (K : PySem.W.Frag) (H : Hp) (c : Cs) (i : Nat) (x : V) : Prop where
  ex : ∃ (a D : Addr) (od : Option Addr), x = .ref a ∧ ExcC K D ∧ H a = some (exo a D od) ∧ (∀ dd, od = some dd → ∃ fs, H dd = some (exd dd fs)) ∧ c.l[i]? = some D ∧
    PySem.W.kitOne K (.ref D) (.ref c.b) = some true ∧ PySem.W.kitOne K (.ref D) (.type "ValueError") = some true ∧
    ∀ (j : Nat) (C : Addr), c.l[j]? = some C → PySem.W.kitOne K (.ref D) (.ref C) = some (decide (C = D))
theorem obj_od {H : Hp} {a C : Addr} {o : Option (List (Str × V))} (h : EObj H a C o) : ∃ od : Option Addr, H a = some (exo a C od) ∧ ∀ dd, od = some dd → ∃ fs, H dd = some (exd dd fs) := by
  cases o with
  | none => exact ⟨none, h, fun _ z => by cases z⟩
  | some fs =>
    obtain ⟨d, e1, e2⟩ := h
    exact ⟨some d, e1, fun dd z => by cases z; exact ⟨fs, e2⟩⟩
section
variable {P : Program} {w : World} {K : PySem.W.Frag} {mg : Str → Option Value} {base : Heap} {c : Cs} {mc : Value}
theorem kits_all (T : Txt K mg c mc) {x : Str} {D : Addr} (U : ErrT K mg x c.b D) : ∀ (j : Nat) (C : Addr), c.l[j]? = some C → PySem.W.kitOne K (.ref D) (.ref C) = some (decide (C = D)) := by
  intro j C e
  have nb : C ≠ c.b := T.nb C (List.mem_of_getElem? e)
  match j, e with
  | 0, e => cases e; exact U.kit T.e2 nb
  | 1, e => cases e; exact U.kit T.e3 nb
  | 2, e => cases e; exact U.kit T.e4 nb
  | 3, e => cases e; exact U.kit T.e5 nb
  | 4, e => cases e; exact U.kit T.e6 nb
  | 5, e => cases e; exact U.kit T.e7 nb
  | 6, e => cases e; exact U.kit T.e8 nb
  | 7, e => cases e; exact U.kit T.e9 nb
  | 8, e => cases e; exact U.kit T.e10 nb
  | 9, e => cases e; exact U.kit T.e11 nb
  | 10, e => cases e; exact U.kit T.e12 nb
  | 11, e => cases e; exact U.kit T.e13 nb
  | n + 12, e => cases e
theorem item_of (T : Txt K mg c mc) {H : Hp} {es : List Addr} {v u : V} (row : Row H c es v u) {i : Nat} {x : V} (e : (es.map V.ref)[i]? = some x) : Item K H c i x := by
  obtain ⟨a, ea, rfl⟩ : ∃ a, es[i]? = some a ∧ x = V.ref a := by
    rw [List.getElem?_map] at e
    cases z : es[i]? with
    | none =>
      rw [z] at e
      cases e
    | some a =>
      rw [z] at e
      exact ⟨a, rfl, (Option.some.inj e).symm⟩
  have lt : i < 12 := by
    rw [← row.many]
    exact (List.getElem?_eq_some_iff.mp ea).1
  have one : ∀ (y : Str) (C : Addr) (o : Option (List (Str × V))), ErrT K mg y c.b C → c.l[i]? = some C → (kindsOf v u)[i]? = some o → Item K H c i (.ref a) := by
    intro y C o U e1 e2
    obtain ⟨od, h1, h2⟩ := obj_od (row.at_ i a C o ea e1 e2)
    exact ⟨a, C, od, rfl, U.ex, h1, h2, e1, U.kitB T.base, U.kitV, kits_all T U⟩
  match i, lt, one with
  | 0, _, one => exact one _ _ _ T.e2 rfl rfl
  | 1, _, one => exact one _ _ _ T.e3 rfl rfl
  | 2, _, one => exact one _ _ _ T.e4 rfl rfl
  | 3, _, one => exact one _ _ _ T.e5 rfl rfl
  | 4, _, one => exact one _ _ _ T.e6 rfl rfl
  | 5, _, one => exact one _ _ _ T.e7 rfl rfl
  | 6, _, one => exact one _ _ _ T.e8 rfl rfl
  | 7, _, one => exact one _ _ _ T.e9 rfl rfl
  | 8, _, one => exact one _ _ _ T.e10 rfl rfl
  | 9, _, one => exact one _ _ _ T.e11 rfl rfl
  | 10, _, one => exact one _ _ _ T.e12 rfl rfl
  | 11, _, one => exact one _ _ _ T.e13 rfl rfl
theorem bools_dp {H : Hp} : ∀ bs : List Bool, DpAll K H (bs.map V.bl) (bs.map PyData.bool)
  | [] => .nil
  | b :: bs => .cons (.bl b) (bools_dp bs)
theorem bools_lay : ∀ bs : List Bool, PyData.canLayAll0 (bs.map PyData.bool) = true ∧ PyData.depthAll (bs.map PyData.bool) = 0
  | [] => ⟨rfl, rfl⟩
  | b :: bs => by
    obtain ⟨h1, h2⟩ := bools_lay bs
    refine ⟨?_, ?_⟩
    · simp only [List.map_cons, PyData.canLayAll0, PyData.canLay0, h1, Bool.and_self]
    · simp only [List.map_cons, PyData.depthAll, PyData.depth, h2, Nat.max_self]
theorem bools_shaped (bs : List Bool) : SeqAt.shaped (.list (bs.map PyData.bool)) = true := by
  obtain ⟨h1, h2⟩ := bools_lay bs
  unfold SeqAt.shaped
  simp only [PyData.canLay0, PyData.depth, h1, h2]
  rfl
theorem dec_ix (T : Txt K mg c mc) {i j : Nat} {C D : Addr} (e1 : c.l[j]? = some C) (e2 : c.l[i]? = some D) : decide (C = D) = decide (j = i) := by
  by_cases h : j = i
  · subst h
    rw [e1] at e2
    cases e2
    rw [decide_eq_true rfl, decide_eq_true rfl]
  · have : ¬ (C = D) := by
      intro z
      subst z
      exact h (nd_ix T.nd e1 e2)
    rw [decide_eq_false h, decide_eq_false this]
abbrev lawN : List Str := ["_law_script", "_law_pen_here", "_law_given", "_law_k", "_law_far_here", "_law_row", "_law_e", "_law_fields_here", "_law_many", "_law_j"]
theorem scLaw : FnScope lawN ["_law_script"] (defScope sLaw) := ⟨rfl, rfl, rfl, by decide +kernel, rfl, by decide +kernel, by decide +kernel⟩
/-- the defs that the law calls -/
structure Defs (K : PySem.W.Frag) (mg : Str → Option Value) (f : Nat → Addr) (fd : Nat → FuncData) : Prop where
  pen : Fun K "_law_pen" "_law_pen" sPen (f 15) (fd 15)
  gPen : mg "_law_pen" = some (.ref (f 15))
  bPen : Binds K (fd 15) ["_law_script"] []
  draw : Fun K "_law_draw" "_law_draw" sDraw (f 16) (fd 16)
  gDraw : mg "_law_draw" = some (.ref (f 16))
  bDraw : Binds K (fd 16) ["_law_pen_here", "_law_many"] []
  pick : Fun K "_law_pick" "_law_pick" sPick (f 17) (fd 17)
  gPick : mg "_law_pick" = some (.ref (f 17))
  bPick : Binds K (fd 17) ["_law_pen_here", "_law_some"] []
  far : Fun K "_law_far" "_law_far" sFar (f 18) (fd 18)
  gFar : mg "_law_far" = some (.ref (f 18))
  bFar : Binds K (fd 18) ["_law_pen_here"] []
  kinds : Fun K "_law_kinds" "_law_kinds" sKinds (f 19) (fd 19)
  gKinds : mg "_law_kinds" = some (.ref (f 19))
  bKinds : Binds K (fd 19) ["_law_e"] []
  objs : Fun K "_law_objects" "_law_objects" sObjs (f 20) (fd 20)
  gObjs : mg "_law_objects" = some (.ref (f 20))
  bObjs : Binds K (fd 20) ["_law_a", "_law_b"] []
  fields : Fun K "_law_fields" "_law_fields" sFields (f 21) (fd 21)
  gFields : mg "_law_fields" = some (.ref (f 21))
  bFields : Binds K (fd 21) ["_law_row"] []
theorem ok_law {f : Addr} {fd : FuncData} {fi : Nat → Addr} {di : Nat → FuncData} (F : Fun K "law" "law" sLaw f fd) (T : Txt K mg c mc) (N : Inits K P c fi di) (G : Defs K mg fi di) : FnG P w K mg base CX0 4 f fd ["_law_script"] (spLaw K) := by
  have GPen : FnOk P w K mg base CX0 1 _ _ _ (spPen K) := ok_pen G.pen T.blt
  have GPick : FnOk P w K mg base CX0 2 _ _ _ spPick := ok_pick G.pick T.blt G.draw G.gDraw G.bDraw
  have GFar : FnOk P w K mg base CX0 3 _ _ _ spFar := ok_far G.far T.blt G.draw G.gDraw G.bDraw G.pick G.gPick G.bPick
  have GKinds : FnOk P w K mg base CX0 1 _ _ _ (spKinds K c) := ok_kinds G.kinds T
  have GObjs : FnOk P w K mg base CX0 3 _ _ _ (spObjs c) := ok_objs G.objs T N
  have GFields : FnOk P w K mg base CX0 1 _ _ _ (spFields c) := ok_fields G.fields T
  refine fnG_of F scLaw (fun vs H Q E h => ?_) (fun cdv A outer s H vs Q E hg hr h => ?_)
  · obtain ⟨a, ns, rfl, _⟩ := h
    rfl
  · obtain ⟨a, ns, rfl, hS, k⟩ := h
    have hr1 : Room 1 _ := hr.mono (by decide)
    have hr2 : Room 2 _ := hr.mono (by decide)
    have hu := hr.units
    refine ⟨_, PSs.nox (pss_cons (ps_set (i := 1) scLaw.nd rfl (.inl rfl) (pe_call GPen hr1 rfl G.gPen G.pen.kp G.bPen .nil pass0 (pa_cons (pv 0) pa_nil)))
      (pss_cons (ps_set (i := 2) scLaw.nd rfl (.inl rfl) (pe_lst pa_nil))
      (pss_cons (ps_for PassesOwn.never rfl (pi_range1 rfl T.blt.range (pa_cons pe_int pa_nil)) (pg_name (i := 3) scLaw.nd rfl (.inr rfl))
        (pss_cons (ps_set (i := 4) scLaw.nd rfl (.inl rfl) (pe_call GFar hr rfl G.gFar G.far.kp G.bFar .nil pass0 (pa_cons (pv 1) pa_nil)))
        (pss_one (ps_expr (pe_bm PySem.F.plainAttrs_list PySem.F.slot_list_append PySem.F.type_list_append mt_append (pv 2) (pa_cons
          (pe_call GPick hr2 rfl G.gPick G.pick.kp G.bPick .nil pass0 (pa_cons (pv 1) (pa_cons (pe_lst
            (pa_cons (pv 4) (pa_cons (pe_un un_neg (pv 4)) (pa_cons (pe_op op_add_str pe_str (pe_callTy call_str_int (by rfl) T.mStr (by decide +kernel) (pa_cons (pv 4) pa_nil)))
            (pa_cons pe_non (pa_cons (pe_tup (pa_cons (pv 4) (pa_cons pe_str pa_nil))) (pa_cons (pe_lstN (pa_cons (pv 4) (pa_cons pe_non pa_nil)))
            (pa_cons pe_bl (pa_cons pe_str (pa_cons (pe_disp (pps_cons pe_str (pv 4) pps_nil) (by rfl) (by rfl) (fun z => by cases z) (by decide)) pa_nil)))))))))) pa_nil))) pa_nil))))))
      (pss_cons (ps_set (i := 5) scLaw.nd rfl (.inl rfl) (pe_call GObjs hr rfl G.gObjs G.objs.kp G.bObjs .nil pass0 (pa_cons (pe_ix ix_list (pv 2) pe_int (fun _ _ => rfl)) (pa_cons (pe_ix ix_list (pv 2) pe_int (fun _ _ => rfl)) pa_nil))))
      (pss_cons (ps_for PassesOwn.never rfl (pi_enum (by rfl) T.mEnumerate (pa_cons (pv 5) pa_nil)) (pg_tup rfl (pgs_cons (pg_name (i := 3) scLaw.nd rfl (.inr rfl)) (pgs_cons (pg_name (i := 6) scLaw.nd rfl (.inl rfl)) pgs_nil)))
        (pss_cons (ps_if (PW.pt (pw_or (pt_not (pt_val (pe_callB call_isErr (by rfl) T.mIsinstance boot_isinstance (pa_cons (pv 6) (pa_cons (pe_glob (v := V.ref c.b) rfl T.base.g rfl) pa_nil)))))
            (pw_or1 (pt_not (pt_val (pe_callB call_isErr (by rfl) T.mIsinstance boot_isinstance (pa_cons (pv 6) (pa_cons (pe_bltn (v := V.ty "ValueError") (by rfl) T.mValueerror (by decide +kernel) rfl) pa_nil))))))))
          (pss_one (ps_ret pe_bl)) pss_nil)
        (pss_one (ps_if (pt_cmpR (op_neD hu) (pe_call GKinds hr1 rfl G.gKinds G.kinds.kp G.bKinds .nil pass0 (pa_cons (pv 6) pa_nil))
            (pe_lc (own := [("_law_j", 9)]) (g := gName 9) (tt := tYes) rfl scLaw.nd (pi_range1 rfl T.blt.range (pa_cons (pe_callB call_len_seq (by rfl) T.blt.len PySem.boot_len (pa_cons (pv 5) pa_nil)) pa_nil))
              (blkOk_by (own := [("_law_j", 9)]) (N := lawN) (sc := defScope sLaw) (by decide +kernel)) (fun _ _ _ _ _ => pg_name (i := 9) scLaw.nd rfl (Or.inl rfl)) (fun _ _ _ _ _ => pts_nil)
              (fun _ _ _ _ _ => pe_cmpR op_eq (pv 9) (pv 3) (nomark _))) (nomark _))
          (pss_one (ps_ret pe_bl)) pss_nil))))
      (pss_cons (ps_for PassesOwn.never rfl (pi_zip (by rfl) T.mZip (pa_cons (pe_call GFields hr1 rfl G.gFields G.fields.kp G.bFields .nil pass0 (pa_cons (pv 5) pa_nil))
          (pa_cons (pe_lst (pa_cons pe_int (pa_cons pe_int (pa_cons pe_int (pa_cons pe_int (pa_cons pe_int (pa_cons pe_int (pa_cons pe_int (pa_cons pe_int (pa_cons pe_int (pa_cons pe_int (pa_cons pe_int (pa_cons pe_int pa_nil))))))))))))) pa_nil)))
          (pg_tup rfl (pgs_cons (pg_name (i := 7) scLaw.nd rfl (.inl rfl)) (pgs_cons (pg_name (i := 8) scLaw.nd rfl (.inl rfl)) pgs_nil)))
        (pss_one (ps_if (pt_cmpR op_ne (pe_callB (call_repr hg hu) (by rfl) T.mRepr boot_repr (pa_cons (pv 7) pa_nil))
            (pe_callB (call_repr hg hu) (by rfl) T.mRepr boot_repr (pa_cons (pe_slice sl_listN (pv 2) po_none (po_some (pv 8))) pa_nil)) (nomark _))
          (pss_one (ps_ret pe_bl)) pss_nil)))
      (pss_one (ps_ret pe_bl)))))))), ?_⟩
    refine ⟨_, rfl, a, ns, rfl, hS, fun p pc H1 np s1 pen => ?_⟩
    refine ⟨(by show 0 ≤ sizeLine; decide), fun g ng => ?_⟩
    have gp : g ≠ p := pen.newP ng
    have gc : g ≠ pc := pen.newC ng
    refine ⟨2, rfl, by decide, by decide, for_range (lo := 0) (n := 2) (fun i σ H' => ∃ (vs : List V) (v3 v4 : Option V), σ = [some (.ref a), some (.ref p), some (.ref g), v3, v4, none, none, none, none, none] ∧
      Pen H' p pc (21 * i) ∧ H' g = some (.lst vs) ∧ vs.length = i ∧ ∀ v ∈ vs, Good K (dd p g H') v) ⟨[], none, none, rfl, pen.new ng, upd_same, rfl, by simp⟩ ?_ ?_⟩
    · rintro i σ H2 hi ⟨vs, v3, v4, rfl, pen2, hg2, len2, good2⟩
      refine ⟨_, rfl, p, pc, 21 * i, rfl, pen2, by omega, fun z H3 z0 z1 pen3 but3 => ?_⟩
      have hg3 : H3 g = some (.lst vs) := but3 _ _ hg2 gp
      have lg := small_log z0 z1
      have lgn : (-z).natAbs.log2 < 1920 := by
        rw [Int.natAbs_neg]
        exact lg
      have lt := int_text_len_1921 lg
      have d3 : Same (dd p g H2) (dd p g H3) := dd_step fun b o e n _ => but3 b o e n
      refine ⟨_, rfl, .inl ⟨rfl, _, SqL.of hg3⟩, _, rfl, _, rfl, _, rfl, z, rfl, _, rfl, z, rfl, lg, _, _, rfl, rfl, ?_, _, rfl, (by show 2 ≤ sizeLine; decide), fun t nt => ?_⟩
      · show 1 + _ ≤ sizeLine
        rw [sizeLine_eq]
        exact Nat.le_trans (Nat.add_le_add_left lt 1) (by decide)
      have tp : t ≠ p := pen3.newP nt
      have tg : t ≠ g := (ne_of_none hg3 nt).symm
      have h4 := Same.new (o := .tup [.int z, .str "a"]) nt
      have e4 : upd H3 t (.tup [.int z, .str "a"]) t = some (.tup [.int z, .str "a"]) := upd_same
      have pen4 := pen3.new (o := .tup [.int z, .str "a"]) nt
      generalize upd H3 t (.tup [.int z, .str "a"]) = H4 at h4 e4 pen4
      refine ⟨_, rfl, (by show 2 ≤ sizeLine; decide), fun l nl ls => ?_⟩
      have lp : l ≠ p := pen4.newP nl
      have lng : l ≠ g := (ne_of_none (h4 _ _ hg3) nl).symm
      have h5 := Same.new (o := .lst [.int z, .non]) nl
      have e5 : upd H4 l (.lst [.int z, .non]) l = some (.lst [.int z, .non]) := upd_same
      have pen5 := pen4.new (o := .lst [.int z, .non]) nl
      generalize upd H4 l (.lst [.int z, .non]) = H5 at h5 e5 pen5
      intro q nq
      refine ⟨_, rfl, upd_same, [(.inr "a", .int z)], rfl, (by show 1 ≤ 15; decide), (by show 9 ≤ sizeLine; decide), fun m nm => ?_⟩
      have qp : q ≠ p := pen5.newP nq
      have qg : q ≠ g := (ne_of_none (h5 _ _ (h4 _ _ hg3)) nq).symm
      have h6 : Same H5 (upd (upd H5 q (.dK [])) q (.dK (mergeK [] [(.inr "a", .int z)]))) := by
        rw [upd_upd]
        exact Same.new nq
      have e6 : (upd (upd H5 q (.dK [])) q (.dK (mergeK [] [(.inr "a", .int z)]))) q = some (.dK [(.inr "a", .int z)]) := upd_same
      have pen6 := pen5.same h6
      generalize (upd (upd H5 q (.dK [])) q (.dK (mergeK [] [(.inr "a", .int z)]))) = H6 at nm h6 e6 pen6
      have sx : Small (.str ("x" ++ (toString z : Str))) := by
        refine small_text (text_app (signs_small "x") (signs_small _)) ?_
        show ((Str.ofString "x").cps ++ (Str.ofString (toString z)).cps).size ≤ 2000
        rw [Array.size_append]
        have : (Str.ofString (toString z)).cps.size ≤ 1921 := lt
        have : (Str.ofString "x").cps.size = 1 := by decide
        omega
      have sz := small_int lg
      have sz2 := small_int lgn
      have sa : Small (.str "a") := small_text (signs_small "a") (by decide)
      have s0 : Small (.str "") := small_text (signs_small "") (by decide)
      have goodX : ∀ v ∈ [V.int z, V.int (-z), V.str ("x" ++ (toString z : Str)), V.non, V.ref t, V.ref l, V.bl true, V.str "", V.ref q], Good K (dd p g H6) v := by
        intro v hv
        simp only [List.mem_cons, List.not_mem_nil, or_false] at hv
        rcases hv with rfl | rfl | rfl | rfl | rfl | rfl | rfl | rfl | rfl
        · exact ⟨_, .int z, sz⟩
        · exact ⟨_, .int (-z), sz2⟩
        · exact ⟨_, .str _, sx⟩
        · exact ⟨_, .non, rfl, Nat.zero_le _, rfl, Nat.zero_le _⟩
        · have e : dd p g H6 t = some (.tup [.int z, .str "a"]) := by
            rw [dd_at tp tg]
            exact h6 _ _ (h5 _ _ e4)
          refine ⟨_, .tup (SqT.of e) (.cons (.int z) (.cons (.str "a") .nil)), ?_, ?_, ?_, ?_⟩
          · simp only [PyData.showable, PyData.showableAll, lg, decide_true, Bool.and_self]
          · simp only [PyData.depth, PyData.depthAll]
            decide
          · simp only [PyData.leavesShort, PyData.leavesShortAll, Bool.and_true]
            have a1 := sz.lv
            have a2 := sa.lv
            simp only [PyData.leavesShort] at a1 a2
            rw [a1, a2]
            rfl
          · simp only [PyData.bulk, PyData.bulkAll]
            decide
        · have e : dd p g H6 l = some (.lst [.int z, .non]) := by
            rw [dd_at lp lng]
            exact h6 _ _ e5
          refine ⟨_, .lst e ls (.cons (.int z) (.cons .non .nil)), ?_, ?_, ?_, ?_⟩
          · simp only [PyData.showable, PyData.showableAll, lg, decide_true, Bool.and_self]
          · simp only [PyData.depth, PyData.depthAll]
            decide
          · simp only [PyData.leavesShort, PyData.leavesShortAll, Bool.and_true]
            have a1 := sz.lv
            simp only [PyData.leavesShort] at a1
            exact a1
          · simp only [PyData.bulk, PyData.bulkAll]
            decide
        · exact ⟨_, .bl true, rfl, Nat.zero_le _, rfl, Nat.zero_le _⟩
        · exact ⟨_, .str _, s0⟩
        · have e : dd p g H6 q = some (.dK [(.inr "a", .int z)]) := by
            rw [dd_at qp qg]
            exact e6
          refine ⟨_, .dic e (.cons (.int z) .nil), ?_, ?_, ?_, ?_⟩
          · show (PyData.dict [(.str "a", .int z)]).showable = true
            simp only [PyData.showable, PyData.showableKv, Bool.and_true, Bool.true_and]
            exact sz.sh
          · show (PyData.dict [(.str "a", .int z)]).depth ≤ 5
            simp only [PyData.depth, PyData.depthKv]
            decide
          · show (PyData.dict [(.str "a", .int z)]).leavesShort 1921 = true
            simp only [PyData.leavesShort, PyData.leavesShortKv, Bool.and_true]
            have a1 := sz.lv
            have a2 := sa.lv
            simp only [PyData.leavesShort] at a1 a2
            rw [a1, a2]
            rfl
          · show (PyData.dict [(.str "a", .int z)]).bulk ≤ 2000
            simp only [PyData.bulk, PyData.bulkKv]
            decide
      refine ⟨p, pc, m, 21 * i + 20, _, rfl, pen6.new nm, by omega, upd_same, by show 0 < 9; decide, by show 9 < 1000000; decide, fun j v H7 hj pen7 but7 => ?_⟩
      have mem := mem_of_at hj
      have d7 : Same (dd p g H6) (dd p g H7) := dd_step fun b o e n _ => but7 b o (by rw [upd_ne (ne_of_none e nm)]; exact e) n
      have d46 : Same (dd p g H3) (dd p g H6) := dd_step fun b o e _ _ => h6 _ _ (h5 _ _ (h4 _ _ e))
      have hg6 : H6 g = some (.lst vs) := h6 _ _ (h5 _ _ (h4 _ _ hg3))
      have hg7 : H7 g = some (.lst vs) := but7 _ _ (by rw [upd_ne (ne_of_none hg6 nm)]; exact hg6) gp
      refine ⟨g, vs, v, rfl, rfl, hg7, small1000 (by omega), ?_⟩
      have d8 : Same (dd p g H7) (dd p g (upd H7 g (.lst (vs ++ [v])))) := dd_step fun b o e _ n => by
        rw [upd_ne n]
        exact e
      refine ⟨vs ++ [v], _, _, rfl, ?_, upd_same, by rw [List.length_append, len2]; rfl, fun x hx => ?_⟩
      · exact (pen7.set gp gc).more (by omega)
      · rcases List.mem_append.mp hx with hx | hx
        · exact ((((good2 x hx).same d3).same d46).same d7).same d8
        · have : x = v := by simpa using hx
          subst this
          exact ((goodX x mem).same d7).same d8
    · rintro σ H2 ⟨vs, v3, v4, rfl, pen2, hg2, len2, good2⟩
      obtain ⟨v, u, rfl⟩ : ∃ v u, vs = [v, u] := by
        have len2' : vs.length = 2 := len2
        match vs, len2' with
        | [v, u], _ => exact ⟨v, u, rfl⟩
      have gv : Good K H2 v := (good2 v (by simp)).same dd_sub
      have gu : Good K H2 u := (good2 u (by simp)).same dd_sub
      refine ⟨_, rfl, g, _, _, _, rfl, rfl, SqL.of hg2, atI_nat (j := 0) rfl, _, rfl, g, _, _, _, rfl, rfl, SqL.of hg2, atI_nat (j := 1) rfl, v, u, rfl, fun H3 r es s3 hr3 row => ?_⟩
      have hg3 := s3 _ _ hg2
      have gv3 := gv.same s3
      have gu3 := gu.same s3
      -- the loop over the row
      refine ⟨_, rfl, r, _, rfl, SqL.of hr3, for_enum (xs := es.map V.ref) (fun i σ H' => ∃ (v3 v6 : Option V), σ = [some (.ref a), some (.ref p), some (.ref g), v3, v4, some (.ref r), v6, none, none, none] ∧ Same H3 H') ⟨_, _, rfl, Same.refl _⟩
        (fun i σ H' ⟨_, _, _, s4⟩ => SqL.of (s4 _ _ hr3)) ?_ ?_⟩
      · rintro i x tt σ H4 hx ⟨w3, w6, rfl, s4⟩ ntt
        obtain ⟨e, D, od, rfl, xD, he, hod, cD, kb, kv, kall⟩ := (item_of T (row.same s4) hx).ex
        have s5 := Same.new (o := .tup [.int (i : Nat), .ref e]) ntt
        have e5 : upd H4 tt (.tup [.int (i : Nat), .ref e]) tt = some (.tup [.int (i : Nat), .ref e]) := upd_same
        generalize upd H4 tt (.tup [.int (i : Nat), .ref e]) = H5 at s5 e5
        refine ⟨tt, _, rfl, SqT.of e5, rfl, _, _, rfl, _, _, rfl, rfl, ?_⟩
        have i12 : i < 12 := by
          have := (List.getElem?_eq_some_iff.mp hx).1
          rw [List.length_map, row.many] at this
          exact this
        -- isinstance, twice
        refine ⟨_, rfl, e, D, od, _, _, _, rfl, xD, s5 _ _ he, fun dd z => (hod dd z).imp fun fs y => s5 _ _ y, fun _ y => y, kb, _, rfl, ?_⟩
        refine iteF ⟨_, rfl, e, D, od, _, _, _, rfl, xD, s5 _ _ he, fun dd z => (hod dd z).imp fun fs y => s5 _ _ y, fun _ y => y, kv, _, rfl, ?_⟩
        refine iteF ?_
        -- the kinds
        refine ⟨_, rfl, e, D, od, _, _, _, _, _, _, _, _, _, _, _, _, rfl, xD, s5 _ _ he, fun dd z => (hod dd z).imp fun fs y => s5 _ _ y,
          ⟨kall 0 _ rfl, kall 1 _ rfl, kall 2 _ rfl, kall 3 _ rfl, kall 4 _ rfl, kall 5 _ rfl, kall 6 _ rfl, kall 7 _ rfl, kall 8 _ rfl, kall 9 _ rfl, kall 10 _ rfl, kall 11 _ rfl⟩, fun H6 k6 s6 hk6 => ?_⟩
        have es12 : (es.map V.ref).length = 12 := by
          rw [List.length_map]
          exact row.many
        have hr6 : H6 r = some (.lst (es.map V.ref)) := s6 _ _ (s5 _ _ (s4 _ _ hr3))
        refine ⟨_, rfl, r, _, rfl, .inl (SqL.of hr6), ((es.map V.ref).length : Int), rfl, by omega, by rw [es12]; decide, fun L nL => ?_⟩
        refine lc_range (lo := 0) (n := ((es.map V.ref).length : Int).toNat) (fun n H' => n ≤ 12 ∧ H' L = some (.lst ((List.range n).map fun n => V.bl (decide (n = i)))) ∧ Same H6 H') ⟨by decide, upd_same, Same.new nL⟩ ?_ ?_
        · rintro n H7 hn ⟨_, hL, s7⟩
          have hn' : n < 12 := by
            have : n < ((es.map V.ref).length : Int).toNat := hn
            rw [es12] at this
            exact this
          refine ⟨rfl, ?_⟩
          dsimp only [tYes]
          refine iteT ?_
          refine ⟨_, rfl, _, rfl, rfl, _, hL, small1000 (by rw [List.length_map, List.length_range]; omega), hn', ?_, fun b o e' => ?_⟩
          · rw [List.range_succ, List.map_append]
            have dd' : decide (V.int (0 + (n : Int)) = V.int (i : Nat)) = decide (n = i) := by
              by_cases h : n = i
              · subst h
                rw [decide_eq_true rfl]
                exact decide_eq_true (by rw [Int.zero_add])
              · rw [decide_eq_false h]
                exact decide_eq_false (fun z => h (by have := V.int.inj z; omega))
            rw [dd']
            exact upd_same
          · rw [upd_ne (ne_of_none e' nL)]
            exact s7 _ _ e'
        · rintro H7 ⟨_, hL, s7⟩
          have n12 : ((es.map V.ref).length : Int).toNat = 12 := by rw [es12]; rfl
          rw [n12] at hL
          have eb : ((List.range 12).map fun n => V.bl (decide (n = i))) = ((List.range 12).map fun n => decide (n = i)).map V.bl := by
            rw [List.map_map]
            rfl
          rw [eb] at hL
          rw [dec_ix T (j := 0) rfl cD, dec_ix T (j := 1) rfl cD, dec_ix T (j := 2) rfl cD, dec_ix T (j := 3) rfl cD, dec_ix T (j := 4) rfl cD, dec_ix T (j := 5) rfl cD,
            dec_ix T (j := 6) rfl cD, dec_ix T (j := 7) rfl cD, dec_ix T (j := 8) rfl cD, dec_ix T (j := 9) rfl cD, dec_ix T (j := 10) rfl cD, dec_ix T (j := 11) rfl cD] at hk6
          have hk7 : H7 k6 = some (.lst (((List.range 12).map fun n => decide (n = i)).map V.bl)) := s7 _ _ hk6
          have sh := bools_shaped ((List.range 12).map fun n => decide (n = i))
          refine ⟨_, _, .lst (SqL.of hk7) (bools_dp _), .lst (SqL.of hL) (bools_dp _), sh, sh, _, rfl, ?_⟩
          rw [SeqAt.eqv_refl _ (SeqAt.canLay_of_shaped sh)]
          exact iteF ⟨_, _, rfl, fun b o e' => s7 _ _ (s6 _ _ (s5 _ _ (s4 _ _ e')))⟩
      · rintro σ H4 ⟨w3, w6, rfl, s4⟩
        refine ⟨_, rfl, r, es, v, u, rfl, s4 _ _ hr3, row.same s4, fun H5 z qs s5 hz fl => ?_⟩
        refine ⟨(by show 12 ≤ sizeLine; decide), fun y ny => ?_⟩
        have s6 := Same.new (o := .lst manys) ny
        have hy6 : upd H5 y (.lst manys) y = some (.lst manys) := upd_same
        refine ⟨z, y, _, _, rfl, SqL.of (s6 _ _ hz), SqL.of hy6, ?_⟩
        refine RZ.for_zipL (xs := qs.map V.ref) (ys := manys) (by rw [List.length_map, fl.many]; rfl) (fun i σ H' => ∃ (w7 w8 : Option V), σ = [some (.ref a), some (.ref p), some (.ref g), w3, v4, some (.ref r), w6, w7, w8, none] ∧ Same (upd H5 y (.lst manys)) H') ⟨_, _, rfl, Same.refl _⟩
          (fun i σ H' ⟨_, _, _, s7⟩ => ⟨SqL.of (s7 _ _ (s6 _ _ hz)), SqL.of (s7 _ _ hy6)⟩) ?_ ?_
        · rintro i x y' tt σ H7 hx hy ⟨w7, w8, rfl, s7⟩ ntt
          have s8 := Same.new (o := .tup [x, y']) ntt
          have e8 : upd H7 tt (.tup [x, y']) tt = some (.tup [x, y']) := upd_same
          generalize upd H7 tt (.tup [x, y']) = H8 at s8 e8
          have sAll : Same H3 H8 := fun b o e' => s8 _ _ (s7 _ _ (s6 _ _ (s5 _ _ (s4 _ _ e'))))
          obtain ⟨q, hq, rfl⟩ : ∃ q, qs[i]? = some q ∧ x = V.ref q := by
            rw [List.getElem?_map] at hx
            cases zz : qs[i]? with
            | none =>
              rw [zz] at hx
              cases hx
            | some q =>
              rw [zz] at hx
              exact ⟨q, rfl, (Option.some.inj hx).symm⟩
          have i12 : i < 12 := by
            rw [← fl.many]
            exact (List.getElem?_eq_some_iff.mp hq).1
          obtain ⟨fs, hfs⟩ : ∃ fs, (fssOf v u)[i]? = some fs := ⟨_, List.getElem?_eq_getElem (show i < 12 from i12)⟩
          obtain ⟨hqs, qne⟩ := fl.at_ i q fs hq hfs
          obtain ⟨m, rfl, cut, mems, few⟩ := cut_row i fs y' hfs hy
          have hq8 : H8 q = some (.lst fs) := s8 _ _ (s7 _ _ (s6 _ _ hqs))
          have hg8 : H8 g = some (.lst [v, u]) := sAll _ _ hg3
          obtain ⟨ds, dq, a1, a2, a3, a4⟩ := all_good (K := K) (H := H8) (vs := fs) fun x hx => by
            rcases mems x hx with rfl | rfl
            · exact gv3.same sAll
            · exact gu3.same sAll
          have b1 : (PyData.list ds).showable = true := by simpa only [PyData.showable] using a1
          have b2 : (PyData.list ds).depth ≤ 60 := by
            simp only [PyData.depth]
            omega
          have b3 := list_shown (ds := ds) (n := fs.length) (by omega) a3 a4
          refine ⟨tt, _, rfl, SqT.of e8, rfl, _, _, rfl, _, _, rfl, rfl, ?_⟩
          refine ⟨_, rfl, q, .list ds, rfl, .lst hq8 qne dq, b1, b2, b3, ?_⟩
          refine ⟨_, rfl, _, rfl, m, rfl, g, [v, u], rfl, SqL.of hg8, fun o no one => ?_⟩
          rw [cut]
          refine ⟨o, .list ds, rfl, .lst upd_same one (dq.same (Same.new no)), b1, b2, b3, rfl, _, rfl, ?_⟩
          refine iteNS rfl ?_
          exact ⟨_, _, rfl, fun b o' e' => Same.new no _ _ (s8 _ _ (s7 _ _ e'))⟩
        · rintro σ H7 ⟨w7, w8, rfl, s7⟩
          exact k H7
end
end Kz
set_option linter.all false
set_option maxRecDepth 100000
set_option maxHeartbeats 8000000
namespace Kz
open PySem PySem.Spec PyProof.Rows L2
theorem errT_mk {K : PySem.W.Frag} {h : Heap} {mg : Str → Option Value} {x : Str} {B C : Addr} {nm q : Str} {N : Addr} {bs : List Value} {sn : List Str} {sub : List Value} {ab : Bool} {col : Option Bool} {dd : Option Addr} {m0 m1 m2 m3 m5 : Option Value}
    (X : K.In h) (G : h.Ns mainGlobals mg) (aC : PySem.W.nsIn K mainGlobals x = some (some (.ref C)))
    (xL : K.lookup C = some (excClassObj nm q C N bs [.ref B, .type "ValueError", .type "Exception", .type "BaseException", .type "object"] true sn sub ab col dd m0 m1 m2 m3 m5 "ValueError.__new__"))
    (sa : PySem.W.findIn K (.ref C) "__setattr__" = some (some (.builtin "object.__setattr__"))) (ga : PySem.W.findIn K (.ref C) "__getattribute__" = some (some (.builtin "BaseException.__getattribute__"))) (gg : PySem.W.findIn K (.ref C) "__getattr__" = some none)
    (ex : PySem.W.subIn K (.ref C) (.type "BaseException") = some true) (ty : PySem.W.typeIn K (.ref C) = some (.type "type")) (kp : PySem.W.keepIn K (.ref C) = true) (hd : PySem.W.hasDictIn K C = true)
    (ha : PySem.W.findIn K (.ref C) "__class__" = some (some (.builtin "object.__class__"))) (hn : PySem.W.specialIn K (.builtin "object.__class__") "__get__" = some (some (.builtin "getset_descriptor.__get__")))
    (ht : PySem.W.takesIn K (.builtin "object.__class__") = some true) (hm : PySem.W.mroIn K C (.type "object") = some true) : ErrT K mg x B C where
  o := ⟨⟨nm, q, N, bs, _, sn, sub, ab, col, dd, m0, m1, m2, m3, m5, xL, by first | rfl | decide +kernel⟩, sa, ex, ty, kp⟩
  xf := ⟨ga, gg, ex, hd⟩
  ex := ⟨ga, gg, ex, hd, ha, hn, ht, hm⟩
  g := PySem.W.mg_of X G aC
  mro := by
    refine ⟨{ name := nm, bases := bs, mro := [.ref C, .ref B, .type "ValueError", .type "Exception", .type "BaseException", .type "object"], ns := N, qualname := q, hasDict := true, slotNames := sn, subclasses := sub, abstract := ab, collection := col, hasDel := false }, ?_, rfl⟩
    · unfold PySem.W.clsIn
      rw [xL]

theorem all_mk {P : Program} {w : World} {K : PySem.W.Frag} {h : Heap} {mg : Str → Option Value} {fa B C2 C3 C4 C5 C6 C7 C8 C9 C10 C11 C12 C13 f2 ca2 cc2 f3 ca3 cc3 f4 ca4 cc4 f5 ca5 cc5 f6 ca6 cc6 f7 ca7 cc7 f8 ca8 cc8 f9 ca9 cc9 f10 ca10 cc10 f11 ca11 cc11 f15 f16 f17 f18 f19 f20 f21 f22 : Addr}
    {nm2 q2 : Str} {N2 : Addr} {bs2 : List Value} {sn2 : List Str} {sub2 : List Value} {ab2 : Bool} {col2 : Option Bool} {dd2 : Option Addr} {m02 m12 m22 m32 m52 : Option Value}
    {od2 an2 : Option Addr} {sl2 : Array (Option Value)} {oc2 kV2 dc2 pm2 ct2 : Value}
    {cl2 ccl2 : Value} {cld2 cdd2 : Option Addr} {csl2 ccs2 : Array (Option Value)} {vs2 : Array Value} {file2 : Str} {tf2 : Tok}
    {nm3 q3 : Str} {N3 : Addr} {bs3 : List Value} {sn3 : List Str} {sub3 : List Value} {ab3 : Bool} {col3 : Option Bool} {dd3 : Option Addr} {m03 m13 m23 m33 m53 : Option Value}
    {od3 an3 : Option Addr} {sl3 : Array (Option Value)} {oc3 kV3 dc3 pm3 ct3 : Value}
    {cl3 ccl3 : Value} {cld3 cdd3 : Option Addr} {csl3 ccs3 : Array (Option Value)} {vs3 : Array Value} {file3 : Str} {tf3 : Tok}
    {nm4 q4 : Str} {N4 : Addr} {bs4 : List Value} {sn4 : List Str} {sub4 : List Value} {ab4 : Bool} {col4 : Option Bool} {dd4 : Option Addr} {m04 m14 m24 m34 m54 : Option Value}
    {od4 an4 : Option Addr} {sl4 : Array (Option Value)} {oc4 kV4 dc4 pm4 ct4 : Value}
    {cl4 ccl4 : Value} {cld4 cdd4 : Option Addr} {csl4 ccs4 : Array (Option Value)} {vs4 : Array Value} {file4 : Str} {tf4 : Tok}
    {nm5 q5 : Str} {N5 : Addr} {bs5 : List Value} {sn5 : List Str} {sub5 : List Value} {ab5 : Bool} {col5 : Option Bool} {dd5 : Option Addr} {m05 m15 m25 m35 m55 : Option Value}
    {od5 an5 : Option Addr} {sl5 : Array (Option Value)} {oc5 kV5 dc5 pm5 ct5 : Value}
    {cl5 ccl5 : Value} {cld5 cdd5 : Option Addr} {csl5 ccs5 : Array (Option Value)} {vs5 : Array Value} {file5 : Str} {tf5 : Tok}
    {nm6 q6 : Str} {N6 : Addr} {bs6 : List Value} {sn6 : List Str} {sub6 : List Value} {ab6 : Bool} {col6 : Option Bool} {dd6 : Option Addr} {m06 m16 m26 m36 m56 : Option Value}
    {od6 an6 : Option Addr} {sl6 : Array (Option Value)} {oc6 kV6 dc6 pm6 ct6 : Value}
    {cl6 ccl6 : Value} {cld6 cdd6 : Option Addr} {csl6 ccs6 : Array (Option Value)} {vs6 : Array Value} {file6 : Str} {tf6 : Tok}
    {nm7 q7 : Str} {N7 : Addr} {bs7 : List Value} {sn7 : List Str} {sub7 : List Value} {ab7 : Bool} {col7 : Option Bool} {dd7 : Option Addr} {m07 m17 m27 m37 m57 : Option Value}
    {od7 an7 : Option Addr} {sl7 : Array (Option Value)} {oc7 kV7 dc7 pm7 ct7 : Value}
    {cl7 ccl7 : Value} {cld7 cdd7 : Option Addr} {csl7 ccs7 : Array (Option Value)} {vs7 : Array Value} {file7 : Str} {tf7 : Tok}
    {nm8 q8 : Str} {N8 : Addr} {bs8 : List Value} {sn8 : List Str} {sub8 : List Value} {ab8 : Bool} {col8 : Option Bool} {dd8 : Option Addr} {m08 m18 m28 m38 m58 : Option Value}
    {od8 an8 : Option Addr} {sl8 : Array (Option Value)} {oc8 kV8 dc8 pm8 ct8 : Value}
    {cl8 ccl8 : Value} {cld8 cdd8 : Option Addr} {csl8 ccs8 : Array (Option Value)} {vs8 : Array Value} {file8 : Str} {tf8 : Tok}
    {nm9 q9 : Str} {N9 : Addr} {bs9 : List Value} {sn9 : List Str} {sub9 : List Value} {ab9 : Bool} {col9 : Option Bool} {dd9 : Option Addr} {m09 m19 m29 m39 m59 : Option Value}
    {od9 an9 : Option Addr} {sl9 : Array (Option Value)} {oc9 kV9 dc9 pm9 ct9 : Value}
    {cl9 ccl9 : Value} {cld9 cdd9 : Option Addr} {csl9 ccs9 : Array (Option Value)} {vs9 : Array Value} {file9 : Str} {tf9 : Tok}
    {nm10 q10 : Str} {N10 : Addr} {bs10 : List Value} {sn10 : List Str} {sub10 : List Value} {ab10 : Bool} {col10 : Option Bool} {dd10 : Option Addr} {m010 m110 m210 m310 m510 : Option Value}
    {od10 an10 : Option Addr} {sl10 : Array (Option Value)} {oc10 kV10 dc10 pm10 ct10 : Value}
    {cl10 ccl10 : Value} {cld10 cdd10 : Option Addr} {csl10 ccs10 : Array (Option Value)} {vs10 : Array Value} {file10 : Str} {tf10 : Tok}
    {nm11 q11 : Str} {N11 : Addr} {bs11 : List Value} {sn11 : List Str} {sub11 : List Value} {ab11 : Bool} {col11 : Option Bool} {dd11 : Option Addr} {m011 m111 m211 m311 m511 : Option Value}
    {od11 an11 : Option Addr} {sl11 : Array (Option Value)} {oc11 kV11 dc11 pm11 ct11 : Value}
    {cl11 ccl11 : Value} {cld11 cdd11 : Option Addr} {csl11 ccs11 : Array (Option Value)} {vs11 : Array Value} {file11 : Str} {tf11 : Tok}
    {nm12 q12 : Str} {N12 : Addr} {bs12 : List Value} {sn12 : List Str} {sub12 : List Value} {ab12 : Bool} {col12 : Option Bool} {dd12 : Option Addr} {m012 m112 m212 m312 m512 : Option Value}
    {nm13 q13 : Str} {N13 : Addr} {bs13 : List Value} {sn13 : List Str} {sub13 : List Value} {ab13 : Bool} {col13 : Option Bool} {dd13 : Option Addr} {m013 m113 m213 m313 m513 : Option Value}
    {od15 an15 : Option Addr} {sl15 : Array (Option Value)} {oc15 kV15 dc15 pm15 cd15 ct15 : Value}
    {od16 an16 : Option Addr} {sl16 : Array (Option Value)} {oc16 kV16 dc16 pm16 cd16 ct16 : Value}
    {od17 an17 : Option Addr} {sl17 : Array (Option Value)} {oc17 kV17 dc17 pm17 cd17 ct17 : Value}
    {od18 an18 : Option Addr} {sl18 : Array (Option Value)} {oc18 kV18 dc18 pm18 cd18 ct18 : Value}
    {od19 an19 : Option Addr} {sl19 : Array (Option Value)} {oc19 kV19 dc19 pm19 cd19 ct19 : Value}
    {od20 an20 : Option Addr} {sl20 : Array (Option Value)} {oc20 kV20 dc20 pm20 cd20 ct20 : Value}
    {od21 an21 : Option Addr} {sl21 : Array (Option Value)} {oc21 kV21 dc21 pm21 cd21 ct21 : Value}
    {od22 an22 : Option Addr} {sl22 : Array (Option Value)} {oc22 kV22 dc22 pm22 cd22 ct22 : Value}
    (X : K.In h) (G : h.Ns mainGlobals mg) (hfa : mg "law" = some (.ref fa))
    (aB : PySem.W.nsIn K mainGlobals "MeanError" = some (some (.ref B)))
    (rB : PySem.W.readsIn K B (.type "type") = true)
    (sB : PySem.W.specialIn K (.ref B) "__getattribute__" = some (some (.builtin "type.__getattribute__")))
    (fB : PySem.W.findCls K (.ref B) (.type "type") "__init__" = some (.val (.builtin "ValueError.__init__")))
    (cB : PySem.W.isClsIn K B = true)
    (tB : PySem.W.typeIn K (.ref B) = some (.type "type"))
    (hn : PySem.W.specialIn K (.builtin "object.__class__") "__get__" = some (some (.builtin "getset_descriptor.__get__")))
    (ht : PySem.W.takesIn K (.builtin "object.__class__") = some true)
    (aC2 : PySem.W.nsIn K mainGlobals "BadText" = some (some (.ref C2)))
    (xL2 : K.lookup C2 = some (excClassObj nm2 q2 C2 N2 bs2 [.ref B, .type "ValueError", .type "Exception", .type "BaseException", .type "object"] true sn2 sub2 ab2 col2 dd2 m02 m12 m22 m32 m52 "ValueError.__new__"))
    (sa2 : PySem.W.findIn K (.ref C2) "__setattr__" = some (some (.builtin "object.__setattr__")))
    (ga2 : PySem.W.findIn K (.ref C2) "__getattribute__" = some (some (.builtin "BaseException.__getattribute__")))
    (gg2 : PySem.W.findIn K (.ref C2) "__getattr__" = some none)
    (ex2 : PySem.W.subIn K (.ref C2) (.type "BaseException") = some true)
    (ty2 : PySem.W.typeIn K (.ref C2) = some (.type "type"))
    (kp2 : PySem.W.keepIn K (.ref C2) = true)
    (hd2 : PySem.W.hasDictIn K C2 = true)
    (ha2 : PySem.W.findIn K (.ref C2) "__class__" = some (some (.builtin "object.__class__")))
    (hm2 : PySem.W.mroIn K C2 (.type "object") = some true)
    (n2a : PySem.W.findIn K (.ref C2) "column" = some none)
    (i2 : PySem.W.findIn K (.ref C2) "__init__" = some (some (.ref f2)))
    (t2 : PySem.W.typeIn K (.ref f2) = some (.type "function"))
    (l2 : K.lookup f2 = some ⟨oc2, od2, .func (PySem.W.fnX "__init__" "BadText.__init__" (defArgs sI2) (defBody sI2) (defScope sI2) [("__class__", cc2)] .none kV2 dc2 pm2 an2 (.ref ca2) ct2), sl2⟩)
    (c2 : PySem.W.codeIn K (.ref ca2) "BadText.__init__" = true)
    (lc2 : K.lookup cc2 = some ⟨cl2, cld2, .cell (some (.ref C2)), csl2⟩)
    (la2 : K.lookup ca2 = some ⟨ccl2, cdd2, .fields vs2, ccs2⟩)
    (h22 : (vs2[2]? : Option Value) = some (.str file2 tf2))
    (hf2 : ((P.main.file : Str) == file2) = true)
    (ow2 : PySem.W.mroIn K C2 (.ref C2) = some true)
    (nx2 : PySem.W.ks_superIn K C2 C2 "__init__" = some (some (.builtin "ValueError.__init__")))
    (iv2 : PySem.W.subIn K (.ref C2) (.type "ValueError") = some true)
    (aC3 : PySem.W.nsIn K mainGlobals "BadLine" = some (some (.ref C3)))
    (xL3 : K.lookup C3 = some (excClassObj nm3 q3 C3 N3 bs3 [.ref B, .type "ValueError", .type "Exception", .type "BaseException", .type "object"] true sn3 sub3 ab3 col3 dd3 m03 m13 m23 m33 m53 "ValueError.__new__"))
    (sa3 : PySem.W.findIn K (.ref C3) "__setattr__" = some (some (.builtin "object.__setattr__")))
    (ga3 : PySem.W.findIn K (.ref C3) "__getattribute__" = some (some (.builtin "BaseException.__getattribute__")))
    (gg3 : PySem.W.findIn K (.ref C3) "__getattr__" = some none)
    (ex3 : PySem.W.subIn K (.ref C3) (.type "BaseException") = some true)
    (ty3 : PySem.W.typeIn K (.ref C3) = some (.type "type"))
    (kp3 : PySem.W.keepIn K (.ref C3) = true)
    (hd3 : PySem.W.hasDictIn K C3 = true)
    (ha3 : PySem.W.findIn K (.ref C3) "__class__" = some (some (.builtin "object.__class__")))
    (hm3 : PySem.W.mroIn K C3 (.type "object") = some true)
    (n3a : PySem.W.findIn K (.ref C3) "line" = some none)
    (n3b : PySem.W.findIn K (.ref C3) "column" = some none)
    (i3 : PySem.W.findIn K (.ref C3) "__init__" = some (some (.ref f3)))
    (t3 : PySem.W.typeIn K (.ref f3) = some (.type "function"))
    (l3 : K.lookup f3 = some ⟨oc3, od3, .func (PySem.W.fnX "__init__" "BadLine.__init__" (defArgs sI3) (defBody sI3) (defScope sI3) [("__class__", cc3)] .none kV3 dc3 pm3 an3 (.ref ca3) ct3), sl3⟩)
    (c3 : PySem.W.codeIn K (.ref ca3) "BadLine.__init__" = true)
    (lc3 : K.lookup cc3 = some ⟨cl3, cld3, .cell (some (.ref C3)), csl3⟩)
    (la3 : K.lookup ca3 = some ⟨ccl3, cdd3, .fields vs3, ccs3⟩)
    (h23 : (vs3[2]? : Option Value) = some (.str file3 tf3))
    (hf3 : ((P.main.file : Str) == file3) = true)
    (ow3 : PySem.W.mroIn K C3 (.ref C3) = some true)
    (nx3 : PySem.W.ks_superIn K C3 C3 "__init__" = some (some (.builtin "ValueError.__init__")))
    (iv3 : PySem.W.subIn K (.ref C3) (.type "ValueError") = some true)
    (aC4 : PySem.W.nsIn K mainGlobals "BadNumber" = some (some (.ref C4)))
    (xL4 : K.lookup C4 = some (excClassObj nm4 q4 C4 N4 bs4 [.ref B, .type "ValueError", .type "Exception", .type "BaseException", .type "object"] true sn4 sub4 ab4 col4 dd4 m04 m14 m24 m34 m54 "ValueError.__new__"))
    (sa4 : PySem.W.findIn K (.ref C4) "__setattr__" = some (some (.builtin "object.__setattr__")))
    (ga4 : PySem.W.findIn K (.ref C4) "__getattribute__" = some (some (.builtin "BaseException.__getattribute__")))
    (gg4 : PySem.W.findIn K (.ref C4) "__getattr__" = some none)
    (ex4 : PySem.W.subIn K (.ref C4) (.type "BaseException") = some true)
    (ty4 : PySem.W.typeIn K (.ref C4) = some (.type "type"))
    (kp4 : PySem.W.keepIn K (.ref C4) = true)
    (hd4 : PySem.W.hasDictIn K C4 = true)
    (ha4 : PySem.W.findIn K (.ref C4) "__class__" = some (some (.builtin "object.__class__")))
    (hm4 : PySem.W.mroIn K C4 (.type "object") = some true)
    (n4a : PySem.W.findIn K (.ref C4) "what" = some none)
    (n4b : PySem.W.findIn K (.ref C4) "number" = some none)
    (i4 : PySem.W.findIn K (.ref C4) "__init__" = some (some (.ref f4)))
    (t4 : PySem.W.typeIn K (.ref f4) = some (.type "function"))
    (l4 : K.lookup f4 = some ⟨oc4, od4, .func (PySem.W.fnX "__init__" "BadNumber.__init__" (defArgs sI4) (defBody sI4) (defScope sI4) [("__class__", cc4)] .none kV4 dc4 pm4 an4 (.ref ca4) ct4), sl4⟩)
    (c4 : PySem.W.codeIn K (.ref ca4) "BadNumber.__init__" = true)
    (lc4 : K.lookup cc4 = some ⟨cl4, cld4, .cell (some (.ref C4)), csl4⟩)
    (la4 : K.lookup ca4 = some ⟨ccl4, cdd4, .fields vs4, ccs4⟩)
    (h24 : (vs4[2]? : Option Value) = some (.str file4 tf4))
    (hf4 : ((P.main.file : Str) == file4) = true)
    (ow4 : PySem.W.mroIn K C4 (.ref C4) = some true)
    (nx4 : PySem.W.ks_superIn K C4 C4 "__init__" = some (some (.builtin "ValueError.__init__")))
    (iv4 : PySem.W.subIn K (.ref C4) (.type "ValueError") = some true)
    (aC5 : PySem.W.nsIn K mainGlobals "BadRow" = some (some (.ref C5)))
    (xL5 : K.lookup C5 = some (excClassObj nm5 q5 C5 N5 bs5 [.ref B, .type "ValueError", .type "Exception", .type "BaseException", .type "object"] true sn5 sub5 ab5 col5 dd5 m05 m15 m25 m35 m55 "ValueError.__new__"))
    (sa5 : PySem.W.findIn K (.ref C5) "__setattr__" = some (some (.builtin "object.__setattr__")))
    (ga5 : PySem.W.findIn K (.ref C5) "__getattribute__" = some (some (.builtin "BaseException.__getattribute__")))
    (gg5 : PySem.W.findIn K (.ref C5) "__getattr__" = some none)
    (ex5 : PySem.W.subIn K (.ref C5) (.type "BaseException") = some true)
    (ty5 : PySem.W.typeIn K (.ref C5) = some (.type "type"))
    (kp5 : PySem.W.keepIn K (.ref C5) = true)
    (hd5 : PySem.W.hasDictIn K C5 = true)
    (ha5 : PySem.W.findIn K (.ref C5) "__class__" = some (some (.builtin "object.__class__")))
    (hm5 : PySem.W.mroIn K C5 (.type "object") = some true)
    (n5a : PySem.W.findIn K (.ref C5) "row" = some none)
    (i5 : PySem.W.findIn K (.ref C5) "__init__" = some (some (.ref f5)))
    (t5 : PySem.W.typeIn K (.ref f5) = some (.type "function"))
    (l5 : K.lookup f5 = some ⟨oc5, od5, .func (PySem.W.fnX "__init__" "BadRow.__init__" (defArgs sI5) (defBody sI5) (defScope sI5) [("__class__", cc5)] .none kV5 dc5 pm5 an5 (.ref ca5) ct5), sl5⟩)
    (c5 : PySem.W.codeIn K (.ref ca5) "BadRow.__init__" = true)
    (lc5 : K.lookup cc5 = some ⟨cl5, cld5, .cell (some (.ref C5)), csl5⟩)
    (la5 : K.lookup ca5 = some ⟨ccl5, cdd5, .fields vs5, ccs5⟩)
    (h25 : (vs5[2]? : Option Value) = some (.str file5 tf5))
    (hf5 : ((P.main.file : Str) == file5) = true)
    (ow5 : PySem.W.mroIn K C5 (.ref C5) = some true)
    (nx5 : PySem.W.ks_superIn K C5 C5 "__init__" = some (some (.builtin "ValueError.__init__")))
    (iv5 : PySem.W.subIn K (.ref C5) (.type "ValueError") = some true)
    (aC6 : PySem.W.nsIn K mainGlobals "BadInterval" = some (some (.ref C6)))
    (xL6 : K.lookup C6 = some (excClassObj nm6 q6 C6 N6 bs6 [.ref B, .type "ValueError", .type "Exception", .type "BaseException", .type "object"] true sn6 sub6 ab6 col6 dd6 m06 m16 m26 m36 m56 "ValueError.__new__"))
    (sa6 : PySem.W.findIn K (.ref C6) "__setattr__" = some (some (.builtin "object.__setattr__")))
    (ga6 : PySem.W.findIn K (.ref C6) "__getattribute__" = some (some (.builtin "BaseException.__getattribute__")))
    (gg6 : PySem.W.findIn K (.ref C6) "__getattr__" = some none)
    (ex6 : PySem.W.subIn K (.ref C6) (.type "BaseException") = some true)
    (ty6 : PySem.W.typeIn K (.ref C6) = some (.type "type"))
    (kp6 : PySem.W.keepIn K (.ref C6) = true)
    (hd6 : PySem.W.hasDictIn K C6 = true)
    (ha6 : PySem.W.findIn K (.ref C6) "__class__" = some (some (.builtin "object.__class__")))
    (hm6 : PySem.W.mroIn K C6 (.type "object") = some true)
    (n6a : PySem.W.findIn K (.ref C6) "low" = some none)
    (n6b : PySem.W.findIn K (.ref C6) "high" = some none)
    (i6 : PySem.W.findIn K (.ref C6) "__init__" = some (some (.ref f6)))
    (t6 : PySem.W.typeIn K (.ref f6) = some (.type "function"))
    (l6 : K.lookup f6 = some ⟨oc6, od6, .func (PySem.W.fnX "__init__" "BadInterval.__init__" (defArgs sI6) (defBody sI6) (defScope sI6) [("__class__", cc6)] .none kV6 dc6 pm6 an6 (.ref ca6) ct6), sl6⟩)
    (c6 : PySem.W.codeIn K (.ref ca6) "BadInterval.__init__" = true)
    (lc6 : K.lookup cc6 = some ⟨cl6, cld6, .cell (some (.ref C6)), csl6⟩)
    (la6 : K.lookup ca6 = some ⟨ccl6, cdd6, .fields vs6, ccs6⟩)
    (h26 : (vs6[2]? : Option Value) = some (.str file6 tf6))
    (hf6 : ((P.main.file : Str) == file6) = true)
    (ow6 : PySem.W.mroIn K C6 (.ref C6) = some true)
    (nx6 : PySem.W.ks_superIn K C6 C6 "__init__" = some (some (.builtin "ValueError.__init__")))
    (iv6 : PySem.W.subIn K (.ref C6) (.type "ValueError") = some true)
    (aC7 : PySem.W.nsIn K mainGlobals "BadName" = some (some (.ref C7)))
    (xL7 : K.lookup C7 = some (excClassObj nm7 q7 C7 N7 bs7 [.ref B, .type "ValueError", .type "Exception", .type "BaseException", .type "object"] true sn7 sub7 ab7 col7 dd7 m07 m17 m27 m37 m57 "ValueError.__new__"))
    (sa7 : PySem.W.findIn K (.ref C7) "__setattr__" = some (some (.builtin "object.__setattr__")))
    (ga7 : PySem.W.findIn K (.ref C7) "__getattribute__" = some (some (.builtin "BaseException.__getattribute__")))
    (gg7 : PySem.W.findIn K (.ref C7) "__getattr__" = some none)
    (ex7 : PySem.W.subIn K (.ref C7) (.type "BaseException") = some true)
    (ty7 : PySem.W.typeIn K (.ref C7) = some (.type "type"))
    (kp7 : PySem.W.keepIn K (.ref C7) = true)
    (hd7 : PySem.W.hasDictIn K C7 = true)
    (ha7 : PySem.W.findIn K (.ref C7) "__class__" = some (some (.builtin "object.__class__")))
    (hm7 : PySem.W.mroIn K C7 (.type "object") = some true)
    (n7a : PySem.W.findIn K (.ref C7) "name" = some none)
    (i7 : PySem.W.findIn K (.ref C7) "__init__" = some (some (.ref f7)))
    (t7 : PySem.W.typeIn K (.ref f7) = some (.type "function"))
    (l7 : K.lookup f7 = some ⟨oc7, od7, .func (PySem.W.fnX "__init__" "BadName.__init__" (defArgs sI7) (defBody sI7) (defScope sI7) [("__class__", cc7)] .none kV7 dc7 pm7 an7 (.ref ca7) ct7), sl7⟩)
    (c7 : PySem.W.codeIn K (.ref ca7) "BadName.__init__" = true)
    (lc7 : K.lookup cc7 = some ⟨cl7, cld7, .cell (some (.ref C7)), csl7⟩)
    (la7 : K.lookup ca7 = some ⟨ccl7, cdd7, .fields vs7, ccs7⟩)
    (h27 : (vs7[2]? : Option Value) = some (.str file7 tf7))
    (hf7 : ((P.main.file : Str) == file7) = true)
    (ow7 : PySem.W.mroIn K C7 (.ref C7) = some true)
    (nx7 : PySem.W.ks_superIn K C7 C7 "__init__" = some (some (.builtin "ValueError.__init__")))
    (iv7 : PySem.W.subIn K (.ref C7) (.type "ValueError") = some true)
    (aC8 : PySem.W.nsIn K mainGlobals "Unlike" = some (some (.ref C8)))
    (xL8 : K.lookup C8 = some (excClassObj nm8 q8 C8 N8 bs8 [.ref B, .type "ValueError", .type "Exception", .type "BaseException", .type "object"] true sn8 sub8 ab8 col8 dd8 m08 m18 m28 m38 m58 "ValueError.__new__"))
    (sa8 : PySem.W.findIn K (.ref C8) "__setattr__" = some (some (.builtin "object.__setattr__")))
    (ga8 : PySem.W.findIn K (.ref C8) "__getattribute__" = some (some (.builtin "BaseException.__getattribute__")))
    (gg8 : PySem.W.findIn K (.ref C8) "__getattr__" = some none)
    (ex8 : PySem.W.subIn K (.ref C8) (.type "BaseException") = some true)
    (ty8 : PySem.W.typeIn K (.ref C8) = some (.type "type"))
    (kp8 : PySem.W.keepIn K (.ref C8) = true)
    (hd8 : PySem.W.hasDictIn K C8 = true)
    (ha8 : PySem.W.findIn K (.ref C8) "__class__" = some (some (.builtin "object.__class__")))
    (hm8 : PySem.W.mroIn K C8 (.type "object") = some true)
    (n8a : PySem.W.findIn K (.ref C8) "what" = some none)
    (i8 : PySem.W.findIn K (.ref C8) "__init__" = some (some (.ref f8)))
    (t8 : PySem.W.typeIn K (.ref f8) = some (.type "function"))
    (l8 : K.lookup f8 = some ⟨oc8, od8, .func (PySem.W.fnX "__init__" "Unlike.__init__" (defArgs sI8) (defBody sI8) (defScope sI8) [("__class__", cc8)] .none kV8 dc8 pm8 an8 (.ref ca8) ct8), sl8⟩)
    (c8 : PySem.W.codeIn K (.ref ca8) "Unlike.__init__" = true)
    (lc8 : K.lookup cc8 = some ⟨cl8, cld8, .cell (some (.ref C8)), csl8⟩)
    (la8 : K.lookup ca8 = some ⟨ccl8, cdd8, .fields vs8, ccs8⟩)
    (h28 : (vs8[2]? : Option Value) = some (.str file8 tf8))
    (hf8 : ((P.main.file : Str) == file8) = true)
    (ow8 : PySem.W.mroIn K C8 (.ref C8) = some true)
    (nx8 : PySem.W.ks_superIn K C8 C8 "__init__" = some (some (.builtin "ValueError.__init__")))
    (iv8 : PySem.W.subIn K (.ref C8) (.type "ValueError") = some true)
    (aC9 : PySem.W.nsIn K mainGlobals "NoName" = some (some (.ref C9)))
    (xL9 : K.lookup C9 = some (excClassObj nm9 q9 C9 N9 bs9 [.ref B, .type "ValueError", .type "Exception", .type "BaseException", .type "object"] true sn9 sub9 ab9 col9 dd9 m09 m19 m29 m39 m59 "ValueError.__new__"))
    (sa9 : PySem.W.findIn K (.ref C9) "__setattr__" = some (some (.builtin "object.__setattr__")))
    (ga9 : PySem.W.findIn K (.ref C9) "__getattribute__" = some (some (.builtin "BaseException.__getattribute__")))
    (gg9 : PySem.W.findIn K (.ref C9) "__getattr__" = some none)
    (ex9 : PySem.W.subIn K (.ref C9) (.type "BaseException") = some true)
    (ty9 : PySem.W.typeIn K (.ref C9) = some (.type "type"))
    (kp9 : PySem.W.keepIn K (.ref C9) = true)
    (hd9 : PySem.W.hasDictIn K C9 = true)
    (ha9 : PySem.W.findIn K (.ref C9) "__class__" = some (some (.builtin "object.__class__")))
    (hm9 : PySem.W.mroIn K C9 (.type "object") = some true)
    (n9a : PySem.W.findIn K (.ref C9) "name" = some none)
    (i9 : PySem.W.findIn K (.ref C9) "__init__" = some (some (.ref f9)))
    (t9 : PySem.W.typeIn K (.ref f9) = some (.type "function"))
    (l9 : K.lookup f9 = some ⟨oc9, od9, .func (PySem.W.fnX "__init__" "NoName.__init__" (defArgs sI9) (defBody sI9) (defScope sI9) [("__class__", cc9)] .none kV9 dc9 pm9 an9 (.ref ca9) ct9), sl9⟩)
    (c9 : PySem.W.codeIn K (.ref ca9) "NoName.__init__" = true)
    (lc9 : K.lookup cc9 = some ⟨cl9, cld9, .cell (some (.ref C9)), csl9⟩)
    (la9 : K.lookup ca9 = some ⟨ccl9, cdd9, .fields vs9, ccs9⟩)
    (h29 : (vs9[2]? : Option Value) = some (.str file9 tf9))
    (hf9 : ((P.main.file : Str) == file9) = true)
    (ow9 : PySem.W.mroIn K C9 (.ref C9) = some true)
    (nx9 : PySem.W.ks_superIn K C9 C9 "__init__" = some (some (.builtin "ValueError.__init__")))
    (iv9 : PySem.W.subIn K (.ref C9) (.type "ValueError") = some true)
    (aC10 : PySem.W.nsIn K mainGlobals "TakenName" = some (some (.ref C10)))
    (xL10 : K.lookup C10 = some (excClassObj nm10 q10 C10 N10 bs10 [.ref B, .type "ValueError", .type "Exception", .type "BaseException", .type "object"] true sn10 sub10 ab10 col10 dd10 m010 m110 m210 m310 m510 "ValueError.__new__"))
    (sa10 : PySem.W.findIn K (.ref C10) "__setattr__" = some (some (.builtin "object.__setattr__")))
    (ga10 : PySem.W.findIn K (.ref C10) "__getattribute__" = some (some (.builtin "BaseException.__getattribute__")))
    (gg10 : PySem.W.findIn K (.ref C10) "__getattr__" = some none)
    (ex10 : PySem.W.subIn K (.ref C10) (.type "BaseException") = some true)
    (ty10 : PySem.W.typeIn K (.ref C10) = some (.type "type"))
    (kp10 : PySem.W.keepIn K (.ref C10) = true)
    (hd10 : PySem.W.hasDictIn K C10 = true)
    (ha10 : PySem.W.findIn K (.ref C10) "__class__" = some (some (.builtin "object.__class__")))
    (hm10 : PySem.W.mroIn K C10 (.type "object") = some true)
    (n10a : PySem.W.findIn K (.ref C10) "name" = some none)
    (i10 : PySem.W.findIn K (.ref C10) "__init__" = some (some (.ref f10)))
    (t10 : PySem.W.typeIn K (.ref f10) = some (.type "function"))
    (l10 : K.lookup f10 = some ⟨oc10, od10, .func (PySem.W.fnX "__init__" "TakenName.__init__" (defArgs sI10) (defBody sI10) (defScope sI10) [("__class__", cc10)] .none kV10 dc10 pm10 an10 (.ref ca10) ct10), sl10⟩)
    (c10 : PySem.W.codeIn K (.ref ca10) "TakenName.__init__" = true)
    (lc10 : K.lookup cc10 = some ⟨cl10, cld10, .cell (some (.ref C10)), csl10⟩)
    (la10 : K.lookup ca10 = some ⟨ccl10, cdd10, .fields vs10, ccs10⟩)
    (h210 : (vs10[2]? : Option Value) = some (.str file10 tf10))
    (hf10 : ((P.main.file : Str) == file10) = true)
    (ow10 : PySem.W.mroIn K C10 (.ref C10) = some true)
    (nx10 : PySem.W.ks_superIn K C10 C10 "__init__" = some (some (.builtin "ValueError.__init__")))
    (iv10 : PySem.W.subIn K (.ref C10) (.type "ValueError") = some true)
    (aC11 : PySem.W.nsIn K mainGlobals "NotKept" = some (some (.ref C11)))
    (xL11 : K.lookup C11 = some (excClassObj nm11 q11 C11 N11 bs11 [.ref B, .type "ValueError", .type "Exception", .type "BaseException", .type "object"] true sn11 sub11 ab11 col11 dd11 m011 m111 m211 m311 m511 "ValueError.__new__"))
    (sa11 : PySem.W.findIn K (.ref C11) "__setattr__" = some (some (.builtin "object.__setattr__")))
    (ga11 : PySem.W.findIn K (.ref C11) "__getattribute__" = some (some (.builtin "BaseException.__getattribute__")))
    (gg11 : PySem.W.findIn K (.ref C11) "__getattr__" = some none)
    (ex11 : PySem.W.subIn K (.ref C11) (.type "BaseException") = some true)
    (ty11 : PySem.W.typeIn K (.ref C11) = some (.type "type"))
    (kp11 : PySem.W.keepIn K (.ref C11) = true)
    (hd11 : PySem.W.hasDictIn K C11 = true)
    (ha11 : PySem.W.findIn K (.ref C11) "__class__" = some (some (.builtin "object.__class__")))
    (hm11 : PySem.W.mroIn K C11 (.type "object") = some true)
    (n11a : PySem.W.findIn K (.ref C11) "promise" = some none)
    (n11b : PySem.W.findIn K (.ref C11) "witness" = some none)
    (i11 : PySem.W.findIn K (.ref C11) "__init__" = some (some (.ref f11)))
    (t11 : PySem.W.typeIn K (.ref f11) = some (.type "function"))
    (l11 : K.lookup f11 = some ⟨oc11, od11, .func (PySem.W.fnX "__init__" "NotKept.__init__" (defArgs sI11) (defBody sI11) (defScope sI11) [("__class__", cc11)] .none kV11 dc11 pm11 an11 (.ref ca11) ct11), sl11⟩)
    (c11 : PySem.W.codeIn K (.ref ca11) "NotKept.__init__" = true)
    (lc11 : K.lookup cc11 = some ⟨cl11, cld11, .cell (some (.ref C11)), csl11⟩)
    (la11 : K.lookup ca11 = some ⟨ccl11, cdd11, .fields vs11, ccs11⟩)
    (h211 : (vs11[2]? : Option Value) = some (.str file11 tf11))
    (hf11 : ((P.main.file : Str) == file11) = true)
    (ow11 : PySem.W.mroIn K C11 (.ref C11) = some true)
    (nx11 : PySem.W.ks_superIn K C11 C11 "__init__" = some (some (.builtin "ValueError.__init__")))
    (iv11 : PySem.W.subIn K (.ref C11) (.type "ValueError") = some true)
    (aC12 : PySem.W.nsIn K mainGlobals "NothingToUndo" = some (some (.ref C12)))
    (xL12 : K.lookup C12 = some (excClassObj nm12 q12 C12 N12 bs12 [.ref B, .type "ValueError", .type "Exception", .type "BaseException", .type "object"] true sn12 sub12 ab12 col12 dd12 m012 m112 m212 m312 m512 "ValueError.__new__"))
    (sa12 : PySem.W.findIn K (.ref C12) "__setattr__" = some (some (.builtin "object.__setattr__")))
    (ga12 : PySem.W.findIn K (.ref C12) "__getattribute__" = some (some (.builtin "BaseException.__getattribute__")))
    (gg12 : PySem.W.findIn K (.ref C12) "__getattr__" = some none)
    (ex12 : PySem.W.subIn K (.ref C12) (.type "BaseException") = some true)
    (ty12 : PySem.W.typeIn K (.ref C12) = some (.type "type"))
    (kp12 : PySem.W.keepIn K (.ref C12) = true)
    (hd12 : PySem.W.hasDictIn K C12 = true)
    (ha12 : PySem.W.findIn K (.ref C12) "__class__" = some (some (.builtin "object.__class__")))
    (hm12 : PySem.W.mroIn K C12 (.type "object") = some true)
    (x12 : PySem.W.excIn K C12 [.type "ValueError", .type "Exception", .type "BaseException", .type "object"] "ValueError.__new__" = true)
    (aC13 : PySem.W.nsIn K mainGlobals "NothingToRedo" = some (some (.ref C13)))
    (xL13 : K.lookup C13 = some (excClassObj nm13 q13 C13 N13 bs13 [.ref B, .type "ValueError", .type "Exception", .type "BaseException", .type "object"] true sn13 sub13 ab13 col13 dd13 m013 m113 m213 m313 m513 "ValueError.__new__"))
    (sa13 : PySem.W.findIn K (.ref C13) "__setattr__" = some (some (.builtin "object.__setattr__")))
    (ga13 : PySem.W.findIn K (.ref C13) "__getattribute__" = some (some (.builtin "BaseException.__getattribute__")))
    (gg13 : PySem.W.findIn K (.ref C13) "__getattr__" = some none)
    (ex13 : PySem.W.subIn K (.ref C13) (.type "BaseException") = some true)
    (ty13 : PySem.W.typeIn K (.ref C13) = some (.type "type"))
    (kp13 : PySem.W.keepIn K (.ref C13) = true)
    (hd13 : PySem.W.hasDictIn K C13 = true)
    (ha13 : PySem.W.findIn K (.ref C13) "__class__" = some (some (.builtin "object.__class__")))
    (hm13 : PySem.W.mroIn K C13 (.type "object") = some true)
    (x13 : PySem.W.excIn K C13 [.type "ValueError", .type "Exception", .type "BaseException", .type "object"] "ValueError.__new__" = true)
    (g15 : PySem.W.nsIn K mainGlobals "_law_pen" = some (some (.ref f15)))
    (l15 : K.lookup f15 = some ⟨oc15, od15, .func (PySem.W.fnOf "_law_pen" "_law_pen" (defArgs sPen) (defBody sPen) (defScope sPen) .none kV15 dc15 pm15 an15 cd15 ct15), sl15⟩)
    (c15 : PySem.W.codeIn K cd15 "_law_pen" = true)
    (k15 : PySem.W.keepIn K (.ref f15) = true)
    (g16 : PySem.W.nsIn K mainGlobals "_law_draw" = some (some (.ref f16)))
    (l16 : K.lookup f16 = some ⟨oc16, od16, .func (PySem.W.fnOf "_law_draw" "_law_draw" (defArgs sDraw) (defBody sDraw) (defScope sDraw) .none kV16 dc16 pm16 an16 cd16 ct16), sl16⟩)
    (c16 : PySem.W.codeIn K cd16 "_law_draw" = true)
    (k16 : PySem.W.keepIn K (.ref f16) = true)
    (g17 : PySem.W.nsIn K mainGlobals "_law_pick" = some (some (.ref f17)))
    (l17 : K.lookup f17 = some ⟨oc17, od17, .func (PySem.W.fnOf "_law_pick" "_law_pick" (defArgs sPick) (defBody sPick) (defScope sPick) .none kV17 dc17 pm17 an17 cd17 ct17), sl17⟩)
    (c17 : PySem.W.codeIn K cd17 "_law_pick" = true)
    (k17 : PySem.W.keepIn K (.ref f17) = true)
    (g18 : PySem.W.nsIn K mainGlobals "_law_far" = some (some (.ref f18)))
    (l18 : K.lookup f18 = some ⟨oc18, od18, .func (PySem.W.fnOf "_law_far" "_law_far" (defArgs sFar) (defBody sFar) (defScope sFar) .none kV18 dc18 pm18 an18 cd18 ct18), sl18⟩)
    (c18 : PySem.W.codeIn K cd18 "_law_far" = true)
    (k18 : PySem.W.keepIn K (.ref f18) = true)
    (g19 : PySem.W.nsIn K mainGlobals "_law_kinds" = some (some (.ref f19)))
    (l19 : K.lookup f19 = some ⟨oc19, od19, .func (PySem.W.fnOf "_law_kinds" "_law_kinds" (defArgs sKinds) (defBody sKinds) (defScope sKinds) .none kV19 dc19 pm19 an19 cd19 ct19), sl19⟩)
    (c19 : PySem.W.codeIn K cd19 "_law_kinds" = true)
    (k19 : PySem.W.keepIn K (.ref f19) = true)
    (g20 : PySem.W.nsIn K mainGlobals "_law_objects" = some (some (.ref f20)))
    (l20 : K.lookup f20 = some ⟨oc20, od20, .func (PySem.W.fnOf "_law_objects" "_law_objects" (defArgs sObjs) (defBody sObjs) (defScope sObjs) .none kV20 dc20 pm20 an20 cd20 ct20), sl20⟩)
    (c20 : PySem.W.codeIn K cd20 "_law_objects" = true)
    (k20 : PySem.W.keepIn K (.ref f20) = true)
    (g21 : PySem.W.nsIn K mainGlobals "_law_fields" = some (some (.ref f21)))
    (l21 : K.lookup f21 = some ⟨oc21, od21, .func (PySem.W.fnOf "_law_fields" "_law_fields" (defArgs sFields) (defBody sFields) (defScope sFields) .none kV21 dc21 pm21 an21 cd21 ct21), sl21⟩)
    (c21 : PySem.W.codeIn K cd21 "_law_fields" = true)
    (k21 : PySem.W.keepIn K (.ref f21) = true)
    (g22 : PySem.W.nsIn K mainGlobals "law" = some (some (.ref f22)))
    (l22 : K.lookup f22 = some ⟨oc22, od22, .func (PySem.W.fnOf "law" "law" (defArgs sLaw) (defBody sLaw) (defScope sLaw) .none kV22 dc22 pm22 an22 cd22 ct22), sl22⟩)
    (c22 : PySem.W.codeIn K cd22 "law" = true)
    (k22 : PySem.W.keepIn K (.ref f22) = true)
    (zs : PySem.W.nsIn K mainGlobals "super" = some none)
    (tp : (P.main.scope.names.lookup ("super" : Str)).isSome = false)
    (op : PySem.W.nsIn K cStatics "thirdparty.any" = some none)
    (zLen : PySem.W.nsIn K mainGlobals "len" = some none)
    (zInt : PySem.W.nsIn K mainGlobals "int" = some none)
    (zList : PySem.W.nsIn K mainGlobals "list" = some none)
    (zRange : PySem.W.nsIn K mainGlobals "range" = some none)
    (zIsinstance : PySem.W.nsIn K mainGlobals "isinstance" = some none)
    (zValueerror : PySem.W.nsIn K mainGlobals "ValueError" = some none)
    (zRepr : PySem.W.nsIn K mainGlobals "repr" = some none)
    (zStr : PySem.W.nsIn K mainGlobals "str" = some none)
    (zEnumerate : PySem.W.nsIn K mainGlobals "enumerate" = some none)
    (zZip : PySem.W.nsIn K mainGlobals "zip" = some none)
    (nd : [C2, C3, C4, C5, C6, C7, C8, C9, C10, C11, C12, C13].Nodup)
    (nb : ∀ C ∈ [C2, C3, C4, C5, C6, C7, C8, C9, C10, C11, C12, C13], C ≠ B)
    : ∃ fd : FuncData, (∀ (s : Shared) (u : Value), BindsTo s fd ⟨[u], []⟩ [("_law_script", u)]) ∧ ∀ base : Heap, K.In base → base.Ns mainGlobals mg → FnG P w K mg base CX0 4 fa fd ["_law_script"] (spLaw K) := by
  cases hfa.symm.trans (PySem.W.mg_of X G g22)
  have TB : BaseT K mg B (.type "type") := ⟨PySem.W.mg_of X G aB, ⟨rB, sB⟩, fB, cB, tB⟩
  have T2 : ErrT K mg "BadText" B C2 := errT_mk X G aC2 xL2 sa2 ga2 gg2 ex2 ty2 kp2 hd2 ha2 hn ht hm2
  have T3 : ErrT K mg "BadLine" B C3 := errT_mk X G aC3 xL3 sa3 ga3 gg3 ex3 ty3 kp3 hd3 ha3 hn ht hm3
  have T4 : ErrT K mg "BadNumber" B C4 := errT_mk X G aC4 xL4 sa4 ga4 gg4 ex4 ty4 kp4 hd4 ha4 hn ht hm4
  have T5 : ErrT K mg "BadRow" B C5 := errT_mk X G aC5 xL5 sa5 ga5 gg5 ex5 ty5 kp5 hd5 ha5 hn ht hm5
  have T6 : ErrT K mg "BadInterval" B C6 := errT_mk X G aC6 xL6 sa6 ga6 gg6 ex6 ty6 kp6 hd6 ha6 hn ht hm6
  have T7 : ErrT K mg "BadName" B C7 := errT_mk X G aC7 xL7 sa7 ga7 gg7 ex7 ty7 kp7 hd7 ha7 hn ht hm7
  have T8 : ErrT K mg "Unlike" B C8 := errT_mk X G aC8 xL8 sa8 ga8 gg8 ex8 ty8 kp8 hd8 ha8 hn ht hm8
  have T9 : ErrT K mg "NoName" B C9 := errT_mk X G aC9 xL9 sa9 ga9 gg9 ex9 ty9 kp9 hd9 ha9 hn ht hm9
  have T10 : ErrT K mg "TakenName" B C10 := errT_mk X G aC10 xL10 sa10 ga10 gg10 ex10 ty10 kp10 hd10 ha10 hn ht hm10
  have T11 : ErrT K mg "NotKept" B C11 := errT_mk X G aC11 xL11 sa11 ga11 gg11 ex11 ty11 kp11 hd11 ha11 hn ht hm11
  have T12 : ErrT K mg "NothingToUndo" B C12 := errT_mk X G aC12 xL12 sa12 ga12 gg12 ex12 ty12 kp12 hd12 ha12 hn ht hm12
  have T13 : ErrT K mg "NothingToRedo" B C13 := errT_mk X G aC13 xL13 sa13 ga13 gg13 ex13 ty13 kp13 hd13 ha13 hn ht hm13
  have BL : Blt mg := ⟨PySem.W.mg_none_of X G zLen, PySem.W.mg_none_of X G zInt, PySem.W.mg_none_of X G zList, PySem.W.mg_none_of X G zRange⟩
  have T : Txt K mg ⟨B, C2, C3, C4, C5, C6, C7, C8, C9, C10, C11, C12, C13⟩ (.type "type") := {
    blt := BL, mIsinstance := PySem.W.mg_none_of X G zIsinstance, mValueerror := PySem.W.mg_none_of X G zValueerror, mRepr := PySem.W.mg_none_of X G zRepr, mStr := PySem.W.mg_none_of X G zStr, mEnumerate := PySem.W.mg_none_of X G zEnumerate, mZip := PySem.W.mg_none_of X G zZip, base := TB, e2 := T2, n2a := n2a, e3 := T3, n3a := n3a, n3b := n3b, e4 := T4, n4a := n4a, n4b := n4b, e5 := T5, n5a := n5a, e6 := T6, n6a := n6a, n6b := n6b, e7 := T7, n7a := n7a, e8 := T8, n8a := n8a, e9 := T9, n9a := n9a, e10 := T10, n10a := n10a, e11 := T11, n11a := n11a, n11b := n11b, e12 := T12, e13 := T13, x12 := x12, x13 := x13, nd := nd, nb := nb }
  let fi : Nat → Addr := fun n => match n with | 2 => f2 | 3 => f3 | 4 => f4 | 5 => f5 | 6 => f6 | 7 => f7 | 8 => f8 | 9 => f9 | 10 => f10 | 11 => f11 | 15 => f15 | 16 => f16 | 17 => f17 | 18 => f18 | 19 => f19 | 20 => f20 | 21 => f21 | _ => fa
  let di : Nat → FuncData := fun n => match n with | 2 => PySem.W.fnX "__init__" "BadText.__init__" (defArgs sI2) (defBody sI2) (defScope sI2) [("__class__", cc2)] .none kV2 dc2 pm2 an2 (.ref ca2) ct2 | 3 => PySem.W.fnX "__init__" "BadLine.__init__" (defArgs sI3) (defBody sI3) (defScope sI3) [("__class__", cc3)] .none kV3 dc3 pm3 an3 (.ref ca3) ct3 | 4 => PySem.W.fnX "__init__" "BadNumber.__init__" (defArgs sI4) (defBody sI4) (defScope sI4) [("__class__", cc4)] .none kV4 dc4 pm4 an4 (.ref ca4) ct4 | 5 => PySem.W.fnX "__init__" "BadRow.__init__" (defArgs sI5) (defBody sI5) (defScope sI5) [("__class__", cc5)] .none kV5 dc5 pm5 an5 (.ref ca5) ct5 | 6 => PySem.W.fnX "__init__" "BadInterval.__init__" (defArgs sI6) (defBody sI6) (defScope sI6) [("__class__", cc6)] .none kV6 dc6 pm6 an6 (.ref ca6) ct6 | 7 => PySem.W.fnX "__init__" "BadName.__init__" (defArgs sI7) (defBody sI7) (defScope sI7) [("__class__", cc7)] .none kV7 dc7 pm7 an7 (.ref ca7) ct7 | 8 => PySem.W.fnX "__init__" "Unlike.__init__" (defArgs sI8) (defBody sI8) (defScope sI8) [("__class__", cc8)] .none kV8 dc8 pm8 an8 (.ref ca8) ct8 | 9 => PySem.W.fnX "__init__" "NoName.__init__" (defArgs sI9) (defBody sI9) (defScope sI9) [("__class__", cc9)] .none kV9 dc9 pm9 an9 (.ref ca9) ct9 | 10 => PySem.W.fnX "__init__" "TakenName.__init__" (defArgs sI10) (defBody sI10) (defScope sI10) [("__class__", cc10)] .none kV10 dc10 pm10 an10 (.ref ca10) ct10 | 11 => PySem.W.fnX "__init__" "NotKept.__init__" (defArgs sI11) (defBody sI11) (defScope sI11) [("__class__", cc11)] .none kV11 dc11 pm11 an11 (.ref ca11) ct11 | 15 => PySem.W.fnOf "_law_pen" "_law_pen" (defArgs sPen) (defBody sPen) (defScope sPen) .none kV15 dc15 pm15 an15 cd15 ct15 | 16 => PySem.W.fnOf "_law_draw" "_law_draw" (defArgs sDraw) (defBody sDraw) (defScope sDraw) .none kV16 dc16 pm16 an16 cd16 ct16 | 17 => PySem.W.fnOf "_law_pick" "_law_pick" (defArgs sPick) (defBody sPick) (defScope sPick) .none kV17 dc17 pm17 an17 cd17 ct17 | 18 => PySem.W.fnOf "_law_far" "_law_far" (defArgs sFar) (defBody sFar) (defScope sFar) .none kV18 dc18 pm18 an18 cd18 ct18 | 19 => PySem.W.fnOf "_law_kinds" "_law_kinds" (defArgs sKinds) (defBody sKinds) (defScope sKinds) .none kV19 dc19 pm19 an19 cd19 ct19 | 20 => PySem.W.fnOf "_law_objects" "_law_objects" (defArgs sObjs) (defBody sObjs) (defScope sObjs) .none kV20 dc20 pm20 an20 cd20 ct20 | 21 => PySem.W.fnOf "_law_fields" "_law_fields" (defArgs sFields) (defBody sFields) (defScope sFields) .none kV21 dc21 pm21 an21 cd21 ct21 | _ => PySem.W.fnOf "law" "law" (defArgs sLaw) (defBody sLaw) (defScope sLaw) .none kV22 dc22 pm22 an22 cd22 ct22
  have F2 := funS_mk (st := sI2) (P := P) l2 c2 lc2 la2 h22 hf2 zs tp op (ErrT_cls T2.mro) ow2 nx2 iv2
  have b2 := F2.binds (ps := ["self", "column"]) fun _ _ _ _ _ _ _ us hl => match us, hl with | [_, _], _ => rfl
  have F3 := funS_mk (st := sI3) (P := P) l3 c3 lc3 la3 h23 hf3 zs tp op (ErrT_cls T3.mro) ow3 nx3 iv3
  have b3 := F3.binds (ps := ["self", "line", "column"]) fun _ _ _ _ _ _ _ us hl => match us, hl with | [_, _, _], _ => rfl
  have F4 := funS_mk (st := sI4) (P := P) l4 c4 lc4 la4 h24 hf4 zs tp op (ErrT_cls T4.mro) ow4 nx4 iv4
  have b4 := F4.binds (ps := ["self", "what", "number"]) fun _ _ _ _ _ _ _ us hl => match us, hl with | [_, _, _], _ => rfl
  have F5 := funS_mk (st := sI5) (P := P) l5 c5 lc5 la5 h25 hf5 zs tp op (ErrT_cls T5.mro) ow5 nx5 iv5
  have b5 := F5.binds (ps := ["self", "row"]) fun _ _ _ _ _ _ _ us hl => match us, hl with | [_, _], _ => rfl
  have F6 := funS_mk (st := sI6) (P := P) l6 c6 lc6 la6 h26 hf6 zs tp op (ErrT_cls T6.mro) ow6 nx6 iv6
  have b6 := F6.binds (ps := ["self", "low", "high"]) fun _ _ _ _ _ _ _ us hl => match us, hl with | [_, _, _], _ => rfl
  have F7 := funS_mk (st := sI7) (P := P) l7 c7 lc7 la7 h27 hf7 zs tp op (ErrT_cls T7.mro) ow7 nx7 iv7
  have b7 := F7.binds (ps := ["self", "name"]) fun _ _ _ _ _ _ _ us hl => match us, hl with | [_, _], _ => rfl
  have F8 := funS_mk (st := sI8) (P := P) l8 c8 lc8 la8 h28 hf8 zs tp op (ErrT_cls T8.mro) ow8 nx8 iv8
  have b8 := F8.binds (ps := ["self", "what"]) fun _ _ _ _ _ _ _ us hl => match us, hl with | [_, _], _ => rfl
  have F9 := funS_mk (st := sI9) (P := P) l9 c9 lc9 la9 h29 hf9 zs tp op (ErrT_cls T9.mro) ow9 nx9 iv9
  have b9 := F9.binds (ps := ["self", "name"]) fun _ _ _ _ _ _ _ us hl => match us, hl with | [_, _], _ => rfl
  have F10 := funS_mk (st := sI10) (P := P) l10 c10 lc10 la10 h210 hf10 zs tp op (ErrT_cls T10.mro) ow10 nx10 iv10
  have b10 := F10.binds (ps := ["self", "name"]) fun _ _ _ _ _ _ _ us hl => match us, hl with | [_, _], _ => rfl
  have F11 := funS_mk (st := sI11) (P := P) l11 c11 lc11 la11 h211 hf11 zs tp op (ErrT_cls T11.mro) ow11 nx11 iv11
  have b11 := F11.binds (ps := ["self", "promise", "witness"]) fun _ _ _ _ _ _ _ us hl => match us, hl with | [_, _, _], _ => rfl
  have F15 := fun_mk (st := sPen) l15 c15 k15
  have b15 := F15.binds (ps := ["_law_script"]) fun _ _ _ _ _ _ us hl => match us, hl with | [_], _ => rfl
  have F16 := fun_mk (st := sDraw) l16 c16 k16
  have b16 := F16.binds (ps := ["_law_pen_here", "_law_many"]) fun _ _ _ _ _ _ us hl => match us, hl with | [_, _], _ => rfl
  have F17 := fun_mk (st := sPick) l17 c17 k17
  have b17 := F17.binds (ps := ["_law_pen_here", "_law_some"]) fun _ _ _ _ _ _ us hl => match us, hl with | [_, _], _ => rfl
  have F18 := fun_mk (st := sFar) l18 c18 k18
  have b18 := F18.binds (ps := ["_law_pen_here"]) fun _ _ _ _ _ _ us hl => match us, hl with | [_], _ => rfl
  have F19 := fun_mk (st := sKinds) l19 c19 k19
  have b19 := F19.binds (ps := ["_law_e"]) fun _ _ _ _ _ _ us hl => match us, hl with | [_], _ => rfl
  have F20 := fun_mk (st := sObjs) l20 c20 k20
  have b20 := F20.binds (ps := ["_law_a", "_law_b"]) fun _ _ _ _ _ _ us hl => match us, hl with | [_, _], _ => rfl
  have F21 := fun_mk (st := sFields) l21 c21 k21
  have b21 := F21.binds (ps := ["_law_row"]) fun _ _ _ _ _ _ us hl => match us, hl with | [_], _ => rfl
  have F22 := fun_mk (st := sLaw) l22 c22 k22
  have N : Inits K P ⟨B, C2, C3, C4, C5, C6, C7, C8, C9, C10, C11, C12, C13⟩ fi di := {
    i2 := ⟨i2, t2, F2⟩, b2 := b2, i3 := ⟨i3, t3, F3⟩, b3 := b3, i4 := ⟨i4, t4, F4⟩, b4 := b4, i5 := ⟨i5, t5, F5⟩, b5 := b5, i6 := ⟨i6, t6, F6⟩, b6 := b6, i7 := ⟨i7, t7, F7⟩, b7 := b7, i8 := ⟨i8, t8, F8⟩, b8 := b8, i9 := ⟨i9, t9, F9⟩, b9 := b9, i10 := ⟨i10, t10, F10⟩, b10 := b10, i11 := ⟨i11, t11, F11⟩, b11 := b11 }
  have D : Defs K mg fi di := {
    pen := F15, gPen := PySem.W.mg_of X G g15, bPen := b15, draw := F16, gDraw := PySem.W.mg_of X G g16, bDraw := b16, pick := F17, gPick := PySem.W.mg_of X G g17, bPick := b17, far := F18, gFar := PySem.W.mg_of X G g18, bFar := b18, kinds := F19, gKinds := PySem.W.mg_of X G g19, bKinds := b19, objs := F20, gObjs := PySem.W.mg_of X G g20, bObjs := b20, fields := F21, gFields := PySem.W.mg_of X G g21, bFields := b21 }
  exact ⟨_, fun s u => .of_eq rfl, fun base _ _ => ok_law F22 T N D⟩
theorem walk {l : PySem.W.OpenLaw} {q : Program} {loose : List Str} {XP : (Str → Option Value) → Heap → Prop} {YP : World → Heap → Prop} {d : DefRec} {K : Params → PySem.W.Frag} (hn : l.most = some 63) (hdf : d.params.defaults = [])
    (hY : ∀ (w : World) (h : Heap), YP w h → (K w.params).In h)
    (F : ∀ (w : World) (mg : Str → Option Value) (fa : Addr) (h : Heap), (K w.params).In h → h.Ns mainGlobals mg → mg d.name = some (.ref fa) →
      ∃ fd : FuncData, (∀ (s : Shared) (u : Value), BindsTo s fd ⟨[u], []⟩ [("_law_script", u)]) ∧ ∀ base : Heap, (K w.params).In base → base.Ns mainGlobals mg → FnG l.prog w (K w.params) mg base CX0 4 fa fd ["_law_script"] (spLaw (K w.params))) :
    PySem.W.WalkO q loose XP YP l.row.toRowW d [] (fun f vs => PySem.call f vs) :=
  walk_G (n := 63) (k := 4) (x := "_law_script") (CX := fun _ => CX0) (sp := fun w => spLaw (K w.params)) hn (by decide) hdf ⟨rfl, by decide, by decide⟩ hY F (fun _ _ a ns _ _ hS => ⟨a, ns, rfl, hS, fun _ => rfl⟩) fun _ _ _ _ _ z => z
end Kz

open PySem PySem.W PyProof.Rows
set_option maxRecDepth 100000 in
set_option maxHeartbeats 0 in
theorem PySem.Challenge.cw_toldmeans_k00_errors_holds : PySem.Challenge.rw_toldmeans_k00_errors.Holds := by
  w_on; o_law; k_head; (case hw => w_witness2)
  k_fill
  refine Kz.walk (l := PySem.Challenge.rw_toldmeans_k00_errors) rfl rfl (fun w h Y => PySem.W.kIn_of Y) ?F
  case F =>
    intro w mg fa h KX G hmg
    refine' Kz.all_mk KX G hmg ?h_aB ?h_rB ?h_sB ?h_fB ?h_cB ?h_tB ?h_hn ?h_ht ?h_aC2 ?h_xL2 ?h_sa2 ?h_ga2 ?h_gg2 ?h_ex2 ?h_ty2 ?h_kp2 ?h_hd2 ?h_ha2 ?h_hm2 ?h_n2a ?h_i2 ?h_t2 ?h_l2 ?h_c2 ?h_lc2 ?h_la2 ?h_h22 ?h_hf2 ?h_ow2 ?h_nx2 ?h_iv2 ?h_aC3 ?h_xL3 ?h_sa3 ?h_ga3 ?h_gg3 ?h_ex3 ?h_ty3 ?h_kp3 ?h_hd3 ?h_ha3 ?h_hm3 ?h_n3a ?h_n3b ?h_i3 ?h_t3 ?h_l3 ?h_c3 ?h_lc3 ?h_la3 ?h_h23 ?h_hf3 ?h_ow3 ?h_nx3 ?h_iv3 ?h_aC4 ?h_xL4 ?h_sa4 ?h_ga4 ?h_gg4 ?h_ex4 ?h_ty4 ?h_kp4 ?h_hd4 ?h_ha4 ?h_hm4 ?h_n4a ?h_n4b ?h_i4 ?h_t4 ?h_l4 ?h_c4 ?h_lc4 ?h_la4 ?h_h24 ?h_hf4 ?h_ow4 ?h_nx4 ?h_iv4 ?h_aC5 ?h_xL5 ?h_sa5 ?h_ga5 ?h_gg5 ?h_ex5 ?h_ty5 ?h_kp5 ?h_hd5 ?h_ha5 ?h_hm5 ?h_n5a ?h_i5 ?h_t5 ?h_l5 ?h_c5 ?h_lc5 ?h_la5 ?h_h25 ?h_hf5 ?h_ow5 ?h_nx5 ?h_iv5 ?h_aC6 ?h_xL6 ?h_sa6 ?h_ga6 ?h_gg6 ?h_ex6 ?h_ty6 ?h_kp6 ?h_hd6 ?h_ha6 ?h_hm6 ?h_n6a ?h_n6b ?h_i6 ?h_t6 ?h_l6 ?h_c6 ?h_lc6 ?h_la6 ?h_h26 ?h_hf6 ?h_ow6 ?h_nx6 ?h_iv6 ?h_aC7 ?h_xL7 ?h_sa7 ?h_ga7 ?h_gg7 ?h_ex7 ?h_ty7 ?h_kp7 ?h_hd7 ?h_ha7 ?h_hm7 ?h_n7a ?h_i7 ?h_t7 ?h_l7 ?h_c7 ?h_lc7 ?h_la7 ?h_h27 ?h_hf7 ?h_ow7 ?h_nx7 ?h_iv7 ?h_aC8 ?h_xL8 ?h_sa8 ?h_ga8 ?h_gg8 ?h_ex8 ?h_ty8 ?h_kp8 ?h_hd8 ?h_ha8 ?h_hm8 ?h_n8a ?h_i8 ?h_t8 ?h_l8 ?h_c8 ?h_lc8 ?h_la8 ?h_h28 ?h_hf8 ?h_ow8 ?h_nx8 ?h_iv8 ?h_aC9 ?h_xL9 ?h_sa9 ?h_ga9 ?h_gg9 ?h_ex9 ?h_ty9 ?h_kp9 ?h_hd9 ?h_ha9 ?h_hm9 ?h_n9a ?h_i9 ?h_t9 ?h_l9 ?h_c9 ?h_lc9 ?h_la9 ?h_h29 ?h_hf9 ?h_ow9 ?h_nx9 ?h_iv9 ?h_aC10 ?h_xL10 ?h_sa10 ?h_ga10 ?h_gg10 ?h_ex10 ?h_ty10 ?h_kp10 ?h_hd10 ?h_ha10 ?h_hm10 ?h_n10a ?h_i10 ?h_t10 ?h_l10 ?h_c10 ?h_lc10 ?h_la10 ?h_h210 ?h_hf10 ?h_ow10 ?h_nx10 ?h_iv10 ?h_aC11 ?h_xL11 ?h_sa11 ?h_ga11 ?h_gg11 ?h_ex11 ?h_ty11 ?h_kp11 ?h_hd11 ?h_ha11 ?h_hm11 ?h_n11a ?h_n11b ?h_i11 ?h_t11 ?h_l11 ?h_c11 ?h_lc11 ?h_la11 ?h_h211 ?h_hf11 ?h_ow11 ?h_nx11 ?h_iv11 ?h_aC12 ?h_xL12 ?h_sa12 ?h_ga12 ?h_gg12 ?h_ex12 ?h_ty12 ?h_kp12 ?h_hd12 ?h_ha12 ?h_hm12 ?h_x12 ?h_aC13 ?h_xL13 ?h_sa13 ?h_ga13 ?h_gg13 ?h_ex13 ?h_ty13 ?h_kp13 ?h_hd13 ?h_ha13 ?h_hm13 ?h_x13 ?h_g15 ?h_l15 ?h_c15 ?h_k15 ?h_g16 ?h_l16 ?h_c16 ?h_k16 ?h_g17 ?h_l17 ?h_c17 ?h_k17 ?h_g18 ?h_l18 ?h_c18 ?h_k18 ?h_g19 ?h_l19 ?h_c19 ?h_k19 ?h_g20 ?h_l20 ?h_c20 ?h_k20 ?h_g21 ?h_l21 ?h_c21 ?h_k21 ?h_g22 ?h_l22 ?h_c22 ?h_k22 ?h_zs ?h_tp ?h_op ?h_zLen ?h_zInt ?h_zList ?h_zRange ?h_zIsinstance ?h_zValueerror ?h_zRepr ?h_zStr ?h_zEnumerate ?h_zZip ?h_nd ?h_nb
    (case h_aB => k_is)
    (case h_rB => k_is)
    (case h_sB => k_is)
    (case h_fB => k_is)
    (case h_cB => k_is)
    (case h_tB => k_is)
    (case h_hn => k_is)
    (case h_ht => k_is)
    (case h_aC2 => k_is)
    (case h_xL2 => k_is)
    (case h_sa2 => k_is)
    (case h_ga2 => k_is)
    (case h_gg2 => k_is)
    (case h_ex2 => k_is)
    (case h_ty2 => k_is)
    (case h_kp2 => k_is)
    (case h_hd2 => k_is)
    (case h_ha2 => k_is)
    (case h_hm2 => k_is)
    (case h_n2a => k_is)
    (case h_i2 => k_is)
    (case h_t2 => k_is)
    (case h_l2 => k_is)
    (case h_c2 => k_is)
    (case h_lc2 => k_is)
    (case h_la2 => k_is)
    (case h_h22 => rfl)
    (case h_hf2 => kernel_rfl)
    (case h_ow2 => k_is)
    (case h_nx2 => ks_is)
    (case h_iv2 => k_is)
    (case h_aC3 => k_is)
    (case h_xL3 => k_is)
    (case h_sa3 => k_is)
    (case h_ga3 => k_is)
    (case h_gg3 => k_is)
    (case h_ex3 => k_is)
    (case h_ty3 => k_is)
    (case h_kp3 => k_is)
    (case h_hd3 => k_is)
    (case h_ha3 => k_is)
    (case h_hm3 => k_is)
    (case h_n3a => k_is)
    (case h_n3b => k_is)
    (case h_i3 => k_is)
    (case h_t3 => k_is)
    (case h_l3 => k_is)
    (case h_c3 => k_is)
    (case h_lc3 => k_is)
    (case h_la3 => k_is)
    (case h_h23 => rfl)
    (case h_hf3 => kernel_rfl)
    (case h_ow3 => k_is)
    (case h_nx3 => ks_is)
    (case h_iv3 => k_is)
    (case h_aC4 => k_is)
    (case h_xL4 => k_is)
    (case h_sa4 => k_is)
    (case h_ga4 => k_is)
    (case h_gg4 => k_is)
    (case h_ex4 => k_is)
    (case h_ty4 => k_is)
    (case h_kp4 => k_is)
    (case h_hd4 => k_is)
    (case h_ha4 => k_is)
    (case h_hm4 => k_is)
    (case h_n4a => k_is)
    (case h_n4b => k_is)
    (case h_i4 => k_is)
    (case h_t4 => k_is)
    (case h_l4 => k_is)
    (case h_c4 => k_is)
    (case h_lc4 => k_is)
    (case h_la4 => k_is)
    (case h_h24 => rfl)
    (case h_hf4 => kernel_rfl)
    (case h_ow4 => k_is)
    (case h_nx4 => ks_is)
    (case h_iv4 => k_is)
    (case h_aC5 => k_is)
    (case h_xL5 => k_is)
    (case h_sa5 => k_is)
    (case h_ga5 => k_is)
    (case h_gg5 => k_is)
    (case h_ex5 => k_is)
    (case h_ty5 => k_is)
    (case h_kp5 => k_is)
    (case h_hd5 => k_is)
    (case h_ha5 => k_is)
    (case h_hm5 => k_is)
    (case h_n5a => k_is)
    (case h_i5 => k_is)
    (case h_t5 => k_is)
    (case h_l5 => k_is)
    (case h_c5 => k_is)
    (case h_lc5 => k_is)
    (case h_la5 => k_is)
    (case h_h25 => rfl)
    (case h_hf5 => kernel_rfl)
    (case h_ow5 => k_is)
    (case h_nx5 => ks_is)
    (case h_iv5 => k_is)
    (case h_aC6 => k_is)
    (case h_xL6 => k_is)
    (case h_sa6 => k_is)
    (case h_ga6 => k_is)
    (case h_gg6 => k_is)
    (case h_ex6 => k_is)
    (case h_ty6 => k_is)
    (case h_kp6 => k_is)
    (case h_hd6 => k_is)
    (case h_ha6 => k_is)
    (case h_hm6 => k_is)
    (case h_n6a => k_is)
    (case h_n6b => k_is)
    (case h_i6 => k_is)
    (case h_t6 => k_is)
    (case h_l6 => k_is)
    (case h_c6 => k_is)
    (case h_lc6 => k_is)
    (case h_la6 => k_is)
    (case h_h26 => rfl)
    (case h_hf6 => kernel_rfl)
    (case h_ow6 => k_is)
    (case h_nx6 => ks_is)
    (case h_iv6 => k_is)
    (case h_aC7 => k_is)
    (case h_xL7 => k_is)
    (case h_sa7 => k_is)
    (case h_ga7 => k_is)
    (case h_gg7 => k_is)
    (case h_ex7 => k_is)
    (case h_ty7 => k_is)
    (case h_kp7 => k_is)
    (case h_hd7 => k_is)
    (case h_ha7 => k_is)
    (case h_hm7 => k_is)
    (case h_n7a => k_is)
    (case h_i7 => k_is)
    (case h_t7 => k_is)
    (case h_l7 => k_is)
    (case h_c7 => k_is)
    (case h_lc7 => k_is)
    (case h_la7 => k_is)
    (case h_h27 => rfl)
    (case h_hf7 => kernel_rfl)
    (case h_ow7 => k_is)
    (case h_nx7 => ks_is)
    (case h_iv7 => k_is)
    (case h_aC8 => k_is)
    (case h_xL8 => k_is)
    (case h_sa8 => k_is)
    (case h_ga8 => k_is)
    (case h_gg8 => k_is)
    (case h_ex8 => k_is)
    (case h_ty8 => k_is)
    (case h_kp8 => k_is)
    (case h_hd8 => k_is)
    (case h_ha8 => k_is)
    (case h_hm8 => k_is)
    (case h_n8a => k_is)
    (case h_i8 => k_is)
    (case h_t8 => k_is)
    (case h_l8 => k_is)
    (case h_c8 => k_is)
    (case h_lc8 => k_is)
    (case h_la8 => k_is)
    (case h_h28 => rfl)
    (case h_hf8 => kernel_rfl)
    (case h_ow8 => k_is)
    (case h_nx8 => ks_is)
    (case h_iv8 => k_is)
    (case h_aC9 => k_is)
    (case h_xL9 => k_is)
    (case h_sa9 => k_is)
    (case h_ga9 => k_is)
    (case h_gg9 => k_is)
    (case h_ex9 => k_is)
    (case h_ty9 => k_is)
    (case h_kp9 => k_is)
    (case h_hd9 => k_is)
    (case h_ha9 => k_is)
    (case h_hm9 => k_is)
    (case h_n9a => k_is)
    (case h_i9 => k_is)
    (case h_t9 => k_is)
    (case h_l9 => k_is)
    (case h_c9 => k_is)
    (case h_lc9 => k_is)
    (case h_la9 => k_is)
    (case h_h29 => rfl)
    (case h_hf9 => kernel_rfl)
    (case h_ow9 => k_is)
    (case h_nx9 => ks_is)
    (case h_iv9 => k_is)
    (case h_aC10 => k_is)
    (case h_xL10 => k_is)
    (case h_sa10 => k_is)
    (case h_ga10 => k_is)
    (case h_gg10 => k_is)
    (case h_ex10 => k_is)
    (case h_ty10 => k_is)
    (case h_kp10 => k_is)
    (case h_hd10 => k_is)
    (case h_ha10 => k_is)
    (case h_hm10 => k_is)
    (case h_n10a => k_is)
    (case h_i10 => k_is)
    (case h_t10 => k_is)
    (case h_l10 => k_is)
    (case h_c10 => k_is)
    (case h_lc10 => k_is)
    (case h_la10 => k_is)
    (case h_h210 => rfl)
    (case h_hf10 => kernel_rfl)
    (case h_ow10 => k_is)
    (case h_nx10 => ks_is)
    (case h_iv10 => k_is)
    (case h_aC11 => k_is)
    (case h_xL11 => k_is)
    (case h_sa11 => k_is)
    (case h_ga11 => k_is)
    (case h_gg11 => k_is)
    (case h_ex11 => k_is)
    (case h_ty11 => k_is)
    (case h_kp11 => k_is)
    (case h_hd11 => k_is)
    (case h_ha11 => k_is)
    (case h_hm11 => k_is)
    (case h_n11a => k_is)
    (case h_n11b => k_is)
    (case h_i11 => k_is)
    (case h_t11 => k_is)
    (case h_l11 => k_is)
    (case h_c11 => k_is)
    (case h_lc11 => k_is)
    (case h_la11 => k_is)
    (case h_h211 => rfl)
    (case h_hf11 => kernel_rfl)
    (case h_ow11 => k_is)
    (case h_nx11 => ks_is)
    (case h_iv11 => k_is)
    (case h_aC12 => k_is)
    (case h_xL12 => k_is)
    (case h_sa12 => k_is)
    (case h_ga12 => k_is)
    (case h_gg12 => k_is)
    (case h_ex12 => k_is)
    (case h_ty12 => k_is)
    (case h_kp12 => k_is)
    (case h_hd12 => k_is)
    (case h_ha12 => k_is)
    (case h_hm12 => k_is)
    (case h_x12 => k_exc)
    (case h_aC13 => k_is)
    (case h_xL13 => k_is)
    (case h_sa13 => k_is)
    (case h_ga13 => k_is)
    (case h_gg13 => k_is)
    (case h_ex13 => k_is)
    (case h_ty13 => k_is)
    (case h_kp13 => k_is)
    (case h_hd13 => k_is)
    (case h_ha13 => k_is)
    (case h_hm13 => k_is)
    (case h_x13 => k_exc)
    (case h_g15 => k_is)
    (case h_l15 => k_is)
    (case h_c15 => k_is)
    (case h_k15 => k_is)
    (case h_g16 => k_is)
    (case h_l16 => k_is)
    (case h_c16 => k_is)
    (case h_k16 => k_is)
    (case h_g17 => k_is)
    (case h_l17 => k_is)
    (case h_c17 => k_is)
    (case h_k17 => k_is)
    (case h_g18 => k_is)
    (case h_l18 => k_is)
    (case h_c18 => k_is)
    (case h_k18 => k_is)
    (case h_g19 => k_is)
    (case h_l19 => k_is)
    (case h_c19 => k_is)
    (case h_k19 => k_is)
    (case h_g20 => k_is)
    (case h_l20 => k_is)
    (case h_c20 => k_is)
    (case h_k20 => k_is)
    (case h_g21 => k_is)
    (case h_l21 => k_is)
    (case h_c21 => k_is)
    (case h_k21 => k_is)
    (case h_g22 => k_is)
    (case h_l22 => k_is)
    (case h_c22 => k_is)
    (case h_k22 => k_is)
    (case h_zs => k_is)
    (case h_tp => kernel_rfl)
    (case h_op => k_is)
    (case h_zLen => k_is)
    (case h_zInt => k_is)
    (case h_zList => k_is)
    (case h_zRange => k_is)
    (case h_zIsinstance => k_is)
    (case h_zValueerror => k_is)
    (case h_zRepr => k_is)
    (case h_zStr => k_is)
    (case h_zEnumerate => k_is)
    (case h_zZip => k_is)
    (case h_nd => decide)
    (case h_nb => decide)
