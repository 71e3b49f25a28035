import PyProof.Rows.All
import Wide.All
import OpenK.AllK
import Wide.FinOn
import HandS.ForMost
import HandS.Zip
import HandS.ExcInit
import HandS.ExcValue
import HandS.ExcField
import HandS.ExcIs
import HandS.ClsMeth
import KE.KExcIs
import KE.KExcSuper
import HandS.Codes
import HandS.Gcd
import HandS.Wide
import HandS.IsInst
import HandS.Flow
import HandS.ExcOwn
import HandS.WordsExc
import HandS.Iter
import HandS.Rev
import HandS.Comp
import HandS.Strs
import HandS.StrMore
import HandS.TryMany
import HandS.Lambda
import PySem.Challenge.RW_toldmeans_k01_whole_ratios_and_polynomia
import HandS.Style
import KE.KOpsOwn
import KE.GoesEnum
import HandS.TupLe
import HandS.EndTab
import KE.RegKSuper
set_option Elab.async false
set_option linter.all false
set_option maxRecDepth 100000
set_option maxHeartbeats 4000000
/-! Rules of our own over the hand layer: errors as values, repr of data, lists that stand apart from the table of modules. -/
namespace Kz
open PySem PySem.Spec PyProof.Rows L2

/-! ### an own error class, called for a value -/
section
variable {X : Cx} {e : Expr} {es : List Expr} {ta : TA} {p pos p1 p2 : Pos}

/-- Base.__init__(self, ..) where Base is an own class that has it from ValueError -/
theorem pe_baseInit {x : Str} {B : Addr} {mc : Value} {pl : Sem Bool} (hg : Gl X x) (hm : X.mg x = some (.ref B)) (rd : ClX.CRead X.K B mc)
    (fnd : PySem.W.findCls X.K (.ref B) mc "__init__" = some (.val (.builtin "ValueError.__init__"))) (ha : PA X (e :: es) ta)
    (shape : eval (.Call (.Attribute (.Name x p1) "__init__" p2) (e :: es) [] pos) X.env = (do
      let base ← eval (.Name x p1) X.env
      standAt p2.atName
      let (fn, before) ← holding [base] (getMethod base "__init__" pl)
      callWith pos fn before (backTo pos (starEach (e :: es) X.env)) (backToKw pos (keywordEach [] X.env))) := by rfl)
    (hdb : (x == ("__debug__" : Str)) = false := by decide)
    (st : starEach (e :: es) X.env = (false, eval e X.env) :: starEach es X.env := by rfl)
    (nost : (backTo pos (starEach es X.env)).any (·.1) = false := by rfl) :
    PE X (.Call (.Attribute (.Name x p1) "__init__" p2) (e :: es) [] pos) (tVeI X.K ta) := by
  constructor
  intro pins s σ H Q I h
  refine PySem.W.methodCall_KW (pl := pl) (ld_glob I hg hm ?_ hdb) shape
  refine PySem.W.method_cls I.kIn rd.ga (PySem.W.cls_value I.kIn rd.rd fnd (by rfl) ?_)
  show wpAny _ _ (callWith pos (Value.builtin "ValueError.__init__") [] _ _) _ _ _
  refine PyProof.Rows.callWith_method1 ?_ st nost
  refine thn (ha.run pos pins _ σ H _ (I.tok _) h) ?_
  rintro us s1 ⟨vs, H1, I1, r1, a, C, ws, rfl, hl, T, ea, q⟩
  cases r1 with
  | @cons _ u0 _ ur ra rw' =>
    cases (show u0 = Value.ref a from ra)
    have few : ur.length ≤ sizeLine := by
      have := Paired.length rw'
      rw [sizeLine_eq]
      omega
    exact oinit_ok T I1 ea few fun s' J => ⟨.non, H1, J, rfl, q⟩

/-- C(e, ..) as a value: the new error object stands at a; C's own __init__ keeps sp -/
def tErr (C : Addr) (sp : Sp) (ta : TA) : TE := fun σ H Q => ta σ H fun vs H1 => vs.length ≤ 1000 ∧ ∀ a, H1 a = none →
  sp (.ref a :: vs) (upd H1 a (exo a C none)) (fun v H2 => v = .non ∧ Q (.ref a) H2) fun _ _ _ => False
theorem pe_err {CX : CXT} {x : Str} {C fI : Addr} {k : Nat} {fd : FuncData} {ps : List Str} {sp : Sp} (T : OexC X.K C)
    (iC : PySem.W.findIn X.K (.ref C) "__init__" = some (some (.ref fI))) (tI : PySem.W.typeIn X.K (.ref fI) = some (.type "function"))
    (F1 : FnOk X.prog X.w X.K X.mg X.base CX k fI fd ps sp) (hr : Room (k + 1) X.A) (hb : Binds X.K fd ps []) (hx : Passes CX X fun _ _ _ => False)
    (hg : Gl X x) (hm : X.mg x = some (.ref C)) (ha : PA X (e :: es) ta) (hdb : (x == ("__debug__" : Str)) = false := by decide)
    (st : starEach (e :: es) X.env = (false, eval e X.env) :: starEach es X.env := by rfl)
    (nost : (backTo pos (starEach es X.env)).any (·.1) = false := by rfl) :
    PE X (.Call (.Name x p) (e :: es) [] pos) (tErr C sp ta) := by
  constructor
  intro pins s σ H Q I h
  obtain ⟨nm, q, N, bs, bm, sn, sub, ab, col, dd, k0, k1, k2, k3, k5, hC, hbm⟩ := T.cls
  refine wpAny_Call_Name_kw (ld_glob I hg hm ?_ hdb)
  refine PySem.W.callWith_K (h₀ := X.base) I.ok.mod.kin T.kC ?_ st nost
  refine thn (ha.run pos pins s σ H _ I h) ?_
  rintro us s1 ⟨vs, H1, I1, r1, hz, q1⟩
  refine ⟨I1.kIn, ?_⟩
  show wpAny _ _ (call (.ref C) us) _ _ _
  obtain ⟨hp, g, dr, tk, os⟩ := s1
  have fresh : H1 (hp.objs.size + 1) = none := I1.hok.fresh (Nat.le_succ _)
  have want := q1 (hp.objs.size + 1) fresh
  have old : ∀ b o, hp.get? b = some o → ((hp.push (PySem.W.kdv_tup us)).push (PySem.HandSPX.excO C hp.objs.size)).get? b = some o :=
    fun b o z => Heap.get?_push_of_some _ (Heap.get?_push_of_some _ z)
  have there : ((hp.push (PySem.W.kdv_tup us)).push (PySem.HandSPX.excO C hp.objs.size)).get? (hp.objs.size + 1) = some (PySem.HandSPX.excO C hp.objs.size) := by heap_get
  have I2 : Inv X pins σ (upd H1 (hp.objs.size + 1) (exo (hp.objs.size + 1) C none)) ⟨(hp.push (PySem.W.kdv_tup us)).push (PySem.HandSPX.excO C hp.objs.size), g, dr, tk, os⟩ :=
    I1.laid (t' := tk) (o := exo (hp.objs.size + 1) C none) old (Nat.le_succ _) (exo_ok there)
  have r2 : Vals (V.ref (hp.objs.size + 1) :: vs) (Value.ref (hp.objs.size + 1) :: us) := .cons rfl r1
  have len2 : (Value.ref (hp.objs.size + 1) :: us).length = ps.length := by
    rw [← r2.length]
    exact F1.len _ _ _ _ want
  have few : us.length ≤ sizeLine := by
    have := Paired.length r1
    rw [sizeLine_eq]
    omega
  have bnd := hb _ (Value.ref (hp.objs.size + 1) :: us) I2.kIn (by rw [List.append_nil]; exact len2)
  rw [List.append_nil] at bnd
  refine wpAny_call (PySem.HandSPX.call_own F.excBase_ValueError (fun Y => PySem.HandSPX.refsVE_contains Y bm hbm) (I1.kIn _ _ hC) (PySem.W.looks_findIn I1.kIn iC) (fun self => PySem.W.bind_fn I1.kIn self tI) few ?_)
  refine codeAny_mono (F1.run _ X.stack _ _ ⟨Value.ref (hp.objs.size + 1) :: us, []⟩ _ _ _ (fun _ _ _ => False) (hr.make C us []) (I2.env0.make C us []) bnd r2 want) ?_
  intro r s' hq'
  rcases r with er | fl
  · exact hx pins σ _ _ er s' I2 hq'
  · rcases fl with _ | _ | _ | u
    all_goals try exact False.elim hq'
    obtain ⟨v, H2, J, rv, ev, q2⟩ := I2.after hq'
    subst ev
    have out : (V.ref (hp.objs.size + 1)) = (V.ref (hp.objs.size + 1)) := rfl
    exact ⟨rv, ⟨V.ref (hp.objs.size + 1), H2, J, rfl, q2⟩⟩

/-- C() where neither C nor its bases have an own __init__ -/
theorem pe_err0 {C : Addr} {bmB : List Value} {B newId initId : String} {x : Str} (F : ExcBaseFacts B newId initId bmB) (q : PySem.W.excIn X.K C bmB newId = true)
    (gC : X.mg x = some (.ref C)) (kC : PySem.W.keepIn X.K (.ref C) = true) (hg : Gl X x) (hdb : (x == ("__debug__" : Str)) = false := by decide) :
    PE X (.Call (.Name x p) [] [] pos) (fun _ H Q => ∀ a, H a = none → Q (.ref a) (upd H a (exo a C none))) := by
  constructor
  intro pins s σ H Q I h
  refine wpAny_Call_Name_kw (ld_glob I hg gC ?_ hdb)
  refine PySem.W.callWith_K0 I.kIn kC ?_
  show wpAny _ _ (call (.ref C) []) _ _ _
  obtain ⟨bm, N, nm, qn, bs, hdct, sn, sub, ab, col, dd, k0, k1, k2, k3, k5, mN, hC, hN, hni, T⟩ := exc_obj I.kIn q
  obtain ⟨hp, g, dr, tk, os⟩ := s
  refine wpAny_call_exc_subT F T hC hN hni (fun h' a hm => ?_) (Nat.zero_le _)
  have hn : H a = none := I.hok.gone hm.new
  obtain ⟨t, ht, _, _⟩ := hm.there
  exact ⟨.ref a, upd H a (exo a C none), I.laidN hm.keeps hm.new hn (exo_ok ht), rfl, h a hn⟩

/-- e.f, e an error object that has its dict -/
def tErrF (K : PySem.W.Frag) (f : Str) (te : TE) : TE := fun σ H Q => te σ H fun x H1 => ∃ (a C dd : Addr) (fs : List (Str × V)) (v : V), x = .ref a ∧ XfC K C ∧
  PySem.W.findIn K (.ref C) f = some none ∧ H1 a = some (exo a C (some dd)) ∧ H1 dd = some (exd dd fs) ∧ fs.lookup f = some v ∧ Q v H1
theorem pe_errF {n : Str} {te : TE} (he : PE X e te) (hb : attributeBase e n X.env (eval e X.env) = eval e X.env := by rfl) : PE X (.Attribute e n pos) (tErrF X.K n te) := by
  constructor
  intro pins s σ H Q I h
  refine attr_of hb (thn (he.run pins s σ H _ I h) ?_)
  rintro u s1 ⟨x, H1, I1, rx, a, C, dd, fs, v, rfl, T, hno, ea, ed, l, q⟩
  cases (show u = Value.ref a from rx)
  obtain ⟨t1, ho⟩ := exo_at I1.hok ea
  obtain ⟨mA, hns, rel⟩ := exd_at I1.hok ed
  obtain ⟨od, hod, hl⟩ := lookIn_ns hns
  obtain ⟨u', hu, ru⟩ := RelO.some_of (v := v) (o := mA n) (by rw [← l]; exact rel n)
  have J : PySem.W.InstAt s1.heap a { cls := .ref C, dict := some dd, data := .fields #[.ref t1, .none, .none, .none, .bool false, .none] } C (some od) := ⟨ho, rfl, rfl, hod⟩
  refine HandSPX.exc_get I1.kIn J T.ga T.gg T.exC (PySem.W.findObj_own T.hdC hno rfl ?_) (handed_of ru) ⟨v, H1, I1.tok _, ru, q⟩
  rw [hl, hu]

/-- isinstance(e, c), e an error object, c a class -/
def rIsErr (K : PySem.W.Frag) : List V → Hp → VK → Prop := fun xs H Q => ∃ (a D : Addr) (d : Option Addr) (c : V) (cv : Value) (b : Bool), xs = [.ref a, c] ∧ ExcC K D ∧ H a = some (exo a D d) ∧
  (∀ dd, d = some dd → ∃ fs, H dd = some (exd dd fs)) ∧ (∀ u, RelV c u → u = cv) ∧ PySem.W.kitOne K (.ref D) cv = some b ∧ Q (.bl b) H
theorem call_isErr : CallR X (.builtin "isinstance") (rIsErr X.K) := by
  intro pins s σ H xs us Q I r h
  obtain ⟨a, D, d, c, cv, b, rfl, T, ea, ed, hcv, ek, q⟩ := h
  obtain ⟨u, v, rfl, ru, rv⟩ := vals2 r
  cases (show u = Value.ref a from ru)
  cases hcv v rv
  obtain ⟨t1, ho⟩ := exo_at I.hok ea
  have go : ∀ od, PySem.W.InstAt s.heap a { cls := .ref D, dict := d, data := .fields #[.ref t1, .none, .none, .none, .bool false, .none] } D od →
      wpAny (model X.prog X.w) X.A (call (.builtin "isinstance") [.ref a, cv]) (EP X pins σ Q) X.xe s := fun od J => by
    have hcl : (PySem.W.clsIn X.K D).isSome = true := by
      obtain ⟨cd, hc, _⟩ := PySem.W.any_some T.hd
      rw [hc]
      rfl
    exact PySem.W.kia_one (PySem.W.kitx_exc hcl T.hg T.hk T.hs T.ha T.hn T.ht T.hm) I.kIn J ek (fun z => nomatch z) fun tk => ⟨.bl b, H, I.tok tk, rfl, q⟩
  cases d with
  | none => exact go none ⟨ho, rfl, rfl, trivial⟩
  | some dd =>
    obtain ⟨fs, e2⟩ := ed dd rfl
    obtain ⟨mA, hns, _⟩ := exd_at I.hok e2
    obtain ⟨od, hod, _⟩ := lookIn_ns hns
    exact go (some od) ⟨ho, rfl, rfl, hod⟩
end

/-! ### new lists that are not the table of modules -/
section
variable {X : Cx} {es : List Expr} {t : TA} {pos : Pos}
def tLstN (t : TA) : TE := fun σ H Q => t σ H fun xs H1 => xs.length ≤ sizeLine ∧ ∀ p, H1 p = none → p ≠ sysModules → Q (.ref p) (upd H1 p (.lst xs))
theorem pe_lstN (h : PA X es t) : PE X (.List es pos) (tLstN t) := by
  constructor
  intro pins s σ H Q I hq
  refine wpAny_List_spliced (thn (h.run pos pins s σ H _ I hq) ?_)
  rintro us s1 ⟨xs, H1, I1, r, z, q⟩
  refine ⟨by rw [← r.length]; exact z, ?_⟩
  have free : H1 s1.heap.objs.size = none := I1.hok.fresh (Nat.le_refl _)
  have ob : ObjOk X.prog X.w (upd H1 s1.heap.objs.size (.lst xs)) (s1.heap.push { cls := .type "list", data := .seq us.toArray }) s1.heap.objs.size (.lst xs) :=
    ⟨z, us, 0, r, Heap.get?_push_size _ rfl⟩
  exact ⟨.ref s1.heap.objs.size, _, I1.laid (t' := s1.toks) (fun b u e => Heap.get?_push_of_some _ e) (Nat.le_refl _) ob, rfl, q _ free (Nat.ne_of_gt I1.big)⟩
end

/-! ### repr of data: None, bools, ints, texts, lists, tuples, dicts by int and text keys -/
def keyD : Key → PyData
  | .inl i => .int i
  | .inr x => .str x
mutual
inductive Dq (K : PySem.W.Frag) (H : Hp) : V → PyData → Prop
  | non : Dq K H .non .none
  | bl (b : Bool) : Dq K H (.bl b) (.bool b)
  | int (i : Int) : Dq K H (.int i) (.int i)
  | str (x : Str) : Dq K H (.str x) (.str x)
  | lst {a : Addr} {xs : List V} {ds : List PyData} : H a = some (.lst xs) → a ≠ sysModules → DqAll K H xs ds → Dq K H (.ref a) (.list ds)
  | tup {a : Addr} {xs : List V} {ds : List PyData} : SqT K H a xs → DqAll K H xs ds → Dq K H (.ref a) (.tuple ds)
  | dic {a : Addr} {kvs : List (Key × V)} {ds : List PyData} : H a = some (.dK kvs) → DqAll K H (kvs.map (·.2)) ds → Dq K H (.ref a) (.dict ((kvs.map fun kv => keyD kv.1).zip ds))
inductive DqAll (K : PySem.W.Frag) (H : Hp) : List V → List PyData → Prop
  | nil : DqAll K H [] []
  | cons {v : V} {vs : List V} {d : PyData} {ds : List PyData} : Dq K H v d → DqAll K H vs ds → DqAll K H (v :: vs) (d :: ds)
end
theorem DqAll.length {K : PySem.W.Frag} {H : Hp} : ∀ {vs : List V} {ds : List PyData}, DqAll K H vs ds → vs.length = ds.length
  | _, _, .nil => rfl
  | _, _, .cons _ t => congrArg (· + 1) t.length
section
variable {X : Cx} {pins : List (Addr × Obj)} {σ : L2.St} {H : Hp} {s : Shared}
theorem reads_keys {P : Program} {w : World} {h : Heap} : ∀ {es : List DictEntry} {vs : List (Key × Value)}, PySem.Pairs (mixKind P w) es vs → ReadsAll h (es.map (·.key)) (vs.map fun kv => keyD kv.1) []
  | _, _, .nil => .nil
  | _, _, .cons (e := e) (kv := kv) hk hv t => by
    have rest := reads_keys (h := h) t
    have one : Reads h e.key (keyD kv.1) [] := by
      rcases keyIs_shape (show keyIs kv.1 e.key = true from hk) with ⟨i, t, e1, e2⟩ | ⟨x, t, e1, e2⟩
      · rw [e1, e2]
        exact .int i t
      · rw [e1, e2]
        exact .str x t
    exact .cons one rest
theorem vals_entries {P : Program} {w : World} : ∀ {es : List DictEntry} {vs : List (Key × Value)}, PySem.Pairs (mixKind P w) es vs → es.map (·.val) = vs.map (·.2)
  | _, _, .nil => rfl
  | _, _, .cons hk hv t => by
    rw [List.map_cons, List.map_cons, vals_entries t, hv]
theorem kv_vals : ∀ {kvs : List (Key × V)} {vs : List (Key × Value)}, KV kvs vs → Vals (kvs.map (·.2)) (vs.map (·.2))
  | _, _, .nil => .nil
  | _, _, .cons h t => .cons h.2 (kv_vals t)
theorem map_fst_zip' : ∀ {α β : Type} (l : List α) (m : List β), l.length = m.length → (l.zip m).map (·.1) = l
  | _, _, [], _, _ => rfl
  | _, _, a :: l, [], h => by cases h
  | _, _, a :: l, b :: m, h => by
    rw [List.zip_cons_cons, List.map_cons, map_fst_zip' l m (Nat.succ.inj h)]
theorem map_snd_zip' : ∀ {α β : Type} (l : List α) (m : List β), l.length = m.length → (l.zip m).map (·.2) = m
  | _, _, [], [], _ => rfl
  | _, _, [], _ :: _, h => by cases h
  | _, _, a :: l, [], h => by cases h
  | _, _, a :: l, b :: m, h => by
    rw [List.zip_cons_cons, List.map_cons, map_snd_zip' l m (Nat.succ.inj h)]
mutual
theorem Dq.reads (I : Inv X pins σ H s) : ∀ {v : V} {d : PyData} {u : Value}, Dq X.K H v d → RelV v u → ∃ as, Reads s.heap u d as ∧ sysModules ∉ as
  | _, _, _, .non, r => by
    cases r
    exact ⟨_, .none, by simp⟩
  | _, _, _, .bl b, r => by
    cases r
    exact ⟨_, .bool b, by simp⟩
  | _, _, _, .int i, r => by
    obtain ⟨t, rfl⟩ := r
    exact ⟨_, .int i t, by simp⟩
  | _, _, _, .str x, r => by
    obtain ⟨t, rfl⟩ := r
    exact ⟨_, .str x t, by simp⟩
  | _, _, _, .lst (a := a) hs hne ha, r => by
    cases r
    obtain ⟨_, its, n, rv, ho⟩ := (show ObjOk X.prog X.w H s.heap a (.lst _) from I.hok a _ hs)
    obtain ⟨as, hr, hn⟩ := DqAll.reads I ha rv
    refine ⟨_, .list ho rfl rfl hr, ?_⟩
    intro m
    rcases List.mem_cons.mp m with m | m
    · exact hne m.symm
    · exact hn m
  | _, _, _, .tup hs ha, r => by
    cases r
    obtain ⟨its, rv, ⟨o, ho, hc, n, hd⟩, _⟩ := I.tuple hs
    obtain ⟨as, hr, hn⟩ := DqAll.reads I ha rv
    exact ⟨_, .tuple ho hc hd hr, hn⟩
  | _, _, _, .dic (a := a) (kvs := kvs) (ds := ds) hs ha, r => by
    cases r
    obtain ⟨_, hne, vs, rel, o, es, ep, ho, hx, hd, _, hp, _⟩ := dk_of I.hok hs
    obtain ⟨bs, hr, hn⟩ := DqAll.reads I ha (kv_vals rel)
    have lk : (kvs.map fun kv => keyD kv.1).length = ds.length := by
      rw [List.length_map, ← ha.length, List.length_map]
    have ek : (vs.map fun kv => keyD kv.1) = kvs.map fun kv => keyD kv.1 := by
      have := rel.keys
      have c := congrArg (List.map keyD) this
      rw [List.map_map, List.map_map] at c
      exact c.symm
    have k1 : ReadsAll s.heap (es.toList.map (·.key)) (((kvs.map fun kv => keyD kv.1).zip ds).map (·.1)) [] := by
      rw [map_fst_zip' _ _ lk, ← ek]
      exact reads_keys hp
    have k2 : ReadsAll s.heap (es.toList.map (·.val)) (((kvs.map fun kv => keyD kv.1).zip ds).map (·.2)) bs := by
      rw [map_snd_zip' _ _ lk, vals_entries hp]
      exact hr
    refine ⟨_, .dict ho hx.1 hd k1 k2, ?_⟩
    intro m
    rcases List.mem_append.mp m with m | m
    · rcases List.mem_cons.mp m with m | m
      · rw [← m] at hne
        simp at hne
      · cases m
    · exact hn m
theorem DqAll.reads (I : Inv X pins σ H s) : ∀ {vs : List V} {ds : List PyData} {us : List Value}, DqAll X.K H vs ds → Vals vs us → ∃ as, ReadsAll s.heap us ds as ∧ sysModules ∉ as
  | _, _, _, .nil, r => by
    cases r
    exact ⟨_, .nil, by simp⟩
  | _, _, _, .cons h1 h2, r => by
    cases r with
    | cons r1 r2 =>
      obtain ⟨as, q1, n1⟩ := Dq.reads I h1 r1
      obtain ⟨bs, q2, n2⟩ := DqAll.reads I h2 r2
      exact ⟨_, .cons q1 q2, fun m => (List.mem_append.mp m).elim n1 n2⟩
end
end
/-- repr(x), x data at an address -/
def rRepr (K : PySem.W.Frag) : List V → Hp → VK → Prop := fun xs H Q => ∃ (a : Addr) (d : PyData), xs = [.ref a] ∧ Dq K H (.ref a) d ∧ d.showable = true ∧ d.depth ≤ 60 ∧ d.shown.length ≤ sizeLine ∧ Q (.str d.shown) H
theorem call_repr {X : Cx} (hg : X.A.guards = some []) (hu : X.A.units + 64 < cLine) : CallR X (.builtin "repr") (rRepr X.K) := by
  intro pins s σ H xs us Q I r h
  obtain ⟨a, d, rfl, hd, hs, hdp, hz, q⟩ := h
  obtain ⟨u, rfl, ru⟩ := vals1 r
  cases (show u = Value.ref a from ru)
  obtain ⟨as, rd, hn⟩ := Dq.reads I hd rfl
  refine repr_of_reads' rd hs (fun _ => hn) hg (by omega) (fun _ _ e => e) (fun h' t tk hk => ?_) hz
  exact ⟨.str d.shown, H, I.kept (t' := tk) hk, ⟨t, rfl⟩, q⟩
end Kz
set_option linter.all false
set_option maxRecDepth 100000
set_option maxHeartbeats 4000000
/-! An own error's `__init__` that begins with super().__init__(text). -/
namespace Kz
open PySem PySem.Spec PyProof.Rows L2
abbrev supEnv (qual : Str) (scope : Scope) (L f : Addr) (cd : Value) (cc : Addr) : Env := PySem.W.envX qual scope L f cd [("__class__", cc)]
def cxSup (P : Program) (w : World) (K : PySem.W.Frag) (mg : Str → Option Value) (base : Heap) (N : List Str) (qual : Str) (scope : Scope) (f : Addr) (cd : Value) (cc : Addr) (A : Around) (outer : List Env) (s : Shared) (H : Hp) (E : XK) : Cx where
  prog := P
  w := w
  K := K
  mg := mg
  base := base
  A := A.deeper (supEnv qual scope s.heap.objs.size f cd cc)
  N := N
  s_0 := s
  H_0 := H
  env := supEnv qual scope s.heap.objs.size f cd cc
  outer := outer
  stack := supEnv qual scope s.heap.objs.size f cd cc :: outer
  ex := []
  calm := true
  fn := fun _ => false
  pn := []
  xe := fun e s' => wpAny (model P w) (A.deeper (supEnv qual scope s.heap.objs.size f cd cc)) (leaving (supEnv qual scope s.heap.objs.size f cd cc) e) (fun _ s'' => CX0 outer H s E e s'') (fun e' s'' => CX0 outer H s E e' s'') s'
/-- the scope of such a def -/
structure SupScope (N P : List Str) (sc : Scope) : Prop where
  kind : sc.kind = .function
  co : sc.isCoroutine = false
  gen : sc.isGenerator = false
  nd : N.Nodup
  pre : N.take P.length = P
  par : ∀ x ∈ P, sc.names.lookup x = some .local
  nocell : ∀ y ∈ sc.names, y.2 ≠ .cell
  free : ∀ y ∈ sc.names, y.2 = .free → y.1 = ("__class__" : Str)
  sup : sc.names.lookup ("super" : Str) = some .globalImplicit
  cls : sc.names.lookup ("__class__" : Str) = some .free
theorem lookup_out {x : Str} : ∀ {l : List (Str × Value)}, (∀ v, (x, v) ∉ l) → l.lookup x = none
  | [], _ => rfl
  | (n, v) :: r, h => by
    have ne : (x == n) = false := by
      cases e : x == n with
      | false => rfl
      | true =>
        cases beq_iff_eq.mp e
        exact absurd List.mem_cons_self (h v)
    show (match x == n with | true => some v | false => r.lookup x) = none
    rw [ne]
    exact lookup_out fun u hu => h u (List.mem_cons_of_mem _ hu)
theorem rev_lookup {x : Str} {v : Value} : ∀ {ps : List Str} {us : List Value} {i : Nat}, ps.Nodup → ps[i]? = some x → us[i]? = some v → ((ps.zip us).reverse).lookup x = some v
  | [], _, _, _, h, _ => by simp at h
  | _ :: _, [], _, _, _, h => by simp at h
  | p :: ps, w :: us, 0, nd, h1, h2 => by
    simp at h1 h2
    subst h1
    subst h2
    show ((p, w) :: ps.zip us).reverse.lookup p = some w
    have no : ((ps.zip us).reverse).lookup p = none := lookup_out fun v hv => (List.nodup_cons.mp nd).1 (List.of_mem_zip (List.mem_reverse.mp hv)).1
    rw [List.reverse_cons, List.lookup_append, no]
    simp [List.lookup]
  | p :: ps, w :: us, i + 1, nd, h1, h2 => by
    show ((p, w) :: ps.zip us).reverse.lookup x = some v
    rw [List.reverse_cons, List.lookup_append, rev_lookup (i := i) (List.nodup_cons.mp nd).2 (by simpa using h1) (by simpa using h2)]
    rfl
theorem inv_startS {P : Program} {w : World} {K : PySem.W.Frag} {mg : Str → Option Value} {base : Heap} {N ps : List Str} {qual : Str} {scope : Scope} {f cc : Addr} {cd : Value} {A : Around} {outer : List Env} {s : Shared} {H : Hp} {E : XK} {us : List Value} {vs : List V} {h₁ : Heap} {tk : Nat} {D : Value} {ocl : Obj}
    (S : SupScope N ps scope) (hd : A.handled = none) (e0 : Env0 P w K mg base A outer s H) (hl : vs.length = ps.length) (r : Vals vs us)
    (hc : K.lookup cc = some ocl) (hcd : ocl.data = .cell (some D))
    (hns : h₁.Ns s.heap.objs.size (fun x => (ps.zip us).reverse.lookup x)) (hk : ∀ b o, s.heap.get? b = some o → h₁.get? b = some o) :
    Inv (cxSup P w K mg base N qual scope f cd cc A outer s H E) [] (start N vs) H { s with heap := h₁, toks := tk } := by
  have hpl : ps.length ≤ N.length := by have := congrArg List.length S.pre; rw [List.length_take] at this; omega
  have noA : ∀ b : Addr, b ∉ (cxSup P w K mg base N qual scope f cd cc A outer s H E).ex := fun b z => absurd (show b ∈ ([] : List Addr) from z) (by simp)
  have only : ∀ {x : Str} {c : Addr}, List.lookup x [(("__class__" : Str), cc)] = some c → x = "__class__" ∧ c = cc := fun {x c} z => by
    have m := PySem.mem_of_lookup z
    rw [List.mem_singleton] at m
    exact ⟨congrArg (·.1) m, congrArg (·.2) m⟩
  have bc := e0.bs cc _ (e0.mod.kin cc _ hc)
  refine ⟨⟨e0.mod, S.kind, rfl, rfl, Nat.le_refl _, fun y z c h1 h2 => ?_, fun y hy => ?_, fun y c h => ?_, fun _ => hd, Around.frames_deeper e0.frames, .inr ⟨rfl, rfl⟩, fun b z => absurd z (noA b), e0.bs, e0.bsz, fun b _ _ => noA b, fun b z => absurd z (noA b), e0.funs, e0.frf⟩,
    rfl, e0.bare, Un.kept hk, ⟨_, hns, fun i y v h1 h2 h3 => ?_⟩, fun y c h => ⟨some D, ?_⟩, e0.hok.fresh (Nat.le_refl _), fun y c h => ?_, fun p hp => absurd (show p ∈ ([] : List (Addr × Obj)) from hp) (by simp), e0.hok.kept hk, ?_⟩
  · exact (only h1).1.trans (only h2).1.symm
  · have hy : scope.names.lookup y = some .cell ∨ scope.names.lookup y = some .free := hy
    rcases hy with hy | hy
    · exact absurd rfl (S.nocell _ (PySem.mem_of_lookup hy))
    · have e := S.free _ (PySem.mem_of_lookup hy) rfl
      exact ⟨cc, by rw [show y = "__class__" from e]; rfl⟩
  · cases h
  · have hi : i < vs.length := by
      unfold L2.start at h2
      by_cases hi : i < vs.length
      · exact hi
      · rw [List.getElem?_append_right (by simpa using hi)] at h2
        rw [List.getElem?_replicate] at h2
        split at h2 <;> cases h2
    have ha : vs[i]? = some v := by
      unfold L2.start at h2
      rw [List.getElem?_append_left (by simpa using hi), List.getElem?_map] at h2
      cases e : vs[i]? with
      | none => rw [e] at h2; cases h2
      | some a => rw [e] at h2; cases h2; rfl
    obtain ⟨u, hu, rv⟩ := r.get ha
    have hp : ps[i]? = some y := by
      rw [← S.pre, List.getElem?_take_of_lt (by omega)]; exact h1
    have ndP : ps.Nodup := by rw [← S.pre]; exact S.nd.sublist (List.take_sublist _ _)
    exact ⟨u, rv, .inl ⟨S.par y (List.mem_of_getElem? hp), rev_lookup ndP hp hu⟩⟩
  · rw [(only h).2]
    exact ⟨_, hk _ _ bc.1, hcd⟩
  · rw [(only h).2]
    exact bc.2
  · unfold L2.start
    show _ = N.length
    rw [List.length_append, List.length_map, List.length_replicate]
    omega
/-- such an `__init__` as it stands: of the class at C -/
structure FunS (K : PySem.W.Frag) (P : Program) (qual : Str) (st : Stmt) (C f : Addr) (fd : FuncData) : Prop where
  ex : ∃ (oc : Value) (od : Option Addr) (kV doc pm : Value) (an : Option Addr) (cda cc : Addr) (ct : Value) (osl : Array (Option Value)),
    fd = PySem.W.fnX "__init__" qual (defArgs st) (defBody st) (defScope st) [("__class__", cc)] .none kV doc pm an (.ref cda) ct ∧ K.lookup f = some ⟨oc, od, .func fd, osl⟩ ∧ PySem.W.codeIn K (.ref cda) qual = true ∧
    (∃ cl cld csl, K.lookup cc = some ⟨cl, cld, .cell (some (.ref C)), csl⟩) ∧
    (∃ ccl cdd vs ccs file tf, K.lookup cda = some ⟨ccl, cdd, .fields vs, ccs⟩ ∧ (vs[2]? : Option Value) = some (.str file tf) ∧ ((P.main.file : Str) == file) = true)
  sup : ∀ {h : Heap} {mg : Str → Option Value}, K.In h → h.Ns mainGlobals mg → mg "super" = none
  top : (P.main.scope.names.lookup ("super" : Str)).isSome = false
  opq : PySem.W.nsIn K cStatics "thirdparty.any" = some none
  cls : ∃ cd, PySem.W.clsIn K C = some cd
  own : PySem.W.mroIn K C (.ref C) = some true
  nxt : PySem.W.ks_superIn K C C "__init__" = some (some (.builtin "ValueError.__init__"))
  isV : PySem.W.subIn K (.ref C) (.type "ValueError") = some true
section
variable {P : Program} {w : World} {K : PySem.W.Frag} {mg : Str → Option Value} {base : Heap}
/-- the method-wrapper is called -/
theorem mw_call {X : Cx} {pins : List (Addr × Obj)} {σ : L2.St} {H : Hp} {s : Shared} {C a u : Addr} {us : List Value} {Q : Value → Shared → Prop} {E : Value → Shared → Prop} (T : OexC X.K C) (I : Inv X pins σ H s) (e : H a = some (exo a C none)) (hl : us.length ≤ sizeLine)
    (hu : s.heap.get? u = some (PySem.W.kxs_mw "ValueError.__init__" a)) (h : ∀ s', Inv X pins σ H s' → Q .none s') : wpAny (model X.prog X.w) X.A (call (.ref u) us) Q E s := by
  obtain ⟨nm, q, N, bs, bm, sn, sub, ab, col, dd, k0, k1, k2, k3, k5, hC, hbm⟩ := T.cls
  obtain ⟨t1, ho⟩ := exo_at I.hok e
  obtain ⟨hp, g, d, t, os⟩ := s
  refine wpAny_call (codeAny_of_tree ?_)
  show wpAny _ X.A.in1 (callAny (.ref u) ⟨us, []⟩) _ _ _
  simp only [callAny]
  refine wpAny_bind (wpAny_load hu ?_)
  simp only [PySem.W.kxs_mw, show (Value.type "method-wrapper" == Value.type "method" || Value.type "method-wrapper" == Value.type "builtin_function_or_method" || Value.type "method-wrapper" == Value.type "method-wrapper") = true by decide, if_true]
  refine PySem.W.KFB.if_so (by decide) ?_
  refine wpAny_bind (PySem.W.check_bound_init F.excBase_ValueError.toExcCallFacts (I.kIn _ _ hC) ho rfl ?_)
  refine wpAny_bind (wpAny_pure (wpAny_pure ?_))
  refine ⟨PySem.plainId_quiet F.excBase_ValueError.init.plain _, codeAny_builtin F.excBase_ValueError.initEntry ?_⟩
  refine PySem.W.exc_init_tree (cls := .ref C) (t0 := t1) (dv := none) (c2 := .none) (c3 := .none) (b4 := .bool false) ho hl fun h' k hx _ => ?_
  have J := I.write (t' := t) (x := a) (e := a) (o := exo a C none) (by rw [e]; exact True.intro) (.inl rfl) k ⟨_, hx⟩ (exo_ok hx)
  have eu : upd H a (exo a C none) = H := by
    funext b
    by_cases hb : b = a
    · rw [hb, upd_same, e]
    · rw [upd_ne hb]
  rw [eu] at J
  exact h _ J
end
end Kz
set_option linter.all false
set_option maxRecDepth 100000
set_option maxHeartbeats 4000000
namespace Kz
open PySem PySem.Spec PyProof.Rows L2
section
variable {P : Program} {w : World} {K : PySem.W.Frag} {mg : Str → Option Value} {base : Heap}
theorem boot_super : bootBuiltins "super" = some (.type "super") := by decide +kernel
/-- THE RULE for an `__init__` that begins with super().__init__(text): its further rows as a term of rules -/
theorem fn_sup {k : Nat} {N ps : List Str} {qual : Str} {st : Stmt} {C f : Addr} {fd : FuncData} {sp : Sp} {msg : Str} {j : Nat} {pc : Pos} {rest : List Stmt} {p0 p1 p2 pos pe : Pos} {ar : Arg} {pl : Sem Bool} (F : FunS K P qual st C f fd) (S : SupScope N ps (defScope st))
    (body : defBody st = .Expr (.Call (.Attribute (.Call (.Name "super" p0) [] [] p1) "__init__" p2) (.Constant (.str msg) j pc :: []) [] pos) pe :: rest)
    (shape : ∀ env : Env, eval (.Call (.Attribute (.Call (.Name "super" p0) [] [] p1) "__init__" p2) (.Constant (.str msg) j pc :: []) [] pos) env = (do
      let ov ← attributeBase (.Call (.Name "super" p0) [] [] p1) "__init__" env (eval (.Call (.Name "super" p0) [] [] p1) env)
      standAt p2.atName
      let (f, first) ← holding [ov] (getMethod ov "__init__" pl)
      callWith pos f first (backTo pos (starEach (.Constant (.str msg) j pc :: []) env)) []))
    (arg : ((defArgs st).posonlyargs ++ (defArgs st).args).head? = some ar) (self : ps[0]? = some ar.arg)
    (len : ∀ vs H Q E, sp vs H Q E → vs.length = ps.length)
    (main : ∀ (cda : Value) (cc : Addr) (A : Around) (outer : List Env) (s : Shared) (H : Hp) (vs : List V) (Q : VK) (E : XK), sp vs H Q E →
      ∃ a ws t, vs = .ref a :: ws ∧ OexC K C ∧ H a = some (exo a C none) ∧ PSs (cxSup P w K mg base N qual (defScope st) f cda cc A outer s H E) rest t ∧ t { nx := fun _ H' => Q .non H', rt := Q } (start N vs) H) :
    FnOk P w K mg base CX0 (k + 1) f fd ps sp := by
  refine ⟨len, fun A outer s H args us vs Q E hr e0 hb r hsp => ?_⟩
  obtain ⟨oc, od, kV, doc, pm, an, cda, cc, ct, osl, rfl, lk, hcd, ⟨cl, cld, csl, lc⟩, ccl, cdd, cvs, ccs, file, tf, lcd, h2, hfile⟩ := F.ex
  have hl := len _ _ _ _ hsp
  have KX : K.In s.heap := e0.mod.kin.keeps fun b o e => (e0.bs b o e).1
  have lim : s.heap.NoLimit := e0.mod.nolimit.keeps fun b o e => (e0.bs b o e).1
  refine PySem.ks_codeAny_call_defAt (body := defBody st) (binds := ps.zip us) hr.depth (KX _ _ lk) rfl lim (PySem.W.codeRec_of KX hcd) rfl hb S.nocell (fun y hy => S.par _ (List.of_mem_zip hy).1) (fun h₁ hns hk => ?_) S.co S.gen S.kind
  obtain ⟨a, ws, t, rfl, T, ea, ht, hq⟩ := main (.ref cda) cc A outer s H vs Q E hsp
  have I : Inv (cxSup P w K mg base N qual (defScope st) f (.ref cda) cc A outer s H E) [] (start N (.ref a :: ws)) H { s with heap := h₁, toks := s.toks + (ps.zip us).length } := inv_startS S hr.hd e0 hl r lc rfl hns hk
  refine PySem.ks_wpAt_mono (Q := SP (cxSup P w K mg base N qual (defScope st) f (.ref cda) cc A outer s H E) [] { nx := fun _ H' => Q .non H', rt := Q }) (E := (cxSup P w K mg base N qual (defScope st) f (.ref cda) cc A outer s H E).xe) ?_ (fun fl s' hs => ?_) (fun e s' h => h)
  · show _root_.PySem.wpAt (model P w) (A.deeper (supEnv qual (defScope st) s.heap.objs.size f (.ref cda) cc)) (.func (defBody st) (supEnv qual (defScope st) s.heap.objs.size f (.ref cda) cc)) (execs (defBody st) (supEnv qual (defScope st) s.heap.objs.size f (.ref cda) cc)) _ _ _
    have d0 : us[0]? = some (.ref a) := by
      obtain ⟨u, hu, ru⟩ := r.get (i := 0) (x := V.ref a) rfl
      cases (show u = Value.ref a from ru)
      exact hu
    have ndP : ps.Nodup := by rw [← S.pre]; exact S.nd.sublist (List.take_sublist _ _)
    have hv : (ps.zip us).reverse.lookup ar.arg = some (.ref a) := rev_lookup ndP self d0
    obtain ⟨cd, hcls⟩ := F.cls
    obtain ⟨t1, ho⟩ := exo_at I.hok ea
    obtain ⟨oD, hD1, hD2⟩ : ∃ oD, h₁.get? C = some oD ∧ oD.data = .cls cd := by
      unfold PySem.W.clsIn at hcls
      split at hcls
      · rename_i c d cd' sl ho
        cases hcls
        exact ⟨_, I.kIn _ _ ho, rfl⟩
      · cases hcls
    rw [body]
    refine PySem.ks_wpAt_execs_cons (PySem.ks_wpAt_Expr_any (PySem.ks_wpAt_MethodCall ?_ (shape _)) I.quiet)
    refine PySem.ks_wpAt_super_base (env := supEnv qual (defScope st) s.heap.objs.size f (.ref cda) cc) S.sup S.cls (by decide) rfl (I.kIn _ _ lk) rfl arg rfl (I.kIn _ _ lcd) rfl h2 hfile F.top ?_
    obtain ⟨mb, b1, b2⟩ := e0.mod.blt
    refine PySem.W.ks_loadName_global S.kind S.sup (Calls.loadGlobal_builtin (env := supEnv qual (defScope st) s.heap.objs.size f (.ref cda) cc) (e0.mod.glob.keeps I.bk) (F.sup e0.mod.kin e0.mod.glob) (b1.keeps I.bk) ((b2 _ (by decide)).trans boot_super) ⟨rfl, ?_⟩)
    refine wpAny_loadName_free S.kind S.cls rfl ⟨_, I.kIn _ _ lc, rfl⟩ ?_
    refine wpAny_loadName_local S.kind (S.par _ (List.mem_of_getElem? self)) hns hv ?_
    refine PySem.ks_wpAny_isType_cls hD1 hD2 ⟨rfl, ?_⟩
    refine PySem.ks_wpAny_call_super hD1 hD2 ho rfl (fun c e => nomatch e) (PySem.W.looks_mroIn I.kIn F.own) (fun h' e k => ?_)
    have J1 := I.kept (t' := s.toks + (ps.zip us).length) k
    obtain ⟨t2, ho2⟩ := exo_at J1.hok ea
    have Ia : PySem.W.InstAt h' a { cls := .ref C, dict := none, data := .fields #[.ref t2, .none, .none, .none, .bool false, .none] } C none := ⟨ho2, rfl, rfl, trivial⟩
    have hf : PySem.W.alongIn K "__init__" ((cd.mro.dropWhile (· != .ref C)).drop 1) = some (some (.builtin "ValueError.__init__")) := by
      have z := F.nxt
      unfold PySem.W.ks_superIn at z
      rw [hcls] at z
      exact z
    refine PySem.W.kxs_getMethod PySem.W.kxs_ValueError e (PySem.W.looks_opaque J1.kIn F.opq) (l₀ := cd.mro) (fun A Q E s k q => wpAny_bind ((PySem.W.looks_clsIn J1.kIn hcls) A _ E s k (wpAny_pure q))) rfl J1.kIn hf (Ia.type.andThen (PySem.W.looks_subIn J1.kIn F.isV)) (PySem.W.ks_ne J1.kIn Ia hcls) (by decide) ?_
    have J2 := J1.kept (t' := s.toks + (ps.zip us).length + 1) (h' := h'.push (PySem.W.kxs_mw "ValueError.__init__" a)) fun b o z => Heap.get?_push_of_some _ z
    have Jp : Inv (cxSup P w K mg base N qual (defScope st) f (.ref cda) cc A outer s H E) [(h'.objs.size, PySem.W.kxs_mw "ValueError.__init__" a)] (start N (.ref a :: ws)) H { s with heap := h'.push (PySem.W.kxs_mw "ValueError.__init__" a), toks := s.toks + (ps.zip us).length + 1 } := by
      refine J2.pins_of fun p hp => ?_
      rw [List.mem_singleton] at hp
      subst hp
      exact ⟨Heap.get?_push_at rfl rfl, J1.hok.fresh (Nat.le_refl _), Nat.ne_of_gt J1.lt, J1.nofs (Nat.le_refl _), fun v z => nomatch z⟩
    refine PySem.W.kxs_callWith (i := "ValueError.__init__") (x := a) rfl (Calls.evalArgs_plain ?_)
    have ha : PA (cxSup P w K mg base N qual (defScope st) f (.ref cda) cc A outer s H E) [.Constant (.str msg) j pc] (tCons (tC (.str msg)) tNil) := pa_cons pe_str pa_nil
    refine thn (ha.run pos _ _ _ H (fun vs H1 => vs = [.str msg] ∧ H1 = H) Jp ⟨rfl, rfl⟩) ?_
    rintro us1 s1 ⟨vs1, H1, I1, r1, rfl, rfl⟩
    have at1 := (I1.pin _ (List.mem_singleton.mpr rfl)).1
    refine ⟨at1, ?_⟩
    have few : us1.length ≤ sizeLine := by
      have := Paired.length r1
      rw [sizeLine_eq]
      show _ ≤ _
      have e1 : [V.str msg].length = 1 := rfl
      omega
    refine mw_call T I1 ea few at1 fun s2 J => ?_
    exact wpAt_of_wpAny (ht.run [] s2 _ _ _ (J.pins_of fun p hp => nomatch hp) hq)
  · have fin : ∀ {σ' : L2.St} {H' : Hp} {v : V} {u : Value}, Inv (cxSup P w K mg base N qual (defScope st) f (.ref cda) cc A outer s H E) [] σ' H' s' → RelV v u → Q v H' → CE outer P w H s Q u s' :=
      fun {σ' H' v u} J rv q => ⟨v, H', J.os, J.bare, J.base, J.hok, rv, q⟩
    cases fl with
    | ret u =>
      obtain ⟨v, σ', H', J, rv, q⟩ := hs
      exact fin J rv q
    | next =>
      obtain ⟨σ', H', J, q⟩ := hs
      exact fin (v := V.non) (u := Value.none) J rfl q
    | brk =>
      obtain ⟨_, _, _, q⟩ := hs
      exact False.elim q
    | cont =>
      obtain ⟨_, _, _, q⟩ := hs
      exact False.elim q
theorem FunS.binds {qual : Str} {st : Stmt} {C f : Addr} {fd : FuncData} {ps : List Str} (F : FunS K P qual st C f fd)
    (h : ∀ (kV doc pm : Value) (an : Option Addr) (cc : Addr) (cdv ct : Value) (us : List Value), us.length = ps.length → bindArgs (PySem.W.fnX "__init__" qual (defArgs st) (defBody st) (defScope st) [("__class__", cc)] .none kV doc pm an cdv ct) ⟨us, []⟩ = pure (ps.zip us)) : Binds K fd ps [] := by
  obtain ⟨oc, od, kV, doc, pm, an, cda, cc, ct, osl, rfl, _⟩ := F.ex
  exact .all (h kV doc pm an cc (.ref cda) ct)
end
end Kz
set_option linter.all false
set_option maxRecDepth 100000
set_option maxHeartbeats 4000000
namespace Kz
open PySem PySem.Spec PyProof.Rows L2
theorem funS_mk {P : Program} {K : PySem.W.Frag} {qual : Str} {st : Stmt} {C f ca cc : Addr} {oc : Value} {od an : Option Addr} {osl : Array (Option Value)} {kV doc pm ct : Value} {cl : Value} {cld : Option Addr} {csl : Array (Option Value)} {ccl : Value} {cdd : Option Addr} {vs : Array Value} {ccs : Array (Option Value)} {file : Str} {tf : Tok}
    (l : K.lookup f = some ⟨oc, od, .func (PySem.W.fnX "__init__" qual (defArgs st) (defBody st) (defScope st) [("__class__", cc)] .none kV doc pm an (.ref ca) ct), osl⟩) (c : PySem.W.codeIn K (.ref ca) qual = true)
    (lc : K.lookup cc = some ⟨cl, cld, .cell (some (.ref C)), csl⟩) (la : K.lookup ca = some ⟨ccl, cdd, .fields vs, ccs⟩) (h2 : (vs[2]? : Option Value) = some (.str file tf)) (hf : ((P.main.file : Str) == file) = true)
    (zs : PySem.W.nsIn K mainGlobals "super" = some none) (tp : (P.main.scope.names.lookup ("super" : Str)).isSome = false) (op : PySem.W.nsIn K cStatics "thirdparty.any" = some none) (cls : ∃ cd, PySem.W.clsIn K C = some cd)
    (ow : PySem.W.mroIn K C (.ref C) = some true) (nx : PySem.W.ks_superIn K C C "__init__" = some (some (.builtin "ValueError.__init__"))) (iv : PySem.W.subIn K (.ref C) (.type "ValueError") = some true) :
    FunS K P qual st C f (PySem.W.fnX "__init__" qual (defArgs st) (defBody st) (defScope st) [("__class__", cc)] .none kV doc pm an (.ref ca) ct) :=
  ⟨⟨oc, od, kV, doc, pm, an, ca, cc, ct, osl, rfl, l, c, ⟨cl, cld, csl, lc⟩, ccl, cdd, vs, ccs, file, tf, la, h2, hf⟩, fun X G => PySem.W.mg_none_of X G zs, tp, op, cls, ow, nx, iv⟩
theorem ErrT_cls {K : PySem.W.Frag} {C : Addr} {l : List Value} (h : ∃ cd, PySem.W.clsIn K C = some cd ∧ cd.mro = l) : ∃ cd, PySem.W.clsIn K C = some cd := let ⟨cd, e, _⟩ := h; ⟨cd, e⟩
end Kz
set_option linter.all false
set_option maxRecDepth 100000
set_option maxHeartbeats 4000000
/-! Defs whose bodies ask for repr: the promise holds wherever no repr is under way around the call. -/
namespace Kz
open PySem PySem.Spec PyProof.Rows L2
section
variable {X : Cx}
/-- xs[lo:hi], the new list not the table of modules -/
def rSlN (K : PySem.W.Frag) : V → Option Int → Option Int → Hp → VK → Prop := fun x lo hi H Q => ∃ a xs, x = .ref a ∧ SqL K H a xs ∧
  ∀ p, H p = none → p ≠ sysModules → Q (.ref p) (upd H p (.lst (cutV xs lo hi)))
theorem sl_listN : SlR X (rSlN X.K) := by
  rintro pins s σ H x v vl vu lo hi sl Q I rx hs pl pu ⟨a, xs, rfl, hx, q⟩
  cases rx
  obtain ⟨its, r, ht, hz⟩ := I.list hx
  refine ⟨"list", _, slot_list_getitem.lookup, ht.isList.typeIs, ?_⟩
  have len := r.length
  refine wpAny_getItem_list_slice ht.isList hs pl pu .none (by simp) ?_ ?_
  · rw [slicePick_cut]
    rw [← len]
    have cut : Vals (cutV xs lo hi) _ := (r.drop (HT.sIx xs.length 0 lo)).take (HT.sIx xs.length xs.length hi - HT.sIx xs.length 0 lo)
    exact ⟨.ref s.heap.objs.size, _, I.lnew (t' := s.toks) cut (Nat.le_trans (cutV_length xs lo hi) hz), rfl, q _ I.fresh (Nat.ne_of_gt I.big)⟩
  · rw [List.size_toArray]
    omega
end

/-- FnOk where no repr is under way -/
structure FnG (P : Program) (w : World) (K : PySem.W.Frag) (mg : Str → Option Value) (base : Heap) (CX : CXT) (k : Nat) (f : Addr) (fd : FuncData) (ps : List Str) (sp : Sp) : Prop where
  many : ∀ vs H Q E, sp vs H Q E → vs.length = ps.length
  go : ∀ (A : Around), A.guards = some [] → Room k A → ∀ (outer : List Env) (s : Shared) (H : Hp), Env0 P w K mg base A outer s H → ∀ (args : Args) (us : List Value) (vs : List V),
    BindsTo s fd args (ps.zip us) → Vals vs us → ∀ (Q : VK) (E : XK), sp vs H Q E → codeAny (model P w) A (.call (.ref f) args) (CR CX outer P w H s Q E) s
theorem FnG.of {P : Program} {w : World} {K : PySem.W.Frag} {mg : Str → Option Value} {base : Heap} {CX : CXT} {k : Nat} {f : Addr} {fd : FuncData} {ps : List Str} {sp : Sp} (F : FnOk P w K mg base CX k f fd ps sp) :
    FnG P w K mg base CX k f fd ps sp := ⟨F.len, fun A _ hr outer s H e0 args us vs hb r Q E h => F.run A outer s H args us vs Q E hr e0 hb r h⟩

section
variable {P : Program} {w : World} {K : PySem.W.Frag} {mg : Str → Option Value} {base : Heap} {CX : CXT} {k : Nat} {f : Addr} {x qual : Str} {st : Stmt} {fd : FuncData} {N ps : List Str} {sp : Sp}
/-- a def by its body -/
theorem fnG_of (F : Fun K x qual st f fd) (S : FnScope N ps (defScope st)) (many : ∀ vs H Q E, sp vs H Q E → vs.length = ps.length)
    (body : ∀ (cdv : Value) (A : Around) (outer : List Env) (s : Shared) (H : Hp) (vs : List V) (Q : VK) (E : XK), A.guards = some [] → Room k (A.deeper (envOfC qual (defScope st) s.heap.objs.size f cdv)) → sp vs H Q E →
      ∃ t, PSs (cxOf CX P w K mg base N qual (defScope st) f cdv A outer s H E) (defBody st) t ∧ t { nx := fun _ H' => Q .non H', rt := Q } (start N vs) H) :
    FnG P w K mg base CX (k + 1) f fd ps sp := by
  obtain ⟨oc, od, kV, doc, pm, an, cdv, ct, osl, rfl, lk, hcd⟩ := F.ex
  constructor
  · exact many
  intro A hg room outer s H e0 args us vs hb r Q E want
  have KX : K.In s.heap := e0.mod.kin.keeps fun b o z => (e0.bs b o z).1
  have lim : s.heap.NoLimit := e0.mod.nolimit.keeps fun b o z => (e0.bs b o z).1
  refine codeAny_call_function room.depth (KX _ _ lk) rfl S.co S.gen rfl (PySem.W.codeRec_of KX hcd) (hb _ _ _ _ ?_)
  refine wpAny_newFunctionEnv_cells S.kind ?_ ?_
  · rintro ⟨n, v⟩ mem
    cases S.par n (List.of_mem_zip mem).1 with
    | inl q => exact .inl q
    | inr q => exact .inr ⟨q, PySem.W.cellsFrom_some _ _ _ (.inl q)⟩
  rintro env rfl s1 xs
  refine ⟨lim.keeps xs.toInCall.keep, codeAny_func ?_⟩
  obtain ⟨t, ht, hq⟩ := body cdv A outer s H vs Q E hg (room.deeper _) want
  have I := inv_start (CX := CX) (P := P) (mg := mg) (E := E) S room.hd e0 (many _ _ _ _ want) r xs
  refine wpAny_mono (ht.run [] s1 (start N vs) H _ I hq) ?_ fun _ _ z => z
  intro fl s' hs
  have fin : ∀ {σ' : L2.St} {H' : Hp} {v : V} {u : Value}, Inv (cxOf CX P w K mg base N qual (defScope st) f cdv A outer s H E) [] σ' H' s' → RelV v u → Q v H' → CE outer P w H s Q u s' := by
    intro σ' H' v u J rv q
    exact ⟨v, H', J.os, J.bare, J.base, J.hok, rv, q⟩
  rcases fl with _ | _ | _ | u
  · obtain ⟨σ', H', J, q⟩ := hs
    exact fin (v := V.non) (u := Value.none) J rfl q
  · obtain ⟨_, _, _, q⟩ := hs
    exact q.elim
  · obtain ⟨_, _, _, q⟩ := hs
    exact q.elim
  · obtain ⟨v, σ', H', J, rv, q⟩ := hs
    exact fin J rv q
end

section
variable {X : Cx} {CX : CXT} {k : Nat} {f : Addr} {fd : FuncData} {ps : List Str} {sp : Sp} {E : XK} {x : Str} {p pos : Pos} {e : Expr} {es : List Expr} {t : TA}
theorem run_fnG {pins : List (Addr × Obj)} {σ : L2.St} {H : Hp} {s : Shared} {Q : VK} {us : List Value} {vs : List V} (F : FnG X.prog X.w X.K X.mg X.base CX k f fd ps sp) (hg : X.A.guards = some []) (hr : Room k X.A)
    (hb : Binds X.K fd ps []) (hx : Passes CX X E) (I : Inv X pins σ H s) (r : Vals vs us) (h : sp vs H Q E) : wpAny (model X.prog X.w) X.A (call (.ref f) us) (EP X pins σ Q) X.xe s := by
  have many : us.length = ps.length := by
    rw [← r.length]
    exact F.many _ _ _ _ h
  have bnd := hb s us I.kIn (by rw [List.append_nil]; exact many)
  rw [List.append_nil] at bnd
  refine wpAny_call (codeAny_mono (F.go X.A hg hr X.stack s H I.env0 ⟨us, []⟩ us vs bnd r Q E h) ?_)
  intro res s' hq
  rcases res with er | fl
  · exact hx pins σ H s er s' I hq
  · rcases fl with _ | _ | _ | u
    all_goals first | exact I.after hq | exact False.elim hq
theorem pe_callG (F : FnG X.prog X.w X.K X.mg X.base CX k f fd ps sp) (hgu : X.A.guards = some []) (hr : Room k X.A) (hg : Gl X x) (hm : X.mg x = some (.ref f)) (hk : PySem.W.keepIn X.K (.ref f) = true)
    (hb : Binds X.K fd ps []) (hx : Passes CX X E) (ha : PA X (e :: es) t) (hdb : (x == ("__debug__" : Str)) = false := by decide)
    (st : starEach (e :: es) X.env = (false, eval e X.env) :: starEach es X.env := by rfl) (nost : (backTo pos (starEach es X.env)).any (·.1) = false := by rfl) :
    PE X (.Call (.Name x p) (e :: es) [] pos) (tCall sp [] E t) := by
  constructor
  intro pins s σ H Q I h
  refine wpAny_Call_Name_kw (ld_glob I hg hm ?_ hdb)
  refine PySem.W.callWith_K (h₀ := X.base) I.ok.mod.kin hk ?_ st nost
  refine thn (ha.run pos pins s σ H _ I h) ?_
  rintro us s1 ⟨vs, H1, I1, r, q⟩
  rw [List.append_nil] at q
  exact ⟨I1.kIn, run_fnG F hgu hr hb hx I1 r q⟩
end

/-! ### the end of a law whose def asks for repr -/
/-- the script, tracked by what it is -/
def scrH (a : Addr) (o : Obj) (xs : List V) : Hp := fun b => if b = a then some (.frz o (.lst xs)) else none
theorem scrH_at {a : Addr} {o : Obj} {xs : List V} : scrH a o xs a = some (.frz o (.lst xs)) := if_pos rfl
theorem scrH_off {a b : Addr} {o : Obj} {xs : List V} (h : b ≠ a) : scrH a o xs b = none := if_neg h
/-- the base that a heap with the script aside makes -/
theorem side_env {P : Program} {w : World} {K : PySem.W.Frag} {mg mb : Str → Option Value} {h : Heap} {H : Hp} {s : Shared} {a : Addr} {l : Array Value} (hs : s.heap = h) (KX : K.In h) (hns : h.Ns mainGlobals mg) (hb : h.Ns builtinsNs mb)
    (hbb : ∀ x : Str, x ≠ "__name__" → mb x = bootBuiltins x) (lim : h.NoLimit) (gens : s.gens = #[]) (ha : h.get? a = some { cls := .type "list", data := .seq l })
    (only : ∀ b, b ≠ a → H b = none) (ok : HOk P w H h) (apart : H a ≠ none → K.lookup a = none) :
    K.In (hidT h H) ∧ (hidT h H).Ns mainGlobals mg ∧ Env0 P w K mg (hidT h H) callerA [] s H := by
  subst hs
  have free : ∀ {b : Addr} {o : Obj} {es : Array DictEntry} {ep : Nat}, s.heap.get? b = some o → o.data = .dict es ep → H b = none := by
    intro b o es ep e1 e2
    by_cases hba : b = a
    · rw [hba, ha] at e1
      cases e1
      cases e2
    · exact only b hba
  have ns : ∀ {b : Addr} {m : Str → Option Value}, s.heap.Ns b m → (hidT s.heap H).Ns b m := by
    rintro b m ⟨o, es, ep, e1, e2, r⟩
    exact ⟨o, es, ep, hidT_get e1 (free e1 e2), e2, r⟩
  have kin : K.In (hidT s.heap H) := by
    intro b o e1
    refine hidT_get (KX b o e1) ?_
    by_cases hba : b = a
    · subst hba
      cases q : H b with
      | none => rfl
      | some u =>
        have z := apart (by rw [q]; exact fun z => nomatch z)
        rw [z] at e1
        cases e1
    · exact only b hba
  have nolim : (hidT s.heap H).NoLimit := by
    obtain ⟨mc, z1, z2⟩ := lim
    exact ⟨mc, ns z1, z2⟩
  refine ⟨kin, ns hns, ⟨rfl, ⟨kin, ns hns, ⟨mb, ns hb, hbb⟩, nolim⟩, fun b o z => of_hidT z, Nat.le_of_eq (hidT_size _ _), trivial, ?_, ok, .of_eq gens⟩⟩
  intro b z
  cases (show b ∈ ([] : List Addr) from z)

theorem law_G {P : Program} {w : World} {K : PySem.W.Frag} {mg mb : Str → Option Value} {CX : CXT} {k : Nat} {fa a : Addr} {fd : FuncData} {x : Str} {sp : Sp} {s : Shared} {vs : List Value} {ns : List Int}
    (KX : K.In s.heap) (hns : s.heap.Ns mainGlobals mg) (hb : s.heap.Ns builtinsNs mb) (hbb : ∀ x : Str, x ≠ "__name__" → mb x = bootBuiltins x) (lim : s.heap.NoLimit) (gens : s.gens = #[])
    (ha : s.heap.get? a = some { cls := .type "list", data := .seq vs.toArray }) (hi : IntsAre vs ns) (hl : ns.length ≤ sizeLine) (hr : Room k callerA)
    (F : ∀ base : Heap, K.In base → base.Ns mainGlobals mg → FnG P w K mg base CX k fa fd [x] sp) (bind : ∀ (s : Shared) (u : Value), BindsTo s fd ⟨[u], []⟩ [(x, u)])
    (hsp : ∀ H : Hp, Only H → SqL K H a (ns.map V.int) → sp [.ref a] H (fun v _ => v = .bl true) fun _ _ _ => False)
    (hCX : ∀ H e s', CX [] H s (fun _ _ _ => False) e s' → False) :
    codeAny (model P w) callerA (.call (.ref fa) ⟨[.ref a], []⟩) (fun r s' => r = .ok (.ret (.bool true)) ∧ OldK s.heap s'.heap ∧ s'.os = s.os ∧ AllBare s'.gens) s := by
  have rv := L2.vals_ints hi
  have core : ∀ H : Hp, Only H → SqL K H a (ns.map V.int) → (∀ b, b ≠ a → H b = none) → HOk P w H s.heap → (H a ≠ none → K.lookup a = none) →
      codeAny (model P w) callerA (.call (.ref fa) ⟨[.ref a], []⟩) (fun r s' => r = .ok (.ret (.bool true)) ∧ OldK s.heap s'.heap ∧ s'.os = s.os ∧ AllBare s'.gens) s := by
    intro H hO hS only ok apart
    obtain ⟨k1, k2, e0⟩ := side_env (P := P) (w := w) rfl KX hns hb hbb lim gens ha only ok apart
    refine codeAny_mono ((F _ k1 k2).go callerA rfl hr [] s H e0 ⟨[.ref a], []⟩ [.ref a] [.ref a] (bind s (.ref a)) (.cons rfl .nil) _ _ (hsp H hO hS)) ?_
    intro r s' got
    rcases r with er | fl
    · exact (hCX H er s' got).elim
    rcases fl with _ | _ | _ | u
    all_goals try exact False.elim got
    obtain ⟨v, H', os, bare, un, ok', rel, q⟩ := got
    cases (show v = V.bl true from q)
    cases (show u = Value.bool true from rel)
    refine ⟨rfl, OldK.of_keep fun b o e1 => ?_, os, bare⟩
    rcases hO b with z | ⟨ob, xs, z⟩
    · exact un.keep b o e1 z (fun m => by cases (show b ∈ ([] : List Addr) from m)) (by simp)
    · obtain ⟨w1, _⟩ := ok b _ z
      obtain ⟨w2, _⟩ := ok' b _ (un.frzs b ob _ z)
      rw [e1] at w1
      cases w1
      exact w2
  cases hk : K.lookup a with
  | some o =>
    have e1 := KX a o hk
    rw [ha] at e1
    cases e1
    have many : (vs.toArray).size ≤ sizeLine := by
      rw [List.size_toArray, hi.length]
      exact hl
    exact core (fun _ => none) (fun _ => .inl rfl) (.inr ⟨_, vs.toArray, _, hk, rfl, rfl, rfl, many, by simpa using rv⟩) (fun _ _ => rfl) (fun b u z => nomatch z) (fun z => absurd rfl z)
  | none =>
    refine core (scrH a { cls := .type "list", data := .seq vs.toArray } (ns.map V.int)) (fun b => ?_) (.inl (.inr ⟨_, scrH_at⟩)) (fun b hb => scrH_off hb) (fun b u z => ?_) fun _ => hk
    · by_cases hba : b = a
      · rw [hba]
        exact .inr ⟨_, _, scrH_at⟩
      · exact .inl (scrH_off hba)
    · by_cases hba : b = a
      · subst hba
        cases scrH_at.symm.trans z
        refine ⟨ha, ?_, vs, _, rv, ha⟩
        rw [List.length_map]
        exact hl
      · cases (scrH_off hba).symm.trans z

theorem walk_G {l : PySem.W.OpenLaw} {n k : Nat} {q : Program} {loose : List Str} {XP : (Str → Option Value) → Heap → Prop} {YP : World → Heap → Prop} {d : DefRec} {K : Params → PySem.W.Frag} {CX : World → CXT} {sp : World → Sp} {x : Str}
    (hn : l.most = some n) (small : n ≤ sizeLine) (nodf : d.params.defaults = []) (hr : Room k callerA) (hY : ∀ (w : World) (h : Heap), YP w h → (K w.params).In h)
    (F : ∀ (w : World) (mg : Str → Option Value) (fa : Addr) (h : Heap), (K w.params).In h → h.Ns mainGlobals mg → mg d.name = some (.ref fa) →
      ∃ fd : FuncData, (∀ (s : Shared) (u : Value), BindsTo s fd ⟨[u], []⟩ [(x, u)]) ∧
        ∀ base : Heap, (K w.params).In base → base.Ns mainGlobals mg → FnG l.prog w (K w.params) mg base (CX w) k fa fd [x] (sp w))
    (hsp : ∀ (w : World) (H : Hp) (a : Addr) (ns : List Int), ns.length ≤ n → Only H → SqL (K w.params) H a (ns.map V.int) → sp w [.ref a] H (fun v _ => v = .bl true) fun _ _ _ => False)
    (hCX : ∀ (w : World) (H : Hp) (s : Shared) (e : Value) (s' : Shared), CX w [] H s (fun _ _ _ => False) e s' → False) :
    PySem.W.WalkO q loose XP YP l.row.toRowW d [] (fun f vs => PySem.call f vs) := by
  refine Att.attach_call hn nodf ?_
  intro w s₀ s₁ mg mb fa o pm cd doc a vs ns G Y ho hd hcd hmg hobj hints few hg
  obtain ⟨fd, hb, hF⟩ := F w mg fa _ (hY w _ Y) G.T.g hmg
  exact law_G (hY w _ Y) G.T.g G.T.b G.T.builtins G.T.nolimit hg hobj hints (Nat.le_trans few small) hr hF hb (fun H hO hS => hsp w H a ns few hO hS) fun H e s' => hCX w H s₁ e s'
end Kz
set_option linter.all false
set_option maxRecDepth 100000
set_option maxHeartbeats 4000000
/-! The pen that a law draws from: a dict of five entries. -/
namespace Kz
open PySem PySem.Spec PyProof.Rows L2
def penK (c : Addr) (i d n f : Int) : List (Key × V) := [(.inr "cells", .ref c), (.inr "at", .int i), (.inr "digits", .int d), (.inr "count", .int n), (.inr "fold", .int f)]
theorem q01 : ¬ (("cells" : Str) = "at") := by decide +kernel
theorem q02 : ¬ (("cells" : Str) = "digits") := by decide +kernel
theorem q03 : ¬ (("cells" : Str) = "count") := by decide +kernel
theorem q04 : ¬ (("cells" : Str) = "fold") := by decide +kernel
theorem q12 : ¬ (("at" : Str) = "digits") := by decide +kernel
theorem q13 : ¬ (("at" : Str) = "count") := by decide +kernel
theorem q14 : ¬ (("at" : Str) = "fold") := by decide +kernel
theorem q23 : ¬ (("digits" : Str) = "count") := by decide +kernel
theorem q24 : ¬ (("digits" : Str) = "fold") := by decide +kernel
theorem q34 : ¬ (("count" : Str) = "fold") := by decide +kernel
theorem kne {a b : Str} (h : ¬ a = b) : ¬ ((Sum.inr a : Key) = Sum.inr b) := fun e => h (Sum.inr.inj e)
theorem kne' {a b : Str} (h : ¬ a = b) : ¬ ((Sum.inr b : Key) = Sum.inr a) := fun e => h (Sum.inr.inj e).symm
section
variable {c : Addr} {i d n f z : Int}
theorem pk_cells : valV (penK c i d n f) (.inr "cells") = some (.ref c) := valV_pos rfl
theorem pk_at : valV (penK c i d n f) (.inr "at") = some (.int i) := (valV_neg (kne q01)).trans (valV_pos rfl)
theorem pk_digits : valV (penK c i d n f) (.inr "digits") = some (.int d) := (valV_neg (kne q02)).trans ((valV_neg (kne q12)).trans (valV_pos rfl))
theorem pk_count : valV (penK c i d n f) (.inr "count") = some (.int n) := (valV_neg (kne q03)).trans ((valV_neg (kne q13)).trans ((valV_neg (kne q23)).trans (valV_pos rfl)))
theorem pk_fold : valV (penK c i d n f) (.inr "fold") = some (.int f) := (valV_neg (kne q04)).trans ((valV_neg (kne q14)).trans ((valV_neg (kne q24)).trans ((valV_neg (kne q34)).trans (valV_pos rfl))))
theorem put_there {kvs : List (Key × V)} {k : Key} {v w : V} (h : valV kvs k = some v) : putK kvs k w = kvs.map fun kv => if kv.1 = k then (kv.1, w) else kv := by
  unfold putK
  have e : (kvs.any fun kv => decide (kv.1 = k)) = true := by
    rw [valV_any, h]
    rfl
  rw [if_pos e]
theorem put_at : putK (penK c i d n f) (.inr "at") (.int z) = penK c z d n f := by
  rw [put_there pk_at]
  simp only [penK, List.map_cons, List.map_nil, if_neg (kne q01), if_neg (kne' q12), if_neg (kne' q13), if_neg (kne' q14), if_pos]
theorem put_digits : putK (penK c i d n f) (.inr "digits") (.int z) = penK c i z n f := by
  rw [put_there pk_digits]
  simp only [penK, List.map_cons, List.map_nil, if_neg (kne q02), if_neg (kne q12), if_neg (kne' q23), if_neg (kne' q24), if_pos]
theorem put_count : putK (penK c i d n f) (.inr "count") (.int z) = penK c i d z f := by
  rw [put_there pk_count]
  simp only [penK, List.map_cons, List.map_nil, if_neg (kne q03), if_neg (kne q13), if_neg (kne q23), if_neg (kne' q34), if_pos]
theorem put_fold : putK (penK c i d n f) (.inr "fold") (.int z) = penK c i d n z := by
  rw [put_there pk_fold]
  simp only [penK, List.map_cons, List.map_nil, if_neg (kne q04), if_neg (kne q14), if_neg (kne q24), if_neg (kne q34), if_pos]
end
theorem dg_of {H : Hp} {a : Addr} {kvs : List (Key × V)} {k : Key} {v : V} (h : H a = some (.dK kvs)) (e : valV kvs k = some v) : DGet H a (kV k) (some v) := e ▸ DGet.k h
theorem dp_of {H : Hp} {a : Addr} {kvs kvs' : List (Key × V)} {k : Key} {v : V} (h : H a = some (.dK kvs)) (l : kvs.length ≤ 1000) (e : putK kvs k v = kvs') : DPut H a (kV k) v (upd H a (.dK kvs')) := e ▸ DPut.k h (small1000 l)

/-- all stands as before but what is at p -/
def But (p : Addr) (H H' : Hp) : Prop := ∀ b o, H b = some o → b ≠ p → H' b = some o
theorem But.refl {p : Addr} {H : Hp} : But p H H := fun _ _ e _ => e
theorem But.trans {p : Addr} {H H1 H2 : Hp} (a : But p H H1) (b : But p H1 H2) : But p H H2 := fun c o e n => b c o (a c o e n) n
theorem But.set {p : Addr} {H H' : Hp} {o : HO} (a : But p H H') : But p H (upd H' p o) := fun c u e n => by
  rw [upd_ne n]
  exact a c u e n
theorem But.new {p q : Addr} {H H' : Hp} {o : HO} (a : But p H H') (n : H' q = none) : But p H (upd H' q o) := fun c u e m => by
  have z := a c u e m
  rw [upd_ne (ne_of_none z n)]
  exact z
theorem But.same {p : Addr} {H H' : Hp} (s : Same H H') : But p H H' := fun c u e _ => s c u e

/-- a pen at p from which n draws were made at most, its cells at c -/
def Pen (H : Hp) (p c : Addr) (n : Nat) : Prop := ∃ (ns : List Int) (i d m f : Int), H p = some (.dK (penK c i d m f)) ∧ H c = some (.lst (ns.map V.int)) ∧
  0 ≤ i ∧ 0 ≤ d ∧ 0 ≤ m ∧ m ≤ (n : Int) ∧ 0 ≤ f ∧ f < 2147483587
theorem Pen.keep {H H' : Hp} {p c : Addr} {n : Nat} (h : Pen H p c n) (hp : H' p = H p) (hc : H' c = H c) : Pen H' p c n := by
  obtain ⟨ns, i, d, m, f, e1, e2, r⟩ := h
  exact ⟨ns, i, d, m, f, hp.trans e1, hc.trans e2, r⟩
theorem Pen.new {H : Hp} {p c q : Addr} {n : Nat} {o : HO} (h : Pen H p c n) (e : H q = none) : Pen (upd H q o) p c n := by
  obtain ⟨ns, i, d, m, f, e1, e2, r⟩ := id h
  exact h.keep (upd_ne (ne_of_none e1 e)) (upd_ne (ne_of_none e2 e))
theorem Pen.same {H H' : Hp} {p c : Addr} {n : Nat} (h : Pen H p c n) (s : Same H H') : Pen H' p c n := by
  obtain ⟨ns, i, d, m, f, e1, e2, r⟩ := h
  exact ⟨ns, i, d, m, f, s _ _ e1, s _ _ e2, r⟩
theorem Pen.more {H : Hp} {p c : Addr} {n k : Nat} (h : Pen H p c n) (l : n ≤ k) : Pen H p c k := by
  obtain ⟨ns, i, d, m, f, e1, e2, a, b, x, y, r⟩ := h
  exact ⟨ns, i, d, m, f, e1, e2, a, b, x, by omega, r⟩
theorem Pen.off {H : Hp} {p c q : Addr} {n : Nat} {o : HO} (h : Pen H p c n) (e : H q = some o) (u : ∀ kvs, o ≠ .dK kvs) : q ≠ p := by
  obtain ⟨ns, i, d, m, f, e1, _⟩ := h
  exact ne_of e e1 (u _)
theorem Pen.newP {H : Hp} {p c q : Addr} {n : Nat} (h : Pen H p c n) (e : H q = none) : q ≠ p := by
  obtain ⟨ns, i, d, m, f, e1, _⟩ := h
  exact (ne_of_none e1 e).symm
theorem Pen.newC {H : Hp} {p c q : Addr} {n : Nat} (h : Pen H p c n) (e : H q = none) : q ≠ c := by
  obtain ⟨ns, i, d, m, f, _, e1, _⟩ := h
  exact (ne_of_none e1 e).symm
theorem Pen.set {H : Hp} {p c q : Addr} {n : Nat} {o : HO} (h : Pen H p c n) (np : q ≠ p) (nc : q ≠ c) : Pen (upd H q o) p c n := h.keep (upd_ne np.symm) (upd_ne nc.symm)

/-! ### the promises -/
def spPen (K : PySem.W.Frag) : Sp := fun vs H Q _ => ∃ (a : Addr) (ns : List Int), vs = [.ref a] ∧ SqL K H a (ns.map V.int) ∧ ∀ (p c : Addr) (H' : Hp), H p = none → Same H H' → Pen H' p c 0 → Q (.ref p) H'
def spDraw : Sp := fun vs H Q _ => ∃ (p c : Addr) (n : Nat) (many : Int), vs = [.ref p, .int many] ∧ Pen H p c n ∧ n ≤ 1000000 ∧ 0 < many ∧ many < 1073741824 ∧
  ∀ (d : Int) (H' : Hp), 0 ≤ d → d < many → Pen H' p c (n + 1) → But p H H' → Q (.int d) H'
def spPick : Sp := fun vs H Q _ => ∃ (p c l : Addr) (n : Nat) (xs : List V), vs = [.ref p, .ref l] ∧ Pen H p c n ∧ n ≤ 1000000 ∧ H l = some (.lst xs) ∧ 0 < xs.length ∧ xs.length < 1000000 ∧
  ∀ (j : Nat) (v : V) (H' : Hp), xs[j]? = some v → Pen H' p c (n + 1) → But p H H' → Q v H'
/-- a number of up to eighteen figures -/
def spFar : Sp := fun vs H Q _ => ∃ (p c : Addr) (n : Nat), vs = [.ref p] ∧ Pen H p c n ∧ n ≤ 900000 ∧
  ∀ (z : Int) (H' : Hp), -(10 ^ 18) < z → z < 10 ^ 18 → Pen H' p c (n + 20) → But p H H' → Q (.int z) H'
end Kz
set_option linter.all false
set_option maxRecDepth 100000
set_option maxHeartbeats 4000000
/-! Data that a law draws, and its text by repr. -/
namespace Kz
open PySem PySem.Spec PyProof.Rows L2
theorem Same.seqT {K : PySem.W.Frag} {H H' : Hp} {a : Addr} {xs : List V} (e : Same H H') (h : SqT K H a xs) : SqT K H' a xs := by
  rcases h with (h | ⟨o, h⟩) | h
  · exact .inl (.inl (e _ _ h))
  · exact .inl (.inr ⟨o, e _ _ h⟩)
  · exact .inr h
mutual
theorem Dq.same {K : PySem.W.Frag} {H H' : Hp} (s : Same H H') : ∀ {v : V} {d : PyData}, Dq K H v d → Dq K H' v d
  | _, _, .non => .non
  | _, _, .bl b => .bl b
  | _, _, .int i => .int i
  | _, _, .str x => .str x
  | _, _, .lst h n a => .lst (s _ _ h) n (DqAll.same s a)
  | _, _, .tup h a => .tup (Kz.Same.seqT s h) (DqAll.same s a)
  | _, _, .dic h a => .dic (s _ _ h) (DqAll.same s a)
theorem DqAll.same {K : PySem.W.Frag} {H H' : Hp} (s : Same H H') : ∀ {vs : List V} {ds : List PyData}, DqAll K H vs ds → DqAll K H' vs ds
  | _, _, .nil => .nil
  | _, _, .cons h t => .cons (Dq.same s h) (DqAll.same s t)
end
/-- the heap without what stands at p and at g -/
def dd (p g : Addr) (H : Hp) : Hp := fun b => if b = p then none else if b = g then none else H b
theorem dd_at {p g b : Addr} {H : Hp} (n : b ≠ p) (m : b ≠ g) : dd p g H b = H b := by
  unfold dd
  rw [if_neg n, if_neg m]
theorem dd_some {p g b : Addr} {H : Hp} {o : HO} (e : dd p g H b = some o) : b ≠ p ∧ b ≠ g ∧ H b = some o := by
  unfold dd at e
  by_cases n : b = p
  · rw [if_pos n] at e
    cases e
  · rw [if_neg n] at e
    by_cases m : b = g
    · rw [if_pos m] at e
      cases e
    · rw [if_neg m] at e
      exact ⟨n, m, e⟩
theorem dd_sub {p g : Addr} {H : Hp} : Same (dd p g H) H := fun _ _ e => (dd_some e).2.2
theorem dd_step {p g : Addr} {H H' : Hp} (s : ∀ b o, H b = some o → b ≠ p → b ≠ g → H' b = some o) : Same (dd p g H) (dd p g H') := fun b o e => by
  obtain ⟨n, m, e'⟩ := dd_some e
  rw [dd_at n m]
  exact s b o e' n m
/-- small data: its repr is short -/
structure Small (d : PyData) : Prop where
  sh : d.showable = true
  dp : d.depth ≤ 5
  lv : d.leavesShort 1921 = true
  bk : d.bulk ≤ 2000
structure Good (K : PySem.W.Frag) (H : Hp) (v : V) : Prop where
  ex : ∃ d, Dq K H v d ∧ Small d
theorem Good.same {K : PySem.W.Frag} {H H' : Hp} {v : V} (g : Good K H v) (s : Same H H') : Good K H' v := by
  obtain ⟨d, q, m⟩ := g
  exact ⟨d, q.same s, m⟩
theorem all_good {K : PySem.W.Frag} {H : Hp} : ∀ {vs : List V}, (∀ v ∈ vs, Good K H v) → ∃ ds, DqAll K H vs ds ∧ PyData.showableAll ds = true ∧ PyData.depthAll ds ≤ 5 ∧ PyData.leavesShortAll 1921 ds = true ∧ PyData.bulkAll ds ≤ 2001 * vs.length
  | [], _ => ⟨[], .nil, rfl, Nat.zero_le _, rfl, Nat.zero_le _⟩
  | v :: vs, h => by
    obtain ⟨d, q, m⟩ := (h v List.mem_cons_self).ex
    obtain ⟨ds, q2, a1, a2, a3, a4⟩ := all_good fun x hx => h x (List.mem_cons_of_mem _ hx)
    refine ⟨d :: ds, .cons q q2, ?_, ?_, ?_, ?_⟩
    · simp only [PyData.showableAll, m.sh, a1, Bool.and_self]
    · simp only [PyData.depthAll]
      have := m.dp
      omega
    · simp only [PyData.leavesShortAll, m.lv, a3, Bool.and_self]
    · simp only [PyData.bulkAll, List.length_cons]
      have := m.bk
      omega
theorem list_shown {ds : List PyData} {n : Nat} (hn : n ≤ 3) (lv : PyData.leavesShortAll 1921 ds = true) (bk : PyData.bulkAll ds ≤ 2001 * n) : (PyData.list ds).shown.length ≤ sizeLine := by
  have h := PyData.shown_le_bulk 1921 (by decide) (.list ds) (by simpa only [PyData.leavesShort] using lv)
  simp only [PyData.bulk] at h
  rw [sizeLine_eq]
  omega

/-! ### the numbers and texts -/
theorem small_log {z : Int} (h0 : -(10 ^ 18) < z) (h1 : z < 10 ^ 18) : z.natAbs.log2 < 1920 := by
  by_cases e : z.natAbs = 0
  · rw [e]
    decide
  · have : z.natAbs < 2 ^ 64 := by
      have : (2 : Nat) ^ 64 = 18446744073709551616 := by decide
      omega
    have := (Nat.log2_lt e).mpr this
    omega
theorem small_int {z : Int} (h : z.natAbs.log2 < 1920) : Small (.int z) where
  sh := by simp only [PyData.showable, h, decide_true]
  dp := Nat.zero_le _
  lv := by
    have := int_text_len_1921 h
    simp only [PyData.leavesShort, PyData.shown]
    exact decide_eq_true this
  bk := Nat.zero_le _
theorem signs_small (s : String) : ((Str.ofString s).cps.toList.all fun c => decide (c < 16 ^ 8)) = true := by
  rw [List.all_eq_true]
  intro c hc
  rw [signs_ofString] at hc
  obtain ⟨x, _, rfl⟩ := List.mem_map.mp hc
  have : x.toNat < 1114112 := by
    have := x.valid
    have e : x.toNat = x.val.toNat := rfl
    rcases this with h | ⟨_, h⟩
    · have : x.val.toNat < 55296 := h
      omega
    · have : x.val.toNat < 1114112 := h
      omega
  have : (16 : Nat) ^ 8 = 4294967296 := by decide
  exact decide_eq_true (by omega)
theorem small_text {x : Str} (h : (x.cps.toList.all fun c => decide (c < 16 ^ 8)) = true) (l : x.length ≤ 2000) : Small (.str x) where
  sh := rfl
  dp := Nat.zero_le _
  lv := by simp only [PyData.leavesShort, h]
  bk := l
theorem text_app {x y : Str} (h : (x.cps.toList.all fun c => decide (c < 16 ^ 8)) = true) (h' : (y.cps.toList.all fun c => decide (c < 16 ^ 8)) = true) : ((x ++ y).cps.toList.all fun c => decide (c < 16 ^ 8)) = true := by
  show ((x.cps ++ y.cps).toList.all _) = true
  rw [Array.toList_append, List.all_append, h, h']
  rfl
theorem for_enum {K : PySem.W.Frag} {a : Addr} {xs : List V} {g : TG} {tb : TS} {D : Ends} {σ : L2.St} {H : Hp} (Pv : Nat → L2.St → Hp → Prop) (h0 : Pv 0 σ H) (hq : ∀ i σ H, Pv i σ H → SqL K H a xs)
    (hs : ∀ (i : Nat) (x : V) (T : Addr) (σ : L2.St) (H : Hp), xs[i]? = some x → Pv i σ H → H T = none → g (.ref T) σ (upd H T (.tup [.int (i : Nat), x])) fun σ2 H2 => tb { D with nx := Pv (i + 1), ct := Pv (i + 1), bk := D.nx } σ2 H2)
    (hd : ∀ σ H, Pv xs.length σ H → D.nx σ H) : ∃ W : Nat → Nat → L2.St → Hp → Prop, (∃ m, W 0 m σ H) ∧ ∀ i m σ H, W i m σ H →
      ((Ite K a).stop i H ∧ D.nx σ H) ∨ ((Ite K a).go i H ∧ ∃ N : L2.St → Hp → Prop, (∀ σ' H', N σ' H' → ∃ m', m' < m ∧ W (i + 1) m' σ' H') ∧ ∀ v H', (Ite K a).yld i H v H' → g v σ H' fun σ2 H2 => tb { D with nx := N, ct := N, bk := D.nx } σ2 H2) := by
  refine ⟨fun i m σ H => m = xs.length - i ∧ i ≤ xs.length ∧ Pv i σ H, ⟨_, rfl, Nat.zero_le _, h0⟩, ?_⟩
  rintro i m σ H ⟨rfl, le, p⟩
  rcases Nat.lt_or_ge i xs.length with lt | ge
  · right
    refine ⟨⟨xs, _, hq i σ H p, List.getElem?_eq_getElem lt⟩, Pv (i + 1), ?_, ?_⟩
    · intro σ' H' p'
      exact ⟨xs.length - (i + 1), by omega, rfl, lt, p'⟩
    · rintro v H' ⟨T, x, rfl, hT, rfl, f⟩
      exact hs i x T σ H (f xs (hq i σ H p)) p hT
  · left
    have e : i = xs.length := by omega
    subst e
    exact ⟨⟨xs, hq _ σ H p, Nat.le_refl _⟩, hd σ H p⟩
end Kz
set_option linter.all false
set_option maxRecDepth 100000
set_option maxHeartbeats 4000000
namespace Kz
open PySem PySem.Spec PyProof.Rows L2
def top (i : Nat) : Stmt := PySem.Challenge.pw_toldmeans_k01_whole_ratios_and_polynomia.main.body.getD i (.Pass ⟨0, 0, 0, 0⟩)
abbrev sPen : Stmt := top 36
abbrev sDraw : Stmt := top 37
abbrev sPick : Stmt := top 38
abbrev sFar : Stmt := top 66
/-- built-in names that the module leaves alone -/
structure Blt (mg : Str → Option Value) : Prop where
  len : mg "len" = none
  int : mg "int" = none
  list : mg "list" = none
  range : mg "range" = none
section
variable {P : Program} {w : World} {K : PySem.W.Frag} {mg : Str → Option Value} {base : Heap}
theorem scPen : FnScope ["_law_script", "_law_fold", "_law_cell"] ["_law_script"] (defScope sPen) := ⟨rfl, rfl, rfl, by decide +kernel, rfl, by decide +kernel, by decide +kernel⟩
theorem ok_pen {f : Addr} {fd : FuncData} (F : Fun K "_law_pen" "_law_pen" sPen f fd) (B : Blt mg) : FnOk P w K mg base CX0 1 f fd ["_law_script"] (spPen K) := by
  refine F.ok scPen (fun vs H Q E h => ?_) (fun cdv A outer s H vs Q E hr h => ?_)
  · obtain ⟨a, ns, rfl, _⟩ := h
    rfl
  · obtain ⟨a, ns, rfl, hS, k⟩ := h
    have hu := hu_of hr
    refine ⟨_, pss_cons (ps_set (i := 1) scPen.nd rfl (.inl rfl) pe_int)
      (pss_cons (ps_for PassesOwn.never rfl (pi_list (pv 0)) (pg_name (i := 2) scPen.nd rfl (.inl rfl))
        (pss_one (ps_set (i := 1) scPen.nd rfl (.inl rfl) (pe_op op_mod (pe_callTy call_int1 (by rfl) B.int boot_int (pa_cons (pe_op op_add (pe_op op_mul (pv 1) pe_int) (pv 2)) pa_nil)) pe_int))))
      (pss_one (ps_ret (pe_disp (pps_cons pe_str (pe_callTy call_list_of (by rfl) B.list (by decide +kernel) (pa_cons (pv 0) pa_nil)) (pps_cons pe_str pe_int (pps_cons pe_str pe_int (pps_cons pe_str pe_int (pps_cons pe_str (pv 1) pps_nil))))) (by rfl) (by rfl) (fun z => by cases z) (by decide))))), ?_⟩
    refine ⟨_, rfl, a, rfl, ⟨_, hS⟩, for_list (K := K) (a := a) (xs := ns.map V.int) (fun i σ H' => H' = H ∧ ∃ (f : Int) (v : Option V), σ = [some (.ref a), some (.int f), v] ∧ 0 ≤ f ∧ f < 2147483587)
      ⟨rfl, 0, none, rfl, by decide, by decide⟩ (fun i σ H' _ ⟨e, _⟩ => e ▸ hS) ?_ ?_⟩
    · rintro i y σ H' hi ⟨rfl, f, v, rfl, h0, h1⟩
      obtain ⟨z, rfl⟩ : ∃ z, y = V.int z := by
        rw [List.getElem?_map] at hi
        cases e : ns[i]? with
        | none =>
          rw [e] at hi
          cases hi
        | some z =>
          rw [e] at hi
          exact ⟨z, (Option.some.inj hi).symm⟩
      refine ⟨_, rfl, _, _, rfl, rfl, .inr ⟨by decide, by decide⟩, _, rfl, _, _, rfl, rfl, .inl ⟨_, rfl, _, _, rfl, rfl, (by show (0 : Int) < 1000000007; decide), ?_⟩⟩
      have b1 := Int.emod_nonneg (f * 47 + z) (show (1000000007 : Int) ≠ 0 by decide)
      have b2 := Int.emod_lt_of_pos (f * 47 + z) (show (0 : Int) < 1000000007 by decide)
      exact ⟨rfl, _, some (.int z), rfl, b1, by omega⟩
    · rintro σ H' ⟨rfl, f, v, rfl, h0, h1⟩
      intro p hp
      refine ⟨_, rfl, a, _, rfl, .inl (Same.seq (fun b o e => ?_) hS), fun l hl => ?_⟩
      · rw [upd_ne (ne_of_none e hp)]
        exact e
      have lp : l ≠ p := fun e => by
        rw [e, upd_same] at hl
        cases hl
      refine ⟨_, rfl, ?_⟩
      refine ⟨by rw [upd_ne lp.symm, upd_same], penK l 0 0 0 f, rfl, (by show 5 ≤ 15; decide), ?_⟩
      have em : mergeK [] (penK l 0 0 0 f) = penK l 0 0 0 f := by
        have e1 : valV ([] : List (Key × V)) (.inr "cells") = none := rfl
        have a1 : putK [] (.inr "cells") (V.ref l) = [((.inr "cells" : Key), V.ref l)] := putK_new _ e1
        have a2 : putK [((.inr "cells" : Key), V.ref l)] (.inr "at") (V.int 0) = [((.inr "cells" : Key), V.ref l), (.inr "at", V.int 0)] := putK_new _ (valV_neg (kne q01))
        have a3 : putK [((.inr "cells" : Key), V.ref l), (.inr "at", V.int 0)] (.inr "digits") (V.int 0) = [((.inr "cells" : Key), V.ref l), (.inr "at", V.int 0), (.inr "digits", V.int 0)] :=
          putK_new _ ((valV_neg (kne q02)).trans (valV_neg (kne q12)))
        have a4 : putK [((.inr "cells" : Key), V.ref l), (.inr "at", V.int 0), (.inr "digits", V.int 0)] (.inr "count") (V.int 0) = [((.inr "cells" : Key), V.ref l), (.inr "at", V.int 0), (.inr "digits", V.int 0), (.inr "count", V.int 0)] :=
          putK_new _ ((valV_neg (kne q03)).trans ((valV_neg (kne q13)).trans (valV_neg (kne q23))))
        have a5 : putK [((.inr "cells" : Key), V.ref l), (.inr "at", V.int 0), (.inr "digits", V.int 0), (.inr "count", V.int 0)] (.inr "fold") (V.int f) = penK l 0 0 0 f :=
          putK_new _ ((valV_neg (kne q04)).trans ((valV_neg (kne q14)).trans ((valV_neg (kne q24)).trans (valV_neg (kne q34)))))
        show putK (putK (putK (putK (putK ([] : List (Key × V)) (.inr "cells") (V.ref l)) (.inr "at") (V.int 0)) (.inr "digits") (V.int 0)) (.inr "count") (V.int 0)) (.inr "fold") (V.int f) = _
        rw [a1, a2, a3, a4, a5]
      refine k p l _ hp (fun b o e => ?_) ⟨ns, 0, 0, 0, f, by rw [upd_same, em], ?_, by decide, by decide, by decide, by decide, h0, h1⟩
      · have bp := ne_of_none e hp
        have bl : b ≠ l := fun z => by
          rw [z] at e bp
          rw [upd_ne bp, e] at hl
          cases hl
        rw [upd_ne bp, upd_ne bl, upd_ne bp]
        exact e
      · rw [upd_ne lp, upd_same]

theorem scDraw : FnScope ["_law_pen_here", "_law_many", "_law_cell", "_law_digit", "_law_blend"] ["_law_pen_here", "_law_many"] (defScope sDraw) := ⟨rfl, rfl, rfl, by decide +kernel, rfl, by decide +kernel, by decide +kernel⟩
theorem five {c : Addr} {i d m f : Int} : (penK c i d m f).length ≤ 1000 := by
  show 5 ≤ 1000
  decide
theorem ok_draw {f : Addr} {fd : FuncData} (F : Fun K "_law_draw" "_law_draw" sDraw f fd) (B : Blt mg) : FnOk P w K mg base CX0 1 f fd ["_law_pen_here", "_law_many"] spDraw := by
  refine F.ok scDraw (fun vs H Q E h => ?_) (fun cdv A outer s H vs Q E hr h => ?_)
  · obtain ⟨p, c, n, many, rfl, _⟩ := h
    rfl
  · obtain ⟨p, c, n, many, rfl, ⟨ns, i, d, m, f, e1, e2, b1, b2, b3, b4, b5, b6⟩, hn, m0, m1, k⟩ := h
    have hu := hu_of hr
    refine ⟨_, pss_cons (ps_dput hu (pv 0) pe_str (pe_op op_add (pe_dget hu (pv 0) pe_str (fun _ _ => rfl)) pe_int) rfl)
      (C8.pss_cut (ps_if (PW.pt (pw_and (pt_cmpR op_eq (pe_dget hu (pv 0) pe_str (fun _ _ => rfl)) pe_int (nomark _))
          (pw_and1 (pt_cmpR op_lt (pe_dget hu (pv 0) pe_str (fun _ _ => rfl)) (pe_callB call_len_seq (by rfl) B.len PySem.boot_len (pa_cons (pe_dget hu (pv 0) pe_str (fun _ _ => rfl)) pa_nil)) (nomark _)))))
        (pss_cons (ps_set (i := 2) scDraw.nd rfl (.inl rfl) (pe_ix ix_list (pe_dget hu (pv 0) pe_str (fun _ _ => rfl)) (pe_dget hu (pv 0) pe_str (fun _ _ => rfl)) (fun _ _ => rfl)))
        (pss_cons (ps_dput hu (pv 0) pe_str (pe_op op_add (pe_dget hu (pv 0) pe_str (fun _ _ => rfl)) pe_int) rfl)
        (pss_one (ps_if (pt_cmpR op_ge (pv 2) (pe_op op_pow pe_int pe_int) (nomark _))
          (pss_one (ps_dput hu (pv 0) pe_str (pe_op op_sub (pv 2) (pe_op op_pow pe_int pe_int)) rfl))
          (pss_one (ps_dput hu (pv 0) pe_str (pe_op op_mod (pe_callTy call_int1 (by rfl) B.int boot_int (pa_cons (pe_op op_add (pe_op op_mul (pe_dget hu (pv 0) pe_str (fun _ _ => rfl)) pe_int) (pv 2)) pa_nil)) pe_int) rfl))))))
        pss_nil)
      (pss_cons (ps_if (pt_cmpR op_gt (pe_dget hu (pv 0) pe_str (fun _ _ => rfl)) pe_int (nomark _))
        (pss_cons (ps_set (i := 3) scDraw.nd rfl (.inl rfl) (pe_op op_mod (pe_callTy call_int1 (by rfl) B.int boot_int (pa_cons (pe_dget hu (pv 0) pe_str (fun _ _ => rfl)) pa_nil)) (pv 1)))
        (pss_cons (ps_dput hu (pv 0) pe_str (pe_op op_fdiv (pe_dget hu (pv 0) pe_str (fun _ _ => rfl)) (pv 1)) rfl)
        (pss_one (ps_ret (pv 3))))) pss_nil)
      (pss_cons (ps_set (i := 4) scDraw.nd rfl (.inl rfl) (pe_op op_add (pe_op op_add (pe_dget hu (pv 0) pe_str (fun _ _ => rfl)) (pe_op op_mul (pe_dget hu (pv 0) pe_str (fun _ _ => rfl)) pe_int)) pe_int))
      (pss_one (ps_ret (pe_op op_mod (pe_op op_fdiv (pe_callTy call_int1 (by rfl) B.int boot_int (pa_cons (pe_op op_mod (pe_op op_pow (pv 4) pe_int) pe_int) pa_nil)) pe_int) (pv 1))))))), ?_⟩
    -- count
    refine ⟨_, rfl, p, _, rfl, dg_of e1 pk_count, _, _, rfl, rfl, _, rfl, p, _, rfl, dp_of e1 five put_count, ?_⟩
    have cp : c ≠ p := ne_of e2 e1 (fun z => nomatch z)
    have c1 : upd H p (.dK (penK c i d (m + 1) f)) p = some (.dK (penK c i d (m + 1) f)) := upd_same
    have c2 : upd H p (.dK (penK c i d (m + 1) f)) c = some (.lst (ns.map V.int)) := by
      rw [upd_ne cp]
      exact e2
    have c3 : But p H (upd H p (.dK (penK c i d (m + 1) f))) := But.refl.set
    generalize upd H p (.dK (penK c i d (m + 1) f)) = H1 at c1 c2 c3
    refine ⟨fun σ H' => ∃ (v : Option V) (i' d' f' : Int), σ = [some (.ref p), some (.int many), v, none, none] ∧ H' p = some (.dK (penK c i' d' (m + 1) f')) ∧ H' c = some (.lst (ns.map V.int)) ∧ But p H H' ∧ 0 ≤ i' ∧ 0 ≤ d' ∧ 0 ≤ f' ∧ f' < 2147483587, ?_, ?_⟩
    · refine ⟨_, rfl, p, _, rfl, dg_of c1 pk_digits, rfl, _, rfl, ?_⟩
      by_cases z : V.int d = V.int 0
      · rw [decide_eq_true z]
        refine iteT ⟨_, rfl, p, _, rfl, dg_of c1 pk_at, _, rfl, p, _, rfl, dg_of c1 pk_cells, c, _, rfl, .inl (SqL.of c2), _, _, rfl, rfl, _, rfl, ?_⟩
        refine ite2 (fun lt => ?_) (fun nlt => ⟨none, i, d, f, rfl, c1, c2, c3, b1, b2, b5, b6⟩)
        have lt' := of_decide_eq_true lt
        rw [List.length_map] at lt'
        obtain ⟨j, rfl⟩ := Int.eq_ofNat_of_zero_le b1
        have jl : j < ns.length := by omega
        have it : (ns.map V.int)[j]? = some (.int ns[j]) := by
          rw [List.getElem?_map, List.getElem?_eq_getElem jl]
          rfl
        refine ⟨_, rfl, p, _, rfl, dg_of c1 pk_cells, _, rfl, p, _, rfl, dg_of c1 pk_at, c, _, _, _, rfl, rfl, SqL.of c2, atI_nat it, ?_⟩
        refine ⟨_, rfl, p, _, rfl, dg_of c1 pk_at, _, _, rfl, rfl, _, rfl, p, _, rfl, dp_of c1 five put_at, ?_⟩
        have d1 : upd H1 p (.dK (penK c ((j : Int) + 1) d (m + 1) f)) p = some (.dK (penK c ((j : Int) + 1) d (m + 1) f)) := upd_same
        have d2 : upd H1 p (.dK (penK c ((j : Int) + 1) d (m + 1) f)) c = some (.lst (ns.map V.int)) := by
          rw [upd_ne cp]
          exact c2
        have d3 : But p H (upd H1 p (.dK (penK c ((j : Int) + 1) d (m + 1) f))) := c3.set
        generalize upd H1 p (.dK (penK c ((j : Int) + 1) d (m + 1) f)) = H2 at d1 d2 d3
        refine ⟨_, rfl, _, _, rfl, rfl, ⟨by decide, by decide, by decide⟩, _, _, rfl, rfl, _, rfl, ?_⟩
        refine ite2 (fun ge => ?_) (fun nge => ?_)
        · have ge' := of_decide_eq_true ge
          refine ⟨_, rfl, _, _, rfl, rfl, ⟨by decide, by decide, by decide⟩, _, _, rfl, rfl, _, rfl, p, _, rfl, dp_of d1 five put_digits, ?_⟩
          exact ⟨_, _, _, _, rfl, upd_same, by rw [upd_ne cp]; exact d2, d3.set, by omega, Int.sub_nonneg_of_le ge', b5, b6⟩
        · refine ⟨_, rfl, p, _, rfl, dg_of d1 pk_fold, _, _, rfl, rfl, .inr ⟨by decide, by decide⟩, _, rfl, _, _, rfl, rfl, .inl ⟨_, rfl, _, _, rfl, rfl, (by show (0 : Int) < 2147483587; decide), _, rfl, p, _, rfl, dp_of d1 five put_fold, ?_⟩⟩
          have l1 := Int.emod_nonneg (f * 69069 + ns[j]) (show (2147483587 : Int) ≠ 0 by decide)
          have l2 := Int.emod_lt_of_pos (f * 69069 + ns[j]) (show (0 : Int) < 2147483587 by decide)
          exact ⟨_, _, _, _, rfl, upd_same, by rw [upd_ne cp]; exact d2, d3.set, by omega, b2, l1, l2⟩
      · rw [decide_eq_false z]
        refine iteF (iteF ?_)
        exact ⟨none, i, d, f, rfl, c1, c2, c3, b1, b2, b5, b6⟩
    · rintro σ H' ⟨v, i', d', f', rfl, g1, g2, g3, a1, a2, a3, a4⟩
      refine ⟨_, rfl, p, _, rfl, dg_of g1 pk_digits, _, _, rfl, rfl, _, rfl, ?_⟩
      refine ite2 (fun gt => ?_) (fun ngt => ?_)
      · have gt' := of_decide_eq_true gt
        refine ⟨_, rfl, p, _, rfl, dg_of g1 pk_digits, .inl ⟨_, rfl, _, rfl, _, _, rfl, rfl, m0, ?_⟩⟩
        refine ⟨_, rfl, p, _, rfl, dg_of g1 pk_digits, _, rfl, _, _, rfl, rfl, ⟨m0, m1⟩, _, rfl, p, _, rfl, dp_of g1 five put_digits, _, rfl, ?_⟩
        have l1 := Int.emod_nonneg d' (show many ≠ 0 by omega)
        have l2 := Int.emod_lt_of_pos d' m0
        refine k _ _ l1 l2 ⟨ns, i', d' / many, m + 1, f', upd_same, by rw [upd_ne cp]; exact g2, a1, Int.ediv_nonneg a2 (by omega), by omega, by omega, a3, a4⟩ g3.set
      · refine ⟨_, rfl, p, _, rfl, dg_of g1 pk_fold, _, rfl, p, _, rfl, dg_of g1 pk_count, _, _, rfl, rfl, .inr ⟨by decide, by decide⟩, _, _, rfl, rfl, _, _, rfl, rfl, ?_⟩
        refine ⟨_, rfl, _, _, rfl, rfl, ⟨by decide, by decide, ?_⟩, _, _, rfl, rfl, (by show (0 : Int) < 2305843009213693951; decide), .inl ⟨_, rfl, _, _, rfl, rfl, ⟨by decide, by decide⟩, _, rfl, _, _, rfl, rfl, m0, ?_⟩⟩
        · have : (2 : Nat) ^ 64 = 18446744073709551616 := by decide
          omega
        · generalize (f' + (m + 1) * 7907 + 43) ^ (17 : Int).toNat % 2305843009213693951 / 128 = y
          have l1 := Int.emod_nonneg y (show many ≠ 0 by omega)
          have l2 := Int.emod_lt_of_pos y m0
          exact k _ _ l1 l2 ⟨ns, i', d', m + 1, f', g1, g2, a1, a2, by omega, by omega, a3, a4⟩ g3

theorem scPick : FnScope ["_law_pen_here", "_law_some"] ["_law_pen_here", "_law_some"] (defScope sPick) := ⟨rfl, rfl, rfl, by decide +kernel, rfl, by decide +kernel, by decide +kernel⟩
theorem ok_pick {f fD : Addr} {fd fdD : FuncData} (F : Fun K "_law_pick" "_law_pick" sPick f fd) (B : Blt mg) (FD : Fun K "_law_draw" "_law_draw" sDraw fD fdD) (gD : mg "_law_draw" = some (.ref fD)) (bD : Binds K fdD ["_law_pen_here", "_law_many"] []) :
    FnOk P w K mg base CX0 2 f fd ["_law_pen_here", "_law_some"] spPick := by
  have GD : FnOk P w K mg base CX0 1 fD fdD ["_law_pen_here", "_law_many"] spDraw := ok_draw FD B
  refine F.ok scPick (fun vs H Q E h => ?_) (fun cdv A outer s H vs Q E hr h => ?_)
  · obtain ⟨p, c, l, n, xs, rfl, _⟩ := h
    rfl
  · obtain ⟨p, c, l, n, xs, rfl, pen, hn, el, l0, l1, k⟩ := h
    refine ⟨_, pss_one (ps_ret (pe_ix ix_list (pv 1) (pe_call GD hr rfl gD FD.kp bD .nil pass0 (pa_cons (pv 0) (pa_cons (pe_callB call_len_seq (by rfl) B.len PySem.boot_len (pa_cons (pv 1) pa_nil)) pa_nil))) (fun _ _ => rfl))), ?_⟩
    refine ⟨_, rfl, _, rfl, _, rfl, l, _, rfl, .inl (SqL.of el), p, c, n, _, rfl, pen, hn, by omega, by omega, fun d H' d0 d1 pen' but => ?_⟩
    obtain ⟨j, rfl⟩ := Int.eq_ofNat_of_zero_le d0
    have jl : j < xs.length := by omega
    have lp : l ≠ p := pen.off el (fun _ z => nomatch z)
    exact ⟨l, _, _, _, rfl, rfl, SqL.of (but _ _ el lp), atI_nat (List.getElem?_eq_getElem jl), k j _ H' (List.getElem?_eq_getElem jl) pen' but⟩
theorem scFar : FnScope ["_law_pen_here", "_law_found", "_law_k"] ["_law_pen_here"] (defScope sFar) := ⟨rfl, rfl, rfl, by decide +kernel, rfl, by decide +kernel, by decide +kernel⟩
theorem pow_six : ∀ {i : Nat}, i ≤ 6 → (1000 : Int) ^ i ≤ 1000 ^ 6
  | 0, _ | 1, _ | 2, _ | 3, _ | 4, _ | 5, _ | 6, _ => by decide
  | n + 7, h => by omega
theorem mem_of_at {xs : List V} {j : Nat} {v : V} (h : xs[j]? = some v) : v ∈ xs := List.mem_of_getElem? h
theorem ok_far {f fD fP : Addr} {fd fdD fdP : FuncData} (F : Fun K "_law_far" "_law_far" sFar f fd) (B : Blt mg) (FD : Fun K "_law_draw" "_law_draw" sDraw fD fdD) (gD : mg "_law_draw" = some (.ref fD)) (bD : Binds K fdD ["_law_pen_here", "_law_many"] [])
    (FP : Fun K "_law_pick" "_law_pick" sPick fP fdP) (gP : mg "_law_pick" = some (.ref fP)) (bP : Binds K fdP ["_law_pen_here", "_law_some"] []) :
    FnOk P w K mg base CX0 3 f fd ["_law_pen_here"] spFar := by
  have GD : FnOk P w K mg base CX0 1 fD fdD ["_law_pen_here", "_law_many"] spDraw := ok_draw FD B
  have GP : FnOk P w K mg base CX0 2 fP fdP ["_law_pen_here", "_law_some"] spPick := ok_pick FP B FD gD bD
  refine F.ok scFar (fun vs H Q E h => ?_) (fun cdv A outer s H vs Q E hr h => ?_)
  · obtain ⟨p, c, n, rfl, _⟩ := h
    rfl
  · obtain ⟨p, c, n, rfl, pen, hn, k⟩ := h
    have hr1 : Room 1 _ := hr.mono (by decide)
    refine ⟨_, pss_cons (ps_set (i := 1) scFar.nd rfl (.inl rfl) pe_int)
      (pss_cons (ps_for PassesOwn.never rfl (pi_range1 rfl B.range (pa_cons (pe_call GP hr rfl gP FP.kp bP .nil pass0 (pa_cons (pv 0) (pa_cons (pe_lst (pa_cons pe_int (pa_cons pe_int (pa_cons pe_int (pa_cons pe_int (pa_cons pe_int pa_nil)))))) pa_nil))) pa_nil)) (pg_name (i := 2) scFar.nd rfl (.inl rfl))
        (pss_one (ps_set (i := 1) scFar.nd rfl (.inl rfl) (pe_op op_add (pe_op op_mul (pv 1) pe_int) (pe_call GD hr1 rfl gD FD.kp bD .nil pass0 (pa_cons (pv 0) (pa_cons pe_int pa_nil)))))))
      (pss_one (ps_ret (pe_ifExp (pt_cmpR op_gt (pe_call GD hr1 rfl gD FD.kp bD .nil pass0 (pa_cons (pv 0) (pa_cons pe_int pa_nil))) pe_int (nomark _)) (pv 1) (pe_un un_neg (pv 1)))))), ?_⟩
    refine ⟨_, rfl, ?_⟩
    refine ⟨(by show 5 ≤ sizeLine; decide), fun l hl => ?_⟩
    refine ⟨p, c, l, n, _, rfl, pen.new hl, by omega, upd_same, by decide, by decide, fun j v H1 hj pen1 but1 => ?_⟩
    have six : ∃ m : Nat, v = .int (m : Int) ∧ m ≤ 6 := by
      have mem := mem_of_at hj
      simp only [List.mem_cons, List.not_mem_nil, or_false] at mem
      rcases mem with rfl | rfl | rfl | rfl | rfl
      · exact ⟨0, rfl, by decide⟩
      · exact ⟨1, rfl, by decide⟩
      · exact ⟨1, rfl, by decide⟩
      · exact ⟨2, rfl, by decide⟩
      · exact ⟨6, rfl, by decide⟩
    obtain ⟨m, rfl, hm⟩ := six
    have but0 : But p H H1 := (But.refl.new hl).trans but1
    refine ⟨(m : Int), rfl, by omega, by omega, for_range (lo := 0) (n := (m : Int).toNat) (fun i σ H' => ∃ (z : Int) (v : Option V), σ = [some (.ref p), some (.int z), v] ∧ Pen H' p c (n + 1 + i) ∧ But p H H' ∧ 0 ≤ z ∧ z < 1000 ^ i) ⟨0, none, rfl, pen1, but0, by decide, by decide⟩ ?_ ?_⟩
    · rintro i σ H' hi ⟨z, v, rfl, pen2, but2, z0, z1⟩
      have hi6 : i < 6 := by
        have : i < (m : Int).toNat := hi
        omega
      have zb : z < 1000 ^ 6 := Int.lt_of_lt_of_le z1 (pow_six (by omega))
      refine ⟨_, rfl, _, _, rfl, rfl, .inr ⟨by decide, by decide⟩, _, rfl, p, c, n + 1 + i, 1000, rfl, pen2, by omega, by decide, by decide, fun d H3 d0 d1 pen3 but3 => ?_⟩
      refine ⟨_, _, rfl, rfl, z * 1000 + d, _, rfl, pen3, but2.trans but3, by omega, ?_⟩
      rw [Int.pow_succ]
      omega
    · rintro σ H' ⟨z, v, rfl, pen2, but2, z0, z1⟩
      have zb : z < 1000 ^ 6 := Int.lt_of_lt_of_le z1 (pow_six (by have : (m : Int).toNat = m := rfl; omega))
      have zb' : z < 10 ^ 18 := by
        have : (1000 : Int) ^ 6 = 10 ^ 18 := by decide
        omega
      refine ⟨_, rfl, p, c, _, 3, rfl, pen2, by have : (m : Int).toNat = m := rfl; omega, by decide, by decide, fun d H3 d0 d1 pen3 but3 => ?_⟩
      have pen4 : Pen H3 p c (n + 20) := pen3.more (by have : (m : Int).toNat = m := rfl; omega)
      refine ⟨_, _, rfl, rfl, _, rfl, ?_⟩
      refine ite2 (fun _ => ?_) (fun _ => ?_)
      · exact ⟨_, rfl, k z H3 (by have : (0 : Int) < 10 ^ 18 := by decide
                                  omega) zb' pen4 (but2.trans but3)⟩
      · refine ⟨_, rfl, _, rfl, k (-z) H3 (by omega) (by have : (0 : Int) < 10 ^ 18 := by decide
                                                         omega) pen4 (but2.trans but3)⟩
end
end Kz
set_option linter.all false
set_option maxRecDepth 100000
set_option maxHeartbeats 4000000
namespace Kz
open PySem PySem.Spec PyProof.Rows L2
/-! ### error objects -/
/-- an error object with its fields -/
def EAt (H : Hp) (a C : Addr) (fs : List (Str × V)) : Prop := ∃ d, H a = some (exo a C (some d)) ∧ H d = some (exd d fs)
theorem EAt.same {H H' : Hp} {a C : Addr} {fs : List (Str × V)} (h : EAt H a C fs) (s : Same H H') : EAt H' a C fs := by
  obtain ⟨d, e1, e2⟩ := h
  exact ⟨d, s _ _ e1, s _ _ e2⟩
theorem same_new {H H' : Hp} {a : Addr} {o : HO} (n : H a = none) (b : But a (upd H a o) H') : Same H H' := fun c u e => by
  have ne := ne_of_none e n
  refine b c u ?_ ne
  rw [upd_ne ne]
  exact e
def EAtN (H0 H : Hp) (a C : Addr) (fs : List (Str × V)) : Prop := ∃ d, H0 d = none ∧ H a = some (exo a C (some d)) ∧ H d = some (exd d fs)
def spI1 (K : PySem.W.Frag) (C : Addr) (f : Str) : Sp := fun vs H Q _ => ∃ (a : Addr) (v : V), vs = [.ref a, v] ∧ OexC K C ∧ PySem.W.findIn K (.ref C) f = some none ∧ H a = some (exo a C none) ∧
  ∀ H', EAtN H H' a C [(f, v)] → But a H H' → Q .non H'
def spI2 (K : PySem.W.Frag) (C : Addr) (f g : Str) : Sp := fun vs H Q _ => ∃ (a : Addr) (v u : V), vs = [.ref a, v, u] ∧ OexC K C ∧ PySem.W.findIn K (.ref C) f = some none ∧ PySem.W.findIn K (.ref C) g = some none ∧ H a = some (exo a C none) ∧
  ∀ H', EAtN H H' a C [(g, u), (f, v)] → But a H H' → Q .non H'
def t1 (K : PySem.W.Frag) (f : Str) : TS := tOst K f (tVar 0) (tVar 1)
def t2 (K : PySem.W.Frag) (f g : Str) : TS := tSeq (tOst K f (tVar 0) (tVar 1)) (tOst K g (tVar 0) (tVar 2))
theorem run1 {K : PySem.W.Frag} {C : Addr} {f x : Str} {vs : List V} {H : Hp} {Q : VK} {E : XK} (h : spI1 K C f vs H Q E) : t1 K f { nx := fun _ H' => Q .non H', rt := Q } (start ["self", x] vs) H := by
  obtain ⟨a, v, rfl, T, no, ea, k⟩ := h
  refine ⟨_, rfl, _, rfl, a, C, rfl, T, no, .inl ⟨ea, fun d nd ne => ?_⟩⟩
  refine k _ ⟨d, nd, upd_same, ?_⟩ fun b o e nb => ?_
  · rw [upd_ne ne]
    exact upd_same
  · rw [upd_ne nb, upd_ne (ne_of_none e nd)]
    exact e
theorem run2 {K : PySem.W.Frag} {C : Addr} {f g x y : Str} {vs : List V} {H : Hp} {Q : VK} {E : XK} (h : spI2 K C f g vs H Q E) : t2 K f g { nx := fun _ H' => Q .non H', rt := Q } (start ["self", x, y] vs) H := by
  obtain ⟨a, v, u, rfl, T, no, no2, ea, k⟩ := h
  refine ⟨_, rfl, _, rfl, a, C, rfl, T, no, .inl ⟨ea, fun d nd ne => ?_⟩⟩
  refine ⟨_, rfl, _, rfl, a, C, rfl, T, no2, .inr ⟨d, [(f, v)], upd_same, ?_, (by show 1 ≤ 900; decide), ?_⟩⟩
  · rw [upd_ne ne]
    exact upd_same
  refine k _ ⟨d, nd, ?_, upd_same⟩ fun b o e nb => ?_
  · rw [upd_ne ne.symm]
    exact upd_same
  · have nbd := ne_of_none e nd
    rw [upd_ne nbd, upd_ne nb, upd_ne nbd]
    exact e

/-! ### what the top has written of the classes -/
structure BaseT (K : PySem.W.Frag) (mg : Str → Option Value) (B : Addr) (mc : Value) : Prop where
  g : mg "MeanError" = some (.ref B)
  rd : ClX.CRead K B mc
  fnd : PySem.W.findCls K (.ref B) mc "__init__" = some (.val (.builtin "ValueError.__init__"))
  cls : (PySem.W.clsIn K B).isSome = true
  ty : PySem.W.typeIn K (.ref B) = some (.type "type")
structure ErrT (K : PySem.W.Frag) (mg : Str → Option Value) (x : Str) (B C : Addr) : Prop where
  o : OexC K C
  xf : XfC K C
  ex : ExcC K C
  g : mg x = some (.ref C)
  mro : ∃ cd, PySem.W.clsIn K C = some cd ∧ cd.mro = [.ref C, .ref B, .type "ValueError", .type "Exception", .type "BaseException", .type "object"]
structure InitT (K : PySem.W.Frag) (P : Program) (x : Str) (st : Stmt) (C f : Addr) (fd : FuncData) : Prop where
  i : PySem.W.findIn K (.ref C) "__init__" = some (some (.ref f))
  t : PySem.W.typeIn K (.ref f) = some (.type "function")
  fn : FunS K P x st C f fd
theorem ErrT.kit {K : PySem.W.Frag} {mg : Str → Option Value} {x y : Str} {B C D : Addr} (T : ErrT K mg x B C) (U : ErrT K mg y B D) (nb : D ≠ B) : PySem.W.kitOne K (.ref C) (.ref D) = some (decide (D = C)) := by
  obtain ⟨cd, e1, e2⟩ := T.mro
  obtain ⟨cd', e1', _⟩ := U.mro
  unfold PySem.W.kitOne
  by_cases h : C = D
  · subst h
    simp
  · have n1 : ¬ ((Value.ref C == Value.ref D) = true) := by
      intro z
      exact h (Value.ref.inj (beq_iff_eq.mp z))
    rw [if_neg n1]
    have ok : ((PySem.W.clsIn K D).isSome && PySem.W.typeIn K (.ref D) == some (.type "type")) = true := by
      rw [e1', U.o.tyC]
      rfl
    show (if ((PySem.W.clsIn K D).isSome && PySem.W.typeIn K (.ref D) == some (.type "type")) = true then PySem.W.mroIn K C (.ref D) else none) = _
    rw [if_pos ok]
    unfold PySem.W.mroIn
    rw [e1, Option.bind_some, e2]
    have n2 : ¬ (D = C) := fun z => h z.symm
    simp [n2, nb]
theorem ErrT.kitB {K : PySem.W.Frag} {mg : Str → Option Value} {x : Str} {B C : Addr} {mc : Value} (T : ErrT K mg x B C) (U : BaseT K mg B mc) : PySem.W.kitOne K (.ref C) (.ref B) = some true := by
  obtain ⟨cd, e1, e2⟩ := T.mro
  unfold PySem.W.kitOne
  by_cases h : C = B
  · subst h
    simp
  · have n1 : ¬ ((Value.ref C == Value.ref B) = true) := by
      intro z
      exact h (Value.ref.inj (beq_iff_eq.mp z))
    rw [if_neg n1]
    have ok : ((PySem.W.clsIn K B).isSome && PySem.W.typeIn K (.ref B) == some (.type "type")) = true := by
      rw [U.cls, U.ty]
      rfl
    show (if ((PySem.W.clsIn K B).isSome && PySem.W.typeIn K (.ref B) == some (.type "type")) = true then PySem.W.mroIn K C (.ref B) else none) = _
    rw [if_pos ok]
    unfold PySem.W.mroIn
    rw [e1, Option.bind_some, e2]
    simp
theorem ErrT.kitV {K : PySem.W.Frag} {mg : Str → Option Value} {x : Str} {B C : Addr} (T : ErrT K mg x B C) : PySem.W.kitOne K (.ref C) (.type "ValueError") = some true := by
  obtain ⟨cd, e1, e2⟩ := T.mro
  unfold PySem.W.kitOne
  have n1 : ¬ ((Value.ref C == Value.type "ValueError") = true) := by
    intro z
    cases beq_iff_eq.mp z
  rw [if_neg n1]
  have ok : PySem.W.kitMeta "ValueError" = true := by decide +kernel
  show (if PySem.W.kitMeta "ValueError" = true then PySem.W.mroIn K C (.type "ValueError") else none) = _
  rw [if_pos ok]
  unfold PySem.W.mroIn
  rw [e1, Option.bind_some, e2]
  simp


abbrev sI3 : Stmt := inClass (top 3) 0
abbrev sI4 : Stmt := inClass (top 4) 0
abbrev sI5 : Stmt := inClass (top 5) 0
abbrev sI6 : Stmt := inClass (top 6) 0
section
variable {P : Program} {w : World} {K : PySem.W.Frag} {mg : Str → Option Value} {base : Heap}
theorem scI3 : SupScope ["self", "what", "number"] ["self", "what", "number"] (defScope sI3) := ⟨rfl, rfl, rfl, by decide +kernel, rfl, by decide +kernel, by decide +kernel, by decide +kernel, rfl, rfl⟩
theorem ok_i3 {C f : Addr} {fd : FuncData} (F : FunS K P "BadNumber.__init__" sI3 C f fd) : FnOk P w K mg base CX0 1 f fd ["self", "what", "number"] (spI2 K C "what" "number") := by
  refine fn_sup F scI3 rfl (fun _ => rfl) rfl rfl (fun vs H Q E h => ?_) (fun cda cc A outer s H vs Q E h => ?_)
  · obtain ⟨a, v, u, rfl, _⟩ := h
    rfl
  · have h0 := h
    obtain ⟨a, v, u, rfl, T, no, no2, ea, _⟩ := h
    exact ⟨a, _, _, rfl, T, ea, pss_cons (ps_ost (pv 0) (pv 1)) (pss_one (ps_ost (pv 0) (pv 2))), run2 h0⟩
theorem scI4 : SupScope ["self", "row"] ["self", "row"] (defScope sI4) := ⟨rfl, rfl, rfl, by decide +kernel, rfl, by decide +kernel, by decide +kernel, by decide +kernel, rfl, rfl⟩
theorem ok_i4 {C f : Addr} {fd : FuncData} (F : FunS K P "BadRow.__init__" sI4 C f fd) : FnOk P w K mg base CX0 1 f fd ["self", "row"] (spI1 K C "row") := by
  refine fn_sup F scI4 rfl (fun _ => rfl) rfl rfl (fun vs H Q E h => ?_) (fun cda cc A outer s H vs Q E h => ?_)
  · obtain ⟨a, v, rfl, _⟩ := h
    rfl
  · have h0 := h
    obtain ⟨a, v, rfl, T, no, ea, _⟩ := h
    exact ⟨a, _, _, rfl, T, ea, pss_one (ps_ost (pv 0) (pv 1)), run1 h0⟩
theorem scI5 : SupScope ["self", "low", "high"] ["self", "low", "high"] (defScope sI5) := ⟨rfl, rfl, rfl, by decide +kernel, rfl, by decide +kernel, by decide +kernel, by decide +kernel, rfl, rfl⟩
theorem ok_i5 {C f : Addr} {fd : FuncData} (F : FunS K P "BadInterval.__init__" sI5 C f fd) : FnOk P w K mg base CX0 1 f fd ["self", "low", "high"] (spI2 K C "low" "high") := by
  refine fn_sup F scI5 rfl (fun _ => rfl) rfl rfl (fun vs H Q E h => ?_) (fun cda cc A outer s H vs Q E h => ?_)
  · obtain ⟨a, v, u, rfl, _⟩ := h
    rfl
  · have h0 := h
    obtain ⟨a, v, u, rfl, T, no, no2, ea, _⟩ := h
    exact ⟨a, _, _, rfl, T, ea, pss_cons (ps_ost (pv 0) (pv 1)) (pss_one (ps_ost (pv 0) (pv 2))), run2 h0⟩
theorem scI6 : SupScope ["self", "what"] ["self", "what"] (defScope sI6) := ⟨rfl, rfl, rfl, by decide +kernel, rfl, by decide +kernel, by decide +kernel, by decide +kernel, rfl, rfl⟩
theorem ok_i6 {C f : Addr} {fd : FuncData} (F : FunS K P "Unlike.__init__" sI6 C f fd) : FnOk P w K mg base CX0 1 f fd ["self", "what"] (spI1 K C "what") := by
  refine fn_sup F scI6 rfl (fun _ => rfl) rfl rfl (fun vs H Q E h => ?_) (fun cda cc A outer s H vs Q E h => ?_)
  · obtain ⟨a, v, rfl, _⟩ := h
    rfl
  · have h0 := h
    obtain ⟨a, v, rfl, T, no, ea, _⟩ := h
    exact ⟨a, _, _, rfl, T, ea, pss_one (ps_ost (pv 0) (pv 1)), run1 h0⟩
end
/-! ### raising them -/
theorem raised1 {K : PySem.W.Frag} {C : Addr} {f : Str} {v : V} {H : Hp} {Q : XK} (T : OexC K C) (no : PySem.W.findIn K (.ref C) f = some none)
    (k : ∀ (d : Addr) (H' : Hp), Same H H' → H' d = some (.xd [(f, v)]) → Q (.ref C) (some d) H') :
    [v].length ≤ 1000 ∧ ∀ a, H a = none → spI1 K C f (.ref a :: ([v] ++ [])) (upd H a (exo a C none))
      (fun x H2 => x = .non ∧ ∃ (d : Addr) (fs : List (Str × V)), H2 a = some (exo a C (some d)) ∧ H2 d = some (exd d fs) ∧ H d = none ∧ Q (.ref C) (some d) (upd (del H2 a) d (.xd fs))) fun _ _ _ => False := by
  refine ⟨by show 1 ≤ 1000; decide, fun a n => ⟨a, v, rfl, T, no, upd_same, fun H' e b => ?_⟩⟩
  obtain ⟨d, nd, e1, e2⟩ := e
  have da : d ≠ a := fun z => by
    rw [z, upd_same] at nd
    cases nd
  rw [upd_ne da] at nd
  refine ⟨rfl, d, _, e1, e2, nd, k d _ (fun c u e => ?_) upd_same⟩
  have ca := ne_of_none e n
  have cd := ne_of_none e nd
  rw [upd_ne cd, del_ne ca]
  refine b c u ?_ ca
  rw [upd_ne ca]
  exact e
theorem raised2 {K : PySem.W.Frag} {C : Addr} {f g : Str} {v u : V} {H : Hp} {Q : XK} (T : OexC K C) (no : PySem.W.findIn K (.ref C) f = some none) (no2 : PySem.W.findIn K (.ref C) g = some none)
    (k : ∀ (d : Addr) (H' : Hp), Same H H' → H' d = some (.xd [(g, u), (f, v)]) → Q (.ref C) (some d) H') :
    [v, u].length ≤ 1000 ∧ ∀ a, H a = none → spI2 K C f g (.ref a :: ([v, u] ++ [])) (upd H a (exo a C none))
      (fun x H2 => x = .non ∧ ∃ (d : Addr) (fs : List (Str × V)), H2 a = some (exo a C (some d)) ∧ H2 d = some (exd d fs) ∧ H d = none ∧ Q (.ref C) (some d) (upd (del H2 a) d (.xd fs))) fun _ _ _ => False := by
  refine ⟨by show 2 ≤ 1000; decide, fun a n => ⟨a, v, u, rfl, T, no, no2, upd_same, fun H' e b => ?_⟩⟩
  obtain ⟨d, nd, e1, e2⟩ := e
  have da : d ≠ a := fun z => by
    rw [z, upd_same] at nd
    cases nd
  rw [upd_ne da] at nd
  refine ⟨rfl, d, _, e1, e2, nd, k d _ (fun c u e => ?_) upd_same⟩
  have ca := ne_of_none e n
  have cd := ne_of_none e nd
  rw [upd_ne cd, del_ne ca]
  refine b c u ?_ ca
  rw [upd_ne ca]
  exact e
end Kz
set_option linter.all false
set_option maxRecDepth 100000
set_option maxHeartbeats 4000000
namespace Kz
open PySem PySem.Spec PyProof.Rows L2
/-! ### a def as it stands, and its calls -/
structure Df (K : PySem.W.Frag) (mg : Str → Option Value) (x : Str) (st : Stmt) (ps : List Str) where
  f : Addr
  fd : FuncData
  fn : Fun K x x st f fd
  g : mg x = some (.ref f)
  b : Binds K fd ps []
section
variable {X : Cx} {P : Program} {w : World} {K : PySem.W.Frag} {mg : Str → Option Value} {base : Heap} {k : Nat} {x : Str} {stt : Stmt} {ps : List Str} {sp : Sp} {W : WX} {p pos : Pos} {e : Expr} {es : List Expr} {t : TA}
/-- the context's own is the module's -/
abbrev Of (X : Cx) (P : Program) (w : World) (K : PySem.W.Frag) (mg : Str → Option Value) (base : Heap) : Prop := X.prog = P ∧ X.w = w ∧ X.K = K ∧ X.mg = mg ∧ X.base = base
theorem Df.cS (D : Df K mg x stt ps) (F : FnOk P w K mg base (CX P w) k D.f D.fd ps sp) (hr : Room k X.A) (tk : Takes X W) (ha : PA X (e :: es) t) (of : Of X P w K mg base := by exact ⟨rfl, rfl, rfl, rfl, rfl⟩) (hg : Gl X x := by rfl) (hdb : (x == ("__debug__" : Str)) = false := by decide)
    (st : starEach (e :: es) X.env = (false, eval e X.env) :: starEach es X.env := by rfl) (nost : (backTo pos (starEach es X.env)).any (·.1) = false := by rfl) : PE X (.Call (.Name x p) (e :: es) [] pos) (tCallS sp (WE W) t) := by
  obtain ⟨rfl, rfl, rfl, rfl, rfl⟩ := of
  exact pe_callS F hr hg D.g D.fn.kp D.b (fun σ => passAt tk σ) ha hdb st nost
theorem Df.cX (D : Df K mg x stt ps) (F : FnOk P w K mg base (CX P w) k D.f D.fd ps sp) (hr : Room k X.A) (ha : PA X (e :: es) t) (of : Of X P w K mg base := by exact ⟨rfl, rfl, rfl, rfl, rfl⟩) (hg : Gl X x := by rfl) (hdb : (x == ("__debug__" : Str)) = false := by decide)
    (st : starEach (e :: es) X.env = (false, eval e X.env) :: starEach es X.env := by rfl) (nost : (backTo pos (starEach es X.env)).any (·.1) = false := by rfl) : PE X (.Call (.Name x p) (e :: es) [] pos) (tCall sp [] (fun _ _ _ => False) t) := by
  obtain ⟨rfl, rfl, rfl, rfl, rfl⟩ := of
  exact pe_call F hr hg D.g D.fn.kp D.b .nil passL ha hdb st nost
theorem Df.c0 (D : Df K mg x stt ps) (F : FnOk P w K mg base CX0 k D.f D.fd ps sp) (hr : Room k X.A) (ha : PA X (e :: es) t) (of : Of X P w K mg base := by exact ⟨rfl, rfl, rfl, rfl, rfl⟩) (hg : Gl X x := by rfl) (hdb : (x == ("__debug__" : Str)) = false := by decide)
    (st : starEach (e :: es) X.env = (false, eval e X.env) :: starEach es X.env := by rfl) (nost : (backTo pos (starEach es X.env)).any (·.1) = false := by rfl) : PE X (.Call (.Name x p) (e :: es) [] pos) (tCall sp [] (fun _ _ _ => False) t) := by
  obtain ⟨rfl, rfl, rfl, rfl, rfl⟩ := of
  exact pe_call F hr hg D.g D.fn.kp D.b .nil pass0 ha hdb st nost
/-- // with any divisor but 0, where the two are not both very long -/
def CDivF (i j : Int) : Prop := j ≠ 0 ∧ Builtin.divisionGoesByPylong i j = false
theorem op_fdivF : OpR X (binaryOp .FloorDiv) (rI CDivF fun i j => .int (i.fdiv j)) := opI fun i j _ _ _ _ _ hc q => floordiv_int hc.1 q (.inl hc.2)
end
theorem cdivF {i j : Int} (h : j ≠ 0) (b : j.natAbs < 2 ^ 9000) : CDivF i j := by
  refine ⟨h, PyProof.noPylong_of_log2 ?_⟩
  exact (Nat.log2_lt (by omega)).mpr b

/-! ### what the top has written -/
structure Tx (P : Program) (K : PySem.W.Frag) (mg : Str → Option Value) where
  blt : Blt mg
  mIsi : mg "isinstance" = none
  mBool : mg "bool" = none
  mTuple : mg "tuple" = none
  mMax : mg "max" = none
  mAll : mg "all" = none
  mEnum : mg "enumerate" = none
  mRev : mg "reversed" = none
  mZip : mg "zip" = none
  mAbs : mg "abs" = none
  mStr : mg "str" = none
  mRepr : mg "repr" = none
  mDm : mg "divmod" = none
  mNi : mg "NotImplemented" = none
  mGcd : mg "gcd" = some (.builtin "math.gcd")
  mLcm : mg "lcm" = some (.builtin "math.lcm")
  B : Addr
  mc : Value
  cN : Addr
  cR : Addr
  cI : Addr
  cU : Addr
  base : BaseT K mg B mc
  eN : ErrT K mg "BadNumber" B cN
  nN1 : PySem.W.findIn K (.ref cN) "what" = some none
  nN2 : PySem.W.findIn K (.ref cN) "number" = some none
  fN : Addr
  dN : FuncData
  iN : InitT K P "BadNumber.__init__" sI3 cN fN dN
  bN : Binds K dN ["self", "what", "number"] []
  eR : ErrT K mg "BadRow" B cR
  nR1 : PySem.W.findIn K (.ref cR) "row" = some none
  fR : Addr
  dR : FuncData
  iR : InitT K P "BadRow.__init__" sI4 cR fR dR
  bR : Binds K dR ["self", "row"] []
  eI : ErrT K mg "BadInterval" B cI
  eU : ErrT K mg "Unlike" B cU
  is_whole : Df K mg "is_whole" (top 8) ["value"]
  is_pair : Df K mg "is_pair" (top 9) ["value"]
  is_ratio : Df K mg "is_ratio" (top 10) ["value"]
  lowest : Df K mg "lowest" (top 11) ["top", "bottom"]
  told : Df K mg "told" (top 12) ["value", "what"]
  plus : Df K mg "plus" (top 13) ["one", "other"]
  minus : Df K mg "minus" (top 14) ["one", "other"]
  times : Df K mg "times" (top 15) ["one", "other"]
  share : Df K mg "share" (top 16) ["one", "other"]
  lower : Df K mg "lower" (top 17) ["one", "other"]
  floor_of : Df K mg "floor_of" (top 18) ["value"]
  digits_of : Df K mg "digits_of" (top 19) ["number"]
  ratio_text : Df K mg "ratio_text" (top 20) ["value"]

/-! ### kinds of values -/
def tyNames : List String := ["int", "bool", "str", "NoneType", "tuple", "list", "dict"]
def TyN (K : PySem.W.Frag) (H : Hp) (v : V) (t : String) : Prop := TyX K H v (.type t) ∧ t ∈ tyNames
theorem kb_int : ∀ t ∈ tyNames, kitB t "int" = some (t == "int" || t == "bool") := by decide +kernel
theorem kb_bool : ∀ t ∈ tyNames, kitB t "bool" = some (t == "bool") := by decide +kernel
theorem kb_tuple : ∀ t ∈ tyNames, kitB t "tuple" = some (t == "tuple") := by decide +kernel
theorem kb_list : ∀ t ∈ tyNames, kitB t "list" = some (t == "list") := by decide +kernel
theorem int_not_bool : ∀ t ∈ tyNames, ((t == "int" || t == "bool") && !(t == "bool")) = (t == "int") := by decide +kernel
theorem boot_isi : bootBuiltins "isinstance" = some (.builtin "isinstance") := by decide +kernel
theorem boot_tint : bootBuiltins "int" = some (.type "int") := by decide +kernel
theorem boot_tbool : bootBuiltins "bool" = some (.type "bool") := by decide +kernel
theorem boot_ttuple : bootBuiltins "tuple" = some (.type "tuple") := by decide +kernel
theorem boot_tlist : bootBuiltins "list" = some (.type "list") := by decide +kernel
theorem ty_tup {K : PySem.W.Frag} {H : Hp} {a : Addr} {xs : List V} (h : SqT K H a xs) : TyN K H (.ref a) "tuple" := by
  refine ⟨?_, by decide⟩
  rcases h with (h | ⟨o, h⟩) | ⟨o, its, n, e, c, _⟩
  · exact .base (.tup h)
  · exact .fTuple h
  · exact .kTuple e c
theorem ty_lst {K : PySem.W.Frag} {H : Hp} {a : Addr} {xs : List V} (h : SqL K H a xs) : TyN K H (.ref a) "list" := by
  refine ⟨?_, by decide⟩
  rcases h with (h | ⟨o, h⟩) | ⟨o, its, n, e, c, _⟩
  · exact .base (.lst h)
  · exact .base (.frz h)
  · exact .kList e c
theorem ty_int {K : PySem.W.Frag} {H : Hp} {i : Int} : TyN K H (.int i) "int" := ⟨.base (.int i), by decide⟩
theorem ty_bl {K : PySem.W.Frag} {H : Hp} {i : Bool} : TyN K H (.bl i) "bool" := ⟨.base (.bl i), by decide⟩
theorem ty_str {K : PySem.W.Frag} {H : Hp} {i : Str} : TyN K H (.str i) "str" := ⟨.base (.str i), by decide⟩
theorem ty_non {K : PySem.W.Frag} {H : Hp} : TyN K H .non "NoneType" := ⟨.base .non, by decide⟩
theorem ty_dic {K : PySem.W.Frag} {H : Hp} {a : Addr} {kvs : List (Key × V)} (h : H a = some (.dK kvs)) : TyN K H (.ref a) "dict" := ⟨.base (.dK h), by decide⟩
/-- a tuple or a list -/
def Sq (K : PySem.W.Frag) (H : Hp) (a : Addr) (xs : List V) : Prop := SqL K H a xs ∨ SqT K H a xs
theorem Sq.same {K : PySem.W.Frag} {H H' : Hp} {a : Addr} {xs : List V} (s : Same H H') (h : Sq K H a xs) : Sq K H' a xs := h.elim (fun h => .inl (Same.seq s h)) fun h => .inr (Kz.Same.seqT s h)

section
variable {P : Program} {w : World} {K : PySem.W.Frag} {mg : Str → Option Value} {base : Heap}
def spWhole (K : PySem.W.Frag) : Sp := fun vs H Q _ => ∃ v t, vs = [v] ∧ TyN K H v t ∧ Q (.bl (t == "int")) H
theorem sc8 : FnScope ["value"] ["value"] (defScope (top 8)) := ⟨rfl, rfl, rfl, by decide +kernel, rfl, by decide +kernel, by decide +kernel⟩
theorem ok_whole (T : Tx P K mg) : FnOk P w K mg base CX0 1 T.is_whole.f T.is_whole.fd ["value"] (spWhole K) := by
  refine T.is_whole.fn.ok sc8 (fun vs H Q E h => ?_) (fun cdv A outer s H vs Q E hr h => ?_)
  · obtain ⟨v, t, rfl, _⟩ := h
    rfl
  · obtain ⟨v, t, rfl, ty, q⟩ := h
    refine ⟨_, pss_one (ps_ret (pe_and (pe_callB call_isi (by rfl) T.mIsi boot_isi (pa_cons (pv 0) (pa_cons (pe_bltn (v := .ty "int") (by rfl) T.blt.int boot_tint rfl) pa_nil)))
      (pe_one (pe_not (pe_callB call_isi (by rfl) T.mIsi boot_isi (pa_cons (pv 0) (pa_cons (pe_bltn (v := .ty "bool") (by rfl) T.mBool boot_tbool rfl) pa_nil))))))), ?_⟩
    refine ⟨_, rfl, v, _, _, _, _, rfl, .ty _, ty.1, kit_ty (kb_int t ty.2), _, rfl, ?_⟩
    have e := int_not_bool t ty.2
    cases c : (t == "int" || t == "bool") with
    | true =>
      rw [c, Bool.true_and] at e
      refine iteT ⟨_, rfl, v, _, _, _, _, rfl, .ty _, ty.1, kit_ty (kb_bool t ty.2), _, rfl, ?_⟩
      rw [e]
      exact q
    | false =>
      rw [c, Bool.false_and] at e
      refine iteF ?_
      rw [e]
      exact q
/-- what is_pair says of a value -/
inductive Pr (K : PySem.W.Frag) (H : Hp) : V → Bool → Prop
  | no {v : V} {t : String} : TyN K H v t → (t == "tuple") = false → (t == "list") = false → Pr K H v false
  | len {a : Addr} {xs : List V} : Sq K H a xs → xs.length ≠ 2 → Pr K H (.ref a) false
  | fst {a : Addr} {x y : V} {t : String} : Sq K H a [x, y] → TyN K H x t → (t == "int") = false → Pr K H (.ref a) false
  | snd {a : Addr} {x : Int} {y : V} {t : String} : Sq K H a [.int x, y] → TyN K H y t → (t == "int") = false → Pr K H (.ref a) false
  | two {a : Addr} {x y : Int} : Sq K H a [.int x, .int y] → Pr K H (.ref a) (decide (y > 0))
def spPair (K : PySem.W.Frag) : Sp := fun vs H Q _ => ∃ v b, vs = [v] ∧ Pr K H v b ∧ ∀ H', Same H H' → Q (.bl b) H'
theorem sc9 : FnScope ["value"] ["value"] (defScope (top 9)) := ⟨rfl, rfl, rfl, by decide +kernel, rfl, by decide +kernel, by decide +kernel⟩
theorem kit_tl {K : PySem.W.Frag} {t : String} (m : t ∈ tyNames) : PySem.W.kitAny K (.type t) [.type "tuple", .type "list"] = some (t == "tuple" || t == "list") := by
  refine kitAny_cons (b := (t == "tuple")) (kit_ty (kb_tuple t m)) (fun h => ?_) (fun h => by rw [h]; rfl)
  refine kitAny_cons (b := (t == "list")) (kit_ty (kb_list t m)) (fun h' => ?_) (fun h' => by rw [h']; simp)
  rw [h, h']
  rfl
theorem clsTL : Paired ClsV [.ty "tuple", .ty "list"] [.type "tuple", .type "list"] := .cons (.ty _) (.cons (.ty _) .nil)
end
end Kz
set_option linter.all false
set_option maxRecDepth 100000
set_option maxHeartbeats 4000000
namespace Kz
open PySem PySem.Spec PyProof.Rows L2
theorem TyX.same {K : PySem.W.Frag} {H H' : Hp} {v : V} {t : Value} (s : Same H H') (h : TyX K H v t) : TyX K H' v t := by
  cases h with
  | base b =>
    cases b with
    | non => exact .base .non
    | bl x => exact .base (.bl x)
    | int i => exact .base (.int i)
    | str x => exact .base (.str x)
    | flt x => exact .base (.flt x)
    | lst e => exact .base (.lst (s _ _ e))
    | frz e => exact .base (.frz (s _ _ e))
    | tup e => exact .base (.tup (s _ _ e))
    | dK e => exact .base (.dK (s _ _ e))
    | dT e => exact .base (.dT (s _ _ e))
    | ins e a b c d f => exact .base (.ins (s _ _ e) a b c d f)
  | byt b => exact .byt b
  | set e => exact .set (s _ _ e)
  | kList e c => exact .kList e c
  | kTuple e c => exact .kTuple e c
  | kDict e c => exact .kDict e c
  | fTuple e => exact .fTuple (s _ _ e)
  | fDict e => exact .fDict (s _ _ e)
theorem TyN.same {K : PySem.W.Frag} {H H' : Hp} {v : V} {t : String} (s : Same H H') (h : TyN K H v t) : TyN K H' v t := ⟨TyX.same s h.1, h.2⟩
theorem Pr.same {K : PySem.W.Frag} {H H' : Hp} {v : V} {b : Bool} (s : Same H H') (h : Pr K H v b) : Pr K H' v b := by
  cases h with
  | no a b c => exact .no (a.same s) b c
  | len a b => exact .len (a.same s) b
  | fst a b c => exact .fst (a.same s) (b.same s) c
  | snd a b c => exact .snd (a.same s) (b.same s) c
  | two a => exact .two (a.same s)
theorem Sq.ix {K : PySem.W.Frag} {H : Hp} {a : Addr} {xs : List V} {j : Int} {v : V} {Q : VK} (h : Sq K H a xs) (e : atI xs j = some v) (q : Q v H) : rIx K (.ref a) (.int j) H Q :=
  h.elim (fun h => .inl ⟨a, xs, j, v, rfl, rfl, h, e, q⟩) fun h => .inr (.inl ⟨a, xs, j, v, rfl, rfl, h, e, q⟩)
section
variable {P : Program} {w : World} {K : PySem.W.Frag} {mg : Str → Option Value} {base : Heap}
theorem Sq.ty {H : Hp} {a : Addr} {xs : List V} (h : Sq K H a xs) : ∃ t, TyN K H (.ref a) t ∧ (t == "tuple" || t == "list") = true ∧ (t == "int") = false :=
  h.elim (fun h => ⟨_, ty_lst h, by decide, by decide⟩) fun h => ⟨_, ty_tup h, by decide, by decide⟩
theorem ok_pair (T : Tx P K mg) : FnOk P w K mg base CX0 2 T.is_pair.f T.is_pair.fd ["value"] (spPair K) := by
  have G : FnOk P w K mg base CX0 1 T.is_whole.f T.is_whole.fd ["value"] (spWhole K) := ok_whole T
  refine T.is_pair.fn.ok sc9 (fun vs H Q E h => ?_) (fun cdv A outer s H vs Q E hr h => ?_)
  · obtain ⟨v, t, rfl, _⟩ := h
    rfl
  · obtain ⟨v, b, rfl, pr, q⟩ := h
    refine ⟨_, pss_cons (ps_if (PW.pt (pw_or (pt_not (pt_val (pe_callB call_isiT (by rfl) T.mIsi boot_isi (pa_cons (pv 0) (pa_cons (pe_tup (pa_cons (pe_bltn (v := .ty "tuple") (by rfl) T.mTuple boot_ttuple rfl) (pa_cons (pe_bltn (v := .ty "list") (by rfl) T.blt.list boot_tlist rfl) pa_nil))) pa_nil)))))
        (pw_or1 (pt_cmpR op_ne (pe_callB call_len_seq (by rfl) T.blt.len PySem.boot_len (pa_cons (pv 0) pa_nil)) pe_int (nomark _))))) (pss_one (ps_ret pe_bl)) pss_nil)
      (pss_one (ps_ret (pe_and (T.is_whole.c0 G hr (pa_cons (pe_ix ix_seq (pv 0) pe_int (fun _ _ => rfl)) pa_nil)) (pe_and (T.is_whole.c0 G hr (pa_cons (pe_ix ix_seq (pv 0) pe_int (fun _ _ => rfl)) pa_nil))
        (pe_one (pe_cmpR op_gt (pe_ix ix_seq (pv 0) pe_int (fun _ _ => rfl)) pe_int (nomark _))))))), ?_⟩
    refine ⟨v, rfl, ?_⟩
    refine ⟨(by show 2 ≤ sizeLine; decide), fun p hp => ?_⟩
    have s1 : Same H (upd H p (.tup [.ty "tuple", .ty "list"])) := fun c u e => by
      rw [upd_ne (ne_of_none e hp)]
      exact e
    have hp1 : upd H p (.tup [.ty "tuple", .ty "list"]) p = some (.tup [.ty "tuple", .ty "list"]) := upd_same
    have pr1 := pr.same s1
    generalize upd H p (.tup [.ty "tuple", .ty "list"]) = H1 at s1 hp1 pr1
    have atoms : ∀ t : String, TyN K H1 v t → PySem.W.kitAny K (.type t) [.type "tuple", .type "list"] = some (t == "tuple" || t == "list") := fun t ty => kit_tl ty.2
    cases pr1 with
    | @no _ t ty n1 n2 =>
      refine ⟨v, p, _, _, _, _, rfl, hp1, clsTL, ty.1, atoms t ty, _, rfl, ?_⟩
      rw [n1, n2]
      exact iteT (iteT (q _ s1))
    | @len a xs hs l =>
      obtain ⟨t, ty, e1, e2⟩ := hs.ty
      refine ⟨_, p, _, _, _, _, rfl, hp1, clsTL, ty.1, atoms t ty, _, rfl, ?_⟩
      rw [e1]
      refine iteF ⟨_, rfl, a, xs, rfl, hs, rfl, _, rfl, ?_⟩
      have : ¬ ((V.int (xs.length : Int)) = V.int 2) := fun z => l (by have := V.int.inj z; omega)
      rw [decide_eq_false this]
      exact iteT (q _ s1)
    | @fst a x y t' hs ty' n1 =>
      obtain ⟨t, ty, e1, e2⟩ := hs.ty
      refine ⟨_, p, _, _, _, _, rfl, hp1, clsTL, ty.1, atoms t ty, _, rfl, ?_⟩
      rw [e1]
      refine iteF ⟨_, rfl, a, _, rfl, hs, rfl, _, rfl, ?_⟩
      refine iteF ⟨_, rfl, hs.ix rfl ⟨x, _, rfl, ty', ?_⟩⟩
      rw [n1]
      exact ⟨_, rfl, iteF (q _ s1)⟩
    | @snd a x y t' hs ty' n1 =>
      obtain ⟨t, ty, e1, e2⟩ := hs.ty
      refine ⟨_, p, _, _, _, _, rfl, hp1, clsTL, ty.1, atoms t ty, _, rfl, ?_⟩
      rw [e1]
      refine iteF ⟨_, rfl, a, _, rfl, hs, rfl, _, rfl, ?_⟩
      refine iteF ⟨_, rfl, hs.ix rfl ⟨_, _, rfl, ty_int, ?_⟩⟩
      refine ⟨_, rfl, iteT ⟨_, rfl, hs.ix rfl ⟨y, _, rfl, ty', ?_⟩⟩⟩
      rw [n1]
      exact ⟨_, rfl, iteF (q _ s1)⟩
    | @two a x y hs =>
      obtain ⟨t, ty, e1, e2⟩ := hs.ty
      refine ⟨_, p, _, _, _, _, rfl, hp1, clsTL, ty.1, atoms t ty, _, rfl, ?_⟩
      rw [e1]
      refine iteF ⟨_, rfl, a, _, rfl, hs, rfl, _, rfl, ?_⟩
      refine iteF ⟨_, rfl, hs.ix rfl ⟨_, _, rfl, ty_int, ?_⟩⟩
      refine ⟨_, rfl, iteT ⟨_, rfl, hs.ix rfl ⟨_, _, rfl, ty_int, ?_⟩⟩⟩
      refine ⟨_, rfl, iteT ⟨_, rfl, hs.ix rfl ⟨_, _, rfl, rfl, ?_⟩⟩⟩
      exact q _ s1
end
end Kz
set_option linter.all false
set_option maxRecDepth 100000
set_option maxHeartbeats 4000000
namespace Kz
open PySem PySem.Spec PyProof.Rows L2
theorem Same.new {H : Hp} {p : Addr} {o : HO} (n : H p = none) : Same H (upd H p o) := fun b u e => by
  rw [upd_ne (ne_of_none e n)]
  exact e
/-! ### ratios -/
theorem low_num {a b : Int} (h : 0 < b) : a.fdiv ((Nat.gcd a.natAbs b.natAbs : Nat) : Int) = (Rat.divInt a b).num := by
  rw [Rat.num_divInt, Int.sign_eq_one_of_pos h, Int.one_mul, Int.fdiv_eq_ediv_of_nonneg _ (Int.natCast_nonneg _)]
  show a / ((Nat.gcd a.natAbs b.natAbs : Nat) : Int) = a / ((Nat.gcd b.natAbs a.natAbs : Nat) : Int)
  rw [Nat.gcd_comm]
theorem low_den {a b : Int} (h : 0 < b) : b.fdiv ((Nat.gcd a.natAbs b.natAbs : Nat) : Int) = ((Rat.divInt a b).den : Int) := by
  rw [Rat.den_divInt, if_neg (by omega), Int.fdiv_eq_ediv_of_nonneg _ (Int.natCast_nonneg _)]
  show b / ((Nat.gcd a.natAbs b.natAbs : Nat) : Int) = ((b.natAbs / Nat.gcd b.natAbs a.natAbs : Nat) : Int)
  rw [Nat.gcd_comm b.natAbs, Int.natCast_ediv]
  congr 1
  omega
/-- a told ratio -/
def RV (K : PySem.W.Frag) (H : Hp) (v : V) (q : Rat) : Prop := ∃ t, v = .ref t ∧ SqT K H t [.int q.num, .int (q.den : Int)]
theorem RV.same {K : PySem.W.Frag} {H H' : Hp} {v : V} {q : Rat} (s : Same H H') (h : RV K H v q) : RV K H' v q := by
  obtain ⟨t, e, h⟩ := h
  exact ⟨t, e, Kz.Same.seqT s h⟩
/-- how long a ratio's two integers are -/
def Sz (n m : Nat) (q : Rat) : Prop := q.num.natAbs < 2 ^ n ∧ q.den < 2 ^ m
theorem natAbs_fdiv_le {a : Int} {g : Nat} : (a.fdiv (g : Int)).natAbs ≤ a.natAbs := by
  rw [Int.fdiv_eq_ediv_of_nonneg _ (Int.natCast_nonneg _)]
  exact Int.natAbs_ediv_le_natAbs _ _
theorem sz_divInt {a b : Int} {n m : Nat} (h : 0 < b) (ha : a.natAbs < 2 ^ n) (hb : b.natAbs < 2 ^ m) : Sz n m (Rat.divInt a b) := by
  constructor
  · rw [← low_num h]
    exact Nat.lt_of_le_of_lt natAbs_fdiv_le ha
  · have := low_den (a := a) h
    have le : (b.fdiv ((Nat.gcd a.natAbs b.natAbs : Nat) : Int)).natAbs ≤ b.natAbs := natAbs_fdiv_le
    rw [this] at le
    have le' : (Rat.divInt a b).den ≤ b.natAbs := by simpa using le
    omega
/-- what stands for a ratio, as a caller may pass it -/
inductive Arg (K : PySem.W.Frag) (H : Hp) : V → Int → Int → Prop
  | int {a : Int} : Arg K H (.int a) a 1
  | two {p : Addr} {a b : Int} : Sq K H p [.int a, .int b] → 0 < b → Arg K H (.ref p) a b
theorem Arg.pos {K : PySem.W.Frag} {H : Hp} {v : V} {a b : Int} (h : Arg K H v a b) : 0 < b := by
  cases h with
  | int => decide
  | two _ h => exact h
theorem Arg.same {K : PySem.W.Frag} {H H' : Hp} {v : V} {a b : Int} (s : Same H H') (h : Arg K H v a b) : Arg K H' v a b := by
  cases h with
  | int => exact .int
  | two h z => exact .two (h.same s) z
def ArgQ (K : PySem.W.Frag) (H : Hp) (v : V) (n m : Nat) (q : Rat) : Prop := ∃ a b, Arg K H v a b ∧ q = Rat.divInt a b ∧ a.natAbs < 2 ^ n ∧ b.natAbs < 2 ^ m
theorem ArgQ.same {K : PySem.W.Frag} {H H' : Hp} {v : V} {n m : Nat} {q : Rat} (s : Same H H') (h : ArgQ K H v n m q) : ArgQ K H' v n m q := by
  obtain ⟨a, b, h, r⟩ := h
  exact ⟨a, b, h.same s, r⟩
theorem ArgQ.sz {K : PySem.W.Frag} {H : Hp} {v : V} {n m : Nat} {q : Rat} (h : ArgQ K H v n m q) : Sz n m q := by
  obtain ⟨a, b, h, rfl, ha, hb⟩ := h
  exact sz_divInt h.pos ha hb
theorem RV.arg {K : PySem.W.Frag} {H : Hp} {v : V} {n m : Nat} {q : Rat} (h : RV K H v q) (s : Sz n m q) : ArgQ K H v n m q := by
  obtain ⟨t, rfl, h⟩ := h
  refine ⟨_, _, .two (.inr h) (Int.natCast_pos.mpr q.den_pos), ?_, s.1, by simpa using s.2⟩
  rw [Rat.divInt_ofNat, Rat.mkRat_self]
theorem arg_int {K : PySem.W.Frag} {H : Hp} {i : Int} {n m : Nat} (h : i.natAbs < 2 ^ n) (hm : 0 < m) : ArgQ K H (.int i) n m (i : Rat) := by
  refine ⟨_, _, .int, ?_, h, ?_⟩
  · have e := Rat.num_divInt_den (i : Rat)
    rw [Rat.num_intCast, Rat.den_intCast] at e
    exact e.symm
  · show (1 : Nat) < 2 ^ m
    exact Nat.one_lt_two_pow (by omega)
/-- what is no ratio -/
def Odd (K : PySem.W.Frag) (H : Hp) (v : V) : Prop := ∃ t, TyN K H v t ∧ (t == "int") = false ∧ Pr K H v false
theorem Odd.same {K : PySem.W.Frag} {H H' : Hp} {v : V} (s : Same H H') (h : Odd K H v) : Odd K H' v := by
  obtain ⟨t, a, b, c⟩ := h
  exact ⟨t, a.same s, b, c.same s⟩
/-- the way out with a BadNumber -/
def ErN (cN : Addr) (H : Hp) (E : XK) (what : Str) (v : V) : Prop := ∀ (d : Addr) (H' : Hp), Same H H' → H' d = some (.xd [("number", v), ("what", .str what)]) → E (.ref cN) (some d) H'
theorem ErN.after {cN : Addr} {H H1 : Hp} {E : XK} {what : Str} {v : V} (s : Same H H1) (h : ErN cN H E what v) : ErN cN H1 E what v := fun d H' s' => h d H' (s.trans s')
section
variable {P : Program} {w : World} {K : PySem.W.Frag} {mg : Str → Option Value} {base : Heap}
def spRatio (K : PySem.W.Frag) : Sp := fun vs H Q _ => ∃ v t b, vs = [v] ∧ TyN K H v t ∧ ((t == "int") = false → Pr K H v b) ∧ ∀ H', Same H H' → Q (.bl (if (t == "int") = true then true else b)) H'
theorem sc10 : FnScope ["value"] ["value"] (defScope (top 10)) := ⟨rfl, rfl, rfl, by decide +kernel, rfl, by decide +kernel, by decide +kernel⟩
theorem ok_ratio (T : Tx P K mg) : FnOk P w K mg base CX0 3 T.is_ratio.f T.is_ratio.fd ["value"] (spRatio K) := by
  have G : FnOk P w K mg base CX0 1 T.is_whole.f T.is_whole.fd ["value"] (spWhole K) := ok_whole T
  have G2 : FnOk P w K mg base CX0 2 T.is_pair.f T.is_pair.fd ["value"] (spPair K) := ok_pair T
  refine T.is_ratio.fn.ok sc10 (fun vs H Q E h => ?_) (fun cdv A outer s H vs Q E hr h => ?_)
  · obtain ⟨v, t, b, rfl, _⟩ := h
    rfl
  · obtain ⟨v, t, b, rfl, ty, pr, q⟩ := h
    refine ⟨_, pss_one (ps_ret (pe_or (T.is_whole.c0 G (hr.mono (by decide)) (pa_cons (pv 0) pa_nil)) (pe_one (T.is_pair.c0 G2 hr (pa_cons (pv 0) pa_nil))))), ?_⟩
    refine ⟨_, rfl, v, _, rfl, ty, _, rfl, ?_⟩
    cases e : (t == "int") with
    | true =>
      rw [e] at q
      exact iteT (q H (Same.refl _))
    | false =>
      rw [e] at q
      exact iteF ⟨_, rfl, v, b, rfl, pr e, fun H' s => q H' s⟩
def spLow (K : PySem.W.Frag) : Sp := fun vs H Q _ => ∃ a b : Int, vs = [.int a, .int b] ∧ 0 < b ∧ b.natAbs < 2 ^ 9000 ∧ ∀ v H', Same H H' → RV K H' v (Rat.divInt a b) → Q v H'
theorem sc11 : FnScope ["top", "bottom", "most"] ["top", "bottom"] (defScope (top 11)) := ⟨rfl, rfl, rfl, by decide +kernel, rfl, by decide +kernel, by decide +kernel⟩
theorem gcd_le' {a b : Int} (h : 0 < b) : Nat.gcd a.natAbs b.natAbs ≤ b.natAbs := Nat.gcd_le_right _ (by omega)
theorem gcd_ne {a b : Int} (h : 0 < b) : ((Nat.gcd a.natAbs b.natAbs : Nat) : Int) ≠ 0 := by
  have : 0 < Nat.gcd a.natAbs b.natAbs := Nat.gcd_pos_of_pos_right _ (by omega)
  omega
theorem ok_low (T : Tx P K mg) : FnOk P w K mg base CX0 1 T.lowest.f T.lowest.fd ["top", "bottom"] (spLow K) := by
  refine T.lowest.fn.ok sc11 (fun vs H Q E h => ?_) (fun cdv A outer s H vs Q E hr h => ?_)
  · obtain ⟨a, b, rfl, _⟩ := h
    rfl
  · obtain ⟨a, b, rfl, b0, b1, q⟩ := h
    refine ⟨_, pss_cons (ps_set (i := 2) sc11.nd rfl (.inl rfl) (pe_callBfun cr_gcd (by rfl) T.mGcd (pa_cons (pv 0) (pa_cons (pv 1) pa_nil))))
      (pss_one (ps_ret (pe_tup (pa_cons (pe_op op_fdivF (pv 0) (pv 2)) (pa_cons (pe_op op_fdivF (pv 1) (pv 2)) pa_nil))))), ?_⟩
    have hg : CDivF a ((Nat.gcd a.natAbs b.natAbs : Nat) : Int) ∧ CDivF b ((Nat.gcd a.natAbs b.natAbs : Nat) : Int) := by
      have n := gcd_ne (a := a) b0
      have l := gcd_le' (a := a) b0
      have l' : (((Nat.gcd a.natAbs b.natAbs : Nat) : Int)).natAbs < 2 ^ 9000 := Nat.lt_of_le_of_lt (by simpa using l) b1
      exact ⟨cdivF n l', cdivF n l'⟩
    refine ⟨_, rfl, _, rfl, a, b, rfl, ?_⟩
    refine ⟨_, rfl, _, rfl, _, _, rfl, rfl, hg.1, _, rfl, _, rfl, _, _, rfl, rfl, hg.2, (by show 2 ≤ sizeLine; decide), fun p hp => ?_⟩
    refine q _ _ (Same.new hp) ⟨p, rfl, ?_⟩
    rw [← low_num b0, ← low_den b0]
    exact SqT.of upd_same
def spTold (K : PySem.W.Frag) (cN : Addr) : Sp := fun vs H Q E => ∃ v what, vs = [v, .str what] ∧
  ((∃ q n m, ArgQ K H v n m q ∧ m ≤ 9000 ∧ ∀ v' H', Same H H' → RV K H' v' q → Q v' H') ∨ (Odd K H v ∧ ErN cN H E what v))
theorem sc12 : FnScope ["value", "what"] ["value", "what"] (defScope (top 12)) := ⟨rfl, rfl, rfl, by decide +kernel, rfl, by decide +kernel, by decide +kernel⟩
theorem pow_le9 {m : Nat} (h : m ≤ 9000) : 2 ^ m ≤ 2 ^ 9000 := Nat.pow_le_pow_right (by decide) h
theorem ok_told (T : Tx P K mg) : FnOk P w K mg base (CX P w) 4 T.told.f T.told.fd ["value", "what"] (spTold K T.cN) := by
  have G1 : FnOk P w K mg base CX0 1 T.is_whole.f T.is_whole.fd ["value"] (spWhole K) := ok_whole T
  have G2 : FnOk P w K mg base CX0 3 T.is_ratio.f T.is_ratio.fd ["value"] (spRatio K) := ok_ratio T
  have G3 : FnOk P w K mg base CX0 1 T.lowest.f T.lowest.fd ["top", "bottom"] (spLow K) := ok_low T
  refine T.told.fn.okX sc12 (fun vs H Q E h => ?_) (fun cdv A outer s H vs Q E hr h => ?_)
  · obtain ⟨v, what, rfl, _⟩ := h
    rfl
  · obtain ⟨v, what, rfl, h⟩ := h
    have hr1 : Room 1 _ := hr.mono (by decide)
    refine ⟨_, pss_cons (ps_if (pt_not (pt_val (T.is_ratio.c0 G2 hr (pa_cons (pv 0) pa_nil))))
        (pss_one (ps_raise rfl (takes_of rfl rfl rfl rfl) (pmk_oex (CX := CX0) T.eN.o T.iN.i T.iN.t (ok_i3 T.iN.fn) (hr.mono (by decide)) T.bN .nil pass0 rfl T.eN.g (pa_cons (pv 1) (pa_cons (pv 0) pa_nil))))) pss_nil)
      (pss_cons (ps_if (pt_val (T.is_whole.c0 G1 hr1 (pa_cons (pv 0) pa_nil)))
        (pss_one (ps_ret (T.lowest.c0 G3 hr1 (pa_cons (pv 0) (pa_cons pe_int pa_nil))))) pss_nil)
      (pss_one (ps_ret (T.lowest.c0 G3 hr1 (pa_cons (pe_ix ix_seq (pv 0) pe_int (fun _ _ => rfl)) (pa_cons (pe_ix ix_seq (pv 0) pe_int (fun _ _ => rfl)) pa_nil)))))), ?_⟩
    rcases h with ⟨q, n, m, ⟨a, b, arg, rfl, ha, hb⟩, hm, k⟩ | ⟨⟨t, ty, nt, pr⟩, er⟩
    · have hb9 : b.natAbs < 2 ^ 9000 := Nat.lt_of_lt_of_le hb (pow_le9 hm)
      cases arg with
      | int =>
        refine ⟨_, rfl, _, "int", true, rfl, ty_int, (fun z => by cases z), fun H1 s1 => ⟨_, rfl, ?_⟩⟩
        refine iteF ⟨_, rfl, _, "int", rfl, ty_int, _, rfl, ?_⟩
        exact iteT ⟨_, rfl, _, _, rfl, by decide, hb9, fun v' H' s' rv => k v' H' (s1.trans s') rv⟩
      | @two p a b hs b0 =>
        obtain ⟨t, ty, e1, e2⟩ := hs.ty
        refine ⟨_, rfl, _, t, _, rfl, ty, (fun _ => .two hs), fun H1 s1 => ?_⟩
        rw [e2, decide_eq_true b0]
        refine ⟨_, rfl, iteF ⟨_, rfl, _, t, rfl, ty.same s1, ?_⟩⟩
        rw [e2]
        refine ⟨_, rfl, iteF ⟨_, rfl, (hs.same s1).ix rfl ⟨_, rfl, (hs.same s1).ix rfl ⟨_, _, rfl, b0, hb9, fun v' H' s' rv => k v' H' (s1.trans s') rv⟩⟩⟩⟩
    · refine ⟨_, rfl, v, t, false, rfl, ty, (fun _ => pr), fun H1 s1 => ?_⟩
      rw [nt]
      refine ⟨_, rfl, iteT ⟨_, rfl, _, rfl, ?_⟩⟩
      exact raised2 T.eN.o T.nN1 T.nN2 fun d H' s' e => er d H' (s1.trans s') e
end
end Kz
set_option linter.all false
set_option maxRecDepth 100000
set_option maxHeartbeats 4000000
namespace Kz
open PySem PySem.Spec PyProof.Rows L2
theorem rat_add (p r : Rat) : Rat.divInt (p.num * (r.den : Int) + r.num * (p.den : Int)) ((p.den : Int) * (r.den : Int)) = p + r := by
  rw [Rat.add_def', ← Int.natCast_mul, Rat.divInt_ofNat]
theorem rat_sub (p r : Rat) : Rat.divInt (p.num * (r.den : Int) - r.num * (p.den : Int)) ((p.den : Int) * (r.den : Int)) = p - r := by
  rw [Rat.sub_def', ← Int.natCast_mul, Rat.divInt_ofNat]
theorem rat_mul (p r : Rat) : Rat.divInt (p.num * r.num) ((p.den : Int) * (r.den : Int)) = p * r := by
  rw [Rat.mul_def', ← Int.natCast_mul, Rat.divInt_ofNat]
theorem rat_div (p r : Rat) : Rat.divInt (p.num * (r.den : Int)) ((p.den : Int) * r.num) = p / r := by
  rw [Rat.div_def, Rat.inv_def, ← Rat.divInt_mul_divInt, Rat.num_divInt_den]
theorem rat_div' (p r : Rat) : Rat.divInt (-p.num * (r.den : Int)) ((p.den : Int) * -r.num) = p / r := by
  rw [← rat_div, ← Rat.neg_divInt_neg (p.num * (r.den : Int)), Int.neg_mul, Int.mul_neg]
theorem lt_of_num {n m : Nat} {q : Rat} (s : Sz n m q) : q.num.natAbs < 2 ^ n := s.1
theorem den_abs {m n : Nat} {q : Rat} (s : Sz n m q) : ((q.den : Int)).natAbs < 2 ^ m := by simpa using s.2
theorem den_pos' (q : Rat) : (0 : Int) < (q.den : Int) := Int.natCast_pos.mpr q.den_pos
theorem pow_up {a b : Nat} (h : a ≤ b) : 2 ^ a ≤ 2 ^ b := Nat.pow_le_pow_right (by decide) h
theorem up_lt {i : Int} {a b : Nat} (h : i.natAbs < 2 ^ a) (l : a ≤ b) : i.natAbs < 2 ^ b := Nat.lt_of_lt_of_le h (pow_up l)
/-- * of two integers below powers of two -/
theorem cmulW {i j : Int} {a b : Nat} (ha : i.natAbs < 2 ^ a) (hb : j.natAbs < 2 ^ b) (h : a + b ≤ 900000) : CMulW i j := by
  have x : i.natAbs < 2 ^ (a + 1) := Nat.lt_of_lt_of_le ha (pow_up (by omega))
  have y : j.natAbs < 2 ^ (b + 1) := Nat.lt_of_lt_of_le hb (pow_up (by omega))
  exact wide_mul x y (by omega) (by omega) (by omega)
section
variable {P : Program} {w : World} {K : PySem.W.Frag} {mg : Str → Option Value} {base : Heap}
/-- two ratios, the first wrong one refused -/
def spTwo (K : PySem.W.Frag) (cN : Addr) (C : Nat → Nat → Nat → Nat → Rat → Rat → Prop) (R : Hp → V → Rat → Rat → Prop) : Sp := fun vs H Q E => ∃ v u, vs = [v, u] ∧
  ((∃ q r n m n' m', ArgQ K H v n m q ∧ ArgQ K H u n' m' r ∧ m ≤ 9000 ∧ m' ≤ 9000 ∧ C n m n' m' q r ∧ ∀ v' H', Same H H' → R H' v' q r → Q v' H') ∨ (Odd K H v ∧ ErN cN H E "ratio" v) ∨
    ((∃ q n m, ArgQ K H v n m q ∧ m ≤ 9000) ∧ Odd K H u ∧ ErN cN H E "ratio" u))
def cBin (n m n' m' : Nat) (_ _ : Rat) : Prop := n + n' + m + m' ≤ 800000 ∧ m + m' ≤ 9000

theorem sc13 : FnScope ["one", "other", "top", "bottom", "above", "below"] ["one", "other"] (defScope (top 13)) := ⟨rfl, rfl, rfl, by decide +kernel, rfl, by decide +kernel, by decide +kernel⟩
theorem ok_plus (T : Tx P K mg) : FnOk P w K mg base (CX P w) 5 T.plus.f T.plus.fd ["one", "other"] (spTwo K T.cN cBin (fun H v q r => RV K H v (q + r))) := by
  have G : FnOk P w K mg base (CX P w) 4 T.told.f T.told.fd ["value", "what"] (spTold K T.cN) := ok_told T
  have G3 : FnOk P w K mg base CX0 1 T.lowest.f T.lowest.fd ["top", "bottom"] (spLow K) := ok_low T
  refine T.plus.fn.okX sc13 (fun vs H Q E h => ?_) (fun cdv A outer s H vs Q E hr h => ?_)
  · obtain ⟨v, u, rfl, _⟩ := h
    rfl
  · obtain ⟨v, u, rfl, h⟩ := h
    have hr1 : Room 1 _ := hr.mono (by decide)
    have tk := takes_of (X := cxOf (CX P w) P w K mg base ["one", "other", "top", "bottom", "above", "below"] "plus" (defScope (top 13)) T.plus.f cdv A outer s H E) (E := E) rfl rfl rfl rfl
    refine ⟨_, pss_cons (ps_asg (T.told.cS G hr tk (pa_cons (pv 0) (pa_cons pe_str pa_nil))) (pg_tup (by rfl) (pgs_cons (pg_name (i := 2) sc13.nd rfl (.inl rfl)) (pgs_cons (pg_name (i := 3) sc13.nd rfl (.inl rfl)) pgs_nil))))
      (pss_cons (ps_asg (T.told.cS G hr tk (pa_cons (pv 1) (pa_cons pe_str pa_nil))) (pg_tup (by rfl) (pgs_cons (pg_name (i := 4) sc13.nd rfl (.inl rfl)) (pgs_cons (pg_name (i := 5) sc13.nd rfl (.inl rfl)) pgs_nil))))
      (pss_one (ps_ret (T.lowest.c0 G3 hr1 (pa_cons (pe_op op_add (pe_op op_mulW (pv 2) (pv 5)) (pe_op op_mulW (pv 4) (pv 3))) (pa_cons (pe_op op_mulW (pv 3) (pv 5)) pa_nil)))))), ?_⟩
    rcases h with ⟨q, r, n, m, n', m', aq, ar, hm, hm', hC, k⟩ | ⟨od, er⟩ | ⟨⟨q, n, m, aq, hm⟩, od, er⟩
    · refine ⟨_, rfl, _, _, rfl, .inl ⟨q, n, m, aq, hm, fun v1 H1 s1 rv => ?_⟩⟩
      obtain ⟨t1, rfl, h1⟩ := rv
      refine ⟨t1, _, rfl, h1, rfl, _, _, rfl, _, _, rfl, rfl, ?_⟩
      refine ⟨_, rfl, _, _, rfl, .inl ⟨r, n', m', ar.same s1, hm', fun v2 H2 s2 rv2 => ?_⟩⟩
      obtain ⟨t2, rfl, h2⟩ := rv2
      refine ⟨t2, _, rfl, h2, rfl, _, _, rfl, _, _, rfl, rfl, ?_⟩
      have zq := aq.sz
      have zr := ar.sz
      have s12 := s1.trans s2
      refine ⟨_, rfl, _, rfl, _, _, rfl, rfl, cmulW zq.1 (den_abs zr) (by have := hC.1; omega), _, rfl, _, rfl, _, _, rfl, rfl, cmulW zr.1 (den_abs zq) (by have := hC.1; omega), _, _, rfl, rfl, ?_⟩
      refine ⟨_, rfl, _, rfl, _, _, rfl, rfl, cmulW (den_abs zq) (den_abs zr) (by have := hC.1; omega), _, _, rfl, (Int.mul_pos (den_pos' q) (den_pos' r)), (up_lt (wide_lt (den_abs zq) (den_abs zr)) hC.2), fun v' H' s' rv => ?_⟩
      rw [rat_add] at rv
      exact k v' H' (s12.trans s') rv
    · exact ⟨_, rfl, _, _, rfl, .inr ⟨od, er⟩⟩
    · refine ⟨_, rfl, _, _, rfl, .inl ⟨q, n, m, aq, hm, fun v1 H1 s1 rv => ?_⟩⟩
      obtain ⟨t1, rfl, h1⟩ := rv
      refine ⟨t1, _, rfl, h1, rfl, _, _, rfl, _, _, rfl, rfl, ?_⟩
      exact ⟨_, rfl, _, _, rfl, .inr ⟨od.same s1, er.after s1⟩⟩
theorem sc14 : FnScope ["one", "other", "top", "bottom", "above", "below"] ["one", "other"] (defScope (top 14)) := ⟨rfl, rfl, rfl, by decide +kernel, rfl, by decide +kernel, by decide +kernel⟩
theorem ok_minus (T : Tx P K mg) : FnOk P w K mg base (CX P w) 5 T.minus.f T.minus.fd ["one", "other"] (spTwo K T.cN cBin (fun H v q r => RV K H v (q - r))) := by
  have G : FnOk P w K mg base (CX P w) 4 T.told.f T.told.fd ["value", "what"] (spTold K T.cN) := ok_told T
  have G3 : FnOk P w K mg base CX0 1 T.lowest.f T.lowest.fd ["top", "bottom"] (spLow K) := ok_low T
  refine T.minus.fn.okX sc14 (fun vs H Q E h => ?_) (fun cdv A outer s H vs Q E hr h => ?_)
  · obtain ⟨v, u, rfl, _⟩ := h
    rfl
  · obtain ⟨v, u, rfl, h⟩ := h
    have hr1 : Room 1 _ := hr.mono (by decide)
    have tk := takes_of (X := cxOf (CX P w) P w K mg base ["one", "other", "top", "bottom", "above", "below"] "minus" (defScope (top 14)) T.minus.f cdv A outer s H E) (E := E) rfl rfl rfl rfl
    refine ⟨_, pss_cons (ps_asg (T.told.cS G hr tk (pa_cons (pv 0) (pa_cons pe_str pa_nil))) (pg_tup (by rfl) (pgs_cons (pg_name (i := 2) sc14.nd rfl (.inl rfl)) (pgs_cons (pg_name (i := 3) sc14.nd rfl (.inl rfl)) pgs_nil))))
      (pss_cons (ps_asg (T.told.cS G hr tk (pa_cons (pv 1) (pa_cons pe_str pa_nil))) (pg_tup (by rfl) (pgs_cons (pg_name (i := 4) sc14.nd rfl (.inl rfl)) (pgs_cons (pg_name (i := 5) sc14.nd rfl (.inl rfl)) pgs_nil))))
      (pss_one (ps_ret (T.lowest.c0 G3 hr1 (pa_cons (pe_op op_sub (pe_op op_mulW (pv 2) (pv 5)) (pe_op op_mulW (pv 4) (pv 3))) (pa_cons (pe_op op_mulW (pv 3) (pv 5)) pa_nil)))))), ?_⟩
    rcases h with ⟨q, r, n, m, n', m', aq, ar, hm, hm', hC, k⟩ | ⟨od, er⟩ | ⟨⟨q, n, m, aq, hm⟩, od, er⟩
    · refine ⟨_, rfl, _, _, rfl, .inl ⟨q, n, m, aq, hm, fun v1 H1 s1 rv => ?_⟩⟩
      obtain ⟨t1, rfl, h1⟩ := rv
      refine ⟨t1, _, rfl, h1, rfl, _, _, rfl, _, _, rfl, rfl, ?_⟩
      refine ⟨_, rfl, _, _, rfl, .inl ⟨r, n', m', ar.same s1, hm', fun v2 H2 s2 rv2 => ?_⟩⟩
      obtain ⟨t2, rfl, h2⟩ := rv2
      refine ⟨t2, _, rfl, h2, rfl, _, _, rfl, _, _, rfl, rfl, ?_⟩
      have zq := aq.sz
      have zr := ar.sz
      have s12 := s1.trans s2
      refine ⟨_, rfl, _, rfl, _, _, rfl, rfl, cmulW zq.1 (den_abs zr) (by have := hC.1; omega), _, rfl, _, rfl, _, _, rfl, rfl, cmulW zr.1 (den_abs zq) (by have := hC.1; omega), _, _, rfl, rfl, ?_⟩
      refine ⟨_, rfl, _, rfl, _, _, rfl, rfl, cmulW (den_abs zq) (den_abs zr) (by have := hC.1; omega), _, _, rfl, (Int.mul_pos (den_pos' q) (den_pos' r)), (up_lt (wide_lt (den_abs zq) (den_abs zr)) hC.2), fun v' H' s' rv => ?_⟩
      rw [rat_sub] at rv
      exact k v' H' (s12.trans s') rv
    · exact ⟨_, rfl, _, _, rfl, .inr ⟨od, er⟩⟩
    · refine ⟨_, rfl, _, _, rfl, .inl ⟨q, n, m, aq, hm, fun v1 H1 s1 rv => ?_⟩⟩
      obtain ⟨t1, rfl, h1⟩ := rv
      refine ⟨t1, _, rfl, h1, rfl, _, _, rfl, _, _, rfl, rfl, ?_⟩
      exact ⟨_, rfl, _, _, rfl, .inr ⟨od.same s1, er.after s1⟩⟩
theorem sc15 : FnScope ["one", "other", "top", "bottom", "above", "below"] ["one", "other"] (defScope (top 15)) := ⟨rfl, rfl, rfl, by decide +kernel, rfl, by decide +kernel, by decide +kernel⟩
theorem ok_times (T : Tx P K mg) : FnOk P w K mg base (CX P w) 5 T.times.f T.times.fd ["one", "other"] (spTwo K T.cN cBin (fun H v q r => RV K H v (q * r))) := by
  have G : FnOk P w K mg base (CX P w) 4 T.told.f T.told.fd ["value", "what"] (spTold K T.cN) := ok_told T
  have G3 : FnOk P w K mg base CX0 1 T.lowest.f T.lowest.fd ["top", "bottom"] (spLow K) := ok_low T
  refine T.times.fn.okX sc15 (fun vs H Q E h => ?_) (fun cdv A outer s H vs Q E hr h => ?_)
  · obtain ⟨v, u, rfl, _⟩ := h
    rfl
  · obtain ⟨v, u, rfl, h⟩ := h
    have hr1 : Room 1 _ := hr.mono (by decide)
    have tk := takes_of (X := cxOf (CX P w) P w K mg base ["one", "other", "top", "bottom", "above", "below"] "times" (defScope (top 15)) T.times.f cdv A outer s H E) (E := E) rfl rfl rfl rfl
    refine ⟨_, pss_cons (ps_asg (T.told.cS G hr tk (pa_cons (pv 0) (pa_cons pe_str pa_nil))) (pg_tup (by rfl) (pgs_cons (pg_name (i := 2) sc15.nd rfl (.inl rfl)) (pgs_cons (pg_name (i := 3) sc15.nd rfl (.inl rfl)) pgs_nil))))
      (pss_cons (ps_asg (T.told.cS G hr tk (pa_cons (pv 1) (pa_cons pe_str pa_nil))) (pg_tup (by rfl) (pgs_cons (pg_name (i := 4) sc15.nd rfl (.inl rfl)) (pgs_cons (pg_name (i := 5) sc15.nd rfl (.inl rfl)) pgs_nil))))
      (pss_one (ps_ret (T.lowest.c0 G3 hr1 (pa_cons (pe_op op_mulW (pv 2) (pv 4)) (pa_cons (pe_op op_mulW (pv 3) (pv 5)) pa_nil)))))), ?_⟩
    rcases h with ⟨q, r, n, m, n', m', aq, ar, hm, hm', hC, k⟩ | ⟨od, er⟩ | ⟨⟨q, n, m, aq, hm⟩, od, er⟩
    · refine ⟨_, rfl, _, _, rfl, .inl ⟨q, n, m, aq, hm, fun v1 H1 s1 rv => ?_⟩⟩
      obtain ⟨t1, rfl, h1⟩ := rv
      refine ⟨t1, _, rfl, h1, rfl, _, _, rfl, _, _, rfl, rfl, ?_⟩
      refine ⟨_, rfl, _, _, rfl, .inl ⟨r, n', m', ar.same s1, hm', fun v2 H2 s2 rv2 => ?_⟩⟩
      obtain ⟨t2, rfl, h2⟩ := rv2
      refine ⟨t2, _, rfl, h2, rfl, _, _, rfl, _, _, rfl, rfl, ?_⟩
      have zq := aq.sz
      have zr := ar.sz
      have s12 := s1.trans s2
      refine ⟨_, rfl, _, rfl, _, _, rfl, rfl, cmulW zq.1 zr.1 (by have := hC.1; omega), ?_⟩
      refine ⟨_, rfl, _, rfl, _, _, rfl, rfl, cmulW (den_abs zq) (den_abs zr) (by have := hC.1; omega), _, _, rfl, (Int.mul_pos (den_pos' q) (den_pos' r)), (up_lt (wide_lt (den_abs zq) (den_abs zr)) hC.2), fun v' H' s' rv => ?_⟩
      rw [rat_mul] at rv
      exact k v' H' (s12.trans s') rv
    · exact ⟨_, rfl, _, _, rfl, .inr ⟨od, er⟩⟩
    · refine ⟨_, rfl, _, _, rfl, .inl ⟨q, n, m, aq, hm, fun v1 H1 s1 rv => ?_⟩⟩
      obtain ⟨t1, rfl, h1⟩ := rv
      refine ⟨t1, _, rfl, h1, rfl, _, _, rfl, _, _, rfl, rfl, ?_⟩
      exact ⟨_, rfl, _, _, rfl, .inr ⟨od.same s1, er.after s1⟩⟩
end
end Kz
set_option linter.all false
set_option maxRecDepth 100000
set_option maxHeartbeats 4000000
namespace Kz
open PySem PySem.Spec PyProof.Rows L2
section
variable {P : Program} {w : World} {K : PySem.W.Frag} {mg : Str → Option Value} {base : Heap}
theorem num_ne {r : Rat} (h : r ≠ 0) : r.num ≠ 0 := fun z => h (Rat.num_eq_zero.mp z)
theorem sc17 : FnScope ["one", "other", "top", "bottom", "above", "below"] ["one", "other"] (defScope (top 17)) := ⟨rfl, rfl, rfl, by decide +kernel, rfl, by decide +kernel, by decide +kernel⟩
theorem ok_lower (T : Tx P K mg) : FnOk P w K mg base (CX P w) 5 T.lower.f T.lower.fd ["one", "other"] (spTwo K T.cN cBin (fun _ v q r => v = .bl (decide (q < r)))) := by
  have G : FnOk P w K mg base (CX P w) 4 T.told.f T.told.fd ["value", "what"] (spTold K T.cN) := ok_told T
  refine T.lower.fn.okX sc17 (fun vs H Q E h => ?_) (fun cdv A outer s H vs Q E hr h => ?_)
  · obtain ⟨v, u, rfl, _⟩ := h
    rfl
  · obtain ⟨v, u, rfl, h⟩ := h
    have tk := takes_of (X := cxOf (CX P w) P w K mg base ["one", "other", "top", "bottom", "above", "below"] "lower" (defScope (top 17)) T.lower.f cdv A outer s H E) (E := E) rfl rfl rfl rfl
    refine ⟨_, pss_cons (ps_asg (T.told.cS G hr tk (pa_cons (pv 0) (pa_cons pe_str pa_nil))) (pg_tup (by rfl) (pgs_cons (pg_name (i := 2) sc17.nd rfl (.inl rfl)) (pgs_cons (pg_name (i := 3) sc17.nd rfl (.inl rfl)) pgs_nil))))
      (pss_cons (ps_asg (T.told.cS G hr tk (pa_cons (pv 1) (pa_cons pe_str pa_nil))) (pg_tup (by rfl) (pgs_cons (pg_name (i := 4) sc17.nd rfl (.inl rfl)) (pgs_cons (pg_name (i := 5) sc17.nd rfl (.inl rfl)) pgs_nil))))
      (pss_one (ps_ret (pe_cmpR op_lt (pe_op op_mulW (pv 2) (pv 5)) (pe_op op_mulW (pv 4) (pv 3)) (nomark _))))), ?_⟩
    rcases h with ⟨q, r, n, m, n', m', aq, ar, hm, hm', hC, k⟩ | ⟨od, er⟩ | ⟨⟨q, n, m, aq, hm⟩, od, er⟩
    · refine ⟨_, rfl, _, _, rfl, .inl ⟨q, n, m, aq, hm, fun v1 H1 s1 rv => ?_⟩⟩
      obtain ⟨t1, rfl, h1⟩ := rv
      refine ⟨t1, _, rfl, h1, rfl, _, _, rfl, _, _, rfl, rfl, ?_⟩
      refine ⟨_, rfl, _, _, rfl, .inl ⟨r, n', m', ar.same s1, hm', fun v2 H2 s2 rv2 => ?_⟩⟩
      obtain ⟨t2, rfl, h2⟩ := rv2
      refine ⟨t2, _, rfl, h2, rfl, _, _, rfl, _, _, rfl, rfl, ?_⟩
      have zq := aq.sz
      have zr := ar.sz
      refine ⟨_, rfl, _, rfl, _, _, rfl, rfl, cmulW zq.1 (den_abs zr) (by have := hC.1; omega), _, rfl, _, rfl, _, _, rfl, rfl, cmulW zr.1 (den_abs zq) (by have := hC.1; omega), _, _, rfl, rfl, ?_⟩
      refine k _ _ (s1.trans s2) ?_
      show V.bl _ = V.bl _
      congr 1
      exact decide_eq_decide.mpr (Rat.lt_iff q r).symm
    · exact ⟨_, rfl, _, _, rfl, .inr ⟨od, er⟩⟩
    · refine ⟨_, rfl, _, _, rfl, .inl ⟨q, n, m, aq, hm, fun v1 H1 s1 rv => ?_⟩⟩
      obtain ⟨t1, rfl, h1⟩ := rv
      refine ⟨t1, _, rfl, h1, rfl, _, _, rfl, _, _, rfl, rfl, ?_⟩
      exact ⟨_, rfl, _, _, rfl, .inr ⟨od.same s1, er.after s1⟩⟩
/-- one ratio -/
def spOne (K : PySem.W.Frag) (cN : Addr) (R : Hp → V → Rat → Prop) : Sp := fun vs H Q E => ∃ v, vs = [v] ∧
  ((∃ q n m, ArgQ K H v n m q ∧ m ≤ 9000 ∧ ∀ v' H', Same H H' → R H' v' q → Q v' H') ∨ (Odd K H v ∧ ErN cN H E "ratio" v))
theorem sc18 : FnScope ["value", "top", "bottom"] ["value"] (defScope (top 18)) := ⟨rfl, rfl, rfl, by decide +kernel, rfl, by decide +kernel, by decide +kernel⟩
theorem ok_floor (T : Tx P K mg) : FnOk P w K mg base (CX P w) 5 T.floor_of.f T.floor_of.fd ["value"] (spOne K T.cN (fun _ v q => v = .int q.floor)) := by
  have G : FnOk P w K mg base (CX P w) 4 T.told.f T.told.fd ["value", "what"] (spTold K T.cN) := ok_told T
  refine T.floor_of.fn.okX sc18 (fun vs H Q E h => ?_) (fun cdv A outer s H vs Q E hr h => ?_)
  · obtain ⟨v, rfl, _⟩ := h
    rfl
  · obtain ⟨v, rfl, h⟩ := h
    have tk := takes_of (X := cxOf (CX P w) P w K mg base ["value", "top", "bottom"] "floor_of" (defScope (top 18)) T.floor_of.f cdv A outer s H E) (E := E) rfl rfl rfl rfl
    refine ⟨_, pss_cons (ps_asg (T.told.cS G hr tk (pa_cons (pv 0) (pa_cons pe_str pa_nil))) (pg_tup (by rfl) (pgs_cons (pg_name (i := 1) sc18.nd rfl (.inl rfl)) (pgs_cons (pg_name (i := 2) sc18.nd rfl (.inl rfl)) pgs_nil))))
      (pss_one (ps_ret (pe_op op_fdivF (pv 1) (pv 2)))), ?_⟩
    rcases h with ⟨q, n, m, aq, hm, k⟩ | ⟨od, er⟩
    · refine ⟨_, rfl, _, _, rfl, .inl ⟨q, n, m, aq, hm, fun v1 H1 s1 rv => ?_⟩⟩
      obtain ⟨t1, rfl, h1⟩ := rv
      refine ⟨t1, _, rfl, h1, rfl, _, _, rfl, _, _, rfl, rfl, ?_⟩
      have zq := aq.sz
      refine ⟨_, rfl, _, rfl, _, _, rfl, rfl, cdivF (Int.ne_of_gt (den_pos' q)) (up_lt (den_abs zq) hm), ?_⟩
      refine k _ _ s1 ?_
      show V.int (q.num.fdiv (q.den : Int)) = V.int q.floor
      rw [Rat.floor_def, Int.fdiv_eq_ediv_of_nonneg _ (Int.natCast_nonneg _)]
    · exact ⟨_, rfl, _, _, rfl, .inr ⟨od, er⟩⟩
def spShare (K : PySem.W.Frag) (cN : Addr) : Sp := fun vs H Q E => ∃ v u, vs = [v, u] ∧
  ((∃ q r n m n' m', ArgQ K H v n m q ∧ ArgQ K H u n' m' r ∧ m ≤ 9000 ∧ m' ≤ 9000 ∧ n + n' + m + m' ≤ 800000 ∧ m + n' ≤ 9000 ∧ r ≠ 0 ∧ ∀ v' H', Same H H' → RV K H' v' (q / r) → Q v' H') ∨ (Odd K H v ∧ ErN cN H E "ratio" v) ∨
    ((∃ q n m, ArgQ K H v n m q ∧ m ≤ 9000) ∧ Odd K H u ∧ ErN cN H E "ratio" u) ∨ ((∃ q n m, ArgQ K H v n m q ∧ m ≤ 9000) ∧ (∃ n m, ArgQ K H u n m 0 ∧ m ≤ 9000) ∧ ErN cN H E "divisor" u))
theorem sc16 : FnScope ["one", "other", "top", "bottom", "above", "below"] ["one", "other"] (defScope (top 16)) := ⟨rfl, rfl, rfl, by decide +kernel, rfl, by decide +kernel, by decide +kernel⟩
theorem ok_share (T : Tx P K mg) : FnOk P w K mg base (CX P w) 5 T.share.f T.share.fd ["one", "other"] (spShare K T.cN) := by
  have G : FnOk P w K mg base (CX P w) 4 T.told.f T.told.fd ["value", "what"] (spTold K T.cN) := ok_told T
  have G3 : FnOk P w K mg base CX0 1 T.lowest.f T.lowest.fd ["top", "bottom"] (spLow K) := ok_low T
  refine T.share.fn.okX sc16 (fun vs H Q E h => ?_) (fun cdv A outer s H vs Q E hr h => ?_)
  · obtain ⟨v, u, rfl, _⟩ := h
    rfl
  · obtain ⟨v, u, rfl, h⟩ := h
    have hr1 : Room 1 _ := hr.mono (by decide)
    have tk := takes_of (X := cxOf (CX P w) P w K mg base ["one", "other", "top", "bottom", "above", "below"] "share" (defScope (top 16)) T.share.f cdv A outer s H E) (E := E) rfl rfl rfl rfl
    refine ⟨_, pss_cons (ps_asg (T.told.cS G hr tk (pa_cons (pv 0) (pa_cons pe_str pa_nil))) (pg_tup (by rfl) (pgs_cons (pg_name (i := 2) sc16.nd rfl (.inl rfl)) (pgs_cons (pg_name (i := 3) sc16.nd rfl (.inl rfl)) pgs_nil))))
      (pss_cons (ps_asg (T.told.cS G hr tk (pa_cons (pv 1) (pa_cons pe_str pa_nil))) (pg_tup (by rfl) (pgs_cons (pg_name (i := 4) sc16.nd rfl (.inl rfl)) (pgs_cons (pg_name (i := 5) sc16.nd rfl (.inl rfl)) pgs_nil))))
      (pss_cons (ps_if (pt_cmpR op_eq (pv 4) pe_int (nomark _)) (pss_one (ps_raise rfl tk (pmk_oex (CX := CX0) T.eN.o T.iN.i T.iN.t (ok_i3 T.iN.fn) (hr.mono (by decide)) T.bN .nil pass0 rfl T.eN.g (pa_cons pe_str (pa_cons (pv 1) pa_nil))))) pss_nil)
      (pss_cons (ps_if (pt_cmpR op_lt (pv 4) pe_int (nomark _)) (pss_one (ps_ret (T.lowest.c0 G3 hr1 (pa_cons (pe_op op_mulW (pe_un un_neg (pv 2)) (pv 5)) (pa_cons (pe_op op_mulW (pv 3) (pe_un un_neg (pv 4))) pa_nil))))) pss_nil)
      (pss_one (ps_ret (T.lowest.c0 G3 hr1 (pa_cons (pe_op op_mulW (pv 2) (pv 5)) (pa_cons (pe_op op_mulW (pv 3) (pv 4)) pa_nil)))))))), ?_⟩
    rcases h with ⟨q, r, n, m, n', m', aq, ar, hm, hm', hC, hC2, r0, k⟩ | ⟨od, er⟩ | ⟨⟨q, n, m, aq, hm⟩, od, er⟩ | ⟨⟨q, n, m, aq, hm⟩, ⟨n', m', ar, hm'⟩, er⟩
    · refine ⟨_, rfl, _, _, rfl, .inl ⟨q, n, m, aq, hm, fun v1 H1 s1 rv => ?_⟩⟩
      obtain ⟨t1, rfl, h1⟩ := rv
      refine ⟨t1, _, rfl, h1, rfl, _, _, rfl, _, _, rfl, rfl, ?_⟩
      refine ⟨_, rfl, _, _, rfl, .inl ⟨r, n', m', ar.same s1, hm', fun v2 H2 s2 rv2 => ?_⟩⟩
      obtain ⟨t2, rfl, h2⟩ := rv2
      refine ⟨t2, _, rfl, h2, rfl, _, _, rfl, _, _, rfl, rfl, ?_⟩
      have zq := aq.sz
      have zr := ar.sz
      have n0 := num_ne r0
      refine ⟨_, rfl, rfl, _, rfl, ?_⟩
      rw [decide_eq_false (fun z => n0 (V.int.inj z))]
      refine iteF ⟨_, rfl, _, _, rfl, rfl, _, rfl, ?_⟩
      refine ite2 (fun lt => ?_) (fun ge => ?_)
      · have lt' := of_decide_eq_true lt
        have nq : (-q.num).natAbs < 2 ^ n := by rw [Int.natAbs_neg]; exact zq.1
        have nr : (-r.num).natAbs < 2 ^ n' := by rw [Int.natAbs_neg]; exact zr.1
        refine ⟨_, rfl, _, rfl, _, rfl, _, _, rfl, rfl, cmulW nq (den_abs zr) (by omega), ?_⟩
        refine ⟨_, rfl, _, rfl, _, rfl, _, _, rfl, rfl, cmulW (den_abs zq) nr (by omega), _, _, rfl, Int.mul_pos (den_pos' q) (by omega), up_lt (wide_lt (den_abs zq) nr) hC2, fun v' H' s' rv => ?_⟩
        rw [rat_div'] at rv
        exact k v' H' ((s1.trans s2).trans s') rv
      · have ge' : ¬ (r.num < 0) := fun z => ge (decide_eq_true z)
        refine ⟨_, rfl, _, rfl, _, _, rfl, rfl, cmulW zq.1 (den_abs zr) (by omega), ?_⟩
        refine ⟨_, rfl, _, rfl, _, _, rfl, rfl, cmulW (den_abs zq) zr.1 (by omega), _, _, rfl, Int.mul_pos (den_pos' q) (by omega), up_lt (wide_lt (den_abs zq) zr.1) hC2, fun v' H' s' rv => ?_⟩
        rw [rat_div] at rv
        exact k v' H' ((s1.trans s2).trans s') rv
    · exact ⟨_, rfl, _, _, rfl, .inr ⟨od, er⟩⟩
    · refine ⟨_, rfl, _, _, rfl, .inl ⟨q, n, m, aq, hm, fun v1 H1 s1 rv => ?_⟩⟩
      obtain ⟨t1, rfl, h1⟩ := rv
      refine ⟨t1, _, rfl, h1, rfl, _, _, rfl, _, _, rfl, rfl, ?_⟩
      exact ⟨_, rfl, _, _, rfl, .inr ⟨od.same s1, er.after s1⟩⟩
    · refine ⟨_, rfl, _, _, rfl, .inl ⟨q, n, m, aq, hm, fun v1 H1 s1 rv => ?_⟩⟩
      obtain ⟨t1, rfl, h1⟩ := rv
      refine ⟨t1, _, rfl, h1, rfl, _, _, rfl, _, _, rfl, rfl, ?_⟩
      refine ⟨_, rfl, _, _, rfl, .inl ⟨0, n', m', ar.same s1, hm', fun v2 H2 s2 rv2 => ?_⟩⟩
      obtain ⟨t2, rfl, h2⟩ := rv2
      refine ⟨t2, _, rfl, h2, rfl, _, _, rfl, _, _, rfl, rfl, ?_⟩
      refine ⟨_, rfl, rfl, _, rfl, ?_⟩
      refine iteT ⟨_, rfl, ?_⟩
      exact raised2 T.eN.o T.nN1 T.nN2 fun d H' s' e => er d H' ((s1.trans s2).trans s') e
end
end Kz
set_option linter.all false
set_option maxRecDepth 100000
set_option maxHeartbeats 4000000
namespace Kz
open PySem PySem.Spec PyProof.Rows L2
/-- .. and of the law's own ratios -/
structure Ty (P : Program) (K : PySem.W.Frag) (mg : Str → Option Value) extends Tx P K mg where
  l_gcd : Df K mg "_law_gcd" (top 40) ["_law_one", "_law_two"]
  l_q : Df K mg "_law_q" (top 41) ["_law_top", "_law_bottom"]
  l_plus : Df K mg "_law_plus" (top 42) ["_law_one", "_law_two"]
  l_minus : Df K mg "_law_minus" (top 43) ["_law_one", "_law_two"]
  l_times : Df K mg "_law_times" (top 44) ["_law_one", "_law_two"]
  l_share : Df K mg "_law_share" (top 45) ["_law_one", "_law_two"]
  l_less : Df K mg "_law_less" (top 46) ["_law_one", "_law_two"]
theorem gcd_step {x y k : Nat} (h : y ≤ x) (y0 : 0 < y) (p : x * y < 2 ^ k) : 0 < k ∧ y * (x % y) < 2 ^ (k - 1) := by
  have x0 : 0 < x * y := Nat.mul_pos (by omega) y0
  have k0 : 0 < k := by
    rcases Nat.eq_zero_or_pos k with z | z
    · rw [z] at p
      omega
    · exact z
  refine ⟨k0, ?_⟩
  have e : 2 ^ k = 2 * 2 ^ (k - 1) := by
    rw [← Nat.pow_succ']
    congr 1
    omega
  have m : 2 * (x % y) ≤ x := by
    have := Nat.mod_add_div x y
    have l := Nat.mod_lt x y0
    have d : 1 ≤ x / y := Nat.div_pos h y0
    have : y * 1 ≤ y * (x / y) := Nat.mul_le_mul_left _ d
    omega
  have : y * (2 * (x % y)) ≤ y * x := Nat.mul_le_mul_left _ m
  rw [Nat.mul_left_comm, Nat.mul_comm y x] at this
  omega
section
variable {P : Program} {w : World} {K : PySem.W.Frag} {mg : Str → Option Value} {base : Heap}
theorem boot_abs : bootBuiltins "abs" = some (.builtin "abs") := by decide +kernel
def spGcd : Sp := fun vs H Q _ => ∃ (a b : Int) (n : Nat), vs = [.int a, .int b] ∧ b.natAbs < 2 ^ n ∧ n ≤ 9000 ∧ Q (.int ((Nat.gcd a.natAbs b.natAbs : Nat) : Int)) H
theorem sc39 : FnScope ["_law_one", "_law_two", "_law_lap"] ["_law_one", "_law_two"] (defScope (top 40)) := ⟨rfl, rfl, rfl, by decide +kernel, rfl, by decide +kernel, by decide +kernel⟩
theorem abs_nat (a : Int) : (if a < 0 then -a else a) = ((a.natAbs : Nat) : Int) := by
  split <;> omega
theorem ok_lgcd (T : Ty P K mg) : FnOk P w K mg base CX0 1 T.l_gcd.f T.l_gcd.fd ["_law_one", "_law_two"] spGcd := by
  refine T.l_gcd.fn.ok sc39 (fun vs H Q E h => ?_) (fun cdv A outer s H vs Q E hr h => ?_)
  · obtain ⟨a, b, n, rfl, _⟩ := h
    rfl
  · obtain ⟨a, b, n, rfl, hb, hn, q⟩ := h
    refine ⟨_, pss_cons (ps_par (i := 0) (j := 1) rfl sc39.nd rfl rfl (by decide) rfl rfl (pa_cons (pe_callB call_abs (by rfl) T.mAbs boot_abs (pa_cons (pv 0) pa_nil)) (pa_cons (pe_callB call_abs (by rfl) T.mAbs boot_abs (pa_cons (pv 1) pa_nil)) pa_nil)) (by rfl))
      (pss_cons (ps_for PassesOwn.never rfl (pi_range1 rfl T.blt.range (pa_cons pe_int pa_nil)) (pg_name (i := 2) sc39.nd rfl (.inl rfl))
        (pss_cons (ps_if (pt_cmpR op_eq (pv 1) pe_int (nomark _)) (pss_one ps_break) pss_nil)
        (pss_one (ps_par (i := 0) (j := 1) rfl sc39.nd rfl rfl (by decide) rfl rfl (pa_cons (pv 1) (pa_cons (pe_op op_mod (pe_callTy call_int1 (by rfl) T.blt.int boot_int (pa_cons (pv 0) pa_nil)) (pv 1)) pa_nil)) (by rfl)))))
      (pss_one (ps_ret (pv 0)))), ?_⟩
    refine ⟨_, rfl, a, rfl, _, rfl, b, rfl, _, _, rfl, ?_⟩
    rw [abs_nat, abs_nat]
    refine ⟨50000, rfl, by decide, by decide, for_range (lo := 0) (n := 50000) (fun i σ H' => H' = H ∧ ∃ (x y : Nat) (v : Option V), σ = [some (.int (x : Int)), some (.int (y : Int)), v] ∧ Nat.gcd x y = Nat.gcd a.natAbs b.natAbs ∧
        (i = 0 → y < 2 ^ n) ∧ (0 < i → y ≤ x ∧ x * y < 2 ^ (2 * n + 1 - i)))
      ⟨rfl, _, _, none, rfl, rfl, fun _ => hb, fun z => absurd z (by decide)⟩ ?_ ?_⟩
    · rintro i σ H' hi ⟨rfl, x, y, v, rfl, eg, c0, c1⟩
      refine ⟨_, rfl, rfl, _, rfl, ?_⟩
      by_cases y0 : y = 0
      · subst y0
        refine iteT ⟨_, rfl, ?_⟩
        rw [Nat.gcd_zero_right] at eg
        rw [eg]
        exact q
      · rw [decide_eq_false (fun z => y0 (by have := V.int.inj z; omega))]
        have yp : (0 : Int) < (y : Int) := by omega
        refine iteF ⟨_, rfl, _, rfl, .inl ⟨_, rfl, _, rfl, _, _, rfl, rfl, yp, _, _, rfl, rfl, y, x % y, some (.int (0 + (i : Int))), ?_, ?_, fun z => absurd z (by omega), fun _ => ?_⟩⟩
        · show [some (V.int (y : Int)), some (V.int ((x : Int) % (y : Int))), some (V.int (0 + (i : Int)))] = _
          rw [← Int.natCast_emod]
        · rw [Nat.gcd_comm y, ← Nat.gcd_rec, Nat.gcd_comm]
          exact eg
        · rcases Nat.eq_zero_or_pos i with i0 | i0
          · have l := c0 i0
            have m := Nat.mod_lt x (show 0 < y by omega)
            refine ⟨by omega, ?_⟩
            have l1 : y * (x % y) < 2 ^ n * 2 ^ n := Nat.mul_lt_mul'' l (by omega)
            rw [← Nat.pow_add] at l1
            have e : 2 * n + 1 - (i + 1) = n + n := by omega
            rw [e]
            exact l1
          · obtain ⟨le, p⟩ := c1 i0
            obtain ⟨_, p2⟩ := gcd_step le (by omega) p
            have m := Nat.mod_lt x (show 0 < y by omega)
            refine ⟨by omega, ?_⟩
            have e : 2 * n + 1 - (i + 1) = 2 * n + 1 - i - 1 := by omega
            rw [e]
            exact p2
    · rintro σ H' ⟨rfl, x, y, v, rfl, eg, _, c1⟩
      obtain ⟨le, p⟩ := c1 (by decide)
      have e : 2 * n + 1 - 50000 = 0 := by omega
      rw [e] at p
      have y0 : y = 0 := by
        rcases Nat.eq_zero_or_pos y with z | z
        · exact z
        · have : 0 < x * y := Nat.mul_pos (by omega) z
          omega
      subst y0
      refine ⟨_, rfl, ?_⟩
      rw [Nat.gcd_zero_right] at eg
      rw [eg]
      exact q
def spLq (K : PySem.W.Frag) : Sp := fun vs H Q _ => ∃ (a b : Int), vs = [.int a, .int b] ∧ b ≠ 0 ∧ b.natAbs < 2 ^ 9000 ∧ ∀ v H', Same H H' → RV K H' v (Rat.divInt a b) → Q v H'
theorem sc40 : FnScope ["_law_top", "_law_bottom", "_law_by"] ["_law_top", "_law_bottom"] (defScope (top 41)) := ⟨rfl, rfl, rfl, by decide +kernel, rfl, by decide +kernel, by decide +kernel⟩
theorem fdiv_neg_exact {g a : Int} (h : g ∣ a) (n : g ≠ 0) : a.fdiv (-g) = (-a) / g := by
  obtain ⟨c, rfl⟩ := h
  have e1 : g * c = (-g) * (-c) := by rw [Int.neg_mul_neg]
  have e2 : -(g * c) = g * (-c) := by rw [Int.mul_neg]
  rw [e2, Int.mul_ediv_cancel_left _ n]
  rw [e1]
  exact Int.mul_fdiv_cancel_left _ (by omega)
theorem low_num' {a b : Int} (h : b < 0) : a.fdiv (-((Nat.gcd a.natAbs b.natAbs : Nat) : Int)) = (Rat.divInt a b).num := by
  have n : ((Nat.gcd a.natAbs b.natAbs : Nat) : Int) ≠ 0 := by
    have : 0 < Nat.gcd a.natAbs b.natAbs := Nat.gcd_pos_of_pos_right _ (by omega)
    omega
  have d : ((Nat.gcd a.natAbs b.natAbs : Nat) : Int) ∣ a := Int.ofNat_dvd_left.mpr (Nat.gcd_dvd_left _ _)
  rw [fdiv_neg_exact d n, Rat.num_divInt, Int.sign_eq_neg_one_of_neg h]
  show (-a) / ((Nat.gcd a.natAbs b.natAbs : Nat) : Int) = (-1 * a) / ((Nat.gcd b.natAbs a.natAbs : Nat) : Int)
  rw [Nat.gcd_comm, Int.neg_one_mul]
theorem low_den' {a b : Int} (h : b < 0) : b.fdiv (-((Nat.gcd a.natAbs b.natAbs : Nat) : Int)) = ((Rat.divInt a b).den : Int) := by
  have n : ((Nat.gcd a.natAbs b.natAbs : Nat) : Int) ≠ 0 := by
    have : 0 < Nat.gcd a.natAbs b.natAbs := Nat.gcd_pos_of_pos_right _ (by omega)
    omega
  have d : ((Nat.gcd a.natAbs b.natAbs : Nat) : Int) ∣ b := Int.ofNat_dvd_left.mpr (Nat.gcd_dvd_right _ _)
  rw [fdiv_neg_exact d n, Rat.den_divInt, if_neg (by omega)]
  show (-b) / ((Nat.gcd a.natAbs b.natAbs : Nat) : Int) = ((b.natAbs / Nat.gcd b.natAbs a.natAbs : Nat) : Int)
  rw [Nat.gcd_comm b.natAbs, Int.natCast_ediv]
  congr 1
  omega
theorem ok_lq (T : Ty P K mg) : FnOk P w K mg base CX0 2 T.l_q.f T.l_q.fd ["_law_top", "_law_bottom"] (spLq K) := by
  have G : FnOk P w K mg base CX0 1 T.l_gcd.f T.l_gcd.fd ["_law_one", "_law_two"] spGcd := ok_lgcd T
  refine T.l_q.fn.ok sc40 (fun vs H Q E h => ?_) (fun cdv A outer s H vs Q E hr h => ?_)
  · obtain ⟨a, b, rfl, _⟩ := h
    rfl
  · obtain ⟨a, b, rfl, b0, b1, q⟩ := h
    refine ⟨_, pss_cons (ps_set (i := 2) sc40.nd rfl (.inl rfl) (T.l_gcd.c0 G hr (pa_cons (pv 0) (pa_cons (pv 1) pa_nil))))
      (pss_cons (ps_set (i := 2) sc40.nd rfl (.inl rfl) (pe_ifExp (pt_cmpR op_lt (pv 1) pe_int (nomark _)) (pe_un un_neg (pv 2)) (pv 2)))
      (pss_one (ps_ret (pe_tup (pa_cons (pe_op op_fdivF (pv 0) (pv 2)) (pa_cons (pe_op op_fdivF (pv 1) (pv 2)) pa_nil)))))), ?_⟩
    have g0 : 0 < Nat.gcd a.natAbs b.natAbs := Nat.gcd_pos_of_pos_right _ (by omega)
    have l : Nat.gcd a.natAbs b.natAbs ≤ b.natAbs := Nat.gcd_le_right _ (by omega)
    have l1 : (((Nat.gcd a.natAbs b.natAbs : Nat) : Int)).natAbs < 2 ^ 9000 := Nat.lt_of_le_of_lt (by simpa using l) b1
    have l2 : (-((Nat.gcd a.natAbs b.natAbs : Nat) : Int)).natAbs < 2 ^ 9000 := by rw [Int.natAbs_neg]; exact l1
    refine ⟨_, rfl, _, rfl, a, b, 9000, rfl, b1, Nat.le_refl _, ?_⟩
    refine ⟨_, rfl, _, _, rfl, rfl, _, rfl, ?_⟩
    refine ite2 (fun lt => ?_) (fun ge => ?_)
    · have lt' := of_decide_eq_true lt
      refine ⟨_, rfl, _, rfl, ?_⟩
      refine ⟨_, rfl, _, rfl, _, _, rfl, rfl, cdivF (by omega) l2, _, rfl, _, rfl, _, _, rfl, rfl, cdivF (by omega) l2, (by show 2 ≤ sizeLine; decide), fun p hp => ?_⟩
      refine q _ _ (Same.new hp) ⟨p, rfl, ?_⟩
      rw [← low_num' lt', ← low_den' lt']
      exact SqT.of upd_same
    · have ge' : ¬ (b < 0) := fun z => ge (decide_eq_true z)
      have b0' : 0 < b := by omega
      refine ⟨_, rfl, ?_⟩
      refine ⟨_, rfl, _, rfl, _, _, rfl, rfl, cdivF (by omega) l1, _, rfl, _, rfl, _, _, rfl, rfl, cdivF (by omega) l1, (by show 2 ≤ sizeLine; decide), fun p hp => ?_⟩
      refine q _ _ (Same.new hp) ⟨p, rfl, ?_⟩
      rw [← low_num b0', ← low_den b0']
      exact SqT.of upd_same
/-- a ratio as a tuple, in any terms -/
def PQ (K : PySem.W.Frag) (H : Hp) (v : V) (n m : Nat) (q : Rat) : Prop := ∃ t a b, v = .ref t ∧ SqT K H t [.int a, .int b] ∧ 0 < b ∧ q = Rat.divInt a b ∧ a.natAbs < 2 ^ n ∧ b.natAbs < 2 ^ m
theorem RV.pq {H : Hp} {v : V} {n m : Nat} {q : Rat} (h : RV K H v q) (s : Sz n m q) : PQ K H v n m q := by
  obtain ⟨t, rfl, h⟩ := h
  refine ⟨t, _, _, rfl, h, den_pos' q, ?_, s.1, by simpa using s.2⟩
  rw [Rat.divInt_ofNat, Rat.mkRat_self]
def spL2 (K : PySem.W.Frag) (C : Nat → Nat → Nat → Nat → Rat → Rat → Prop) (f : Rat → Rat → Rat) : Sp := fun vs H Q _ => ∃ v u q r n m n' m', vs = [v, u] ∧ PQ K H v n m q ∧ PQ K H u n' m' r ∧ C n m n' m' q r ∧
  ∀ v' H', Same H H' → RV K H' v' (f q r) → Q v' H'
def cShr (n m n' m' : Nat) (_ r : Rat) : Prop := n + n' + m + m' ≤ 800000 ∧ m + n' ≤ 9000 ∧ r ≠ 0
theorem divInt_ne {a b : Int} (h : Rat.divInt a b ≠ 0) : a ≠ 0 := fun z => h (by rw [z, Rat.zero_divInt])
theorem divInt_div {a b c d : Int} : Rat.divInt a b / Rat.divInt c d = Rat.divInt (a * d) (b * c) := by
  rw [Rat.div_def, Rat.inv_divInt, Rat.divInt_mul_divInt]

theorem sc41 : FnScope ["_law_one", "_law_two"] ["_law_one", "_law_two"] (defScope (top 42)) := ⟨rfl, rfl, rfl, by decide +kernel, rfl, by decide +kernel, by decide +kernel⟩
theorem ok_lplus (T : Ty P K mg) : FnOk P w K mg base CX0 3 T.l_plus.f T.l_plus.fd ["_law_one", "_law_two"] (spL2 K cBin (fun q r => q + r)) := by
  have G : FnOk P w K mg base CX0 2 T.l_q.f T.l_q.fd ["_law_top", "_law_bottom"] (spLq K) := ok_lq T
  refine T.l_plus.fn.ok sc41 (fun vs H Q E h => ?_) (fun cdv A outer s H vs Q E hr h => ?_)
  · obtain ⟨v, u, q, r, n, m, n', m', rfl, _⟩ := h
    rfl
  · obtain ⟨v, u, q, r, n, m, n', m', rfl, ⟨t, a, b, rfl, ht, b0, rfl, ha, hb⟩, ⟨t', c, d, rfl, ht', d0, rfl, hc, hd⟩, hC, k⟩ := h
    refine ⟨_, pss_one (ps_ret (T.l_q.c0 G hr (pa_cons (pe_op op_add (pe_op op_mulW (pe_ix ix_tup (pv 0) pe_int (fun _ _ => rfl)) (pe_ix ix_tup (pv 1) pe_int (fun _ _ => rfl))) (pe_op op_mulW (pe_ix ix_tup (pv 1) pe_int (fun _ _ => rfl)) (pe_ix ix_tup (pv 0) pe_int (fun _ _ => rfl)))) (pa_cons (pe_op op_mulW (pe_ix ix_tup (pv 0) pe_int (fun _ _ => rfl)) (pe_ix ix_tup (pv 1) pe_int (fun _ _ => rfl))) pa_nil)))), ?_⟩
    refine ⟨_, rfl, _, _, _, _, rfl, rfl, ht, rfl, _, rfl, _, _, _, _, rfl, rfl, ht', rfl, _, _, rfl, rfl, cmulW ha hd (by have := hC.1; omega), ?_⟩
    refine ⟨_, rfl, _, _, _, _, rfl, rfl, ht', rfl, _, rfl, _, _, _, _, rfl, rfl, ht, rfl, _, _, rfl, rfl, cmulW hc hb (by have := hC.1; omega), _, _, rfl, rfl, ?_⟩
    refine ⟨_, rfl, _, _, _, _, rfl, rfl, ht, rfl, _, rfl, _, _, _, _, rfl, rfl, ht', rfl, _, _, rfl, rfl, cmulW hb hd (by have := hC.1; omega), _, _, rfl, Int.ne_of_gt (Int.mul_pos b0 d0), up_lt (wide_lt hb hd) hC.2, fun v' H' s' rv => k v' H' s' ?_⟩
    show RV K H' v' (_ + _)
    rw [Rat.divInt_add_divInt _ _ (Int.ne_of_gt b0) (Int.ne_of_gt d0)]
    exact rv
theorem sc42 : FnScope ["_law_one", "_law_two"] ["_law_one", "_law_two"] (defScope (top 43)) := ⟨rfl, rfl, rfl, by decide +kernel, rfl, by decide +kernel, by decide +kernel⟩
theorem ok_lminus (T : Ty P K mg) : FnOk P w K mg base CX0 3 T.l_minus.f T.l_minus.fd ["_law_one", "_law_two"] (spL2 K cBin (fun q r => q - r)) := by
  have G : FnOk P w K mg base CX0 2 T.l_q.f T.l_q.fd ["_law_top", "_law_bottom"] (spLq K) := ok_lq T
  refine T.l_minus.fn.ok sc42 (fun vs H Q E h => ?_) (fun cdv A outer s H vs Q E hr h => ?_)
  · obtain ⟨v, u, q, r, n, m, n', m', rfl, _⟩ := h
    rfl
  · obtain ⟨v, u, q, r, n, m, n', m', rfl, ⟨t, a, b, rfl, ht, b0, rfl, ha, hb⟩, ⟨t', c, d, rfl, ht', d0, rfl, hc, hd⟩, hC, k⟩ := h
    refine ⟨_, pss_one (ps_ret (T.l_q.c0 G hr (pa_cons (pe_op op_sub (pe_op op_mulW (pe_ix ix_tup (pv 0) pe_int (fun _ _ => rfl)) (pe_ix ix_tup (pv 1) pe_int (fun _ _ => rfl))) (pe_op op_mulW (pe_ix ix_tup (pv 1) pe_int (fun _ _ => rfl)) (pe_ix ix_tup (pv 0) pe_int (fun _ _ => rfl)))) (pa_cons (pe_op op_mulW (pe_ix ix_tup (pv 0) pe_int (fun _ _ => rfl)) (pe_ix ix_tup (pv 1) pe_int (fun _ _ => rfl))) pa_nil)))), ?_⟩
    refine ⟨_, rfl, _, _, _, _, rfl, rfl, ht, rfl, _, rfl, _, _, _, _, rfl, rfl, ht', rfl, _, _, rfl, rfl, cmulW ha hd (by have := hC.1; omega), ?_⟩
    refine ⟨_, rfl, _, _, _, _, rfl, rfl, ht', rfl, _, rfl, _, _, _, _, rfl, rfl, ht, rfl, _, _, rfl, rfl, cmulW hc hb (by have := hC.1; omega), _, _, rfl, rfl, ?_⟩
    refine ⟨_, rfl, _, _, _, _, rfl, rfl, ht, rfl, _, rfl, _, _, _, _, rfl, rfl, ht', rfl, _, _, rfl, rfl, cmulW hb hd (by have := hC.1; omega), _, _, rfl, Int.ne_of_gt (Int.mul_pos b0 d0), up_lt (wide_lt hb hd) hC.2, fun v' H' s' rv => k v' H' s' ?_⟩
    show RV K H' v' (_ - _)
    rw [Rat.divInt_sub_divInt _ _ (Int.ne_of_gt b0) (Int.ne_of_gt d0)]
    exact rv
theorem sc43 : FnScope ["_law_one", "_law_two"] ["_law_one", "_law_two"] (defScope (top 44)) := ⟨rfl, rfl, rfl, by decide +kernel, rfl, by decide +kernel, by decide +kernel⟩
theorem ok_ltimes (T : Ty P K mg) : FnOk P w K mg base CX0 3 T.l_times.f T.l_times.fd ["_law_one", "_law_two"] (spL2 K cBin (fun q r => q * r)) := by
  have G : FnOk P w K mg base CX0 2 T.l_q.f T.l_q.fd ["_law_top", "_law_bottom"] (spLq K) := ok_lq T
  refine T.l_times.fn.ok sc43 (fun vs H Q E h => ?_) (fun cdv A outer s H vs Q E hr h => ?_)
  · obtain ⟨v, u, q, r, n, m, n', m', rfl, _⟩ := h
    rfl
  · obtain ⟨v, u, q, r, n, m, n', m', rfl, ⟨t, a, b, rfl, ht, b0, rfl, ha, hb⟩, ⟨t', c, d, rfl, ht', d0, rfl, hc, hd⟩, hC, k⟩ := h
    refine ⟨_, pss_one (ps_ret (T.l_q.c0 G hr (pa_cons (pe_op op_mulW (pe_ix ix_tup (pv 0) pe_int (fun _ _ => rfl)) (pe_ix ix_tup (pv 1) pe_int (fun _ _ => rfl))) (pa_cons (pe_op op_mulW (pe_ix ix_tup (pv 0) pe_int (fun _ _ => rfl)) (pe_ix ix_tup (pv 1) pe_int (fun _ _ => rfl))) pa_nil)))), ?_⟩
    refine ⟨_, rfl, _, _, _, _, rfl, rfl, ht, rfl, _, rfl, _, _, _, _, rfl, rfl, ht', rfl, _, _, rfl, rfl, cmulW ha hc (by have := hC.1; omega), ?_⟩
    refine ⟨_, rfl, _, _, _, _, rfl, rfl, ht, rfl, _, rfl, _, _, _, _, rfl, rfl, ht', rfl, _, _, rfl, rfl, cmulW hb hd (by have := hC.1; omega), _, _, rfl, Int.ne_of_gt (Int.mul_pos b0 d0), up_lt (wide_lt hb hd) hC.2, fun v' H' s' rv => k v' H' s' ?_⟩
    show RV K H' v' (_ * _)
    rw [Rat.divInt_mul_divInt]
    exact rv
theorem sc44 : FnScope ["_law_one", "_law_two"] ["_law_one", "_law_two"] (defScope (top 45)) := ⟨rfl, rfl, rfl, by decide +kernel, rfl, by decide +kernel, by decide +kernel⟩
theorem ok_lshare (T : Ty P K mg) : FnOk P w K mg base CX0 3 T.l_share.f T.l_share.fd ["_law_one", "_law_two"] (spL2 K cShr (fun q r => q / r)) := by
  have G : FnOk P w K mg base CX0 2 T.l_q.f T.l_q.fd ["_law_top", "_law_bottom"] (spLq K) := ok_lq T
  refine T.l_share.fn.ok sc44 (fun vs H Q E h => ?_) (fun cdv A outer s H vs Q E hr h => ?_)
  · obtain ⟨v, u, q, r, n, m, n', m', rfl, _⟩ := h
    rfl
  · obtain ⟨v, u, q, r, n, m, n', m', rfl, ⟨t, a, b, rfl, ht, b0, rfl, ha, hb⟩, ⟨t', c, d, rfl, ht', d0, rfl, hc, hd⟩, hC, k⟩ := h
    refine ⟨_, pss_one (ps_ret (T.l_q.c0 G hr (pa_cons (pe_op op_mulW (pe_ix ix_tup (pv 0) pe_int (fun _ _ => rfl)) (pe_ix ix_tup (pv 1) pe_int (fun _ _ => rfl))) (pa_cons (pe_op op_mulW (pe_ix ix_tup (pv 0) pe_int (fun _ _ => rfl)) (pe_ix ix_tup (pv 1) pe_int (fun _ _ => rfl))) pa_nil)))), ?_⟩
    have c0 := divInt_ne hC.2.2
    refine ⟨_, rfl, _, _, _, _, rfl, rfl, ht, rfl, _, rfl, _, _, _, _, rfl, rfl, ht', rfl, _, _, rfl, rfl, cmulW ha hd (by have := hC.1; omega), ?_⟩
    refine ⟨_, rfl, _, _, _, _, rfl, rfl, ht, rfl, _, rfl, _, _, _, _, rfl, rfl, ht', rfl, _, _, rfl, rfl, cmulW hb hc (by have := hC.1; omega), _, _, rfl, Int.mul_ne_zero (Int.ne_of_gt b0) c0, up_lt (wide_lt hb hc) hC.2.1, fun v' H' s' rv => k v' H' s' ?_⟩
    show RV K H' v' (_ / _)
    rw [divInt_div]
    exact rv
def spLess (K : PySem.W.Frag) : Sp := fun vs H Q _ => ∃ v u q r n m n' m', vs = [v, u] ∧ RV K H v q ∧ RV K H u r ∧ Sz n m q ∧ Sz n' m' r ∧ n + m' ≤ 800000 ∧ n' + m ≤ 800000 ∧ Q (.bl (decide (q < r))) H
theorem sc45 : FnScope ["_law_one", "_law_two"] ["_law_one", "_law_two"] (defScope (top 46)) := ⟨rfl, rfl, rfl, by decide +kernel, rfl, by decide +kernel, by decide +kernel⟩
theorem ok_lless (T : Ty P K mg) : FnOk P w K mg base CX0 1 T.l_less.f T.l_less.fd ["_law_one", "_law_two"] (spLess K) := by
  refine T.l_less.fn.ok sc45 (fun vs H Q E h => ?_) (fun cdv A outer s H vs Q E hr h => ?_)
  · obtain ⟨v, u, q, r, n, m, n', m', rfl, _⟩ := h
    rfl
  · obtain ⟨v, u, q, r, n, m, n', m', rfl, ⟨t, rfl, ht⟩, ⟨t', rfl, ht'⟩, zq, zr, l1, l2, k⟩ := h
    refine ⟨_, pss_one (ps_ret (pe_cmpR op_lt (pe_op op_mulW (pe_ix ix_tup (pv 0) pe_int (fun _ _ => rfl)) (pe_ix ix_tup (pv 1) pe_int (fun _ _ => rfl))) (pe_op op_mulW (pe_ix ix_tup (pv 1) pe_int (fun _ _ => rfl)) (pe_ix ix_tup (pv 0) pe_int (fun _ _ => rfl))) (nomark _))), ?_⟩
    refine ⟨_, rfl, _, _, _, _, rfl, rfl, ht, rfl, _, rfl, _, _, _, _, rfl, rfl, ht', rfl, _, _, rfl, rfl, cmulW zq.1 (den_abs zr) (by omega), ?_⟩
    refine ⟨_, rfl, _, _, _, _, rfl, rfl, ht', rfl, _, rfl, _, _, _, _, rfl, rfl, ht, rfl, _, _, rfl, rfl, cmulW zr.1 (den_abs zq) (by omega), _, _, rfl, rfl, ?_⟩
    show Q (V.bl (decide (q.num * (r.den : Int) < r.num * (q.den : Int)))) H
    rw [decide_eq_decide.mpr (Rat.lt_iff q r).symm]
    exact k
end
end Kz
set_option linter.all false
set_option maxRecDepth 100000
set_option maxHeartbeats 4000000
namespace Kz
open PySem PySem.Spec PyProof.Rows L2
/-! ### rows of ratios -/
def cf (qs : List Rat) (i : Nat) : Rat := qs.getD i 0
/-- no zero at its end -/
def Tr (qs : List Rat) : Prop := ∀ k, qs.length = k + 1 → cf qs k ≠ 0
theorem cf_out {qs : List Rat} {i : Nat} (h : qs.length ≤ i) : cf qs i = 0 := by
  unfold cf
  rw [List.getD_eq_getElem?_getD, List.getElem?_eq_none h]
  rfl
theorem cf_at {qs : List Rat} {i : Nat} {q : Rat} (h : qs[i]? = some q) : cf qs i = q := by
  unfold cf
  rw [List.getD_eq_getElem?_getD, h]
  rfl
theorem at_cf {qs : List Rat} {i : Nat} (h : i < qs.length) : qs[i]? = some (cf qs i) := by
  rw [List.getElem?_eq_getElem h, cf_at (List.getElem?_eq_getElem h)]
theorem tr_le {a b : List Rat} (ha : Tr a) (h : ∀ i, cf a i = cf b i) : a.length ≤ b.length := by
  rcases Nat.lt_or_ge b.length a.length with lt | ge
  · obtain ⟨k, e⟩ : ∃ k, a.length = k + 1 := ⟨a.length - 1, by omega⟩
    exact absurd ((h k).trans (cf_out (by omega))) (ha k e)
  · exact ge
theorem tr_ext {a b : List Rat} (ha : Tr a) (hb : Tr b) (h : ∀ i, cf a i = cf b i) : a = b := by
  have l : a.length = b.length := Nat.le_antisymm (tr_le ha h) (tr_le hb fun i => (h i).symm)
  refine List.ext_getElem? fun i => ?_
  rcases Nat.lt_or_ge i a.length with lt | ge
  · rw [at_cf lt, at_cf (by omega), h i]
  · rw [List.getElem?_eq_none ge, List.getElem?_eq_none (by omega)]
/-- how many are needed -/
def Need (qs : List Rat) (k : Nat) : Prop := k ≤ qs.length ∧ (∀ i, k ≤ i → cf qs i = 0) ∧ ∀ j, k = j + 1 → cf qs j ≠ 0
theorem cf_take {qs : List Rat} {k i : Nat} (h : i < k) : cf (qs.take k) i = cf qs i := by
  unfold cf
  rw [List.getD_eq_getElem?_getD, List.getD_eq_getElem?_getD, List.getElem?_take, if_pos h]
theorem need_cf {qs : List Rat} {k : Nat} (h : Need qs k) (i : Nat) : cf (qs.take k) i = cf qs i := by
  rcases Nat.lt_or_ge i k with lt | ge
  · exact cf_take lt
  · rw [cf_out (by rw [List.length_take]; omega), h.2.1 i ge]
theorem need_tr {qs : List Rat} {k : Nat} (h : Need qs k) : Tr (qs.take k) := by
  intro j e
  rw [List.length_take, Nat.min_eq_left h.1] at e
  rw [cf_take (by omega)]
  exact h.2.2 j e
/-- the values stand for the ratios, one by one -/
def Al (K : PySem.W.Frag) (H : Hp) (vs : List V) (qs : List Rat) : Prop := vs.length = qs.length ∧ ∀ (i : Nat) (v : V) (q : Rat), vs[i]? = some v → qs[i]? = some q → RV K H v q
theorem Al.same {K : PySem.W.Frag} {H H' : Hp} {vs : List V} {qs : List Rat} (s : Same H H') (h : Al K H vs qs) : Al K H' vs qs := ⟨h.1, fun i v q a b => (h.2 i v q a b).same s⟩
theorem Al.nil {K : PySem.W.Frag} {H : Hp} : Al K H [] [] := ⟨rfl, fun i v q a _ => by simp at a⟩
theorem Al.snoc {K : PySem.W.Frag} {H : Hp} {vs : List V} {qs : List Rat} {v : V} {q : Rat} (h : Al K H vs qs) (r : RV K H v q) : Al K H (vs ++ [v]) (qs ++ [q]) := by
  refine ⟨by simp [h.1], fun i v' q' a b => ?_⟩
  rcases Nat.lt_or_ge i vs.length with lt | ge
  · rw [List.getElem?_append_left lt] at a
    rw [List.getElem?_append_left (by rw [← h.1]; exact lt)] at b
    exact h.2 i _ _ a b
  · rw [List.getElem?_append_right ge] at a
    rw [List.getElem?_append_right (by rw [← h.1]; exact ge), ← h.1] at b
    cases z : i - vs.length with
    | zero =>
      rw [z] at a b
      cases a
      cases b
      exact r
    | succ n =>
      rw [z] at a
      simp at a
theorem Al.take {K : PySem.W.Frag} {H : Hp} {vs : List V} {qs : List Rat} (h : Al K H vs qs) (k : Nat) : Al K H (vs.take k) (qs.take k) := by
  refine ⟨by simp [h.1], fun i v' q' a b => ?_⟩
  rw [List.getElem?_take] at a b
  by_cases lt : i < k
  · rw [if_pos lt] at a b
    exact h.2 i _ _ a b
  · rw [if_neg lt] at a
    cases a
theorem Al.get {K : PySem.W.Frag} {H : Hp} {vs : List V} {qs : List Rat} {i : Nat} (h : Al K H vs qs) (lt : i < qs.length) : ∃ v, vs[i]? = some v ∧ RV K H v (cf qs i) := by
  have lt' : i < vs.length := by rw [h.1]; exact lt
  exact ⟨_, List.getElem?_eq_getElem lt', h.2 i _ _ (List.getElem?_eq_getElem lt') (at_cf lt)⟩
theorem Al.set {K : PySem.W.Frag} {H : Hp} {vs : List V} {qs : List Rat} {i : Nat} {v : V} {q : Rat} (h : Al K H vs qs) (r : RV K H v q) : Al K H (vs.set i v) (qs.set i q) := by
  refine ⟨by simp [h.1], fun j v' q' a b => ?_⟩
  rw [List.getElem?_set] at a b
  by_cases e : i = j
  · rw [if_pos e] at a b
    by_cases l : i < vs.length
    · rw [if_pos l] at a
      rw [if_pos (by rw [← h.1]; exact l)] at b
      cases a
      cases b
      exact r
    · rw [if_neg l] at a
      cases a
  · rw [if_neg e] at a b
    exact h.2 j _ _ a b
theorem Al.reverse {K : PySem.W.Frag} {H : Hp} {vs : List V} {qs : List Rat} (h : Al K H vs qs) : Al K H vs.reverse qs.reverse := by
  refine ⟨by simp [h.1], fun i v' q' a b => ?_⟩
  have l : i < vs.length := by
    rcases Nat.lt_or_ge i vs.length with lt | ge
    · exact lt
    · rw [List.getElem?_eq_none (by simpa using ge)] at a
      cases a
  rw [List.getElem?_reverse l] at a
  rw [List.getElem?_reverse (by rw [← h.1]; exact l), ← h.1] at b
  exact h.2 _ _ _ a b
theorem Al.append {K : PySem.W.Frag} {H : Hp} {vs us : List V} {qs rs : List Rat} (h : Al K H vs qs) (g : Al K H us rs) : Al K H (vs ++ us) (qs ++ rs) := by
  refine ⟨by simp [h.1, g.1], fun i v' q' a b => ?_⟩
  rcases Nat.lt_or_ge i vs.length with lt | ge
  · rw [List.getElem?_append_left lt] at a
    rw [List.getElem?_append_left (by rw [← h.1]; exact lt)] at b
    exact h.2 i _ _ a b
  · rw [List.getElem?_append_right ge] at a
    rw [List.getElem?_append_right (by rw [← h.1]; exact ge), ← h.1] at b
    exact g.2 _ _ _ a b
/-- how long the ratios of a row are -/
def SzA (n m : Nat) (qs : List Rat) : Prop := ∀ i, i < qs.length → Sz n m (cf qs i)
theorem Sz.up {n m n' m' : Nat} {q : Rat} (h : Sz n m q) (a : n ≤ n') (b : m ≤ m') : Sz n' m' q := ⟨Nat.lt_of_lt_of_le h.1 (pow_up a), Nat.lt_of_lt_of_le h.2 (pow_up b)⟩
theorem SzA.up {n m n' m' : Nat} {qs : List Rat} (h : SzA n m qs) (a : n ≤ n') (b : m ≤ m') : SzA n' m' qs := fun i l => (h i l).up a b
theorem pi_or {X : Cx} {tg l : Expr} {wi wi' : TI} (h : PI X tg l wi) (h' : PI X tg l wi') : PI X tg l (fun σ H R => wi σ H R ∨ wi' σ H R) :=
  ⟨fun pins s σ H R I z => z.elim (h.run pins s σ H R I) (h'.run pins s σ H R I)⟩
end Kz
set_option linter.all false
set_option maxRecDepth 100000
set_option maxHeartbeats 4000000
namespace Kz
open PySem PySem.Spec PyProof.Rows L2
/-- a method as it stands -/
structure Dm (K : PySem.W.Frag) (C : Addr) (m qual : Str) (st : Stmt) (ps : List Str) where
  f : Addr
  fd : FuncData
  fn : Fun K m qual st f fd
  me : Meth K C m f
  b : Binds K fd ps []
abbrev sP (i : Nat) : Stmt := inClass (top 25) i
structure Tz (P : Program) (K : PySem.W.Frag) (mg : Str → Option Value) extends Ty P K mg where
  cP : Addr
  mgP : mg "Poly" = some (.ref cP)
  clP : Cls K cP
  nP : NoAttr K cP "numbers"
  iP : PySem.W.findIn K (.ref cP) "__class__" = some (some (.builtin "object.__class__"))
  gP : PySem.W.specialIn K (.builtin "object.__class__") "__get__" = some (some (.builtin "getset_descriptor.__get__"))
  tP : PySem.W.takesIn K (.builtin "object.__class__") = some true
  oP : PySem.W.mroIn K cP (.type "object") = some true
  notP : ∀ t ∈ tyNames, PySem.W.kitOne K (.type t) (.ref cP) = some false
  p_init : Dm K cP "__init__" "Poly.__init__" (sP 0) ["self", "numbers"]
  mkP : Mk K cP p_init.f
  p_eq : Dm K cP "__eq__" "Poly.__eq__" (sP 1) ["self", "other"]
  p_add : Dm K cP "__add__" "Poly.__add__" (sP 2) ["self", "other"]
  p_radd : Dm K cP "__radd__" "Poly.__radd__" (sP 3) ["self", "other"]
  p_sub : Dm K cP "__sub__" "Poly.__sub__" (sP 4) ["self", "other"]
  p_rsub : Dm K cP "__rsub__" "Poly.__rsub__" (sP 5) ["self", "other"]
  p_mul : Dm K cP "__mul__" "Poly.__mul__" (sP 6) ["self", "other"]
  p_rmul : Dm K cP "__rmul__" "Poly.__rmul__" (sP 7) ["self", "other"]
  p_neg : Dm K cP "__neg__" "Poly.__neg__" (sP 8) ["self"]
  p_degree : Dm K cP "degree" "Poly.degree" (sP 9) ["self"]
  p_at : Dm K cP "at" "Poly.at" (sP 10) ["self", "place"]
  p_slope : Dm K cP "slope" "Poly.slope" (sP 11) ["self"]
  p_area : Dm K cP "area" "Poly.area" (sP 12) ["self"]
  p_moved : Dm K cP "moved" "Poly.moved" (sP 13) ["self", "start", "step"]
  is_row : Df K mg "is_row" (top 22) ["value"]
  many_needed : Df K mg "many_needed" (top 26) ["row"]
  as_poly : Df K mg "as_poly" (top 27) ["value"]
  number_for : Df K mg "number_for" (top 28) ["poly", "power"]
  added : Df K mg "added" (top 29) ["one", "other"]
  over_one : Df K mg "over_one_bottom" (top 23) ["pairs"]
  multiplied : Df K mg "multiplied" (top 30) ["one", "other"]
  divided : Df K mg "divided" (top 31) ["one", "other"]
  lean : Df K mg "lean" (top 32) ["row"]
  lean_rest : Df K mg "lean_rest" (top 33) ["row", "divisor"]
  common : Df K mg "common" (top 34) ["one", "other"]
theorem boot_all : bootBuiltins "all" = some (.builtin "all") := by decide +kernel
/-- is_ratio's answer -/
def RB (K : PySem.W.Frag) (H : Hp) (u : V) (c : Bool) : Prop := ∃ t b, TyN K H u t ∧ ((t == "int") = false → Pr K H u b) ∧ c = (if (t == "int") = true then true else b)
theorem RB.same {K : PySem.W.Frag} {H H' : Hp} {u : V} {c : Bool} (s : Same H H') (h : RB K H u c) : RB K H' u c := by
  obtain ⟨t, b, x, y, z⟩ := h
  exact ⟨t, b, x.same s, fun e => (y e).same s, z⟩
theorem ArgQ.rb {K : PySem.W.Frag} {H : Hp} {v : V} {n m : Nat} {q : Rat} (h : ArgQ K H v n m q) : RB K H v true := by
  obtain ⟨a, b, h, _⟩ := h
  cases h with
  | int => exact ⟨"int", true, ty_int, (fun z => by cases z), rfl⟩
  | @two p a b hs b0 =>
    obtain ⟨t, ty, e1, e2⟩ := hs.ty
    refine ⟨t, true, ty, fun _ => ?_, by rw [e2]; rfl⟩
    have := Pr.two hs
    rw [decide_eq_true b0] at this
    exact this
theorem Odd.rb {K : PySem.W.Frag} {H : Hp} {v : V} (h : Odd K H v) : RB K H v false := by
  obtain ⟨t, ty, nt, pr⟩ := h
  exact ⟨t, false, ty, fun _ => pr, by rw [nt]; rfl⟩
def RBs (K : PySem.W.Frag) (H : Hp) (us : List V) (bs : List Bool) : Prop := bs.length = us.length ∧ ∀ (i : Nat) (u : V) (b : Bool), us[i]? = some u → bs[i]? = some b → RB K H u b
def spRow (K : PySem.W.Frag) : Sp := fun vs H Q _ => ∃ v, vs = [v] ∧ ((∃ t, TyN K H v t ∧ (t == "tuple") = false ∧ (t == "list") = false ∧ ∀ H', Same H H' → Q (.bl false) H') ∨
  (∃ a us bs, v = .ref a ∧ Sq K H a us ∧ us.length ≤ 1000 ∧ RBs K H us bs ∧ ∀ H', Same H H' → Q (.bl (bs.all id)) H'))
theorem take_snoc {α : Type} {l : List α} {i : Nat} {x : α} (h : l[i]? = some x) : l.take (i + 1) = l.take i ++ [x] := by
  rw [List.take_add_one, h]
  rfl
theorem le1000 {n : Nat} (h : n ≤ 1000) : n < sizeLine := by
  rw [sizeLine_eq]
  omega
section
variable {P : Program} {w : World} {K : PySem.W.Frag} {mg : Str → Option Value} {base : Heap}
theorem sc23 : FnScope ["value", "number"] ["value"] (defScope (top 22)) := ⟨rfl, rfl, rfl, by decide +kernel, rfl, by decide +kernel, by decide +kernel⟩
theorem ok_row (T : Tz P K mg) : FnOk P w K mg base CX0 4 T.is_row.f T.is_row.fd ["value"] (spRow K) := by
  have G : FnOk P w K mg base CX0 3 T.is_ratio.f T.is_ratio.fd ["value"] (spRatio K) := ok_ratio T.toTx
  refine T.is_row.fn.ok sc23 (fun vs H Q E h => ?_) (fun cdv A outer s H vs Q E hr h => ?_)
  · obtain ⟨v, rfl, _⟩ := h
    rfl
  · obtain ⟨v, rfl, h⟩ := h
    refine ⟨_, pss_cons (ps_if (pt_not (pt_val (pe_callB call_isiT (by rfl) T.mIsi boot_isi (pa_cons (pv 0) (pa_cons (pe_tup (pa_cons (pe_bltn (v := .ty "tuple") (by rfl) T.mTuple boot_ttuple rfl) (pa_cons (pe_bltn (v := .ty "list") (by rfl) T.blt.list boot_tlist rfl) pa_nil))) pa_nil)))))
        (pss_one (ps_ret pe_bl)) pss_nil)
      (pss_one (ps_ret (pe_callB (cr_all rfl) (by rfl) T.mAll boot_all (pa_cons (pe_lc (own := [("number", 1)]) (g := gName 1) (tt := tYes) rfl sc23.nd (pi_or (pi_list (pv 0)) (pi_tup (pv 0))) (blkOk_by (own := [("number", 1)]) (N := ["value", "number"]) (sc := defScope (top 22)) (by decide +kernel))
        (fun _ _ _ _ _ => pg_name (i := 1) sc23.nd rfl (Or.inl rfl)) (fun _ _ _ _ _ => pts_nil) (fun _ _ _ _ _ => T.is_ratio.c0 G hr (pa_cons (pv 1) pa_nil))) pa_nil)))), ?_⟩
    refine ⟨v, rfl, ?_⟩
    refine ⟨(by show 2 ≤ sizeLine; decide), fun p hp => ?_⟩
    have s1 : Same H (upd H p (.tup [.ty "tuple", .ty "list"])) := Same.new hp
    have hp1 : upd H p (.tup [.ty "tuple", .ty "list"]) p = some (.tup [.ty "tuple", .ty "list"]) := upd_same
    generalize upd H p (.tup [.ty "tuple", .ty "list"]) = H1 at s1 hp1
    rcases h with ⟨t, ty, n1, n2, q⟩ | ⟨a, us, bs, rfl, hs, len, rb, q⟩
    · refine ⟨v, p, _, _, _, _, rfl, hp1, clsTL, (ty.same s1).1, kit_tl ty.2, _, rfl, ?_⟩
      rw [n1, n2]
      exact iteT (q _ s1)
    · have hs1 := hs.same s1
      obtain ⟨t, ty, e1, e2⟩ := hs1.ty
      refine ⟨_, p, _, _, _, _, rfl, hp1, clsTL, ty.1, kit_tl ty.2, _, rfl, ?_⟩
      rw [e1]
      refine iteF ?_
      have h0 : ∀ D, H1 D = none → upd H1 D (.lst []) D = some (.lst ((bs.take 0).map V.bl)) ∧ Same H1 (upd H1 D (.lst [])) := fun D hD => ⟨upd_same, Same.new hD⟩
      have fin : ∀ (D : Addr) (H' : Hp), (H' D = some (.lst ((bs.take us.length).map V.bl)) ∧ Same H1 H') → ∃ (a : Addr) (bs : List Bool), [V.ref D] = [.ref a] ∧ SqL K H' a (bs.map V.bl) ∧ Q (.bl (bs.all id)) H' := fun D H' ⟨e, s⟩ => by
        rw [← rb.1, List.take_length] at e
        exact ⟨D, bs, rfl, SqL.of e, q _ (s1.trans s)⟩
      have step : ∀ (D : Addr) (i : Nat) (x : V) (H' : Hp), H1 D = none → us[i]? = some x → (H' D = some (.lst ((bs.take i).map V.bl)) ∧ Same H1 H') → ∃ v t b, [x] ++ [] = [v] ∧ TyN K H' v t ∧ ((t == "int") = false → Pr K H' v b) ∧
          ∀ H2, Same H' H2 → ∃ acc, H2 D = some (.lst acc) ∧ acc.length < sizeLine ∧
            (upd H2 D (.lst (acc ++ [.bl (if (t == "int") = true then true else b)])) D = some (.lst ((bs.take (i + 1)).map V.bl)) ∧ Same H1 (upd H2 D (.lst (acc ++ [.bl (if (t == "int") = true then true else b)])))) := by
        rintro D i x H' hD hx ⟨e, s⟩
        have lt : i < us.length := (List.getElem?_eq_some_iff.mp hx).1
        have lb : i < bs.length := by rw [rb.1]; exact lt
        obtain ⟨t, b, ty, pr, ec⟩ := ((rb.2 i x _ hx (List.getElem?_eq_getElem lb)).same (s1.trans s))
        refine ⟨x, t, b, rfl, ty, pr, fun H2 s2 => ⟨_, s2 _ _ e, ?_, ?_, ?_⟩⟩
        · rw [List.length_map, List.length_take]
          exact le1000 (by omega)
        · rw [upd_same, take_snoc (List.getElem?_eq_getElem lb), List.map_append, ec]
          rfl
        · intro c u ec'
          rw [upd_ne (ne_of_none ec' hD)]
          exact s2 _ _ (s _ _ ec')
      rcases hs1 with hl | ht
      · refine .inl ⟨_, rfl, a, rfl, ⟨_, hl⟩, fun D hD => ?_⟩
        refine lc_list (K := K) (a := a) (xs := us) (fun i H' => H' D = some (.lst ((bs.take i).map V.bl)) ∧ Same H1 H') (h0 D hD) (fun i H' _ ⟨_, s⟩ => Same.seq s hl) ?_ (fun H' pv => fin D H' pv)
        intro i x H' hx pv
        refine ⟨rfl, ?_⟩
        dsimp only [tYes]
        refine iteT ⟨_, rfl, ?_⟩
        exact step D i x H' hD hx pv
      · refine .inr ⟨_, rfl, a, rfl, ⟨_, ht⟩, fun D hD => ?_⟩
        refine lc_tup (K := K) (a := a) (xs := us) (fun i H' => H' D = some (.lst ((bs.take i).map V.bl)) ∧ Same H1 H') (h0 D hD) (fun i H' _ ⟨_, s⟩ => Kz.Same.seqT s ht) ?_ (fun H' pv => fin D H' pv)
        intro i x H' hx pv
        refine ⟨rfl, ?_⟩
        dsimp only [tYes]
        refine iteT ⟨_, rfl, ?_⟩
        exact step D i x H' hD hx pv
end
end Kz
set_option linter.all false
set_option maxRecDepth 100000
set_option maxHeartbeats 4000000
namespace Kz
open PySem PySem.Spec PyProof.Rows L2
/-- how many of a row of integers are needed -/
def NeedI (ns : List Int) (k : Nat) : Prop := k ≤ ns.length ∧ (∀ (i : Nat) (z : Int), k ≤ i → ns[i]? = some z → z = 0) ∧ ∀ j, k = j + 1 → ∃ z, ns[j]? = some z ∧ z ≠ 0
def spNeed (K : PySem.W.Frag) : Sp := fun vs H Q _ => ∃ (a : Addr) (ns : List Int), vs = [.ref a] ∧ SqL K H a (ns.map V.int) ∧ ns.length ≤ 1000 ∧ ∀ k : Nat, NeedI ns k → Q (.int (k : Int)) H
theorem mono2 {c : TT} {σ : L2.St} {H : Hp} : True := trivial
section
variable {P : Program} {w : World} {K : PySem.W.Frag} {mg : Str → Option Value} {base : Heap}
theorem sc24 : FnScope ["row", "many"] ["row"] (defScope (top 26)) := ⟨rfl, rfl, rfl, by decide +kernel, rfl, by decide +kernel, by decide +kernel⟩
theorem ok_need (T : Tz P K mg) : FnOk P w K mg base CX0 1 T.many_needed.f T.many_needed.fd ["row"] (spNeed K) := by
  refine T.many_needed.fn.ok sc24 (fun vs H Q E h => ?_) (fun cdv A outer s H vs Q E hr h => ?_)
  · obtain ⟨v, ns, rfl, _⟩ := h
    rfl
  · obtain ⟨a, ns, rfl, hs, len, q⟩ := h
    refine ⟨_, pss_cons (ps_set (i := 1) sc24.nd rfl (.inl rfl) (pe_callB call_len_seq (by rfl) T.blt.len PySem.boot_len (pa_cons (pv 0) pa_nil)))
      (pss_cons (ps_while PassesOwn.never (PW.pt (pw_and (pt_cmpR op_gt (pv 1) pe_int (nomark _)) (pw_and1 (pt_cmpR op_eq (pe_ix ix_list (pv 0) (pe_op op_sub (pv 1) pe_int) (fun _ _ => rfl)) pe_int (nomark _)))))
        (pss_one (ps_set (i := 1) sc24.nd rfl (.inl rfl) (pe_op op_sub (pv 1) pe_int))))
      (pss_one (ps_ret (pv 1)))), ?_⟩
    refine ⟨_, rfl, a, _, rfl, .inl hs, ?_⟩
    rw [List.length_map]
    refine while_by (fun σ H' => H' = H ∧ ∃ k : Nat, σ = [some (.ref a), some (.int (k : Int))] ∧ k ≤ ns.length ∧ ∀ (i : Nat) (z : Int), k ≤ i → ns[i]? = some z → z = 0)
      (fun σ _ => match σ with | [_, some (.int k)] => k.toNat | _ => 0) ⟨rfl, ns.length, rfl, Nat.le_refl _, fun i z hi hz => ?_⟩ ?_ ?_
    · have := (List.getElem?_eq_some_iff.mp hz).1
      omega
    · rintro σ H' ⟨rfl, k, rfl, hk, hz⟩
      refine ⟨_, rfl, _, _, rfl, rfl, _, rfl, ?_⟩
      rcases Nat.eq_zero_or_pos k with k0 | k0
      · subst k0
        refine iteF (iteF ⟨_, rfl, q 0 ⟨Nat.zero_le _, fun i z _ => hz i z (Nat.zero_le _), fun j e => by omega⟩⟩)
      · rw [decide_eq_true (show ((k : Int) > 0) by omega)]
        obtain ⟨j, rfl⟩ : ∃ j, k = j + 1 := ⟨k - 1, by omega⟩
        have jl : j < ns.length := by omega
        have it : (ns.map V.int)[j]? = some (.int ns[j]) := by
          rw [List.getElem?_map, List.getElem?_eq_getElem jl]
          rfl
        have ej : ((j + 1 : Nat) : Int) - 1 = (j : Int) := by omega
        refine iteT ⟨_, rfl, _, rfl, _, _, rfl, rfl, a, _, _, .int ns[j], rfl, rfl, hs, ?_, rfl, _, rfl, ?_⟩
        · rw [ej]
          exact atI_nat it
        by_cases z0 : ns[j] = 0
        · rw [decide_eq_true (by rw [z0])]
          refine iteT ⟨_, rfl, _, _, rfl, rfl, ⟨rfl, j, ?_, by omega, fun i z hi e => ?_⟩, ?_⟩
          · show [some (V.ref a), some (V.int (((j + 1 : Nat) : Int) - 1))] = _
            rw [ej]
          · rcases Nat.eq_or_lt_of_le hi with e' | lt
            · rw [← e', List.getElem?_eq_getElem jl, z0] at e
              cases e
              rfl
            · exact hz i z lt e
          · show (((j + 1 : Nat) : Int) - 1).toNat < ((j + 1 : Nat) : Int).toNat
            omega
        · rw [decide_eq_false (fun z => z0 (V.int.inj z))]
          exact iteF ⟨_, rfl, q (j + 1) ⟨hk, hz, fun j' e => ⟨ns[j], by
            obtain rfl : j = j' := by omega
            exact List.getElem?_eq_getElem jl, z0⟩⟩⟩
    · intro σ H Q Q' imp h
      obtain ⟨v, e, i, j, e1, e2, k, e3, h⟩ := h
      refine ⟨v, e, i, j, e1, e2, k, e3, ?_⟩
      cases k with
      | true =>
        rw [if_pos rfl] at h ⊢
        obtain ⟨v, e, v', e', i, j, e1, e2, p, xs, i', v2, e3, e4, hs, ha, e5, b, e6, h⟩ := h
        exact ⟨v, e, v', e', i, j, e1, e2, p, xs, i', v2, e3, e4, hs, ha, e5, b, e6, imp _ _ h⟩
      | false =>
        rw [if_neg (by decide)] at h ⊢
        exact imp _ _ h
end
end Kz
set_option linter.all false
set_option maxRecDepth 100000
set_option maxHeartbeats 4000000
namespace Kz
open PySem PySem.Spec PyProof.Rows L2
def AlA (K : PySem.W.Frag) (H : Hp) (us : List V) (n m : Nat) (qs : List Rat) : Prop := us.length = qs.length ∧ ∀ (i : Nat) (u : V) (q : Rat), us[i]? = some u → qs[i]? = some q → ArgQ K H u n m q
theorem AlA.same {K : PySem.W.Frag} {H H' : Hp} {us : List V} {n m : Nat} {qs : List Rat} (s : Same H H') (h : AlA K H us n m qs) : AlA K H' us n m qs := ⟨h.1, fun i u q a b => (h.2 i u q a b).same s⟩
theorem AlA.sz {K : PySem.W.Frag} {H : Hp} {us : List V} {n m : Nat} {qs : List Rat} (h : AlA K H us n m qs) : SzA n m qs := fun i l => by
  have l' : i < us.length := by rw [h.1]; exact l
  exact (h.2 i _ _ (List.getElem?_eq_getElem l') (at_cf l)).sz
theorem Al.arg {K : PySem.W.Frag} {H : Hp} {us : List V} {n m : Nat} {qs : List Rat} (h : Al K H us qs) (z : SzA n m qs) : AlA K H us n m qs := ⟨h.1, fun i u q a b => by
  have l : i < qs.length := (List.getElem?_eq_some_iff.mp b).1
  have e := z i l
  rw [cf_at b] at e
  exact (h.2 i u q a b).arg e⟩
/-- what is no row of ratios -/
def NotRow (K : PySem.W.Frag) (H : Hp) (v : V) : Prop := (∃ t, TyN K H v t ∧ (t == "tuple") = false ∧ (t == "list") = false) ∨ (∃ a us bs, v = .ref a ∧ Sq K H a us ∧ us.length ≤ 1000 ∧ RBs K H us bs ∧ bs.all id = false)
def ErR (cR : Addr) (H : Hp) (E : XK) (v : V) : Prop := ∀ (d : Addr) (H' : Hp), Same H H' → H' d = some (.xd [("row", v)]) → E (.ref cR) (some d) H'
theorem NotRow.same {K : PySem.W.Frag} {H H' : Hp} {v : V} (s : Same H H') (h : NotRow K H v) : NotRow K H' v := by
  rcases h with ⟨t, a, b⟩ | ⟨a, us, bs, e, hs, l, rb, f⟩
  · exact .inl ⟨t, a.same s, b⟩
  · exact .inr ⟨a, us, bs, e, hs.same s, l, ⟨rb.1, fun i u b x y => (rb.2 i u b x y).same s⟩, f⟩
theorem ErR.after {cR : Addr} {H H1 : Hp} {E : XK} {v : V} (s : Same H H1) (h : ErR cR H E v) : ErR cR H1 E v := fun d H' s' => h d H' (s.trans s')
theorem SqT.off {K : PySem.W.Frag} {H H' : Hp} {x a C dx : Addr} {fs : List (Str × V)} {xs : List V} (hx : H x = some (.ins C dx fs)) (b : But x H H') (h : SqT K H a xs) : SqT K H' a xs := by
  rcases h with (h | ⟨o, h⟩) | h
  · exact .inl (.inl (b _ _ h (ne_of h hx (fun z => nomatch z))))
  · exact .inl (.inr ⟨o, b _ _ h (ne_of h hx (fun z => nomatch z))⟩)
  · exact .inr h
theorem Al.off {K : PySem.W.Frag} {H H' : Hp} {x C dx : Addr} {fs : List (Str × V)} {vs : List V} {qs : List Rat} (hx : H x = some (.ins C dx fs)) (b : But x H H') (h : Al K H vs qs) : Al K H' vs qs := ⟨h.1, fun i v q e1 e2 => by
  obtain ⟨t, e, r⟩ := h.2 i v q e1 e2
  exact ⟨t, e, Kz.SqT.off hx b r⟩⟩
theorem cut_take {vs : List V} {k : Nat} (h : k ≤ vs.length) : cutV vs none (some (k : Int)) = vs.take k := by
  unfold cutV
  rw [HT.sIx_none, List.drop_zero]
  have e : HT.sIx vs.length vs.length (some (k : Int)) = k := by
    show (if (k : Int) < 0 then ((k : Int) + (vs.length : Int)).toNat else min (k : Int).toNat vs.length) = k
    rw [if_neg (by omega)]
    have : (k : Int).toNat = k := rfl
    rw [this]
    exact Nat.min_eq_left h
  rw [e]
  rfl
/-- the numbers of a row above the line -/
def numsOf (qs : List Rat) : List Int := qs.map (·.num)
theorem need_of {qs : List Rat} {k : Nat} (h : NeedI (numsOf qs) k) : Need qs k := by
  have l : (numsOf qs).length = qs.length := List.length_map _
  refine ⟨by rw [← l]; exact h.1, fun i hi => ?_, fun j e => ?_⟩
  · rcases Nat.lt_or_ge i qs.length with lt | ge
    · have := h.2.1 i (cf qs i).num hi (by unfold numsOf; rw [List.getElem?_map, at_cf lt]; rfl)
      exact Rat.num_eq_zero.mp this
    · exact cf_out ge
  · obtain ⟨z, e1, e2⟩ := h.2.2 j e
    unfold numsOf at e1
    rw [List.getElem?_map] at e1
    intro c
    have lt : j < qs.length := by
      have := h.1
      omega
    rw [at_cf lt, c] at e1
    cases e1
    exact e2 rfl
def spInit (K : PySem.W.Frag) (cP cR : Addr) : Sp := fun vs H Q E => ∃ x dx v, vs = [.ref x, v] ∧ H x = some (.ins cP dx []) ∧
  ((∃ a us qs n m, v = .ref a ∧ Sq K H a us ∧ AlA K H us n m qs ∧ m ≤ 9000 ∧ us.length ≤ 1000 ∧
    ∀ (H' : Hp) (t : Addr) (ws : List V) (rs : List Rat), But x H H' → H' x = some (.ins cP dx [("numbers", .ref t)]) → SqT K H' t ws → Al K H' ws rs → Tr rs → rs.length ≤ qs.length → (∀ i, cf rs i = cf qs i) → Q .non H') ∨
   (NotRow K H v ∧ ErR cR H E v))
/-! ### a comprehension that makes a row, one value for each item -/
/-- what holds of the row made so far bears new objects and the row's own growth -/
def Bears (D : Addr) (R : Nat → List V → Hp → Prop) : Prop := ∀ (i : Nat) (acc : List V) (H H' : Hp), (∀ o, H D = some o → ∃ us, o = .lst us) → But D H H' → R i acc H → R i acc H'
theorem bears_al {K : PySem.W.Frag} {D : Addr} {qs : List Rat} : Bears D (fun i acc H => Al K H acc (qs.take i)) := fun i acc H H' l b h => ⟨h.1, fun j v q e1 e2 => by
  obtain ⟨t, e, r⟩ := h.2 j v q e1 e2
  refine ⟨t, e, ?_⟩
  have ne : ∀ {o : HO}, H t = some o → (∀ us, o ≠ .lst us) → t ≠ D := fun {o} e n z => by
    rw [z] at e
    obtain ⟨us, e'⟩ := l _ e
    exact n us e'
  rcases r with (r | ⟨o, r⟩) | r
  · exact .inl (.inl (b _ _ r (ne r (fun us z => nomatch z))))
  · exact .inl (.inr ⟨o, b _ _ r (ne r (fun us z => nomatch z))⟩)
  · exact .inr r⟩
theorem bears_pure {D : Addr} {R : Nat → List V → Prop} : Bears D (fun i acc _ => R i acc) := fun _ _ _ _ _ _ h => h
section
variable {K : PySem.W.Frag} {a : Addr} {xs : List V} {g : TG} {te : TE} {vs : List Nat} {σ : L2.St} {H1 : Hp} {D : Addr} {Qd : Hp → Prop}
abbrev StepOf (g : TG) (te : TE) (vs : List Nat) (σ : L2.St) (H1 : Hp) (R : Nat → List V → Hp → Prop) (i : Nat) (x : V) : Prop :=
  ∀ (acc : List V) (H' : Hp) (Qk : VK) (Z : Hp → Prop), acc.length = i → R i acc H' → Same H1 H' → (∀ y H4, Same H' H4 → R (i + 1) (acc ++ [y]) H4 → Qk y H4) →
    g x (wipe σ vs) H' fun σ2 H2 => wipe σ2 vs = wipe σ vs ∧ tYes σ2 H2 fun b H3 => if b = true then te σ2 H3 Qk else Z H3
theorem lc_mapL (hl : SqL K H1 a xs) (len : xs.length ≤ 1000) (hD : H1 D = none) (R : Nat → List V → Hp → Prop) (br : Bears D R) (h0 : R 0 [] H1) (step : ∀ i x, xs[i]? = some x → StepOf g te vs σ H1 R i x)
    (fin : ∀ acc H', H' D = some (.lst acc) → acc.length = xs.length → R xs.length acc H' → Same H1 H' → Qd H') : ∃ W : Nat → Nat → Hp → Prop, (∃ m, W 0 m (upd H1 D (.lst []))) ∧ ∀ i m H, W i m H →
      ((Itl K a).stop i H ∧ Qd H) ∨ ((Itl K a).go i H ∧ ∃ Nx : Hp → Prop, (∀ H', Nx H' → ∃ m', m' < m ∧ W (i + 1) m' H') ∧ ∀ x H', (Itl K a).yld i H x H' → g x (wipe σ vs) H' fun σ2 H2 => wipe σ2 vs = wipe σ vs ∧ tYes σ2 H2 fun b H3 =>
        if b = true then te σ2 H3 fun y H4 => ∃ acc, H4 D = some (.lst acc) ∧ acc.length < sizeLine ∧ Nx (upd H4 D (.lst (acc ++ [y]))) else Nx H3) := by
  refine lc_list (fun i H' => ∃ acc, H' D = some (.lst acc) ∧ acc.length = i ∧ i ≤ xs.length ∧ R i acc H' ∧ Same H1 H') ⟨[], upd_same, rfl, Nat.zero_le _, br _ _ _ _ (fun o e => by rw [hD] at e; cases e) (But.refl.set) h0, Same.new hD⟩
    (fun i H' _ ⟨acc, _, _, _, _, s⟩ => Same.seq s hl) ?_ fun H' ⟨acc, e, l, _, r, s⟩ => fin acc H' e l r s
  rintro i x H' hx ⟨acc, e, l, le, r, s⟩
  have lt : i < xs.length := (List.getElem?_eq_some_iff.mp hx).1
  refine step i x hx acc H' _ _ l r s fun y H4 s4 r4 => ⟨acc, s4 _ _ e, le1000 (by omega), acc ++ [y], upd_same, by simp [l], lt, br _ _ _ _ (fun o e4 => ?_) But.refl.set r4, fun c u ec => ?_⟩
  · rw [s4 _ _ e] at e4
    cases e4
    exact ⟨_, rfl⟩
  · rw [upd_ne (ne_of_none ec hD)]
    exact s4 _ _ (s _ _ ec)
theorem lc_mapT (hl : SqT K H1 a xs) (len : xs.length ≤ 1000) (hD : H1 D = none) (R : Nat → List V → Hp → Prop) (br : Bears D R) (h0 : R 0 [] H1) (step : ∀ i x, xs[i]? = some x → StepOf g te vs σ H1 R i x)
    (fin : ∀ acc H', H' D = some (.lst acc) → acc.length = xs.length → R xs.length acc H' → Same H1 H' → Qd H') : ∃ W : Nat → Nat → Hp → Prop, (∃ m, W 0 m (upd H1 D (.lst []))) ∧ ∀ i m H, W i m H →
      ((Itt K a).stop i H ∧ Qd H) ∨ ((Itt K a).go i H ∧ ∃ Nx : Hp → Prop, (∀ H', Nx H' → ∃ m', m' < m ∧ W (i + 1) m' H') ∧ ∀ x H', (Itt K a).yld i H x H' → g x (wipe σ vs) H' fun σ2 H2 => wipe σ2 vs = wipe σ vs ∧ tYes σ2 H2 fun b H3 =>
        if b = true then te σ2 H3 fun y H4 => ∃ acc, H4 D = some (.lst acc) ∧ acc.length < sizeLine ∧ Nx (upd H4 D (.lst (acc ++ [y]))) else Nx H3) := by
  refine lc_tup (fun i H' => ∃ acc, H' D = some (.lst acc) ∧ acc.length = i ∧ i ≤ xs.length ∧ R i acc H' ∧ Same H1 H') ⟨[], upd_same, rfl, Nat.zero_le _, br _ _ _ _ (fun o e => by rw [hD] at e; cases e) (But.refl.set) h0, Same.new hD⟩
    (fun i H' _ ⟨acc, _, _, _, _, s⟩ => Kz.Same.seqT s hl) ?_ fun H' ⟨acc, e, l, _, r, s⟩ => fin acc H' e l r s
  rintro i x H' hx ⟨acc, e, l, le, r, s⟩
  have lt : i < xs.length := (List.getElem?_eq_some_iff.mp hx).1
  refine step i x hx acc H' _ _ l r s fun y H4 s4 r4 => ⟨acc, s4 _ _ e, le1000 (by omega), acc ++ [y], upd_same, by simp [l], lt, br _ _ _ _ (fun o e4 => ?_) But.refl.set r4, fun c u ec => ?_⟩
  · rw [s4 _ _ e] at e4
    cases e4
    exact ⟨_, rfl⟩
  · rw [upd_ne (ne_of_none ec hD)]
    exact s4 _ _ (s _ _ ec)
theorem lc_mapR {lo : Int} {n : Nat} (len : n ≤ 1000) (hD : H1 D = none) (R : Nat → List V → Hp → Prop) (br : Bears D R) (h0 : R 0 [] H1) (step : ∀ i, i < n → StepOf g te vs σ H1 R i (.int (lo + i)))
    (fin : ∀ acc H', H' D = some (.lst acc) → acc.length = n → R n acc H' → Same H1 H' → Qd H') : ∃ W : Nat → Nat → Hp → Prop, (∃ m, W 0 m (upd H1 D (.lst []))) ∧ ∀ i m H, W i m H →
      ((Itr lo n).stop i H ∧ Qd H) ∨ ((Itr lo n).go i H ∧ ∃ Nx : Hp → Prop, (∀ H', Nx H' → ∃ m', m' < m ∧ W (i + 1) m' H') ∧ ∀ x H', (Itr lo n).yld i H x H' → g x (wipe σ vs) H' fun σ2 H2 => wipe σ2 vs = wipe σ vs ∧ tYes σ2 H2 fun b H3 =>
        if b = true then te σ2 H3 fun y H4 => ∃ acc, H4 D = some (.lst acc) ∧ acc.length < sizeLine ∧ Nx (upd H4 D (.lst (acc ++ [y]))) else Nx H3) := by
  refine lc_range (fun i H' => ∃ acc, H' D = some (.lst acc) ∧ acc.length = i ∧ i ≤ n ∧ R i acc H' ∧ Same H1 H') ⟨[], upd_same, rfl, Nat.zero_le _, br _ _ _ _ (fun o e => by rw [hD] at e; cases e) (But.refl.set) h0, Same.new hD⟩
    ?_ fun H' ⟨acc, e, l, _, r, s⟩ => fin acc H' e l r s
  rintro i H' lt ⟨acc, e, l, le, r, s⟩
  refine step i lt acc H' _ _ l r s fun y H4 s4 r4 => ⟨acc, s4 _ _ e, le1000 (by omega), acc ++ [y], upd_same, by simp [l], lt, br _ _ _ _ (fun o e4 => ?_) But.refl.set r4, fun c u ec => ?_⟩
  · rw [s4 _ _ e] at e4
    cases e4
    exact ⟨_, rfl⟩
  · rw [upd_ne (ne_of_none ec hD)]
    exact s4 _ _ (s _ _ ec)
end
/-- over a variable that is a tuple or a list -/
theorem lc_mapS {K : PySem.W.Frag} {a : Addr} {xs : List V} {g : TG} {te : TE} {vs : List Nat} {σ : L2.St} {H1 : Hp} {j : Nat} {Q : Addr → Hp → Prop} (hj : σ[j]? = some (some (.ref a))) (hs : Sq K H1 a xs) (len : xs.length ≤ 1000) (R : Nat → List V → Hp → Prop)
    (br : ∀ D, Bears D R) (h0 : R 0 [] H1) (step : ∀ i x, xs[i]? = some x → StepOf g te vs σ H1 R i x) (fin : ∀ D acc H', H' D = some (.lst acc) → acc.length = xs.length → R xs.length acc H' → Same H1 H' → Q D H') :
    (iList K (tVar j) σ H1 fun J H1 => ∀ D, H1 D = none → ∃ W : Nat → Nat → Hp → Prop, (∃ m, W 0 m (upd H1 D (.lst []))) ∧ ∀ i m H, W i m H →
  (J.stop i H ∧ Q D H) ∨ (J.go i H ∧ ∃ Nx : Hp → Prop, (∀ H', Nx H' → ∃ m', m' < m ∧ W (i + 1) m' H') ∧ ∀ x H', J.yld i H x H' → g x (wipe σ vs) H' fun σ2 H2 => wipe σ2 vs = wipe σ vs ∧ tYes σ2 H2 fun b H3 =>
    if b = true then te σ2 H3 fun y H4 => ∃ acc, H4 D = some (.lst acc) ∧ acc.length < sizeLine ∧ Nx (upd H4 D (.lst (acc ++ [y]))) else Nx H3)) ∨ (iTup K (tVar j) σ H1 fun J H1 => ∀ D, H1 D = none → ∃ W : Nat → Nat → Hp → Prop, (∃ m, W 0 m (upd H1 D (.lst []))) ∧ ∀ i m H, W i m H →
  (J.stop i H ∧ Q D H) ∨ (J.go i H ∧ ∃ Nx : Hp → Prop, (∀ H', Nx H' → ∃ m', m' < m ∧ W (i + 1) m' H') ∧ ∀ x H', J.yld i H x H' → g x (wipe σ vs) H' fun σ2 H2 => wipe σ2 vs = wipe σ vs ∧ tYes σ2 H2 fun b H3 =>
    if b = true then te σ2 H3 fun y H4 => ∃ acc, H4 D = some (.lst acc) ∧ acc.length < sizeLine ∧ Nx (upd H4 D (.lst (acc ++ [y]))) else Nx H3)) := by
  rcases hs with hl | ht
  · exact .inl ⟨_, hj, a, rfl, ⟨_, hl⟩, fun D hD => lc_mapL hl len hD R (br D) h0 step fun acc H' => fin D acc H'⟩
  · exact .inr ⟨_, hj, a, rfl, ⟨_, ht⟩, fun D hD => lc_mapT ht len hD R (br D) h0 step fun acc H' => fin D acc H'⟩
end Kz
set_option linter.all false
set_option maxRecDepth 100000
set_option maxHeartbeats 4000000
namespace Kz
open PySem PySem.Spec PyProof.Rows L2
theorem boot_int' : True := trivial
section
variable {P : Program} {w : World} {K : PySem.W.Frag} {mg : Str → Option Value} {base : Heap}
abbrev nP0 : List Str := ["self", "numbers", "pairs", "number", "top", "_"]
theorem scP0 : FnScope nP0 ["self", "numbers"] (defScope (sP 0)) := ⟨rfl, rfl, rfl, by decide +kernel, rfl, by decide +kernel, by decide +kernel⟩
theorem ints_get {qs : List Rat} {i : Nat} (lt : i < qs.length) : (numsOf qs)[i]? = some (cf qs i).num := by
  unfold numsOf
  rw [List.getElem?_map, at_cf lt]
  rfl
theorem ok_pinit (T : Tz P K mg) : FnOk P w K mg base (CX P w) 5 T.p_init.f T.p_init.fd ["self", "numbers"] (spInit K T.cP T.cR) := by
  have G1 : FnOk P w K mg base CX0 4 T.is_row.f T.is_row.fd ["value"] (spRow K) := ok_row T
  have G2 : FnOk P w K mg base (CX P w) 4 T.told.f T.told.fd ["value", "what"] (spTold K T.cN) := ok_told T.toTx
  have G3 : FnOk P w K mg base CX0 1 T.many_needed.f T.many_needed.fd ["row"] (spNeed K) := ok_need T
  refine T.p_init.fn.okX scP0 (fun vs H Q E h => ?_) (fun cdv A outer s H vs Q E hr h => ?_)
  · obtain ⟨x, dx, v, rfl, _⟩ := h
    rfl
  · obtain ⟨x, dx, v, rfl, hx, h⟩ := h
    have tk := takes_of (X := cxOf (CX P w) P w K mg base nP0 "Poly.__init__" (defScope (sP 0)) T.p_init.f cdv A outer s H E) (E := E) rfl rfl rfl rfl
    refine ⟨_, pss_cons (ps_if (pt_not (pt_val (T.is_row.c0 G1 hr (pa_cons (pv 1) pa_nil))))
        (pss_one (ps_raise rfl tk (pmk_oex (CX := CX0) T.eR.o T.iR.i T.iR.t (ok_i4 T.iR.fn) (hr.mono (by decide)) T.bR .nil pass0 rfl T.eR.g (pa_cons (pv 1) pa_nil)))) pss_nil)
      (pss_cons (ps_setLc (i := 2) (own := [("number", 3)]) (g := gName 3) (tt := tYes) rfl scP0.nd rfl rfl (sw_true rfl rfl rfl (by decide +kernel)) (pi_or (pi_list (pv 1)) (pi_tup (pv 1))) (blkOk_by (own := [("number", 3)]) (N := nP0) (sc := defScope (sP 0)) (by decide +kernel))
        (fun _ _ _ _ _ => pg_name (i := 3) scP0.nd rfl (Or.inl rfl)) (fun _ _ _ _ _ => pts_nil) (fun _ _ _ _ _ => T.told.cX G2 hr (pa_cons (pv 3) (pa_cons pe_str pa_nil))))
      (pss_one (ps_fld (pv 0) (pe_callTy call_tuple_of (by rfl) T.mTuple boot_ttuple (pa_cons (pe_slice sl_list (pv 2) po_none (po_some (T.many_needed.c0 G3 (hr.mono (by decide)) (pa_cons
        (pe_lc (own := [("top", 4), ("_", 5)]) (g := gTup K 2 (gCons (gName 4) (gCons (gName 5) gNil))) (tt := tYes) rfl scP0.nd (pi_list (pv 2)) (blkOk_by (own := [("top", 4), ("_", 5)]) (N := nP0) (sc := defScope (sP 0)) (by decide +kernel))
          (fun _ _ _ _ _ => pg_tup (by rfl) (pgs_cons (pg_name (i := 4) scP0.nd rfl (Or.inl rfl)) (pgs_cons (pg_name (i := 5) scP0.nd rfl (Or.inl rfl)) pgs_nil))) (fun _ _ _ _ _ => pts_nil) (fun _ _ _ _ _ => pv 4)) pa_nil)))) pa_nil)) (by rfl)))), ?_⟩
    rcases h with ⟨a, us, qs, n, m, rfl, hs, al, hm, len, q⟩ | ⟨nr, er⟩
    · have rbs : RBs K H us (List.replicate us.length true) := ⟨List.length_replicate, fun i u b e1 e2 => by
        have lt : i < us.length := (List.getElem?_eq_some_iff.mp e1).1
        rw [List.getElem?_replicate, if_pos lt] at e2
        cases e2
        exact (al.2 i u _ e1 (at_cf (by rw [← al.1]; exact lt))).rb⟩
      refine ⟨_, rfl, _, rfl, .inr ⟨a, us, _, rfl, hs, len, rbs, fun H1 s1 => ?_⟩⟩
      have all1 : (List.replicate us.length true).all id = true := by simp
      rw [all1]
      refine ⟨_, rfl, iteF ?_⟩
      have hs1 := hs.same s1
      have al1 := al.same s1
      refine lc_mapS (K := K) (σ := L2.start nP0 [.ref x, .ref a]) (g := gName 3) (vs := [3]) (j := 1) rfl hs1 len (fun i acc H' => Al K H' acc (qs.take i)) (fun D => bears_al) Al.nil ?_ ?_
      · intro i x hx acc H' Qk Z l r s k
        have lt : i < us.length := (List.getElem?_eq_some_iff.mp hx).1
        have ltq : i < qs.length := by rw [← al.1]; exact lt
        refine ⟨rfl, ?_⟩
        dsimp only [tYes]
        refine iteT ⟨_, rfl, _, _, rfl, .inl ⟨_, n, m, (al1.2 i x _ hx (at_cf ltq)).same s, hm, fun v' H4 s4 rv => k _ _ s4 ?_⟩⟩
        show Al K H4 (acc ++ [v']) (qs.take (i + 1))
        rw [take_snoc (at_cf ltq)]
        exact (Al.same s4 r).snoc rv
      · intro D vs H2 hv lv av s2
        have av : Al K H2 vs (qs.take us.length) := av
        rw [al.1, List.take_length] at av
        have lvq : vs.length = qs.length := av.1
        refine ⟨_, rfl, ?_⟩
        refine ⟨_, rfl, D, rfl, ⟨_, SqL.of hv⟩, fun D2 hD2 => ?_⟩
        refine lc_mapL (SqL.of hv) (by omega) hD2 (fun i acc _ => acc = ((numsOf qs).take i).map V.int) bears_pure rfl ?_ ?_
        · intro i x hx acc H' Qk Z l r s k
          have lt : i < vs.length := (List.getElem?_eq_some_iff.mp hx).1
          have ltq : i < qs.length := by omega
          obtain ⟨t, rfl, ht⟩ := (av.2 i x _ hx (at_cf ltq)).same s
          refine ⟨t, _, rfl, ht, rfl, _, _, rfl, _, _, rfl, rfl, rfl, ?_⟩
          dsimp only [tYes]
          refine iteT ⟨_, rfl, k _ _ (Same.refl _) ?_⟩
          show acc ++ [V.int (cf qs i).num] = ((numsOf qs).take (i + 1)).map V.int
          rw [take_snoc (ints_get ltq), List.map_append, r]
          rfl
        · intro acc H3 hacc lacc r s3
          have ln : (numsOf qs).length = qs.length := List.length_map _
          have r' : acc = ((numsOf qs).take vs.length).map V.int := r
          rw [lvq, ← ln, List.take_length] at r'
          subst r'
          refine ⟨D2, _, rfl, SqL.of hacc, by omega, fun k0 hk => ?_⟩
          have nk := need_of hk
          refine ⟨_, rfl, D, vs, rfl, SqL.of (s3 _ _ hv), fun D4 hD4 => ?_⟩
          rw [cut_take (by rw [lvq]; exact nk.1)]
          refine ⟨D4, _, rfl, .inl ⟨SqL.of upd_same, fun t ht => ?_⟩⟩
          have s4 : Same H3 (upd (upd H3 D4 (.lst (vs.take k0))) t (.tup (vs.take k0))) := (Same.new hD4).trans (Same.new ht)
          have et : upd (upd H3 D4 (.lst (vs.take k0))) t (.tup (vs.take k0)) t = some (.tup (vs.take k0)) := upd_same
          generalize upd (upd H3 D4 (.lst (vs.take k0))) t (.tup (vs.take k0)) = H4 at s4 et
          have sAll : Same H H4 := ((s1.trans s2).trans s3).trans s4
          have hx4 := sAll _ _ hx
          refine ⟨_, rfl, x, T.cP, dx, [], rfl, hx4, T.clP, T.nP, by decide, ?_⟩
          have b : But x H4 (upd H4 x (.ins T.cP dx (putF "numbers" (.ref t) []))) := But.refl.set
          refine q _ t _ (qs.take k0) (fun c u e ne => b c u (sAll _ _ e) ne) upd_same (Kz.SqT.off hx4 b (SqT.of et)) ((((av.take k0).same s3).same s4).off hx4 b) (need_tr nk) (by rw [List.length_take]; omega) (need_cf nk)
    · rcases nr with ⟨t, ty, n1, n2⟩ | ⟨a, us, bs, rfl, hs, len, rb, f⟩
      · refine ⟨_, rfl, _, rfl, .inl ⟨t, ty, n1, n2, fun H1 s1 => ⟨_, rfl, iteT ⟨_, rfl, ?_⟩⟩⟩⟩
        exact raised1 T.eR.o T.nR1 fun d H' s' e => er d H' (s1.trans s') e
      · refine ⟨_, rfl, _, rfl, .inr ⟨a, us, bs, rfl, hs, len, rb, fun H1 s1 => ?_⟩⟩
        rw [f]
        exact ⟨_, rfl, iteT ⟨_, rfl, raised1 T.eR.o T.nR1 fun d H' s' e => er d H' (s1.trans s') e⟩⟩
end
end Kz
set_option linter.all false
set_option maxRecDepth 100000
set_option maxHeartbeats 4000000
namespace Kz
open PySem PySem.Spec PyProof.Rows L2
/-- a Poly with these numbers -/
def PolyAt (K : PySem.W.Frag) (cP : Addr) (H : Hp) (v : V) (qs : List Rat) : Prop := ∃ a dx t ws, v = .ref a ∧ H a = some (.ins cP dx [("numbers", .ref t)]) ∧ SqT K H t ws ∧ Al K H ws qs ∧ Tr qs
theorem PolyAt.same {K : PySem.W.Frag} {cP : Addr} {H H' : Hp} {v : V} {qs : List Rat} (s : Same H H') (h : PolyAt K cP H v qs) : PolyAt K cP H' v qs := by
  obtain ⟨a, dx, t, ws, e, ha, ht, al, tr⟩ := h
  exact ⟨a, dx, t, ws, e, s _ _ ha, Kz.Same.seqT s ht, al.same s, tr⟩
theorem lkN {v : V} : ([(("numbers" : Str), v)] : List (Str × V)).lookup ("numbers" : Str) = some v := by simp [List.lookup]
section
variable {P : Program} {w : World} {K : PySem.W.Frag} {mg : Str → Option Value} {base : Heap}
/-- Poly(row), read -/
theorem poly_made {cP cR : Addr} {H : Hp} {a : Addr} {us : List V} {qs : List Rat} {n m : Nat} {Q : VK} {E : XK} (hs : Sq K H a us) (al : AlA K H us n m qs) (hm : m ≤ 9000) (len : us.length ≤ 1000)
    (k : ∀ (v : V) (H' : Hp) (rs : List Rat), Same H H' → PolyAt K cP H' v rs → rs.length ≤ qs.length → (∀ i, cf rs i = cf qs i) → Q v H') :
    ∀ x dx, H x = none → H dx = none → dx ≠ x → spInit K cP cR (.ref x :: ([.ref a] ++ [])) (upd (upd H dx (.own x)) x (.ins cP dx [])) (fun v H2 => v = .non ∧ Q (.ref x) H2) E := by
  intro x dx nx ndx ne
  have s1 : Same H (upd (upd H dx (.own x)) x (.ins cP dx [])) := fun c u e => by
    rw [upd_ne (ne_of_none e nx), upd_ne (ne_of_none e ndx)]
    exact e
  refine ⟨x, dx, _, rfl, upd_same, .inl ⟨a, us, qs, n, m, rfl, hs.same s1, al.same s1, hm, len, fun H' t ws rs b ex ht al' tr l e => ⟨rfl, ?_⟩⟩⟩
  exact k _ H' rs (fun c u ec => b c u (s1 _ _ ec) (ne_of_none ec nx)) ⟨x, dx, t, ws, rfl, ex, ht, al', tr⟩ l e
theorem poly_bad {cP cR : Addr} {H : Hp} {v : V} {Q : VK} {E : XK} (nr : NotRow K H v) (er : ErR cR H E v) :
    ∀ x dx, H x = none → H dx = none → dx ≠ x → spInit K cP cR (.ref x :: ([v] ++ [])) (upd (upd H dx (.own x)) x (.ins cP dx [])) (fun v H2 => v = .non ∧ Q (.ref x) H2) E := by
  intro x dx nx ndx ne
  have s1 : Same H (upd (upd H dx (.own x)) x (.ins cP dx [])) := fun c u e => by
    rw [upd_ne (ne_of_none e nx), upd_ne (ne_of_none e ndx)]
    exact e
  exact ⟨x, dx, _, rfl, upd_same, .inr ⟨nr.same s1, er.after s1⟩⟩
/-- Poly(e) as an expression, where it raises nothing -/
theorem Tz.cPoly {X : Cx} {p pos : Pos} {e : Expr} {t : TA} (T : Tz P K mg) (hr : Room 6 X.A) (ha : PA X [e] t) (of : Of X P w K mg base := by exact ⟨rfl, rfl, rfl, rfl, rfl⟩) (hg : Gl X "Poly" := by rfl)
    (st : starEach [e] X.env = (false, eval e X.env) :: starEach [] X.env := by rfl) (nost : (backTo pos (starEach [] X.env)).any (·.1) = false := by rfl) :
    PE X (.Call (.Name "Poly" p) [e] [] pos) (tMake T.cP (spInit K T.cP T.cR) [] (fun _ _ _ => False) t) := by
  obtain ⟨rfl, rfl, rfl, rfl, rfl⟩ := of
  exact pe_make T.mkP (ok_pinit T) hr hg T.mgP T.p_init.b .nil passL ha (by decide) st nost
/-- p.numbers -/
theorem pe_nums {X : Cx} {o : Expr} {ta : TE} {pos : Pos} (T : Tz X.prog X.K X.mg) (h : PE X o ta) (hb : attributeBase o "numbers" X.env (eval o X.env) = eval o X.env := by rfl) : PE X (.Attribute o "numbers" pos) (tFld X.K ta "numbers") := pe_fld h hb
def spNumFor (K : PySem.W.Frag) (cP : Addr) : Sp := fun vs H Q _ => ∃ p qs k, vs = [p, .int ((k : Nat) : Int)] ∧ PolyAt K cP H p qs ∧ ∀ v H', Same H H' → RV K H' v (cf qs k) → Q v H'
theorem sc26 : FnScope ["poly", "power"] ["poly", "power"] (defScope (top 28)) := ⟨rfl, rfl, rfl, by decide +kernel, rfl, by decide +kernel, by decide +kernel⟩
theorem rv_zero {H : Hp} {p : Addr} (h : SqT K H p [.int 0, .int 1]) : RV K H (.ref p) 0 := ⟨p, rfl, h⟩
theorem ok_numfor (T : Tz P K mg) : FnOk P w K mg base CX0 1 T.number_for.f T.number_for.fd ["poly", "power"] (spNumFor K T.cP) := by
  refine T.number_for.fn.ok sc26 (fun vs H Q E h => ?_) (fun cdv A outer s H vs Q E hr h => ?_)
  · obtain ⟨p, qs, k, rfl, _⟩ := h
    rfl
  · obtain ⟨p, qs, k, rfl, ⟨a, dx, t, ws, rfl, ha, ht, al, tr⟩, q⟩ := h
    refine ⟨_, pss_cons (ps_if (pt_cmpR op_lt (pv 1) (pe_callB call_len_seq (by rfl) T.blt.len PySem.boot_len (pa_cons (pe_fld (pv 0) (by rfl)) pa_nil)) (nomark _))
        (pss_one (ps_ret (pe_ix ix_tup (pe_fld (pv 0) (by rfl)) (pv 1) (fun _ _ => rfl)))) pss_nil)
      (pss_one (ps_ret (pe_tup (pa_cons pe_int (pa_cons pe_int pa_nil))))), ?_⟩
    refine ⟨_, rfl, _, rfl, a, T.cP, dx, _, _, rfl, ha, T.clP, T.nP, lkN, t, ws, rfl, .inr ht, _, _, rfl, rfl, _, rfl, ?_⟩
    refine ite2 (fun lt => ?_) (fun ge => ?_)
    · have lt' : (k : Int) < (ws.length : Int) := of_decide_eq_true lt
      have ltq : k < qs.length := by
        have := al.1
        omega
      obtain ⟨v, e, rv⟩ := al.get ltq
      exact ⟨_, rfl, a, T.cP, dx, _, _, rfl, ha, T.clP, T.nP, lkN, _, rfl, t, ws, _, v, rfl, rfl, ht, atI_nat e, q v H (Same.refl _) rv⟩
    · have ge' : ¬ ((k : Int) < (ws.length : Int)) := fun z => ge (decide_eq_true z)
      have : qs.length ≤ k := by
        have := al.1
        omega
      refine ⟨(by show 2 ≤ sizeLine; decide), fun p hp => q _ _ (Same.new hp) ?_⟩
      rw [cf_out this]
      exact rv_zero (SqT.of upd_same)
/-- sizes of a sum -/
theorem add_sz {n m n' m' : Nat} {q r : Rat} (a : Sz n m q) (b : Sz n' m' r) : Sz (n + n' + m + m' + 1) (m + m') (q + r) := by
  have e := rat_add q r
  rw [← e]
  refine sz_divInt (Int.mul_pos (den_pos' q) (den_pos' r)) ?_ (wide_lt (den_abs a) (den_abs b))
  have h1 : (q.num * (r.den : Int)).natAbs < 2 ^ (n + m') := wide_lt a.1 (den_abs b)
  have h2 : (r.num * (q.den : Int)).natAbs < 2 ^ (n' + m) := wide_lt b.1 (den_abs a)
  have l1 : 2 ^ (n + m') ≤ 2 ^ (n + n' + m + m') := pow_up (by omega)
  have l2 : 2 ^ (n' + m) ≤ 2 ^ (n + n' + m + m') := pow_up (by omega)
  have : (q.num * (r.den : Int) + r.num * (q.den : Int)).natAbs ≤ (q.num * (r.den : Int)).natAbs + (r.num * (q.den : Int)).natAbs := Int.natAbs_add_le _ _
  rw [Nat.pow_succ]
  omega
def spAdded (K : PySem.W.Frag) (cP : Addr) : Sp := fun vs H Q _ => ∃ p r qs rs n m n' m', vs = [p, r] ∧ PolyAt K cP H p qs ∧ PolyAt K cP H r rs ∧ SzA n m qs ∧ SzA n' m' rs ∧ 0 < n ∧ 0 < m ∧ 0 < n' ∧ 0 < m' ∧ n + n' + m + m' ≤ 800000 ∧ m + m' ≤ 9000 ∧ qs.length ≤ 1000 ∧ rs.length ≤ 1000 ∧
  ∀ v H' ts, Same H H' → PolyAt K cP H' v ts → (∀ i, cf ts i = cf qs i + cf rs i) → ts.length ≤ max qs.length rs.length → Q v H'
theorem sz_zero {n m : Nat} (a : 0 < n) (b : 0 < m) : Sz n m 0 := ⟨by show (0 : Nat) < 2 ^ n; exact Nat.two_pow_pos _, by show (1 : Nat) < 2 ^ m; exact Nat.one_lt_two_pow (by omega)⟩
theorem SzA.all {n m : Nat} {qs : List Rat} (h : SzA n m qs) (a : 0 < n) (b : 0 < m) (i : Nat) : Sz n m (cf qs i) := by
  rcases Nat.lt_or_ge i qs.length with lt | ge
  · exact h i lt
  · rw [cf_out ge]
    exact sz_zero a b
theorem sc27 : FnScope ["one", "other", "many", "k"] ["one", "other"] (defScope (top 29)) := ⟨rfl, rfl, rfl, by decide +kernel, rfl, by decide +kernel, by decide +kernel⟩
theorem boot_max' : bootBuiltins "max" = some (.builtin "max") := by decide +kernel
/-- the ratios of a function from 0 on -/
def upTo (n : Nat) (f : Nat → Rat) : List Rat := (List.range n).map f
theorem upTo_len {n : Nat} {f : Nat → Rat} : (upTo n f).length = n := by
  unfold upTo
  rw [List.length_map, List.length_range]
theorem upTo_at {n i : Nat} {f : Nat → Rat} (h : i < n) : (upTo n f)[i]? = some (f i) := by
  unfold upTo
  rw [List.getElem?_map, List.getElem?_range h]
  rfl
theorem upTo_cf {n i : Nat} {f : Nat → Rat} (z : ∀ i, n ≤ i → f i = 0) : cf (upTo n f) i = f i := by
  rcases Nat.lt_or_ge i n with lt | ge
  · exact cf_at (upTo_at lt)
  · rw [cf_out (by rw [upTo_len]; exact ge), z i ge]
theorem ok_added (T : Tz P K mg) : FnOk P w K mg base CX0 7 T.added.f T.added.fd ["one", "other"] (spAdded K T.cP) := by
  have G1 : FnOk P w K mg base CX0 1 T.number_for.f T.number_for.fd ["poly", "power"] (spNumFor K T.cP) := ok_numfor T
  have G2 : FnOk P w K mg base (CX P w) 5 T.plus.f T.plus.fd ["one", "other"] (spTwo K T.cN cBin (fun H v q r => RV K H v (q + r))) := ok_plus T.toTx
  refine T.added.fn.ok sc27 (fun vs H Q E h => ?_) (fun cdv A outer s H vs Q E hr h => ?_)
  · obtain ⟨p, r, qs, rs, n, m, n', m', rfl, _⟩ := h
    rfl
  · obtain ⟨p, r, qs, rs, n, m, n', m', rfl, hp, hr', zq, zr, n0, m0, n0', m0', l1, l2, l3, l4, q⟩ := h
    have hr1 : Room 1 _ := hr.mono (by decide)
    have hr5 : Room 5 _ := hr.mono (by decide)
    refine ⟨_, pss_cons (ps_set (i := 2) sc27.nd rfl (.inl rfl) (pe_callB (call_max2 rfl) (by rfl) T.mMax boot_max' (pa_cons (pe_callB call_len_seq (by rfl) T.blt.len PySem.boot_len (pa_cons (pe_fld (pv 0) (by rfl)) pa_nil)) (pa_cons (pe_callB call_len_seq (by rfl) T.blt.len PySem.boot_len (pa_cons (pe_fld (pv 1) (by rfl)) pa_nil)) pa_nil))))
      (pss_one (ps_ret (T.cPoly hr (pa_cons (pe_lc (own := [("k", 3)]) (g := gName 3) (tt := tYes) rfl sc27.nd (pi_range1 rfl T.blt.range (pa_cons (pv 2) pa_nil)) (blkOk_by (own := [("k", 3)]) (N := ["one", "other", "many", "k"]) (sc := defScope (top 29)) (by decide +kernel))
        (fun _ _ _ _ _ => pg_name (i := 3) sc27.nd rfl (Or.inl rfl)) (fun _ _ _ _ _ => pts_nil)
        (fun _ _ _ _ _ => T.plus.cX G2 hr5 (pa_cons (T.number_for.c0 G1 hr1 (pa_cons (pv 0) (pa_cons (pv 3) pa_nil))) (pa_cons (T.number_for.c0 G1 hr1 (pa_cons (pv 1) (pa_cons (pv 3) pa_nil))) pa_nil)))) pa_nil)))), ?_⟩
    obtain ⟨a, dx, t, ws, rfl, ha, ht, al, tr⟩ := id hp
    obtain ⟨b, dx', t', ws', rfl, hb, ht', al', tr'⟩ := id hr'
    refine ⟨_, rfl, a, T.cP, dx, _, _, rfl, ha, T.clP, T.nP, lkN, t, ws, rfl, .inr ht, _, rfl, b, T.cP, dx', _, _, rfl, hb, T.clP, T.nP, lkN, t', ws', rfl, .inr ht', _, _, rfl, ?_⟩
    have em : (if ((ws'.length : Nat) : Int) > ((ws.length : Nat) : Int) then ((ws'.length : Nat) : Int) else ((ws.length : Nat) : Int)) = ((max qs.length rs.length : Nat) : Int) := by
      rw [al.1, al'.1]
      split <;> omega
    rw [em]
    refine ⟨_, rfl, _, rfl, by omega, by omega, fun D hD => ?_⟩
    show ∃ W, _
    have mn : (((max qs.length rs.length : Nat) : Int)).toNat = max qs.length rs.length := rfl
    rw [mn]
    refine lc_mapR (by omega) hD (fun i acc H' => Al K H' acc ((upTo (max qs.length rs.length) fun i => cf qs i + cf rs i).take i)) bears_al Al.nil ?_ ?_
    · intro i lt acc H' Qk Z l r s k
      refine ⟨rfl, ?_⟩
      dsimp only [tYes]
      have e0 : (0 : Int) + (i : Int) = ((i : Nat) : Int) := Int.zero_add _
      rw [e0]
      refine iteT ⟨_, rfl, _, rfl, _, qs, i, rfl, hp.same s, fun v1 H2 s2 rv1 => ⟨_, rfl, _, rfl, _, rs, i, rfl, hr'.same (s.trans s2), fun v2 H3 s3 rv2 => ?_⟩⟩
      refine ⟨v1, v2, rfl, .inl ⟨_, _, n, m, n', m', (rv1.same s3).arg (zq.all n0 m0 i), rv2.arg (zr.all n0' m0' i), by omega, by omega, ⟨by omega, l2⟩, fun v' H4 s4 rv => k _ _ ((s2.trans s3).trans s4) ?_⟩⟩
      show Al K H4 (acc ++ [v']) ((upTo (max qs.length rs.length) fun i => cf qs i + cf rs i).take (i + 1))
      rw [take_snoc (upTo_at lt)]
      exact (Al.same ((s2.trans s3).trans s4) r).snoc rv
    · intro acc H' hacc lacc r s
      have r' : Al K H' acc ((upTo (max qs.length rs.length) fun i => cf qs i + cf rs i).take (max qs.length rs.length)) := r
      rw [List.take_of_length_le (by rw [upTo_len]; exact Nat.le_refl _)] at r'
      have za : SzA (n + n' + m + m' + 1) (m + m') (upTo (max qs.length rs.length) fun i => cf qs i + cf rs i) := fun i l => by
        rw [upTo_len] at l
        rw [cf_at (upTo_at l)]
        exact add_sz (zq.all n0 m0 i) (zr.all n0' m0' i)
      refine poly_made (.inl (SqL.of hacc)) (r'.arg za) l2 (by omega) fun v H2 ts s2 pa l e => q v H2 ts (s.trans s2) pa (fun i => ?_) (by rw [upTo_len] at l; exact l)
      rw [e, upTo_cf]
      intro i ge
      have g1 : cf qs i = 0 := cf_out (by omega)
      have g2 : cf rs i = 0 := cf_out (by omega)
      rw [g1, g2]
      exact Rat.add_zero 0
end
end Kz
set_option linter.all false
set_option maxRecDepth 100000
set_option maxHeartbeats 4000000
namespace Kz
open PySem PySem.Spec PyProof.Rows L2
/-! ### lcm -/
def rLcm : List V → Hp → VK → Prop := fun vs H Q => ∃ a b : Int, vs = [.int a, .int b] ∧ a.natAbs < 2 ^ 13000 ∧ b.natAbs < 2 ^ 13000 ∧ Q (.int ((Nat.lcm a.natAbs b.natAbs : Nat) : Int)) H
theorem log_of {a n : Nat} (h : a < 2 ^ n) (n0 : 0 < n) : a.log2 < n := PySem.Flt.log2_lt_of n0 h
theorem cr_lcm {X : Cx} : CallR X (.builtin "math.lcm") rLcm := by
  intro pins s σ H vs us Q I r h
  obtain ⟨a, b, rfl, ha, hb, q⟩ := h
  obtain ⟨t, u, rfl⟩ := Vals.int2 r
  have h1 : (max 1 a.natAbs).log2 < 13000 := log_of (by
    have : 1 < 2 ^ 13000 := Nat.one_lt_two_pow (by decide)
    omega) (by decide)
  have h2 : (max a.natAbs b.natAbs).log2 < 13000 := log_of (by omega) (by decide)
  have hl : (a.natAbs.lcm b.natAbs) < 2 ^ 26001 := by
    have l1 : a.natAbs.lcm b.natAbs ≤ a.natAbs * b.natAbs := by
      unfold Nat.lcm
      exact Nat.div_le_self _ _
    have l2 : a.natAbs * b.natAbs ≤ 2 ^ 13000 * 2 ^ 13000 := Nat.mul_le_mul (Nat.le_of_lt ha) (Nat.le_of_lt hb)
    rw [← Nat.pow_add] at l2
    exact Nat.lt_of_le_of_lt (Nat.le_trans l1 l2) (Nat.pow_lt_pow_right (by decide) (by decide))
  have hz : ((((Nat.lcm 1 a.natAbs).lcm b.natAbs : Nat) : Int)).natAbs.log2 < bitsLine := by
    rw [PySem.W.mc_lcm_one]
    show (a.natAbs.lcm b.natAbs).log2 < bitsLine
    have e : bitsLine = 134217728 := by decide
    have := log_of hl (by decide)
    omega
  have g := PySem.W.mg_run_lcm a t b u (by omega) (by omega) hz
  rw [PySem.W.mc_lcm_one] at g
  exact call_function_meets PySem.W.MGF.kind_lcm PySem.W.MGF.plain_lcm PySem.W.MGF.entry_lcm (PySem.W.MGF.args_lcm _ _) g.meets ⟨.int _, H, I.tok _, ⟨_, rfl⟩, q⟩
/-! ### one bottom for a row -/
def lcs (qs : List Rat) : Nat := qs.foldl (fun a q => Nat.lcm a q.den) 1
theorem lcs_snoc (qs : List Rat) (q : Rat) : lcs (qs ++ [q]) = Nat.lcm (lcs qs) q.den := by
  unfold lcs
  rw [List.foldl_append]
  rfl
theorem lcs_nil : lcs [] = 1 := rfl
theorem rev_ind {α : Type} {P : List α → Prop} (h0 : P []) (hs : ∀ l x, P l → P (l ++ [x])) : ∀ l, P l := by
  intro l
  have : ∀ n, P (l.take n) := by
    intro n
    induction n with
    | zero => simpa using h0
    | succ n ih =>
      cases e : l[n]? with
      | none =>
        have : l.length ≤ n := by
          rcases Nat.lt_or_ge n l.length with lt | ge
          · rw [List.getElem?_eq_getElem lt] at e
            cases e
          · exact ge
        rw [List.take_of_length_le (by omega)]
        rw [List.take_of_length_le this] at ih
        exact ih
      | some x =>
        rw [take_snoc e]
        exact hs _ _ ih
  have z := this l.length
  rwa [List.take_length] at z
theorem lcs_pos : ∀ qs : List Rat, 0 < lcs qs := by
  refine rev_ind (by decide) fun l x h => ?_
  rw [lcs_snoc]
  exact Nat.lcm_pos h x.den_pos
theorem lcs_dvd : ∀ qs : List Rat, ∀ q ∈ qs, q.den ∣ lcs qs := by
  refine rev_ind (by simp) fun l x h => ?_
  intro q hq
  rw [lcs_snoc]
  rcases List.mem_append.mp hq with m | m
  · exact Nat.dvd_trans (h q m) (Nat.dvd_lcm_left _ _)
  · have : q = x := by simpa using m
    subst this
    exact Nat.dvd_lcm_right _ _
theorem lcs_min {D : Nat} : ∀ qs : List Rat, (∀ q ∈ qs, q.den ∣ D) → lcs qs ∣ D := by
  refine rev_ind (fun _ => Nat.one_dvd _) fun l x h hd => ?_
  rw [lcs_snoc]
  exact Nat.lcm_dvd (h fun q m => hd q (List.mem_append_left _ m)) (hd x (by simp))
theorem lcs_lt {n m : Nat} : ∀ qs : List Rat, (∀ q ∈ qs, Sz n m q) → lcs qs < 2 ^ (m * qs.length + 1) := by
  refine rev_ind (fun _ => by
    show 1 < 2 ^ (m * 0 + 1)
    rw [Nat.mul_zero]
    decide) fun l x h hd => ?_
  have := h fun q mm => hd q (List.mem_append_left _ mm)
  have z := (hd x (by simp)).2
  rw [lcs_snoc, List.length_append]
  have l1 : Nat.lcm (lcs l) x.den ≤ lcs l * x.den := by
    unfold Nat.lcm
    exact Nat.div_le_self _ _
  have l2 : lcs l * x.den < 2 ^ (m * l.length + 1) * 2 ^ m := Nat.mul_lt_mul'' this z
  rw [← Nat.pow_add] at l2
  have e : m * l.length + 1 + m = m * (l.length + [x].length) + 1 := by
    show m * l.length + 1 + m = m * (l.length + 1) + 1
    rw [Nat.mul_add]
    omega
  rw [← e]
  omega
theorem SzA.mem {n m : Nat} {qs : List Rat} (h : SzA n m qs) : ∀ q ∈ qs, Sz n m q := fun q hq => by
  obtain ⟨i, e⟩ := List.getElem?_of_mem hq
  have lt : i < qs.length := (List.getElem?_eq_some_iff.mp e).1
  have := h i lt
  rwa [cf_at e] at this
def topOf (L : Nat) (q : Rat) : Int := q.num * ((L / q.den : Nat) : Int)
def topsOf (qs : List Rat) : List Int := qs.map (topOf (lcs qs))
theorem topOf_eq {L : Nat} {q : Rat} (h : q.den ∣ L) : (topOf L q : Rat) = q * (L : Rat) := by
  obtain ⟨c, rfl⟩ := h
  have d0 : (q.den : Rat) ≠ 0 := fun z => q.den_nz (Rat.natCast_eq_zero_iff.mp z)
  have e : q * (q.den : Rat) = (q.num : Rat) := by
    have h1 := Rat.num_divInt_den q
    rw [Rat.divInt_eq_div, Rat.intCast_natCast] at h1
    have h2 := Rat.div_mul_cancel (a := (q.num : Rat)) d0
    rw [h1] at h2
    exact h2
  unfold topOf
  rw [Nat.mul_div_cancel_left _ q.den_pos]
  have e2 : ((q.num * ((c : Nat) : Int) : Int) : Rat) = (q.num : Rat) * (c : Rat) := by
    rw [Rat.intCast_mul]
    rfl
  have e3 : ((q.den * c : Nat) : Rat) = (q.den : Rat) * (c : Rat) := Rat.natCast_mul _ _
  rw [e2, e3, ← e]
  grind
theorem tops_get {qs : List Rat} {i : Nat} (lt : i < qs.length) : (topsOf qs)[i]? = some (topOf (lcs qs) (cf qs i)) := by
  unfold topsOf
  rw [List.getElem?_map, at_cf lt]
  rfl
theorem mem_cf {qs : List Rat} {i : Nat} (lt : i < qs.length) : cf qs i ∈ qs := List.mem_of_getElem? (at_cf lt)
section
variable {P : Program} {w : World} {K : PySem.W.Frag} {mg : Str → Option Value} {base : Heap}
def spOver (K : PySem.W.Frag) : Sp := fun vs H Q _ => ∃ t ws qs n m, vs = [.ref t] ∧ SqT K H t ws ∧ Al K H ws qs ∧ SzA n m qs ∧ m ≤ 9000 ∧ qs.length ≤ 1000 ∧ m * qs.length + 2 ≤ 13000 ∧ n ≤ 400000 ∧
  ∀ p l H', Same H H' → SqT K H' p [.ref l, .int ((lcs qs : Nat) : Int)] → H' l = some (.lst ((topsOf qs).map V.int)) → H l = none → Q (.ref p) H'
abbrev nOv : List Str := ["pairs", "shared", "_", "bottom", "top"]
theorem sc28 : FnScope nOv ["pairs"] (defScope (top 23)) := ⟨rfl, rfl, rfl, by decide +kernel, rfl, by decide +kernel, by decide +kernel⟩
theorem ok_over (T : Tz P K mg) : FnOk P w K mg base CX0 1 T.over_one.f T.over_one.fd ["pairs"] (spOver K) := by
  refine T.over_one.fn.ok sc28 (fun vs H Q E h => ?_) (fun cdv A outer s H vs Q E hr h => ?_)
  · obtain ⟨t, ws, qs, n, m, rfl, _⟩ := h
    rfl
  · obtain ⟨t, ws, qs, n, m, rfl, ht, al, zq, m9, len, lm, nn, q⟩ := h
    refine ⟨_, pss_cons (ps_set (i := 1) sc28.nd rfl (.inr rfl) pe_int)
      (pss_cons (ps_for PassesOwn.never rfl (pi_tup (pv 0)) (pg_tup (by rfl) (pgs_cons (pg_name (i := 2) sc28.nd rfl (.inl rfl)) (pgs_cons (pg_name (i := 3) sc28.nd rfl (.inl rfl)) pgs_nil)))
        (pss_one (ps_set (i := 1) sc28.nd rfl (.inr rfl) (pe_callBfun cr_lcm (by rfl) T.mLcm (pa_cons (pv 1) (pa_cons (pv 3) pa_nil))))))
      (pss_one (ps_ret (pe_tup (pa_cons (pe_lc (own := [("top", 4), ("bottom", 3)]) (g := gTup K 2 (gCons (gName 4) (gCons (gName 3) gNil))) (tt := tYes) rfl sc28.nd (pi_tup (pv 0)) (blkOk_by (own := [("top", 4), ("bottom", 3)]) (N := nOv) (sc := defScope (top 23)) (by decide +kernel))
        (fun _ _ _ _ _ => pg_tup (by rfl) (pgs_cons (pg_name (i := 4) sc28.nd rfl (Or.inl rfl)) (pgs_cons (pg_name (i := 3) sc28.nd rfl (Or.inl rfl)) pgs_nil))) (fun _ _ _ _ _ => pts_nil) (fun _ _ _ _ _ => pe_op op_mulW (pv 4) (pe_op op_fdivF (pv 1) (pv 3)))) (pa_cons (pv 1) pa_nil)))))), ?_⟩
    have lt2 : ∀ i, i ≤ qs.length → lcs (qs.take i) < 2 ^ 12999 := fun i hi => by
      have z : ∀ q ∈ qs.take i, Sz n m q := fun q hq => zq.mem q (List.mem_of_mem_take hq)
      refine Nat.lt_of_lt_of_le (lcs_lt _ z) (pow_up ?_)
      have : (qs.take i).length ≤ qs.length := by rw [List.length_take]; omega
      have := Nat.mul_le_mul_left m this
      omega
    refine ⟨_, rfl, t, rfl, ⟨_, ht⟩, for_tup (K := K) (a := t) (xs := ws) (fun i σ H' => H' = H ∧ i ≤ ws.length ∧ ∃ v v', σ = [some (.ref t), some (.int ((lcs (qs.take i) : Nat) : Int)), v, v', none]) ⟨rfl, Nat.zero_le _, none, none, rfl⟩ (fun i σ H' _ ⟨e, _⟩ => e ▸ ht) ?_ ?_⟩
    · rintro i x σ H' hx ⟨rfl, le, v, v', rfl⟩
      have lt : i < ws.length := (List.getElem?_eq_some_iff.mp hx).1
      have ltq : i < qs.length := by rw [← al.1]; exact lt
      obtain ⟨t', rfl, ht'⟩ := al.2 i x _ hx (at_cf ltq)
      refine ⟨t', _, rfl, ht', rfl, _, _, rfl, _, _, rfl, rfl, ?_⟩
      have zi := (zq i ltq).2
      refine ⟨_, rfl, _, rfl, _, _, rfl, ?_, ?_, rfl, lt, some (.int (cf qs i).num), some (.int ((cf qs i).den : Int)), ?_⟩
      · exact Nat.lt_of_lt_of_le (lt2 i (by omega)) (pow_up (by decide))
      · exact Nat.lt_of_lt_of_le zi (pow_up (by omega))
      · rw [take_snoc (at_cf ltq), lcs_snoc]
        rfl
    · rintro σ H' ⟨rfl, _, v, v', rfl⟩
      rw [al.1, List.take_length]
      refine ⟨_, rfl, t, rfl, ⟨_, ht⟩, fun D hD => ?_⟩
      refine lc_mapT ht (by rw [al.1]; exact len) hD (fun i acc _ => acc = ((topsOf qs).take i).map V.int) bears_pure rfl ?_ ?_
      · intro i x hx acc H2 Qk Z l r s k
        have lt : i < ws.length := (List.getElem?_eq_some_iff.mp hx).1
        have ltq : i < qs.length := by rw [← al.1]; exact lt
        obtain ⟨t', rfl, ht'⟩ := (al.2 i x _ hx (at_cf ltq)).same s
        refine ⟨t', _, rfl, ht', rfl, _, _, rfl, _, _, rfl, rfl, rfl, ?_⟩
        dsimp only [tYes]
        have zi := zq i ltq
        have dv : (((lcs qs : Nat) : Int)).fdiv (((cf qs i).den : Nat) : Int) = ((lcs qs / (cf qs i).den : Nat) : Int) := by
          rw [Int.fdiv_eq_ediv_of_nonneg _ (Int.natCast_nonneg _), ← Int.natCast_ediv]
        have lL := lt2 qs.length (Nat.le_refl _)
        rw [List.take_length] at lL
        refine iteT ⟨_, rfl, _, rfl, _, rfl, _, _, rfl, rfl, cdivF (Int.ne_of_gt (den_pos' _)) (up_lt (den_abs zi) m9), _, _, rfl, rfl, ?_, k _ _ (Same.refl _) ?_⟩
        · rw [dv]
          refine cmulW zi.1 (b := 13000) ?_ (by omega)
          refine Nat.lt_of_le_of_lt (Nat.div_le_self _ _) (Nat.lt_of_lt_of_le lL (pow_up (by decide)))
        · show acc ++ [V.int ((cf qs i).num * _)] = ((topsOf qs).take (i + 1)).map V.int
          rw [dv, take_snoc (tops_get ltq), List.map_append, r]
          rfl
      · intro acc H2 hacc lacc r s
        have r' : acc = ((topsOf qs).take ws.length).map V.int := r
        have ln : (topsOf qs).length = qs.length := List.length_map _
        rw [al.1, ← ln, List.take_length] at r'
        subst r'
        refine ⟨_, rfl, (by show 2 ≤ sizeLine; decide), fun p hp => ?_⟩
        refine q p D _ (s.trans (Same.new hp)) (SqT.of upd_same) ?_ hD
        rw [upd_ne (ne_of_none hacc hp)]
        exact hacc
end
end Kz
set_option linter.all false
set_option maxRecDepth 100000
set_option maxHeartbeats 4000000
namespace Kz
open PySem PySem.Spec PyProof.Rows L2
def sumTo : Nat → (Nat → Rat) → Rat
  | 0, _ => 0
  | n + 1, f => sumTo n f + f n
def convN (N : Nat) (f g : Nat → Rat) (i : Nat) : Rat := sumTo N fun k => if k ≤ i then f k * g (i - k) else 0
def sumI : Nat → (Nat → Int) → Int
  | 0, _ => 0
  | n + 1, f => sumI n f + f n
def ig (ns : List Int) (i : Nat) : Int := ns.getD i 0
theorem ig_at {ns : List Int} {i : Nat} {z : Int} (h : ns[i]? = some z) : ig ns i = z := by
  unfold ig
  rw [List.getD_eq_getElem?_getD, h]
  rfl
theorem ig_out {ns : List Int} {i : Nat} (h : ns.length ≤ i) : ig ns i = 0 := by
  unfold ig
  rw [List.getD_eq_getElem?_getD, List.getElem?_eq_none h]
  rfl
theorem at_ig {ns : List Int} {i : Nat} (h : i < ns.length) : ns[i]? = some (ig ns i) := by
  rw [List.getElem?_eq_getElem h, ig_at (List.getElem?_eq_getElem h)]
def psum (T F : Nat → Int) (k i : Nat) : Int := sumI k fun j => if j ≤ i then T j * F (i - j) else 0
/-- the row of a function -/
def iRow (n : Nat) (f : Nat → Int) : List V := (List.range n).map fun i => V.int (f i)
theorem iRow_len {n : Nat} {f : Nat → Int} : (iRow n f).length = n := by
  unfold iRow
  rw [List.length_map, List.length_range]
theorem iRow_at {n i : Nat} {f : Nat → Int} (h : i < n) : (iRow n f)[i]? = some (.int (f i)) := by
  unfold iRow
  rw [List.getElem?_map, List.getElem?_range h]
  rfl
theorem iRow_set {n j : Nat} {f : Nat → Int} {z : Int} : (iRow n f).set j (.int z) = iRow n fun i => if i = j then z else f i := by
  refine List.ext_getElem? fun i => ?_
  rw [List.getElem?_set, iRow_len]
  rcases Nat.lt_or_ge i n with lt | ge
  · rw [iRow_at lt, iRow_at lt]
    by_cases e : j = i
    · subst e
      rw [if_pos rfl, if_pos lt]
      show some (V.int z) = some (V.int (if j = j then z else f j))
      rw [if_pos rfl]
    · rw [if_neg e]
      show some (V.int (f i)) = some (V.int (if i = j then z else f i))
      rw [if_neg (fun z => e z.symm)]
  · rw [List.getElem?_eq_none (by rw [iRow_len]; exact ge), List.getElem?_eq_none (by rw [iRow_len]; exact ge)]
    by_cases e : j = i
    · subst e
      rw [if_pos rfl, if_neg (by omega)]
    · rw [if_neg e]
theorem iRow_ext {n : Nat} {f g : Nat → Int} (h : ∀ i, i < n → f i = g i) : iRow n f = iRow n g := by
  refine List.ext_getElem? fun i => ?_
  rcases Nat.lt_or_ge i n with lt | ge
  · rw [iRow_at lt, iRow_at lt, h i lt]
  · rw [List.getElem?_eq_none (by rw [iRow_len]; exact ge), List.getElem?_eq_none (by rw [iRow_len]; exact ge)]
theorem iRow_zero {n : Nat} : (List.replicate n [V.int 0]).flatten = iRow n fun _ => 0 := by
  refine List.ext_getElem? fun i => ?_
  have e : (List.replicate n [V.int 0]).flatten = List.replicate n (V.int 0) := by
    induction n with
    | zero => rfl
    | succ n ih => rw [List.replicate_succ, List.flatten_cons, ih]; rfl
  rw [e]
  rcases Nat.lt_or_ge i n with lt | ge
  · rw [iRow_at lt, List.getElem?_replicate, if_pos lt]
  · rw [List.getElem?_replicate, if_neg (by omega), List.getElem?_eq_none (by rw [iRow_len]; exact ge)]
/-- bounds of the sums -/
theorem psum_lt {T F : Nat → Int} {a b : Nat} (hT : ∀ k, (T k).natAbs < 2 ^ a) (hF : ∀ k, (F k).natAbs < 2 ^ b) (k i : Nat) : (psum T F k i).natAbs ≤ k * 2 ^ (a + b) := by
  unfold psum
  induction k with
  | zero => exact Nat.zero_le _
  | succ k ih =>
    show (sumI k _ + (if k ≤ i then T k * F (i - k) else 0)).natAbs ≤ _
    have h1 : ((if k ≤ i then T k * F (i - k) else 0 : Int)).natAbs ≤ 2 ^ (a + b) := by
      split
      · exact Nat.le_of_lt (wide_lt (hT k) (hF _))
      · exact Nat.zero_le _
    have h2 := Int.natAbs_add_le (sumI k fun j => if j ≤ i then T j * F (i - j) else 0) (if k ≤ i then T k * F (i - k) else 0)
    rw [Nat.succ_mul]
    omega
theorem psum_cast {T F : Nat → Int} {f g : Nat → Rat} {L M : Rat} (hT : ∀ k, (T k : Rat) = f k * L) (hF : ∀ k, (F k : Rat) = g k * M) (k i : Nat) : ((psum T F k i : Int) : Rat) = convN k f g i * (L * M) := by
  unfold psum convN
  induction k with
  | zero =>
    show ((0 : Int) : Rat) = 0 * (L * M)
    rw [Rat.intCast_zero, Rat.zero_mul]
  | succ k ih =>
    show ((sumI k _ + (if k ≤ i then T k * F (i - k) else 0) : Int) : Rat) = (sumTo k _ + (if k ≤ i then f k * g (i - k) else 0)) * (L * M)
    rw [Rat.intCast_add, ih, Rat.add_mul]
    congr 1
    by_cases h : k ≤ i
    · rw [if_pos h, if_pos h, Rat.intCast_mul, hT, hF]
      grind
    · rw [if_neg h, if_neg h, Rat.intCast_zero, Rat.zero_mul]
theorem ixN_nat {n j : Nat} (hj : j < n) : ixN n (j : Int) = some j := by
  unfold ixN
  rw [if_pos (by omega), if_pos (by omega)]
  rfl
section
variable {P : Program} {w : World} {K : PySem.W.Frag} {mg : Str → Option Value} {base : Heap}
def spMult (K : PySem.W.Frag) (cP : Addr) : Sp := fun vs H Q _ => ∃ p r qs rs n m n' m', vs = [p, r] ∧ PolyAt K cP H p qs ∧ PolyAt K cP H r rs ∧ SzA n m qs ∧ SzA n' m' rs ∧ m ≤ 9000 ∧ m' ≤ 9000 ∧ n ≤ 300000 ∧ n' ≤ 300000 ∧
  qs.length ≤ 200 ∧ rs.length ≤ 200 ∧ m * qs.length + m' * rs.length + 4 ≤ 9000 ∧
  ∀ v H' ts, Same H H' → PolyAt K cP H' v ts → (∀ i, cf ts i = convN qs.length (cf qs) (cf rs) i) → ts.length ≤ qs.length + rs.length → Q v H'
abbrev nMu : List Str := ["one", "other", "tops", "bottom", "factors", "below", "found", "k", "top", "n", "factor", "number"]
theorem sc29 : FnScope nMu ["one", "other"] (defScope (top 30)) := ⟨rfl, rfl, rfl, by decide +kernel, rfl, by decide +kernel, by decide +kernel⟩
theorem ok_mult (T : Tz P K mg) : FnOk P w K mg base CX0 7 T.multiplied.f T.multiplied.fd ["one", "other"] (spMult K T.cP) := by
  have G1 : FnOk P w K mg base CX0 1 T.over_one.f T.over_one.fd ["pairs"] (spOver K) := ok_over T
  refine T.multiplied.fn.ok sc29 (fun vs H Q E h => ?_) (fun cdv A outer s H vs Q E hr h => ?_)
  · obtain ⟨p, r, qs, rs, n, m, n', m', rfl, _⟩ := h
    rfl
  · obtain ⟨p, r, qs, rs, n, m, n', m', rfl, hp, hr', zq, zr, m9, m9', n3, n3', l2, l2', lm, q⟩ := h
    have hr1 : Room 1 _ := hr.mono (by decide)
    refine ⟨_, pss_cons (ps_asg (T.over_one.c0 G1 hr1 (pa_cons (pe_fld (pv 0) (by rfl)) pa_nil)) (pg_tup (by rfl) (pgs_cons (pg_name (i := 2) sc29.nd rfl (.inl rfl)) (pgs_cons (pg_name (i := 3) sc29.nd rfl (.inr rfl)) pgs_nil))))
      (pss_cons (ps_asg (T.over_one.c0 G1 hr1 (pa_cons (pe_fld (pv 1) (by rfl)) pa_nil)) (pg_tup (by rfl) (pgs_cons (pg_name (i := 4) sc29.nd rfl (.inl rfl)) (pgs_cons (pg_name (i := 5) sc29.nd rfl (.inr rfl)) pgs_nil))))
      (pss_cons (ps_set (i := 6) sc29.nd rfl (.inl rfl) (pe_op op_rep (pe_lst (pa_cons pe_int pa_nil)) (pe_op op_add (pe_callB call_len_seq (by rfl) T.blt.len PySem.boot_len (pa_cons (pv 2) pa_nil)) (pe_callB call_len_seq (by rfl) T.blt.len PySem.boot_len (pa_cons (pv 4) pa_nil)))))
      (pss_cons (ps_for PassesOwn.never rfl (pi_enum (by rfl) T.mEnum (pa_cons (pv 2) pa_nil)) (pg_tup (by rfl) (pgs_cons (pg_name (i := 7) sc29.nd rfl (.inl rfl)) (pgs_cons (pg_name (i := 8) sc29.nd rfl (.inl rfl)) pgs_nil)))
        (pss_one (ps_for PassesOwn.never rfl (pi_enum (by rfl) T.mEnum (pa_cons (pv 4) pa_nil)) (pg_tup (by rfl) (pgs_cons (pg_name (i := 9) sc29.nd rfl (.inl rfl)) (pgs_cons (pg_name (i := 10) sc29.nd rfl (.inl rfl)) pgs_nil)))
          (pss_one (ps_asg (pe_op op_add (pe_ix ix_list (pv 6) (pe_op op_add (pv 7) (pv 9)) (fun _ _ => rfl)) (pe_op op_mulW (pv 8) (pv 10))) (pg_sub (pv 6) (pe_op op_add (pv 7) (pv 9)) set_list (fun _ => rfl)))))))
      (pss_one (ps_ret (T.cPoly hr (pa_cons (pe_lc (own := [("number", 11)]) (g := gName 11) (tt := tYes) rfl sc29.nd (pi_list (pv 6)) (blkOk_by (own := [("number", 11)]) (N := nMu) (sc := defScope (top 30)) (by decide +kernel))
        (fun _ _ _ _ _ => pg_name (i := 11) sc29.nd rfl (Or.inl rfl)) (fun _ _ _ _ _ => pts_nil) (fun _ _ _ _ _ => pe_tup (pa_cons (pv 11) (pa_cons (pe_op op_mulW (pv 3) (pv 5)) pa_nil)))) pa_nil))))))), ?_⟩
    obtain ⟨a, dx, t, ws, rfl, ha, ht, al, tr⟩ := id hp
    obtain ⟨b, dx', t', ws', rfl, hb, ht', al', tr'⟩ := id hr'
    refine ⟨_, rfl, a, T.cP, dx, _, _, rfl, ha, T.clP, T.nP, lkN, t, ws, qs, n, m, rfl, ht, al, zq, m9, by omega, by omega, by omega, fun p1 l1 H1 s1 hp1 hl1 nl1 => ?_⟩
    refine ⟨p1, _, rfl, hp1, rfl, _, _, rfl, _, _, rfl, rfl, ?_⟩
    refine ⟨_, rfl, b, T.cP, dx', _, _, rfl, s1 _ _ hb, T.clP, T.nP, lkN, t', ws', rs, n', m', rfl, Kz.Same.seqT s1 ht', al'.same s1, zr, m9', by omega, by omega, by omega, fun p2 l2 H2 s2 hp2 hl2 nl2 => ?_⟩
    refine ⟨p2, _, rfl, hp2, rfl, _, _, rfl, _, _, rfl, rfl, ?_⟩
    have hl1' := s2 _ _ hl1
    have ltq : (topsOf qs).length = qs.length := List.length_map _
    have ltr : (topsOf rs).length = rs.length := List.length_map _
    have bq : ∀ k, (ig (topsOf qs) k).natAbs < 2 ^ 310000 := fun k => by
      rcases Nat.lt_or_ge k qs.length with lt | ge
      · rw [ig_at (tops_get lt)]
        have z := zq k lt
        have lL := lcs_lt qs zq.mem
        have : ((lcs qs / (cf qs k).den : Nat) : Int).natAbs < 2 ^ (m * qs.length + 1) := Nat.lt_of_le_of_lt (Nat.div_le_self _ _) lL
        exact up_lt (wide_lt z.1 this) (by omega)
      · rw [ig_out (by omega)]
        exact Nat.two_pow_pos _
    have br : ∀ k, (ig (topsOf rs) k).natAbs < 2 ^ 310000 := fun k => by
      rcases Nat.lt_or_ge k rs.length with lt | ge
      · rw [ig_at (tops_get lt)]
        have z := zr k lt
        have lL := lcs_lt rs zr.mem
        have : ((lcs rs / (cf rs k).den : Nat) : Int).natAbs < 2 ^ (m' * rs.length + 1) := Nat.lt_of_le_of_lt (Nat.div_le_self _ _) lL
        exact up_lt (wide_lt z.1 this) (by omega)
      · rw [ig_out (by omega)]
        exact Nat.two_pow_pos _
    generalize hT : ig (topsOf qs) = T at bq
    generalize hF : ig (topsOf rs) = F at br
    refine ⟨(by show 1 ≤ sizeLine; decide), fun z nz => ?_⟩
    have s3 := Same.new (o := .lst [.int 0]) nz
    have ez : upd H2 z (.lst [.int 0]) z = some (.lst [.int 0]) := upd_same
    generalize upd H2 z (.lst [.int 0]) = H3 at s3 ez
    refine ⟨_, rfl, l1, _, rfl, .inl (SqL.of (s3 _ _ hl1')), _, rfl, l2, _, rfl, .inl (SqL.of (s3 _ _ hl2)), _, _, rfl, rfl, ?_⟩
    have en : ((((topsOf qs).map V.int).length : Nat) : Int) + ((((topsOf rs).map V.int).length : Nat) : Int) = ((qs.length + rs.length : Nat) : Int) := by
      rw [List.length_map, List.length_map, ltq, ltr]
      omega
    dsimp only []
    rw [en]
    refine ⟨z, _, _, rfl, rfl, ez, by omega, by omega, ?_, fun fo nfo => ?_⟩
    · show 1 * (qs.length + rs.length) ≤ sizeLine
      rw [sizeLine_eq]
      omega
    have tn : (((qs.length + rs.length : Nat) : Int)).toNat = qs.length + rs.length := rfl
    rw [tn, iRow_zero]
    have s4 : Same H2 (upd H3 fo (.lst (iRow (qs.length + rs.length) fun _ => 0))) := s3.trans (Same.new nfo)
    have nfo2 : H2 fo = none := by
      cases e : H2 fo with
      | none => rfl
      | some o =>
        have := s3 _ _ e
        rw [nfo] at this
        cases this
    have ef : upd H3 fo (.lst (iRow (qs.length + rs.length) fun _ => 0)) fo = some (.lst (iRow (qs.length + rs.length) fun _ => 0)) := upd_same
    generalize upd H3 fo (.lst (iRow (qs.length + rs.length) fun _ => 0)) = H4 at s4 ef
    refine ⟨_, rfl, l1, _, rfl, SqL.of (s4 _ _ hl1'), for_enum (K := K) (a := l1) (xs := (topsOf qs).map V.int) (fun i σ H' => i ≤ qs.length ∧ ∃ v7 v8 v9 v10, σ = [some (.ref a), some (.ref b), some (.ref l1), some (.int ((lcs qs : Nat) : Int)), some (.ref l2), some (.int ((lcs rs : Nat) : Int)), some (.ref fo), v7, v8, v9, v10, none] ∧
      H' fo = some (.lst (iRow (qs.length + rs.length) (psum T F i))) ∧ Same H2 H') ⟨Nat.zero_le _, none, none, none, none, rfl, ef, s4⟩ (fun i σ H' ⟨_, _, _, _, _, _, _, s⟩ => SqL.of (s _ _ hl1')) ?_ ?_⟩
    · rintro k x tt σ H5 hx ⟨_, v7, v8, v9, v10, rfl, hf, s5⟩ ntt
      have kl : k < qs.length := by
        have := (List.getElem?_eq_some_iff.mp hx).1
        rw [List.length_map] at this
        omega
      rw [List.getElem?_map, at_ig (by omega), hT] at hx
      cases hx
      have s6 := Same.new (o := .tup [.int ((k : Nat) : Int), .int (T k)]) ntt
      have et : upd H5 tt (.tup [.int ((k : Nat) : Int), .int (T k)]) tt = some (.tup [.int ((k : Nat) : Int), .int (T k)]) := upd_same
      generalize upd H5 tt (.tup [.int ((k : Nat) : Int), .int (T k)]) = H6 at s6 et
      refine ⟨tt, _, rfl, SqT.of et, rfl, _, _, rfl, _, _, rfl, rfl, ?_⟩
      refine ⟨_, rfl, l2, _, rfl, SqL.of (s6 _ _ (s5 _ _ hl2)), for_enum (K := K) (a := l2) (xs := (topsOf rs).map V.int) (fun n σ H' => n ≤ rs.length ∧ ∃ v9 v10, σ = [some (.ref a), some (.ref b), some (.ref l1), some (.int ((lcs qs : Nat) : Int)), some (.ref l2), some (.int ((lcs rs : Nat) : Int)), some (.ref fo), some (.int ((k : Nat) : Int)), some (.int (T k)), v9, v10, none] ∧
        H' fo = some (.lst (iRow (qs.length + rs.length) fun i => psum T F k i + if k ≤ i ∧ i < k + n then T k * F (i - k) else 0)) ∧ Same H2 H') ⟨Nat.zero_le _, v9, v10, rfl, ?_, s5.trans s6⟩ (fun i σ H' ⟨_, _, _, _, _, s⟩ => SqL.of (s _ _ hl2)) ?_ ?_⟩
      · rw [s6 _ _ hf]
        congr 2
        refine iRow_ext fun i _ => ?_
        rw [if_neg (by omega), Int.add_zero]
      · rintro n x t2 σ H7 hx ⟨_, v9, v10, rfl, hf7, s7⟩ nt2
        have nl : n < rs.length := by
          have := (List.getElem?_eq_some_iff.mp hx).1
          rw [List.length_map] at this
          omega
        rw [List.getElem?_map, at_ig (by omega), hF] at hx
        cases hx
        have s8 := Same.new (o := .tup [.int ((n : Nat) : Int), .int (F n)]) nt2
        have et2 : upd H7 t2 (.tup [.int ((n : Nat) : Int), .int (F n)]) t2 = some (.tup [.int ((n : Nat) : Int), .int (F n)]) := upd_same
        generalize upd H7 t2 (.tup [.int ((n : Nat) : Int), .int (F n)]) = H8 at s8 et2
        have hf8 := s8 _ _ hf7
        have ek : ((k : Nat) : Int) + ((n : Nat) : Int) = ((k + n : Nat) : Int) := by omega
        have it := iRow_at (n := qs.length + rs.length) (f := fun i => psum T F k i + if k ≤ i ∧ i < k + n then T k * F (i - k) else 0) (show k + n < qs.length + rs.length by omega)
        refine ⟨t2, _, rfl, SqT.of et2, rfl, _, _, rfl, _, _, rfl, rfl, ?_⟩
        refine ⟨_, rfl, _, rfl, _, rfl, _, _, rfl, rfl, fo, _, _, _, rfl, rfl, SqL.of hf8, (by rw [ek]; exact atI_nat it), ?_⟩
        refine ⟨_, rfl, _, rfl, _, _, rfl, rfl, cmulW (bq k) (br n) (by decide), _, _, rfl, rfl, ?_⟩
        refine ⟨_, rfl, _, rfl, _, rfl, _, _, rfl, rfl, fo, _, _, k + n, rfl, rfl, hf8, (by rw [ek, iRow_len]; exact ixN_nat (by omega)), nl, _, _, rfl, ?_, fun c o ec => ?_⟩
        · rw [upd_same, iRow_set]
          congr 2
          refine iRow_ext fun i _ => ?_
          by_cases e : i = k + n
          · rw [if_pos e, e, if_neg (by omega), if_pos (by omega), Int.add_zero]
            congr 2
            congr 1
            omega
          · rw [if_neg e]
            congr 1
            by_cases c : k ≤ i ∧ i < k + n
            · rw [if_pos c, if_pos (by omega)]
            · rw [if_neg c, if_neg (by omega)]
        · rw [upd_ne (ne_of_none ec nfo2)]
          exact s8 _ _ (s7 _ _ ec)
      · rintro σ H7 ⟨_, v9, v10, rfl, hf7, s7⟩
        rw [List.length_map, ltr] at hf7
        refine ⟨kl, _, _, _, _, rfl, ?_, s7⟩
        rw [hf7]
        congr 2
        refine iRow_ext fun i hi => ?_
        show psum T F k i + (if k ≤ i ∧ i < k + rs.length then T k * F (i - k) else 0) = psum T F k i + (if k ≤ i then T k * F (i - k) else 0)
        congr 1
        by_cases c : k ≤ i
        · rw [if_pos c]
          by_cases c2 : i < k + rs.length
          · rw [if_pos ⟨c, c2⟩]
          · rw [if_neg (by omega), ← hF, ig_out (by omega), Int.mul_zero]
        · rw [if_neg c, if_neg (by omega)]
    · rintro σ H5 ⟨_, v7, v8, v9, v10, rfl, hf, s5⟩
      rw [List.length_map, ltq] at hf
      refine ⟨_, rfl, fo, rfl, ⟨_, SqL.of hf⟩, fun D hD => ?_⟩
      have pl := lcs_pos qs
      have pr := lcs_pos rs
      have pp : (0 : Int) < ((lcs qs : Nat) : Int) * ((lcs rs : Nat) : Int) := Int.mul_pos (by omega) (by omega)
      have lq := lcs_lt qs zq.mem
      have lr := lcs_lt rs zr.mem
      have bd : (((lcs qs : Nat) : Int) * ((lcs rs : Nat) : Int)).natAbs < 2 ^ (m * qs.length + 1 + (m' * rs.length + 1)) := wide_lt (i := ((lcs qs : Nat) : Int)) (j := ((lcs rs : Nat) : Int)) lq lr
      refine lc_mapL (SqL.of hf) (by rw [iRow_len]; omega) hD (fun i acc H' => acc.length = i ∧ ∀ j u, acc[j]? = some u → ∃ p, u = .ref p ∧ SqT K H' p [.int (psum T F qs.length j), .int (((lcs qs : Nat) : Int) * ((lcs rs : Nat) : Int))])
        (fun i acc H H' l bu h => ⟨h.1, fun j u e => ?_⟩) ⟨rfl, fun j u e => by simp at e⟩ ?_ ?_
      · obtain ⟨p, e1, hp⟩ := h.2 j u e
        refine ⟨p, e1, ?_⟩
        have ne : ∀ {o : HO}, H p = some o → (∀ us, o ≠ .lst us) → p ≠ D := fun {o} e n z => by
          rw [z] at e
          obtain ⟨us, e'⟩ := l _ e
          exact n us e'
        rcases hp with (r | ⟨o, r⟩) | r
        · exact .inl (.inl (bu _ _ r (ne r (fun us z => nomatch z))))
        · exact .inl (.inr ⟨o, bu _ _ r (ne r (fun us z => nomatch z))⟩)
        · exact .inr r
      · intro i x hx acc H6 Qk Z l r s k
        have lt : i < qs.length + rs.length := by
          have := (List.getElem?_eq_some_iff.mp hx).1
          rw [iRow_len] at this
          exact this
        rw [iRow_at lt] at hx
        cases hx
        refine ⟨rfl, ?_⟩
        dsimp only [tYes]
        refine iteT ⟨_, rfl, _, rfl, _, rfl, _, _, rfl, rfl, cmulW (a := 9000) (b := 9000) (up_lt (i := ((lcs qs : Nat) : Int)) lq (by omega)) (up_lt (i := ((lcs rs : Nat) : Int)) lr (by omega)) (by decide), (by show 2 ≤ sizeLine; decide), fun p hp => ?_⟩
        refine k _ _ (Same.new hp) ⟨by rw [List.length_append, l]; rfl, fun j u e => ?_⟩
        rcases Nat.lt_or_ge j acc.length with jl | jg
        · rw [List.getElem?_append_left jl] at e
          obtain ⟨p', e1, h'⟩ := r.2 j u e
          exact ⟨p', e1, Kz.Same.seqT (Same.new hp) h'⟩
        · rw [List.getElem?_append_right jg] at e
          have : j = i := by
            have := (List.getElem?_eq_some_iff.mp e).1
            simp at this
            omega
          subst this
          rw [l, Nat.sub_self] at e
          cases e
          exact ⟨p, rfl, SqT.of upd_same⟩
      · intro acc H6 hacc lacc r s
        rw [iRow_len] at lacc
        have lu : acc.length = qs.length + rs.length := lacc
        have bp : ∀ i, (psum T F qs.length i).natAbs < 2 ^ 700000 := fun i => by
          have h1 := psum_lt bq br qs.length i
          have h2 : qs.length * 2 ^ (310000 + 310000) ≤ 2 ^ 8 * 2 ^ (310000 + 310000) := Nat.mul_le_mul_right _ (by omega)
          rw [← Nat.pow_add] at h2
          exact Nat.lt_of_le_of_lt (Nat.le_trans h1 h2) (Nat.pow_lt_pow_right (by decide) (by decide))
        have aa : AlA K H6 acc 700000 9000 (upTo (qs.length + rs.length) fun i => convN qs.length (cf qs) (cf rs) i) := ⟨by rw [upTo_len, lu], fun i u q' e1 e2 => by
          have lt : i < qs.length + rs.length := by
            have := (List.getElem?_eq_some_iff.mp e1).1
            omega
          rw [upTo_at lt] at e2
          cases e2
          obtain ⟨p, rfl, hp⟩ := r.2 i u e1
          refine ⟨_, _, .two (.inr hp) pp, ?_, bp i, up_lt bd (by omega)⟩
          have cT : ∀ k, ((T k : Int) : Rat) = cf qs k * (lcs qs : Rat) := fun k => by
            rw [← hT]
            rcases Nat.lt_or_ge k qs.length with lt | ge
            · rw [ig_at (tops_get lt), topOf_eq (lcs_dvd qs _ (mem_cf lt))]
            · rw [ig_out (by omega), cf_out ge, Rat.intCast_zero, Rat.zero_mul]
          have cF : ∀ k, ((F k : Int) : Rat) = cf rs k * (lcs rs : Rat) := fun k => by
            rw [← hF]
            rcases Nat.lt_or_ge k rs.length with lt | ge
            · rw [ig_at (tops_get lt), topOf_eq (lcs_dvd rs _ (mem_cf lt))]
            · rw [ig_out (by omega), cf_out ge, Rat.intCast_zero, Rat.zero_mul]
          have e := psum_cast cT cF qs.length i
          rw [Rat.divInt_eq_div, e, Rat.intCast_mul, Rat.intCast_natCast, Rat.intCast_natCast]
          have n0 : ((lcs qs : Rat) * (lcs rs : Rat)) ≠ 0 := fun z => by
            rcases Rat.mul_eq_zero.mp z with z | z
            · have := Rat.natCast_eq_zero_iff.mp z
              omega
            · have := Rat.natCast_eq_zero_iff.mp z
              omega
          exact (Rat.mul_div_cancel n0).symm⟩
        refine poly_made (.inl (SqL.of hacc)) aa (by decide) (by omega) fun v H7 ts s7 pa l e => q v H7 ts ((((s1.trans s2).trans s5).trans s).trans s7) pa (fun i => ?_) (by rw [upTo_len] at l; exact l)
        rw [e, upTo_cf]
        intro j ge
        unfold convN
        have : ∀ N, N ≤ qs.length → sumTo N (fun k => if k ≤ j then cf qs k * cf rs (j - k) else 0) = 0 := by
          intro N hN
          induction N with
          | zero => rfl
          | succ N ih =>
            show sumTo N _ + (if N ≤ j then cf qs N * cf rs (j - N) else 0) = 0
            rw [ih (by omega), if_pos (by omega), cf_out (qs := rs) (by omega), Rat.mul_zero]
            exact Rat.add_zero 0
        exact this _ (Nat.le_refl _)
end
end Kz
set_option linter.all false
set_option maxRecDepth 100000
set_option maxHeartbeats 4000000
namespace Kz
open PySem PySem.Spec PyProof.Rows L2
theorem RV.neg {K : PySem.W.Frag} {H : Hp} {p : Addr} {q : Rat} (h : SqT K H p [.int (-q.num), .int (q.den : Int)]) : RV K H (.ref p) (-q) := ⟨p, rfl, h⟩
theorem sz_neg {n m : Nat} {q : Rat} (h : Sz n m q) : Sz n m (-q) := ⟨by show (-q.num).natAbs < _; rw [Int.natAbs_neg]; exact h.1, h.2⟩
section
variable {P : Program} {w : World} {K : PySem.W.Frag} {mg : Str → Option Value} {base : Heap}
theorem poly_ty (T : Tz P K mg) {H : Hp} {a dx : Addr} {fs : List (Str × V)} (h : H a = some (.ins T.cP dx fs)) : TyX K H (.ref a) (.ref T.cP) := .base (.ins h T.clP T.iP T.gP T.tP T.oP)
theorem kit_self {C : Addr} : PySem.W.kitOne K (.ref C) (.ref C) = some true := by
  unfold PySem.W.kitOne
  simp
def spDeg (K : PySem.W.Frag) (cP : Addr) : Sp := fun vs H Q _ => ∃ p qs, vs = [p] ∧ PolyAt K cP H p qs ∧ Q (.int ((qs.length : Int) - 1)) H
theorem scP9 : FnScope ["self"] ["self"] (defScope (sP 9)) := ⟨rfl, rfl, rfl, by decide +kernel, rfl, by decide +kernel, by decide +kernel⟩
theorem ok_degree (T : Tz P K mg) : FnOk P w K mg base CX0 1 T.p_degree.f T.p_degree.fd ["self"] (spDeg K T.cP) := by
  refine T.p_degree.fn.ok scP9 (fun vs H Q E h => ?_) (fun cdv A outer s H vs Q E hr h => ?_)
  · obtain ⟨p, qs, rfl, _⟩ := h
    rfl
  · obtain ⟨p, qs, rfl, ⟨a, dx, t, ws, rfl, ha, ht, al, tr⟩, q⟩ := h
    refine ⟨_, pss_one (ps_ret (pe_op op_sub (pe_callB call_len_seq (by rfl) T.blt.len PySem.boot_len (pa_cons (pe_fld (pv 0) (by rfl)) pa_nil)) pe_int)), ?_⟩
    refine ⟨_, rfl, a, T.cP, dx, _, _, rfl, ha, T.clP, T.nP, lkN, t, ws, rfl, .inr ht, _, _, rfl, rfl, ?_⟩
    show Q (.int ((ws.length : Int) - 1)) H
    rw [al.1]
    exact q
def spNeg (K : PySem.W.Frag) (cP : Addr) : Sp := fun vs H Q _ => ∃ p qs n m, vs = [p] ∧ PolyAt K cP H p qs ∧ SzA n m qs ∧ m ≤ 9000 ∧ qs.length ≤ 1000 ∧ ∀ v H' ts, Same H H' → PolyAt K cP H' v ts → (∀ i, cf ts i = -cf qs i) → ts.length ≤ qs.length → Q v H'
abbrev nNe : List Str := ["self", "top", "bottom"]
theorem scP8 : FnScope nNe ["self"] (defScope (sP 8)) := ⟨rfl, rfl, rfl, by decide +kernel, rfl, by decide +kernel, by decide +kernel⟩
theorem ok_neg (T : Tz P K mg) : FnOk P w K mg base CX0 7 T.p_neg.f T.p_neg.fd ["self"] (spNeg K T.cP) := by
  refine T.p_neg.fn.ok scP8 (fun vs H Q E h => ?_) (fun cdv A outer s H vs Q E hr h => ?_)
  · obtain ⟨p, qs, n, m, rfl, _⟩ := h
    rfl
  · obtain ⟨p, qs, n, m, rfl, ⟨a, dx, t, ws, rfl, ha, ht, al, tr⟩, zq, m9, len, q⟩ := h
    refine ⟨_, pss_one (ps_ret (T.cPoly hr (pa_cons (pe_lc (own := [("top", 1), ("bottom", 2)]) (g := gTup K 2 (gCons (gName 1) (gCons (gName 2) gNil))) (tt := tYes) rfl scP8.nd (pi_tup (pe_fld (pv 0) (by rfl))) (blkOk_by (own := [("top", 1), ("bottom", 2)]) (N := nNe) (sc := defScope (sP 8)) (by decide +kernel))
        (fun _ _ _ _ _ => pg_tup (by rfl) (pgs_cons (pg_name (i := 1) scP8.nd rfl (Or.inl rfl)) (pgs_cons (pg_name (i := 2) scP8.nd rfl (Or.inl rfl)) pgs_nil))) (fun _ _ _ _ _ => pts_nil) (fun _ _ _ _ _ => pe_tup (pa_cons (pe_un un_neg (pv 1)) (pa_cons (pv 2) pa_nil)))) pa_nil))), ?_⟩
    refine ⟨_, rfl, a, T.cP, dx, _, _, rfl, ha, T.clP, T.nP, lkN, t, rfl, ⟨_, ht⟩, fun D hD => ?_⟩
    refine lc_mapT ht (by rw [al.1]; exact len) hD (fun i acc H' => Al K H' acc ((qs.map fun q => -q).take i)) bears_al Al.nil ?_ ?_
    · intro i x hx acc H' Qk Z l r s k
      have lt : i < ws.length := (List.getElem?_eq_some_iff.mp hx).1
      have ltq : i < qs.length := by rw [← al.1]; exact lt
      obtain ⟨t', rfl, ht'⟩ := (al.2 i x _ hx (at_cf ltq)).same s
      refine ⟨t', _, rfl, ht', rfl, _, _, rfl, _, _, rfl, rfl, rfl, ?_⟩
      dsimp only [tYes]
      refine iteT ⟨_, rfl, _, rfl, _, rfl, (by show 2 ≤ sizeLine; decide), fun p hp => k _ _ (Same.new hp) ?_⟩
      have e : (qs.map fun q => -q)[i]? = some (-cf qs i) := by rw [List.getElem?_map, at_cf ltq]; rfl
      show Al K _ (acc ++ [V.ref p]) ((qs.map fun q => -q).take (i + 1))
      rw [take_snoc e]
      exact (Al.same (Same.new hp) r).snoc (RV.neg (SqT.of upd_same))
    · intro acc H' hacc lacc r s
      have r' : Al K H' acc ((qs.map fun q => -q).take ws.length) := r
      rw [al.1, List.take_of_length_le (by rw [List.length_map]; exact Nat.le_refl _)] at r'
      have cn : ∀ i, cf (qs.map fun q => -q) i = -cf qs i := fun i => by
        rcases Nat.lt_or_ge i qs.length with lt | ge
        · rw [cf_at (q := -cf qs i) (by rw [List.getElem?_map, at_cf lt]; rfl)]
        · rw [cf_out ge, cf_out (by rw [List.length_map]; exact ge)]
          rfl
      have za : SzA n m (qs.map fun q => -q) := fun i l => by
        rw [cn]
        exact sz_neg (zq i (by simpa using l))
      refine poly_made (.inl (SqL.of hacc)) (r'.arg za) m9 (by rw [lacc, al.1]; exact len) fun v H2 ts s2 pa l e => q v H2 ts (s.trans s2) pa (fun i => by rw [e, cn]) (by simpa using l)
/-- the function of a number -/
def one0 (q : Rat) (i : Nat) : Rat := if i = 0 then q else 0
theorem cf_one {q : Rat} (i : Nat) : cf [q] i = one0 q i := by
  cases i with
  | zero => rfl
  | succ i => exact cf_out (by simp)
def spAs (K : PySem.W.Frag) (cP : Addr) : Sp := fun vs H Q _ => ∃ v, vs = [v] ∧ ((∃ qs, PolyAt K cP H v qs ∧ Q v H) ∨
  (∃ q n m, ArgQ K H v n m q ∧ m ≤ 9000 ∧ (∃ t, TyN K H v t ∧ (t == "list") = false) ∧ ∀ u H' ts, Same H H' → PolyAt K cP H' u ts → (∀ i, cf ts i = one0 q i) → ts.length ≤ 1 → Q u H'))
theorem sc25 : FnScope ["value"] ["value"] (defScope (top 27)) := ⟨rfl, rfl, rfl, by decide +kernel, rfl, by decide +kernel, by decide +kernel⟩
theorem ArgQ.ty {H : Hp} {v : V} {n m : Nat} {q : Rat} (h : ArgQ K H v n m q) : ∃ t, TyN K H v t := by
  obtain ⟨a, b, h, _⟩ := h
  cases h with
  | int => exact ⟨_, ty_int⟩
  | two hs b0 =>
    obtain ⟨t, ty, _⟩ := hs.ty
    exact ⟨t, ty⟩
theorem ok_as (T : Tz P K mg) : FnOk P w K mg base CX0 7 T.as_poly.f T.as_poly.fd ["value"] (spAs K T.cP) := by
  have G : FnOk P w K mg base CX0 3 T.is_ratio.f T.is_ratio.fd ["value"] (spRatio K) := ok_ratio T.toTx
  refine T.as_poly.fn.ok sc25 (fun vs H Q E h => ?_) (fun cdv A outer s H vs Q E hr h => ?_)
  · obtain ⟨v, rfl, _⟩ := h
    rfl
  · obtain ⟨v, rfl, h⟩ := h
    refine ⟨_, pss_cons (ps_if (pt_val (pe_callB call_isi (by rfl) T.mIsi boot_isi (pa_cons (pv 0) (pa_cons (pe_glob (v := .ref T.cP) rfl T.mgP rfl) pa_nil)))) (pss_one (ps_ret (pv 0))) pss_nil)
      (pss_cons (ps_if (PW.pt (pw_and (pt_val (T.is_ratio.c0 G (hr.mono (by decide)) (pa_cons (pv 0) pa_nil))) (pw_and1 (pt_not (pt_val (pe_callB call_isi (by rfl) T.mIsi boot_isi (pa_cons (pv 0) (pa_cons (pe_bltn (v := .ty "list") (by rfl) T.blt.list boot_tlist rfl) pa_nil))))))))
        (pss_one (ps_ret (T.cPoly hr (pa_cons (pe_tup (pa_cons (pv 0) pa_nil)) pa_nil)))) pss_nil)
      (pss_one (ps_ret pe_non))), ?_⟩
    rcases h with ⟨qs, ⟨a, dx, t, ws, rfl, ha, r⟩, q⟩ | ⟨q, n, m, aq, m9, nl, k⟩
    · refine ⟨_, rfl, _, _, _, _, true, rfl, .own _, poly_ty T ha, kit_self, _, rfl, ?_⟩
      exact iteT ⟨_, rfl, q⟩
    · obtain ⟨t, ty, nlt⟩ := nl
      refine ⟨_, rfl, v, _, _, _, false, rfl, .own _, ty.1, T.notP t ty.2, _, rfl, ?_⟩
      obtain ⟨t', b, ty', pr, e⟩ := aq.rb
      refine iteF ⟨_, rfl, v, t', b, rfl, ty', pr, fun H1 s1 => ?_⟩
      rw [← e]
      refine ⟨_, rfl, iteT ⟨_, rfl, v, _, _, _, _, rfl, .ty _, (ty.same s1).1, kit_ty (kb_list t ty.2), _, rfl, ?_⟩⟩
      rw [nlt]
      refine iteT ⟨_, rfl, (by show 1 ≤ sizeLine; decide), fun p hp => ?_⟩
      have s2 := s1.trans (Same.new (o := .tup [v]) hp)
      have aa : AlA K (upd H1 p (.tup [v])) [v] n m [q] := ⟨rfl, fun i u r e1 e2 => by
        cases i with
        | zero => cases e1; cases e2; exact aq.same s2
        | succ i => simp at e1⟩
      exact poly_made (.inr (SqT.of upd_same)) aa m9 (by show 1 ≤ 1000; decide) fun u H' ts s3 pa l e => k u H' ts (s2.trans s3) pa (fun i => by rw [e, cf_one]) l
end
end Kz
set_option linter.all false
set_option maxRecDepth 100000
set_option maxHeartbeats 4000000
namespace Kz
open PySem PySem.Spec PyProof.Rows L2
def gI (zs : List Int) : Nat := zs.foldl (fun a z => Nat.gcd a z.natAbs) 0
theorem gI_snoc (zs : List Int) (z : Int) : gI (zs ++ [z]) = Nat.gcd (gI zs) z.natAbs := by
  unfold gI
  rw [List.foldl_append]
  rfl
theorem gI_dvd : ∀ zs : List Int, ∀ z ∈ zs, gI zs ∣ z.natAbs := by
  refine rev_ind (by simp) fun l x h => ?_
  intro q hq
  rw [gI_snoc]
  rcases List.mem_append.mp hq with m | m
  · exact Nat.dvd_trans (Nat.gcd_dvd_left _ _) (h q m)
  · have : q = x := by simpa using m
    subst this
    exact Nat.gcd_dvd_right _ _
theorem gI_pos {zs : List Int} {z : Int} (m : z ∈ zs) (h : z ≠ 0) : 0 < gI zs := by
  rcases Nat.eq_zero_or_pos (gI zs) with e | e
  · have := gI_dvd zs z m
    rw [e, Nat.zero_dvd] at this
    omega
  · exact e
theorem gI_le {zs : List Int} {z : Int} (m : z ∈ zs) (h : z ≠ 0) : gI zs ≤ z.natAbs := Nat.le_of_dvd (by omega) (gI_dvd zs z m)
def leanOf (zs : List Int) (k : Nat) : List Int := (zs.take k).map fun z => z.fdiv ((gI zs : Nat) : Int)
section
variable {P : Program} {w : World} {K : PySem.W.Frag} {mg : Str → Option Value} {base : Heap}
def spLean (K : PySem.W.Frag) : Sp := fun vs H Q _ => ∃ a zs, vs = [.ref a] ∧ SqL K H a (zs.map V.int) ∧ (∀ z ∈ zs, z.natAbs < 2 ^ 9000) ∧ zs.length ≤ 1000 ∧
  ∀ p H' k, Same H H' → NeedI zs k → H' p = some (.lst ((leanOf zs k).map V.int)) → H p = none → Q (.ref p) H'
abbrev nLe : List Str := ["row", "most", "number"]
theorem sc31 : FnScope nLe ["row"] (defScope (top 32)) := ⟨rfl, rfl, rfl, by decide +kernel, rfl, by decide +kernel, by decide +kernel⟩
theorem ok_lean (T : Tz P K mg) : FnOk P w K mg base CX0 2 T.lean.f T.lean.fd ["row"] (spLean K) := by
  have G : FnOk P w K mg base CX0 1 T.many_needed.f T.many_needed.fd ["row"] (spNeed K) := ok_need T
  refine T.lean.fn.ok sc31 (fun vs H Q E h => ?_) (fun cdv A outer s H vs Q E hr h => ?_)
  · obtain ⟨a, zs, rfl, _⟩ := h
    rfl
  · obtain ⟨a, zs, rfl, hs, bz, len, q⟩ := h
    refine ⟨_, pss_cons (ps_set (i := 1) sc31.nd rfl (.inr rfl) pe_int)
      (pss_cons (ps_for PassesOwn.never rfl (pi_list (pv 0)) (pg_name (i := 2) sc31.nd rfl (.inl rfl)) (pss_one (ps_set (i := 1) sc31.nd rfl (.inr rfl) (pe_callBfun cr_gcd (by rfl) T.mGcd (pa_cons (pv 1) (pa_cons (pv 2) pa_nil))))))
      (pss_one (ps_ret (pe_lc (own := [("number", 2)]) (g := gName 2) (tt := tYes) rfl sc31.nd (pi_list (pe_slice sl_list (pv 0) po_none (po_some (T.many_needed.c0 G hr (pa_cons (pv 0) pa_nil))))) (blkOk_by (own := [("number", 2)]) (N := nLe) (sc := defScope (top 32)) (by decide +kernel))
        (fun _ _ _ _ _ => pg_name (i := 2) sc31.nd rfl (Or.inl rfl)) (fun _ _ _ _ _ => pts_nil) (fun _ _ _ _ _ => pe_op op_fdivF (pv 2) (pv 1)))))), ?_⟩
    have lm : (zs.map V.int).length = zs.length := List.length_map _
    refine ⟨_, rfl, a, rfl, ⟨_, hs⟩, for_list (K := K) (a := a) (xs := zs.map V.int) (fun i σ H' => H' = H ∧ ∃ v, σ = [some (.ref a), some (.int ((gI (zs.take i) : Nat) : Int)), v]) ⟨rfl, none, rfl⟩ (fun i σ H' _ ⟨e, _⟩ => e ▸ hs) ?_ ?_⟩
    · rintro i x σ H' hx ⟨rfl, v, rfl⟩
      have lt : i < zs.length := by
        have := (List.getElem?_eq_some_iff.mp hx).1
        omega
      rw [List.getElem?_map, List.getElem?_eq_getElem lt] at hx
      cases hx
      refine ⟨_, rfl, _, rfl, _, _, rfl, rfl, some (.int zs[i]), ?_⟩
      rw [take_snoc (List.getElem?_eq_getElem lt), gI_snoc]
      rfl
    · rintro σ H' ⟨rfl, v, rfl⟩
      rw [lm, List.take_length]
      refine ⟨_, rfl, _, rfl, a, zs, rfl, hs, len, fun k hk => ?_⟩
      refine ⟨_, rfl, a, _, rfl, hs, fun p hp => ?_⟩
      rw [cut_take (by rw [lm]; exact hk.1)]
      have s1 := Same.new (o := .lst ((zs.map V.int).take k)) hp
      have e1 : upd H' p (.lst ((zs.map V.int).take k)) p = some (.lst ((zs.map V.int).take k)) := upd_same
      generalize upd H' p (.lst ((zs.map V.int).take k)) = H1 at s1 e1
      refine ⟨p, rfl, ⟨_, SqL.of e1⟩, fun D hD => ?_⟩
      have lk : ((zs.map V.int).take k).length = k := by rw [List.length_take, lm]; have := hk.1; omega
      refine lc_mapL (SqL.of e1) (by rw [lk]; have := hk.1; omega) hD (fun i acc _ => acc = ((leanOf zs k).take i).map V.int) bears_pure rfl ?_ ?_
      · intro i x hx acc H2 Qk Z l r s kk
        have lt : i < k := by
          have := (List.getElem?_eq_some_iff.mp hx).1
          omega
        have ltz : i < zs.length := by have := hk.1; omega
        rw [List.getElem?_take, if_pos lt, List.getElem?_map, List.getElem?_eq_getElem ltz] at hx
        cases hx
        refine ⟨rfl, ?_⟩
        dsimp only [tYes]
        obtain ⟨z0, ez0, nz0⟩ := hk.2.2 (k - 1) (by omega)
        have mz := List.mem_of_getElem? ez0
        have g0 := gI_pos mz nz0
        have gl := gI_le mz nz0
        have gb : (((gI zs : Nat) : Int)).natAbs < 2 ^ 9000 := Nat.lt_of_le_of_lt (by simpa using gl) (bz _ mz)
        refine iteT ⟨_, rfl, _, rfl, _, _, rfl, rfl, cdivF (by omega) gb, kk _ _ (Same.refl _) ?_⟩
        have e : (leanOf zs k)[i]? = some (zs[i].fdiv ((gI zs : Nat) : Int)) := by
          unfold leanOf
          rw [List.getElem?_map, List.getElem?_take, if_pos lt, List.getElem?_eq_getElem ltz]
          rfl
        show acc ++ [V.int (zs[i].fdiv ((gI zs : Nat) : Int))] = ((leanOf zs k).take (i + 1)).map V.int
        rw [take_snoc e, List.map_append, r]
        rfl
      · intro acc H2 hacc lacc r s
        have r' : acc = ((leanOf zs k).take ((zs.map V.int).take k).length).map V.int := r
        have ll : (leanOf zs k).length = k := by unfold leanOf; rw [List.length_map, List.length_take]; have := hk.1; omega
        rw [lk, List.take_of_length_le (by omega)] at r'
        subst r'
        refine q D H2 k (s1.trans s) hk hacc ?_
        cases e : H' D with
        | none => rfl
        | some o =>
          have := s1 _ _ e
          rw [hD] at this
          cases this
end
end Kz
set_option linter.all false
set_option maxRecDepth 100000
set_option maxHeartbeats 4000000
namespace Kz
open PySem PySem.Spec PyProof.Rows L2
/-- one step of a division without fractions -/
def pval (D r : List Int) (i : Nat) : Int := ig r i * ig D (D.length - 1) - (if r.length - D.length ≤ i then ig r (r.length - 1) * ig D (i - (r.length - D.length)) else 0)
def pstep (D r : List Int) : List Int := (List.range (r.length - 1)).map (pval D r)
def pit (D : List Int) : Nat → List Int → List Int
  | 0, r => r
  | n + 1, r => pit D n (pstep D r)
theorem pstep_len {D r : List Int} : (pstep D r).length = r.length - 1 := by
  unfold pstep
  rw [List.length_map, List.length_range]
theorem iRow_map {n : Nat} {f : Nat → Int} : iRow n f = ((List.range n).map f).map V.int := by
  unfold iRow
  rw [List.map_map]
  rfl
def BdI (n : Nat) (zs : List Int) : Prop := ∀ z ∈ zs, z.natAbs < 2 ^ n
theorem BdI.ig {n : Nat} {zs : List Int} (h : BdI n zs) (i : Nat) : (ig zs i).natAbs < 2 ^ n := by
  rcases Nat.lt_or_ge i zs.length with lt | ge
  · exact h _ (List.mem_of_getElem? (at_ig lt))
  · rw [ig_out ge]
    exact Nat.two_pow_pos _
theorem pval_lt {D r : List Int} {x b : Nat} (hr : BdI x r) (hD : BdI b D) (i : Nat) : (pval D r i).natAbs < 2 ^ (x + b + 1) := by
  unfold pval
  have h1 := wide_lt (hr.ig i) (hD.ig (D.length - 1))
  have h2 : ((if r.length - D.length ≤ i then ig r (r.length - 1) * ig D (i - (r.length - D.length)) else 0 : Int)).natAbs < 2 ^ (x + b) := by
    split
    · exact wide_lt (hr.ig _) (hD.ig _)
    · exact Nat.two_pow_pos _
  have h3 := Int.natAbs_sub_le (ig r i * ig D (D.length - 1)) (if r.length - D.length ≤ i then ig r (r.length - 1) * ig D (i - (r.length - D.length)) else 0)
  rw [Nat.pow_succ]
  omega
theorem pstep_bd {D r : List Int} {x b : Nat} (hr : BdI x r) (hD : BdI b D) : BdI (x + b + 1) (pstep D r) := fun z m => by
  unfold pstep at m
  obtain ⟨i, _, rfl⟩ := List.mem_map.mp m
  exact pval_lt hr hD i
theorem pit_bd {D : List Int} {b : Nat} (hD : BdI b D) : ∀ (n : Nat) {x : Nat} {r : List Int}, BdI x r → BdI (x + n * (b + 1)) (pit D n r)
  | 0, x, r, h => by
    rw [Nat.zero_mul]
    exact h
  | n + 1, x, r, h => by
    have := pit_bd hD n (pstep_bd h hD)
    have e : x + b + 1 + n * (b + 1) = x + (n + 1) * (b + 1) := by
      rw [Nat.succ_mul]
      omega
    rw [e] at this
    exact this
theorem pit_len {D : List Int} : ∀ (n : Nat) (r : List Int), (pit D n r).length = r.length - n
  | 0, r => rfl
  | n + 1, r => by
    show (pit D n (pstep D r)).length = _
    rw [pit_len n, pstep_len]
    omega
theorem BdI.up {n m : Nat} {zs : List Int} (h : BdI n zs) (l : n ≤ m) : BdI m zs := fun z hz => up_lt (h z hz) l
section
variable {P : Program} {w : World} {K : PySem.W.Frag} {mg : Str → Option Value} {base : Heap}
def spLrest (K : PySem.W.Frag) : Sp := fun vs H Q _ => ∃ a b zs ds x y, vs = [.ref a, .ref b] ∧ SqL K H a (zs.map V.int) ∧ SqL K H b (ds.map V.int) ∧ BdI x zs ∧ BdI y ds ∧ zs.length ≤ 1000 ∧ 0 < ds.length ∧ ds.length ≤ 1000 ∧ x + (zs.length + 1 - ds.length) * (y + 1) ≤ 9000 ∧ y ≤ 9000 ∧
  ∀ p H' k, Same H H' → NeedI (pit ds (zs.length + 1 - ds.length) zs) k → H' p = some (.lst ((leanOf (pit ds (zs.length + 1 - ds.length) zs) k).map V.int)) → H p = none → Q (.ref p) H'
abbrev nLr : List Str := ["row", "divisor", "rest", "last", "factor", "start", "k", "number"]
theorem sc32 : FnScope nLr ["row", "divisor"] (defScope (top 33)) := ⟨rfl, rfl, rfl, by decide +kernel, rfl, by decide +kernel, by decide +kernel⟩
theorem pit_succ {D : List Int} : ∀ (n : Nat) (r : List Int), pit D (n + 1) r = pstep D (pit D n r)
  | 0, r => rfl
  | n + 1, r => pit_succ n (pstep D r)
theorem atI_last {xs : List V} {v : V} (h : xs[xs.length - 1]? = some v) : atI xs (-1) = some v := by
  have lt := (List.getElem?_eq_some_iff.mp h).1
  unfold atI ixN
  rw [if_neg (by decide), if_pos (by omega)]
  show xs[((-1 : Int) + (xs.length : Int)).toNat]? = some v
  have : ((-1 : Int) + (xs.length : Int)).toNat = xs.length - 1 := by omega
  rw [this]
  exact h
def rowLen (σ : L2.St) (H : Hp) : Nat := match (show List (Option V) from σ)[2]? with
  | some (some (V.ref r)) => match H r with
    | some (HO.lst xs) => xs.length
    | _ => 0
  | _ => 0
theorem Same.none_of {H H' : Hp} {p : Addr} (s : Same H H') (h : H' p = none) : H p = none := by
  cases e : H p with
  | none => rfl
  | some o =>
    have := s _ _ e
    rw [h] at this
    cases this
theorem ok_lrest (T : Tz P K mg) : FnOk P w K mg base CX0 3 T.lean_rest.f T.lean_rest.fd ["row", "divisor"] (spLrest K) := by
  have G : FnOk P w K mg base CX0 2 T.lean.f T.lean.fd ["row"] (spLean K) := ok_lean T
  refine T.lean_rest.fn.ok sc32 (fun vs H Q E h => ?_) (fun cdv A outer s H vs Q E hr h => ?_)
  · obtain ⟨a, b, zs, ds, x, y, rfl, _⟩ := h
    rfl
  · obtain ⟨a, b, zs, ds, x, y, rfl, hs, hd, bz, bd, lz, d0, ld, bb, y9, q⟩ := h
    refine ⟨_, pss_cons (ps_set (i := 2) sc32.nd rfl (.inl rfl) (pe_callTy call_list_of (by rfl) T.blt.list boot_tlist (pa_cons (pv 0) pa_nil)))
      (pss_cons (ps_set (i := 3) sc32.nd rfl (.inr rfl) (pe_ix ix_list (pv 1) (pe_un un_neg pe_int) (fun _ _ => rfl)))
      (pss_cons (ps_while PassesOwn.never (pt_cmpR op_ge (pe_callB call_len_seq (by rfl) T.blt.len PySem.boot_len (pa_cons (pv 2) pa_nil)) (pe_callB call_len_seq (by rfl) T.blt.len PySem.boot_len (pa_cons (pv 1) pa_nil)) (nomark _))
        (pss_cons (ps_set (i := 4) sc32.nd rfl (.inl rfl) (pe_bm0 PySem.F.plainAttrs_list PySem.F.slot_list_pop PySem.F.type_list_pop mt_pop (pv 2)))
        (pss_cons (ps_set (i := 5) sc32.nd rfl (.inl rfl) (pe_op op_sub (pe_op op_add (pe_callB call_len_seq (by rfl) T.blt.len PySem.boot_len (pa_cons (pv 2) pa_nil)) pe_int) (pe_callB call_len_seq (by rfl) T.blt.len PySem.boot_len (pa_cons (pv 1) pa_nil))))
        (pss_cons (ps_setLc (i := 2) (own := [("number", 7)]) (g := gName 7) (tt := tYes) rfl sc32.nd rfl rfl (sw_true rfl rfl rfl (by decide +kernel)) (pi_list (pv 2)) (blkOk_by (own := [("number", 7)]) (N := nLr) (sc := defScope (top 33)) (by decide +kernel))
          (fun _ _ _ _ _ => pg_name (i := 7) sc32.nd rfl (Or.inl rfl)) (fun _ _ _ _ _ => pts_nil) (fun _ _ _ _ _ => pe_op op_mulW (pv 7) (pv 3)))
        (pss_one (ps_for PassesOwn.never rfl (pi_range1 rfl T.blt.range (pa_cons (pe_op op_sub (pe_callB call_len_seq (by rfl) T.blt.len PySem.boot_len (pa_cons (pv 1) pa_nil)) pe_int) pa_nil)) (pg_name (i := 6) sc32.nd rfl (.inl rfl))
          (pss_one (ps_asg (pe_op op_sub (pe_ix ix_list (pv 2) (pe_op op_add (pv 5) (pv 6)) (fun _ _ => rfl)) (pe_op op_mulW (pv 4) (pe_ix ix_list (pv 1) (pv 6) (fun _ _ => rfl)))) (pg_sub (pv 2) (pe_op op_add (pv 5) (pv 6)) set_list (fun _ => rfl))))))))))
      (pss_one (ps_ret (T.lean.c0 G hr (pa_cons (pv 2) pa_nil)))))), ?_⟩
    have lmz : ∀ l : List Int, (l.map V.int).length = l.length := fun l => List.length_map _
    refine ⟨_, rfl, a, _, rfl, .inl hs, fun r0 nr0 => ?_⟩
    have s1 := Same.new (o := .lst (zs.map V.int)) nr0
    have e1 : upd H r0 (.lst (zs.map V.int)) r0 = some (.lst (zs.map V.int)) := upd_same
    generalize upd H r0 (.lst (zs.map V.int)) = H1 at s1 e1
    have lastAt : atI (ds.map V.int) (-1) = some (.int (ig ds (ds.length - 1))) := by
      refine atI_last ?_
      rw [lmz, List.getElem?_map, at_ig (by omega)]
      rfl
    refine ⟨_, rfl, _, rfl, b, _, _, _, rfl, rfl, Same.seq s1 hd, lastAt, ?_⟩
    refine while_by (fun σ H' => ∃ j rr v4 v5 v6, j ≤ zs.length + 1 - ds.length ∧ σ = [some (.ref a), some (.ref b), some (.ref rr), some (.int (ig ds (ds.length - 1))), v4, v5, v6, none] ∧ H' rr = some (.lst ((pit ds j zs).map V.int)) ∧ Same H H' ∧ H rr = none) rowLen
      ⟨0, r0, none, none, none, Nat.zero_le _, rfl, e1, s1, nr0⟩ ?_ ?_
    · rintro σ H2 ⟨j, rr, v4, v5, v6, hj, rfl, hrr, s2, nrr⟩
      have hd2 := Same.seq s2 hd
      have lr := pit_len (D := ds) j zs
      have br := pit_bd bd j bz
      generalize hR : pit ds j zs = R at hrr lr br
      have lR : (R.map V.int).length = R.length := List.length_map _
      have lD : (ds.map V.int).length = ds.length := List.length_map _
      refine ⟨_, rfl, rr, _, rfl, .inl (SqL.of hrr), _, rfl, b, _, rfl, .inl hd2, _, _, rfl, rfl, _, rfl, ?_⟩
      refine ite2 (fun ge => ?_) (fun nge => ?_)
      · have ge' : (((R.map V.int).length : Nat) : Int) ≥ (((ds.map V.int).length : Nat) : Int) := of_decide_eq_true ge
        have ge2 : ds.length ≤ R.length := by omega
        have it := at_ig (ns := R) (i := R.length - 1) (by omega)
        refine ⟨_, rfl, .inl ⟨rfl, _, SqL.of hrr⟩, rr, _, .int (ig R (R.length - 1)), rfl, rfl, hrr, by rw [lR, List.getElem?_map, it]; rfl, ?_⟩
        have e3 : upd H2 rr (.lst (R.map V.int).dropLast) rr = some (.lst (R.map V.int).dropLast) := upd_same
        have s3 : Same H (upd H2 rr (.lst (R.map V.int).dropLast)) := fun c o e => by
          rw [upd_ne (ne_of_none e nrr)]
          exact s2 _ _ e
        generalize upd H2 rr (.lst (R.map V.int).dropLast) = H3 at e3 s3
        have hd3 := Same.seq s3 hd
        have ldl : (R.map V.int).dropLast.length = R.length - 1 := by rw [List.length_dropLast, lR]
        refine ⟨_, rfl, rr, _, rfl, .inl (SqL.of e3), _, _, rfl, rfl, _, rfl, b, _, rfl, .inl hd3, _, _, rfl, rfl, ?_⟩
        have est : (((R.map V.int).dropLast.length : Nat) : Int) + 1 - (((ds.map V.int).length : Nat) : Int) = ((R.length - ds.length : Nat) : Int) := by omega
        dsimp only []
        rw [est]
        refine ⟨_, rfl, rr, rfl, ⟨_, SqL.of e3⟩, fun D hD => ?_⟩
        refine lc_mapL (SqL.of e3) (by omega) hD (fun i acc _ => acc = (iRow (R.length - 1) fun i => ig R i * ig ds (ds.length - 1)).take i) bears_pure rfl ?_ ?_
        · intro i x hx acc H4 Qk Z l r s kk
          have lt : i < R.length - 1 := by
            have := (List.getElem?_eq_some_iff.mp hx).1
            omega
          rw [List.getElem?_dropLast, if_pos (by omega), List.getElem?_map, at_ig (by omega)] at hx
          cases hx
          refine ⟨rfl, ?_⟩
          dsimp only [tYes]
          refine iteT ⟨_, rfl, _, rfl, _, _, rfl, rfl, cmulW (br.ig i) (bd.ig _) (by have := Nat.mul_le_mul_right (y + 1) hj; omega), kk _ _ (Same.refl _) ?_⟩
          show acc ++ [V.int (ig R i * ig ds (ds.length - 1))] = (iRow (R.length - 1) fun i => ig R i * ig ds (ds.length - 1)).take (i + 1)
          rw [take_snoc (iRow_at lt), r]
        · intro acc H4 hacc lacc r s
          have r' : acc = (iRow (R.length - 1) fun i => ig R i * ig ds (ds.length - 1)).take (R.map V.int).dropLast.length := r
          rw [ldl, List.take_of_length_le (by rw [iRow_len]; exact Nat.le_refl _)] at r'
          subst r'
          have s4 := s3.trans s
          have nD : H D = none := Kz.Same.none_of s3 hD
          have hd4 := Same.seq s4 hd
          refine ⟨_, rfl, b, _, rfl, .inl hd4, _, _, rfl, rfl, _, rfl, by omega, by omega, ?_⟩
          have tn : ((((ds.map V.int).length : Nat) : Int) - 1).toNat = ds.length - 1 := by omega
          refine for_range (lo := 0) (n := ((((ds.map V.int).length : Nat) : Int) - 1).toNat) (fun k σ H' => k ≤ ds.length - 1 ∧ ∃ v6, σ = [some (.ref a), some (.ref b), some (.ref D), some (.int (ig ds (ds.length - 1))), some (.int (ig R (R.length - 1))), some (.int ((R.length - ds.length : Nat) : Int)), v6, none] ∧
            H' D = some (.lst (iRow (R.length - 1) fun i => ig R i * ig ds (ds.length - 1) - if R.length - ds.length ≤ i ∧ i < R.length - ds.length + k then ig R (R.length - 1) * ig ds (i - (R.length - ds.length)) else 0)) ∧ Same H H') ⟨Nat.zero_le _, v6, rfl, ?_, s4⟩ ?_ ?_
          · rw [hacc]
            congr 2
            refine iRow_ext fun i _ => ?_
            rw [if_neg (by omega), Int.sub_zero]
          · rintro k σ H5 hk ⟨_, v6, rfl, hf5, s5⟩
            rw [tn] at hk
            have hd5 := Same.seq s5 hd
            have e0 : (0 : Int) + ((k : Nat) : Int) = ((k : Nat) : Int) := Int.zero_add _
            have ek : ((R.length - ds.length : Nat) : Int) + ((k : Nat) : Int) = ((R.length - ds.length + k : Nat) : Int) := by omega
            have it := iRow_at (n := R.length - 1) (f := fun i => ig R i * ig ds (ds.length - 1) - if R.length - ds.length ≤ i ∧ i < R.length - ds.length + k then ig R (R.length - 1) * ig ds (i - (R.length - ds.length)) else 0) (show R.length - ds.length + k < R.length - 1 by omega)
            have itd : (ds.map V.int)[k]? = some (.int (ig ds k)) := by
              rw [List.getElem?_map, at_ig (by omega)]
              rfl
            rw [e0]
            refine ⟨_, rfl, _, rfl, _, rfl, _, _, rfl, rfl, D, _, _, _, rfl, rfl, SqL.of hf5, (by rw [ek]; exact atI_nat it), ?_⟩
            refine ⟨_, rfl, _, rfl, _, rfl, b, _, _, _, rfl, rfl, hd5, atI_nat itd, _, _, rfl, rfl, cmulW (br.ig _) (bd.ig k) (by have := Nat.mul_le_mul_right (y + 1) hj; omega), _, _, rfl, rfl, ?_⟩
            refine ⟨_, rfl, _, rfl, _, rfl, _, _, rfl, rfl, D, _, _, R.length - ds.length + k, rfl, rfl, hf5, (by rw [ek, iRow_len]; exact ixN_nat (by omega)), hk, _, rfl, ?_, fun c o ec => ?_⟩
            · rw [upd_same, iRow_set]
              congr 2
              refine iRow_ext fun i _ => ?_
              by_cases e : i = R.length - ds.length + k
              · rw [if_pos e, e, if_neg (by omega), if_pos (by omega), Int.sub_zero]
                congr 3
                omega
              · rw [if_neg e]
                congr 1
                by_cases c : R.length - ds.length ≤ i ∧ i < R.length - ds.length + k
                · rw [if_pos c, if_pos (by omega)]
                · rw [if_neg c, if_neg (by omega)]
            · rw [upd_ne (ne_of_none ec nD)]
              exact s5 _ _ ec
          · rintro σ H5 ⟨_, v6, rfl, hf5, s5⟩
            rw [tn] at hf5
            have es : H5 D = some (.lst ((pit ds (j + 1) zs).map V.int)) := by
              rw [hf5, pit_succ, hR]
              unfold pstep
              rw [← iRow_map]
              congr 2
              refine iRow_ext fun i hi => ?_
              unfold pval
              congr 1
              by_cases c : R.length - ds.length ≤ i
              · rw [if_pos c, if_pos (by omega)]
              · rw [if_neg c, if_neg (by omega)]
            refine ⟨⟨j + 1, D, _, _, _, by omega, rfl, es, s5, nD⟩, ?_⟩
            show (match H5 D with | some (.lst xs) => xs.length | _ => 0) < (match H2 rr with | some (.lst xs) => xs.length | _ => 0)
            rw [es, hrr]
            show ((pit ds (j + 1) zs).map V.int).length < (R.map V.int).length
            rw [lR, List.length_map, pit_len]
            omega
      · have nge' : ¬ ((((R.map V.int).length : Nat) : Int) ≥ (((ds.map V.int).length : Nat) : Int)) := fun z => nge (decide_eq_true z)
        have hjn : j = zs.length + 1 - ds.length := by omega
        refine ⟨_, rfl, rr, R, rfl, SqL.of hrr, fun z hz => ?_, by omega, fun p H3 k s3 hk hp np => ?_⟩
        · exact up_lt (br z hz) (by rw [hjn]; exact bb)
        · rw [← hR, hjn] at hk hp
          exact q p H3 k (s2.trans s3) hk hp (Kz.Same.none_of s2 np)
    · intro σ H Q Q' imp h
      obtain ⟨v, e, p, xs, e1, h1, v', e', p', xs', e1', h1', i, j, e2, e3, k, e4, h⟩ := h
      exact ⟨v, e, p, xs, e1, h1, v', e', p', xs', e1', h1', i, j, e2, e3, k, e4, imp _ _ h⟩
end
end Kz
set_option linter.all false
set_option maxRecDepth 100000
set_option maxHeartbeats 4000000
namespace Kz
open PySem PySem.Spec PyProof.Rows L2
/-- the rows that a search for a common divisor goes through -/
inductive Run : List Int → List Int → List Int → Prop
  | done {r : List Int} : Run r [] r
  | step {r d f : List Int} {x y : Nat} (k : Nat) : BdI x r → BdI y d → x + (r.length + 1 - d.length) * (y + 1) ≤ 9000 → y ≤ 9000 → 0 < d.length → NeedI (pit d (r.length + 1 - d.length) r) k → Run d (leanOf (pit d (r.length + 1 - d.length) r) k) f → Run r d f
theorem need_one {ns : List Int} {k j : Nat} (a : NeedI ns k) (b : NeedI ns j) : k = j := by
  rcases Nat.lt_trichotomy k j with lt | e | lt
  · obtain ⟨z, e, n⟩ := b.2.2 (j - 1) (by omega)
    exact absurd (a.2.1 (j - 1) z (by omega) e) n
  · exact e
  · obtain ⟨z, e, n⟩ := a.2.2 (k - 1) (by omega)
    exact absurd (b.2.1 (k - 1) z (by omega) e) n
theorem lean_len {zs : List Int} {k : Nat} (h : NeedI zs k) : (leanOf zs k).length = k := by
  unfold leanOf
  rw [List.length_map, List.length_take]
  have := h.1
  omega
section
variable {P : Program} {w : World} {K : PySem.W.Frag} {mg : Str → Option Value} {base : Heap}
def spComm (K : PySem.W.Frag) (cP : Addr) : Sp := fun vs H Q _ => ∃ p r qs rs n m n' m' k k' f, vs = [p, r] ∧ PolyAt K cP H p qs ∧ PolyAt K cP H r rs ∧ SzA n m qs ∧ SzA n' m' rs ∧ m ≤ 9000 ∧ m' ≤ 9000 ∧ n ≤ 300000 ∧ n' ≤ 300000 ∧
  qs.length ≤ 200 ∧ rs.length ≤ 200 ∧ m * qs.length + 2 ≤ 13000 ∧ m' * rs.length + 2 ≤ 13000 ∧ BdI 9000 (topsOf qs) ∧ BdI 9000 (topsOf rs) ∧ NeedI (topsOf qs) k ∧ NeedI (topsOf rs) k' ∧ Run (leanOf (topsOf qs) k) (leanOf (topsOf rs) k') f ∧
  BdI 8000 f ∧ (∀ j, f.length = j + 1 → ig f j ≠ 0) ∧
  ∀ v H' ts, Same H H' → PolyAt K cP H' v ts → (∀ i, cf ts i = (ig f i : Rat) / (ig f (f.length - 1) : Rat)) → Q v H'
abbrev nCo : List Str := ["one", "other", "row", "divisor", "number"]
theorem sc33 : FnScope nCo ["one", "other"] (defScope (top 34)) := ⟨rfl, rfl, rfl, by decide +kernel, rfl, by decide +kernel, by decide +kernel⟩
def colLen (σ : L2.St) (H : Hp) : Nat := match (show List (Option V) from σ)[3]? with
  | some (some (V.ref r)) => match H r with
    | some (HO.lst xs) => xs.length
    | _ => 0
  | _ => 0
theorem ok_comm (T : Tz P K mg) : FnOk P w K mg base CX0 7 T.common.f T.common.fd ["one", "other"] (spComm K T.cP) := by
  have G1 : FnOk P w K mg base CX0 1 T.over_one.f T.over_one.fd ["pairs"] (spOver K) := ok_over T
  have G2 : FnOk P w K mg base CX0 2 T.lean.f T.lean.fd ["row"] (spLean K) := ok_lean T
  have G3 : FnOk P w K mg base CX0 3 T.lean_rest.f T.lean_rest.fd ["row", "divisor"] (spLrest K) := ok_lrest T
  have G4 : FnOk P w K mg base (CX P w) 5 T.share.f T.share.fd ["one", "other"] (spShare K T.cN) := ok_share T.toTx
  refine T.common.fn.ok sc33 (fun vs H Q E h => ?_) (fun cdv A outer s H vs Q E hr h => ?_)
  · obtain ⟨p, r, qs, rs, n, m, n', m', k, k', f, rfl, _⟩ := h
    rfl
  · obtain ⟨p, r, qs, rs, n, m, n', m', k, k', f, rfl, hp, hq, zq, zr, m9, m9', n3, n3', l2, l2', lm, lm', bq, br, nk, nk', run, bf, last, q⟩ := h
    have hr1 : Room 1 _ := hr.mono (by decide)
    have hr2 : Room 2 _ := hr.mono (by decide)
    have hr3 : Room 3 _ := hr.mono (by decide)
    have hr5 : Room 5 _ := hr.mono (by decide)
    refine ⟨_, pss_cons (ps_set (i := 2) sc33.nd rfl (.inr rfl) (T.lean.c0 G2 hr2 (pa_cons (pe_ix ix_tup (T.over_one.c0 G1 hr1 (pa_cons (pe_fld (pv 0) (by rfl)) pa_nil)) pe_int (fun _ _ => rfl)) pa_nil)))
      (pss_cons (ps_set (i := 3) sc33.nd rfl (.inl rfl) (T.lean.c0 G2 hr2 (pa_cons (pe_ix ix_tup (T.over_one.c0 G1 hr1 (pa_cons (pe_fld (pv 1) (by rfl)) pa_nil)) pe_int (fun _ _ => rfl)) pa_nil)))
      (pss_cons (ps_while PassesOwn.never (pt_cmpR op_gt (pe_callB call_len_seq (by rfl) T.blt.len PySem.boot_len (pa_cons (pv 3) pa_nil)) pe_int (nomark _))
        (pss_one (ps_asg (pe_tup (pa_cons (pv 3) (pa_cons (T.lean_rest.c0 G3 hr3 (pa_cons (pv 2) (pa_cons (pv 3) pa_nil))) pa_nil))) (pg_tup (by rfl) (pgs_cons (pg_name (i := 2) sc33.nd rfl (.inr rfl)) (pgs_cons (pg_name (i := 3) sc33.nd rfl (.inl rfl)) pgs_nil))))))
      (pss_one (ps_ret (T.cPoly hr (pa_cons (pe_lc (own := [("number", 4)]) (g := gName 4) (tt := tYes) rfl sc33.nd (pi_list (pv 2)) (blkOk_by (own := [("number", 4)]) (N := nCo) (sc := defScope (top 34)) (by decide +kernel))
        (fun _ _ _ _ _ => pg_name (i := 4) sc33.nd rfl (Or.inl rfl)) (fun _ _ _ _ _ => pts_nil) (fun _ _ _ _ _ => T.share.cX G4 hr5 (pa_cons (pv 4) (pa_cons (pe_ix (r := rIxL K) ix_list (pv 2) (pe_un un_neg pe_int) (fun _ _ => rfl)) pa_nil)))) pa_nil)))))), ?_⟩
    obtain ⟨a, dx, t, ws, rfl, ha, ht, al, tr⟩ := id hp
    obtain ⟨b, dx', t', ws', rfl, hb, ht', al', tr'⟩ := id hq
    have lmz : ∀ l : List Int, (l.map V.int).length = l.length := fun l => List.length_map _
    have ltq : (topsOf qs).length = qs.length := List.length_map _
    have ltr : (topsOf rs).length = rs.length := List.length_map _
    refine ⟨_, rfl, a, T.cP, dx, _, _, rfl, ha, T.clP, T.nP, lkN, t, ws, qs, n, m, rfl, ht, al, zq, m9, by omega, lm, by omega, fun p1 l1 H1 s1 hp1 hl1 nl1 => ?_⟩
    refine ⟨p1, _, _, _, rfl, rfl, hp1, atI_nat (j := 0) rfl, l1, topsOf qs, rfl, SqL.of hl1, bq, by omega, fun r1 H2 k1 s2 hk1 hr1' nr1 => ?_⟩
    cases need_one hk1 nk
    have s12 := s1.trans s2
    refine ⟨_, rfl, b, T.cP, dx', _, _, rfl, s12 _ _ hb, T.clP, T.nP, lkN, t', ws', rs, n', m', rfl, Kz.Same.seqT s12 ht', al'.same s12, zr, m9', by omega, lm', by omega, fun p2 l2 H3 s3 hp2 hl2 nl2 => ?_⟩
    refine ⟨p2, _, _, _, rfl, rfl, hp2, atI_nat (j := 0) rfl, l2, topsOf rs, rfl, SqL.of hl2, br, by omega, fun r2 H4 k2 s4 hk2 hr2' nr2 => ?_⟩
    cases need_one hk2 nk'
    have s34 := s3.trans s4
    have s14 := s12.trans s34
    refine while_by (fun σ H' => ∃ u v row dv, σ = [some (.ref a), some (.ref b), some (.ref u), some (.ref v), none] ∧ H' u = some (.lst (row.map V.int)) ∧ H' v = some (.lst (dv.map V.int)) ∧ Run row dv f ∧ row.length ≤ 1000 ∧ dv.length ≤ 1000 ∧ Same H H') colLen
      ⟨r1, r2, _, _, rfl, s34 _ _ hr1', hr2', run, by rw [lean_len nk]; have := nk.1; omega, by rw [lean_len nk']; have := nk'.1; omega, s14⟩ ?_ ?_
    · rintro σ H5 ⟨u, v, row, dv, rfl, hu, hv, rn, lr, ld, s5⟩
      refine ⟨_, rfl, v, _, rfl, .inl (SqL.of hv), _, _, rfl, rfl, _, rfl, ?_⟩
      cases rn with
      | done =>
        refine iteF ?_
        refine ⟨_, rfl, u, rfl, ⟨_, SqL.of hu⟩, fun D hD => ?_⟩
        refine lc_mapL (SqL.of hu) (by rw [lmz]; exact lr) hD (fun i acc H' => Al K H' acc ((upTo f.length fun i => (ig f i : Rat) / (ig f (f.length - 1) : Rat)).take i)) bears_al Al.nil ?_ ?_
        · intro i x hx acc H6 Qk Z l r s kk
          have lt : i < f.length := by
            have := (List.getElem?_eq_some_iff.mp hx).1
            rw [lmz] at this
            exact this
          rw [List.getElem?_map, at_ig lt] at hx
          cases hx
          refine ⟨rfl, ?_⟩
          dsimp only [tYes]
          have la : atI (f.map V.int) (-1) = some (.int (ig f (f.length - 1))) := by
            refine atI_last ?_
            rw [lmz, List.getElem?_map, at_ig (by omega)]
            rfl
          have nz : ig f (f.length - 1) ≠ 0 := last (f.length - 1) (by omega)
          have nzr : ((ig f (f.length - 1) : Int) : Rat) ≠ 0 := fun z => nz (Rat.intCast_eq_zero_iff.mp z)
          refine iteT ⟨_, rfl, _, rfl, _, rfl, u, _, _, _, rfl, rfl, SqL.of (s _ _ hu), la, _, _, rfl, .inl ⟨_, _, 8000, 1, 8000, 1, arg_int (bf.ig i) (by decide), arg_int (bf.ig _) (by decide), by decide, by decide, by decide, by decide, nzr, fun v' H7 s7 rv => kk _ _ s7 ?_⟩⟩
          show Al K H7 (acc ++ [v']) ((upTo f.length fun i => (ig f i : Rat) / (ig f (f.length - 1) : Rat)).take (i + 1))
          rw [take_snoc (upTo_at lt)]
          exact (Al.same s7 r).snoc rv
        · intro acc H6 hacc lacc r s
          have r' : Al K H6 acc ((upTo f.length fun i => (ig f i : Rat) / (ig f (f.length - 1) : Rat)).take (f.map V.int).length) := r
          rw [lmz, List.take_of_length_le (by rw [upTo_len]; exact Nat.le_refl _)] at r'
          have za : SzA 8001 8001 (upTo f.length fun i => (ig f i : Rat) / (ig f (f.length - 1) : Rat)) := fun i l => by
            rw [upTo_len] at l
            rw [cf_at (upTo_at l)]
            have nz : ig f (f.length - 1) ≠ 0 := last (f.length - 1) (by omega)
            rw [← Rat.divInt_eq_div]
            rcases Int.lt_or_gt_of_ne nz with neg | pos
            · rw [← Rat.neg_divInt_neg]
              exact sz_divInt (by omega) (by rw [Int.natAbs_neg]; exact up_lt (bf.ig i) (by decide)) (by rw [Int.natAbs_neg]; exact up_lt (bf.ig _) (by decide))
            · exact sz_divInt pos (up_lt (bf.ig i) (by decide)) (up_lt (bf.ig _) (by decide))
          refine poly_made (.inl (SqL.of hacc)) (r'.arg za) (by decide) (by rw [lacc, lmz]; exact lr) fun v H7 ts s7 pa l e => q v H7 ts ((s5.trans s).trans s7) pa (fun i => ?_)
          rw [e, upTo_cf]
          intro i ge
          show ((ig f i : Int) : Rat) / _ = 0
          rw [ig_out ge, Rat.intCast_zero, Rat.div_def, Rat.zero_mul]
      | @step _ _ _ x y k0 bx by' hxy y9 d0 hk0 rn' =>
        rw [decide_eq_true (by rw [lmz]; show (0 : Int) < _; omega)]
        refine iteT ⟨_, rfl, _, rfl, _, rfl, u, v, row, dv, x, y, rfl, SqL.of hu, SqL.of hv, bx, by', lr, d0, ld, hxy, y9, fun p3 H6 k3 s6 hk3 hp3 np3 => ?_⟩
        cases need_one hk3 hk0
        refine ⟨(by show 2 ≤ sizeLine; decide), fun t3 nt3 => ?_⟩
        have s7 := Same.new (o := .tup [.ref v, .ref p3]) nt3
        refine ⟨t3, _, rfl, SqT.of upd_same, rfl, _, _, rfl, _, _, rfl, rfl, ?_⟩
        have ll := lean_len hk0
        have lp := pit_len (D := dv) (row.length + 1 - dv.length) row
        have hk1 := hk0.1
        refine ⟨⟨v, p3, _, _, rfl, s7 _ _ (s6 _ _ hv), s7 _ _ hp3, rn', ld, by omega, (s5.trans s6).trans s7⟩, ?_⟩
        show (match upd H6 t3 (.tup [.ref v, .ref p3]) p3 with | some (.lst xs) => xs.length | _ => 0) < (match H5 v with | some (.lst xs) => xs.length | _ => 0)
        rw [s7 _ _ hp3, hv]
        show ((leanOf _ k0).map V.int).length < (dv.map V.int).length
        rw [lmz, lmz]
        omega
    · intro σ H Q Q' imp h
      obtain ⟨v, e, p, xs, e1, h1, i, j, e2, e3, k, e4, h⟩ := h
      exact ⟨v, e, p, xs, e1, h1, i, j, e2, e3, k, e4, imp _ _ h⟩
end
end Kz
set_option linter.all false
set_option maxRecDepth 100000
set_option maxHeartbeats 4000000
namespace Kz
open PySem PySem.Spec PyProof.Rows L2
theorem Al.bear {K : PySem.W.Frag} {D : Addr} {H H' : Hp} {vs : List V} {qs : List Rat} {us : List V} (hD : H D = some (.lst us)) (b : But D H H') (h : Al K H vs qs) : Al K H' vs qs := by
  have z := bears_al (K := K) (D := D) (qs := qs) qs.length vs H H' (fun o e => ⟨us, by rw [hD] at e; exact (Option.some.inj e).symm⟩) b (by
    show Al K H vs (qs.take qs.length)
    rw [List.take_length]
    exact h)
  have z' : Al K H' vs (qs.take qs.length) := z
  rwa [List.take_length] at z'
/-- a row above one bottom -/
def CD (x y : Nat) (R : List Rat) : Prop := ∃ M : Nat, 0 < M ∧ M < 2 ^ y ∧ ∀ i, ∃ z : Int, z.natAbs < 2 ^ x ∧ cf R i = Rat.divInt z (M : Int)
theorem CD.sz {x y : Nat} {R : List Rat} (h : CD x y R) (i : Nat) : Sz x y (cf R i) := by
  obtain ⟨M, m0, m1, h⟩ := h
  obtain ⟨z, hz, e⟩ := h i
  rw [e]
  exact sz_divInt (by omega) hz (by simpa using m1)
theorem CD.szA {x y : Nat} {R : List Rat} (h : CD x y R) : SzA x y R := fun i _ => h.sz i
theorem mul_sz {n m n' m' : Nat} {q r : Rat} (a : Sz n m q) (b : Sz n' m' r) : Sz (n + n') (m + m') (q * r) := by
  rw [← rat_mul q r]
  exact sz_divInt (Int.mul_pos (den_pos' q) (den_pos' r)) (wide_lt a.1 b.1) (wide_lt (den_abs a) (den_abs b))
theorem div_sz {n m n' m' : Nat} {q r : Rat} (a : Sz n m q) (b : Sz n' m' r) (r0 : r ≠ 0) : Sz (n + m') (m + n') (q / r) := by
  have n0 := num_ne r0
  rcases Int.lt_or_gt_of_ne n0 with neg | pos
  · rw [← rat_div' q r]
    refine sz_divInt (Int.mul_pos (den_pos' q) (by omega)) ?_ ?_
    · exact wide_lt (by rw [Int.natAbs_neg]; exact a.1) (den_abs b)
    · exact wide_lt (den_abs a) (by rw [Int.natAbs_neg]; exact b.1)
  · rw [← rat_div q r]
    exact sz_divInt (Int.mul_pos (den_pos' q) pos) (wide_lt a.1 (den_abs b)) (wide_lt (den_abs a) b.1)
/-- one step of a division -/
def dfac (D R : List Rat) : Rat := cf R (R.length - 1) / cf D (D.length - 1)
def dval (D R : List Rat) (i : Nat) : Rat := if R.length - D.length ≤ i then cf R i - dfac D R * cf D (i - (R.length - D.length)) else cf R i
def dstep (D R : List Rat) : List Rat := upTo (R.length - 1) (dval D R)
def dit (D : List Rat) : Nat → List Rat → List Rat
  | 0, R => R
  | n + 1, R => dit D n (dstep D R)
def dqs (D : List Rat) : Nat → List Rat → List Rat
  | 0, _ => []
  | n + 1, R => dfac D R :: dqs D n (dstep D R)
theorem dstep_len {D R : List Rat} : (dstep D R).length = R.length - 1 := upTo_len
theorem dit_succ {D : List Rat} : ∀ (n : Nat) (R : List Rat), dit D (n + 1) R = dstep D (dit D n R)
  | 0, R => rfl
  | n + 1, R => dit_succ n (dstep D R)
theorem dqs_succ {D : List Rat} : ∀ (n : Nat) (R : List Rat), dqs D (n + 1) R = dqs D n R ++ [dfac D (dit D n R)]
  | 0, R => rfl
  | n + 1, R => by
    show dfac D R :: dqs D (n + 1) (dstep D R) = dfac D R :: (dqs D n (dstep D R) ++ [_])
    rw [dqs_succ n (dstep D R)]
    rfl
theorem dit_len {D : List Rat} : ∀ (n : Nat) (R : List Rat), (dit D n R).length = R.length - n
  | 0, R => rfl
  | n + 1, R => by
    show (dit D n (dstep D R)).length = _
    rw [dit_len n, dstep_len]
    omega
theorem dqs_len {D : List Rat} : ∀ (n : Nat) (R : List Rat), (dqs D n R).length = n
  | 0, R => rfl
  | n + 1, R => congrArg (· + 1) (dqs_len n _)
theorem divInt_cast (z : Int) (M : Nat) : Rat.divInt z (M : Int) = (z : Rat) / ((M : Int) : Rat) := Rat.divInt_eq_div _ _
theorem id1 {z d t L l M : Rat} (M0 : M ≠ 0) (L0 : L ≠ 0) (lq : l ≠ 0) : z / M - (t / M) / (l / L) * (d / L) = (z * l - t * d) / M / l := by grind
theorem id2 {z l M : Rat} (lq : l ≠ 0) : z / M = (z * l) / M / l := by grind
theorem id3 {w l M : Rat} : w / M / l = w / (M * l) := by grind
theorem dstep_cd {D R : List Rat} {x y c e : Nat} (hR : CD x y R) (hD : CD c e D) (l0 : cf D (D.length - 1) ≠ 0) : CD (x + c + 1) (y + c) (dstep D R) := by
  obtain ⟨M, m0, m1, hM⟩ := hR
  obtain ⟨L, n0, n1, hL⟩ := hD
  obtain ⟨l, hl, el⟩ := hL (D.length - 1)
  obtain ⟨t, ht, et⟩ := hM (R.length - 1)
  have lz : l ≠ 0 := fun z => l0 (by rw [el, z, Rat.zero_divInt])
  have M0 : ((M : Int) : Rat) ≠ 0 := fun z => by have := Rat.intCast_eq_zero_iff.mp z; omega
  have L0 : ((L : Int) : Rat) ≠ 0 := fun z => by have := Rat.intCast_eq_zero_iff.mp z; omega
  have lq : ((l : Int) : Rat) ≠ 0 := fun z => lz (Rat.intCast_eq_zero_iff.mp z)
  have sg : l.sign * l = ((l.natAbs : Nat) : Int) := by
    rcases Int.lt_or_gt_of_ne lz with h | h
    · rw [Int.sign_eq_neg_one_of_neg h]
      omega
    · rw [Int.sign_eq_one_of_pos h]
      omega
  refine ⟨M * l.natAbs, Nat.mul_pos m0 (by omega), ?_, fun i => ?_⟩
  · rw [Nat.pow_add]
    exact Nat.mul_lt_mul'' m1 hl
  · unfold dstep
    rcases Nat.lt_or_ge i (R.length - 1) with lt | ge
    · rw [cf_at (upTo_at lt)]
      obtain ⟨z, hz, ez⟩ := hM i
      have key : ∀ w : Int, (w : Rat) / ((M : Int) : Rat) / ((l : Int) : Rat) = Rat.divInt (l.sign * w) ((M * l.natAbs : Nat) : Int) := fun w => by
        have s0 : l.sign ≠ 0 := fun z => lz (Int.sign_eq_zero_iff_zero.mp z)
        rw [Int.natCast_mul, ← sg, show (M : Int) * (l.sign * l) = l.sign * ((M : Int) * l) from Int.mul_left_comm _ _ _, Rat.divInt_mul_left s0, Rat.divInt_eq_div, Rat.intCast_mul]
        exact id3
      have bs : ∀ w : Int, (l.sign * w).natAbs ≤ w.natAbs := fun w => by
        rw [Int.natAbs_mul]
        have : l.sign.natAbs ≤ 1 := by
          rcases Int.lt_trichotomy l 0 with h | h | h
          · rw [Int.sign_eq_neg_one_of_neg h]; decide
          · rw [h]; decide
          · rw [Int.sign_eq_one_of_pos h]; decide
        exact Nat.le_trans (Nat.mul_le_mul_right _ this) (by omega)
      unfold dval
      by_cases h : R.length - D.length ≤ i
      · rw [if_pos h]
        obtain ⟨d, hd, ed⟩ := hL (i - (R.length - D.length))
        refine ⟨l.sign * (z * l - t * d), ?_, ?_⟩
        · have h1 := wide_lt hz hl
          have h2 := wide_lt ht hd
          have h3 := Int.natAbs_sub_le (z * l) (t * d)
          have := bs (z * l - t * d)
          rw [Nat.pow_succ]
          omega
        · rw [← key]
          unfold dfac
          rw [ez, ed, el, et, divInt_cast, divInt_cast, divInt_cast, divInt_cast, Rat.intCast_sub, Rat.intCast_mul, Rat.intCast_mul]
          exact id1 M0 L0 lq
      · rw [if_neg h]
        refine ⟨l.sign * (z * l), ?_, ?_⟩
        · have h1 := wide_lt hz hl
          have := bs (z * l)
          have : 2 ^ (x + c) ≤ 2 ^ (x + c + 1) := pow_up (by omega)
          omega
        · rw [← key, ez, divInt_cast, Rat.intCast_mul]
          exact id2 lq
    · rw [cf_out (by rw [upTo_len]; exact ge)]
      exact ⟨0, by show (0 : Nat) < _; exact Nat.two_pow_pos _, by rw [Rat.zero_divInt]⟩
theorem dit_cd {D : List Rat} {c e : Nat} (hD : CD c e D) (l0 : cf D (D.length - 1) ≠ 0) : ∀ (n : Nat) {x y : Nat} {R : List Rat}, CD x y R → CD (x + n * (c + 1)) (y + n * c) (dit D n R)
  | 0, x, y, R, h => by
    rw [Nat.zero_mul, Nat.zero_mul]
    exact h
  | n + 1, x, y, R, h => by
    have := dit_cd hD l0 n (dstep_cd h hD l0)
    have e1 : x + c + 1 + n * (c + 1) = x + (n + 1) * (c + 1) := by rw [Nat.succ_mul]; omega
    have e2 : y + c + n * c = y + (n + 1) * c := by rw [Nat.succ_mul]; omega
    rw [e1, e2] at this
    exact this
end Kz
set_option linter.all false
set_option maxRecDepth 100000
set_option maxHeartbeats 4000000
namespace Kz
open PySem PySem.Spec PyProof.Rows L2
theorem dqs_sz {D : List Rat} {c e : Nat} (hD : CD c e D) (l0 : cf D (D.length - 1) ≠ 0) (c5 : c ≤ 500) (e5 : e ≤ 500) : ∀ (n : Nat) {x y : Nat} {R : List Rat}, CD x y R → x + n * (c + 1) ≤ 2000 → y + n * c ≤ 2000 → ∀ q ∈ dqs D n R, Sz 2500 2500 q
  | 0, x, y, R, _, _, _ => fun q m => by cases m
  | n + 1, x, y, R, h, b1, b2 => fun q m => by
    rw [Nat.succ_mul] at b1 b2
    rcases List.mem_cons.mp m with rfl | m
    · exact (div_sz ((h.sz _).up (n' := 2000) (m' := 2000) (by omega) (by omega)) ((hD.sz _).up c5 e5) l0)
    · exact dqs_sz hD l0 c5 e5 n (dstep_cd h hD l0) (by omega) (by omega) q m
section
variable {P : Program} {w : World} {K : PySem.W.Frag} {mg : Str → Option Value} {base : Heap}
theorem lkD {v : V} : ([(("numbers" : Str), v)] : List (Str × V)).lookup ("degree" : Str) = none := by
  have e : ((("degree" : Str)) == (("numbers" : Str))) = false := by decide +kernel
  simp [List.lookup, e]
/-- the pair of a quotient and a rest -/
def spDivd (K : PySem.W.Frag) (cP cN : Addr) : Sp := fun vs H Q E => ∃ p r qs rs, vs = [p, r] ∧ PolyAt K cP H p qs ∧ PolyAt K cP H r rs ∧
  ((rs = [] ∧ ErN cN H E "divisor" (.int 0)) ∨
   (∃ x y c e, 0 < rs.length ∧ CD x y qs ∧ CD c e rs ∧ 0 < x ∧ 0 < y ∧ x + qs.length * (c + 1) ≤ 2000 ∧ y + qs.length * c ≤ 2000 ∧ c ≤ 500 ∧ e ≤ 500 ∧ qs.length ≤ 200 ∧ rs.length ≤ 200 ∧
    ∀ t u v H' ts us, Same H H' → SqT K H' t [u, v] → PolyAt K cP H' u ts → PolyAt K cP H' v us → (∀ i, cf ts i = cf (dqs rs (qs.length + 1 - rs.length) qs).reverse i) → (∀ i, cf us i = cf (dit rs (qs.length + 1 - rs.length) qs) i) → Q (.ref t) H'))
theorem poly_made' {cP cR : Addr} {H : Hp} {a : Addr} {us : List V} {qs : List Rat} {n m : Nat} {Q : Addr → Hp → Prop} {E : XK} (hs : Sq K H a us) (al : AlA K H us n m qs) (hm : m ≤ 9000) (len : us.length ≤ 1000)
    (k : ∀ (v : Addr) (H' : Hp) (rs : List Rat), Same H H' → PolyAt K cP H' (.ref v) rs → rs.length ≤ qs.length → (∀ i, cf rs i = cf qs i) → Q v H') :
    ∀ x dx, H x = none → H dx = none → dx ≠ x → spInit K cP cR (.ref x :: ([.ref a] ++ [])) (upd (upd H dx (.own x)) x (.ins cP dx [])) (fun v H2 => v = .non ∧ Q x H2) E := by
  intro x dx nx ndx ne
  exact poly_made (Q := fun v H' => ∃ b, v = .ref b ∧ Q b H') (E := E) hs al hm len (fun v H' rs s p l e => by
    obtain ⟨b, dx, t, ws, rfl, r⟩ := id p
    exact ⟨b, rfl, k b H' rs s p l e⟩) x dx nx ndx ne |> fun h => by
      obtain ⟨x', dx', v', e1, e2, h⟩ := h
      refine ⟨x', dx', v', e1, e2, ?_⟩
      rcases h with ⟨a', us', qs', n', m', f1, f2, f3, f4, f5, f6⟩ | h
      · refine .inl ⟨a', us', qs', n', m', f1, f2, f3, f4, f5, fun H' t ws rs b1 b2 b3 b4 b5 b6 b7 => ?_⟩
        obtain ⟨z1, b, z2, z3⟩ := f6 H' t ws rs b1 b2 b3 b4 b5 b6 b7
        cases z2
        exact ⟨z1, z3⟩
      · exact .inr h
abbrev nDi : List Str := ["one", "other", "rest", "quotient", "factor", "start", "k"]
theorem sc30 : FnScope nDi ["one", "other"] (defScope (top 31)) := ⟨rfl, rfl, rfl, by decide +kernel, rfl, by decide +kernel, by decide +kernel⟩
theorem ok_divd (T : Tz P K mg) : FnOk P w K mg base (CX P w) 7 T.divided.f T.divided.fd ["one", "other"] (spDivd K T.cP T.cN) := by
  have GD : FnOk P w K mg base CX0 1 T.p_degree.f T.p_degree.fd ["self"] (spDeg K T.cP) := ok_degree T
  have GS : FnOk P w K mg base (CX P w) 5 T.share.f T.share.fd ["one", "other"] (spShare K T.cN) := ok_share T.toTx
  have GM : FnOk P w K mg base (CX P w) 5 T.minus.f T.minus.fd ["one", "other"] (spTwo K T.cN cBin (fun H v q r => RV K H v (q - r))) := ok_minus T.toTx
  have GT : FnOk P w K mg base (CX P w) 5 T.times.f T.times.fd ["one", "other"] (spTwo K T.cN cBin (fun H v q r => RV K H v (q * r))) := ok_times T.toTx
  refine T.divided.fn.okX sc30 (fun vs H Q E h => ?_) (fun cdv A outer s H vs Q E hr h => ?_)
  · obtain ⟨p, r, qs, rs, rfl, _⟩ := h
    rfl
  · obtain ⟨p, r, qs, rs, rfl, hp, hq, h⟩ := h
    have hr1 : Room 1 _ := hr.mono (by decide)
    have hr5 : Room 5 _ := hr.mono (by decide)
    have tk := takes_of (X := cxOf (CX P w) P w K mg base nDi "divided" (defScope (top 31)) T.divided.f cdv A outer s H E) (E := E) rfl rfl rfl rfl
    refine ⟨_, pss_cons (ps_if (pt_cmpR op_eq (pe_meth0 (pv 1) T.clP T.p_degree.me GD hr1 T.p_degree.b .nil pass0 (by rfl)) (pe_un un_neg pe_int) (nomark _))
        (pss_one (ps_raise rfl tk (pmk_oex (CX := CX0) T.eN.o T.iN.i T.iN.t (ok_i3 T.iN.fn) (hr.mono (by decide)) T.bN .nil pass0 rfl T.eN.g (pa_cons pe_str (pa_cons pe_int pa_nil))))) pss_nil)
      (pss_cons (ps_set (i := 2) sc30.nd rfl (.inl rfl) (pe_callTy call_list_of (by rfl) T.blt.list boot_tlist (pa_cons (pe_fld (pv 0) (by rfl)) pa_nil)))
      (pss_cons (ps_set (i := 3) sc30.nd rfl (.inl rfl) (pe_lst pa_nil))
      (pss_cons (ps_while (passes_of rfl) (pt_cmpR op_gt (pe_callB call_len_seq (by rfl) T.blt.len PySem.boot_len (pa_cons (pv 2) pa_nil)) (pe_meth0 (pv 1) T.clP T.p_degree.me GD hr1 T.p_degree.b .nil pass0 (by rfl)) (nomark _))
        (pss_cons (ps_set (i := 4) sc30.nd rfl (.inl rfl) (T.share.cX GS hr5 (pa_cons (pe_bm0 PySem.F.plainAttrs_list PySem.F.slot_list_pop PySem.F.type_list_pop mt_pop (pv 2)) (pa_cons (pe_ix ix_tup (pe_fld (pv 1) (by rfl)) (pe_un un_neg pe_int) (fun _ _ => rfl)) pa_nil))))
        (pss_cons (ps_expr (pe_bm PySem.F.plainAttrs_list PySem.F.slot_list_append PySem.F.type_list_append mt_append (pv 3) (pa_cons (pv 4) pa_nil)))
        (pss_cons (ps_set (i := 5) sc30.nd rfl (.inl rfl) (pe_op op_sub (pe_callB call_len_seq (by rfl) T.blt.len PySem.boot_len (pa_cons (pv 2) pa_nil)) (pe_meth0 (pv 1) T.clP T.p_degree.me GD hr1 T.p_degree.b .nil pass0 (by rfl))))
        (pss_one (ps_for (passes_of rfl) rfl (pi_range1 rfl T.blt.range (pa_cons (pe_meth0 (pv 1) T.clP T.p_degree.me GD hr1 T.p_degree.b .nil pass0 (by rfl)) pa_nil)) (pg_name (i := 6) sc30.nd rfl (.inl rfl))
          (pss_one (ps_asg (T.minus.cX GM hr5 (pa_cons (pe_ix ix_list (pv 2) (pe_op op_add (pv 5) (pv 6)) (fun _ _ => rfl)) (pa_cons (T.times.cX GT hr5 (pa_cons (pv 4) (pa_cons (pe_ix ix_tup (pe_fld (pv 1) (by rfl)) (pv 6) (fun _ _ => rfl)) pa_nil))) pa_nil)))
            (pg_sub (pv 2) (pe_op op_add (pv 5) (pv 6)) set_list (fun _ => rfl))))))))))
      (pss_one (ps_ret (pe_tup (pa_cons (T.cPoly hr (pa_cons (pe_revL (pv 3)) pa_nil)) (pa_cons (T.cPoly hr (pa_cons (pv 2) pa_nil)) pa_nil)))))))), ?_⟩
    obtain ⟨a, dx, t, ws, rfl, ha, ht, al, tr⟩ := id hp
    obtain ⟨b, dx', t', ws', rfl, hb, ht', al', tr'⟩ := id hq
    refine ⟨_, rfl, b, dx', _, rfl, hb, lkD, _, rs, rfl, hq, _, rfl, rfl, _, rfl, ?_⟩
    rcases h with ⟨rfl, er⟩ | ⟨x, y, c, e, d0, cq, cr, x0, y0, b1, b2, c5, e5, l2, l2', k⟩
    · refine iteT (raised2 T.eN.o T.nN1 T.nN2 fun d H' s' e => er d H' s' e)
    · rw [decide_eq_false (fun z => by have := V.int.inj z; omega)]
      refine iteF ?_
      refine ⟨_, rfl, a, T.cP, dx, _, _, rfl, ha, T.clP, T.nP, lkN, t, _, rfl, .inr ht, fun rr nrr => ?_⟩
      have s1 := Same.new (o := .lst ws) nrr
      have e1 : upd H rr (.lst ws) rr = some (.lst ws) := upd_same
      generalize upd H rr (.lst ws) = H1 at s1 e1
      refine ⟨(by show 0 ≤ sizeLine; decide), fun qq nqq1 => ?_⟩
      have s2 := s1.trans (Same.new (o := .lst []) nqq1)
      have e2 : upd H1 qq (.lst []) rr = some (.lst ws) := Same.new nqq1 _ _ e1
      have e2' : upd H1 qq (.lst []) qq = some (.lst []) := upd_same
      have nqq : H qq = none := Kz.Same.none_of s1 nqq1
      have rq : rr ≠ qq := ne_of_none e1 nqq1
      generalize upd H1 qq (.lst []) = H2 at s2 e2 e2'
      have l0 : cf rs (rs.length - 1) ≠ 0 := tr' (rs.length - 1) (by omega)
      refine while_by (fun σ H' => ∃ j vs us v4 v5 v6, j ≤ qs.length + 1 - rs.length ∧ σ = [some (.ref a), some (.ref b), some (.ref rr), some (.ref qq), v4, v5, v6] ∧ H' rr = some (.lst vs) ∧ H' qq = some (.lst us) ∧ Al K H' vs (dit rs j qs) ∧ Al K H' us (dqs rs j qs) ∧ Same H H') rowLen
        ⟨0, ws, [], none, none, none, Nat.zero_le _, rfl, e2, e2', al.same s2, Al.nil, s2⟩ ?_ ?_
      · rintro σ H3 ⟨j, vs, us, v4, v5, v6, hj, rfl, hrr, hqq, av, au, s3⟩
        have hq3 := hq.same s3
        have hb3 := s3 _ _ hb
        have lr := dit_len (D := rs) j qs
        have lu := dqs_len (D := rs) j qs
        have cR := dit_cd cr l0 j cq
        have bj1 : x + j * (c + 1) ≤ 2000 := by have := Nat.mul_le_mul_right (c + 1) (show j ≤ qs.length by omega); omega
        have bj2 : y + j * c ≤ 2000 := by have := Nat.mul_le_mul_right c (show j ≤ qs.length by omega); omega
        generalize hR : dit rs j qs = R at av lr cR
        refine ⟨_, rfl, rr, vs, rfl, .inl (SqL.of hrr), _, rfl, b, dx', _, rfl, hb3, lkD, _, rs, rfl, hq3, _, _, rfl, rfl, _, rfl, ?_⟩
        refine ite2 (fun gt => ?_) (fun ngt => ?_)
        · have gt' : ((vs.length : Nat) : Int) > ((rs.length : Nat) : Int) - 1 := of_decide_eq_true gt
          have ge2 : rs.length ≤ R.length := by have := av.1; omega
          obtain ⟨vl, el, rl⟩ := av.get (i := R.length - 1) (by omega)
          refine ⟨_, rfl, .inl ⟨rfl, _, SqL.of hrr⟩, rr, vs, vl, rfl, rfl, hrr, by rw [av.1]; exact el, ?_⟩
          have b4 : But rr H3 (upd H3 rr (.lst vs.dropLast)) := But.refl.set
          have e4 : upd H3 rr (.lst vs.dropLast) rr = some (.lst vs.dropLast) := upd_same
          have q4 : upd H3 rr (.lst vs.dropLast) qq = some (.lst us) := b4 _ _ hqq rq.symm
          generalize upd H3 rr (.lst vs.dropLast) = H4 at b4 e4 q4
          have s4 : Same H H4 := fun c o e => b4 _ _ (s3 _ _ e) (ne_of_none e nrr)
          have rl4 : RV K H4 vl (cf R (R.length - 1)) := (Al.bear hrr b4 av).2 (R.length - 1) vl _ el (at_cf (by omega))
          have av4 : Al K H4 vs.dropLast (R.take (R.length - 1)) := by
            rw [List.dropLast_eq_take, av.1]
            exact (Al.bear hrr b4 av).take _
          have au4 := Al.bear hrr b4 au
          obtain ⟨vd, ed, rd⟩ := al'.get (i := rs.length - 1) (by omega)
          have rd4 := rd.same s4
          refine ⟨_, rfl, b, T.cP, dx', _, _, rfl, s4 _ _ hb, T.clP, T.nP, lkN, _, rfl, t', ws', _, vd, rfl, rfl, Kz.Same.seqT s4 ht', atI_last (by rw [al'.1]; exact ed), ?_⟩
          have zl : Sz 2000 2000 (cf R (R.length - 1)) := (cR.sz _).up bj1 bj2
          have zd : Sz 500 500 (cf rs (rs.length - 1)) := (cr.sz _).up c5 e5
          refine ⟨_, _, rfl, .inl ⟨_, _, _, _, _, _, rl4.arg zl, rd4.arg zd, by decide, by decide, by decide, by decide, l0, fun vf H5 s5 rf => ?_⟩⟩
          have e5' := s5 _ _ e4
          have q5 := s5 _ _ q4
          have s05 := s4.trans s5
          have zf : Sz 2500 2500 (dfac rs R) := div_sz zl zd l0
          refine ⟨_, rfl, .inl ⟨rfl, _, SqL.of q5⟩, _, rfl, qq, us, vf, rfl, rfl, q5, le1000 (by rw [au.1, lu]; omega), ?_⟩
          have b6 : But qq H5 (upd H5 qq (.lst (us ++ [vf]))) := But.refl.set
          have q6 : upd H5 qq (.lst (us ++ [vf])) qq = some (.lst (us ++ [vf])) := upd_same
          have e6 : upd H5 qq (.lst (us ++ [vf])) rr = some (.lst vs.dropLast) := b6 _ _ e5' rq
          generalize upd H5 qq (.lst (us ++ [vf])) = H6 at b6 q6 e6
          have s6 : Same H H6 := fun c o e => b6 _ _ (s05 _ _ e) (ne_of_none e nqq)
          have av6 := Al.bear q5 b6 (av4.same s5)
          have au6 : Al K H6 (us ++ [vf]) (dqs rs (j + 1) qs) := by
            rw [dqs_succ, hR]
            exact Al.bear q5 b6 ((au4.same s5).snoc rf)
          have rf6 : RV K H6 vf (dfac rs R) := (Al.bear q5 b6 (Al.snoc (Al.nil (H := H5)) rf)).2 0 vf _ rfl rfl
          have ldl : vs.dropLast.length = R.length - 1 := by rw [List.length_dropLast, av.1]
          refine ⟨_, rfl, rr, _, rfl, .inl (SqL.of e6), _, rfl, b, dx', _, rfl, s6 _ _ hb, lkD, _, rs, rfl, hq.same s6, _, _, rfl, rfl, ?_⟩
          have est : ((vs.dropLast.length : Nat) : Int) - (((rs.length : Nat) : Int) - 1) = ((R.length - rs.length : Nat) : Int) := by omega
          refine ⟨_, rfl, b, dx', _, rfl, s6 _ _ hb, lkD, _, rs, rfl, hq.same s6, _, rfl, by omega, by omega, ?_⟩
          have tn : (((rs.length : Nat) : Int) - 1).toNat = rs.length - 1 := by omega
          refine for_range (lo := 0) (n := (((rs.length : Nat) : Int) - 1).toNat) (fun k σ H' => k ≤ rs.length - 1 ∧ ∃ v6 vs', σ = [some (.ref a), some (.ref b), some (.ref rr), some (.ref qq), some vf, some (.int ((R.length - rs.length : Nat) : Int)), v6] ∧
            H' rr = some (.lst vs') ∧ H' qq = some (.lst (us ++ [vf])) ∧ Al K H' vs' (upTo (R.length - 1) fun i => if R.length - rs.length ≤ i ∧ i < R.length - rs.length + k then cf R i - dfac rs R * cf rs (i - (R.length - rs.length)) else cf R i) ∧ Al K H' (us ++ [vf]) (dqs rs (j + 1) qs) ∧ RV K H' vf (dfac rs R) ∧ Same H H')
            ⟨Nat.zero_le _, v6, _, ?_, e6, q6, ?_, au6, rf6, s6⟩ ?_ ?_
          · show [some (V.ref a), some (V.ref b), some (V.ref rr), some (V.ref qq), some vf, some (V.int (((vs.dropLast.length : Nat) : Int) - (((rs.length : Nat) : Int) - 1))), v6] = _
            rw [est]
          · have : (upTo (R.length - 1) fun i => if R.length - rs.length ≤ i ∧ i < R.length - rs.length + 0 then cf R i - dfac rs R * cf rs (i - (R.length - rs.length)) else cf R i) = R.take (R.length - 1) := by
              refine List.ext_getElem? fun i => ?_
              rcases Nat.lt_or_ge i (R.length - 1) with lt | ge
              · rw [upTo_at lt, List.getElem?_take, if_pos lt, at_cf (by omega), if_neg (by omega)]
              · rw [List.getElem?_eq_none (by rw [upTo_len]; exact ge), List.getElem?_take, if_neg (by omega)]
            rw [this]
            exact av6
          · rintro k σ H7 hk ⟨_, v6, vs', rfl, h7, q7, a7, u7, f7, s7⟩
            rw [tn] at hk
            have e0 : (0 : Int) + ((k : Nat) : Int) = ((k : Nat) : Int) := Int.zero_add _
            have ek : ((R.length - rs.length : Nat) : Int) + ((k : Nat) : Int) = ((R.length - rs.length + k : Nat) : Int) := by omega
            have lu' : (upTo (R.length - 1) fun i => if R.length - rs.length ≤ i ∧ i < R.length - rs.length + k then cf R i - dfac rs R * cf rs (i - (R.length - rs.length)) else cf R i).length = R.length - 1 := upTo_len
            obtain ⟨vi, ei, ri⟩ := a7.get (i := R.length - rs.length + k) (by rw [lu']; omega)
            rw [cf_at (upTo_at (show R.length - rs.length + k < R.length - 1 by omega)), if_neg (by omega)] at ri
            obtain ⟨vk, ekk, rk⟩ := al'.get (i := k) (by omega)
            have zi : Sz 2000 2000 (cf R (R.length - rs.length + k)) := (cR.sz _).up bj1 bj2
            have zk : Sz 500 500 (cf rs k) := (cr.sz _).up c5 e5
            have lvs' : vs'.length = R.length - 1 := a7.1.trans lu'
            rw [e0]
            refine ⟨_, rfl, _, rfl, _, rfl, _, _, rfl, rfl, rr, vs', _, vi, rfl, rfl, SqL.of h7, (by rw [ek]; exact atI_nat ei), ?_⟩
            refine ⟨_, rfl, _, rfl, b, T.cP, dx', _, _, rfl, s7 _ _ hb, T.clP, T.nP, lkN, _, rfl, t', ws', _, vk, rfl, rfl, Kz.Same.seqT s7 ht', atI_nat ekk, ?_⟩
            refine ⟨_, _, rfl, .inl ⟨_, _, 2500, 2500, 500, 500, f7.arg zf, (rk.same s7).arg zk, by decide, by decide, ⟨by decide, by decide⟩, fun vm H8 s8 rm => ?_⟩⟩
            refine ⟨_, _, rfl, .inl ⟨_, _, 2000, 2000, 3000, 3000, (ri.same s8).arg zi, rm.arg (mul_sz zf zk), by decide, by decide, ⟨by decide, by decide⟩, fun vn H9 s9 rn => ?_⟩⟩
            have s89 := s8.trans s9
            have h9 := s89 _ _ h7
            refine ⟨_, rfl, _, rfl, _, rfl, _, _, rfl, rfl, rr, vs', _, R.length - rs.length + k, rfl, rfl, h9, (by rw [ek, lvs']; exact ixN_nat (by omega)), ?_⟩
            have b10 : But rr H9 (upd H9 rr (.lst (vs'.set (R.length - rs.length + k) vn))) := But.refl.set
            have e10 : upd H9 rr (.lst (vs'.set (R.length - rs.length + k) vn)) rr = some (.lst (vs'.set (R.length - rs.length + k) vn)) := upd_same
            generalize upd H9 rr (.lst (vs'.set (R.length - rs.length + k) vn)) = H10 at b10 e10
            have rows : (upTo (R.length - 1) fun i => if R.length - rs.length ≤ i ∧ i < R.length - rs.length + (k + 1) then cf R i - dfac rs R * cf rs (i - (R.length - rs.length)) else cf R i) =
                (upTo (R.length - 1) fun i => if R.length - rs.length ≤ i ∧ i < R.length - rs.length + k then cf R i - dfac rs R * cf rs (i - (R.length - rs.length)) else cf R i).set (R.length - rs.length + k) (cf R (R.length - rs.length + k) - dfac rs R * cf rs k) := by
              refine List.ext_getElem? fun i => ?_
              rw [List.getElem?_set, lu']
              rcases Nat.lt_or_ge i (R.length - 1) with lt | ge
              · rw [upTo_at lt, upTo_at lt]
                by_cases e : R.length - rs.length + k = i
                · subst e
                  rw [if_pos rfl, if_pos lt, if_pos (by omega), Nat.add_sub_cancel_left]
                · rw [if_neg e]
                  congr 1
                  by_cases c : R.length - rs.length ≤ i ∧ i < R.length - rs.length + k
                  · rw [if_pos c, if_pos (by omega)]
                  · rw [if_neg c, if_neg (by omega)]
              · rw [List.getElem?_eq_none (by rw [upTo_len]; exact ge), if_neg (by omega), List.getElem?_eq_none (by rw [upTo_len]; exact ge)]
            refine ⟨hk, _, _, rfl, e10, b10 _ _ (s89 _ _ q7) rq.symm, ?_, Al.bear h9 b10 (u7.same s89), (Al.bear h9 b10 (Al.snoc (Al.nil (H := H9)) (f7.same s89))).2 0 vf _ rfl rfl, fun c o e => b10 _ _ (s89 _ _ (s7 _ _ e)) (ne_of_none e nrr)⟩
            rw [rows]
            exact (Al.bear h9 b10 (a7.same s89)).set ((Al.bear h9 b10 (Al.snoc (Al.nil (H := H9)) rn)).2 0 vn _ rfl rfl)
          · rintro σ H7 ⟨_, v6, vs', rfl, h7, q7, a7, u7, f7, s7⟩
            rw [tn] at a7
            have er : (upTo (R.length - 1) fun i => if R.length - rs.length ≤ i ∧ i < R.length - rs.length + (rs.length - 1) then cf R i - dfac rs R * cf rs (i - (R.length - rs.length)) else cf R i) = dit rs (j + 1) qs := by
              rw [dit_succ, hR]
              refine List.ext_getElem? fun i => ?_
              unfold dstep
              rcases Nat.lt_or_ge i (R.length - 1) with lt | ge
              · rw [upTo_at lt, upTo_at lt]
                congr 1
                unfold dval
                by_cases c : R.length - rs.length ≤ i
                · rw [if_pos c, if_pos (by omega)]
                · rw [if_neg c, if_neg (by omega)]
              · rw [List.getElem?_eq_none (by rw [upTo_len]; exact ge), List.getElem?_eq_none (by rw [upTo_len]; exact ge)]
            rw [er] at a7
            refine ⟨⟨j + 1, vs', us ++ [vf], _, _, _, by omega, rfl, h7, q7, a7, u7, s7⟩, ?_⟩
            show (match H7 rr with | some (.lst xs) => xs.length | _ => 0) < (match H3 rr with | some (.lst xs) => xs.length | _ => 0)
            rw [h7, hrr]
            show vs'.length < vs.length
            rw [a7.1, av.1, dit_len]
            omega
        · have ngt' : ¬ (((vs.length : Nat) : Int) > ((rs.length : Nat) : Int) - 1) := fun z => ngt (decide_eq_true z)
          have hjn : j = qs.length + 1 - rs.length := by have := av.1; omega
          refine ⟨_, rfl, qq, us, rfl, SqL.of hqq, fun p1 np1 => ?_⟩
          have s4 := Same.new (o := .lst us.reverse) np1
          have zq : SzA 2500 2500 (dqs rs j qs).reverse := fun i l => by
            have m : cf (dqs rs j qs).reverse i ∈ dqs rs j qs := List.mem_reverse.mp (mem_cf l)
            exact dqs_sz cr l0 c5 e5 j cq bj1 bj2 _ m
          refine poly_made' (.inl (SqL.of upd_same)) (((au.same s4).reverse).arg zq) (by decide) (by rw [List.length_reverse, au.1, lu]; omega) fun u H5 ts s5 pu lts ets => ?_
          have s35 := s4.trans s5
          have zr : SzA 2000 2000 R := (cR.szA).up bj1 bj2
          refine ⟨_, rfl, poly_made' (.inl (SqL.of (s35 _ _ hrr))) ((av.same s35).arg zr) (by decide) (by rw [av.1]; omega) fun v H6 vs6 s6 pv6 lvs evs => ?_⟩
          refine ⟨(by show 2 ≤ sizeLine; decide), fun tt ntt => ?_⟩
          have s7 := Same.new (o := .tup [.ref u, .ref v]) ntt
          refine k tt (.ref u) (.ref v) _ ts vs6 (((s3.trans s35).trans s6).trans s7) (SqT.of upd_same) ((pu.same s6).same s7) (pv6.same s7) (fun i => ?_) (fun i => ?_)
          · rw [ets, hjn]
          · rw [evs, ← hR, hjn]
      · intro σ H Q Q' imp h
        obtain ⟨v, e, p, xs, e1, h1, v', e', a1, d1, f1, e2, h2, h3, p2, q2, e3, h4, i, j, e4, e5, k, e6, h⟩ := h
        exact ⟨v, e, p, xs, e1, h1, v', e', a1, d1, f1, e2, h2, h3, p2, q2, e3, h4, i, j, e4, e5, k, e6, imp _ _ h⟩
end
end Kz
set_option linter.all false
set_option maxRecDepth 100000
set_option maxHeartbeats 4000000
/-! Operators of own classes: two instances of one class; a built-in value on the left. -/
namespace PySem.W
open PySem PySem.Calls PyProof.Rows
section
variable {prog : Program} {w : World} {A : Around} {E : Value → Shared → Prop} {s : Shared} {K : Frag} {x y C L f : Addr} {h₀ : Heap} {m : Str → Option Value} {ox oy : Obj} {od oe : Option Obj} {T : String}
theorem kz_binI {op : Operator} {Q : Value → Shared → Prop} (X : K.In s.heap) (I : InstAt s.heap x ox C od) (J : InstAt s.heap y oy C oe) (hc : selfFirst K C = true)
    (hs : findIn K (.ref C) (PySem.dunder op.info.2) = some (some (.ref f))) (hf : isFn K (.ref f) = true)
    (h : wpAny (model prog w) A (call (.ref f) [.ref x, .ref y]) (CmpBack Q) E s) : wpAny (model prog w) A (binaryOp op (.ref x) (.ref y)) Q E s := by
  obtain ⟨cl, rst, isC, isM⟩ := ksp_first hc
  rcases named : op.info with ⟨sq, nq⟩
  rw [named] at hs
  dsimp only at hs
  have tried := ksp_try X I hs hf h
  obtain ⟨hq, gq, dq, tt, oq⟩ := s
  have lookL : Looks (model prog w) hq (typeOf (.ref x)) (.ref C) := I.type
  have lookR : Looks (model prog w) hq (typeOf (.ref y)) (.ref C) := J.type
  have fillL : Looks (model prog w) hq (fillsNumberSlot (.ref C) nq) true := fills_K X isC isM hs
  simp only [binaryOp, named]
  refine wpAny_holding (wpAny_bind ?_)
  unfold binaryOp1
  refine wpAny_bind (lookL.at (wpAny_bind (lookR.at (wpAny_bind (fillL.at ?_)))))
  simp only [beq_self_eq_true, if_true, Bool.and_false, Bool.false_eq_true, if_false, pure_bind, Bool.false_and]
  ksp_lk
  refine wpAny_mono tried (fun r s' back => ?_) fun _ _ z => z
  obtain ⟨v, rfl, fin⟩ := back
  ksp_lk
  exact fin
/-- a built-in's value on the left whose own slot is none, or declines -/
theorem kz_binR {op : Operator} {b : Value} {fo ro : Option Value} {Q : Value → Shared → Prop} (X : K.In s.heap) (I : InstAt s.heap y oy C oe) (hb : Looks (model prog w) s.heap (typeOf b) (.type T)) (hc : selfFirst K C = true)
    (hs : findIn K (.ref C) (PySem.dunder op.info.2) = some (some (.ref f))) {g : Addr} (hr : findIn K (.ref C) (dunderR op.info.2) = some (some (.ref g))) (hg : isFn K (.ref g) = true)
    (h1 : findIn K (.type T) (PySem.dunder op.info.2) = some fo) (h2 : findIn K (.type T) (dunderR op.info.2) = some ro) (hsub : subIn K (.ref C) (.type T) = some false)
    (hl : ((fo.isSome && !isSeqSlot fo) || (ro.isSome && !isSeqSlot ro)) = true → ∀ (Q' : Option Value → Shared → Prop), (∀ tk, Q' none { s with toks := tk }) → wpAny (model prog w) A (tryMethod b (PySem.dunder op.info.2) (.ref y)) Q' E s)
    (h : ∀ tk, wpAny (model prog w) A (call (.ref g) [.ref y, b]) (CmpBack Q) E { s with toks := tk }) : wpAny (model prog w) A (binaryOp op b (.ref y)) Q E s := by
  obtain ⟨cl, rst, isC, isM⟩ := ksp_first hc
  rcases named : op.info with ⟨sq, nq⟩
  rw [named] at hs hr h1 h2 hl
  dsimp only at hs hr h1 h2 hl
  obtain ⟨hq, gq, dq, tt, oq⟩ := s
  have tried : ∀ tk, wpAny (model prog w) A (tryMethod (.ref y) (dunderR nq) b) (fun r s' => ∃ v, r = some v ∧ Q v s') E ⟨hq, gq, dq, tk, oq⟩ := fun tk => ksp_try (s := ⟨hq, gq, dq, tk, oq⟩) X I hr hg (h tk)
  have lookL : Looks (model prog w) hq (typeOf b) (.type T) := hb
  have lookR : Looks (model prog w) hq (typeOf (.ref y)) (.ref C) := I.type
  have fillL : Looks (model prog w) hq (fillsNumberSlot (.type T) nq) ((fo.isSome && !isSeqSlot fo) || (ro.isSome && !isSeqSlot ro)) := ksp_fillsT X h1 h2
  have fillR : Looks (model prog w) hq (fillsNumberSlot (.ref C) nq) true := fills_K X isC isM hs
  have subR : Looks (model prog w) hq (isSubtype (.ref C) (.type T)) false := looks_subIn X hsub
  have pyL : Looks (model prog w) hq (numberSlotInPython (.type T) nq) false := Looks.of_pure rfl
  have apartT : (Value.type T == Value.ref C) = false := Bool.eq_false_iff.mpr fun q => by cases beq_iff_eq.mp q
  generalize ((fo.isSome && !isSeqSlot fo) || (ro.isSome && !isSeqSlot ro)) = left at fillL hl
  simp only [binaryOp, named]
  refine wpAny_holding (wpAny_bind ?_)
  unfold binaryOp1
  refine wpAny_bind (lookL.at (wpAny_bind (lookR.at (wpAny_bind (fillL.at ?_)))))
  simp only [apartT, Bool.false_eq_true, if_false]
  refine wpAny_bind (fillR.at ?_)
  cases left with
  | false =>
    ksp_lk
    refine wpAny_mono (tried tt) (fun r s' back => ?_) fun _ _ z => z
    obtain ⟨v, rfl, fin⟩ := back
    ksp_lk
    exact fin
  | true =>
    ksp_lk
    refine hl rfl _ fun tk => ?_
    ksp_lk
    refine wpAny_mono (tried tk) (fun r s' back => ?_) fun _ _ z => z
    obtain ⟨v, rfl, fin⟩ := back
    ksp_lk
    exact fin
end
end PySem.W
set_option linter.all false
set_option maxRecDepth 100000
set_option maxHeartbeats 4000000
namespace PySem.W
open PySem PySem.Calls PyProof.Rows
section
variable {prog : Program} {w : World} {A : Around} {E : Value → Shared → Prop} {s : Shared} {y C dx : Addr} {i : Int} {t : Tok} {Q : Value → Shared → Prop}
theorem kz_addDeclines (hy : s.heap.get? y = some (instObj C dx)) (h : ∀ tk, Q .notImplemented { s with toks := tk }) : wpAny (model prog w) A (call (.builtin "int.__add__") [.int i t, .ref y]) Q E s := by
  refine wpAny_call_entry PySem.F.slot_int_add (typeIs_int s i t) PySem.F.entry_int_add ?_ (PySem.F.args_int_add_2 _ _)
  obtain ⟨hp, g, d, tk, os⟩ := s
  wp_walk using wpAny_load hy
  exact ⟨_, rfl, h tk⟩
theorem kz_subDeclines (hy : s.heap.get? y = some (instObj C dx)) (h : ∀ tk, Q .notImplemented { s with toks := tk }) : wpAny (model prog w) A (call (.builtin "int.__sub__") [.int i t, .ref y]) Q E s := by
  refine wpAny_call_entry PySem.F.slot_int_sub (typeIs_int s i t) PySem.F.entry_int_sub ?_ (PySem.F.args_int_sub_2 _ _)
  obtain ⟨hp, g, d, tk, os⟩ := s
  wp_walk using wpAny_load hy
  exact ⟨_, rfl, h tk⟩
theorem kz_mulDeclines (hy : s.heap.get? y = some (instObj C dx)) (h : ∀ tk, Q .notImplemented { s with toks := tk }) : wpAny (model prog w) A (call (.builtin "int.__mul__") [.int i t, .ref y]) Q E s := by
  refine wpAny_call_entry PySem.F.slot_int_mul (typeIs_int s i t) PySem.F.entry_int_mul ?_ (PySem.F.args_int_mul_2 _ _)
  obtain ⟨hp, g, d, tk, os⟩ := s
  wp_walk using wpAny_load hy
  exact ⟨_, rfl, h tk⟩
end
end PySem.W
namespace Kz
open PySem PySem.Spec PyProof.Rows L2
/-- .. and what operators ask of it -/
structure Tw (P : Program) (K : PySem.W.Frag) (mg : Str → Option Value) extends Tz P K mg where
  sfP : PySem.W.selfFirst K cP = true
  nI1 : PySem.W.subIn K (.type "int") (.ref cP) = some false
  nI2 : PySem.W.subIn K (.ref cP) (.type "int") = some false
  nT1 : PySem.W.subIn K (.type "tuple") (.ref cP) = some false
  nT2 : PySem.W.subIn K (.ref cP) (.type "tuple") = some false
theorem back_ok {X : Cx} {pins : List (Addr × Obj)} {σ : L2.St} {Q : VK} {u : Value} {s' : Shared} (h : EP X pins σ Q u s') : PySem.W.CmpBack (EP X pins σ Q) u s' := by
  obtain ⟨v, H, I, rv, q⟩ := id h
  cases u with
  | notImplemented => cases v <;> first | exact absurd rv id | (obtain ⟨_, z⟩ := rv; cases z) | cases rv
  | _ => exact h
section
variable {X : Cx} {P : Program} {w : World} {K : PySem.W.Frag} {mg : Str → Option Value} {base : Heap} {k : Nat} {m q : Str} {stt : Stmt} {sp : Sp} {op : Operator}
/-- a Poly beside a Poly -/
theorem op_pp {cP : Addr} (D : Dm K cP m q stt ["self", "other"]) (F : FnOk P w K mg base CX0 k D.f D.fd ["self", "other"] sp) (sf : PySem.W.selfFirst K cP = true) (hr : Room k X.A) (nm : m = PySem.dunder op.info.2) (of : Of X P w K mg base := by exact ⟨rfl, rfl, rfl, rfl, rfl⟩) :
    OpR X (binaryOp op) (fun x y H Q => (∃ a b dx dy fs gs, x = .ref a ∧ y = .ref b ∧ H a = some (.ins cP dx fs) ∧ H b = some (.ins cP dy gs)) ∧ sp [x, y] H Q fun _ _ _ => False) := by
  obtain ⟨rfl, rfl, rfl, rfl, rfl⟩ := of
  subst nm
  intro pins s σ H x y v u Q I rx ry h
  obtain ⟨⟨a, b, dx, dy, fs, gs, rfl, rfl, ha, hb⟩, h⟩ := h
  cases (show v = Value.ref a from rx)
  cases (show u = Value.ref b from ry)
  obtain ⟨mA, O, _⟩ := ins_get I.hok ha
  obtain ⟨mB, O', _⟩ := ins_get I.hok hb
  obtain ⟨od, J, _⟩ := O.look
  obtain ⟨oe, J', _⟩ := O'.look
  refine PySem.W.kz_binI I.kIn J J' sf D.me.at_ D.me.fn (wpAny_mono (run_fn (us := [.ref a, .ref b]) (vs := [.ref a, .ref b]) F hr D.b .nil pass0 I (.cons rfl (.cons rfl .nil)) h) (fun r s' z => back_ok z) fun _ _ z => z)
end
end Kz
set_option linter.all false
set_option maxRecDepth 100000
set_option maxHeartbeats 4000000
namespace PySem.W
open PySem PySem.Calls PyProof.Rows
section
variable {prog : Program} {w : World} {A : Around} {E : Value → Shared → Prop} {s : Shared} {K : Frag} {x C f g : Addr} {ox : Obj} {od : Option Obj} {T : String}
/-- a built-in's value on the right -/
theorem kz_binL {op : Operator} {b : Value} {fo ro : Option Value} {Q : Value → Shared → Prop} (X : K.In s.heap) (I : InstAt s.heap x ox C od) (isT : Looks (model prog w) s.heap (typeOf b) (.type T)) (sf : selfFirst K C = true)
    (own : findIn K (.ref C) (PySem.dunder op.info.2) = some (some (.ref f))) (ownF : isFn K (.ref f) = true) (ownR : findIn K (.ref C) (dunderR op.info.2) = some (some (.ref g)))
    (of1 : findIn K (.type T) (PySem.dunder op.info.2) = some fo) (of2 : findIn K (.type T) (dunderR op.info.2) = some ro) (apart : subIn K (.type T) (.ref C) = some false)
    (h : wpAny (model prog w) A (call (.ref f) [.ref x, b]) (CmpBack Q) E s) : wpAny (model prog w) A (binaryOp op (.ref x) b) Q E s := by
  obtain ⟨cl, rst, isC, isM⟩ := ksp_first sf
  rcases named : op.info with ⟨sq, nq⟩
  rw [named] at own ownR of1 of2
  dsimp only at own ownR of1 of2
  have tried := ksp_try X I own ownF h
  obtain ⟨hq, gq, dq, tt, oq⟩ := s
  have lookL : Looks (model prog w) hq (typeOf (.ref x)) (.ref C) := I.type
  have lookR : Looks (model prog w) hq (typeOf b) (.type T) := isT
  have fillL : Looks (model prog w) hq (fillsNumberSlot (.ref C) nq) true := fills_K X isC isM own
  have fillR : Looks (model prog w) hq (fillsNumberSlot (.type T) nq) ((fo.isSome && !isSeqSlot fo) || (ro.isSome && !isSeqSlot ro)) := ksp_fillsT X of1 of2
  have subR : Looks (model prog w) hq (isSubtype (.type T) (.ref C)) false := looks_subIn X apart
  have pyC : Looks (model prog w) hq (numberSlotInPython (.ref C) nq) true := ksp_inPy X own ownR (.inr ⟨g, rfl⟩)
  have pyT : Looks (model prog w) hq (numberSlotInPython (.type T) nq) false := Looks.of_pure rfl
  have seenR : Looks (model prog w) hq (typeLookup (.type T) (dunderR nq)) ro := looks_findIn X of2
  have unlike : (Value.ref C == Value.type T) = false := Bool.eq_false_iff.mpr fun z => by cases beq_iff_eq.mp z
  generalize ((fo.isSome && !isSeqSlot fo) || (ro.isSome && !isSeqSlot ro)) = has at fillR
  simp only [binaryOp, named]
  refine wpAny_holding (wpAny_bind ?_)
  unfold binaryOp1
  refine wpAny_bind (lookL.at (wpAny_bind (lookR.at (wpAny_bind (fillL.at ?_)))))
  simp only [unlike, Bool.false_eq_true, if_false]
  cases has with
  | false =>
    ksp_lk
    refine wpAny_mono tried (fun r s' back => ?_) fun _ _ z => z
    obtain ⟨v, rfl, fin⟩ := back
    ksp_lk
    exact fin
  | true =>
    ksp_lk
    refine wpAny_mono tried (fun r s' back => ?_) fun _ _ z => z
    obtain ⟨v, rfl, fin⟩ := back
    ksp_lk
    exact fin
end
end PySem.W
namespace Kz
open PySem PySem.Spec PyProof.Rows L2
/-- an int, or a tuple -/
def Plain (K : PySem.W.Frag) (H : Hp) (y : V) (T : String) : Prop := (T = "int" ∧ ∃ i, y = .int i) ∨ (T = "tuple" ∧ ∃ a xs, y = .ref a ∧ SqT K H a xs)
theorem plain_ty {X : Cx} {pins : List (Addr × Obj)} {σ : L2.St} {H : Hp} {s : Shared} {y : V} {u : Value} {T : String} (I : Inv X pins σ H s) (r : RelV y u) (h : Plain X.K H y T) : PySem.W.Looks (model X.prog X.w) s.heap (typeOf u) (.type T) := by
  rcases h with ⟨rfl, i, rfl⟩ | ⟨rfl, a, xs, rfl, ht⟩
  · obtain ⟨t, rfl⟩ := r
    exact PySem.W.Looks.of_pure rfl
  · cases (show u = Value.ref a from r)
    obtain ⟨its, rv, ⟨o, ho, hc, n, hd⟩, _⟩ := I.tuple ht
    intro A Q E s' k q
    exact PySem.wpAny_typeOf_ref (k _ _ ho) (by rw [hc]; exact q)
theorem Plain.names {K : PySem.W.Frag} {H : Hp} {y : V} {T : String} (h : Plain K H y T) : T = "int" ∨ T = "tuple" := h.elim (fun h => .inl h.1) fun h => .inr h.1
section
variable {X : Cx} {P : Program} {w : World} {K : PySem.W.Frag} {mg : Str → Option Value} {base : Heap} {k : Nat} {m q : Str} {stt : Stmt} {sp : Sp} {op : Operator}
/-- what built-in types have for an operator -/
structure OpT (K : PySem.W.Frag) (op : Operator) (T : String) : Prop where
  ex : ∃ fo ro, PySem.W.findIn K (.type T) (PySem.dunder op.info.2) = some fo ∧ PySem.W.findIn K (.type T) (dunderR op.info.2) = some ro ∧ (T = "tuple" → ((fo.isSome && !isSeqSlot fo) || (ro.isSome && !isSeqSlot ro)) = false)
/-- a Poly beside an int or a tuple -/
theorem op_pv {cP g : Addr} (D : Dm K cP m q stt ["self", "other"]) (F : FnOk P w K mg base CX0 k D.f D.fd ["self", "other"] sp) (sf : PySem.W.selfFirst K cP = true) (hr : Room k X.A) (nm : m = PySem.dunder op.info.2)
    (rf : PySem.W.findIn K (.ref cP) (dunderR op.info.2) = some (some (.ref g))) (ts : ∀ T, T = "int" ∨ T = "tuple" → OpT K op T ∧ PySem.W.subIn K (.type T) (.ref cP) = some false) (of : Of X P w K mg base := by exact ⟨rfl, rfl, rfl, rfl, rfl⟩) :
    OpR X (binaryOp op) (fun x y H Q => (∃ a dx fs T, x = .ref a ∧ H a = some (.ins cP dx fs) ∧ Plain K H y T) ∧ sp [x, y] H Q fun _ _ _ => False) := by
  obtain ⟨rfl, rfl, rfl, rfl, rfl⟩ := of
  subst nm
  intro pins s σ H x y v u Q I rx ry h
  obtain ⟨⟨a, dx, fs, T, rfl, ha, pl⟩, h⟩ := h
  cases (show v = Value.ref a from rx)
  obtain ⟨mA, O, _⟩ := ins_get I.hok ha
  obtain ⟨od, J, _⟩ := O.look
  obtain ⟨⟨fo, ro, f1, f2, _⟩, sb⟩ := (ts T pl.names).imp OpT.ex id
  refine PySem.W.kz_binL I.kIn J (plain_ty I ry pl) sf D.me.at_ D.me.fn rf f1 f2 sb (wpAny_mono (run_fn (us := [.ref a, u]) (vs := [.ref a, y]) F hr D.b .nil pass0 I (.cons rfl (.cons ry .nil)) h) (fun r s' z => back_ok z) fun _ _ z => z)
/-- how an int declines -/
def Decl (op : Operator) : Prop := ∀ {prog : Program} {w : World} {A : Around} {E : Value → Shared → Prop} {s : Shared} {y C dx : Addr} {i : Int} {t : Tok} {Q : Value → Shared → Prop}, s.heap.get? y = some (PySem.W.instObj C dx) → (∀ tk, Q .notImplemented { s with toks := tk }) →
  ∃ id : String, Slot "int" (PySem.dunder op.info.2) id ∧ wpAny (model prog w) A (call (.builtin id) [.int i t, .ref y]) Q E s
theorem decl_add : Decl .Add := fun hy h => ⟨_, PySem.F.slot_int_add, PySem.W.kz_addDeclines hy h⟩
theorem decl_sub : Decl .Sub := fun hy h => ⟨_, PySem.F.slot_int_sub, PySem.W.kz_subDeclines hy h⟩
theorem decl_mul : Decl .Mult := fun hy h => ⟨_, PySem.F.slot_int_mul, PySem.W.kz_mulDeclines hy h⟩
/-- an int or a tuple beside a Poly -/
theorem op_vp {cP f : Addr} (D : Dm K cP m q stt ["self", "other"]) (F : FnOk P w K mg base CX0 k D.f D.fd ["self", "other"] sp) (sf : PySem.W.selfFirst K cP = true) (hr : Room k X.A) (nm : m = dunderR op.info.2) (dc : Decl op)
    (lf : PySem.W.findIn K (.ref cP) (PySem.dunder op.info.2) = some (some (.ref f))) (ts : ∀ T, T = "int" ∨ T = "tuple" → OpT K op T ∧ PySem.W.subIn K (.ref cP) (.type T) = some false) (of : Of X P w K mg base := by exact ⟨rfl, rfl, rfl, rfl, rfl⟩) :
    OpR X (binaryOp op) (fun y x H Q => (∃ a dx fs T, x = .ref a ∧ H a = some (.ins cP dx fs) ∧ Plain K H y T) ∧ sp [x, y] H Q fun _ _ _ => False) := by
  obtain ⟨rfl, rfl, rfl, rfl, rfl⟩ := of
  subst nm
  intro pins s σ H y x u v Q I ry rx h
  obtain ⟨⟨a, dx, fs, T, rfl, ha, pl⟩, h⟩ := h
  cases (show v = Value.ref a from rx)
  obtain ⟨mA, O, _⟩ := ins_get I.hok ha
  obtain ⟨od, J, _⟩ := O.look
  obtain ⟨⟨fo, ro, f1, f2, f3⟩, sb⟩ := (ts T pl.names).imp OpT.ex id
  have there : s.heap.get? a = some (PySem.W.instObj cP dx) := by
    obtain ⟨_, _, _, z, _⟩ := (show ObjOk X.prog X.w H s.heap a (.ins cP dx fs) from I.hok a _ ha)
    exact z
  refine PySem.W.kz_binR I.kIn J (plain_ty I ry pl) sf lf D.me.at_ D.me.fn f1 f2 sb ?_ (fun tk => wpAny_mono (run_fn (us := [.ref a, u]) (vs := [.ref a, y]) F hr D.b .nil pass0 (I.tok tk) (.cons rfl (.cons ry .nil)) h) (fun r s' z => back_ok z) fun _ _ z => z)
  intro has Q' hQ
  rcases pl with ⟨rfl, i, rfl⟩ | ⟨rfl, b, xs, rfl, ht⟩
  · obtain ⟨t, rfl⟩ := (show ∃ t, u = Value.int i t from ry)
    obtain ⟨id, sl, z⟩ := dc (prog := X.prog) (w := X.w) (A := X.A) (E := X.xe) (s := s) (i := i) (t := t) (Q := fun v s' => v = .notImplemented ∧ Q' none s') there fun tk => ⟨rfl, hQ tk⟩
    exact PySem.wpAny_tryMethod_declines (T := "int") rfl sl z
  · rw [f3 rfl] at has
    cases has
end
end Kz
set_option linter.all false
set_option maxRecDepth 100000
set_option maxHeartbeats 4000000
namespace Kz
open PySem PySem.Spec PyProof.Rows L2
theorem un_own {X : Cx} {P : Program} {w : World} {K : PySem.W.Frag} {mg : Str → Option Value} {base : Heap} {k : Nat} {q : Str} {stt : Stmt} {sp : Sp} {cP : Addr} (D : Dm K cP "__neg__" q stt ["self"]) (F : FnOk P w K mg base CX0 k D.f D.fd ["self"] sp) (hr : Room k X.A)
    (of : Of X P w K mg base := by exact ⟨rfl, rfl, rfl, rfl, rfl⟩) : UnR X (unaryOp .USub) (fun x H Q => (∃ a dx fs, x = .ref a ∧ H a = some (.ins cP dx fs)) ∧ sp [x] H Q fun _ _ _ => False) := by
  obtain ⟨rfl, rfl, rfl, rfl, rfl⟩ := of
  intro pins s σ H x v Q I rx h
  obtain ⟨⟨a, dx, fs, rfl, ha⟩, h⟩ := h
  cases (show v = Value.ref a from rx)
  obtain ⟨mA, O, _⟩ := ins_get I.hok ha
  obtain ⟨od, J, _⟩ := O.look
  unfold unaryOp
  refine PySem.wpAny_holding (PySem.wpAny_bind (PySem.W.special_fn I.kIn J D.me.at_ (beq_iff_eq.mp D.me.fn) ?_))
  exact wpAny_mono (run_fn (us := [.ref a]) (vs := [.ref a]) F hr D.b .nil pass0 I (.cons rfl .nil) h) (fun _ _ z => wpAny_pure z) fun _ _ z => z
/-- what stands for a polynomial beside a sign -/
def AsF (K : PySem.W.Frag) (cP : Addr) (H : Hp) (v : V) (g : Nat → Rat) (n m len : Nat) : Prop := (∃ rs, PolyAt K cP H v rs ∧ SzA n m rs ∧ rs.length ≤ len ∧ ∀ i, cf rs i = g i) ∨
  (∃ q, ArgQ K H v n m q ∧ (∃ t, TyN K H v t ∧ (t == "list") = false) ∧ 1 ≤ len ∧ ∀ i, one0 q i = g i)
theorem one_sz {q : Rat} {n m : Nat} (h : Sz n m q) (a : 0 < n) (b : 0 < m) (i : Nat) : Sz n m (one0 q i) := by
  unfold one0
  split
  · exact h
  · exact sz_zero a b
section
variable {P : Program} {w : World} {K : PySem.W.Frag} {mg : Str → Option Value} {base : Heap}
/-- as_poly(v), read -/
theorem as_read {cP : Addr} {H : Hp} {v : V} {g : Nat → Rat} {n m len : Nat} {Q : VK} {E : XK} (h : AsF K cP H v g n m len) (n0 : 0 < n) (m0 : 0 < m) (m9 : m ≤ 9000)
    (k : ∀ u H' ts, Same H H' → PolyAt K cP H' u ts → SzA n m ts → ts.length ≤ len → (∀ i, cf ts i = g i) → Q u H') : spAs K cP ([v] ++ []) H Q E := by
  refine ⟨v, rfl, ?_⟩
  rcases h with ⟨rs, p, z, l, e⟩ | ⟨q, aq, nl, l, e⟩
  · exact .inl ⟨rs, p, k v H rs (Same.refl _) p z l e⟩
  · exact .inr ⟨q, n, m, aq, m9, nl, fun u H' ts s p e' l' => k u H' ts s p (fun i _ => by rw [e']; exact one_sz aq.sz n0 m0 i) (Nat.le_trans l' l) fun i => (e' i).trans (e i)⟩
theorem not_none {cP : Addr} {H : Hp} {u : V} {ts : List Rat} (p : PolyAt K cP H u ts) : decide (u = .non) = false := by
  obtain ⟨a, _, _, _, rfl, _⟩ := p
  exact decide_eq_false fun z => nomatch z
def spAr (K : PySem.W.Frag) (cP : Addr) (C : Nat → Nat → Nat → Nat → Nat → Nat → Prop) (F : (Nat → Rat) → Nat → (Nat → Rat) → Nat → (Nat → Rat) → Prop) (L : Nat → Nat → Nat) : Sp := fun vs H Q _ => ∃ p v qs g n m n' m' len, vs = [p, v] ∧ PolyAt K cP H p qs ∧ AsF K cP H v g n' m' len ∧ SzA n m qs ∧
  0 < n ∧ 0 < m ∧ 0 < n' ∧ 0 < m' ∧ qs.length ≤ 200 ∧ len ≤ 200 ∧ n ≤ 300000 ∧ n' ≤ 300000 ∧ C n m n' m' qs.length len ∧ ∀ u H' ts, Same H H' → PolyAt K cP H' u ts → F (cf qs) qs.length g len (cf ts) → ts.length ≤ L qs.length len → Q u H'
def cAdd (n m n' m' _ _ : Nat) : Prop := m + m' ≤ 9000
def cMul (n m n' m' l l' : Nat) : Prop := m * l + m' * l' + 4 ≤ 9000 ∧ m ≤ 9000 ∧ m' ≤ 9000
abbrev nAr : List Str := ["self", "other", "poly"]

theorem scP2 : FnScope nAr ["self", "other"] (defScope (sP 2)) := ⟨rfl, rfl, rfl, by decide +kernel, rfl, by decide +kernel, by decide +kernel⟩
theorem ok_padd (T : Tz P K mg) : FnOk P w K mg base CX0 8 T.p_add.f T.p_add.fd ["self", "other"] (spAr K T.cP cAdd (fun f _ g _ t => ∀ i, t i = f i + g i) (fun a b => max a b)) := by
  have GA : FnOk P w K mg base CX0 7 T.as_poly.f T.as_poly.fd ["value"] (spAs K T.cP) := ok_as T
  have GD : FnOk P w K mg base CX0 7 T.added.f T.added.fd ["one", "other"] (spAdded K T.cP) := ok_added T
  have GM : FnOk P w K mg base CX0 7 T.multiplied.f T.multiplied.fd ["one", "other"] (spMult K T.cP) := ok_mult T
  have GN : FnOk P w K mg base CX0 7 T.p_neg.f T.p_neg.fd ["self"] (spNeg K T.cP) := ok_neg T
  refine T.p_add.fn.ok scP2 (fun vs H Q E h => ?_) (fun cdv A outer s H vs Q E hr h => ?_)
  · obtain ⟨p, v, qs, g, n, m, n', m', len, rfl, _⟩ := h
    rfl
  · obtain ⟨p, v, qs, g, n, m, n', m', len, rfl, hp, ha, zq, n0, m0, n0', m0', l2, l2', n3, n3', hC, k⟩ := h
    refine ⟨_, pss_cons (ps_set (i := 2) scP2.nd rfl (.inl rfl) (T.as_poly.c0 GA hr (pa_cons (pv 1) pa_nil)))
      (pss_cons (ps_if (pt_cmpR op_isN (pv 2) pe_non (nomark _)) pss_never pss_nil)
      (pss_one (ps_ret (T.added.c0 GD hr (pa_cons (pv 0) (pa_cons (pv 2) pa_nil)))))), ?_⟩
    refine ⟨_, rfl, as_read (E := fun _ _ _ => False) ha n0' m0' (by unfold cAdd at hC; omega) fun u H1 ts s1 pu zt lt et => ?_⟩
    refine ⟨_, rfl, rfl, _, rfl, ?_⟩
    rw [not_none pu]
    refine iteF ?_
    have hp1 := hp.same s1
    unfold cAdd at hC
    exact ⟨_, rfl, _, rfl, p, u, qs, ts, n, m, n', m', rfl, hp1, pu, zq, zt, n0, m0, n0', m0', by omega, by omega, by omega, by omega, fun v' H2 rs s2 pv' e l => k v' H2 rs (s1.trans s2) pv' (fun i => by rw [e, et]) (by show _ ≤ max qs.length len; omega)⟩
theorem scP3 : FnScope nAr ["self", "other"] (defScope (sP 3)) := ⟨rfl, rfl, rfl, by decide +kernel, rfl, by decide +kernel, by decide +kernel⟩
theorem ok_pradd (T : Tz P K mg) : FnOk P w K mg base CX0 8 T.p_radd.f T.p_radd.fd ["self", "other"] (spAr K T.cP cAdd (fun f _ g _ t => ∀ i, t i = g i + f i) (fun a b => max a b)) := by
  have GA : FnOk P w K mg base CX0 7 T.as_poly.f T.as_poly.fd ["value"] (spAs K T.cP) := ok_as T
  have GD : FnOk P w K mg base CX0 7 T.added.f T.added.fd ["one", "other"] (spAdded K T.cP) := ok_added T
  have GM : FnOk P w K mg base CX0 7 T.multiplied.f T.multiplied.fd ["one", "other"] (spMult K T.cP) := ok_mult T
  have GN : FnOk P w K mg base CX0 7 T.p_neg.f T.p_neg.fd ["self"] (spNeg K T.cP) := ok_neg T
  refine T.p_radd.fn.ok scP3 (fun vs H Q E h => ?_) (fun cdv A outer s H vs Q E hr h => ?_)
  · obtain ⟨p, v, qs, g, n, m, n', m', len, rfl, _⟩ := h
    rfl
  · obtain ⟨p, v, qs, g, n, m, n', m', len, rfl, hp, ha, zq, n0, m0, n0', m0', l2, l2', n3, n3', hC, k⟩ := h
    refine ⟨_, pss_cons (ps_set (i := 2) scP3.nd rfl (.inl rfl) (T.as_poly.c0 GA hr (pa_cons (pv 1) pa_nil)))
      (pss_cons (ps_if (pt_cmpR op_isN (pv 2) pe_non (nomark _)) pss_never pss_nil)
      (pss_one (ps_ret (T.added.c0 GD hr (pa_cons (pv 2) (pa_cons (pv 0) pa_nil)))))), ?_⟩
    refine ⟨_, rfl, as_read (E := fun _ _ _ => False) ha n0' m0' (by unfold cAdd at hC; omega) fun u H1 ts s1 pu zt lt et => ?_⟩
    refine ⟨_, rfl, rfl, _, rfl, ?_⟩
    rw [not_none pu]
    refine iteF ?_
    have hp1 := hp.same s1
    unfold cAdd at hC
    exact ⟨_, rfl, _, rfl, u, p, ts, qs, n', m', n, m, rfl, pu, hp1, zt, zq, n0', m0', n0, m0, by omega, by omega, by omega, by omega, fun v' H2 rs s2 pv' e l => k v' H2 rs (s1.trans s2) pv' (fun i => by rw [e, et]) (by show _ ≤ max qs.length len; omega)⟩
theorem scP4 : FnScope nAr ["self", "other"] (defScope (sP 4)) := ⟨rfl, rfl, rfl, by decide +kernel, rfl, by decide +kernel, by decide +kernel⟩
theorem ok_psub (T : Tz P K mg) : FnOk P w K mg base CX0 8 T.p_sub.f T.p_sub.fd ["self", "other"] (spAr K T.cP cAdd (fun f _ g _ t => ∀ i, t i = f i + -g i) (fun a b => max a b)) := by
  have GA : FnOk P w K mg base CX0 7 T.as_poly.f T.as_poly.fd ["value"] (spAs K T.cP) := ok_as T
  have GD : FnOk P w K mg base CX0 7 T.added.f T.added.fd ["one", "other"] (spAdded K T.cP) := ok_added T
  have GM : FnOk P w K mg base CX0 7 T.multiplied.f T.multiplied.fd ["one", "other"] (spMult K T.cP) := ok_mult T
  have GN : FnOk P w K mg base CX0 7 T.p_neg.f T.p_neg.fd ["self"] (spNeg K T.cP) := ok_neg T
  refine T.p_sub.fn.ok scP4 (fun vs H Q E h => ?_) (fun cdv A outer s H vs Q E hr h => ?_)
  · obtain ⟨p, v, qs, g, n, m, n', m', len, rfl, _⟩ := h
    rfl
  · obtain ⟨p, v, qs, g, n, m, n', m', len, rfl, hp, ha, zq, n0, m0, n0', m0', l2, l2', n3, n3', hC, k⟩ := h
    refine ⟨_, pss_cons (ps_set (i := 2) scP4.nd rfl (.inl rfl) (T.as_poly.c0 GA hr (pa_cons (pv 1) pa_nil)))
      (pss_cons (ps_if (pt_cmpR op_isN (pv 2) pe_non (nomark _)) pss_never pss_nil)
      (pss_one (ps_ret (T.added.c0 GD hr (pa_cons (pv 0) (pa_cons (pe_un (un_own T.p_neg GN hr) (pv 2)) pa_nil)))))), ?_⟩
    refine ⟨_, rfl, as_read (E := fun _ _ _ => False) ha n0' m0' (by unfold cAdd at hC; omega) fun u H1 ts s1 pu zt lt et => ?_⟩
    refine ⟨_, rfl, rfl, _, rfl, ?_⟩
    rw [not_none pu]
    refine iteF ?_
    have hp1 := hp.same s1
    unfold cAdd at hC
    obtain ⟨b, dx, tt, ws, e0, ha', r'⟩ := id pu
    subst e0
    refine ⟨_, rfl, _, rfl, ⟨b, dx, _, rfl, ha'⟩, _, ts, n', m', rfl, pu, zt, by omega, by omega, fun v2 H2 rs s2 p2 e2 l2x => ?_⟩
    have z2 : SzA n' m' rs := fun i l => by rw [e2]; exact sz_neg (zt.all n0' m0' i)
    exact ⟨p, v2, qs, rs, n, m, n', m', rfl, hp1.same s2, p2, zq, z2, n0, m0, n0', m0', by omega, by omega, by omega, by omega, fun v' H3 xs s3 pv' e l => k v' H3 xs ((s1.trans s2).trans s3) pv' (fun i => by rw [e, e2, et]) (by show _ ≤ max qs.length len; omega)⟩
theorem scP5 : FnScope nAr ["self", "other"] (defScope (sP 5)) := ⟨rfl, rfl, rfl, by decide +kernel, rfl, by decide +kernel, by decide +kernel⟩
theorem ok_prsub (T : Tz P K mg) : FnOk P w K mg base CX0 8 T.p_rsub.f T.p_rsub.fd ["self", "other"] (spAr K T.cP cAdd (fun f _ g _ t => ∀ i, t i = g i + -f i) (fun a b => max a b)) := by
  have GA : FnOk P w K mg base CX0 7 T.as_poly.f T.as_poly.fd ["value"] (spAs K T.cP) := ok_as T
  have GD : FnOk P w K mg base CX0 7 T.added.f T.added.fd ["one", "other"] (spAdded K T.cP) := ok_added T
  have GM : FnOk P w K mg base CX0 7 T.multiplied.f T.multiplied.fd ["one", "other"] (spMult K T.cP) := ok_mult T
  have GN : FnOk P w K mg base CX0 7 T.p_neg.f T.p_neg.fd ["self"] (spNeg K T.cP) := ok_neg T
  refine T.p_rsub.fn.ok scP5 (fun vs H Q E h => ?_) (fun cdv A outer s H vs Q E hr h => ?_)
  · obtain ⟨p, v, qs, g, n, m, n', m', len, rfl, _⟩ := h
    rfl
  · obtain ⟨p, v, qs, g, n, m, n', m', len, rfl, hp, ha, zq, n0, m0, n0', m0', l2, l2', n3, n3', hC, k⟩ := h
    refine ⟨_, pss_cons (ps_set (i := 2) scP5.nd rfl (.inl rfl) (T.as_poly.c0 GA hr (pa_cons (pv 1) pa_nil)))
      (pss_cons (ps_if (pt_cmpR op_isN (pv 2) pe_non (nomark _)) pss_never pss_nil)
      (pss_one (ps_ret (T.added.c0 GD hr (pa_cons (pv 2) (pa_cons (pe_un (un_own T.p_neg GN hr) (pv 0)) pa_nil)))))), ?_⟩
    refine ⟨_, rfl, as_read (E := fun _ _ _ => False) ha n0' m0' (by unfold cAdd at hC; omega) fun u H1 ts s1 pu zt lt et => ?_⟩
    refine ⟨_, rfl, rfl, _, rfl, ?_⟩
    rw [not_none pu]
    refine iteF ?_
    have hp1 := hp.same s1
    unfold cAdd at hC
    obtain ⟨b, dx, tt, ws, e0, ha', r'⟩ := id hp1
    subst e0
    refine ⟨_, rfl, _, rfl, ⟨b, dx, _, rfl, ha'⟩, _, qs, n, m, rfl, hp1, zq, by omega, by omega, fun v2 H2 rs s2 p2 e2 l2x => ?_⟩
    have z2 : SzA n m rs := fun i l => by rw [e2]; exact sz_neg (zq.all n0 m0 i)
    exact ⟨u, v2, ts, rs, n', m', n, m, rfl, pu.same s2, p2, zt, z2, n0', m0', n0, m0, by omega, by omega, by omega, by omega, fun v' H3 xs s3 pv' e l => k v' H3 xs ((s1.trans s2).trans s3) pv' (fun i => by rw [e, e2, et]) (by show _ ≤ max qs.length len; omega)⟩
theorem scP6 : FnScope nAr ["self", "other"] (defScope (sP 6)) := ⟨rfl, rfl, rfl, by decide +kernel, rfl, by decide +kernel, by decide +kernel⟩
theorem ok_pmul (T : Tz P K mg) : FnOk P w K mg base CX0 8 T.p_mul.f T.p_mul.fd ["self", "other"] (spAr K T.cP cMul (fun f N g _ t => ∀ i, t i = convN N f g i) (fun a b => a + b)) := by
  have GA : FnOk P w K mg base CX0 7 T.as_poly.f T.as_poly.fd ["value"] (spAs K T.cP) := ok_as T
  have GD : FnOk P w K mg base CX0 7 T.added.f T.added.fd ["one", "other"] (spAdded K T.cP) := ok_added T
  have GM : FnOk P w K mg base CX0 7 T.multiplied.f T.multiplied.fd ["one", "other"] (spMult K T.cP) := ok_mult T
  have GN : FnOk P w K mg base CX0 7 T.p_neg.f T.p_neg.fd ["self"] (spNeg K T.cP) := ok_neg T
  refine T.p_mul.fn.ok scP6 (fun vs H Q E h => ?_) (fun cdv A outer s H vs Q E hr h => ?_)
  · obtain ⟨p, v, qs, g, n, m, n', m', len, rfl, _⟩ := h
    rfl
  · obtain ⟨p, v, qs, g, n, m, n', m', len, rfl, hp, ha, zq, n0, m0, n0', m0', l2, l2', n3, n3', hC, k⟩ := h
    refine ⟨_, pss_cons (ps_set (i := 2) scP6.nd rfl (.inl rfl) (T.as_poly.c0 GA hr (pa_cons (pv 1) pa_nil)))
      (pss_cons (ps_if (pt_cmpR op_isN (pv 2) pe_non (nomark _)) pss_never pss_nil)
      (pss_one (ps_ret (T.multiplied.c0 GM hr (pa_cons (pv 0) (pa_cons (pv 2) pa_nil)))))), ?_⟩
    refine ⟨_, rfl, as_read (E := fun _ _ _ => False) ha n0' m0' (by have := hC.2.2; omega) fun u H1 ts s1 pu zt lt et => ?_⟩
    refine ⟨_, rfl, rfl, _, rfl, ?_⟩
    rw [not_none pu]
    refine iteF ?_
    have hp1 := hp.same s1
    have lm : m' * ts.length ≤ m' * len := Nat.mul_le_mul_left _ lt
    exact ⟨_, rfl, _, rfl, p, u, qs, ts, n, m, n', m', rfl, hp1, pu, zq, zt, hC.2.1, hC.2.2, n3, n3', l2, by omega, by have := hC.1; omega, fun v' H2 rs s2 pv' e l => k v' H2 rs (s1.trans s2) pv' (fun i => by rw [e, show cf ts = g from funext et]) (by show _ ≤ qs.length + len; omega)⟩
theorem scP7 : FnScope nAr ["self", "other"] (defScope (sP 7)) := ⟨rfl, rfl, rfl, by decide +kernel, rfl, by decide +kernel, by decide +kernel⟩
theorem ok_prmul (T : Tz P K mg) : FnOk P w K mg base CX0 8 T.p_rmul.f T.p_rmul.fd ["self", "other"] (spAr K T.cP cMul (fun f _ g L t => ∃ N, N ≤ L ∧ (∀ i, N ≤ i → g i = 0) ∧ ∀ i, t i = convN N g f i) (fun a b => a + b)) := by
  have GA : FnOk P w K mg base CX0 7 T.as_poly.f T.as_poly.fd ["value"] (spAs K T.cP) := ok_as T
  have GD : FnOk P w K mg base CX0 7 T.added.f T.added.fd ["one", "other"] (spAdded K T.cP) := ok_added T
  have GM : FnOk P w K mg base CX0 7 T.multiplied.f T.multiplied.fd ["one", "other"] (spMult K T.cP) := ok_mult T
  have GN : FnOk P w K mg base CX0 7 T.p_neg.f T.p_neg.fd ["self"] (spNeg K T.cP) := ok_neg T
  refine T.p_rmul.fn.ok scP7 (fun vs H Q E h => ?_) (fun cdv A outer s H vs Q E hr h => ?_)
  · obtain ⟨p, v, qs, g, n, m, n', m', len, rfl, _⟩ := h
    rfl
  · obtain ⟨p, v, qs, g, n, m, n', m', len, rfl, hp, ha, zq, n0, m0, n0', m0', l2, l2', n3, n3', hC, k⟩ := h
    refine ⟨_, pss_cons (ps_set (i := 2) scP7.nd rfl (.inl rfl) (T.as_poly.c0 GA hr (pa_cons (pv 1) pa_nil)))
      (pss_cons (ps_if (pt_cmpR op_isN (pv 2) pe_non (nomark _)) pss_never pss_nil)
      (pss_one (ps_ret (T.multiplied.c0 GM hr (pa_cons (pv 2) (pa_cons (pv 0) pa_nil)))))), ?_⟩
    refine ⟨_, rfl, as_read (E := fun _ _ _ => False) ha n0' m0' (by have := hC.2.2; omega) fun u H1 ts s1 pu zt lt et => ?_⟩
    refine ⟨_, rfl, rfl, _, rfl, ?_⟩
    rw [not_none pu]
    refine iteF ?_
    have hp1 := hp.same s1
    have lm : m' * ts.length ≤ m' * len := Nat.mul_le_mul_left _ lt
    exact ⟨_, rfl, _, rfl, u, p, ts, qs, n', m', n, m, rfl, pu, hp1, zt, zq, hC.2.2, hC.2.1, n3', n3, by omega, l2, by have := hC.1; omega, fun v' H2 rs s2 pv' e l => k v' H2 rs (s1.trans s2) pv' ⟨ts.length, lt, fun i hi => by rw [← et]; exact cf_out hi, fun i => by rw [e, show cf ts = g from funext et]⟩ (by show _ ≤ qs.length + len; omega)⟩
end
end Kz
set_option linter.all false
set_option maxRecDepth 100000
set_option maxHeartbeats 4000000
namespace Kz
open PySem PySem.Spec PyProof.Rows L2
/-- a value by the numbers from the last one on -/
def hn (f : Nat → Rat) (N : Nat) (x : Rat) : Nat → Rat
  | 0 => 0
  | j + 1 => hn f N x j * x + f (N - 1 - j)
theorem hn_scale {f g : Nat → Rat} {N : Nat} {x L : Rat} (h : ∀ i, g i = f i * L) : ∀ j, hn g N x j = hn f N x j * L
  | 0 => by
    show (0 : Rat) = 0 * L
    rw [Rat.zero_mul]
  | j + 1 => by
    show hn g N x j * x + g (N - 1 - j) = (hn f N x j * x + f (N - 1 - j)) * L
    rw [hn_scale h j, h]
    grind
theorem step_q {t s a b h q x : Rat} (b0 : b ≠ 0) (e : t * b = s * h) (ex : x = a / b) : (t * a + q * s) * b = (s * b) * (h * x + q) := by
  subst ex
  have e2 : h * (a / b) * b = h * a := by grind
  grind
section
variable {P : Program} {w : World} {K : PySem.W.Frag} {mg : Str → Option Value} {base : Heap}
def spAt (K : PySem.W.Frag) (cP cN : Addr) : Sp := fun vs H Q E => ∃ p v qs n m, vs = [p, v] ∧ PolyAt K cP H p qs ∧ SzA n m qs ∧ m ≤ 9000 ∧ n ≤ 300000 ∧ qs.length ≤ 100 ∧ m * qs.length + 2 ≤ 6000 ∧
  ((∃ x α β, ArgQ K H v α β x ∧ 0 < α ∧ α ≤ 1000 ∧ β * qs.length + β ≤ 2900 ∧ ∀ u H', Same H H' → RV K H' u (hn (cf qs) qs.length x qs.length) → Q u H') ∨ (Odd K H v ∧ ErN cN H E "place" v))
abbrev nAt : List Str := ["self", "place", "above", "below", "tops", "bottom", "total", "scale", "top"]
theorem scP10 : FnScope nAt ["self", "place"] (defScope (sP 10)) := ⟨rfl, rfl, rfl, by decide +kernel, rfl, by decide +kernel, by decide +kernel⟩
theorem ok_at (T : Tz P K mg) : FnOk P w K mg base (CX P w) 5 T.p_at.f T.p_at.fd ["self", "place"] (spAt K T.cP T.cN) := by
  have G1 : FnOk P w K mg base CX0 1 T.over_one.f T.over_one.fd ["pairs"] (spOver K) := ok_over T
  have G2 : FnOk P w K mg base (CX P w) 4 T.told.f T.told.fd ["value", "what"] (spTold K T.cN) := ok_told T.toTx
  have G3 : FnOk P w K mg base CX0 1 T.lowest.f T.lowest.fd ["top", "bottom"] (spLow K) := ok_low T.toTx
  refine T.p_at.fn.okX scP10 (fun vs H Q E h => ?_) (fun cdv A outer s H vs Q E hr h => ?_)
  · obtain ⟨p, v, qs, n, m, rfl, _⟩ := h
    rfl
  · obtain ⟨p, v, qs, n, m, rfl, hp, zq, m9, n3, l2, lm, h⟩ := h
    have hr1 : Room 1 _ := hr.mono (by decide)
    have tk := takes_of (X := cxOf (CX P w) P w K mg base nAt "Poly.at" (defScope (sP 10)) T.p_at.f cdv A outer s H E) (E := E) rfl rfl rfl rfl
    refine ⟨_, pss_cons (ps_asg (T.told.cS G2 hr tk (pa_cons (pv 1) (pa_cons pe_str pa_nil))) (pg_tup (by rfl) (pgs_cons (pg_name (i := 2) scP10.nd rfl (.inl rfl)) (pgs_cons (pg_name (i := 3) scP10.nd rfl (.inl rfl)) pgs_nil))))
      (pss_cons (ps_asg (T.over_one.c0 G1 hr1 (pa_cons (pe_fld (pv 0) (by rfl)) pa_nil)) (pg_tup (by rfl) (pgs_cons (pg_name (i := 4) scP10.nd rfl (.inl rfl)) (pgs_cons (pg_name (i := 5) scP10.nd rfl (.inl rfl)) pgs_nil))))
      (pss_cons (ps_set (i := 6) scP10.nd rfl (.inl rfl) pe_int)
      (pss_cons (ps_set (i := 7) scP10.nd rfl (.inl rfl) pe_int)
      (pss_cons (ps_for (passes_of rfl) rfl (pi_reversed (by rfl) T.mRev (pa_cons (pv 4) pa_nil)) (pg_name (i := 8) scP10.nd rfl (.inl rfl))
        (pss_cons (ps_set (i := 6) scP10.nd rfl (.inl rfl) (pe_op op_add (pe_op op_mulW (pv 6) (pv 2)) (pe_op op_mulW (pv 8) (pv 7))))
        (pss_one (ps_set (i := 7) scP10.nd rfl (.inl rfl) (pe_op op_mulW (pv 7) (pv 3))))))
      (pss_one (ps_ret (T.lowest.c0 G3 hr1 (pa_cons (pe_op op_mulW (pv 6) (pv 3)) (pa_cons (pe_op op_mulW (pv 5) (pv 7)) pa_nil))))))))), ?_⟩
    obtain ⟨a, dx, t, ws, rfl, ha, ht, al, tr⟩ := id hp
    rcases h with ⟨x, α, β, aq, α0, α1, bβ, k⟩ | ⟨od, er⟩
    · have β9 : β ≤ 9000 := by omega
      refine ⟨_, rfl, _, _, rfl, .inl ⟨x, α, β, aq, β9, fun v1 H1 s1 rv => ?_⟩⟩
      obtain ⟨t1, rfl, h1⟩ := rv
      refine ⟨t1, _, rfl, h1, rfl, _, _, rfl, _, _, rfl, rfl, ?_⟩
      refine ⟨_, rfl, a, T.cP, dx, _, _, rfl, s1 _ _ ha, T.clP, T.nP, lkN, t, ws, qs, n, m, rfl, Kz.Same.seqT s1 ht, al.same s1, zq, m9, by omega, by omega, by omega, fun p1 l1 H2 s2 hp1 hl1 nl1 => ?_⟩
      refine ⟨p1, _, rfl, hp1, rfl, _, _, rfl, _, _, rfl, rfl, ?_⟩
      have zx := aq.sz
      have ltq : (topsOf qs).length = qs.length := List.length_map _
      have lmt : ((topsOf qs).map V.int).length = qs.length := by rw [List.length_map, ltq]
      have lq := lcs_lt qs zq.mem
      have bq : ∀ k, (ig (topsOf qs) k).natAbs < 2 ^ 310000 := fun k => by
        rcases Nat.lt_or_ge k qs.length with lt | ge
        · rw [ig_at (tops_get lt)]
          have z := zq k lt
          have : ((lcs qs / (cf qs k).den : Nat) : Int).natAbs < 2 ^ (m * qs.length + 1) := Nat.lt_of_le_of_lt (Nat.div_le_self _ _) lq
          exact up_lt (wide_lt z.1 this) (by omega)
        · rw [ig_out (by omega)]
          exact Nat.two_pow_pos _
      have cT : ∀ k, ((ig (topsOf qs) k : Int) : Rat) = cf qs k * (lcs qs : Rat) := fun k => by
        rcases Nat.lt_or_ge k qs.length with lt | ge
        · rw [ig_at (tops_get lt), topOf_eq (lcs_dvd qs _ (mem_cf lt))]
        · rw [ig_out (by omega), cf_out ge, Rat.intCast_zero, Rat.zero_mul]
      have b0 : ((x.den : Int) : Rat) ≠ 0 := fun z => by have := Rat.intCast_eq_zero_iff.mp z; have := x.den_pos; omega
      have ex : x = (x.num : Rat) / ((x.den : Int) : Rat) := by
        have e := Rat.num_divInt_den x
        rw [Rat.divInt_eq_div] at e
        exact e.symm
      refine ⟨_, rfl, l1, _, rfl, SqL.of hl1, RT.for_Itv (K := K) (a := l1) (xs := (topsOf qs).map V.int) (fun j σ H' => H' = H2 ∧ j ≤ qs.length ∧ ∃ (tot sc : Int) (v8 : Option V), σ = [some (.ref a), some v, some (.int x.num), some (.int (x.den : Int)), some (.ref l1), some (.int ((lcs qs : Nat) : Int)), some (.int tot), some (.int sc), v8] ∧
        (tot : Rat) * ((x.den : Int) : Rat) = (sc : Rat) * hn (fun i => ((ig (topsOf qs) i : Int) : Rat)) qs.length x j ∧ tot.natAbs < 2 ^ (310000 + j * (α + β + 1)) ∧ 0 < sc ∧ sc.natAbs < 2 ^ (β * j + 1))
        ⟨rfl, Nat.zero_le _, 0, 1, none, rfl, ?_, by show (0 : Nat) < _; exact Nat.two_pow_pos _, by decide, by show (1 : Nat) < 2 ^ (β * 0 + 1); rw [Nat.mul_zero]; decide⟩ (fun i σ H' ⟨e, _⟩ => e ▸ SqL.of hl1) ?_ ?_⟩
      · show ((0 : Int) : Rat) * _ = ((1 : Int) : Rat) * 0
        rw [Rat.intCast_zero, Rat.zero_mul, Rat.mul_zero]
      · rintro j y σ H' hj hy ⟨rfl, _, tot, sc, v8, rfl, inv, bt, s0, bs⟩
        rw [lmt] at hj hy
        have it := at_ig (ns := topsOf qs) (i := qs.length - 1 - j) (by omega)
        rw [List.getElem?_map, it] at hy
        cases hy
        have m1 : j * (α + β + 1) ≤ 100 * (α + β + 1) := Nat.mul_le_mul_right _ (by omega)
        have m2 : β * j ≤ β * qs.length := Nat.mul_le_mul_left _ (by omega)
        refine ⟨_, rfl, _, rfl, _, _, rfl, rfl, cmulW bt zx.1 (by omega), _, rfl, _, rfl, _, _, rfl, rfl, cmulW (bq _) bs (by omega), _, _, rfl, rfl, ?_⟩
        refine ⟨_, rfl, _, rfl, _, _, rfl, rfl, cmulW bs (den_abs zx) (by omega), rfl, hj, _, _, _, rfl, ?_, ?_, Int.mul_pos s0 (den_pos' x), ?_⟩
        · rw [Rat.intCast_add, Rat.intCast_mul, Rat.intCast_mul, Rat.intCast_mul]
          exact step_q b0 inv ex
        · have h1 := wide_lt bt zx.1
          have h2 := wide_lt (bq (qs.length - 1 - j)) bs
          have h3 := Int.natAbs_add_le (tot * x.num) (ig (topsOf qs) (qs.length - 1 - j) * sc)
          have e : 310000 + (j + 1) * (α + β + 1) = (310000 + j * (α + β + 1) + α + β) + 1 := by rw [Nat.succ_mul]; omega
          have l1' : 2 ^ (310000 + j * (α + β + 1) + α) ≤ 2 ^ (310000 + j * (α + β + 1) + α + β) := pow_up (by omega)
          have l2' : 2 ^ (310000 + (β * j + 1)) ≤ 2 ^ (310000 + j * (α + β + 1) + α + β) := pow_up (by
            have : j * (α + β + 1) = j * (α + 1) + β * j := by rw [Nat.mul_comm β j, ← Nat.mul_add]; congr 1; omega
            omega)
          rw [e, Nat.pow_succ]
          omega
        · have := wide_lt bs (den_abs zx)
          have e : β * (j + 1) + 1 = β * j + 1 + β := by rw [Nat.mul_succ]; omega
          rw [e]
          exact this
      · rintro σ H' ⟨rfl, _, tot, sc, v8, rfl, inv, bt, s0, bs⟩
        rw [lmt] at inv bt bs
        have m1 : qs.length * (α + β + 1) ≤ 100 * (α + β + 1) := Nat.mul_le_mul_right _ l2
        have lp := lcs_pos qs
        have bb : ((lcs qs : Nat) : Int).natAbs < 2 ^ (m * qs.length + 1) := lq
        refine ⟨_, rfl, _, rfl, _, _, rfl, rfl, cmulW bt (den_abs zx) (by omega), ?_⟩
        refine ⟨_, rfl, _, rfl, _, _, rfl, rfl, cmulW bb bs (by rw [Nat.mul_comm β] at *; omega), _, _, rfl, Int.mul_pos (by omega) s0, up_lt (wide_lt bb bs) (by rw [Nat.mul_comm β] at *; omega), fun u H3 s3 ru => k u H3 ((s1.trans s2).trans s3) ?_⟩
        have e : Rat.divInt (tot * (x.den : Int)) (((lcs qs : Nat) : Int) * sc) = hn (cf qs) qs.length x qs.length := by
          have sz : ((sc : Int) : Rat) ≠ 0 := fun z => by have := Rat.intCast_eq_zero_iff.mp z; omega
          have lz : (lcs qs : Rat) ≠ 0 := fun z => by have := Rat.natCast_eq_zero_iff.mp z; omega
          rw [Rat.divInt_eq_div, Rat.intCast_mul, Rat.intCast_mul, inv, hn_scale cT, Rat.intCast_natCast]
          generalize hn (cf qs) qs.length x qs.length = h
          generalize (lcs qs : Rat) = L at lz
          generalize ((sc : Int) : Rat) = S at sz
          grind
        rw [e] at ru
        exact ru
    · exact ⟨_, rfl, _, _, rfl, .inr ⟨od, er⟩⟩
end
end Kz
set_option linter.all false
set_option maxRecDepth 100000
set_option maxHeartbeats 4000000
namespace Kz
open PySem PySem.Spec PyProof.Rows L2
/-- .. and the law's own polynomials -/
structure Tv (P : Program) (K : PySem.W.Frag) (mg : Str → Option Value) extends Tw P K mg where
  l_poly : Df K mg "_law_poly" (top 49) ["_law_numbers"]
  l_pplus : Df K mg "_law_p_plus" (top 50) ["_law_one", "_law_two"]
  l_pscaled : Df K mg "_law_p_scaled" (top 51) ["_law_one", "_law_by"]
  l_pminus : Df K mg "_law_p_minus" (top 52) ["_law_one", "_law_two"]
  l_ptimes : Df K mg "_law_p_times" (top 53) ["_law_one", "_law_two"]
  l_pat : Df K mg "_law_p_at" (top 54) ["_law_one", "_law_point"]
  l_pslope : Df K mg "_law_p_slope" (top 55) ["_law_one"]
  l_pmoved : Df K mg "_law_p_moved" (top 56) ["_law_one", "_law_start", "_law_step"]
  l_pdivided : Df K mg "_law_p_divided" (top 57) ["_law_one", "_law_two"]
  l_pplain : Df K mg "_law_p_plain" (top 58) ["_law_one"]
  l_pshort : Df K mg "_law_p_short" (top 59) ["_law_one"]
  l_pcommon : Df K mg "_law_p_common" (top 60) ["_law_one", "_law_two"]
/-- a list of told ratios -/
def LR (K : PySem.W.Frag) (H : Hp) (v : V) (qs : List Rat) : Prop := ∃ l vs, v = .ref l ∧ H l = some (.lst vs) ∧ Al K H vs qs
theorem LR.same {K : PySem.W.Frag} {H H' : Hp} {v : V} {qs : List Rat} (s : Same H H') (h : LR K H v qs) : LR K H' v qs := by
  obtain ⟨l, vs, e, hl, al⟩ := h
  exact ⟨l, vs, e, s _ _ hl, al.same s⟩
/-- a ratio, a row of them, as data -/
def pdQ (q : Rat) : PyData := .tuple [.int q.num, .int (q.den : Int)]
def pdR (qs : List Rat) : PyData := .list (qs.map pdQ)
theorem RV.dp {K : PySem.W.Frag} {H : Hp} {v : V} {q : Rat} (h : RV K H v q) : Dp K H v (pdQ q) := by
  obtain ⟨t, rfl, h⟩ := h
  exact .tup h (.cons (.int _) (.cons (.int _) .nil))
theorem Al.dp {K : PySem.W.Frag} {H : Hp} : ∀ {vs : List V} {qs : List Rat}, Al K H vs qs → DpAll K H vs (qs.map pdQ)
  | [], [], _ => .nil
  | [], q :: qs, h => by cases h.1
  | v :: vs, [], h => by cases h.1
  | v :: vs, q :: qs, h => .cons (h.2 0 v q rfl rfl).dp (Al.dp ⟨Nat.succ.inj h.1, fun i u r a b => h.2 (i + 1) u r a b⟩)
theorem pdQ_lay (qs : List Rat) : PyData.canLayAll0 (qs.map pdQ) = true ∧ PyData.depthAll (qs.map pdQ) ≤ 1 := by
  induction qs with
  | nil => exact ⟨rfl, Nat.zero_le _⟩
  | cons q qs ih =>
    refine ⟨?_, ?_⟩
    · simp only [List.map_cons, PyData.canLayAll0, ih.1, Bool.and_true]
      rfl
    · simp only [List.map_cons, PyData.depthAll]
      have : (pdQ q).depth = 1 := rfl
      rw [this]
      exact Nat.max_le.mpr ⟨Nat.le_refl _, ih.2⟩
theorem pdR_shaped (qs : List Rat) : SeqAt.shaped (pdR qs) = true := by
  obtain ⟨h1, h2⟩ := pdQ_lay qs
  unfold SeqAt.shaped pdR
  simp only [PyData.canLay0, PyData.depth, h1, Bool.true_and]
  exact decide_eq_true (by omega)
theorem pdR_nil (qs : List Rat) : PyData.eqv (pdR qs) (pdR []) = decide (qs = []) := by
  cases qs with
  | nil => rfl
  | cons q qs => rfl
section
variable {P : Program} {w : World} {K : PySem.W.Frag} {mg : Str → Option Value} {base : Heap}
def spLpoly (K : PySem.W.Frag) : Sp := fun vs H Q _ => ∃ v qs, vs = [v] ∧ LR K H v qs ∧ qs.length ≤ 1000 ∧ ∀ u H' rs, Same H H' → LR K H' u rs → Tr rs → rs.length ≤ qs.length → (∀ i, cf rs i = cf qs i) → Q u H'
abbrev nLp : List Str := ["_law_numbers", "_law_found", "_law_lap"]
theorem sc48 : FnScope nLp ["_law_numbers"] (defScope (top 49)) := ⟨rfl, rfl, rfl, by decide +kernel, rfl, by decide +kernel, by decide +kernel⟩
theorem ok_lpoly (T : Tv P K mg) : FnOk P w K mg base CX0 1 T.l_poly.f T.l_poly.fd ["_law_numbers"] (spLpoly K) := by
  refine T.l_poly.fn.ok sc48 (fun vs H Q E h => ?_) (fun cdv A outer s H vs Q E hr h => ?_)
  · obtain ⟨v, qs, rfl, _⟩ := h
    rfl
  · obtain ⟨v, qs, rfl, ⟨l, ws, rfl, hl, al⟩, len, k⟩ := h
    have hu := hr.units
    refine ⟨_, pss_cons (ps_set (i := 1) sc48.nd rfl (.inl rfl) (pe_callTy call_list_of (by rfl) T.blt.list boot_tlist (pa_cons (pv 0) pa_nil)))
      (pss_cons (ps_for PassesOwn.never rfl (pi_range1 rfl T.blt.range (pa_cons (pe_callB call_len_seq (by rfl) T.blt.len PySem.boot_len (pa_cons (pv 0) pa_nil)) pa_nil)) (pg_name (i := 2) sc48.nd rfl (.inl rfl))
        (pss_cons (ps_if (PW.pt (pw_or (pt_cmpR (op_eqD hu) (pv 1) (pe_lst pa_nil) (nomark _)) (pw_or1 (pt_cmpR op_ne (pe_ix ix_tup (pe_ix ix_list (pv 1) (pe_un un_neg pe_int) (fun _ _ => rfl)) pe_int (fun _ _ => rfl)) pe_int (nomark _))))) (pss_one ps_break) pss_nil)
        (pss_one (ps_expr (pe_bm0 PySem.F.plainAttrs_list PySem.F.slot_list_pop PySem.F.type_list_pop mt_pop (pv 1))))))
      (pss_one (ps_ret (pv 1)))), ?_⟩
    refine ⟨_, rfl, l, ws, rfl, .inl (SqL.of hl), fun f nf => ?_⟩
    have s1 := Same.new (o := .lst ws) nf
    have e1 : upd H f (.lst ws) f = some (.lst ws) := upd_same
    generalize upd H f (.lst ws) = H1 at s1 e1
    have fl : f ≠ l := (ne_of_none hl nf).symm
    refine ⟨_, rfl, l, ws, rfl, .inl (SqL.of (s1 _ _ hl)), ((ws.length : Nat) : Int), rfl, by omega, by have := al.1; omega, ?_⟩
    refine for_range (lo := 0) (n := ((ws.length : Nat) : Int).toNat) (fun i σ H' => i ≤ qs.length ∧ ∃ v2 vs R, σ = [some (.ref l), some (.ref f), v2] ∧ H' f = some (.lst vs) ∧ Al K H' vs R ∧ R.length = qs.length - i ∧ (∀ j, cf R j = cf qs j) ∧ Same H H')
      ⟨Nat.zero_le _, none, ws, qs, rfl, e1, al.same s1, rfl, fun _ => rfl, s1⟩ ?_ ?_
    · rintro i σ H2 hi ⟨_, v2, vs, R, rfl, hf, ar, lr, er, s2⟩
      have hi' : i < qs.length := by
        have : i < ws.length := hi
        have := al.1
        omega
      refine ⟨_, rfl, (by show 0 ≤ sizeLine; decide), fun z nz => ?_⟩
      have s3 := Same.new (o := .lst []) nz
      have ez : upd H2 z (.lst []) z = some (.lst []) := upd_same
      generalize upd H2 z (.lst []) = H3 at s3 ez
      have hf3 := s3 _ _ hf
      have ar3 := ar.same s3
      refine ⟨pdR R, pdR [], .lst (SqL.of hf3) ar3.dp, .lst (SqL.of ez) .nil, pdR_shaped R, pdR_shaped [], _, rfl, ?_⟩
      rw [pdR_nil]
      have tl : Tr R → _ := fun tr => k (.ref f) H3 R (s2.trans s3) ⟨f, vs, rfl, hf3, ar3⟩ tr (by omega) er
      by_cases e0 : R = []
      · rw [decide_eq_true e0]
        refine iteT (iteT ⟨_, rfl, tl ?_⟩)
        intro j ej
        rw [e0] at ej
        cases ej
      · rw [decide_eq_false e0]
        have l0 : 0 < R.length := List.length_pos_iff.mpr e0
        obtain ⟨vl, el, rl⟩ := ar3.get (i := R.length - 1) (by omega)
        obtain ⟨t, rfl, ht⟩ := rl
        refine iteF ⟨_, rfl, _, rfl, f, vs, _, _, rfl, rfl, SqL.of hf3, atI_last (by rw [ar.1]; exact el), t, _, _, _, rfl, rfl, ht, atI_nat (j := 0) rfl, rfl, _, rfl, ?_⟩
        by_cases z0 : (cf R (R.length - 1)).num = 0
        · rw [z0]
          refine iteNS rfl ?_
          refine ⟨_, rfl, .inl ⟨rfl, _, SqL.of hf3⟩, f, vs, _, rfl, rfl, hf3, by rw [ar.1]; exact el, ?_⟩
          have b4 : But f H3 (upd H3 f (.lst vs.dropLast)) := But.refl.set
          refine ⟨hi', _, vs.dropLast, R.take (R.length - 1), rfl, upd_same, ?_, by rw [List.length_take]; omega, fun j => ?_, fun c o e => b4 _ _ (s3 _ _ (s2 _ _ e)) (ne_of_none e nf)⟩
          · have e : vs.dropLast = vs.take (R.length - 1) := by rw [List.dropLast_eq_take, ar.1]
            have z := (Al.bear hf3 b4 ar3).take (R.length - 1)
            rw [← e] at z
            exact z
          · rw [← er j]
            rcases Nat.lt_or_ge j (R.length - 1) with lt | ge
            · exact cf_take lt
            · rw [cf_out (by rw [List.length_take]; omega)]
              rcases Nat.eq_or_lt_of_le ge with e | lt
              · rw [← e]
                exact (Rat.num_eq_zero.mp z0).symm
              · exact (cf_out (by omega)).symm
        · rw [decide_eq_false (p := V.int _ = V.int 0) (fun z => z0 (V.int.inj z))]
          refine iteT ⟨_, rfl, tl ?_⟩
          intro j ej
          have : j = R.length - 1 := by omega
          subst this
          exact fun c => z0 (by rw [c]; rfl)
    · rintro σ H2 ⟨_, v2, vs, R, rfl, hf, ar, lr, er, s2⟩
      have e : ((ws.length : Nat) : Int).toNat = qs.length := al.1
      rw [e, Nat.sub_self] at lr
      refine ⟨_, rfl, k (.ref f) H2 R s2 ⟨f, vs, rfl, hf, ar⟩ ?_ (by omega) er⟩
      intro j ej
      omega
end
end Kz
set_option linter.all false
set_option maxRecDepth 100000
set_option maxHeartbeats 4000000
namespace Kz
open PySem PySem.Spec PyProof.Rows L2
theorem RV.up0 {K : PySem.W.Frag} {H : Hp} {v : V} {q : Rat} (h : RV K H v q) : ∃ n m, Sz n m q ∧ PQ K H v n m q := ⟨q.num.natAbs + 1, q.den + 1, ⟨Nat.lt_of_lt_of_le (Nat.lt_succ_self _) (Nat.le_of_lt Nat.lt_two_pow_self), Nat.lt_of_lt_of_le (Nat.lt_succ_self _) (Nat.le_of_lt Nat.lt_two_pow_self)⟩, h.pq ⟨Nat.lt_of_lt_of_le (Nat.lt_succ_self _) (Nat.le_of_lt Nat.lt_two_pow_self), Nat.lt_of_lt_of_le (Nat.lt_succ_self _) (Nat.le_of_lt Nat.lt_two_pow_self)⟩⟩
theorem PQ.same {K : PySem.W.Frag} {H H' : Hp} {v : V} {n m : Nat} {q : Rat} (s : Same H H') (h : PQ K H v n m q) : PQ K H' v n m q := by
  obtain ⟨t, a, b, e, ht, r⟩ := h
  exact ⟨t, a, b, e, Kz.Same.seqT s ht, r⟩
theorem cf_map {f : Rat → Rat} {qs : List Rat} (h0 : f 0 = 0) (i : Nat) : cf (qs.map f) i = f (cf qs i) := by
  rcases Nat.lt_or_ge i qs.length with lt | ge
  · exact cf_at (by rw [List.getElem?_map, at_cf lt]; rfl)
  · rw [cf_out ge, cf_out (by rw [List.length_map]; exact ge), h0]
section
variable {P : Program} {w : World} {K : PySem.W.Frag} {mg : Str → Option Value} {base : Heap}
def spLsc (K : PySem.W.Frag) : Sp := fun vs H Q _ => ∃ v u qs n m n' m' q, vs = [v, u] ∧ LR K H v qs ∧ SzA n m qs ∧ PQ K H u n' m' q ∧ n + n' + m + m' ≤ 800000 ∧ m + m' ≤ 9000 ∧ qs.length ≤ 1000 ∧
  ∀ x H' rs, Same H H' → LR K H' x rs → Tr rs → rs.length ≤ qs.length → (∀ i, cf rs i = cf qs i * q) → Q x H'
abbrev nSc : List Str := ["_law_one", "_law_by", "_law_a"]
theorem sc50 : FnScope nSc ["_law_one", "_law_by"] (defScope (top 51)) := ⟨rfl, rfl, rfl, by decide +kernel, rfl, by decide +kernel, by decide +kernel⟩
theorem ok_lscaled (T : Tv P K mg) : FnOk P w K mg base CX0 4 T.l_pscaled.f T.l_pscaled.fd ["_law_one", "_law_by"] (spLsc K) := by
  have G1 : FnOk P w K mg base CX0 1 T.l_poly.f T.l_poly.fd ["_law_numbers"] (spLpoly K) := ok_lpoly T
  have G2 : FnOk P w K mg base CX0 3 T.l_times.f T.l_times.fd ["_law_one", "_law_two"] (spL2 K cBin (fun q r => q * r)) := ok_ltimes T.toTy
  refine T.l_pscaled.fn.ok sc50 (fun vs H Q E h => ?_) (fun cdv A outer s H vs Q E hr h => ?_)
  · obtain ⟨v, u, qs, n, m, n', m', q, rfl, _⟩ := h
    rfl
  · obtain ⟨v, u, qs, n, m, n', m', q, rfl, ⟨l, ws, rfl, hl, al⟩, zq, pu, b1, b2, len, k⟩ := h
    refine ⟨_, pss_one (ps_ret (T.l_poly.c0 G1 (hr.mono (by decide)) (pa_cons (pe_lc (own := [("_law_a", 2)]) (g := gName 2) (tt := tYes) rfl sc50.nd (pi_list (pv 0)) (blkOk_by (own := [("_law_a", 2)]) (N := nSc) (sc := defScope (top 51)) (by decide +kernel))
      (fun _ _ _ _ _ => pg_name (i := 2) sc50.nd rfl (Or.inl rfl)) (fun _ _ _ _ _ => pts_nil) (fun _ _ _ _ _ => T.l_times.c0 G2 hr (pa_cons (pv 2) (pa_cons (pv 1) pa_nil)))) pa_nil))), ?_⟩
    refine ⟨_, rfl, l, rfl, ⟨_, SqL.of hl⟩, fun D hD => ?_⟩
    refine lc_mapL (SqL.of hl) (by rw [al.1]; exact len) hD (fun i acc H' => Al K H' acc ((qs.map fun r => r * q).take i)) bears_al Al.nil ?_ ?_
    · intro i x hx acc H' Qk Z lg r s kk
      have lt : i < qs.length := by
        have := (List.getElem?_eq_some_iff.mp hx).1
        rw [← al.1]
        exact this
      have rx := (al.2 i x _ hx (at_cf lt)).same s
      refine ⟨rfl, ?_⟩
      dsimp only [tYes]
      refine iteT ⟨_, rfl, _, rfl, x, u, _, q, n, m, n', m', rfl, rx.pq (zq i lt), pu.same s, ⟨by omega, b2⟩, fun v' H4 s4 rv => kk _ _ s4 ?_⟩
      have e : (qs.map fun r => r * q)[i]? = some (cf qs i * q) := by rw [List.getElem?_map, at_cf lt]; rfl
      show Al K H4 (acc ++ [v']) ((qs.map fun r => r * q).take (i + 1))
      rw [take_snoc e]
      exact (Al.same s4 r).snoc rv
    · intro acc H' hacc lacc r s
      have r' : Al K H' acc ((qs.map fun r => r * q).take ws.length) := r
      rw [al.1, List.take_of_length_le (by rw [List.length_map]; exact Nat.le_refl _)] at r'
      refine ⟨_, _, rfl, ⟨D, acc, rfl, hacc, r'⟩, by rw [List.length_map]; exact len, fun x H2 rs s2 lr tr ll e => k x H2 rs (s.trans s2) lr tr (by simpa using ll) fun i => ?_⟩
      rw [e]
      exact cf_map (f := fun r => r * q) (Rat.zero_mul q) i
/-- the value at a ratio -/
def spLat (K : PySem.W.Frag) : Sp := fun vs H Q _ => ∃ v u qs n m α β x, vs = [v, u] ∧ LR K H v qs ∧ SzA n m qs ∧ RV K H u x ∧ Sz α β x ∧ 0 < n ∧ 0 < m ∧ 1 + (qs.length + 1) * (β + m) ≤ 9000 ∧ qs.length ≤ 50 ∧ α ≤ 2000 ∧ n ≤ 2000 ∧ ∀ y H', Same H H' → RV K H' y (hn (cf qs) qs.length x qs.length) → Q y H'
abbrev nLa : List Str := ["_law_one", "_law_point", "_law_amount", "_law_number"]
theorem sc53 : FnScope nLa ["_law_one", "_law_point"] (defScope (top 54)) := ⟨rfl, rfl, rfl, by decide +kernel, rfl, by decide +kernel, by decide +kernel⟩
theorem ok_lat (T : Tv P K mg) : FnOk P w K mg base CX0 4 T.l_pat.f T.l_pat.fd ["_law_one", "_law_point"] (spLat K) := by
  have G1 : FnOk P w K mg base CX0 3 T.l_plus.f T.l_plus.fd ["_law_one", "_law_two"] (spL2 K cBin (fun q r => q + r)) := ok_lplus T.toTy
  have G2 : FnOk P w K mg base CX0 3 T.l_times.f T.l_times.fd ["_law_one", "_law_two"] (spL2 K cBin (fun q r => q * r)) := ok_ltimes T.toTy
  refine T.l_pat.fn.ok sc53 (fun vs H Q E h => ?_) (fun cdv A outer s H vs Q E hr h => ?_)
  · obtain ⟨v, u, qs, n, m, α, β, x, rfl, _⟩ := h
    rfl
  · obtain ⟨v, u, qs, n, m, α, β, x, rfl, ⟨l, ws, rfl, hl, al⟩, zq, rx, zx, n0, m0, b1, len, α2, n2, k⟩ := h
    refine ⟨_, pss_cons (ps_set (i := 2) sc53.nd rfl (.inl rfl) (pe_tup (pa_cons pe_int (pa_cons pe_int pa_nil))))
      (pss_cons (ps_for PassesOwn.never rfl (pi_list (pe_revL (pv 0))) (pg_name (i := 3) sc53.nd rfl (.inl rfl))
        (pss_one (ps_set (i := 2) sc53.nd rfl (.inl rfl) (T.l_plus.c0 G1 hr (pa_cons (T.l_times.c0 G2 hr (pa_cons (pv 2) (pa_cons (pv 1) pa_nil))) (pa_cons (pv 3) pa_nil))))))
      (pss_one (ps_ret (pv 2)))), ?_⟩
    refine ⟨(by show 2 ≤ sizeLine; decide), fun z nz => ?_⟩
    have s1 := Same.new (o := .tup [.int 0, .int 1]) nz
    have ez : RV K (upd H z (.tup [.int 0, .int 1])) (.ref z) 0 := rv_zero (SqT.of upd_same)
    generalize upd H z (.tup [.int 0, .int 1]) = H1 at s1 ez
    refine ⟨_, rfl, l, ws, rfl, SqL.of (s1 _ _ hl), fun p np => ?_⟩
    have s2 := s1.trans (Same.new (o := .lst ws.reverse) np)
    have ep : upd H1 p (.lst ws.reverse) p = some (.lst ws.reverse) := upd_same
    have ez2 := ez.same (Same.new (o := .lst ws.reverse) np)
    generalize upd H1 p (.lst ws.reverse) = H2 at s2 ep ez2
    refine ⟨p, rfl, ⟨_, SqL.of ep⟩, for_list (K := K) (a := p) (xs := ws.reverse) (fun j σ H' => j ≤ qs.length ∧ ∃ am v3, σ = [some (.ref l), some u, some am, v3] ∧ RV K H' am (hn (cf qs) qs.length x j) ∧ Sz (1 + j * (α + n + 9000)) (1 + j * (β + m)) (hn (cf qs) qs.length x j) ∧ Same H2 H')
      ⟨Nat.zero_le _, .ref z, none, rfl, ez2, ⟨by show (0 : Nat) < _; exact Nat.two_pow_pos _, by show (1 : Nat) < 2 ^ (1 + 0 * _); rw [Nat.zero_mul]; decide⟩, Same.refl _⟩ (fun j σ H' _ ⟨_, _, _, _, _, _, s⟩ => SqL.of (s _ _ ep)) ?_ ?_⟩
    · rintro j y σ H3 hy ⟨_, am, v3, rfl, ra, za, s3⟩
      have lt : j < qs.length := by
        have := (List.getElem?_eq_some_iff.mp hy).1
        rw [List.length_reverse, al.1] at this
        exact this
      rw [List.getElem?_reverse (by rw [al.1]; exact lt)] at hy
      have s23 := s2.trans s3
      have ey : ws.length - 1 - j = qs.length - 1 - j := by rw [al.1]
      rw [ey] at hy
      have ry := (al.2 _ y _ hy (at_cf (by omega))).same s23
      have zy := zq (qs.length - 1 - j) (by omega)
      have m1 : j * (β + m) + (β + m) + (β + m) ≤ 8999 := by
        have h1 : (j + 1) * (β + m) ≤ qs.length * (β + m) := Nat.mul_le_mul_right _ lt
        rw [Nat.succ_mul] at h1 b1
        omega
      have m2 : j * (α + n + 9000) ≤ 50 * (α + n + 9000) := Nat.mul_le_mul_right _ (by omega)
      refine ⟨_, rfl, _, rfl, am, u, _, x, _, _, α, β, rfl, ra.pq za, (rx.same s23).pq zx, ⟨by omega, by omega⟩, fun v1 H4 s4 r1 => ?_⟩
      have zm := mul_sz za zx
      refine ⟨_, rfl, v1, y, _, _, _, _, n, m, rfl, r1.pq zm, (ry.same s4).pq zy, ⟨by omega, by omega⟩, fun v2 H5 s5 r2 => ?_⟩
      refine ⟨lt, v2, _, rfl, r2, (add_sz zm zy).up ?_ ?_, (s3.trans s4).trans s5⟩
      · rw [Nat.succ_mul]
        omega
      · rw [Nat.succ_mul]
        omega
    · rintro σ H3 ⟨_, am, v3, rfl, ra, za, s3⟩
      rw [List.length_reverse, al.1] at ra
      exact ⟨_, rfl, k am H3 (s2.trans s3) ra⟩
end
end Kz
set_option linter.all false
set_option maxRecDepth 100000
set_option maxHeartbeats 4000000
namespace Kz
open PySem PySem.Spec PyProof.Rows L2
/-- a comprehension over two lists side by side -/
theorem lc_mapZ {K : PySem.W.Frag} {a b : Addr} {xs ys : List V} {g : TG} {te : TE} {vs : List Nat} {σ : L2.St} {H1 : Hp} {D : Addr} {Qd : Hp → Prop} (hx : SqL K H1 a xs) (hy : SqL K H1 b ys) (le : xs.length = ys.length) (len : xs.length ≤ 1000) (hD : H1 D = none)
    (R : Nat → List V → Hp → Prop) (br : Bears D R) (h0 : R 0 [] H1)
    (step : ∀ (i : Nat) (x y : V), xs[i]? = some x → ys[i]? = some y → ∀ (acc : List V) (H' : Hp) (Qk : VK) (Z : Hp → Prop) (T : Addr), acc.length = i → R i acc H' → Same H1 H' → H' T = none → (∀ u H4, Same H' H4 → R (i + 1) (acc ++ [u]) H4 → Qk u H4) →
      g (.ref T) (wipe σ vs) (upd H' T (.tup [x, y])) fun σ2 H2 => wipe σ2 vs = wipe σ vs ∧ tYes σ2 H2 fun b H3 => if b = true then te σ2 H3 Qk else Z H3)
    (fin : ∀ acc H', H' D = some (.lst acc) → acc.length = xs.length → R xs.length acc H' → Same H1 H' → Qd H') : ∃ W : Nat → Nat → Hp → Prop, (∃ m, W 0 m (upd H1 D (.lst []))) ∧ ∀ i m H, W i m H →
      ((Itz K a b).stop i H ∧ Qd H) ∨ ((Itz K a b).go i H ∧ ∃ Nx : Hp → Prop, (∀ H', Nx H' → ∃ m', m' < m ∧ W (i + 1) m' H') ∧ ∀ x H', (Itz K a b).yld i H x H' → g x (wipe σ vs) H' fun σ2 H2 => wipe σ2 vs = wipe σ vs ∧ tYes σ2 H2 fun b H3 =>
        if b = true then te σ2 H3 fun y H4 => ∃ acc, H4 D = some (.lst acc) ∧ acc.length < sizeLine ∧ Nx (upd H4 D (.lst (acc ++ [y]))) else Nx H3) := by
  refine ⟨fun i m H => m = xs.length - i ∧ i ≤ xs.length ∧ ∃ acc, H D = some (.lst acc) ∧ acc.length = i ∧ R i acc H ∧ Same H1 H, ⟨_, rfl, Nat.zero_le _, [], upd_same, rfl, br _ _ _ _ (fun o e => by rw [hD] at e; cases e) But.refl.set h0, Same.new hD⟩, ?_⟩
  rintro i m H ⟨rfl, hi, acc, e, l, r, s⟩
  have sx := Same.seq s hx
  have sy := Same.seq s hy
  rcases Nat.lt_or_ge i xs.length with lt | ge
  · right
    have lty : i < ys.length := by omega
    refine ⟨⟨xs, ys, _, _, sx, sy, List.getElem?_eq_getElem lt, List.getElem?_eq_getElem lty⟩, fun H' => i + 1 ≤ xs.length ∧ ∃ acc, H' D = some (.lst acc) ∧ acc.length = i + 1 ∧ R (i + 1) acc H' ∧ Same H1 H', fun H' p => ⟨_, by omega, rfl, p⟩, ?_⟩
    rintro v H' ⟨T, x, y, rfl, nT, rfl, fx, fy⟩
    refine step i x y (fx xs sx) (fy ys sy) acc H _ _ T l r s nT fun u H4 s4 r4 => ⟨acc, s4 _ _ e, le1000 (by omega), lt, acc ++ [u], upd_same, by simp [l], br _ _ _ _ (fun o e4 => ?_) But.refl.set r4, fun c o ec => ?_⟩
    · rw [s4 _ _ e] at e4
      cases e4
      exact ⟨_, rfl⟩
    · rw [upd_ne (ne_of_none ec hD)]
      exact s4 _ _ (s _ _ ec)
  · left
    have ei : i = xs.length := by omega
    subst ei
    exact ⟨⟨xs, ys, sx, sy, .inl (Nat.le_refl _)⟩, fin acc H e l r s⟩
/-- a row made longer by zeros -/
def padTo (n : Nat) (qs : List Rat) : List Rat := qs ++ List.replicate (n - qs.length) 0
theorem padTo_len {n : Nat} {qs : List Rat} (h : qs.length ≤ n) : (padTo n qs).length = n := by
  unfold padTo
  rw [List.length_append, List.length_replicate]
  omega
theorem padTo_cf {n : Nat} {qs : List Rat} (i : Nat) : cf (padTo n qs) i = cf qs i := by
  unfold padTo
  rcases Nat.lt_or_ge i qs.length with lt | ge
  · exact cf_at (by rw [List.getElem?_append_left lt, at_cf lt])
  · rw [cf_out ge]
    rcases Nat.lt_or_ge i (qs ++ List.replicate (n - qs.length) 0).length with lt | ge2
    · refine cf_at ?_
      rw [List.getElem?_append_right ge, List.getElem?_replicate, if_pos]
      rw [List.length_append, List.length_replicate] at lt
      omega
    · exact cf_out ge2
theorem boot_max2 : bootBuiltins "max" = some (.builtin "max") := by decide +kernel
section
variable {P : Program} {w : World} {K : PySem.W.Frag} {mg : Str → Option Value} {base : Heap}
theorem al_rep {H : Hp} {v : V} {k : Nat} (h : RV K H v 0) : Al K H (List.replicate k [v]).flatten (List.replicate k (0 : Rat)) := by
  induction k with
  | zero => exact Al.nil
  | succ k ih =>
    rw [List.replicate_succ, List.flatten_cons, List.replicate_succ]
    exact Al.append (Al.snoc (Al.nil (H := H)) h) ih
def spLpl (K : PySem.W.Frag) (f : Rat → Rat → Rat) : Sp := fun vs H Q _ => ∃ v u qs rs n m n' m', vs = [v, u] ∧ LR K H v qs ∧ LR K H u rs ∧ SzA n m qs ∧ SzA n' m' rs ∧ 0 < n ∧ 0 < m ∧ 0 < n' ∧ 0 < m' ∧ n + n' + m + m' ≤ 700000 ∧ m + m' ≤ 8000 ∧ qs.length ≤ 400 ∧ rs.length ≤ 400 ∧
  ∀ x H' ts, Same H H' → LR K H' x ts → Tr ts → ts.length ≤ max qs.length rs.length → (∀ i, cf ts i = f (cf qs i) (cf rs i)) → Q x H'
abbrev nPl : List Str := ["_law_one", "_law_two", "_law_many", "_law_first", "_law_second", "_law_a", "_law_b"]
theorem sc49 : FnScope nPl ["_law_one", "_law_two"] (defScope (top 50)) := ⟨rfl, rfl, rfl, by decide +kernel, rfl, by decide +kernel, by decide +kernel⟩
theorem ok_lpplus (T : Tv P K mg) : FnOk P w K mg base CX0 4 T.l_pplus.f T.l_pplus.fd ["_law_one", "_law_two"] (spLpl K (fun a b => a + b)) := by
  have G1 : FnOk P w K mg base CX0 1 T.l_poly.f T.l_poly.fd ["_law_numbers"] (spLpoly K) := ok_lpoly T
  have G2 : FnOk P w K mg base CX0 3 T.l_plus.f T.l_plus.fd ["_law_one", "_law_two"] (spL2 K cBin (fun q r => q + r)) := ok_lplus T.toTy
  refine T.l_pplus.fn.ok sc49 (fun vs H Q E h => ?_) (fun cdv A outer s H vs Q E hr h => ?_)
  · obtain ⟨v, u, qs, rs, n, m, n', m', rfl, _⟩ := h
    rfl
  · obtain ⟨v, u, qs, rs, n, m, n', m', rfl, ⟨l, ws, rfl, hl, al⟩, ⟨l', ws', rfl, hl', al'⟩, zq, zr, n0, m0, n0', m0', b1, b2, l2, l2', k⟩ := h
    refine ⟨_, pss_cons (ps_set (i := 2) sc49.nd rfl (.inl rfl) (pe_callB (cr_max rfl) (by rfl) T.mMax boot_max2 (pa_cons (pe_lst (pa_cons (pe_callB call_len_seq (by rfl) T.blt.len PySem.boot_len (pa_cons (pv 0) pa_nil)) (pa_cons (pe_callB call_len_seq (by rfl) T.blt.len PySem.boot_len (pa_cons (pv 1) pa_nil)) pa_nil))) pa_nil)))
      (pss_cons (ps_par (i := 3) (j := 4) rfl sc49.nd rfl rfl (by decide) rfl rfl (pa_cons (pe_op op_cat (pv 0) (pe_op op_rep (pe_lst (pa_cons (pe_tup (pa_cons pe_int (pa_cons pe_int pa_nil))) pa_nil)) (pe_op op_sub (pv 2) (pe_callB call_len_seq (by rfl) T.blt.len PySem.boot_len (pa_cons (pv 0) pa_nil)))))
          (pa_cons (pe_op op_cat (pv 1) (pe_op op_rep (pe_lst (pa_cons (pe_tup (pa_cons pe_int (pa_cons pe_int pa_nil))) pa_nil)) (pe_op op_sub (pv 2) (pe_callB call_len_seq (by rfl) T.blt.len PySem.boot_len (pa_cons (pv 1) pa_nil))))) pa_nil)) (by rfl))
      (pss_one (ps_ret (T.l_poly.c0 G1 (hr.mono (by decide)) (pa_cons (pe_lc (own := [("_law_a", 5), ("_law_b", 6)]) (g := gTup K 2 (gCons (gName 5) (gCons (gName 6) gNil))) (tt := tYes) rfl sc49.nd (pi_zip (by rfl) T.mZip (pa_cons (pv 3) (pa_cons (pv 4) pa_nil))) (blkOk_by (own := [("_law_a", 5), ("_law_b", 6)]) (N := nPl) (sc := defScope (top 50)) (by decide +kernel))
        (fun _ _ _ _ _ => pg_tup (by rfl) (pgs_cons (pg_name (i := 5) sc49.nd rfl (Or.inl rfl)) (pgs_cons (pg_name (i := 6) sc49.nd rfl (Or.inl rfl)) pgs_nil))) (fun _ _ _ _ _ => pts_nil) (fun _ _ _ _ _ => T.l_plus.c0 G2 hr (pa_cons (pv 5) (pa_cons (pv 6) pa_nil)))) pa_nil))))), ?_⟩
    have la := al.1
    have la' := al'.1
    refine ⟨_, rfl, l, ws, rfl, .inl (SqL.of hl), _, rfl, l', ws', rfl, .inl (SqL.of hl'), (by show 2 ≤ sizeLine; decide), fun y ny => ?_⟩
    have s1 := Same.new (o := .lst [.int ((ws.length : Nat) : Int), .int ((ws'.length : Nat) : Int)]) ny
    have ey : upd H y (.lst [.int ((ws.length : Nat) : Int), .int ((ws'.length : Nat) : Int)]) y = some (.lst [.int ((ws.length : Nat) : Int), .int ((ws'.length : Nat) : Int)]) := upd_same
    generalize upd H y (.lst [.int ((ws.length : Nat) : Int), .int ((ws'.length : Nat) : Int)]) = H1 at s1 ey
    refine ⟨y, [((ws.length : Nat) : Int), ((ws'.length : Nat) : Int)], rfl, SqL.of ey, (by show 0 < 2; decide), fun mx mem all => ?_⟩
    have em : mx = ((max qs.length rs.length : Nat) : Int) := by
      have h1 := all ((ws.length : Nat) : Int) (by simp)
      have h2 := all ((ws'.length : Nat) : Int) (by simp)
      simp only [List.mem_cons, List.not_mem_nil, or_false] at mem
      omega
    subst em
    generalize hN : max qs.length rs.length = N at k
    have nq : qs.length ≤ N := by omega
    have nr : rs.length ≤ N := by omega
    have n4 : N ≤ 400 := by omega
    -- the first one
    refine ⟨_, rfl, (by show 2 ≤ sizeLine; decide), fun z nz => ?_⟩
    have s2 := s1.trans (Same.new (o := .tup [.int 0, .int 1]) nz)
    have ez : RV K (upd H1 z (.tup [.int 0, .int 1])) (.ref z) 0 := rv_zero (SqT.of upd_same)
    generalize upd H1 z (.tup [.int 0, .int 1]) = H2 at s2 ez
    refine ⟨(by show 1 ≤ sizeLine; decide), fun p np => ?_⟩
    have t3 := Same.new (o := .lst [.ref z]) np
    have ep : upd H2 p (.lst [.ref z]) p = some (.lst [.ref z]) := upd_same
    have s3 := s2.trans t3
    have ez3 := ez.same t3
    generalize upd H2 p (.lst [.ref z]) = H3 at ep s3 ez3
    refine ⟨_, rfl, _, rfl, l, ws, rfl, .inl (SqL.of (s3 _ _ hl)), _, _, rfl, rfl, ?_⟩
    have ek : ((N : Nat) : Int) - ((ws.length : Nat) : Int) = ((N - qs.length : Nat) : Int) := by omega
    refine ⟨p, _, _, rfl, rfl, ep, by omega, by omega, ?_, fun c nc => ?_⟩
    · rw [ek]
      show 1 * (N - qs.length) ≤ sizeLine
      rw [sizeLine_eq]
      omega
    dsimp only []
    rw [ek]
    have tn : (((N - qs.length : Nat) : Int)).toNat = N - qs.length := rfl
    rw [tn]
    have t4 := Same.new (o := .lst (List.replicate (N - qs.length) [V.ref z]).flatten) nc
    have ec : upd H3 c (.lst (List.replicate (N - qs.length) [V.ref z]).flatten) c = some (.lst (List.replicate (N - qs.length) [V.ref z]).flatten) := upd_same
    have s4 := s3.trans t4
    have ac := al_rep (k := N - qs.length) (ez3.same t4)
    generalize upd H3 c (.lst (List.replicate (N - qs.length) [V.ref z]).flatten) = H4 at ec s4 ac
    refine ⟨l, c, _, _, rfl, rfl, s4 _ _ hl, ec, ?_, fun d nd => ?_⟩
    · rw [ac.1, List.length_replicate, la, sizeLine_eq]
      omega
    have t5 := Same.new (o := .lst (ws ++ (List.replicate (N - qs.length) [V.ref z]).flatten)) nd
    have ed : upd H4 d (.lst (ws ++ (List.replicate (N - qs.length) [V.ref z]).flatten)) d = some (.lst (ws ++ (List.replicate (N - qs.length) [V.ref z]).flatten)) := upd_same
    have s5 := s4.trans t5
    have ad : Al K (upd H4 d (.lst (ws ++ (List.replicate (N - qs.length) [V.ref z]).flatten))) (ws ++ (List.replicate (N - qs.length) [V.ref z]).flatten) (padTo N qs) := Al.append (al.same s5) (ac.same t5)
    generalize upd H4 d (.lst (ws ++ (List.replicate (N - qs.length) [V.ref z]).flatten)) = H5 at ed s5 ad
    -- the second one
    refine ⟨_, rfl, (by show 2 ≤ sizeLine; decide), fun z' nz' => ?_⟩
    have t6 := Same.new (o := .tup [.int 0, .int 1]) nz'
    have ez' : RV K (upd H5 z' (.tup [.int 0, .int 1])) (.ref z') 0 := rv_zero (SqT.of upd_same)
    generalize upd H5 z' (.tup [.int 0, .int 1]) = H6 at t6 ez'
    refine ⟨(by show 1 ≤ sizeLine; decide), fun p' np' => ?_⟩
    have t7 := Same.new (o := .lst [.ref z']) np'
    have ep' : upd H6 p' (.lst [.ref z']) p' = some (.lst [.ref z']) := upd_same
    have t57 := t6.trans t7
    have ez7 := ez'.same t7
    generalize upd H6 p' (.lst [.ref z']) = H7 at ep' t57 ez7
    refine ⟨_, rfl, _, rfl, l', ws', rfl, .inl (SqL.of (t57 _ _ (s5 _ _ hl'))), _, _, rfl, rfl, ?_⟩
    have ek' : ((N : Nat) : Int) - ((ws'.length : Nat) : Int) = ((N - rs.length : Nat) : Int) := by omega
    refine ⟨p', _, _, rfl, rfl, ep', by omega, by omega, ?_, fun c' nc' => ?_⟩
    · rw [ek']
      show 1 * (N - rs.length) ≤ sizeLine
      rw [sizeLine_eq]
      omega
    dsimp only []
    rw [ek']
    have tn' : (((N - rs.length : Nat) : Int)).toNat = N - rs.length := rfl
    rw [tn']
    have t8 := Same.new (o := .lst (List.replicate (N - rs.length) [V.ref z']).flatten) nc'
    have ec' : upd H7 c' (.lst (List.replicate (N - rs.length) [V.ref z']).flatten) c' = some (.lst (List.replicate (N - rs.length) [V.ref z']).flatten) := upd_same
    have t58 := t57.trans t8
    have ac' := al_rep (k := N - rs.length) (ez7.same t8)
    generalize upd H7 c' (.lst (List.replicate (N - rs.length) [V.ref z']).flatten) = H8 at ec' t58 ac'
    refine ⟨l', c', _, _, rfl, rfl, t58 _ _ (s5 _ _ hl'), ec', ?_, fun d' nd' => ?_⟩
    · rw [ac'.1, List.length_replicate, la', sizeLine_eq]
      omega
    have t9 := Same.new (o := .lst (ws' ++ (List.replicate (N - rs.length) [V.ref z']).flatten)) nd'
    have ed' : upd H8 d' (.lst (ws' ++ (List.replicate (N - rs.length) [V.ref z']).flatten)) d' = some (.lst (ws' ++ (List.replicate (N - rs.length) [V.ref z']).flatten)) := upd_same
    have t59 := t58.trans t9
    have s9 := s5.trans t59
    have ad' : Al K (upd H8 d' (.lst (ws' ++ (List.replicate (N - rs.length) [V.ref z']).flatten))) (ws' ++ (List.replicate (N - rs.length) [V.ref z']).flatten) (padTo N rs) := Al.append (al'.same s9) (ac'.same t9)
    have ad9 := ad.same t59
    have ed9 := t59 _ _ ed
    generalize upd H8 d' (.lst (ws' ++ (List.replicate (N - rs.length) [V.ref z']).flatten)) = H9 at ed' s9 ad' ad9 ed9
    generalize ws ++ (List.replicate (N - qs.length) [V.ref z]).flatten = us at ad9 ed9
    generalize ws' ++ (List.replicate (N - rs.length) [V.ref z']).flatten = us' at ad' ed'
    refine ⟨_, _, rfl, ?_⟩
    have lus : us.length = N := ad9.1.trans (padTo_len nq)
    have lus' : us'.length = N := ad'.1.trans (padTo_len nr)
    refine ⟨_, rfl, _, rfl, d, d', us, us', rfl, SqL.of ed9, SqL.of ed', fun D hD => ?_⟩
    refine lc_mapZ (SqL.of ed9) (SqL.of ed') (by omega) (by omega) hD (fun i acc H' => Al K H' acc ((upTo N fun i => cf qs i + cf rs i).take i)) bears_al Al.nil ?_ ?_
    · intro i x y' hx hy acc H' Qk Z T' lg r s nT kk
      have lt : i < N := by
        have := (List.getElem?_eq_some_iff.mp hx).1
        omega
      have s10 := Same.new (o := .tup [x, y']) nT
      have rx := ((ad9.2 i x _ hx (at_cf (by rw [padTo_len nq]; exact lt))).same s).same s10
      have ry := ((ad'.2 i y' _ hy (at_cf (by rw [padTo_len nr]; exact lt))).same s).same s10
      rw [padTo_cf] at rx ry
      refine ⟨T', _, rfl, SqT.of upd_same, rfl, _, _, rfl, _, _, rfl, rfl, rfl, ?_⟩
      dsimp only [tYes]
      refine iteT ⟨_, rfl, _, rfl, x, y', _, _, n, m, n', m', rfl, rx.pq (zq.all n0 m0 i), ry.pq (zr.all n0' m0' i), ⟨by omega, by omega⟩, fun v' H4 s4 rv => kk _ _ (s10.trans s4) ?_⟩
      show Al K H4 (acc ++ [v']) ((upTo N fun i => cf qs i + cf rs i).take (i + 1))
      rw [take_snoc (upTo_at lt)]
      exact (Al.same (s10.trans s4) r).snoc rv
    · intro acc H' hacc lacc r s
      have r' : Al K H' acc ((upTo N fun i => cf qs i + cf rs i).take us.length) := r
      rw [lus, List.take_of_length_le (by rw [upTo_len]; exact Nat.le_refl _)] at r'
      refine ⟨_, _, rfl, ⟨D, acc, rfl, hacc, r'⟩, by rw [upTo_len]; omega, fun x H2 ts s2 lr tr ll e => k x H2 ts ((s9.trans s).trans s2) lr tr (by rw [upTo_len] at ll; exact ll) fun i => ?_⟩
      rw [e, upTo_cf]
      intro i ge
      rw [cf_out (qs := qs) (by omega), cf_out (qs := rs) (by omega)]
      exact Rat.add_zero 0
end
end Kz
set_option linter.all false
set_option maxRecDepth 100000
set_option maxHeartbeats 4000000
namespace Kz
open PySem PySem.Spec PyProof.Rows L2
theorem neg1 : Rat.divInt (-1) 1 = -1 := by decide +kernel
theorem part_q {s a b : Rat} : s + a * b = s + a * b := rfl
/-- a sum of products above one bottom -/
theorem conv_part {f g : Nat → Rat} {M L : Nat} {x c : Nat} (hf : ∀ i, ∃ z : Int, z.natAbs < 2 ^ x ∧ f i = Rat.divInt z (M : Int)) (hg : ∀ i, ∃ z : Int, z.natAbs < 2 ^ c ∧ g i = Rat.divInt z (L : Int)) (M0 : 0 < M) (L0 : 0 < L) (k i : Nat) :
    ∃ z : Int, z.natAbs ≤ k * 2 ^ (x + c) ∧ convN k f g i = Rat.divInt z ((M * L : Nat) : Int) := by
  unfold convN
  induction k with
  | zero => exact ⟨0, Nat.zero_le _, by rw [Rat.zero_divInt]; rfl⟩
  | succ k ih =>
    obtain ⟨z, hz, e⟩ := ih
    have ml : ((M * L : Nat) : Int) ≠ 0 := by
      have := Nat.mul_pos M0 L0
      omega
    by_cases h : k ≤ i
    · obtain ⟨a, ha, ea⟩ := hf k
      obtain ⟨b, hb, eb⟩ := hg (i - k)
      refine ⟨z + a * b, ?_, ?_⟩
      · have h1 := wide_lt ha hb
        have h2 := Int.natAbs_add_le z (a * b)
        rw [Nat.succ_mul]
        omega
      · show sumTo k _ + (if k ≤ i then f k * g (i - k) else 0) = _
        rw [if_pos h, e, ea, eb, Rat.divInt_mul_divInt, ← Int.natCast_mul, divInt_cast, divInt_cast, divInt_cast, Rat.intCast_add]
        generalize ((((M * L : Nat) : Int)) : Rat) = D
        grind
    · refine ⟨z, Nat.le_trans hz (Nat.mul_le_mul_right _ (Nat.le_succ k)), ?_⟩
      show sumTo k _ + (if k ≤ i then f k * g (i - k) else 0) = _
      rw [if_neg h, e]
      exact Rat.add_zero _
theorem conv_cd {x y c e N : Nat} {qs rs ts : List Rat} (hq : CD x y qs) (hr : CD c e rs) (hN : N ≤ 256) (h : ∀ i, cf ts i = convN N (cf qs) (cf rs) i) : CD (x + c + 9) (y + e) ts := by
  obtain ⟨M, m0, m1, hM⟩ := hq
  obtain ⟨L, n0, n1, hL⟩ := hr
  refine ⟨M * L, Nat.mul_pos m0 n0, by rw [Nat.pow_add]; exact Nat.mul_lt_mul'' m1 n1, fun i => ?_⟩
  obtain ⟨z, hz, e⟩ := conv_part hM hL m0 n0 N i
  refine ⟨z, ?_, (h i).trans e⟩
  have h1 : N * 2 ^ (x + c) ≤ 2 ^ 8 * 2 ^ (x + c) := Nat.mul_le_mul_right _ hN
  rw [← Nat.pow_add] at h1
  have h2 : 2 ^ (8 + (x + c)) < 2 ^ (x + c + 9) := Nat.pow_lt_pow_right (by decide) (by omega)
  omega
theorem CD.both {x y x' y' : Nat} {qs rs ts : List Rat} (hq : CD x y qs) (hr : CD x' y' rs) (h : ∀ i, cf ts i = cf qs i + cf rs i) : CD (x + y' + x' + y + 1) (y + y') ts := by
  obtain ⟨M, m0, m1, hM⟩ := hq
  obtain ⟨L, n0, n1, hL⟩ := hr
  refine ⟨M * L, Nat.mul_pos m0 n0, by rw [Nat.pow_add]; exact Nat.mul_lt_mul'' m1 n1, fun i => ?_⟩
  obtain ⟨z, hz, e⟩ := hM i
  obtain ⟨z', hz', e'⟩ := hL i
  refine ⟨z * (L : Int) + z' * (M : Int), ?_, ?_⟩
  · have h1 := wide_lt hz (show ((L : Nat) : Int).natAbs < 2 ^ y' from n1)
    have h2 := wide_lt hz' (show ((M : Nat) : Int).natAbs < 2 ^ y from m1)
    have h3 := Int.natAbs_add_le (z * (L : Int)) (z' * (M : Int))
    have l1 : 2 ^ (x + y') ≤ 2 ^ (x + y' + x' + y) := pow_up (by omega)
    have l2 : 2 ^ (x' + y) ≤ 2 ^ (x + y' + x' + y) := pow_up (by omega)
    rw [Nat.pow_succ]
    omega
  · rw [h, e, e', Rat.divInt_add_divInt _ _ (by omega) (by omega), Int.natCast_mul]
section
variable {P : Program} {w : World} {K : PySem.W.Frag} {mg : Str → Option Value} {base : Heap}
abbrev nMi : List Str := ["_law_one", "_law_two"]
theorem sc51 : FnScope nMi ["_law_one", "_law_two"] (defScope (top 52)) := ⟨rfl, rfl, rfl, by decide +kernel, rfl, by decide +kernel, by decide +kernel⟩
theorem ok_lpminus (T : Tv P K mg) : FnOk P w K mg base CX0 5 T.l_pminus.f T.l_pminus.fd ["_law_one", "_law_two"] (spLpl K (fun a b => a - b)) := by
  have G1 : FnOk P w K mg base CX0 4 T.l_pplus.f T.l_pplus.fd ["_law_one", "_law_two"] (spLpl K (fun a b => a + b)) := ok_lpplus T
  have G2 : FnOk P w K mg base CX0 4 T.l_pscaled.f T.l_pscaled.fd ["_law_one", "_law_by"] (spLsc K) := ok_lscaled T
  refine T.l_pminus.fn.ok sc51 (fun vs H Q E h => ?_) (fun cdv A outer s H vs Q E hr h => ?_)
  · obtain ⟨v, u, qs, rs, n, m, n', m', rfl, _⟩ := h
    rfl
  · obtain ⟨v, u, qs, rs, n, m, n', m', rfl, hq, hr', zq, zr, n0, m0, n0', m0', b1, b2, l2, l2', k⟩ := h
    refine ⟨_, pss_one (ps_ret (T.l_pplus.c0 G1 hr (pa_cons (pv 0) (pa_cons (T.l_pscaled.c0 G2 hr (pa_cons (pv 1) (pa_cons (pe_tup (pa_cons (pe_un un_neg pe_int) (pa_cons pe_int pa_nil))) pa_nil))) pa_nil)))), ?_⟩
    refine ⟨_, rfl, _, rfl, _, rfl, (by show 2 ≤ sizeLine; decide), fun z nz => ?_⟩
    have s1 := Same.new (o := .tup [.int (-1), .int 1]) nz
    have pz : PQ K (upd H z (.tup [.int (-1), .int 1])) (.ref z) 1 1 (-1) := ⟨z, -1, 1, rfl, SqT.of upd_same, by decide, neg1.symm, by decide, by decide⟩
    refine ⟨u, .ref z, rs, n', m', 1, 1, -1, rfl, hr'.same s1, zr, pz, by omega, by omega, by omega, fun x H2 ts s2 lr tr ll e => ?_⟩
    have zt : SzA n' m' ts := fun i l => by
      rw [e]
      have : cf rs i * -1 = -cf rs i := by grind
      rw [this]
      exact sz_neg (zr.all n0' m0' i)
    refine ⟨v, x, qs, ts, n, m, n', m', rfl, (hq.same s1).same s2, lr, zq, zt, n0, m0, n0', m0', b1, b2, l2, by omega, fun y H3 us s3 lr3 tr3 l3 e3 => k y H3 us ((s1.trans s2).trans s3) lr3 tr3 (by omega) fun i => ?_⟩
    rw [e3, e]
    show cf qs i + cf rs i * -1 = cf qs i - cf rs i
    grind
def spLtm (K : PySem.W.Frag) : Sp := fun vs H Q _ => ∃ v u qs rs x y c e, vs = [v, u] ∧ LR K H v qs ∧ LR K H u rs ∧ CD x y qs ∧ CD c e rs ∧ 0 < x ∧ 0 < y ∧ 0 < c ∧ 0 < e ∧ x + c ≤ 300000 ∧ y + e ≤ 4000 ∧ qs.length ≤ 200 ∧ rs.length ≤ 200 ∧
  ∀ t H' ts, Same H H' → LR K H' t ts → Tr ts → ts.length ≤ qs.length + rs.length - 1 → (∀ i, cf ts i = convN qs.length (cf qs) (cf rs) i) → Q t H'
abbrev nTm : List Str := ["_law_one", "_law_two", "_law_found", "_law_i", "_law_k"]
theorem sc52 : FnScope nTm ["_law_one", "_law_two"] (defScope (top 53)) := ⟨rfl, rfl, rfl, by decide +kernel, rfl, by decide +kernel, by decide +kernel⟩
theorem upTo_set {n j : Nat} {f : Nat → Rat} {z : Rat} : (upTo n f).set j z = upTo n fun i => if i = j then z else f i := by
  refine List.ext_getElem? fun i => ?_
  rw [List.getElem?_set, upTo_len]
  rcases Nat.lt_or_ge i n with lt | ge
  · rw [upTo_at lt, upTo_at lt]
    by_cases e : j = i
    · subst e
      rw [if_pos rfl, if_pos lt, if_pos rfl]
    · rw [if_neg e, if_neg (fun z => e z.symm)]
  · rw [List.getElem?_eq_none (by rw [upTo_len]; exact ge), List.getElem?_eq_none (by rw [upTo_len]; exact ge)]
    by_cases e : j = i
    · subst e
      rw [if_pos rfl, if_neg (by omega)]
    · rw [if_neg e]
theorem upTo_ext {n : Nat} {f g : Nat → Rat} (h : ∀ i, i < n → f i = g i) : upTo n f = upTo n g := by
  refine List.ext_getElem? fun i => ?_
  rcases Nat.lt_or_ge i n with lt | ge
  · rw [upTo_at lt, upTo_at lt, h i lt]
  · rw [List.getElem?_eq_none (by rw [upTo_len]; exact ge), List.getElem?_eq_none (by rw [upTo_len]; exact ge)]
theorem rep_upTo {n : Nat} : List.replicate n (0 : Rat) = upTo n fun _ => 0 := by
  refine List.ext_getElem? fun i => ?_
  rcases Nat.lt_or_ge i n with lt | ge
  · rw [upTo_at lt, List.getElem?_replicate, if_pos lt]
  · rw [List.getElem?_replicate, if_neg (by omega), List.getElem?_eq_none (by rw [upTo_len]; exact ge)]
theorem conv_zero {f g : Nat → Rat} {N L j : Nat} (hf : ∀ i, L ≤ i → g i = 0) (h : N + L ≤ j + 1) : convN N f g j = 0 := by
  unfold convN
  induction N with
  | zero => rfl
  | succ N ih =>
    show sumTo N _ + (if N ≤ j then f N * g (j - N) else 0) = 0
    rw [ih (by omega)]
    by_cases c : N ≤ j
    · rw [if_pos c, hf _ (by omega), Rat.mul_zero]
      exact Rat.add_zero 0
    · rw [if_neg c]
      exact Rat.add_zero 0
theorem ok_ltm (T : Tv P K mg) : FnOk P w K mg base CX0 4 T.l_ptimes.f T.l_ptimes.fd ["_law_one", "_law_two"] (spLtm K) := by
  have G0 : FnOk P w K mg base CX0 1 T.l_poly.f T.l_poly.fd ["_law_numbers"] (spLpoly K) := ok_lpoly T
  have G1 : FnOk P w K mg base CX0 3 T.l_plus.f T.l_plus.fd ["_law_one", "_law_two"] (spL2 K cBin (fun q r => q + r)) := ok_lplus T.toTy
  have G2 : FnOk P w K mg base CX0 3 T.l_times.f T.l_times.fd ["_law_one", "_law_two"] (spL2 K cBin (fun q r => q * r)) := ok_ltimes T.toTy
  refine T.l_ptimes.fn.ok sc52 (fun vs H Q E h => ?_) (fun cdv A outer s H vs Q E hr h => ?_)
  · obtain ⟨v, u, qs, rs, x, y, c, e, rfl, _⟩ := h
    rfl
  · obtain ⟨v, u, qs, rs, x, y, c, e, rfl, ⟨l, ws, rfl, hl, al⟩, ⟨l', ws', rfl, hl', al'⟩, cq, cr, x0, y0, c0, e0, b1, b2, l2, l2', k⟩ := h
    refine ⟨_, pss_cons (ps_set (i := 2) sc52.nd rfl (.inl rfl) (pe_op op_rep (pe_lst (pa_cons (pe_tup (pa_cons pe_int (pa_cons pe_int pa_nil))) pa_nil)) (pe_callB (cr_max rfl) (by rfl) T.mMax boot_max2 (pa_cons (pe_lst (pa_cons pe_int (pa_cons (pe_op op_sub (pe_op op_add (pe_callB call_len_seq (by rfl) T.blt.len PySem.boot_len (pa_cons (pv 0) pa_nil)) (pe_callB call_len_seq (by rfl) T.blt.len PySem.boot_len (pa_cons (pv 1) pa_nil))) pe_int) pa_nil))) pa_nil))))
      (pss_cons (ps_for PassesOwn.never rfl (pi_range1 rfl T.blt.range (pa_cons (pe_callB call_len_seq (by rfl) T.blt.len PySem.boot_len (pa_cons (pv 0) pa_nil)) pa_nil)) (pg_name (i := 3) sc52.nd rfl (.inl rfl))
        (pss_one (ps_for PassesOwn.never rfl (pi_range1 rfl T.blt.range (pa_cons (pe_callB call_len_seq (by rfl) T.blt.len PySem.boot_len (pa_cons (pv 1) pa_nil)) pa_nil)) (pg_name (i := 4) sc52.nd rfl (.inl rfl))
          (pss_one (ps_asg (T.l_plus.c0 G1 hr (pa_cons (pe_ix ix_list (pv 2) (pe_op op_add (pv 3) (pv 4)) (fun _ _ => rfl)) (pa_cons (T.l_times.c0 G2 hr (pa_cons (pe_ix ix_list (pv 0) (pv 3) (fun _ _ => rfl)) (pa_cons (pe_ix ix_list (pv 1) (pv 4) (fun _ _ => rfl)) pa_nil))) pa_nil))) (pg_sub (pv 2) (pe_op op_add (pv 3) (pv 4)) set_list (fun _ => rfl)))))))
      (pss_one (ps_ret (T.l_poly.c0 G0 (hr.mono (by decide)) (pa_cons (pv 2) pa_nil))))), ?_⟩
    have la := al.1
    have la' := al'.1
    refine ⟨(by show 2 ≤ sizeLine; decide), fun z nz => ?_⟩
    have s2 := Same.new (o := .tup [.int 0, .int 1]) nz
    have ez : RV K (upd H z (.tup [.int 0, .int 1])) (.ref z) 0 := rv_zero (SqT.of upd_same)
    generalize upd H z (.tup [.int 0, .int 1]) = H2 at s2 ez
    refine ⟨(by show 1 ≤ sizeLine; decide), fun p np => ?_⟩
    have t3 := Same.new (o := .lst [.ref z]) np
    have ep : upd H2 p (.lst [.ref z]) p = some (.lst [.ref z]) := upd_same
    have s3 := s2.trans t3
    have ez3 := ez.same t3
    generalize upd H2 p (.lst [.ref z]) = H3 at ep s3 ez3
    refine ⟨_, rfl, l, ws, rfl, .inl (SqL.of (s3 _ _ hl)), _, rfl, l', ws', rfl, .inl (SqL.of (s3 _ _ hl')), _, _, rfl, rfl, _, _, rfl, rfl, (by show 2 ≤ sizeLine; decide), fun yy ny => ?_⟩
    have t4 := Same.new (o := .lst [.int 0, .int (((ws.length : Nat) : Int) + ((ws'.length : Nat) : Int) - 1)]) ny
    have ey : upd H3 yy (.lst [.int 0, .int (((ws.length : Nat) : Int) + ((ws'.length : Nat) : Int) - 1)]) yy = some (.lst [.int 0, .int (((ws.length : Nat) : Int) + ((ws'.length : Nat) : Int) - 1)]) := upd_same
    have s4 := s3.trans t4
    have ep4 := t4 _ _ ep
    have ez4 := ez3.same t4
    generalize upd H3 yy (.lst [.int 0, .int (((ws.length : Nat) : Int) + ((ws'.length : Nat) : Int) - 1)]) = H4 at ey s4 ep4 ez4
    refine ⟨yy, [0, ((ws.length : Nat) : Int) + ((ws'.length : Nat) : Int) - 1], rfl, SqL.of ey, (by show 0 < 2; decide), fun mx mem all => ?_⟩
    have em : mx = ((qs.length + rs.length - 1 : Nat) : Int) := by
      have h1 := all 0 (by simp)
      have h2 := all (((ws.length : Nat) : Int) + ((ws'.length : Nat) : Int) - 1) (by simp)
      simp only [List.mem_cons, List.not_mem_nil, or_false] at mem
      omega
    subst em
    generalize hN : qs.length + rs.length - 1 = N at k
    refine ⟨p, _, _, rfl, rfl, ep4, by omega, by omega, ?_, fun fo nfo => ?_⟩
    · have tn : (((N : Nat) : Int)).toNat = N := rfl
      rw [tn]
      show 1 * N ≤ sizeLine
      rw [sizeLine_eq]
      omega
    have tn : (((N : Nat) : Int)).toNat = N := rfl
    rw [tn]
    have t5 := Same.new (o := .lst (List.replicate N [V.ref z]).flatten) nfo
    have ef : upd H4 fo (.lst (List.replicate N [V.ref z]).flatten) fo = some (.lst (List.replicate N [V.ref z]).flatten) := upd_same
    have s5 := s4.trans t5
    have af := al_rep (k := N) (ez4.same t5)
    rw [rep_upTo] at af
    have nfo0 : H fo = none := Kz.Same.none_of s4 nfo
    generalize upd H4 fo (.lst (List.replicate N [V.ref z]).flatten) = H5 at ef s5 af
    generalize (List.replicate N [V.ref z]).flatten = us at ef af
    obtain ⟨M, M0, M1, hM⟩ := id cq
    obtain ⟨L, L0, L1, hL⟩ := id cr
    have szc : ∀ j i, j ≤ 200 → Sz (x + c + 9) (y + e) (convN j (cf qs) (cf rs) i) := fun j i hj => by
      obtain ⟨zz, hz, ee⟩ := conv_part hM hL M0 L0 j i
      rw [ee]
      refine sz_divInt (by have := Nat.mul_pos M0 L0; omega) ?_ ?_
      · have h1 : j * 2 ^ (x + c) ≤ 2 ^ 8 * 2 ^ (x + c) := Nat.mul_le_mul_right _ (by omega)
        rw [← Nat.pow_add] at h1
        have h2 : 2 ^ (8 + (x + c)) < 2 ^ (x + c + 9) := Nat.pow_lt_pow_right (by decide) (by omega)
        omega
      · show M * L < _
        rw [Nat.pow_add]
        exact Nat.mul_lt_mul'' M1 L1
    refine ⟨_, rfl, l, ws, rfl, .inl (SqL.of (s5 _ _ hl)), ((ws.length : Nat) : Int), rfl, by omega, by omega, ?_⟩
    refine for_range (lo := 0) (n := ((ws.length : Nat) : Int).toNat) (fun i σ H' => i ≤ qs.length ∧ ∃ v3 v4 vs, σ = [some (.ref l), some (.ref l'), some (.ref fo), v3, v4] ∧ H' fo = some (.lst vs) ∧ Al K H' vs (upTo N (convN i (cf qs) (cf rs))) ∧ Same H H')
      ⟨Nat.zero_le _, none, none, us, rfl, ef, ?_, s5⟩ ?_ ?_
    · exact af
    · rintro i σ H6 hi ⟨_, v3, v4, vs, rfl, hf, av, s6⟩
      have hi' : i < qs.length := by
        have : i < ws.length := hi
        omega
      have e0' : (0 : Int) + ((i : Nat) : Int) = ((i : Nat) : Int) := Int.zero_add _
      rw [e0']
      refine ⟨_, rfl, l', ws', rfl, .inl (SqL.of (s6 _ _ hl')), ((ws'.length : Nat) : Int), rfl, by omega, by omega, ?_⟩
      refine for_range (lo := 0) (n := ((ws'.length : Nat) : Int).toNat) (fun n σ H' => n ≤ rs.length ∧ ∃ v4 vs, σ = [some (.ref l), some (.ref l'), some (.ref fo), some (.int ((i : Nat) : Int)), v4] ∧ H' fo = some (.lst vs) ∧
        Al K H' vs (upTo N fun j => convN i (cf qs) (cf rs) j + if i ≤ j ∧ j < i + n then cf qs i * cf rs (j - i) else 0) ∧ Same H H') ⟨Nat.zero_le _, v4, vs, rfl, hf, ?_, s6⟩ ?_ ?_
      · have : (upTo N fun j => convN i (cf qs) (cf rs) j + if i ≤ j ∧ j < i + 0 then cf qs i * cf rs (j - i) else 0) = upTo N (convN i (cf qs) (cf rs)) := upTo_ext fun j _ => by
          rw [if_neg (by omega)]
          exact Rat.add_zero _
        rw [this]
        exact av
      · rintro n σ H7 hn ⟨_, v4, vs, rfl, hf7, av7, s7⟩
        have hn' : n < rs.length := by
          have : n < ws'.length := hn
          omega
        have e1 : (0 : Int) + ((n : Nat) : Int) = ((n : Nat) : Int) := Int.zero_add _
        have ek : ((i : Nat) : Int) + ((n : Nat) : Int) = ((i + n : Nat) : Int) := by omega
        rw [e1]
        have inN : i + n < N := by omega
        obtain ⟨vi, ei, ri⟩ := av7.get (i := i + n) (by rw [upTo_len]; exact inN)
        rw [cf_at (upTo_at inN), if_neg (by omega), show convN i (cf qs) (cf rs) (i + n) + 0 = convN i (cf qs) (cf rs) (i + n) from Rat.add_zero _] at ri
        obtain ⟨va, ea, ra⟩ := (al.same s7).get hi'
        obtain ⟨vb, eb, rb⟩ := (al'.same s7).get hn'
        have za : Sz x y (cf qs i) := cq.sz i
        have zb : Sz c e (cf rs n) := cr.sz n
        refine ⟨_, rfl, _, rfl, _, rfl, _, _, rfl, rfl, fo, vs, _, vi, rfl, rfl, SqL.of hf7, (by rw [ek]; exact atI_nat ei), ?_⟩
        refine ⟨_, rfl, _, rfl, l, ws, _, va, rfl, rfl, SqL.of (s7 _ _ hl), atI_nat ea, _, rfl, _, rfl, l', ws', _, vb, rfl, rfl, SqL.of (s7 _ _ hl'), atI_nat eb, ?_⟩
        refine ⟨va, vb, _, _, x, y, c, e, rfl, ra.pq za, rb.pq zb, ⟨by omega, by omega⟩, fun vm H8 s8 rm => ?_⟩
        refine ⟨vi, vm, _, _, x + c + 9, y + e, x + c, y + e, rfl, (ri.same s8).pq (szc i _ (by omega)), rm.pq (mul_sz za zb), ⟨by omega, by omega⟩, fun vn H9 s9 rn => ?_⟩
        have s89 := s8.trans s9
        have h9 := s89 _ _ hf7
        have lv : vs.length = N := av7.1.trans upTo_len
        refine ⟨_, rfl, _, rfl, _, rfl, _, _, rfl, rfl, fo, vs, _, i + n, rfl, rfl, h9, (by rw [ek, lv]; exact ixN_nat inN), ?_⟩
        have b10 : But fo H9 (upd H9 fo (.lst (vs.set (i + n) vn))) := But.refl.set
        have e10 : upd H9 fo (.lst (vs.set (i + n) vn)) fo = some (.lst (vs.set (i + n) vn)) := upd_same
        generalize upd H9 fo (.lst (vs.set (i + n) vn)) = H10 at b10 e10
        have rows : (upTo N fun j => convN i (cf qs) (cf rs) j + if i ≤ j ∧ j < i + (n + 1) then cf qs i * cf rs (j - i) else 0) =
            (upTo N fun j => convN i (cf qs) (cf rs) j + if i ≤ j ∧ j < i + n then cf qs i * cf rs (j - i) else 0).set (i + n) (convN i (cf qs) (cf rs) (i + n) + cf qs i * cf rs n) := by
          rw [upTo_set]
          refine upTo_ext fun j _ => ?_
          by_cases e : j = i + n
          · rw [if_pos e, e, if_pos (by omega), Nat.add_sub_cancel_left]
          · rw [if_neg e]
            congr 1
            by_cases c : i ≤ j ∧ j < i + n
            · rw [if_pos c, if_pos (by omega)]
            · rw [if_neg c, if_neg (by omega)]
        refine ⟨hn', _, _, rfl, e10, ?_, fun cc o ec => b10 _ _ (s89 _ _ (s7 _ _ ec)) (ne_of_none ec nfo0)⟩
        rw [rows]
        exact (Al.bear h9 b10 (av7.same s89)).set ((Al.bear h9 b10 (Al.snoc (Al.nil (H := H9)) rn)).2 0 vn _ rfl rfl)
      · rintro σ H7 ⟨_, v4, vs, rfl, hf7, av7, s7⟩
        have en : ((ws'.length : Nat) : Int).toNat = rs.length := la'
        rw [en] at av7
        refine ⟨hi', _, _, vs, rfl, hf7, ?_, s7⟩
        have : (upTo N fun j => convN i (cf qs) (cf rs) j + if i ≤ j ∧ j < i + rs.length then cf qs i * cf rs (j - i) else 0) = upTo N (convN (i + 1) (cf qs) (cf rs)) := upTo_ext fun j _ => by
          show _ = convN i (cf qs) (cf rs) j + (if i ≤ j then cf qs i * cf rs (j - i) else 0)
          congr 1
          by_cases c : i ≤ j
          · rw [if_pos c]
            by_cases c2 : j < i + rs.length
            · rw [if_pos ⟨c, c2⟩]
            · rw [if_neg (by omega), cf_out (qs := rs) (by omega), Rat.mul_zero]
          · rw [if_neg c, if_neg (by omega)]
        rw [← this]
        exact av7
    · rintro σ H6 ⟨_, v3, v4, vs, rfl, hf, av, s6⟩
      have en : ((ws.length : Nat) : Int).toNat = qs.length := la
      rw [en] at av
      refine ⟨_, rfl, _, _, rfl, ⟨fo, vs, rfl, hf, av⟩, by rw [upTo_len]; omega, fun t H7 ts s7 lr tr ll et => k t H7 ts (s6.trans s7) lr tr (by rw [upTo_len] at ll; exact ll) fun i => ?_⟩
      rw [et, upTo_cf]
      intro i ge
      rcases Nat.eq_zero_or_pos rs.length with r0 | r0
      · exact conv_zero (L := 0) (fun j _ => cf_out (by omega)) (by omega)
      · exact conv_zero (L := rs.length) (fun j hj => cf_out hj) (by omega)
end
end Kz
set_option linter.all false
set_option maxRecDepth 100000
set_option maxHeartbeats 4000000
namespace Kz
open PySem PySem.Spec PyProof.Rows L2
theorem dit_cf_zero {D : List Rat} {n i : Nat} {R : List Rat} (h : R.length - n ≤ i) : cf (dit D n R) i = 0 := cf_out (by rw [dit_len]; exact h)
section
variable {P : Program} {w : World} {K : PySem.W.Frag} {mg : Str → Option Value} {base : Heap}
/-- the law's own division -/
def spLdv (K : PySem.W.Frag) : Sp := fun vs H Q _ => ∃ v u qs rs x y c e, vs = [v, u] ∧ LR K H v qs ∧ LR K H u rs ∧ 0 < rs.length ∧ cf rs (rs.length - 1) ≠ 0 ∧ CD x y qs ∧ CD c e rs ∧ 0 < x ∧ 0 < y ∧ x + qs.length * (c + 1) ≤ 30000 ∧ y + (qs.length + 1 - rs.length) * c + c + e + y + (qs.length + 1 - rs.length) * c ≤ 9000 ∧ c ≤ 9000 ∧ e ≤ 9000 ∧ qs.length ≤ 200 ∧ rs.length ≤ 200 ∧
  ∀ t a b H' ts us, Same H H' → SqT K H' t [a, b] → LR K H' a ts → LR K H' b us → Tr ts → Tr us → us.length ≤ qs.length → (∀ i, cf ts i = cf (dqs rs (qs.length + 1 - rs.length) qs).reverse i) → (∀ i, cf us i = cf (dit rs (qs.length + 1 - rs.length) qs) i) → Q (.ref t) H'
abbrev nDv : List Str := ["_law_one", "_law_two", "_law_rest", "_law_quotient", "_law_k", "_law_by", "_law_i"]
theorem sc56 : FnScope nDv ["_law_one", "_law_two"] (defScope (top 57)) := ⟨rfl, rfl, rfl, by decide +kernel, rfl, by decide +kernel, by decide +kernel⟩
theorem ok_ldv (T : Tv P K mg) : FnOk P w K mg base CX0 4 T.l_pdivided.f T.l_pdivided.fd ["_law_one", "_law_two"] (spLdv K) := by
  have G0 : FnOk P w K mg base CX0 1 T.l_poly.f T.l_poly.fd ["_law_numbers"] (spLpoly K) := ok_lpoly T
  have G1 : FnOk P w K mg base CX0 3 T.l_share.f T.l_share.fd ["_law_one", "_law_two"] (spL2 K cShr (fun q r => q / r)) := ok_lshare T.toTy
  have G2 : FnOk P w K mg base CX0 3 T.l_times.f T.l_times.fd ["_law_one", "_law_two"] (spL2 K cBin (fun q r => q * r)) := ok_ltimes T.toTy
  have G3 : FnOk P w K mg base CX0 3 T.l_minus.f T.l_minus.fd ["_law_one", "_law_two"] (spL2 K cBin (fun q r => q - r)) := ok_lminus T.toTy
  refine T.l_pdivided.fn.ok sc56 (fun vs H Q E h => ?_) (fun cdv A outer s H vs Q E hr h => ?_)
  · obtain ⟨v, u, qs, rs, x, y, c, e, rfl, _⟩ := h
    rfl
  · obtain ⟨v, u, qs, rs, x, y, c, e, rfl, ⟨l, ws, rfl, hl, al⟩, ⟨l', ws', rfl, hl', al'⟩, d0, ld, cq, cr, x0, y0, b1, b2, c9, e9, l2, l2', kk⟩ := h
    have hr1 : Room 1 _ := hr.mono (by decide)
    have lenX {i : Nat} : True := trivial
    refine ⟨_, pss_cons (ps_par (i := 2) (j := 3) rfl sc56.nd rfl rfl (by decide) rfl rfl (pa_cons (pe_callTy call_list_of (by rfl) T.blt.list boot_tlist (pa_cons (pv 0) pa_nil)) (pa_cons (pe_op op_rep (pe_lst (pa_cons (pe_tup (pa_cons pe_int (pa_cons pe_int pa_nil))) pa_nil))
          (pe_callB (cr_max rfl) (by rfl) T.mMax boot_max2 (pa_cons (pe_lst (pa_cons pe_int (pa_cons (pe_op op_add (pe_op op_sub (pe_callB call_len_seq (by rfl) T.blt.len PySem.boot_len (pa_cons (pv 0) pa_nil)) (pe_callB call_len_seq (by rfl) T.blt.len PySem.boot_len (pa_cons (pv 1) pa_nil))) pe_int) pa_nil))) pa_nil))) pa_nil)) (by rfl))
      (pss_cons (ps_for PassesOwn.never rfl (pi_range3 rfl T.blt.range (pa_cons (pe_op op_sub (pe_callB call_len_seq (by rfl) T.blt.len PySem.boot_len (pa_cons (pv 0) pa_nil)) (pe_callB call_len_seq (by rfl) T.blt.len PySem.boot_len (pa_cons (pv 1) pa_nil))) (pa_cons (pe_un un_neg pe_int) (pa_cons (pe_un un_neg pe_int) pa_nil)))) (pg_name (i := 4) sc56.nd rfl (.inl rfl))
        (pss_cons (ps_set (i := 5) sc56.nd rfl (.inl rfl) (T.l_share.c0 G1 hr (pa_cons (pe_ix ix_list (pv 2) (pe_op op_sub (pe_op op_add (pv 4) (pe_callB call_len_seq (by rfl) T.blt.len PySem.boot_len (pa_cons (pv 1) pa_nil))) pe_int) (fun _ _ => rfl)) (pa_cons (pe_ix ix_list (pv 1) (pe_un un_neg pe_int) (fun _ _ => rfl)) pa_nil))))
        (pss_cons (ps_asg (pv 5) (pg_sub (pv 3) (pv 4) set_list (fun _ => rfl)))
        (pss_one (ps_for PassesOwn.never rfl (pi_range1 rfl T.blt.range (pa_cons (pe_callB call_len_seq (by rfl) T.blt.len PySem.boot_len (pa_cons (pv 1) pa_nil)) pa_nil)) (pg_name (i := 6) sc56.nd rfl (.inl rfl))
          (pss_one (ps_asg (T.l_minus.c0 G3 hr (pa_cons (pe_ix ix_list (pv 2) (pe_op op_add (pv 4) (pv 6)) (fun _ _ => rfl)) (pa_cons (T.l_times.c0 G2 hr (pa_cons (pv 5) (pa_cons (pe_ix ix_list (pv 1) (pv 6) (fun _ _ => rfl)) pa_nil))) pa_nil))) (pg_sub (pv 2) (pe_op op_add (pv 4) (pv 6)) set_list (fun _ => rfl)))))))))
      (pss_one (ps_ret (pe_tup (pa_cons (T.l_poly.c0 G0 hr1 (pa_cons (pv 3) pa_nil)) (pa_cons (T.l_poly.c0 G0 hr1 (pa_cons (pv 2) pa_nil)) pa_nil)))))), ?_⟩
    have la := al.1
    have la' := al'.1
    -- rest
    refine ⟨_, rfl, l, ws, rfl, .inl (SqL.of hl), fun rr nrr => ?_⟩
    have s1 := Same.new (o := .lst ws) nrr
    have er : upd H rr (.lst ws) rr = some (.lst ws) := upd_same
    generalize upd H rr (.lst ws) = H1 at s1 er
    -- quotient
    refine ⟨(by show 2 ≤ sizeLine; decide), fun z nz => ?_⟩
    have t2 := Same.new (o := .tup [.int 0, .int 1]) nz
    have ez : RV K (upd H1 z (.tup [.int 0, .int 1])) (.ref z) 0 := rv_zero (SqT.of upd_same)
    generalize upd H1 z (.tup [.int 0, .int 1]) = H2 at t2 ez
    refine ⟨(by show 1 ≤ sizeLine; decide), fun p np => ?_⟩
    have t3' := Same.new (o := .lst [.ref z]) np
    have ep : upd H2 p (.lst [.ref z]) p = some (.lst [.ref z]) := upd_same
    have t3 := t2.trans t3'
    have ez3 := ez.same t3'
    generalize upd H2 p (.lst [.ref z]) = H3 at ep t3 ez3
    refine ⟨_, rfl, l, ws, rfl, .inl (SqL.of (t3 _ _ (s1 _ _ hl))), _, rfl, l', ws', rfl, .inl (SqL.of (t3 _ _ (s1 _ _ hl'))), _, _, rfl, rfl, _, _, rfl, rfl, (by show 2 ≤ sizeLine; decide), fun yy ny => ?_⟩
    have t4' := Same.new (o := .lst [.int 0, .int (((ws.length : Nat) : Int) - ((ws'.length : Nat) : Int) + 1)]) ny
    have ey : upd H3 yy (.lst [.int 0, .int (((ws.length : Nat) : Int) - ((ws'.length : Nat) : Int) + 1)]) yy = some (.lst [.int 0, .int (((ws.length : Nat) : Int) - ((ws'.length : Nat) : Int) + 1)]) := upd_same
    have t4 := t3.trans t4'
    have ep4 := t4' _ _ ep
    have ez4 := ez3.same t4'
    generalize upd H3 yy (.lst [.int 0, .int (((ws.length : Nat) : Int) - ((ws'.length : Nat) : Int) + 1)]) = H4 at ey t4 ep4 ez4
    refine ⟨yy, [0, ((ws.length : Nat) : Int) - ((ws'.length : Nat) : Int) + 1], rfl, SqL.of ey, (by show 0 < 2; decide), fun mx mem all => ?_⟩
    have em : mx = ((qs.length + 1 - rs.length : Nat) : Int) := by
      have h1 := all 0 (by simp)
      have h2 := all (((ws.length : Nat) : Int) - ((ws'.length : Nat) : Int) + 1) (by simp)
      simp only [List.mem_cons, List.not_mem_nil, or_false] at mem
      omega
    subst em
    generalize hN : qs.length + 1 - rs.length = N at kk b2
    refine ⟨p, _, _, rfl, rfl, ep4, by omega, by omega, ?_, fun qo nqo => ?_⟩
    · have tn : (((N : Nat) : Int)).toNat = N := rfl
      rw [tn]
      show 1 * N ≤ sizeLine
      rw [sizeLine_eq]
      omega
    have tn : (((N : Nat) : Int)).toNat = N := rfl
    rw [tn]
    have t5' := Same.new (o := .lst (List.replicate N [V.ref z]).flatten) nqo
    have eqo : upd H4 qo (.lst (List.replicate N [V.ref z]).flatten) qo = some (.lst (List.replicate N [V.ref z]).flatten) := upd_same
    have t5 := t4.trans t5'
    have s5 := s1.trans t5
    have aqo := al_rep (k := N) (ez4.same t5')
    rw [rep_upTo] at aqo
    have nqo0 : H qo = none := Kz.Same.none_of (s1.trans t4) nqo
    have er5 := t5 _ _ er
    have rq : rr ≠ qo := ne_of_none (t4 _ _ er) nqo
    generalize upd H4 qo (.lst (List.replicate N [V.ref z]).flatten) = H5 at eqo s5 aqo er5
    generalize (List.replicate N [V.ref z]).flatten = us at eqo aqo
    refine ⟨_, _, rfl, ?_⟩
    refine ⟨_, rfl, l, ws, rfl, .inl (SqL.of (s5 _ _ hl)), _, rfl, l', ws', rfl, .inl (SqL.of (s5 _ _ hl')), _, _, rfl, rfl, _, rfl, _, rfl, ?_⟩
    have en : (((ws.length : Nat) : Int) - ((ws'.length : Nat) : Int) - (-1)).toNat = N := by omega
    refine ⟨_, _, _, _, rfl, RgC.neg (i := ((ws.length : Nat) : Int) - ((ws'.length : Nat) : Int)) (j := -1) (by omega) (by omega) (by omega) (by omega), ?_⟩
    refine for_rangeC (lo := ((ws.length : Nat) : Int) - ((ws'.length : Nat) : Int)) (c := -1) (n := (((ws.length : Nat) : Int) - ((ws'.length : Nat) : Int) - (-1)).toNat) (fun j σ H' => j ≤ N ∧ ∃ v4 v5 v6 vr vq, σ = [some (.ref l), some (.ref l'), some (.ref rr), some (.ref qo), v4, v5, v6] ∧ H' rr = some (.lst vr) ∧ H' qo = some (.lst vq) ∧
      Al K H' vr (upTo qs.length (cf (dit rs j qs))) ∧ Al K H' vq (upTo N fun i => if N ≤ i + j then cf (dqs rs N qs) (N - 1 - i) else 0) ∧ Same H H') ⟨Nat.zero_le _, none, none, none, ws, us, rfl, er5, eqo, ?_, ?_, s5⟩ ?_ ?_
    · have : upTo qs.length (cf (dit rs 0 qs)) = qs := by
        refine List.ext_getElem? fun i => ?_
        rcases Nat.lt_or_ge i qs.length with lt | ge
        · rw [upTo_at lt, at_cf lt]
          rfl
        · rw [List.getElem?_eq_none (by rw [upTo_len]; exact ge), List.getElem?_eq_none ge]
      rw [this]
      exact al.same s5
    · have : (upTo N fun i => if N ≤ i + 0 then cf (dqs rs N qs) (N - 1 - i) else 0) = upTo N fun _ => 0 := upTo_ext fun i hi => if_neg (by omega)
      rw [this]
      exact aqo
    · rintro j σ H6 hj ⟨_, v4, v5, v6, vr, vq, rfl, hrr, hqo, ar, aq, s6⟩
      rw [en] at hj
      have kv : ((ws.length : Nat) : Int) - ((ws'.length : Nat) : Int) + ((j : Nat) : Int) * -1 = ((N - 1 - j : Nat) : Int) := by omega
      rw [kv]
      generalize hk : N - 1 - j = k
      have lj := dit_len (D := rs) j qs
      have cR := dit_cd cr ld j cq
      have bj1 : x + j * (c + 1) ≤ 30000 := by have := Nat.mul_le_mul_right (c + 1) (show j ≤ qs.length by omega); omega
      have bj2 : j * c ≤ N * c := Nat.mul_le_mul_right c (by omega)
      generalize hR : dit rs j qs = R at ar lj cR
      have kR : k + rs.length = R.length := by omega
      have lvr : vr.length = qs.length := ar.1.trans upTo_len
      have hlR : R.length - 1 < qs.length := by omega
      obtain ⟨vl, el, rl⟩ := ar.get (i := R.length - 1) (by rw [upTo_len]; exact hlR)
      rw [cf_at (upTo_at hlR)] at rl
      obtain ⟨vd, ed, rd⟩ := (al'.same s6).get (i := rs.length - 1) (by omega)
      have ix1 : ((k : Nat) : Int) + ((ws'.length : Nat) : Int) - 1 = ((R.length - 1 : Nat) : Int) := by omega
      refine ⟨_, rfl, _, rfl, _, rfl, l', ws', rfl, .inl (SqL.of (s6 _ _ hl')), _, _, rfl, rfl, _, _, rfl, rfl, rr, vr, _, vl, rfl, rfl, SqL.of hrr, (by rw [ix1]; exact atI_nat el), ?_⟩
      refine ⟨_, rfl, _, rfl, l', ws', _, vd, rfl, rfl, SqL.of (s6 _ _ hl'), atI_last (by rw [la']; exact ed), ?_⟩
      have zl : Sz (x + j * (c + 1)) (y + j * c) (cf R (R.length - 1)) := cR.sz _
      have zd : Sz c e (cf rs (rs.length - 1)) := cr.sz _
      refine ⟨vl, vd, _, _, _, _, c, e, rfl, rl.pq zl, rd.pq zd, ⟨by omega, by omega, ld⟩, fun vf H7 s7 rf => ?_⟩
      have s67 := s6.trans s7
      have zf : Sz (x + j * (c + 1) + e) (y + j * c + c) (dfac rs R) := div_sz zl zd ld
      have lvq : vq.length = N := aq.1.trans upTo_len
      have q7 := s7 _ _ hqo
      refine ⟨_, rfl, _, rfl, _, rfl, qo, vq, _, k, rfl, rfl, q7, (by rw [lvq]; exact ixN_nat (by omega)), ?_⟩
      have b8 : But qo H7 (upd H7 qo (.lst (vq.set k vf))) := But.refl.set
      have e8 : upd H7 qo (.lst (vq.set k vf)) qo = some (.lst (vq.set k vf)) := upd_same
      generalize upd H7 qo (.lst (vq.set k vf)) = H8 at b8 e8
      have s8 : Same H H8 := fun cc o ec => b8 _ _ (s67 _ _ ec) (ne_of_none ec nqo0)
      have r8 : H8 rr = some (.lst vr) := b8 _ _ (s7 _ _ hrr) rq
      have ar8 := Al.bear q7 b8 (ar.same s7)
      have rf8 : RV K H8 vf (dfac rs R) := (Al.bear q7 b8 (Al.snoc (Al.nil (H := H7)) rf)).2 0 vf _ rfl rfl
      have quo : (upTo N fun i => if N ≤ i + (j + 1) then cf (dqs rs N qs) (N - 1 - i) else 0) = (upTo N fun i => if N ≤ i + j then cf (dqs rs N qs) (N - 1 - i) else 0).set k (dfac rs R) := by
        rw [upTo_set]
        refine upTo_ext fun i hi => ?_
        by_cases ei : i = k
        · rw [if_pos ei, if_pos (by omega), ei, show N - 1 - k = j by omega]
          have : ∀ (n jj : Nat) (R0 : List Rat), jj < n → cf (dqs rs n R0) jj = dfac rs (dit rs jj R0) := by
            intro n
            induction n with
            | zero => intro jj R0 h; omega
            | succ n ih =>
              intro jj R0 h
              cases jj with
              | zero => rfl
              | succ jj => exact ih jj (dstep rs R0) (by omega)
          rw [this N j qs (by omega), hR]
        · rw [if_neg ei]
          by_cases ci : N ≤ i + j
          · rw [if_pos ci, if_pos (by omega)]
          · rw [if_neg ci, if_neg (by omega)]
      have aq8 : Al K H8 (vq.set k vf) (upTo N fun i => if N ≤ i + (j + 1) then cf (dqs rs N qs) (N - 1 - i) else 0) := by
        rw [quo]
        exact (Al.bear q7 b8 (aq.same s7)).set rf8
      refine ⟨_, rfl, l', ws', rfl, .inl (SqL.of (s8 _ _ hl')), ((ws'.length : Nat) : Int), rfl, by omega, by omega, ?_⟩
      refine for_range (lo := 0) (n := ((ws'.length : Nat) : Int).toNat) (fun i σ H' => i ≤ rs.length ∧ ∃ v6 vr, σ = [some (.ref l), some (.ref l'), some (.ref rr), some (.ref qo), some (.int ((k : Nat) : Int)), some vf, v6] ∧ H' rr = some (.lst vr) ∧ H' qo = some (.lst (vq.set k vf)) ∧
        Al K H' vr (upTo qs.length fun t => if k ≤ t ∧ t < k + i then cf R t - dfac rs R * cf rs (t - k) else cf R t) ∧ Al K H' (vq.set k vf) (upTo N fun i => if N ≤ i + (j + 1) then cf (dqs rs N qs) (N - 1 - i) else 0) ∧ RV K H' vf (dfac rs R) ∧ Same H H')
        ⟨Nat.zero_le _, v6, vr, rfl, r8, e8, ?_, aq8, rf8, s8⟩ ?_ ?_
      · have : (upTo qs.length fun t => if k ≤ t ∧ t < k + 0 then cf R t - dfac rs R * cf rs (t - k) else cf R t) = upTo qs.length (cf R) := upTo_ext fun t _ => if_neg (by omega)
        rw [this]
        exact ar8
      · rintro i σ H9 hi ⟨_, v6, vr, rfl, h9, q9, a9, aq9, f9, s9⟩
        have hi' : i < rs.length := by
          have : i < ws'.length := hi
          omega
        have e0' : (0 : Int) + ((i : Nat) : Int) = ((i : Nat) : Int) := Int.zero_add _
        have ek : ((k : Nat) : Int) + ((i : Nat) : Int) = ((k + i : Nat) : Int) := by omega
        rw [e0']
        have kil : k + i < qs.length := by omega
        obtain ⟨vi, ei, ri⟩ := a9.get (i := k + i) (by rw [upTo_len]; exact kil)
        rw [cf_at (upTo_at kil), if_neg (by omega)] at ri
        obtain ⟨vk, ekk, rk⟩ := (al'.same s9).get hi'
        have lv9 : vr.length = qs.length := a9.1.trans upTo_len
        refine ⟨_, rfl, _, rfl, _, rfl, _, _, rfl, rfl, rr, vr, _, vi, rfl, rfl, SqL.of h9, (by rw [ek]; exact atI_nat ei), ?_⟩
        refine ⟨_, rfl, _, rfl, _, rfl, l', ws', _, vk, rfl, rfl, SqL.of (s9 _ _ hl'), atI_nat ekk, ?_⟩
        refine ⟨vf, vk, _, _, _, _, c, e, rfl, f9.pq zf, rk.pq (cr.sz i), ⟨by omega, by omega⟩, fun vm H10 s10 rm => ?_⟩
        refine ⟨vi, vm, _, _, _, _, _, _, rfl, (ri.same s10).pq (cR.sz _), rm.pq (mul_sz zf (cr.sz i)), ⟨by omega, by omega⟩, fun vn H11 s11 rn => ?_⟩
        have s1011 := s10.trans s11
        have h11 := s1011 _ _ h9
        refine ⟨_, rfl, _, rfl, _, rfl, _, _, rfl, rfl, rr, vr, _, k + i, rfl, rfl, h11, (by rw [ek, lv9]; exact ixN_nat kil), ?_⟩
        have b12 : But rr H11 (upd H11 rr (.lst (vr.set (k + i) vn))) := But.refl.set
        have e12 : upd H11 rr (.lst (vr.set (k + i) vn)) rr = some (.lst (vr.set (k + i) vn)) := upd_same
        generalize upd H11 rr (.lst (vr.set (k + i) vn)) = H12 at b12 e12
        have rows : (upTo qs.length fun t => if k ≤ t ∧ t < k + (i + 1) then cf R t - dfac rs R * cf rs (t - k) else cf R t) = (upTo qs.length fun t => if k ≤ t ∧ t < k + i then cf R t - dfac rs R * cf rs (t - k) else cf R t).set (k + i) (cf R (k + i) - dfac rs R * cf rs i) := by
          rw [upTo_set]
          refine upTo_ext fun t _ => ?_
          by_cases et : t = k + i
          · rw [if_pos et, et, if_pos (by omega), Nat.add_sub_cancel_left]
          · rw [if_neg et]
            by_cases ct : k ≤ t ∧ t < k + i
            · rw [if_pos ct, if_pos (by omega)]
            · rw [if_neg ct, if_neg (by omega)]
        refine ⟨hi', _, _, rfl, e12, b12 _ _ (s1011 _ _ q9) rq.symm, ?_, Al.bear h11 b12 (aq9.same s1011), (Al.bear h11 b12 (Al.snoc (Al.nil (H := H11)) (f9.same s1011))).2 0 vf _ rfl rfl, fun cc o ec => b12 _ _ (s1011 _ _ (s9 _ _ ec)) (ne_of_none ec nrr)⟩
        rw [rows]
        exact (Al.bear h11 b12 (a9.same s1011)).set ((Al.bear h11 b12 (Al.snoc (Al.nil (H := H11)) rn)).2 0 vn _ rfl rfl)
      · rintro σ H9 ⟨_, v6, vr, rfl, h9, q9, a9, aq9, f9, s9⟩
        have ew : ((ws'.length : Nat) : Int).toNat = rs.length := la'
        rw [ew] at a9
        refine ⟨by omega, _, _, _, vr, _, rfl, h9, q9, ?_, aq9, s9⟩
        have : (upTo qs.length fun t => if k ≤ t ∧ t < k + rs.length then cf R t - dfac rs R * cf rs (t - k) else cf R t) = upTo qs.length (cf (dit rs (j + 1) qs)) := upTo_ext fun t ht => by
          rw [dit_succ, hR]
          have kk' : R.length - rs.length = k := by omega
          rcases Nat.lt_or_ge t (R.length - 1) with lt | ge
          · unfold dstep
            rw [cf_at (upTo_at lt)]
            unfold dval
            rw [kk']
            by_cases ct : k ≤ t
            · rw [if_pos ct, if_pos (by omega)]
            · rw [if_neg ct, if_neg (by omega)]
          · rw [cf_out (qs := dstep rs R) (by rw [dstep_len]; exact ge)]
            rcases Nat.eq_or_lt_of_le ge with e1 | gt
            · rw [if_pos (by omega), ← e1, show R.length - 1 - k = rs.length - 1 by omega]
              unfold dfac
              rw [Rat.div_mul_cancel ld, Rat.sub_self]
            · rw [if_neg (by omega)]
              exact cf_out (by omega)
        rw [← this]
        exact a9
    · rintro σ H6 ⟨_, v4, v5, v6, vr, vq, rfl, hrr, hqo, ar, aq, s6⟩
      rw [en] at ar aq
      have e1 : (upTo N fun i => if N ≤ i + N then cf (dqs rs N qs) (N - 1 - i) else 0) = (dqs rs N qs).reverse := by
        have ldq := dqs_len (D := rs) N qs
        refine List.ext_getElem? fun i => ?_
        rcases Nat.lt_or_ge i N with lt | ge
        · rw [upTo_at lt, if_pos (by omega), List.getElem?_reverse (by omega), ldq, at_cf (by omega)]
        · rw [List.getElem?_eq_none (by rw [upTo_len]; exact ge), List.getElem?_eq_none (by rw [List.length_reverse, ldq]; exact ge)]
      rw [e1] at aq
      refine ⟨_, rfl, .ref qo, _, rfl, ⟨qo, vq, rfl, hqo, aq⟩, by rw [List.length_reverse, dqs_len]; omega, fun a H7 ts s7 lt tt ll et => ?_⟩
      refine ⟨_, rfl, .ref rr, _, rfl, ⟨rr, vr, rfl, s7 _ _ hrr, ar.same s7⟩, by rw [upTo_len]; omega, fun b H8 us' s8 lu tu lx eu => ?_⟩
      refine ⟨(by show 2 ≤ sizeLine; decide), fun tp ntp => ?_⟩
      have s9 := Same.new (o := .tup [a, b]) ntp
      refine kk tp a b _ ts us' (((s6.trans s7).trans s8).trans s9) (SqT.of upd_same) ((lt.same s8).same s9) (lu.same s9) tt tu (by rw [upTo_len] at lx; exact lx) et fun i => ?_
      rw [eu, upTo_cf]
      intro i hi
      exact dit_cf_zero (by omega)
end
end Kz
set_option linter.all false
set_option maxRecDepth 100000
set_option maxHeartbeats 4000000
namespace Kz
open PySem PySem.Spec PyProof.Rows L2
theorem divInt_one (k : Int) : Rat.divInt k 1 = (k : Rat) := by
  have e := Rat.num_divInt_den (k : Rat)
  rw [Rat.num_intCast, Rat.den_intCast] at e
  exact e
section
variable {P : Program} {w : World} {K : PySem.W.Frag} {mg : Str → Option Value} {base : Heap}
def spLsl (K : PySem.W.Frag) : Sp := fun vs H Q _ => ∃ v qs n m, vs = [v] ∧ LR K H v qs ∧ SzA n m qs ∧ n ≤ 300000 ∧ m ≤ 8000 ∧ qs.length ≤ 200 ∧
  ∀ x H' rs, Same H H' → LR K H' x rs → Tr rs → rs.length ≤ qs.length → (∀ i, cf rs i = cf qs (i + 1) * (((i + 1 : Nat) : Int) : Rat)) → Q x H'
abbrev nSl : List Str := ["_law_one", "_law_k"]
theorem sc54 : FnScope nSl ["_law_one"] (defScope (top 55)) := ⟨rfl, rfl, rfl, by decide +kernel, rfl, by decide +kernel, by decide +kernel⟩
theorem ok_lslope (T : Tv P K mg) : FnOk P w K mg base CX0 4 T.l_pslope.f T.l_pslope.fd ["_law_one"] (spLsl K) := by
  have G1 : FnOk P w K mg base CX0 1 T.l_poly.f T.l_poly.fd ["_law_numbers"] (spLpoly K) := ok_lpoly T
  have G2 : FnOk P w K mg base CX0 3 T.l_times.f T.l_times.fd ["_law_one", "_law_two"] (spL2 K cBin (fun q r => q * r)) := ok_ltimes T.toTy
  refine T.l_pslope.fn.ok sc54 (fun vs H Q E h => ?_) (fun cdv A outer s H vs Q E hr h => ?_)
  · obtain ⟨v, qs, n, m, rfl, _⟩ := h
    rfl
  · obtain ⟨v, qs, n, m, rfl, ⟨l, ws, rfl, hl, al⟩, zq, n3, m8, len, k⟩ := h
    refine ⟨_, pss_one (ps_ret (T.l_poly.c0 G1 (hr.mono (by decide)) (pa_cons (pe_lc (own := [("_law_k", 1)]) (g := gName 1) (tt := tYes) rfl sc54.nd (pi_range2 rfl T.blt.range (pa_cons pe_int (pa_cons (pe_callB call_len_seq (by rfl) T.blt.len PySem.boot_len (pa_cons (pv 0) pa_nil)) pa_nil))) (blkOk_by (own := [("_law_k", 1)]) (N := nSl) (sc := defScope (top 55)) (by decide +kernel))
      (fun _ _ _ _ _ => pg_name (i := 1) sc54.nd rfl (Or.inl rfl)) (fun _ _ _ _ _ => pts_nil) (fun _ _ _ _ _ => T.l_times.c0 G2 hr (pa_cons (pe_ix (r := rIxL K) ix_list (pv 0) (pv 1) (fun _ _ => rfl)) (pa_cons (pe_tup (pa_cons (pv 1) (pa_cons pe_int pa_nil))) pa_nil)))) pa_nil))), ?_⟩
    have la := al.1
    refine ⟨_, rfl, l, ws, rfl, .inl (SqL.of hl), _, _, rfl, ⟨by omega, by omega, by omega, by omega⟩, fun D hD => ?_⟩
    refine lc_mapR (lo := 1) (n := (((ws.length : Nat) : Int) - 1).toNat) (by omega) hD (fun i acc H' => Al K H' acc ((upTo (qs.length - 1) fun i => cf qs (i + 1) * (((i + 1 : Nat) : Int) : Rat)).take i)) bears_al Al.nil ?_ ?_
    · intro i lt acc H' Qk Z lg r s kk
      have lt' : i < qs.length - 1 := by omega
      obtain ⟨vi, ei, ri⟩ := (al.same s).get (i := i + 1) (by omega)
      have e1 : (1 : Int) + ((i : Nat) : Int) = ((i + 1 : Nat) : Int) := by omega
      rw [e1]
      refine ⟨rfl, ?_⟩
      dsimp only [tYes]
      refine iteT ⟨_, rfl, _, rfl, l, ws, _, vi, rfl, rfl, SqL.of (s _ _ hl), atI_nat ei, _, rfl, (by show 2 ≤ sizeLine; decide), fun z nz => ?_⟩
      have s2 := Same.new (o := .tup [.int ((i + 1 : Nat) : Int), .int 1]) nz
      have pz : PQ K (upd H' z (.tup [.int ((i + 1 : Nat) : Int), .int 1])) (.ref z) 10 1 (((i + 1 : Nat) : Int) : Rat) := ⟨z, _, 1, rfl, SqT.of upd_same, by decide, (divInt_one _).symm, by show i + 1 < 1024; omega, by decide⟩
      refine ⟨vi, .ref z, _, _, n, m, 10, 1, rfl, (ri.same s2).pq (zq _ (by omega)), pz, ⟨by omega, by omega⟩, fun v' H4 s4 rv => kk _ _ (s2.trans s4) ?_⟩
      show Al K H4 (acc ++ [v']) ((upTo (qs.length - 1) fun i => cf qs (i + 1) * (((i + 1 : Nat) : Int) : Rat)).take (i + 1))
      rw [take_snoc (upTo_at lt')]
      exact (Al.same (s2.trans s4) r).snoc rv
    · intro acc H' hacc lacc r s
      have en : (((ws.length : Nat) : Int) - 1).toNat = qs.length - 1 := by omega
      have r' : Al K H' acc ((upTo (qs.length - 1) fun i => cf qs (i + 1) * (((i + 1 : Nat) : Int) : Rat)).take (((ws.length : Nat) : Int) - 1).toNat) := r
      rw [en, List.take_of_length_le (by rw [upTo_len]; exact Nat.le_refl _)] at r'
      refine ⟨_, _, rfl, ⟨D, acc, rfl, hacc, r'⟩, by rw [upTo_len]; omega, fun x H2 rs s2 lr tr ll e => k x H2 rs (s.trans s2) lr tr (by rw [upTo_len] at ll; omega) fun i => ?_⟩
      rw [e, upTo_cf]
      intro i ge
      rw [cf_out (qs := qs) (by omega), Rat.zero_mul]
/-- the polynomial at start + step * x, from the last number on -/
def mvd (f : Nat → Rat) (N : Nat) (ln : Nat → Rat) : Nat → (Nat → Rat)
  | 0, _ => 0
  | j + 1, i => convN (j + 1) (mvd f N ln j) ln i + one0 (f (N - 1 - j)) i
/-- .. however many terms are counted -/
theorem convN_more {f g : Nat → Rat} {N M i : Nat} (h : N ≤ M) (z : ∀ k, N ≤ k → f k = 0) : convN M f g i = convN N f g i := by
  unfold convN
  induction M with
  | zero =>
    have : N = 0 := by omega
    subst this
    rfl
  | succ M ih =>
    rcases Nat.eq_or_lt_of_le h with e | lt
    · rw [e]
    · show sumTo M _ + (if M ≤ i then f M * g (i - M) else 0) = _
      rw [ih (by omega), z M (by omega)]
      split
      · rw [Rat.zero_mul]
        exact Rat.add_zero _
      · exact Rat.add_zero _
def spLmv (K : PySem.W.Frag) : Sp := fun vs H Q _ => ∃ v u t qs x y a b n m, vs = [v, u, t] ∧ LR K H v qs ∧ (∀ i, Sz x y (cf qs i)) ∧ RV K H u a ∧ RV K H t b ∧ Sz n m a ∧ Sz n m b ∧ 0 < n ∧ 0 < m ∧ 0 < x ∧ 0 < y ∧ qs.length ≤ 30 ∧ (qs.length + 1) * (n + m + m + x + y + 20) ≤ 20000 ∧ 1 + (qs.length + 1) * (m + m + y) ≤ 3900 ∧
  ∀ z H' rs, Same H H' → LR K H' z rs → Tr rs → rs.length ≤ qs.length → (∀ i, cf rs i = mvd (cf qs) qs.length (cf [a, b]) qs.length i) → Q z H'
abbrev nMv : List Str := ["_law_one", "_law_start", "_law_step", "_law_found", "_law_line", "_law_number"]
theorem sc55 : FnScope nMv ["_law_one", "_law_start", "_law_step"] (defScope (top 56)) := ⟨rfl, rfl, rfl, by decide +kernel, rfl, by decide +kernel, by decide +kernel⟩
theorem pair_cd {a b : Rat} {n m : Nat} (ha : Sz n m a) (hb : Sz n m b) (n0 : 0 < n) (m0 : 0 < m) {rs : List Rat} (e : ∀ i, cf rs i = cf [a, b] i) : CD (n + m) (m + m) rs := by
  refine ⟨a.den * b.den, Nat.mul_pos a.den_pos b.den_pos, by rw [Nat.pow_add]; exact Nat.mul_lt_mul'' ha.2 hb.2, fun i => ?_⟩
  rw [e]
  match i with
  | 0 =>
    refine ⟨a.num * (b.den : Int), wide_lt ha.1 (den_abs hb), ?_⟩
    show a = _
    rw [Int.natCast_mul, Rat.divInt_mul_right (Int.ne_of_gt (den_pos' b)), Rat.num_divInt_den]
  | 1 =>
    refine ⟨b.num * (a.den : Int), wide_lt hb.1 (den_abs ha), ?_⟩
    show b = _
    rw [Int.natCast_mul, Int.mul_comm (a.den : Int), Rat.divInt_mul_right (Int.ne_of_gt (den_pos' a)), Rat.num_divInt_den]
  | i + 2 => exact ⟨0, Nat.two_pow_pos _, by rw [Rat.zero_divInt]; exact cf_out (by simp)⟩
theorem one_cd {q : Rat} {n m : Nat} (h : Sz n m q) {rs : List Rat} (e : ∀ i, cf rs i = one0 q i) : CD n m rs := by
  refine ⟨q.den, q.den_pos, h.2, fun i => ?_⟩
  rw [e]
  cases i with
  | zero => exact ⟨q.num, h.1, (Rat.num_divInt_den q).symm⟩
  | succ i => exact ⟨0, Nat.two_pow_pos _, by rw [Rat.zero_divInt]; rfl⟩
theorem ok_lmoved (T : Tv P K mg) : FnOk P w K mg base CX0 5 T.l_pmoved.f T.l_pmoved.fd ["_law_one", "_law_start", "_law_step"] (spLmv K) := by
  have G0 : FnOk P w K mg base CX0 1 T.l_poly.f T.l_poly.fd ["_law_numbers"] (spLpoly K) := ok_lpoly T
  have G1 : FnOk P w K mg base CX0 4 T.l_pplus.f T.l_pplus.fd ["_law_one", "_law_two"] (spLpl K (fun a b => a + b)) := ok_lpplus T
  have G2 : FnOk P w K mg base CX0 4 T.l_ptimes.f T.l_ptimes.fd ["_law_one", "_law_two"] (spLtm K) := ok_ltm T
  refine T.l_pmoved.fn.ok sc55 (fun vs H Q E h => ?_) (fun cdv A outer s H vs Q E hr h => ?_)
  · obtain ⟨v, u, t, qs, x, y, a, b, n, m, rfl, _⟩ := h
    rfl
  · obtain ⟨v, u, t, qs, x, y, a, b, n, m, rfl, ⟨l, ws, rfl, hl, al⟩, zq, ra, rb, za, zb, n0, m0, x0, y0, len, b1, b2, k⟩ := h
    have hr1 : Room 1 _ := hr.mono (by decide)
    refine ⟨_, pss_cons (ps_par (i := 3) (j := 4) rfl sc55.nd rfl rfl (by decide) rfl rfl (pa_cons (pe_lst pa_nil) (pa_cons (T.l_poly.c0 G0 hr1 (pa_cons (pe_lst (pa_cons (pv 1) (pa_cons (pv 2) pa_nil))) pa_nil)) pa_nil)) (by rfl))
      (pss_cons (ps_for PassesOwn.never rfl (pi_list (pe_revL (pv 0))) (pg_name (i := 5) sc55.nd rfl (.inl rfl))
        (pss_one (ps_set (i := 3) sc55.nd rfl (.inl rfl) (T.l_pplus.c0 G1 hr (pa_cons (T.l_ptimes.c0 G2 hr (pa_cons (pv 3) (pa_cons (pv 4) pa_nil))) (pa_cons (T.l_poly.c0 G0 hr1 (pa_cons (pe_lst (pa_cons (pv 5) pa_nil)) pa_nil)) pa_nil))))))
      (pss_one (ps_ret (pv 3)))), ?_⟩
    have la := al.1
    refine ⟨(by show 0 ≤ sizeLine; decide), fun f0 nf0 => ?_⟩
    have s1 := Same.new (o := .lst []) nf0
    have e1 : upd H f0 (.lst []) f0 = some (.lst []) := upd_same
    generalize upd H f0 (.lst []) = H1 at s1 e1
    refine ⟨_, rfl, _, rfl, (by show 2 ≤ sizeLine; decide), fun p np => ?_⟩
    have t2 := Same.new (o := .lst [u, t]) np
    have ep : upd H1 p (.lst [u, t]) p = some (.lst [u, t]) := upd_same
    have s2 := s1.trans t2
    have e2 := t2 _ _ e1
    generalize upd H1 p (.lst [u, t]) = H2 at ep s2 e2
    refine ⟨.ref p, [a, b], rfl, ⟨p, _, rfl, ep, (Al.nil.snoc (ra.same s2)).snoc (rb.same s2)⟩, by show 2 ≤ 1000; decide, fun ln H3 lns s3 lln tln lll eln => ?_⟩
    refine ⟨_, _, rfl, ?_⟩
    have s23 := s2.trans s3
    have cln := pair_cd za zb n0 m0 eln
    refine ⟨_, rfl, l, ws, rfl, SqL.of (s23 _ _ hl), fun rv nrv => ?_⟩
    have s4 := s23.trans (Same.new (o := .lst ws.reverse) nrv)
    have erv : upd H3 rv (.lst ws.reverse) rv = some (.lst ws.reverse) := upd_same
    have t34 := Same.new (o := .lst ws.reverse) nrv
    have e4 := t34 _ _ (s3 _ _ e2)
    have lln4 := lln.same t34
    generalize upd H3 rv (.lst ws.reverse) = H4 at s4 erv e4 lln4
    refine ⟨rv, rfl, ⟨_, SqL.of erv⟩, for_list (K := K) (a := rv) (xs := ws.reverse) (fun j σ H' => j ≤ qs.length ∧ ∃ fo v5 fs, σ = [some (.ref l), some u, some t, some fo, some ln, v5] ∧ LR K H' fo fs ∧ Tr fs ∧ fs.length ≤ j ∧ (∀ i, cf fs i = mvd (cf qs) qs.length (cf [a, b]) j i) ∧ CD (1 + j * (n + m + x + y + 20) + j * (1 + (qs.length + 1) * (m + m + y) + y)) (1 + j * (m + m + y)) fs ∧ Same H4 H')
      ⟨Nat.zero_le _, .ref f0, none, [], rfl, ⟨f0, [], rfl, e4, Al.nil⟩, (fun k e => by cases e), Nat.zero_le _, fun i => cf_out (Nat.zero_le _), ⟨1, by decide, by show 1 < 2 ^ (1 + 0 * _); rw [Nat.zero_mul]; decide, fun i => ⟨0, Nat.two_pow_pos _, by rw [Rat.zero_divInt]; exact cf_out (Nat.zero_le _)⟩⟩, Same.refl _⟩
      (fun j σ H' _ ⟨_, _, _, _, _, _, _, _, _, _, s⟩ => SqL.of (s _ _ erv)) ?_ ?_⟩
    · rintro j z σ H5 hz ⟨_, fo, v5, fs, rfl, lfo, tfs, lfs, efs, cfs, s5⟩
      have lt : j < qs.length := by
        have := (List.getElem?_eq_some_iff.mp hz).1
        rw [List.length_reverse, la] at this
        exact this
      rw [List.getElem?_reverse (by rw [la]; exact lt), la] at hz
      have s45 := s4.trans s5
      have rz := (al.2 _ z _ hz (at_cf (by omega))).same s45
      have zz := zq (qs.length - 1 - j)
      have m1 : (j + 1) * (m + m + y) ≤ qs.length * (m + m + y) := Nat.mul_le_mul_right _ lt
      have m2 : (j + 1) * (n + m + x + y + 20) ≤ qs.length * (n + m + x + y + 20) := Nat.mul_le_mul_right _ lt
      have m3 : (j + 1) * (1 + (qs.length + 1) * (m + m + y) + y) ≤ 30 * (3900 + 3900) := Nat.mul_le_mul (by omega) (by
        have : y ≤ (qs.length + 1) * (m + m + y) := by
          have := Nat.mul_le_mul (show 1 ≤ qs.length + 1 by omega) (show y ≤ m + m + y by omega)
          omega
        omega)
      have m4 : qs.length * (n + m + x + y + 20) ≤ (qs.length + 1) * (n + m + m + x + y + 20) := Nat.mul_le_mul (by omega) (by omega)
      have m5 : (qs.length + 1) * (m + m + y) = qs.length * (m + m + y) + (m + m + y) := Nat.succ_mul _ _
      rw [Nat.succ_mul] at m1 m2 m3
      have hn : n ≤ 20000 := by
        have := Nat.mul_le_mul (show 1 ≤ qs.length + 1 by omega) (show n ≤ n + m + m + x + y + 20 by omega)
        omega
      have hlns : lns.length ≤ 2 := lll
      have l45 := lln4.same s5
      have bj : (j + 1) * (m + m + y) = j * (m + m + y) + (m + m + y) := Nat.succ_mul _ _
      refine ⟨_, rfl, _, rfl, fo, ln, fs, lns, _, _, n + m, m + m, rfl, lfo, l45, cfs, cln, by omega, by omega, by omega, by omega, by omega, by omega, by omega, by omega, fun tt H6 ts s6 ltt ttr tll ett => ?_⟩
      have cts := conv_cd cfs cln (by omega) ett
      refine ⟨_, rfl, (by show 1 ≤ sizeLine; decide), fun p2 np2 => ?_⟩
      have t7 := Same.new (o := .lst [z]) np2
      have s67 := s6.trans t7
      refine ⟨.ref p2, [cf qs (qs.length - 1 - j)], rfl, ⟨p2, _, rfl, upd_same, Al.nil.snoc (rz.same s67)⟩, by show 1 ≤ 1000; decide, fun uu H8 us s8 luu utr ull euu => ?_⟩
      have eus : ∀ i, cf us i = one0 (cf qs (qs.length - 1 - j)) i := fun i => by rw [euu, cf_one]
      have cus := one_cd zz eus
      have hus : us.length ≤ 1 := ull
      refine ⟨tt, uu, ts, us, _, _, _, _, rfl, (ltt.same t7).same s8, luu, cts.szA, cus.szA, by omega, by omega, by omega, by omega, by omega, by omega, by omega, by omega, fun vv H9 vs s9 lvv vtr vll evv => ?_⟩
      refine ⟨lt, vv, _, vs, rfl, lvv, vtr, by omega, fun i => ?_, ?_, s5.trans ((s67.trans s8).trans s9)⟩
      · rw [evv, ett, eus]
        show convN fs.length (cf fs) (cf lns) i + _ = convN (j + 1) (mvd (cf qs) qs.length (cf [a, b]) j) (cf [a, b]) i + _
        rw [← convN_more (M := j + 1) (show fs.length ≤ j + 1 by omega) (fun k hk => cf_out hk), show cf fs = mvd (cf qs) qs.length (cf [a, b]) j from funext efs, show cf lns = cf [a, b] from funext eln]
      · have z1 := CD.both cts cus evv
        obtain ⟨M, M0, M1, hM⟩ := z1
        refine ⟨M, M0, Nat.lt_of_lt_of_le M1 (pow_up ?_), fun i => ?_⟩
        · omega
        · obtain ⟨w', hw, ew⟩ := hM i
          refine ⟨w', up_lt hw ?_, ew⟩
          have m6 : (j + 1) * (n + m + x + y + 20) = j * (n + m + x + y + 20) + (n + m + x + y + 20) := Nat.succ_mul _ _
          have m7 : (j + 1) * (1 + (qs.length + 1) * (m + m + y) + y) = j * (1 + (qs.length + 1) * (m + m + y) + y) + (1 + (qs.length + 1) * (m + m + y) + y) := Nat.succ_mul _ _
          omega
    · rintro σ H5 ⟨_, fo, v5, fs, rfl, lfo, tfs, lfs, efs, cfs, s5⟩
      rw [List.length_reverse, la] at efs lfs
      exact ⟨_, rfl, k fo H5 fs (s4.trans s5) lfo tfs lfs efs⟩
end
end Kz
set_option linter.all false
set_option maxRecDepth 100000
set_option maxHeartbeats 4000000
namespace Kz
open PySem PySem.Spec PyProof.Rows L2
theorem den_dvd {z : Int} {M : Nat} (h : 0 < M) : (Rat.divInt z (M : Int)).den ∣ M := by
  have e := low_den (a := z) (b := (M : Int)) (by omega)
  rw [Int.fdiv_eq_ediv_of_nonneg _ (Int.natCast_nonneg _), ← Int.natCast_ediv] at e
  have e' : (Rat.divInt z (M : Int)).den = M / (Nat.gcd z.natAbs M) := by
    have := Int.ofNat.inj e
    exact this.symm
  rw [e']
  exact Nat.div_dvd_of_dvd (Nat.gcd_dvd_right _ _)
theorem cd_lcs {x y : Nat} {qs : List Rat} (h : CD x y qs) : ∃ M, 0 < M ∧ M < 2 ^ y ∧ (∀ q ∈ qs, q.den ∣ M) ∧ ∀ i, ∃ z : Int, z.natAbs < 2 ^ x ∧ cf qs i = Rat.divInt z (M : Int) := by
  obtain ⟨M, m0, m1, hM⟩ := h
  refine ⟨M, m0, m1, fun q hq => ?_, hM⟩
  obtain ⟨i, e⟩ := List.getElem?_of_mem hq
  obtain ⟨z, _, ez⟩ := hM i
  rw [cf_at e] at ez
  rw [ez]
  exact den_dvd m0
theorem lcs_take_dvd {qs : List Rat} {M : Nat} (h : ∀ q ∈ qs, q.den ∣ M) (i : Nat) : lcs (qs.take i) ∣ M := lcs_min _ fun q hq => h q (List.mem_of_mem_take hq)
/-- the numbers above the least bottom are no longer than those above another one -/
theorem top_lt {x M : Nat} {q : Rat} {L : Nat} {z : Int} (hz : z.natAbs < 2 ^ x) (e : q = Rat.divInt z (M : Int)) (dL : q.den ∣ L) (LM : L ∣ M) (M0 : 0 < M) : (topOf L q).natAbs < 2 ^ x := by
  obtain ⟨c, rfl⟩ := LM
  have h1 := topOf_eq dL
  have L0 : (L : Rat) ≠ 0 := fun z => by
    have := Rat.natCast_eq_zero_iff.mp z
    rw [this, Nat.zero_mul] at M0
    omega
  have c0 : 0 < c := Nat.pos_of_ne_zero fun z => by rw [z, Nat.mul_zero] at M0; omega
  have cq : (c : Rat) ≠ 0 := fun z => by have := Rat.natCast_eq_zero_iff.mp z; omega
  have h2 : ((topOf L q * (c : Int) : Int) : Rat) = (z : Rat) := by
    rw [Rat.intCast_mul, h1, e, Rat.divInt_eq_div, Rat.intCast_natCast, Rat.intCast_natCast, Rat.natCast_mul]
    grind
  have h3 : topOf L q * (c : Int) = z := Rat.intCast_inj.mp h2
  have h4 : (topOf L q).natAbs * c = z.natAbs := by
    rw [← h3, Int.natAbs_mul]
    rfl
  have h5 : (topOf L q).natAbs * 1 ≤ (topOf L q).natAbs * c := Nat.mul_le_mul_left _ c0
  omega
theorem ne_nil_dec (qs : List Rat) : (!PyData.eqv (pdR qs) (pdR [])) = !decide (qs = []) := by rw [pdR_nil]
section
variable {P : Program} {w : World} {K : PySem.W.Frag} {mg : Str → Option Value} {base : Heap}
def spLplain (K : PySem.W.Frag) : Sp := fun vs H Q _ => ∃ v qs n m, vs = [v] ∧ LR K H v qs ∧ Tr qs ∧ SzA n m qs ∧ n ≤ 4000 ∧ m ≤ 4000 ∧ 0 < n ∧ 0 < m ∧ qs.length ≤ 200 ∧
  ∀ x H' rs, Same H H' → LR K H' x rs → Tr rs → (∀ i, cf rs i = cf qs i * (1 / cf qs (qs.length - 1))) → Q x H'
abbrev nPn : List Str := ["_law_one"]
theorem sc57 : FnScope nPn ["_law_one"] (defScope (top 58)) := ⟨rfl, rfl, rfl, by decide +kernel, rfl, by decide +kernel, by decide +kernel⟩
theorem ok_lplain (T : Tv P K mg) : FnOk P w K mg base CX0 5 T.l_pplain.f T.l_pplain.fd ["_law_one"] (spLplain K) := by
  have G1 : FnOk P w K mg base CX0 4 T.l_pscaled.f T.l_pscaled.fd ["_law_one", "_law_by"] (spLsc K) := ok_lscaled T
  have G2 : FnOk P w K mg base CX0 3 T.l_share.f T.l_share.fd ["_law_one", "_law_two"] (spL2 K cShr (fun q r => q / r)) := ok_lshare T.toTy
  refine T.l_pplain.fn.ok sc57 (fun vs H Q E h => ?_) (fun cdv A outer s H vs Q E hr h => ?_)
  · obtain ⟨v, qs, n, m, rfl, _⟩ := h
    rfl
  · obtain ⟨v, qs, n, m, rfl, ⟨l, ws, rfl, hl, al⟩, tq, zq, n4, m4, n0, m0, len, k⟩ := h
    have hu := hr.units
    refine ⟨_, pss_one (ps_ret (pe_ifExp (pt_cmpR (op_neD hu) (pv 0) (pe_lst pa_nil) (nomark _)) (T.l_pscaled.c0 G1 hr (pa_cons (pv 0) (pa_cons (T.l_share.c0 G2 (hr.mono (by decide)) (pa_cons (pe_tup (pa_cons pe_int (pa_cons pe_int pa_nil))) (pa_cons (pe_ix ix_list (pv 0) (pe_un un_neg pe_int) (fun _ _ => rfl)) pa_nil))) pa_nil))) (pv 0))), ?_⟩
    refine ⟨_, rfl, (by show 0 ≤ sizeLine; decide), fun z nz => ?_⟩
    have s1 := Same.new (o := .lst []) nz
    have ez : upd H z (.lst []) z = some (.lst []) := upd_same
    generalize upd H z (.lst []) = H1 at s1 ez
    have al1 := al.same s1
    refine ⟨pdR qs, pdR [], .lst (SqL.of (s1 _ _ hl)) al1.dp, .lst (SqL.of ez) .nil, pdR_shaped qs, pdR_shaped [], _, rfl, ?_⟩
    rw [ne_nil_dec]
    by_cases e0 : qs = []
    · refine iteNS e0 ?_
      refine ⟨_, rfl, k (.ref l) H1 qs s1 ⟨l, ws, rfl, s1 _ _ hl, al1⟩ tq fun i => ?_⟩
      rw [e0]
      show (0 : Rat) = 0 * _
      rw [Rat.zero_mul]
    · rw [decide_eq_false e0]
      have l0 : 0 < qs.length := List.length_pos_iff.mpr e0
      have ln : cf qs (qs.length - 1) ≠ 0 := tq _ (by omega)
      refine iteT ⟨_, rfl, ?_⟩
      refine ⟨(by show 2 ≤ sizeLine; decide), fun o no => ?_⟩
      have s2 := s1.trans (Same.new (o := .tup [.int 1, .int 1]) no)
      have po : PQ K (upd H1 o (.tup [.int 1, .int 1])) (.ref o) 1 1 1 := ⟨o, 1, 1, rfl, SqT.of upd_same, by decide, by decide +kernel, by decide, by decide⟩
      generalize upd H1 o (.tup [.int 1, .int 1]) = H2 at s2 po
      obtain ⟨vl, el, rl⟩ := (al.same s2).get (i := qs.length - 1) (by omega)
      refine ⟨_, rfl, _, rfl, l, ws, _, vl, rfl, rfl, SqL.of (s2 _ _ hl), atI_last (by rw [al.1]; exact el), ?_⟩
      refine ⟨.ref o, vl, 1, _, 1, 1, n, m, rfl, po, rl.pq (zq _ (by omega)), ⟨by omega, by omega, ln⟩, fun v1 H3 s3 r1 => ?_⟩
      have z1 : Sz (1 + m) (1 + n) (1 / cf qs (qs.length - 1)) := div_sz ⟨by decide, by decide⟩ (zq _ (by omega)) ln
      have s23 := s2.trans s3
      exact ⟨.ref l, v1, qs, n, m, _, _, _, rfl, ⟨l, ws, rfl, s23 _ _ hl, al.same s23⟩, zq, r1.pq z1, by omega, by omega, by omega, fun x H4 rs s4 lr tr ll e => k x H4 rs (s23.trans s4) lr tr e⟩
/-- a row above its least bottom, and without a common divisor -/
def shf (qs : List Rat) (i : Nat) : Rat := cf qs i * Rat.divInt ((lcs qs : Nat) : Int) ((gI (topsOf qs) : Nat) : Int)
def spLsh (K : PySem.W.Frag) : Sp := fun vs H Q _ => ∃ v qs x y, vs = [v] ∧ LR K H v qs ∧ Tr qs ∧ CD x y qs ∧ 0 < x ∧ 0 < y ∧ x + y ≤ 8900 ∧ qs.length ≤ 200 ∧
  ∀ t H' rs, Same H H' → LR K H' t rs → Tr rs → rs.length ≤ qs.length → (∀ i, cf rs i = shf qs i) → Q t H'
abbrev nSh : List Str := ["_law_one", "_law_bottom", "_law_most", "_law_number"]
theorem sc58 : FnScope nSh ["_law_one"] (defScope (top 59)) := ⟨rfl, rfl, rfl, by decide +kernel, rfl, by decide +kernel, by decide +kernel⟩
theorem ok_lshort (T : Tv P K mg) : FnOk P w K mg base CX0 5 T.l_pshort.f T.l_pshort.fd ["_law_one"] (spLsh K) := by
  have G1 : FnOk P w K mg base CX0 4 T.l_pscaled.f T.l_pscaled.fd ["_law_one", "_law_by"] (spLsc K) := ok_lscaled T
  have G2 : FnOk P w K mg base CX0 1 T.l_gcd.f T.l_gcd.fd ["_law_one", "_law_two"] spGcd := ok_lgcd T.toTy
  refine T.l_pshort.fn.ok sc58 (fun vs H Q E h => ?_) (fun cdv A outer s H vs Q E hr h => ?_)
  · obtain ⟨v, qs, x, y, rfl, _⟩ := h
    rfl
  · obtain ⟨v, qs, x, y, rfl, ⟨l, ws, rfl, hl, al⟩, tq, cq, x0, y0, b1, len, k⟩ := h
    have hu := hr.units
    have hr1 : Room 1 _ := hr.mono (by decide)
    refine ⟨_, pss_cons (ps_asg (pe_tup (pa_cons pe_int (pa_cons pe_int pa_nil))) (pg_tup (by rfl) (pgs_cons (pg_name (i := 1) sc58.nd rfl (.inl rfl)) (pgs_cons (pg_name (i := 2) sc58.nd rfl (.inl rfl)) pgs_nil))))
      (pss_cons (ps_for PassesOwn.never rfl (pi_list (pv 0)) (pg_name (i := 3) sc58.nd rfl (.inl rfl))
        (pss_one (ps_set (i := 1) sc58.nd rfl (.inl rfl) (pe_op op_fdivF (pe_op op_mulW (pv 1) (pe_ix ix_tup (pv 3) pe_int (fun _ _ => rfl))) (T.l_gcd.c0 G2 hr1 (pa_cons (pv 1) (pa_cons (pe_ix ix_tup (pv 3) pe_int (fun _ _ => rfl)) pa_nil)))))))
      (pss_cons (ps_for PassesOwn.never rfl (pi_list (pv 0)) (pg_name (i := 3) sc58.nd rfl (.inl rfl))
        (pss_one (ps_set (i := 2) sc58.nd rfl (.inl rfl) (T.l_gcd.c0 G2 hr1 (pa_cons (pv 2) (pa_cons (pe_op op_mulW (pe_ix ix_tup (pv 3) pe_int (fun _ _ => rfl)) (pe_op op_fdivF (pv 1) (pe_ix ix_tup (pv 3) pe_int (fun _ _ => rfl)))) pa_nil))))))
      (pss_one (ps_ret (pe_ifExp (pt_cmpR (op_neD hu) (pv 0) (pe_lst pa_nil) (nomark _)) (T.l_pscaled.c0 G1 hr (pa_cons (pv 0) (pa_cons (pe_tup (pa_cons (pv 1) (pa_cons (pv 2) pa_nil))) pa_nil))) (pv 0)))))), ?_⟩
    obtain ⟨M, M0, M1, hd, hM⟩ := cd_lcs cq
    have la := al.1
    have lb : ∀ i, lcs (qs.take i) < 2 ^ y := fun i => Nat.lt_of_le_of_lt (Nat.le_of_dvd M0 (lcs_take_dvd hd i)) M1
    have lbq : lcs qs < 2 ^ y := by have := lb qs.length; rwa [List.take_length] at this
    refine ⟨(by show 2 ≤ sizeLine; decide), fun p0 np0 => ?_⟩
    have s0 := Same.new (o := .tup [.int 1, .int 0]) np0
    have e0 : SqT K (upd H p0 (.tup [.int 1, .int 0])) p0 [.int 1, .int 0] := SqT.of upd_same
    generalize upd H p0 (.tup [.int 1, .int 0]) = H0 at s0 e0
    refine ⟨p0, _, rfl, e0, rfl, _, _, rfl, _, _, rfl, rfl, ?_⟩
    have hl := s0 _ _ hl
    have al := al.same s0
    have k := fun t H' rs (s : Same H0 H') => k t H' rs (s0.trans s)
    refine ⟨_, rfl, l, rfl, ⟨_, SqL.of hl⟩, for_list (K := K) (a := l) (xs := ws) (fun i σ H' => H' = H0 ∧ ∃ v3, σ = [some (.ref l), some (.int ((lcs (qs.take i) : Nat) : Int)), some (.int 0), v3]) ⟨rfl, none, rfl⟩ (fun i σ H' _ ⟨e, _⟩ => e ▸ SqL.of hl) ?_ ?_⟩
    · rintro i z σ H' hz ⟨rfl, v3, rfl⟩
      have lt : i < qs.length := by
        have := (List.getElem?_eq_some_iff.mp hz).1
        omega
      obtain ⟨t, rfl, ht⟩ := al.2 i z _ hz (at_cf lt)
      have zi := cq.sz i
      have p0 := lcs_pos (qs.take i)
      have bi : (((lcs (qs.take i) : Nat) : Int)).natAbs < 2 ^ y := lb i
      refine ⟨_, rfl, _, rfl, t, _, _, _, rfl, rfl, ht, atI_nat (j := 1) rfl, _, _, rfl, rfl, cmulW bi (den_abs zi) (by omega), ?_⟩
      refine ⟨_, rfl, _, rfl, t, _, _, _, rfl, rfl, ht, atI_nat (j := 1) rfl, _, _, y, rfl, den_abs zi, by omega, ?_⟩
      have g0 : 0 < Nat.gcd (lcs (qs.take i)) (cf qs i).den := Nat.gcd_pos_of_pos_left _ p0
      have gl : Nat.gcd (lcs (qs.take i)) (cf qs i).den ≤ lcs (qs.take i) := Nat.gcd_le_left _ p0
      refine ⟨_, _, rfl, rfl, cdivF (by show ((Nat.gcd (lcs (qs.take i)) (cf qs i).den : Nat) : Int) ≠ 0; omega) (Nat.lt_of_lt_of_le (Nat.lt_of_le_of_lt gl (lb i)) (pow_up (by omega))), rfl, some (.ref t), ?_⟩
      rw [take_snoc (at_cf lt), lcs_snoc]
      have e : (((lcs (qs.take i) : Nat) : Int) * (((cf qs i).den : Nat) : Int)).fdiv (((Nat.gcd (((lcs (qs.take i) : Nat) : Int)).natAbs ((((cf qs i).den : Nat) : Int)).natAbs : Nat)) : Int) = ((Nat.lcm (lcs (qs.take i)) (cf qs i).den : Nat) : Int) := by
        rw [Int.fdiv_eq_ediv_of_nonneg _ (Int.natCast_nonneg _), ← Int.natCast_mul, ← Int.natCast_ediv]
        rfl
      show [some (V.ref l), some (V.int (Int.fdiv _ _)), some (V.int 0), some (V.ref t)] = _
      rw [e]
    · rintro σ H' ⟨rfl, v3, rfl⟩
      rw [la, List.take_length]
      refine ⟨_, rfl, l, rfl, ⟨_, SqL.of hl⟩, for_list (K := K) (a := l) (xs := ws) (fun i σ H2 => H2 = H' ∧ ∃ v3, σ = [some (.ref l), some (.int ((lcs qs : Nat) : Int)), some (.int ((gI ((topsOf qs).take i) : Nat) : Int)), v3]) ⟨rfl, v3, rfl⟩ (fun i σ H' _ ⟨e, _⟩ => e ▸ SqL.of hl) ?_ ?_⟩
      · rintro i z σ H2 hz ⟨rfl, v3, rfl⟩
        have lt : i < qs.length := by
          have := (List.getElem?_eq_some_iff.mp hz).1
          omega
        obtain ⟨t, rfl, ht⟩ := al.2 i z _ hz (at_cf lt)
        have zi := cq.sz i
        have dv : (((lcs qs : Nat) : Int)).fdiv (((cf qs i).den : Nat) : Int) = ((lcs qs / (cf qs i).den : Nat) : Int) := by
          rw [Int.fdiv_eq_ediv_of_nonneg _ (Int.natCast_nonneg _), ← Int.natCast_ediv]
        obtain ⟨zz, hzz, ezz⟩ := hM i
        have tl := top_lt hzz ezz (lcs_dvd qs _ (mem_cf lt)) (lcs_min qs hd) M0
        refine ⟨_, rfl, _, rfl, t, _, _, _, rfl, rfl, ht, atI_nat (j := 0) rfl, _, rfl, _, rfl, t, _, _, _, rfl, rfl, ht, atI_nat (j := 1) rfl, _, _, rfl, rfl, cdivF (Int.ne_of_gt (den_pos' _)) (up_lt (den_abs zi) (by omega)), _, _, rfl, rfl, ?_, ?_⟩
        · rw [dv]
          refine cmulW zi.1 (b := y) ?_ (by omega)
          exact Nat.lt_of_le_of_lt (Nat.div_le_self _ _) lbq
        · refine ⟨_, _, x, rfl, ?_, by omega, rfl, some (.ref t), ?_⟩
          · rw [dv]
            exact tl
          · rw [take_snoc (tops_get lt), gI_snoc]
            show [some (V.ref l), some (V.int ((lcs qs : Nat) : Int)), some (V.int ((Nat.gcd (((gI ((topsOf qs).take i) : Nat) : Int)).natAbs ((cf qs i).num * (((lcs qs : Nat) : Int)).fdiv (((cf qs i).den : Nat) : Int)).natAbs : Nat) : Int)), some (V.ref t)] = _
            rw [dv]
            rfl
      · rintro σ H2 ⟨rfl, v3, rfl⟩
        have lt : (topsOf qs).length = qs.length := List.length_map _
        rw [la, ← lt, List.take_length]
        refine ⟨_, rfl, (by show 0 ≤ sizeLine; decide), fun z nz => ?_⟩
        have s1 := Same.new (o := .lst []) nz
        have ez : upd H2 z (.lst []) z = some (.lst []) := upd_same
        generalize upd H2 z (.lst []) = H3 at s1 ez
        have al1 := al.same s1
        refine ⟨pdR qs, pdR [], .lst (SqL.of (s1 _ _ hl)) al1.dp, .lst (SqL.of ez) .nil, pdR_shaped qs, pdR_shaped [], _, rfl, ?_⟩
        rw [ne_nil_dec]
        by_cases e0 : qs = []
        · refine iteNS e0 ?_
          refine ⟨_, rfl, k (.ref l) H3 qs s1 ⟨l, ws, rfl, s1 _ _ hl, al1⟩ tq (Nat.le_refl _) fun i => ?_⟩
          unfold shf
          rw [e0]
          show (0 : Rat) = 0 * _
          rw [Rat.zero_mul]
        · rw [decide_eq_false e0]
          have l0 : 0 < qs.length := List.length_pos_iff.mpr e0
          have ln : cf qs (qs.length - 1) ≠ 0 := tq _ (by omega)
          have tn : topOf (lcs qs) (cf qs (qs.length - 1)) ≠ 0 := fun h => by
            have e := topOf_eq (lcs_dvd qs _ (mem_cf (show qs.length - 1 < qs.length by omega)))
            rw [h, Rat.intCast_zero] at e
            have lq : (lcs qs : Rat) ≠ 0 := fun z => by have := Rat.natCast_eq_zero_iff.mp z; have := lcs_pos qs; omega
            exact (Rat.mul_eq_zero.mp e.symm).elim ln lq
          have mt : topOf (lcs qs) (cf qs (qs.length - 1)) ∈ topsOf qs := List.mem_of_getElem? (tops_get (by omega))
          have g0 := gI_pos mt tn
          have gl := gI_le mt tn
          obtain ⟨zz, hzz, ezz⟩ := hM (qs.length - 1)
          have tl := top_lt hzz ezz (lcs_dvd qs _ (mem_cf (show qs.length - 1 < qs.length by omega))) (lcs_min qs hd) M0
          refine iteT ⟨_, rfl, _, rfl, _, rfl, (by show 2 ≤ sizeLine; decide), fun o no => ?_⟩
          have s2 := s1.trans (Same.new (o := .tup [.int ((lcs qs : Nat) : Int), .int ((gI (topsOf qs) : Nat) : Int)]) no)
          have po : PQ K (upd H3 o (.tup [.int ((lcs qs : Nat) : Int), .int ((gI (topsOf qs) : Nat) : Int)])) (.ref o) y x (Rat.divInt ((lcs qs : Nat) : Int) ((gI (topsOf qs) : Nat) : Int)) :=
            ⟨o, _, _, rfl, SqT.of upd_same, by omega, rfl, lbq, Nat.lt_of_le_of_lt gl tl⟩
          exact ⟨.ref l, .ref o, qs, x, y, y, x, _, rfl, ⟨l, ws, rfl, s2 _ _ hl, al.same s2⟩, cq.szA, po, by omega, by omega, by omega, fun t H4 rs s4 lr tr ll e => k t H4 rs (s2.trans s4) lr tr ll e⟩
end
end Kz
set_option linter.all false
set_option maxRecDepth 100000
set_option maxHeartbeats 4000000
namespace Kz
open PySem PySem.Spec PyProof.Rows L2
/-- the rows that the law's search for a common divisor goes through: t the rest, s the same made short -/
inductive RunQ : List Rat → List Rat → List Rat → Prop
  | done {r : List Rat} : RunQ r [] r
  | step {r d f : List Rat} {x y c e x' y' : Nat} (t s : List Rat) : CD x y r → CD c e d → 0 < x → 0 < y → x + r.length * (c + 1) ≤ 30000 → y + (r.length + 1 - d.length) * c + c + e + y + (r.length + 1 - d.length) * c ≤ 9000 → c ≤ 9000 → e ≤ 9000 → 0 < d.length → Tr d →
      Tr t → (∀ i, cf t i = cf (dit d (r.length + 1 - d.length) r) i) → CD x' y' t → 0 < x' → 0 < y' → x' + y' ≤ 8900 → Tr s → (∀ i, cf s i = shf t i) → RunQ d s f → RunQ r d f
section
variable {P : Program} {w : World} {K : PySem.W.Frag} {mg : Str → Option Value} {base : Heap}
def spLco (K : PySem.W.Frag) : Sp := fun vs H Q _ => ∃ v u qs rs f n m, vs = [v, u] ∧ LR K H v qs ∧ LR K H u rs ∧ qs.length ≤ 200 ∧ rs.length ≤ 199 ∧ RunQ qs rs f ∧ Tr f ∧ SzA n m f ∧ n ≤ 4000 ∧ m ≤ 4000 ∧ 0 < n ∧ 0 < m ∧
  ∀ t H' ts, Same H H' → LR K H' t ts → Tr ts → (∀ i, cf ts i = cf f i * (1 / cf f (f.length - 1))) → Q t H'
abbrev nLc : List Str := ["_law_one", "_law_two", "_law_lap"]
theorem sc59 : FnScope nLc ["_law_one", "_law_two"] (defScope (top 60)) := ⟨rfl, rfl, rfl, by decide +kernel, rfl, by decide +kernel, by decide +kernel⟩
theorem RunQ.len {r d f : List Rat} (h : RunQ r d f) (hr : r.length ≤ 200) (hd : d.length ≤ 200) : f.length ≤ 200 := by
  induction h with
  | done => exact hr
  | @step r d f _ _ _ _ _ _ t s _ _ _ _ _ _ _ _ d0 td tt et _ _ _ _ ts es _ ih =>
    refine ih hd ?_
    have h1 : t.length ≤ (dit d (r.length + 1 - d.length) r).length := tr_le tt et
    have h2 : s.length ≤ t.length := by
      rcases Nat.lt_or_ge t.length s.length with lt | ge
      · have := ts (s.length - 1) (by omega)
        rw [es] at this
        unfold shf at this
        rw [cf_out (by omega), Rat.zero_mul] at this
        exact absurd rfl this
      · exact ge
    rw [dit_len] at h1
    omega
theorem ok_lcommon (T : Tv P K mg) : FnOk P w K mg base CX0 6 T.l_pcommon.f T.l_pcommon.fd ["_law_one", "_law_two"] (spLco K) := by
  have G1 : FnOk P w K mg base CX0 4 T.l_pdivided.f T.l_pdivided.fd ["_law_one", "_law_two"] (spLdv K) := ok_ldv T
  have G2 : FnOk P w K mg base CX0 5 T.l_pshort.f T.l_pshort.fd ["_law_one"] (spLsh K) := ok_lshort T
  have G3 : FnOk P w K mg base CX0 5 T.l_pplain.f T.l_pplain.fd ["_law_one"] (spLplain K) := ok_lplain T
  refine T.l_pcommon.fn.ok sc59 (fun vs H Q E h => ?_) (fun cdv A outer s H vs Q E hr h => ?_)
  · obtain ⟨v, u, qs, rs, f, n, m, rfl, _⟩ := h
    rfl
  · obtain ⟨v, u, qs, rs, f, n, m, rfl, hq, hq', l2, l2', run, tf, zf, n4, m4, n0, m0, k⟩ := h
    have hu := hr.units
    refine ⟨_, pss_cons (ps_for PassesOwn.never rfl (pi_range1 rfl T.blt.range (pa_cons pe_int pa_nil)) (pg_name (i := 2) sc59.nd rfl (.inl rfl))
        (pss_cons (ps_if (pt_cmpR (op_eqD hu) (pv 1) (pe_lst pa_nil) (nomark _)) (pss_one ps_break) pss_nil)
        (pss_one (ps_par (i := 0) (j := 1) rfl sc59.nd rfl rfl (by decide) rfl rfl (pa_cons (pv 1) (pa_cons (T.l_pshort.c0 G2 hr (pa_cons (pe_ix ix_tup (T.l_pdivided.c0 G1 (hr.mono (by decide)) (pa_cons (pv 0) (pa_cons (pv 1) pa_nil))) pe_int (fun _ _ => rfl)) pa_nil)) pa_nil)) (by rfl)))))
      (pss_one (ps_ret (T.l_pplain.c0 G3 hr (pa_cons (pv 0) pa_nil)))), ?_⟩
    have last : ∀ (a : V) (r : List Rat) (H' : Hp), LR K H' a r → r = f → r.length ≤ 200 → Same H H' → spLplain K ([a] ++ []) H' Q (fun _ _ _ => False) := fun a r H' lr e ll s => by
      subst e
      exact ⟨a, r, n, m, rfl, lr, tf, zf, n4, m4, n0, m0, ll, fun x H2 ts s2 l3 t3 e3 => k x H2 ts (s.trans s2) l3 t3 e3⟩
    refine ⟨200, rfl, by decide, by decide, for_range (lo := 0) (n := 200) (fun i σ H' => ∃ a b v2 r d, σ = [some a, some b, v2] ∧ LR K H' a r ∧ LR K H' b d ∧ r.length ≤ 200 ∧ (d.length + i ≤ 199 ∨ d = []) ∧ d.length ≤ 199 ∧ RunQ r d f ∧ Same H H') ?_ ?_ ?_⟩
    · exact ⟨v, u, none, qs, rs, rfl, hq, hq', l2, .inl (by omega), l2', run, Same.refl _⟩
    · rintro i σ H1 hi ⟨a, b, v2, r, d, rfl, la, lb, lr, lm, ld, rn, s1⟩
      obtain ⟨bl, bv, rfl, hb, ab⟩ := id lb
      refine ⟨_, rfl, (by show 0 ≤ sizeLine; decide), fun z nz => ?_⟩
      have t2 := Same.new (o := .lst []) nz
      have ez : upd H1 z (.lst []) z = some (.lst []) := upd_same
      generalize upd H1 z (.lst []) = H2 at t2 ez
      have s2 := s1.trans t2
      refine ⟨pdR d, pdR [], .lst (SqL.of (t2 _ _ hb)) (ab.same t2).dp, .lst (SqL.of ez) .nil, pdR_shaped d, pdR_shaped [], _, rfl, ?_⟩
      rw [pdR_nil]
      cases rn with
      | done =>
        rw [decide_eq_true rfl]
        exact iteT ⟨_, rfl, last a f H2 (la.same t2) rfl lr s2⟩
      | @step _ _ _ x y c e x' y' t s cr cd x0 y0 b1 b2 c9 e9 d0 td tt et ct x0' y0' b3 ts es rn' =>
        have dn : d ≠ [] := fun z => by rw [z] at d0; cases d0
        rw [decide_eq_false dn]
        refine iteF ⟨_, rfl, _, rfl, _, rfl, a, .ref bl, r, d, x, y, c, e, rfl, la.same t2, lb.same t2, d0, td _ (by omega), cr, cd, x0, y0, b1, b2, c9, e9, lr, by omega, fun tp pa pb H3 qs' us s3 ht lp lu tp' tu lus eq' eu => ?_⟩
        have eut : us = t := tr_ext tu tt fun i => (eu i).trans (et i).symm
        subst eut
        have h1 : us.length ≤ (dit d (r.length + 1 - d.length) r).length := tr_le tt et
        rw [dit_len] at h1
        refine ⟨tp, _, _, _, rfl, rfl, ht, atI_nat (j := 1) rfl, pb, us, x', y', rfl, lu, tu, ct, x0', y0', b3, by omega, fun sv H4 ss s4 ls tss lss ess => ?_⟩
        have ess' : ss = s := tr_ext tss ts fun i => (ess i).trans (es i).symm
        subst ess'
        have lm' : d.length + i ≤ 199 := lm.elim id fun z => absurd z dn
        exact ⟨_, _, rfl, .ref bl, sv, _, d, ss, rfl, ((lb.same t2).same s3).same s4, ls, by omega, .inl (by omega), by omega, rn', (s2.trans s3).trans s4⟩
    · rintro σ H1 ⟨a, b, v2, r, d, rfl, la, lb, lr, lm, ld, rn, s1⟩
      have de : d = [] := lm.elim (fun h => by omega) id
      subst de
      cases rn with
      | done => exact ⟨_, rfl, last a f H1 la rfl lr s1⟩
      | step _ _ _ _ _ _ _ _ _ _ d0 => cases d0
end
end Kz
set_option linter.all false
set_option maxRecDepth 100000
set_option maxHeartbeats 4000000
namespace Kz
open PySem PySem.Spec PyProof.Rows L2
theorem PolyAt.tr {K : PySem.W.Frag} {cP : Addr} {H : Hp} {v : V} {qs : List Rat} (h : PolyAt K cP H v qs) : Tr qs := by
  obtain ⟨_, _, _, _, _, _, _, _, t⟩ := h
  exact t
theorem mvd_zero {f ln : Nat → Rat} {N : Nat} (h : ∀ i, 2 ≤ i → ln i = 0) : ∀ (j i : Nat), j ≤ i → mvd f N ln j i = 0
  | 0, _, _ => rfl
  | j + 1, i, hi => by
    have z : ∀ M, M ≤ j + 1 → sumTo M (fun k => if k ≤ i then mvd f N ln j k * ln (i - k) else 0) = 0 := by
      intro M hM
      induction M with
      | zero => rfl
      | succ M ih =>
        show sumTo M _ + (if M ≤ i then mvd f N ln j M * ln (i - M) else 0) = 0
        rw [ih (by omega), if_pos (by omega)]
        rcases Nat.eq_or_lt_of_le (show M ≤ j by omega) with e | lt
        · rw [e, mvd_zero h j j (Nat.le_refl _), Rat.zero_mul]
          exact Rat.add_zero 0
        · rw [h (i - M) (by omega), Rat.mul_zero]
          exact Rat.add_zero 0
    show convN (j + 1) (mvd f N ln j) ln i + one0 (f (N - 1 - j)) i = 0
    unfold convN
    rw [z _ (Nat.le_refl _)]
    unfold one0
    rw [if_neg (by omega)]
    exact Rat.add_zero 0
section
variable {P : Program} {w : World} {K : PySem.W.Frag} {mg : Str → Option Value} {base : Heap}
/-- the facts of built-in types for + and * -/
structure OpsT (K : PySem.W.Frag) : Prop where
  add : ∀ T, T = "int" ∨ T = "tuple" → OpT K .Add T
  sub : ∀ T, T = "int" ∨ T = "tuple" → OpT K .Sub T
  mul : ∀ T, T = "int" ∨ T = "tuple" → OpT K .Mult T
theorem Tw.apartL (T : Tw P K mg) : ∀ t, t = "int" ∨ t = "tuple" → PySem.W.subIn K (.type t) (.ref T.cP) = some false := fun t h => h.elim (fun e => e ▸ T.nI1) fun e => e ▸ T.nT1
theorem Tw.apartR (T : Tw P K mg) : ∀ t, t = "int" ∨ t = "tuple" → PySem.W.subIn K (.ref T.cP) (.type t) = some false := fun t h => h.elim (fun e => e ▸ T.nI2) fun e => e ▸ T.nT2
def spMv (K : PySem.W.Frag) (cP cN : Addr) : Sp := fun vs H Q E => ∃ p v u qs x y, vs = [p, v, u] ∧ PolyAt K cP H p qs ∧ (∀ i, Sz x y (cf qs i)) ∧ 0 < x ∧ 0 < y ∧ qs.length ≤ 8 ∧
  ((∃ a b n m, ArgQ K H v n m a ∧ ArgQ K H u n m b ∧ 0 < n ∧ 0 < m ∧ n ≤ 2000 ∧ x ≤ 2000 ∧ 1 + (qs.length + 1) * (m + m + y) ≤ 400 ∧
      ∀ z H' ts, Same H H' → PolyAt K cP H' z ts → (∀ i, cf ts i = mvd (cf qs) qs.length (cf [a, b]) qs.length i) → Q z H') ∨
   (Odd K H v ∧ ErN cN H E "start" v) ∨ ((∃ a n m, ArgQ K H v n m a ∧ m ≤ 9000) ∧ Odd K H u ∧ ErN cN H E "step" u))
abbrev nMo : List Str := ["self", "start", "step", "first", "by", "inner", "found", "number"]
theorem scP13 : FnScope nMo ["self", "start", "step"] (defScope (sP 13)) := ⟨rfl, rfl, rfl, by decide +kernel, rfl, by decide +kernel, by decide +kernel⟩
theorem ok_moved (T : Tw P K mg) (O : OpsT K) : FnOk P w K mg base (CX P w) 9 T.p_moved.f T.p_moved.fd ["self", "start", "step"] (spMv K T.cP T.cN) := by
  have G2 : FnOk P w K mg base (CX P w) 4 T.told.f T.told.fd ["value", "what"] (spTold K T.cN) := ok_told T.toTx
  have GA : FnOk P w K mg base CX0 8 T.p_add.f T.p_add.fd ["self", "other"] (spAr K T.cP cAdd (fun f _ g _ t => ∀ i, t i = f i + g i) (fun a b => max a b)) := ok_padd T.toTz
  have GM : FnOk P w K mg base CX0 8 T.p_mul.f T.p_mul.fd ["self", "other"] (spAr K T.cP cMul (fun f N g _ t => ∀ i, t i = convN N f g i) (fun a b => a + b)) := ok_pmul T.toTz
  refine T.p_moved.fn.okX scP13 (fun vs H Q E h => ?_) (fun cdv A outer s H vs Q E hr h => ?_)
  · obtain ⟨p, v, u, qs, x, y, rfl, _⟩ := h
    rfl
  · obtain ⟨p, v, u, qs, x, y, rfl, hp, zq, x0, y0, len, h⟩ := h
    have hr4 : Room 4 _ := hr.mono (by decide)
    have hr6 : Room 6 _ := hr.mono (by decide)
    have tk := takes_of (X := cxOf (CX P w) P w K mg base nMo "Poly.moved" (defScope (sP 13)) T.p_moved.f cdv A outer s H E) (E := E) rfl rfl rfl rfl
    refine ⟨_, pss_cons (ps_set (i := 3) scP13.nd rfl (.inl rfl) (T.told.cS G2 hr4 tk (pa_cons (pv 1) (pa_cons pe_str pa_nil))))
      (pss_cons (ps_set (i := 4) scP13.nd rfl (.inl rfl) (T.told.cS G2 hr4 tk (pa_cons (pv 2) (pa_cons pe_str pa_nil))))
      (pss_cons (ps_set (i := 5) scP13.nd rfl (.inl rfl) (T.cPoly hr6 (pa_cons (pe_tup (pa_cons (pv 3) (pa_cons (pv 4) pa_nil))) pa_nil)))
      (pss_cons (ps_set (i := 6) scP13.nd rfl (.inl rfl) (T.cPoly hr6 (pa_cons (pe_tup pa_nil) pa_nil)))
      (pss_cons (ps_for (passes_of rfl) rfl (RT.pi_revA (by rfl) T.mRev (pe_fld (pv 0) (by rfl))) (pg_name (i := 7) scP13.nd rfl (.inl rfl))
        (pss_one (ps_set (i := 6) scP13.nd rfl (.inl rfl) (pe_op (op_pv T.p_add GA T.sfP hr rfl T.p_radd.me.at_ (fun t ht => ⟨O.add t ht, T.apartL t ht⟩)) (pe_op (op_pp T.p_mul GM T.sfP hr rfl) (pv 6) (pv 5)) (pv 7)))))
      (pss_one (ps_ret (pv 6))))))), ?_⟩
    obtain ⟨a0, dx, t0, ws, rfl, ha, ht, al, tr⟩ := id hp
    rcases h with ⟨a, b, n, m, aq, bq, n0, m0, n2, x2, bnd, k⟩ | ⟨od, er⟩ | ⟨⟨a, n, m, aq, m9⟩, od, er⟩
    · have m4 : m + m + y ≤ 399 := by
        have := Nat.mul_le_mul_right (m + m + y) (show 1 ≤ qs.length + 1 by omega)
        omega
      refine ⟨_, rfl, _, _, rfl, .inl ⟨a, n, m, aq, by omega, fun v1 H1 s1 r1 => ?_⟩⟩
      refine ⟨_, rfl, _, _, rfl, .inl ⟨b, n, m, bq.same s1, by omega, fun v2 H2 s2 r2 => ?_⟩⟩
      have za := aq.sz
      have zb := bq.sz
      have s12 := s1.trans s2
      refine ⟨_, rfl, _, rfl, (by show 2 ≤ sizeLine; decide), fun tp ntp => ?_⟩
      have s3 := Same.new (o := .tup [v1, v2]) ntp
      have aa : Al K (upd H2 tp (.tup [v1, v2])) [v1, v2] [a, b] := (Al.nil.snoc ((r1.same s2).same s3)).snoc (r2.same s3)
      have zab : SzA n m [a, b] := fun i l => match i, l with
        | 0, _ => za
        | 1, _ => zb
        | i + 2, l => by
          have : i + 2 < 2 := l
          omega
      refine poly_made' (.inr (SqT.of upd_same)) (aa.arg zab) (by omega) (by show 2 ≤ 1000; decide) fun inn H4 lns s4 pin lln eln => ?_
      have hln : lns.length ≤ 2 := lln
      have cln := pair_cd za zb n0 m0 eln
      have s14 := (s12.trans s3).trans s4
      refine ⟨(by show 0 ≤ sizeLine; decide), fun te nte => ?_⟩
      have s5 := Same.new (o := .tup []) nte
      refine poly_made' (n := 1) (m := 1) (qs := []) (.inr (SqT.of upd_same)) ⟨rfl, fun i q r e1 e2 => by simp at e1⟩ (by decide) (by show 0 ≤ 1000; decide) fun fo0 H6 fs0 s6 pf0 lf0 ef0 => ?_
      have s16 := (s14.trans s5).trans s6
      have pin6 := (pin.same s5).same s6
      refine ⟨_, rfl, a0, T.cP, dx, _, _, rfl, s16 _ _ ha, T.clP, T.nP, lkN, t0, ws, rfl, .inr ⟨Kz.Same.seqT s16 ht, RT.for_ItvT (K := K) (a := t0) (xs := ws) (fun j σ H' => j ≤ qs.length ∧ ∃ fo v7 fs, σ = [some (.ref a0), some v, some u, some v1, some v2, some (.ref inn), some (.ref fo), v7] ∧ PolyAt K T.cP H' (.ref fo) fs ∧ fs.length ≤ j ∧ (∀ i, cf fs i = mvd (cf qs) qs.length (cf [a, b]) j i) ∧
        CD (1 + j * (n + m + x + y + 20) + j * (1 + (qs.length + 1) * (m + m + y) + y)) (1 + j * (m + m + y)) fs ∧ Same H6 H') ⟨Nat.zero_le _, fo0, none, fs0, rfl, pf0, lf0, fun i => by rw [ef0]; exact cf_out (Nat.zero_le _), ⟨1, by decide, by show 1 < 2 ^ (1 + 0 * _); rw [Nat.zero_mul]; decide, fun i => ⟨0, Nat.two_pow_pos _, by rw [Rat.zero_divInt, ef0]; exact cf_out (Nat.zero_le _)⟩⟩, Same.refl _⟩
        (fun j σ H' ⟨_, _, _, _, _, _, _, _, _, s⟩ => Kz.Same.seqT (s16.trans s) ht) ?_ ?_⟩⟩
      · rintro j z σ H7 hj hz ⟨_, fo, v7, fs, rfl, pf, lfs, efs, cfs, s7⟩
        have la := al.1
        rw [la] at hj hz
        have s17 := s16.trans s7
        have rz := (al.2 _ z _ hz (at_cf (by omega))).same s17
        have zz := zq (qs.length - 1 - j)
        have pin7 := pin6.same s7
        obtain ⟨fb, fdx, _, _, fe, hfo, _⟩ := id pf
        cases fe
        obtain ⟨ib, idx', _, _, ie, hin, _⟩ := id pin7
        cases ie
        have m1 : (j + 1) * (m + m + y) ≤ qs.length * (m + m + y) := Nat.mul_le_mul_right _ hj
        have m5 : (qs.length + 1) * (m + m + y) = qs.length * (m + m + y) + (m + m + y) := Nat.succ_mul _ _
        have m6 : (j + 1) * (n + m + x + y + 20) = j * (n + m + x + y + 20) + (n + m + x + y + 20) := Nat.succ_mul _ _
        have m7 : (j + 1) * (1 + (qs.length + 1) * (m + m + y) + y) = j * (1 + (qs.length + 1) * (m + m + y) + y) + (1 + (qs.length + 1) * (m + m + y) + y) := Nat.succ_mul _ _
        have m8 : j * (n + m + x + y + 20) ≤ 8 * 5000 := Nat.mul_le_mul (by omega) (by omega)
        have m9' : j * (1 + (qs.length + 1) * (m + m + y) + y) ≤ 8 * 1000 := Nat.mul_le_mul (by omega) (by omega)
        have bj : (j + 1) * (m + m + y) = j * (m + m + y) + (m + m + y) := Nat.succ_mul _ _
        have w1 : (1 + j * (m + m + y)) * fs.length ≤ 400 * 8 := Nat.mul_le_mul (by omega) (by omega)
        have w2 : (m + m) * 2 ≤ 800 := by omega
        refine ⟨_, rfl, _, rfl, ⟨fo, inn, fdx, idx', _, _, rfl, rfl, hfo, hin⟩, .ref fo, .ref inn, fs, cf lns, _, _, n + m, m + m, 2, rfl, pf, .inl ⟨lns, pin7, cln.szA, hln, fun _ => rfl⟩, cfs.szA, by omega, by omega, by omega, by omega, by omega, by decide, by omega, by omega, ⟨by omega, by omega, by omega⟩, fun uu H8 ts s8 pts ets lts => ?_⟩
        have cts := conv_cd cfs cln (by omega) ets
        obtain ⟨ub, udx, ut, uw, rfl, hub, ur⟩ := id pts
        obtain ⟨zt, rfl, hzt⟩ := rz.same s8
        have hL : ts.length ≤ fs.length + 2 := lts
        refine ⟨_, rfl, ⟨ub, udx, _, "tuple", rfl, hub, .inr ⟨rfl, zt, _, rfl, hzt⟩⟩, .ref ub, .ref zt, ts, one0 (cf qs (qs.length - 1 - j)), _, _, x, y, 1, rfl, pts, .inr ⟨_, (RV.arg ⟨zt, rfl, hzt⟩ zz), ⟨_, ty_tup hzt, by decide⟩, by decide, fun _ => rfl⟩, cts.szA, by omega, by omega, by omega, by omega, by omega, by decide, by omega, by omega, by unfold cAdd; omega, fun vv H9 vs s9 pvv evv lvv => ?_⟩
        · obtain ⟨vb, vdx, vt, vw, rfl, hvb, vr⟩ := id pvv
          have hl2 : vs.length ≤ max ts.length 1 := lvv
          have eq : ∀ i, cf vs i = mvd (cf qs) qs.length (cf [a, b]) (j + 1) i := fun i => by
            rw [evv, ets]
            show convN fs.length (cf fs) (cf lns) i + _ = convN (j + 1) (mvd (cf qs) qs.length (cf [a, b]) j) (cf [a, b]) i + _
            rw [← convN_more (M := j + 1) (show fs.length ≤ j + 1 by omega) (fun k hk => cf_out hk), show cf fs = mvd (cf qs) qs.length (cf [a, b]) j from funext efs, show cf lns = cf [a, b] from funext eln]
          refine ⟨hj, vb, _, vs, rfl, pvv, ?_, eq, ?_, (s7.trans s8).trans s9⟩
          · rcases Nat.lt_or_ge (j + 1) vs.length with lt | ge
            · have n1 := pvv.tr (vs.length - 1) (by omega)
              rw [eq, mvd_zero (fun i hi => cf_out (by show 2 ≤ i; exact hi)) (j + 1) _ (by omega)] at n1
              exact absurd rfl n1
            · exact ge
          · obtain ⟨M, M0, M1, hM⟩ := CD.both cts (one_cd (rs := [cf qs (qs.length - 1 - j)]) zz cf_one) (ts := vs) (fun i => by rw [evv, cf_one])
            refine ⟨M, M0, Nat.lt_of_lt_of_le M1 (pow_up (by omega)), fun i => ?_⟩
            obtain ⟨w', hw, ew⟩ := hM i
            exact ⟨w', up_lt hw (by omega), ew⟩
      · rintro σ H7 ⟨_, fo, v7, fs, rfl, pf, lfs, efs, cfs, s7⟩
        rw [al.1] at efs
        exact ⟨_, rfl, k (.ref fo) H7 fs (s16.trans s7) pf efs⟩
    · exact ⟨_, rfl, _, _, rfl, .inr ⟨od, er⟩⟩
    · refine ⟨_, rfl, _, _, rfl, .inl ⟨a, n, m, aq, m9, fun v1 H1 s1 r1 => ?_⟩⟩
      exact ⟨_, rfl, _, _, rfl, .inr ⟨od.same s1, er.after s1⟩⟩
end
end Kz
set_option linter.all false
set_option maxRecDepth 100000
set_option maxHeartbeats 4000000
/-! enumerate over a tuple. -/
namespace PySem.W
open PySem PySem.Calls PyProof.Rows
theorem kz_enumNew {v : Value} {o : Obj} {G : Heap → Prop} (B : Begins v o G) :
    Meets (Builtin.«enumerate.__new__» ⟨[.type "enumerate", v], []⟩) (fun _ R s => G s.heap ∧
      R (.ok (.ret (.ref (s.heap.push o).objs.size))) { s with heap := (s.heap.push o).push { cls := .type "enumerate", data := .fields #[.none, .bool false, .ref s.heap.objs.size, rawInt 0, .none, .none] } }) :=
  .of_wp fun prog w A R s both => by
    obtain ⟨hq, gq, dq, tq, oq⟩ := s
    obtain ⟨stands, goal⟩ := both
    have isSub := sub_enumerate
    have first : ∀ {A' : Around} {E : Value → Shared → Prop} {Q : Value → Shared → Prop}, Q (.ref hq.objs.size) ⟨hq.push o, gq, dq, tq, oq⟩ → wpAny (model prog w) A' (pyIter v) Q E ⟨hq, gq, dq, tq, oq⟩ :=
      fun q => B.iter prog w _ _ ⟨hq, gq, dq, tq, oq⟩ _ stands q
    wp_walk using first
    refine wpAny_stack_any fun st => wpAny_pure ?_
    split
    · rename_i cl _ _ _ _ _
      cases (cl == Value.type "enumerate")
      · wp_walk using first
        exact ⟨_, rfl, goal⟩
      · wp_walk using first
        exact ⟨_, rfl, goal⟩
    · wp_walk using first
      exact ⟨_, rfl, goal⟩
section
variable {prog : Program} {w : World} {A : Around} {E : Value → Shared → Prop} {s : Shared}
theorem kz_enum {v : Value} {o : Obj} {G : Heap → Prop} {Q : Value → Shared → Prop} (B : Begins v o G) (stands : G s.heap)
    (h : ∀ h', IsEnum h' (s.heap.objs.size + 1) s.heap.objs.size 0 .none → h'.get? s.heap.objs.size = some o → h'.objs.size = s.heap.objs.size + 2 →
      (∀ b u, s.heap.get? b = some u → h'.get? b = some u) → Q (.ref (s.heap.objs.size + 1)) { s with heap := h' }) :
    wpAny (model prog w) A (call (.type "enumerate") [v]) Q E s := by
  refine callType_new PySem.F.called_enumerate (by decide) (PySem.F.typeCall_enumerate_1 _) (PySem.F.newCall_enumerate_1 _) (fun obj => PySem.F.args_object_init_2 obj _) PySem.F.entry_enumerate_new (kz_enumNew B) ⟨stands, ?_⟩
  have size : (s.heap.push o).objs.size = s.heap.objs.size + 1 := Heap.size_push ..
  show _ ∧ _
  rw [size]
  have made : IsEnum ((s.heap.push o).push { cls := .type "enumerate", data := .fields #[.none, .bool false, .ref s.heap.objs.size, rawInt 0, .none, .none] }) (s.heap.objs.size + 1) s.heap.objs.size 0 .none := by
    have z := Heap.get?_push_size (s.heap.push o) (o := { cls := .type "enumerate", data := .fields #[.none, .bool false, .ref s.heap.objs.size, rawInt 0, .none, .none] }) rfl
    rw [size] at z
    exact z
  exact ⟨⟨_, made, rfl⟩, h _ made (Heap.get?_push_of_some _ (Heap.get?_push_size _ B.free)) (by rw [Heap.size_push, size]) fun b u z => Heap.get?_push_of_some _ (Heap.get?_push_of_some _ z)⟩
end
end PySem.W
namespace Kz
open PySem PySem.Spec PyProof.Rows L2
/-- the tuple at a at each turn, each item in a new pair -/
def IteT (K : PySem.W.Frag) (a : Addr) : It :=
  ⟨fun i H => ∃ (xs : List V) (x : V), SqT K H a xs ∧ xs[i]? = some x, fun i H v H' => ∃ T x, v = .ref T ∧ H T = none ∧ H' = upd H T (.tup [.int (i : Nat), x]) ∧ ∀ xs, SqT K H a xs → xs[i]? = some x, fun i H => ∃ xs : List V, SqT K H a xs ∧ xs.length = i⟩
theorem tuple_inj {X : Cx} {pins : List (Addr × Obj)} {σ : L2.St} {H : Hp} {s : Shared} {a : Addr} {xs ys : List V} (I : Inv X pins σ H s) (hx : SqT X.K H a xs) (hy : SqT X.K H a ys) : xs = ys := by
  obtain ⟨its, r, ⟨o, ho, hc, n, hd⟩, _⟩ := I.tuple hx
  obtain ⟨its', r', ⟨o', ho', hc', n', hd'⟩, _⟩ := I.tuple hy
  rw [ho] at ho'
  cases ho'
  rw [hd] at hd'
  have : its = its' := by
    have z := (Data.seq.inj hd').1
    simpa using congrArg Array.toList z
  subst this
  exact Vals.inj r r'
theorem turn_enumT {P : Program} {w : World} {K : PySem.W.Frag} {elts : List Expr} {kk : Nat} {tpos : Pos} (a e it : Addr) :
    Turn P w K (.Tuple elts kk tpos) (IteT K a) [e, it] e (fun i h => (∃ old, IsEnum h e it ((i : Nat) : Int) old) ∧ h.IsTupleIter it a i ∧ e ≠ it ∧ a ≠ it ∧ a ≠ e) where
  mem := by simp
  obj := fun i h st b hb => by
    obtain ⟨⟨old, he⟩, ⟨o, ho, hc, hd⟩, _⟩ := st
    rcases (show b = e ∨ b = it by simpa using hb) with z | z
    · rw [z]
      exact ⟨_, he, fun v q => nomatch q⟩
    · rw [z]
      exact ⟨o, ho, fun v q => by rw [hd] at q; cases q⟩
  keep := fun i h h' st k => by
    obtain ⟨⟨old, he⟩, hi, r⟩ := st
    exact ⟨⟨old, k e (by simp) _ he⟩, hi.at fun o q => k it (by simp) o q, r⟩
  item := by
    intro X hP hw hK hc i pins s σ H E I hf st hg
    subst hP hw hK
    obtain ⟨⟨old, he⟩, hit, hne, ha, hae⟩ := st
    obtain ⟨xs, x, hq, hx⟩ := hg
    obtain ⟨its, rv, p, hz⟩ := I.tuple hq
    obtain ⟨u, hu, ru⟩ := rv.get hx
    have hel : e < s.heap.objs.size := Heap.lt_size he
    have hil : it < s.heap.objs.size := by
      obtain ⟨_, q, _⟩ := hit
      exact Heap.lt_size q
    have isT : s.heap.IsTuple a its.toArray := p
    have lt : i < its.toArray.size := by
      have := (List.getElem?_eq_some_iff.mp hu).1
      simpa using this
    have hef : a ∉ ([] : List Addr) := by simp
    refine wpAny_pyNext_enum_itemD (Draws.tuple (prog := X.prog) (w := X.w) (A := X.A.in1) (I.ok.hd hc) it a ha its.toArray) he ⟨hit, isT⟩ lt hne (fun m => by rcases List.mem_cons.mp m with z | z; exact hne z; exact hae.symm (by simpa using z)) fun u' h' tk eu ho st' hT hsz hk => ?_
    have eq : u' = u := by
      have z : its.toArray[i]? = some u := by simpa using hu
      rw [z] at eu
      exact (Option.some.inj eu).symm
    subst eq
    refine ⟨_, rfl, wpAny_letOwnedTupleGo_enum (s := { s with heap := h', toks := tk + 1 }) ho fun h'' he' sb => ?_⟩
    have hT2 : h''.get? s.heap.objs.size = some { cls := .type "tuple", data := .seq #[.int i tk, u'] } := (sb.2 _ (Nat.ne_of_gt hel)).trans hT
    have new : ObjOk X.prog X.w (upd H s.heap.objs.size (.tup [.int (i : Nat), x])) h'' s.heap.objs.size (.tup [.int (i : Nat), x]) :=
      ⟨by show 2 ≤ sizeLine; decide, [.int i tk, u'], .cons ⟨_, rfl⟩ (.cons ru .nil), ⟨_, hT2, rfl, _, rfl⟩⟩
    have I1 : Inv X pins σ (upd H s.heap.objs.size (.tup [.int (i : Nat), x])) { s with heap := h'', toks := tk + 1 } :=
      I.turnedNew (ch := [e, it]) (fun b ob hb q => (sb.2 b (fun z => hb (by simp [z]))).trans (hk b ob (fun z => hb (by simp [z])) (fun z => hb (by simp [z])) q)) hf (Nat.le_refl _) new
    refine ⟨.ref s.heap.objs.size, _, I1, rfl, ⟨_, x, rfl, I.hok.fresh (Nat.le_refl _), rfl, fun ys hy => by rw [tuple_inj I hy hq]; exact hx⟩, ⟨⟨u', ?_⟩, st'.1.at fun o q => (sb.2 it (Ne.symm hne)).trans q, hne, ha, hae⟩, fun b hb => ?_⟩
    · have e1 : ((i + 1 : Nat) : Int) = (i : Int) + 1 := by omega
      rw [e1]
      exact he'
    · have hb' : b < s.heap.objs.size := by
        rcases (show b = e ∨ b = it by simpa using hb) with z | z
        · rw [z]
          exact hel
        · rw [z]
          exact hil
      rw [upd_ne (Nat.ne_of_lt hb')]
      exact (hf b hb).1
  done := by
    intro X hP hw hK hc i pins s σ H E I hf st hg
    subst hP hw hK
    obtain ⟨⟨old, he⟩, hit, hne, ha, hae⟩ := st
    obtain ⟨xs, hq, hx⟩ := hg
    obtain ⟨its, rv, p, hz⟩ := I.tuple hq
    obtain ⟨f0, f1, f2, f3, f4, f5⟩ := hf it (by simp)
    have len := rv.length
    have isT : s.heap.IsTuple a its.toArray := p
    have ei : i = its.toArray.size := by
      rw [List.size_toArray]
      omega
    subst ei
    exact wpAny_pyNext_enum_endD (Draws.tuple (prog := X.prog) (w := X.w) (A := X.A.in1) (I.ok.hd hc) it a ha its.toArray) he ⟨hit, isT⟩ fun h' eb => ⟨rfl, I.turned (t' := s.toks) (fun b o hb q => eb b o hb q) f0 f1 f3 f4 f5⟩
  self := fun A i s Q E st h => let ⟨⟨_, he⟩, _⟩ := st; wpAny_pyIter_enum he h
def iEnumT (K : PySem.W.Frag) (ta : TA) : TI := fun σ H R => ta σ H fun vs H1 => ∃ a xs, vs = [.ref a] ∧ SqT K H1 a xs ∧ R (IteT K a) H1
theorem pi_enumT {X : Cx} {e : Expr} {ta : TA} {p pos tpos : Pos} {elts : List Expr} {kk : Nat} (hg : Gl X "enumerate") (hm : X.mg "enumerate" = none) (ha : PA X [e] ta) (hs : starEach [e] X.env = [(false, eval e X.env)] := by rfl) :
    PI X (.Tuple elts kk tpos) (.Call (.Name "enumerate" p) [e] [] pos) (iEnumT X.K ta) := by
  refine ⟨fun pins s σ H R I h => ?_⟩
  refine Call_ (ld_blt I hg hm boot_enumerate (PyProof.Rows.callWith_type1 (thn (ha.run pos pins s σ H _ I h) fun us s1 ⟨vs, H1, I1, r1, q1⟩ => ?_) hs rfl))
  obtain ⟨a, xs, ex, hq, q⟩ := q1
  subst ex
  obtain ⟨u, rfl, r⟩ := Vals.one r1
  cases (show u = Value.ref a from r)
  obtain ⟨its, rv, p', hz⟩ := I1.tuple hq
  have isT : s1.heap.IsTuple a its.toArray := p'
  have la : a < s1.heap.objs.size := by
    obtain ⟨o, ho, _⟩ := isT
    exact Heap.lt_size ho
  refine PySem.W.kz_enum (begins_tuple a its.toArray) isT fun h' he hit hsz hk => wpAny_pyIter_enum he ?_
  have I2 : Inv X pins σ H1 { s1 with heap := h' } := I1.kept (t' := s1.toks) hk
  refine ⟨s1.heap.objs.size + 1, [s1.heap.objs.size + 1, s1.heap.objs.size], _, _, H1, rfl, I2, turn_enumT a (s1.heap.objs.size + 1) s1.heap.objs.size, ⟨⟨.none, he⟩, ⟨_, hit, rfl, rfl⟩, Nat.succ_ne_self _, Nat.ne_of_lt la, Nat.ne_of_lt (Nat.lt_succ_of_lt la)⟩, fun b hb => ?_, q⟩
  have hle : s1.heap.objs.size ≤ b := by
    rcases (show b = s1.heap.objs.size + 1 ∨ b = s1.heap.objs.size by simpa using hb) with z | z
    · rw [z]
      exact Nat.le_add_right _ _
    · rw [z]
      exact Nat.le_refl _
  exact I1.fpOk hle (I1.hok.fresh hle)
end Kz
set_option linter.all false
set_option maxRecDepth 100000
set_option maxHeartbeats 4000000
namespace Kz
open PySem PySem.Spec PyProof.Rows L2
/-- a comprehension over enumerate(a tuple) -/
theorem lc_mapE {K : PySem.W.Frag} {a : Addr} {xs : List V} {g : TG} {te : TE} {vs : List Nat} {σ : L2.St} {H1 : Hp} {D : Addr} {Qd : Hp → Prop} (hx : SqT K H1 a xs) (len : xs.length ≤ 1000) (hD : H1 D = none)
    (R : Nat → List V → Hp → Prop) (br : Bears D R) (h0 : R 0 [] H1)
    (step : ∀ (i : Nat) (x : V), xs[i]? = some x → ∀ (acc : List V) (H' : Hp) (Qk : VK) (Z : Hp → Prop) (T : Addr), acc.length = i → R i acc H' → Same H1 H' → H' T = none → (∀ u H4, Same H' H4 → R (i + 1) (acc ++ [u]) H4 → Qk u H4) →
      g (.ref T) (wipe σ vs) (upd H' T (.tup [.int (i : Nat), x])) fun σ2 H2 => wipe σ2 vs = wipe σ vs ∧ tYes σ2 H2 fun b H3 => if b = true then te σ2 H3 Qk else Z H3)
    (fin : ∀ acc H', H' D = some (.lst acc) → acc.length = xs.length → R xs.length acc H' → Same H1 H' → Qd H') : ∃ W : Nat → Nat → Hp → Prop, (∃ m, W 0 m (upd H1 D (.lst []))) ∧ ∀ i m H, W i m H →
      ((IteT K a).stop i H ∧ Qd H) ∨ ((IteT K a).go i H ∧ ∃ Nx : Hp → Prop, (∀ H', Nx H' → ∃ m', m' < m ∧ W (i + 1) m' H') ∧ ∀ x H', (IteT K a).yld i H x H' → g x (wipe σ vs) H' fun σ2 H2 => wipe σ2 vs = wipe σ vs ∧ tYes σ2 H2 fun b H3 =>
        if b = true then te σ2 H3 fun y H4 => ∃ acc, H4 D = some (.lst acc) ∧ acc.length < sizeLine ∧ Nx (upd H4 D (.lst (acc ++ [y]))) else Nx H3) := by
  refine ⟨fun i m H => m = xs.length - i ∧ i ≤ xs.length ∧ ∃ acc, H D = some (.lst acc) ∧ acc.length = i ∧ R i acc H ∧ Same H1 H, ⟨_, rfl, Nat.zero_le _, [], upd_same, rfl, br _ _ _ _ (fun o e => by rw [hD] at e; cases e) But.refl.set h0, Same.new hD⟩, ?_⟩
  rintro i m H ⟨rfl, hi, acc, e, l, r, s⟩
  have sx := Kz.Same.seqT s hx
  rcases Nat.lt_or_ge i xs.length with lt | ge
  · right
    refine ⟨⟨xs, _, sx, List.getElem?_eq_getElem lt⟩, fun H' => i + 1 ≤ xs.length ∧ ∃ acc, H' D = some (.lst acc) ∧ acc.length = i + 1 ∧ R (i + 1) acc H' ∧ Same H1 H', fun H' p => ⟨_, by omega, rfl, p⟩, ?_⟩
    rintro v H' ⟨T, x, rfl, nT, rfl, fx⟩
    refine step i x (fx xs sx) acc H _ _ T l r s nT fun u H4 s4 r4 => ⟨acc, s4 _ _ e, le1000 (by omega), lt, acc ++ [u], upd_same, by simp [l], br _ _ _ _ (fun o e4 => ?_) But.refl.set r4, fun c o ec => ?_⟩
    · rw [s4 _ _ e] at e4
      cases e4
      exact ⟨_, rfl⟩
    · rw [upd_ne (ne_of_none ec hD)]
      exact s4 _ _ (s _ _ ec)
  · left
    have ei : i = xs.length := by omega
    subst ei
    exact ⟨⟨xs, sx, rfl⟩, fin acc H e l r s⟩
theorem cut_drop {vs : List V} : cutV vs (some 1) none = vs.drop 1 := by
  unfold cutV
  rw [HT.sIx_none]
  have e : HT.sIx vs.length 0 (some 1) = min 1 vs.length := rfl
  rw [e]
  rcases Nat.eq_zero_or_pos vs.length with z | z
  · have : vs = [] := List.length_eq_zero_iff.mp z
    subst this
    rfl
  · rw [Nat.min_eq_left z]
    exact List.take_of_length_le (by rw [List.length_drop]; exact Nat.le_refl _)
theorem Al.drop {K : PySem.W.Frag} {H : Hp} {vs : List V} {qs : List Rat} (h : Al K H vs qs) (k : Nat) : Al K H (vs.drop k) (qs.drop k) := by
  refine ⟨by simp [h.1], fun i v' q' a b => ?_⟩
  rw [List.getElem?_drop] at a b
  exact h.2 _ _ _ a b
section
variable {P : Program} {w : World} {K : PySem.W.Frag} {mg : Str → Option Value} {base : Heap}
def spSlope (K : PySem.W.Frag) (cP : Addr) : Sp := fun vs H Q _ => ∃ p qs n m, vs = [p] ∧ PolyAt K cP H p qs ∧ SzA n m qs ∧ n ≤ 300000 ∧ m ≤ 8000 ∧ qs.length ≤ 200 ∧ ∀ v H' ts, Same H H' → PolyAt K cP H' v ts → ts.length ≤ qs.length → (∀ i, cf ts i = (((i + 1 : Nat) : Int) : Rat) * cf qs (i + 1)) → Q v H'
abbrev nSo : List Str := ["self", "k", "number"]
theorem scP11 : FnScope nSo ["self"] (defScope (sP 11)) := ⟨rfl, rfl, rfl, by decide +kernel, rfl, by decide +kernel, by decide +kernel⟩
theorem ok_slope (T : Tz P K mg) : FnOk P w K mg base CX0 7 T.p_slope.f T.p_slope.fd ["self"] (spSlope K T.cP) := by
  have G2 : FnOk P w K mg base (CX P w) 5 T.times.f T.times.fd ["one", "other"] (spTwo K T.cN cBin (fun H v q r => RV K H v (q * r))) := ok_times T.toTx
  refine T.p_slope.fn.ok scP11 (fun vs H Q E h => ?_) (fun cdv A outer s H vs Q E hr h => ?_)
  · obtain ⟨p, qs, n, m, rfl, _⟩ := h
    rfl
  · obtain ⟨p, qs, n, m, rfl, hp, zq, n3, m8, len, q⟩ := h
    have hr5 : Room 5 _ := hr.mono (by decide)
    refine ⟨_, pss_one (ps_ret (T.cPoly hr (pa_cons (pe_slice sl_list (pe_lc (own := [("k", 1), ("number", 2)]) (g := gTup K 2 (gCons (gName 1) (gCons (gName 2) gNil))) (tt := tYes) rfl scP11.nd (pi_enumT (by rfl) T.mEnum (pa_cons (pe_fld (pv 0) (by rfl)) pa_nil)) (blkOk_by (own := [("k", 1), ("number", 2)]) (N := nSo) (sc := defScope (sP 11)) (by decide +kernel))
        (fun _ _ _ _ _ => pg_tup (by rfl) (pgs_cons (pg_name (i := 1) scP11.nd rfl (Or.inl rfl)) (pgs_cons (pg_name (i := 2) scP11.nd rfl (Or.inl rfl)) pgs_nil))) (fun _ _ _ _ _ => pts_nil) (fun _ _ _ _ _ => T.times.cX G2 hr5 (pa_cons (pv 1) (pa_cons (pv 2) pa_nil)))) (po_some pe_int) po_none) pa_nil))), ?_⟩
    obtain ⟨a, dx, t, ws, rfl, ha, ht, al, tr⟩ := id hp
    have la := al.1
    refine ⟨_, rfl, a, T.cP, dx, _, _, rfl, ha, T.clP, T.nP, lkN, t, ws, rfl, ht, fun D hD => ?_⟩
    refine lc_mapE ht (by omega) hD (fun i acc H' => Al K H' acc ((upTo qs.length fun i => (((i : Nat) : Int) : Rat) * cf qs i).take i)) bears_al Al.nil ?_ ?_
    · intro i x hx acc H' Qk Z T' lg r s nT kk
      have lt : i < qs.length := by
        have := (List.getElem?_eq_some_iff.mp hx).1
        omega
      have s10 := Same.new (o := .tup [.int ((i : Nat) : Int), x]) nT
      have rx := ((al.2 i x _ hx (at_cf lt)).same s).same s10
      refine ⟨T', _, rfl, SqT.of upd_same, rfl, _, _, rfl, _, _, rfl, rfl, rfl, ?_⟩
      dsimp only [tYes]
      refine iteT ⟨_, rfl, _, rfl, _, x, rfl, .inl ⟨_, _, 10, 1, n, m, arg_int (by show i < 1024; omega) (by decide), rx.arg (zq i lt), by decide, by omega, ⟨by omega, by omega⟩, fun v' H4 s4 rv => kk _ _ (s10.trans s4) ?_⟩⟩
      show Al K H4 (acc ++ [v']) ((upTo qs.length fun i => (((i : Nat) : Int) : Rat) * cf qs i).take (i + 1))
      rw [take_snoc (upTo_at lt)]
      exact (Al.same (s10.trans s4) r).snoc rv
    · intro acc H' hacc lacc r s
      have r' : Al K H' acc ((upTo qs.length fun i => (((i : Nat) : Int) : Rat) * cf qs i).take ws.length) := r
      rw [la, List.take_of_length_le (by rw [upTo_len]; exact Nat.le_refl _)] at r'
      refine ⟨_, rfl, D, acc, rfl, SqL.of hacc, fun c nc => ?_⟩
      rw [cut_drop]
      have s2 := Same.new (o := .lst (acc.drop 1)) nc
      have cd : ∀ i, cf ((upTo qs.length fun i => (((i : Nat) : Int) : Rat) * cf qs i).drop 1) i = (((i + 1 : Nat) : Int) : Rat) * cf qs (i + 1) := fun i => by
        rcases Nat.lt_or_ge (i + 1) qs.length with lt | ge
        · refine cf_at ?_
          rw [List.getElem?_drop, Nat.add_comm 1 i, upTo_at lt]
        · rw [cf_out (qs := qs) (by omega), Rat.mul_zero]
          exact cf_out (by rw [List.length_drop, upTo_len]; omega)
      have zd : SzA (10 + n) (1 + m) ((upTo qs.length fun i => (((i : Nat) : Int) : Rat) * cf qs i).drop 1) := fun i l => by
        rw [List.length_drop, upTo_len] at l
        rw [cd]
        exact mul_sz ⟨by show i + 1 < 1024; omega, by show 1 < 2; decide⟩ (zq _ (by omega))
      refine poly_made (.inl (SqL.of upd_same)) (((r'.same s2).drop 1).arg zd) (by omega) (by rw [List.length_drop]; omega) fun v H3 ts s3 pa l e => q v H3 ts ((s.trans s2).trans s3) pa (by rw [List.length_drop, upTo_len] at l; omega) fun i => by rw [e, cd]
def arF (f : Nat → Rat) : Nat → Rat
  | 0 => 0
  | i + 1 => f i / (((i + 1 : Nat) : Int) : Rat)
def spArea (K : PySem.W.Frag) (cP : Addr) : Sp := fun vs H Q _ => ∃ p qs n m, vs = [p] ∧ PolyAt K cP H p qs ∧ SzA n m qs ∧ n ≤ 300000 ∧ m ≤ 8000 ∧ qs.length ≤ 200 ∧ ∀ v H' ts, Same H H' → PolyAt K cP H' v ts → ts.length ≤ qs.length + 1 → (∀ i, cf ts i = arF (cf qs) i) → Q v H'
theorem scP12 : FnScope nSo ["self"] (defScope (sP 12)) := ⟨rfl, rfl, rfl, by decide +kernel, rfl, by decide +kernel, by decide +kernel⟩
theorem ok_area (T : Tz P K mg) : FnOk P w K mg base CX0 7 T.p_area.f T.p_area.fd ["self"] (spArea K T.cP) := by
  have G2 : FnOk P w K mg base (CX P w) 5 T.share.f T.share.fd ["one", "other"] (spShare K T.cN) := ok_share T.toTx
  refine T.p_area.fn.ok scP12 (fun vs H Q E h => ?_) (fun cdv A outer s H vs Q E hr h => ?_)
  · obtain ⟨p, qs, n, m, rfl, _⟩ := h
    rfl
  · obtain ⟨p, qs, n, m, rfl, hp, zq, n3, m8, len, q⟩ := h
    have hr5 : Room 5 _ := hr.mono (by decide)
    refine ⟨_, pss_one (ps_ret (T.cPoly hr (pa_cons (pe_op op_cat (pe_lst (pa_cons pe_int pa_nil)) (pe_lc (own := [("k", 1), ("number", 2)]) (g := gTup K 2 (gCons (gName 1) (gCons (gName 2) gNil))) (tt := tYes) rfl scP12.nd (pi_enumT (by rfl) T.mEnum (pa_cons (pe_fld (pv 0) (by rfl)) pa_nil)) (blkOk_by (own := [("k", 1), ("number", 2)]) (N := nSo) (sc := defScope (sP 12)) (by decide +kernel))
        (fun _ _ _ _ _ => pg_tup (by rfl) (pgs_cons (pg_name (i := 1) scP12.nd rfl (Or.inl rfl)) (pgs_cons (pg_name (i := 2) scP12.nd rfl (Or.inl rfl)) pgs_nil))) (fun _ _ _ _ _ => pts_nil) (fun _ _ _ _ _ => T.share.cX G2 hr5 (pa_cons (pv 2) (pa_cons (pe_op op_add (pv 1) pe_int) pa_nil))))) pa_nil))), ?_⟩
    obtain ⟨a, dx, t, ws, rfl, ha, ht, al, tr⟩ := id hp
    have la := al.1
    refine ⟨(by show 1 ≤ sizeLine; decide), fun z nz => ?_⟩
    have s0 := Same.new (o := .lst [.int 0]) nz
    have ez : upd H z (.lst [.int 0]) z = some (.lst [.int 0]) := upd_same
    generalize upd H z (.lst [.int 0]) = H0 at s0 ez
    have ht0 := Kz.Same.seqT s0 ht
    have al0 := al.same s0
    refine ⟨_, rfl, a, T.cP, dx, _, _, rfl, s0 _ _ ha, T.clP, T.nP, lkN, t, ws, rfl, ht0, fun D hD => ?_⟩
    refine lc_mapE ht0 (by omega) hD (fun i acc H' => Al K H' acc ((upTo qs.length fun i => cf qs i / (((i + 1 : Nat) : Int) : Rat)).take i)) bears_al Al.nil ?_ ?_
    · intro i x hx acc H' Qk Z T' lg r s nT kk
      have lt : i < qs.length := by
        have := (List.getElem?_eq_some_iff.mp hx).1
        omega
      have s10 := Same.new (o := .tup [.int ((i : Nat) : Int), x]) nT
      have rx := ((al0.2 i x _ hx (at_cf lt)).same s).same s10
      have e1 : ((i : Nat) : Int) + 1 = ((i + 1 : Nat) : Int) := by omega
      refine ⟨T', _, rfl, SqT.of upd_same, rfl, _, _, rfl, _, _, rfl, rfl, rfl, ?_⟩
      dsimp only [tYes]
      refine iteT ⟨_, rfl, _, rfl, _, _, rfl, rfl, ?_⟩
      dsimp only []
      rw [e1]
      have n0 : (((i + 1 : Nat) : Int) : Rat) ≠ 0 := fun z => by have := Rat.intCast_eq_zero_iff.mp z; omega
      refine ⟨x, _, rfl, .inl ⟨_, _, n, m, 10, 1, rx.arg (zq i lt), arg_int (by show i + 1 < 1024; omega) (by decide), by omega, by decide, by omega, by omega, n0, fun v' H4 s4 rv => kk _ _ (s10.trans s4) ?_⟩⟩
      show Al K H4 (acc ++ [v']) ((upTo qs.length fun i => cf qs i / (((i + 1 : Nat) : Int) : Rat)).take (i + 1))
      rw [take_snoc (upTo_at lt)]
      exact (Al.same (s10.trans s4) r).snoc rv
    · intro acc H' hacc lacc r s
      have r' : Al K H' acc ((upTo qs.length fun i => cf qs i / (((i + 1 : Nat) : Int) : Rat)).take ws.length) := r
      rw [la, List.take_of_length_le (by rw [upTo_len]; exact Nat.le_refl _)] at r'
      refine ⟨z, D, _, _, rfl, rfl, s _ _ ez, hacc, by rw [sizeLine_eq]; show 1 + acc.length ≤ _; omega, fun c nc => ?_⟩
      have s2 := Same.new (o := .lst ([.int 0] ++ acc)) nc
      have zr : ∀ i, i < qs.length → Sz (n + 1) (m + 10) (cf qs i / (((i + 1 : Nat) : Int) : Rat)) := fun i lt => div_sz (zq i lt) ⟨by show i + 1 < 1024; omega, by show 1 < 2; decide⟩ (fun z => by have := Rat.intCast_eq_zero_iff.mp z; omega)
      have aa : AlA K (upd H' c (.lst ([.int 0] ++ acc))) ([.int 0] ++ acc) (n + 1) (m + 10) (0 :: upTo qs.length fun i => cf qs i / (((i + 1 : Nat) : Int) : Rat)) := by
        refine ⟨by simp [r'.1], fun i u x e1 e2 => ?_⟩
        cases i with
        | zero =>
          cases e1
          cases e2
          exact arg_int (i := 0) (Nat.two_pow_pos _) (by omega)
        | succ i =>
          have e2' : (upTo qs.length fun i => cf qs i / (((i + 1 : Nat) : Int) : Rat))[i]? = some x := e2
          have lt : i < qs.length := by
            have := (List.getElem?_eq_some_iff.mp e2').1
            rw [upTo_len] at this
            exact this
          have rv := ((r'.same s2).2 i u x e1 e2')
          rw [upTo_at lt] at e2'
          cases e2'
          exact rv.arg (zr i lt)
      have ca : ∀ i, cf (0 :: upTo qs.length fun i => cf qs i / (((i + 1 : Nat) : Int) : Rat)) i = arF (cf qs) i := fun i => by
        cases i with
        | zero => rfl
        | succ i =>
          show cf (upTo qs.length fun i => cf qs i / (((i + 1 : Nat) : Int) : Rat)) i = _
          rw [upTo_cf]
          · rfl
          · intro j hj
            rw [cf_out hj, Rat.div_def, Rat.zero_mul]
      refine poly_made (.inl (SqL.of upd_same)) aa (by omega) (by rw [aa.1]; simp [upTo_len]; omega) fun v H3 ts s3 pa l e => q v H3 ts (((s0.trans s).trans s2).trans s3) pa (by simp [upTo_len] at l; omega) fun i => by rw [e, ca]
end
end Kz
set_option linter.all false
set_option maxRecDepth 100000
set_option maxHeartbeats 4000000
namespace Kz
open PySem PySem.Spec PyProof.Rows L2
theorem shaped_row (qs : List Rat) : SeqAt.shaped (.tuple (qs.map pdQ)) = true := by
  have d : PyData.depth (.tuple (qs.map pdQ)) ≤ 64 := by
    show PyData.depthAll (qs.map pdQ) + 1 ≤ 64
    have := (pdQ_lay qs).2
    omega
  show (PyData.canLayAll0 (qs.map pdQ) && decide (PyData.depth (.tuple (qs.map pdQ)) ≤ 64)) = true
  rw [(pdQ_lay qs).1, decide_eq_true d]
  rfl
theorem eqv_pdQ (a b : Rat) : PyData.eqv (pdQ a) (pdQ b) = decide (a = b) := by
  have e : PyData.eqv (pdQ a) (pdQ b) = ((a.num == b.num) && (((a.den : Int) == (b.den : Int)) && true)) := by
    simp [pdQ, PyData.eqv, PyData.eqvAll]
  rw [e, Bool.and_true, Bool.eq_iff_iff, Bool.and_eq_true, beq_iff_eq, beq_iff_eq, decide_eq_true_iff]
  exact ⟨fun h => Rat.ext h.1 (Int.ofNat.inj h.2), fun h => by rw [h]; exact ⟨rfl, rfl⟩⟩
theorem eqv_row : ∀ qs ts : List Rat, PyData.eqvAll (qs.map pdQ) (ts.map pdQ) = decide (qs = ts)
  | [], [] => by simp [PyData.eqvAll]
  | [], _ :: _ => by simp [PyData.eqvAll]
  | _ :: _, [] => by simp [PyData.eqvAll]
  | q :: qs, t :: ts => by
    have e : PyData.eqvAll ((q :: qs).map pdQ) ((t :: ts).map pdQ) = (PyData.eqv (pdQ q) (pdQ t) && PyData.eqvAll (qs.map pdQ) (ts.map pdQ)) := by
      simp [PyData.eqvAll]
    rw [e, eqv_pdQ, eqv_row qs ts, Bool.eq_iff_iff, Bool.and_eq_true, decide_eq_true_iff, decide_eq_true_iff, decide_eq_true_iff, List.cons.injEq]
section
variable {P : Program} {w : World} {K : PySem.W.Frag} {mg : Str → Option Value} {base : Heap}
def spPEq (K : PySem.W.Frag) (cP : Addr) : Sp := fun vs H Q _ => ∃ p v qs, vs = [p, v] ∧ PolyAt K cP H p qs ∧ ((∃ ts, PolyAt K cP H v ts ∧ Q (.bl (decide (qs = ts))) H) ∨ (∃ t, TyN K H v t ∧ Q (.bl false) H))
theorem scP1 : FnScope ["self", "other"] ["self", "other"] (defScope (sP 1)) := ⟨rfl, rfl, rfl, by decide +kernel, rfl, by decide +kernel, by decide +kernel⟩
theorem ok_peq (T : Tz P K mg) : FnOk P w K mg base CX0 1 T.p_eq.f T.p_eq.fd ["self", "other"] (spPEq K T.cP) := by
  refine T.p_eq.fn.ok scP1 (fun vs H Q E h => ?_) (fun cdv A outer s H vs Q E hr h => ?_)
  · obtain ⟨p, v, qs, rfl, _⟩ := h
    rfl
  · obtain ⟨p, v, qs, rfl, hp, h⟩ := h
    have hu := hr.units
    refine ⟨_, pss_one (ps_ret (pe_and (pe_callB call_isi (by rfl) T.mIsi boot_isi (pa_cons (pv 1) (pa_cons (pe_glob (v := .ref T.cP) rfl T.mgP rfl) pa_nil)))
      (pe_one (pe_cmpR (op_eqD hu) (pe_fld (pv 0) (by rfl)) (pe_fld (pv 1) (by rfl)) (nomark _))))), ?_⟩
    rcases h with ⟨ts, hv, q⟩ | ⟨t, ty, q⟩
    · obtain ⟨a, dx, t, ws, rfl, ha, ht, al, tr⟩ := hp
      obtain ⟨b, dy, u, xs, rfl, hb, hu', bl, tr'⟩ := hv
      refine ⟨_, rfl, _, _, _, _, true, rfl, .own _, poly_ty T hb, kit_self, _, rfl, ?_⟩
      refine iteT ?_
      refine ⟨_, rfl, a, T.cP, dx, _, _, rfl, ha, T.clP, T.nP, lkN, _, rfl, b, T.cP, dy, _, _, rfl, hb, T.clP, T.nP, lkN, _, _, .tup ht al.dp, .tup hu' bl.dp, shaped_row _, shaped_row _, ?_⟩
      have e : PyData.eqv (.tuple (qs.map pdQ)) (.tuple (ts.map pdQ)) = decide (qs = ts) := by
        rw [← eqv_row]
        simp [PyData.eqv]
      rw [e]
      exact q
    · refine ⟨_, rfl, v, _, _, _, false, rfl, .own _, ty.1, T.notP t ty.2, _, rfl, ?_⟩
      exact iteF q
end
end Kz
set_option linter.all false
set_option maxRecDepth 100000
set_option maxHeartbeats 4000000
namespace Kz
open PySem PySem.Spec PyProof.Rows L2
section
variable {X : Cx} {P : Program} {w : World} {K : PySem.W.Frag} {mg : Str → Option Value} {base : Heap} {k : Nat} {q : Str} {stt : Stmt} {sp : Sp}
/-- a Poly on the left of == -/
theorem op_eqP {cP : Addr} (D : Dm K cP "__eq__" q stt ["self", "other"]) (F : FnOk P w K mg base CX0 k D.f D.fd ["self", "other"] sp) (nI : PySem.W.subIn K (.type "int") (.ref cP) = some false) (nT : PySem.W.subIn K (.type "tuple") (.ref cP) = some false) (hr : Room k X.A)
    (of : Of X P w K mg base := by exact ⟨rfl, rfl, rfl, rfl, rfl⟩) :
    OpR X (compareOp .Eq) (fun x y H Q => (∃ a dx fs, x = .ref a ∧ H a = some (.ins cP dx fs)) ∧ ((∃ b dy gs, y = .ref b ∧ H b = some (.ins cP dy gs)) ∨ ∃ T, Plain K H y T) ∧ sp [x, y] H Q fun _ _ _ => False) := by
  obtain ⟨rfl, rfl, rfl, rfl, rfl⟩ := of
  intro pins s σ H x y v u Q I rx ry h
  obtain ⟨⟨a, dx, fs, rfl, ha⟩, hy, h⟩ := h
  cases (show v = Value.ref a from rx)
  obtain ⟨mA, O, _⟩ := ins_get I.hok ha
  obtain ⟨od, J, _⟩ := O.look
  obtain ⟨m, hF⟩ := I.fr
  have go : wpAny (model X.prog X.w) X.A (call (.ref D.f) [.ref a, u]) (PySem.W.CmpBack (EP X pins σ Q)) X.xe s :=
    wpAny_mono (run_fn (us := [.ref a, u]) (vs := [.ref a, y]) F hr D.b .nil pass0 I (.cons rfl (.cons ry .nil)) h) (fun r s' z => back_ok z) fun _ _ z => z
  show wpAny (model X.prog X.w) X.A (richCompare .Eq (.ref a) u) (EP X pins σ Q) X.xe s
  rcases hy with ⟨b, dy, gs, rfl, hb⟩ | ⟨T, hp⟩
  · cases (show u = Value.ref b from ry)
    obtain ⟨mB, O', _⟩ := ins_get I.hok hb
    obtain ⟨oe, J', _⟩ := O'.look
    exact PySem.W.cmp_K (op := .Eq) (tb := .ref cP) hr.units0 hF I.ok.mod.kin J J'.type (by simp [PySem.W.notFirst]) D.me.at_ D.me.fn go
  · refine PySem.W.cmp_K (op := .Eq) (tb := .type T) hr.units0 hF I.ok.mod.kin J (plain_ty I ry hp) ?_ D.me.at_ D.me.fn go
    rcases hp with ⟨rfl, _⟩ | ⟨rfl, _⟩
    · simp [PySem.W.notFirst, nI]
    · simp [PySem.W.notFirst, nT]
end
section
variable {X : Cx} {P : Program} {w : World} {K : PySem.W.Frag} {mg : Str → Option Value} {base : Heap}
/-- p == v, a Poly, or an int or a tuple -/
def rPEq (K : PySem.W.Frag) (cP : Addr) : R2 := fun x y H Q => ∃ qs, PolyAt K cP H x qs ∧ ((∃ ts, PolyAt K cP H y ts ∧ Q (.bl (decide (qs = ts))) H) ∨ (∃ T, Plain K H y T ∧ Q (.bl false) H))
theorem op_peq (T : Tw P K mg) (hr : Room 1 X.A) (of : Of X P w K mg base := by exact ⟨rfl, rfl, rfl, rfl, rfl⟩) : OpR X (compareOp .Eq) (rPEq K T.cP) := by
  intro pins s σ H x y v u Q I rx ry h
  obtain ⟨qs, hx, h⟩ := h
  have F : FnOk P w K mg base CX0 1 T.p_eq.f T.p_eq.fd ["self", "other"] (spPEq K T.cP) := ok_peq T.toTz
  refine op_eqP T.p_eq F T.nI1 T.nT1 hr of pins s σ H x y v u Q I rx ry ⟨?_, ?_, x, y, qs, rfl, hx, ?_⟩
  · obtain ⟨a, dx, _, _, e, ha, _⟩ := hx
    exact ⟨a, dx, _, e, ha⟩
  · rcases h with ⟨ts, ⟨b, dy, _, _, e, hb, _⟩, _⟩ | ⟨t, hp, _⟩
    · exact .inl ⟨b, dy, _, e, hb⟩
    · exact .inr ⟨t, hp⟩
  · rcases h with ⟨ts, hy, q⟩ | ⟨t, hp, q⟩
    · exact .inl ⟨ts, hy, q⟩
    · refine .inr ⟨?_, ?_, q⟩
      · exact t
      · rcases hp with ⟨rfl, i, rfl⟩ | ⟨rfl, a, xs, rfl, ha⟩
        · exact ty_int
        · exact ty_tup ha
end
end Kz
set_option linter.all false
set_option maxRecDepth 100000
set_option maxHeartbeats 4000000
namespace Kz
open PySem PySem.Spec PyProof.Rows L2
/-! ### a division: quotient times divisor and rest are the whole -/
theorem sumTo_ext {n : Nat} {f g : Nat → Rat} (h : ∀ k, k < n → f k = g k) : sumTo n f = sumTo n g := by
  induction n with
  | zero => rfl
  | succ n ih =>
    show sumTo n f + f n = sumTo n g + g n
    rw [ih fun k hk => h k (by omega), h n (by omega)]
theorem convN_ext {n : Nat} {f f' g g' : Nat → Rat} {i : Nat} (h : ∀ k, k < n → f k = f' k) (h' : ∀ k, g k = g' k) : convN n f g i = convN n f' g' i := by
  unfold convN
  refine sumTo_ext fun k hk => ?_
  rw [h k hk, h' (i - k)]
theorem convN_succ {n : Nat} {f g : Nat → Rat} {i : Nat} : convN (n + 1) f g i = convN n f g i + (if n ≤ i then f n * g (i - n) else 0) := rfl
theorem cf_app_lt {l : List Rat} {x : Rat} {i : Nat} (h : i < l.length) : cf (l ++ [x]) i = cf l i := by
  unfold cf
  rw [List.getD_eq_getElem?_getD, List.getD_eq_getElem?_getD, List.getElem?_append_left h]
theorem cf_app_at {l : List Rat} {x : Rat} {i : Nat} (h : i = l.length) : cf (l ++ [x]) i = x := by
  subst h
  unfold cf
  rw [List.getD_eq_getElem?_getD, List.getElem?_append_right (Nat.le_refl _), Nat.sub_self]
  rfl
theorem dstep_cf {D R : List Rat} (d0 : 0 < D.length) (le : D.length ≤ R.length) (l0 : cf D (D.length - 1) ≠ 0) (i : Nat) : cf (dstep D R) i = dval D R i := by
  unfold dstep
  refine upTo_cf fun i hi => ?_
  unfold dval
  have hs : R.length - D.length ≤ i := by omega
  rw [if_pos hs]
  rcases Nat.lt_or_ge i R.length with lt | ge
  · have e : i = R.length - 1 := by omega
    have e2 : i - (R.length - D.length) = D.length - 1 := by omega
    rw [e2, e]
    unfold dfac
    rw [Rat.div_mul_cancel l0]
    exact Rat.sub_self
  · rw [cf_out ge, cf_out (show D.length ≤ i - (R.length - D.length) by omega), Rat.mul_zero]
    exact Rat.sub_self
theorem div_id {D : List Rat} (d0 : 0 < D.length) (l0 : cf D (D.length - 1) ≠ 0) : ∀ (n : Nat) (R : List Rat), (0 < n → n + D.length = R.length + 1) → ∀ i, cf R i = convN n (cf (dqs D n R).reverse) (cf D) i + cf (dit D n R) i
  | 0, R, _, i => by
    show cf R i = 0 + cf R i
    rw [Rat.zero_add]
  | n + 1, R, h, i => by
    have h1 := h (Nat.succ_pos n)
    have le : D.length ≤ R.length := by omega
    have es : R.length - D.length = n := by omega
    have ih := div_id d0 l0 n (dstep D R) (fun _ => by rw [dstep_len]; omega) i
    rw [dstep_cf d0 le l0 i] at ih
    have er : (dqs D (n + 1) R).reverse = (dqs D n (dstep D R)).reverse ++ [dfac D R] := by
      show (dfac D R :: dqs D n (dstep D R)).reverse = _
      exact List.reverse_cons
    have len : (dqs D n (dstep D R)).reverse.length = n := by rw [List.length_reverse, dqs_len]
    show cf R i = convN (n + 1) _ _ i + cf (dit D n (dstep D R)) i
    rw [er, convN_succ, cf_app_at len.symm]
    have e2 : convN n (cf ((dqs D n (dstep D R)).reverse ++ [dfac D R])) (cf D) i = convN n (cf (dqs D n (dstep D R)).reverse) (cf D) i :=
      convN_ext (fun k hk => cf_app_lt (by rw [len]; exact hk)) fun _ => rfl
    rw [e2]
    unfold dval at ih
    rw [es] at ih
    generalize convN n (cf (dqs D n (dstep D R)).reverse) (cf D) i = a at ih ⊢
    generalize cf (dit D n (dstep D R)) i = b at ih ⊢
    by_cases hi : n ≤ i
    · rw [if_pos hi] at ih ⊢
      generalize dfac D R * cf D (i - n) = c at ih ⊢
      grind
    · rw [if_neg hi] at ih ⊢
      grind
/-- .. for the rows as they are told -/
theorem div_whole {D R ts us : List Rat} (d0 : 0 < D.length) (l0 : cf D (D.length - 1) ≠ 0) (et : ∀ i, cf ts i = cf (dqs D (R.length + 1 - D.length) R).reverse i) (eu : ∀ i, cf us i = cf (dit D (R.length + 1 - D.length) R) i) (i : Nat) :
    convN ts.length (cf ts) (cf D) i + cf us i = cf R i := by
  have h := div_id d0 l0 (R.length + 1 - D.length) R (fun z => by omega) i
  rw [h, eu i]
  congr 1
  have e1 : convN (ts.length + (R.length + 1 - D.length)) (cf ts) (cf D) i = convN ts.length (cf ts) (cf D) i := convN_more (by omega) fun k hk => cf_out hk
  have e2 : convN (ts.length + (R.length + 1 - D.length)) (cf (dqs D (R.length + 1 - D.length) R).reverse) (cf D) i = convN (R.length + 1 - D.length) (cf (dqs D (R.length + 1 - D.length) R).reverse) (cf D) i :=
    convN_more (by omega) fun k hk => cf_out (by rw [List.length_reverse, dqs_len]; exact hk)
  rw [← e1, ← e2]
  exact convN_ext (fun k _ => et k) fun _ => rfl
end Kz
set_option linter.all false
set_option maxRecDepth 100000
set_option maxHeartbeats 4000000
namespace Kz
open PySem PySem.Spec PyProof.Rows L2
/-! ### multiples of one polynomial -/
def shv (s : Nat) (g : Nat → Rat) (i : Nat) : Rat := if s ≤ i then g (i - s) else 0
def Dv (p : Nat → Rat) (L : Nat) (q : Nat → Rat) : Prop := ∃ (h : Nat → Rat) (M : Nat), (∀ i, M ≤ i → h i = 0) ∧ ∀ i, q i = convN L p h i
theorem conv_lin {p h g : Nat → Rat} {c : Rat} {s i : Nat} : ∀ L : Nat, convN L p (fun j => h j - c * shv s g j) i = convN L p h i - c * shv s (convN L p g) i
  | 0 => by
    show (0 : Rat) = 0 - c * (if s ≤ i then 0 else 0)
    rw [ite_self, Rat.mul_zero]
    exact Rat.sub_self.symm
  | L + 1 => by
    rw [convN_succ, conv_lin L, convN_succ]
    unfold shv
    by_cases hs : s ≤ i
    · rw [if_pos hs, if_pos hs, convN_succ]
      by_cases h1 : L ≤ i
      · rw [if_pos h1, if_pos h1]
        by_cases h2 : s ≤ i - L
        · have e : i - L - s = i - s - L := by omega
          rw [if_pos h2, if_pos (show L ≤ i - s by omega), e]
          grind
        · rw [if_neg h2, if_neg (show ¬ L ≤ i - s by omega)]
          grind
      · rw [if_neg h1, if_neg h1, if_neg (show ¬ L ≤ i - s by omega)]
        grind
    · rw [if_neg hs, if_neg hs]
      by_cases h1 : L ≤ i
      · rw [if_pos h1, if_pos h1, if_neg (show ¬ s ≤ i - L by omega)]
        grind
      · rw [if_neg h1, if_neg h1]
        grind
theorem Dv.sub {p q r : Nat → Rat} {L : Nat} (hq : Dv p L q) (hr : Dv p L r) (c : Rat) (s : Nat) : Dv p L fun i => q i - c * shv s r i := by
  obtain ⟨h, M, hM, eh⟩ := hq
  obtain ⟨g, N, hN, eg⟩ := hr
  refine ⟨fun j => h j - c * shv s g j, M + N + s, fun i hi => ?_, fun i => ?_⟩
  · show h i - c * (if s ≤ i then g (i - s) else 0) = 0
    rw [hM i (by omega), if_pos (by omega), hN (i - s) (by omega), Rat.mul_zero]
    exact Rat.sub_self
  · rw [conv_lin L]
    show q i - c * shv s r i = _
    rw [eh i]
    unfold shv
    by_cases hs : s ≤ i
    · rw [if_pos hs, if_pos hs, eg]
    · rw [if_neg hs, if_neg hs]
theorem Dv.of {p q r : Nat → Rat} {L : Nat} (hq : Dv p L q) (e : ∀ i, r i = q i) : Dv p L r := by
  obtain ⟨h, M, hM, eh⟩ := hq
  exact ⟨h, M, hM, fun i => (e i).trans (eh i)⟩
theorem Dv.smul {p q r : Nat → Rat} {L : Nat} (hq : Dv p L q) (c : Rat) (e : ∀ i, r i = q i * c) : Dv p L r := by
  have h := Dv.sub hq hq (1 - c) 0
  refine h.of fun i => ?_
  rw [e i]
  show _ = q i - (1 - c) * (if 0 ≤ i then q (i - 0) else 0)
  rw [if_pos (Nat.zero_le _), Nat.sub_zero]
  grind
theorem Dv.step {p : Nat → Rat} {L : Nat} {D R : List Rat} (d0 : 0 < D.length) (le : D.length ≤ R.length) (l0 : cf D (D.length - 1) ≠ 0) (hR : Dv p L (cf R)) (hD : Dv p L (cf D)) : Dv p L (cf (dstep D R)) := by
  refine (Dv.sub hR hD (dfac D R) (R.length - D.length)).of fun i => ?_
  rw [dstep_cf d0 le l0 i]
  unfold dval shv
  by_cases hs : R.length - D.length ≤ i
  · rw [if_pos hs, if_pos hs]
  · rw [if_neg hs, if_neg hs, Rat.mul_zero]
    grind
theorem Dv.dit {p : Nat → Rat} {L : Nat} {D : List Rat} (d0 : 0 < D.length) (l0 : cf D (D.length - 1) ≠ 0) (hD : Dv p L (cf D)) : ∀ (n : Nat) (R : List Rat), (0 < n → n + D.length ≤ R.length + 1) → Dv p L (cf R) → Dv p L (cf (dit D n R))
  | 0, R, _, hR => hR
  | n + 1, R, h, hR => by
    have h1 := h (Nat.succ_pos n)
    exact Dv.dit d0 l0 hD n (dstep D R) (fun _ => by rw [dstep_len]; omega) (Dv.step d0 (by omega) l0 hR hD)
theorem last_non {h : Nat → Rat} : ∀ M : Nat, (∀ i, M ≤ i → h i = 0) → (∀ i, h i = 0) ∨ ∃ m, h m ≠ 0 ∧ ∀ i, m < i → h i = 0
  | 0, hM => .inl fun i => hM i (Nat.zero_le _)
  | M + 1, hM => by
    by_cases z : h M = 0
    · exact last_non M fun i hi => by
        rcases Nat.eq_or_lt_of_le hi with e | lt
        · rw [← e]
          exact z
        · exact hM i lt
    · exact .inr ⟨M, z, fun i hi => hM i hi⟩
theorem sumTo_zero {n : Nat} {f : Nat → Rat} (h : ∀ k, k < n → f k = 0) : sumTo n f = 0 := by
  induction n with
  | zero => rfl
  | succ n ih =>
    show sumTo n f + f n = 0
    rw [ih fun k hk => h k (by omega), h n (by omega)]
    exact Rat.add_zero 0
theorem Dv.len {p : Nat → Rat} {L : Nat} {q : List Rat} (h : Dv p L (cf q)) (p0 : 0 < L → p (L - 1) ≠ 0) (tr : Tr q) (ne : 0 < q.length) : 0 < L ∧ L ≤ q.length := by
  obtain ⟨h, M, hM, e⟩ := h
  obtain ⟨k, ek⟩ : ∃ k, q.length = k + 1 := ⟨q.length - 1, by omega⟩
  have nz := tr k ek
  rcases Nat.eq_zero_or_pos L with z | l0
  · rw [e k, z] at nz
    exact absurd rfl nz
  refine ⟨l0, ?_⟩
  obtain ⟨l, rfl⟩ : ∃ l, L = l + 1 := ⟨L - 1, by omega⟩
  rcases last_non M hM with z | ⟨m, hm, up⟩
  · rw [e k] at nz
    refine absurd ?_ nz
    refine sumTo_zero fun j hj => ?_
    rw [z]
    split
    · exact Rat.mul_zero _
    · rfl
  · have e1 : cf q (l + m) = p l * h m := by
      rw [e, convN_succ, if_pos (by omega), show l + m - l = m by omega]
      have : convN l p h (l + m) = 0 := by
        refine sumTo_zero fun j hj => ?_
        rw [if_pos (show j ≤ l + m by omega), up _ (show m < l + m - j by omega)]
        exact Rat.mul_zero _
      rw [this, Rat.zero_add]
    have pl : p l ≠ 0 := p0 l0
    rcases Nat.lt_or_ge (l + m) q.length with lt | ge
    · omega
    · rw [cf_out ge] at e1
      rcases Rat.mul_eq_zero.mp e1.symm with z | z
      · exact absurd z pl
      · exact absurd z hm
end Kz
set_option linter.all false
set_option maxRecDepth 100000
set_option maxHeartbeats 4000000
namespace Kz
open PySem PySem.Spec PyProof.Rows L2
/-! ### the program's rows of integers and the law's rows of ratios go side by side -/
def Pp (z : List Int) (q : List Rat) : Prop := z.length = q.length ∧ ∃ c : Rat, c ≠ 0 ∧ ∀ i, (ig z i : Rat) = c * cf q i
theorem ig_map {n i : Nat} {f : Nat → Int} (h : i < n) : ig ((List.range n).map f) i = f i := by
  refine ig_at ?_
  rw [List.getElem?_map, List.getElem?_range h]
  rfl
theorem pp_step {z d : List Int} {q D : List Rat} (hz : Pp z q) (hd : Pp d D) (d0 : 0 < D.length) (le : D.length ≤ q.length) (l0 : cf D (D.length - 1) ≠ 0) : Pp (pstep d z) (dstep D q) := by
  obtain ⟨lz, c, c0, ez⟩ := hz
  obtain ⟨ld, e, e0, ed⟩ := hd
  refine ⟨by rw [pstep_len, dstep_len, lz], c * e * cf D (D.length - 1), ?_, fun i => ?_⟩
  · intro z
    rcases Rat.mul_eq_zero.mp z with z | z
    · rcases Rat.mul_eq_zero.mp z with z | z
      · exact c0 z
      · exact e0 z
    · exact l0 z
  · rcases Nat.lt_or_ge i (z.length - 1) with lt | ge
    · have e1 : ig (pstep d z) i = pval d z i := ig_map lt
      rw [e1, dstep_cf d0 le l0 i]
      unfold pval dval dfac
      rw [ld, lz]
      have hl := l0
      by_cases hs : q.length - D.length ≤ i
      · rw [if_pos hs, if_pos hs, Rat.intCast_sub, Rat.intCast_mul, Rat.intCast_mul, ez, ez, ed, ed]
        generalize cf D (D.length - 1) = l at hl ⊢
        generalize cf D (i - (q.length - D.length)) = a
        generalize cf q i = b
        generalize cf q (q.length - 1) = t
        grind
      · rw [if_neg hs, if_neg hs, Int.sub_zero, Rat.intCast_mul, ez, ed]
        grind
    · rw [ig_out (by rw [pstep_len]; exact ge), cf_out (qs := dstep D q) (by rw [dstep_len]; omega), Rat.mul_zero]
      rfl
theorem pp_it {d : List Int} {D : List Rat} (hd : Pp d D) (d0 : 0 < D.length) (l0 : cf D (D.length - 1) ≠ 0) : ∀ (n : Nat) (z : List Int) (q : List Rat), (0 < n → n + D.length ≤ q.length + 1) → Pp z q → Pp (pit d n z) (dit D n q)
  | 0, z, q, _, h => h
  | n + 1, z, q, hn, h => by
    have h1 := hn (Nat.succ_pos n)
    exact pp_it hd d0 l0 n (pstep d z) (dstep D q) (fun _ => by rw [dstep_len]; omega) (pp_step h hd d0 (by omega) l0)
theorem need_exI {ns : List Int} : ∀ n : Nat, n ≤ ns.length → (∀ (i : Nat) (z : Int), n ≤ i → ns[i]? = some z → z = 0) → ∃ k, NeedI ns k
  | 0, _, h => ⟨0, Nat.zero_le _, fun i z _ e => h i z (Nat.zero_le _) e, fun j z => by cases z⟩
  | n + 1, le, h => by
    have at_ := at_ig (ns := ns) (i := n) (by omega)
    by_cases z : ig ns n = 0
    · refine need_exI n (by omega) fun i y hi e => ?_
      rcases Nat.eq_or_lt_of_le hi with q | lt
      · rw [← q, at_] at e
        rw [← Option.some.inj e]
        exact z
      · exact h i y lt e
    · exact ⟨n + 1, le, h, fun j e => by
        have : j = n := by omega
        subst this
        exact ⟨_, at_, z⟩⟩
theorem need_some (ns : List Int) : ∃ k, NeedI ns k := need_exI ns.length (Nat.le_refl _) fun i z hi e => by
  rw [List.getElem?_eq_none hi] at e
  cases e
theorem tr_make {f : Nat → Rat} : ∀ n : Nat, (∀ i, n ≤ i → f i = 0) → ∃ s : List Rat, Tr s ∧ s.length ≤ n ∧ ∀ i, cf s i = f i
  | 0, h => ⟨[], (fun k z => by cases z), Nat.le_refl _, fun i => by rw [h i (Nat.zero_le _)]; exact cf_out (Nat.zero_le _)⟩
  | n + 1, h => by
    by_cases z : f n = 0
    · obtain ⟨s, a, b, c⟩ := tr_make (f := f) n fun i hi => by
        rcases Nat.eq_or_lt_of_le hi with q | lt
        · rw [← q]
          exact z
        · exact h i lt
      exact ⟨s, a, by omega, c⟩
    · refine ⟨upTo (n + 1) f, fun k e => ?_, by rw [upTo_len]; exact Nat.le_refl _, fun i => upTo_cf h⟩
      rw [upTo_len] at e
      have : k = n := by omega
      subst this
      rw [upTo_cf h]
      exact z
theorem ig_lean {zs : List Int} {k i : Nat} (nk : NeedI zs k) : ig (leanOf zs k) i * ((gI zs : Nat) : Int) = ig zs i := by
  rcases Nat.lt_or_ge i k with lt | ge
  · have hi : i < zs.length := Nat.lt_of_lt_of_le lt nk.1
    have e : ig (leanOf zs k) i = (ig zs i).fdiv ((gI zs : Nat) : Int) := by
      refine ig_at ?_
      unfold leanOf
      rw [List.getElem?_map, List.getElem?_take, if_pos lt, at_ig hi]
      rfl
    rw [e, Int.fdiv_eq_ediv_of_nonneg _ (Int.natCast_nonneg _)]
    refine Int.ediv_mul_cancel ?_
    have := gI_dvd zs (ig zs i) (List.mem_of_getElem? (at_ig hi))
    exact Int.ofNat_dvd_left.mpr this
  · rw [ig_out (by rw [lean_len nk]; exact ge), Int.zero_mul]
    rcases Nat.lt_or_ge i zs.length with lt | ge2
    · exact (nk.2.1 i _ ge (at_ig lt)).symm
    · exact (ig_out ge2).symm
theorem lean_pp {zs : List Int} {w t : List Rat} {k : Nat} (nk : NeedI zs k) (hp : Pp zs w) (tt : Tr t) (et : ∀ i, cf t i = cf w i) : Pp (leanOf zs k) t := by
  obtain ⟨lz, c, c0, e⟩ := hp
  have zero : ∀ i, k ≤ i → cf t i = 0 := fun i hi => by
    have z : ig zs i = 0 := by
      rcases Nat.lt_or_ge i zs.length with lt | ge2
      · exact nk.2.1 i _ hi (at_ig lt)
      · exact ig_out ge2
    have h := e i
    rw [z] at h
    rcases Rat.mul_eq_zero.mp h.symm with h | h
    · exact absurd h c0
    · rw [et i, h]
  have tl : t.length ≤ k := by
    rcases Nat.lt_or_ge k t.length with lt | ge
    · obtain ⟨m, em⟩ : ∃ m, t.length = m + 1 := ⟨t.length - 1, by omega⟩
      exact absurd (zero m (by omega)) (tt m em)
    · exact ge
  rcases Nat.eq_zero_or_pos k with z | k0
  · refine ⟨by rw [lean_len nk]; omega, 1, by decide, fun i => ?_⟩
    rw [ig_out (by rw [lean_len nk]; omega), zero i (by omega), Rat.mul_zero]
    rfl
  · obtain ⟨y, ey, y0⟩ := nk.2.2 (k - 1) (by omega)
    have g0 : 0 < gI zs := gI_pos (List.mem_of_getElem? ey) y0
    have gq : ((gI zs : Nat) : Rat) ≠ 0 := fun z => by
      have := Rat.natCast_eq_zero_iff.mp z
      omega
    have all : ∀ i, (ig (leanOf zs k) i : Rat) = c / ((gI zs : Nat) : Rat) * cf t i := fun i => by
      have h1 : ((ig (leanOf zs k) i * ((gI zs : Nat) : Int) : Int) : Rat) = ((ig zs i : Int) : Rat) := by rw [ig_lean nk]
      rw [Rat.intCast_mul, e i, Rat.intCast_natCast] at h1
      rw [et i]
      grind
    refine ⟨?_, _, ?_, all⟩
    · rw [lean_len nk]
      refine Nat.le_antisymm ?_ tl
      have nz : cf t (k - 1) ≠ 0 := fun z => by
        have h := e (k - 1)
        rw [ig_at ey, ← et, z, Rat.mul_zero] at h
        exact y0 (Rat.intCast_eq_zero_iff.mp h)
      rcases Nat.lt_or_ge (k - 1) t.length with lt | ge
      · omega
      · exact absurd (cf_out ge) nz
    · intro z
      have : c = 0 := by
        have h := Rat.div_mul_cancel (a := c) gq
        rw [z, Rat.zero_mul] at h
        exact h.symm
      exact c0 this
theorem tops_ig {qs : List Rat} (i : Nat) : ((ig (topsOf qs) i : Int) : Rat) = ((lcs qs : Nat) : Rat) * cf qs i := by
  rcases Nat.lt_or_ge i qs.length with lt | ge
  · rw [ig_at (tops_get lt), topOf_eq (lcs_dvd qs _ (mem_cf lt)), Rat.mul_comm]
  · rw [ig_out (by unfold topsOf; rw [List.length_map]; exact ge), cf_out ge, Rat.mul_zero]
    rfl
theorem tops_pp (qs : List Rat) : Pp (topsOf qs) qs := by
  refine ⟨by unfold topsOf; rw [List.length_map], ((lcs qs : Nat) : Rat), fun z => ?_, tops_ig⟩
  have := Rat.natCast_eq_zero_iff.mp z
  have := lcs_pos qs
  omega
theorem shf_eq (t : List Rat) (i : Nat) : shf t i = cf t i * (((lcs t : Nat) : Rat) / ((gI (topsOf t) : Nat) : Rat)) := by
  unfold shf
  rw [Rat.divInt_eq_div, Rat.intCast_natCast, Rat.intCast_natCast]
theorem shf_pp {z : List Int} {t s : List Rat} (h : Pp z t) (tt : Tr t) (ts : Tr s) (es : ∀ i, cf s i = shf t i) : Pp z s := by
  obtain ⟨lz, c, c0, e⟩ := h
  rcases Nat.eq_zero_or_pos t.length with z0 | pos
  · have sz : ∀ i, cf s i = 0 := fun i => by rw [es i, shf_eq, cf_out (by omega), Rat.zero_mul]
    have s0 : s.length = 0 := by
      rcases Nat.eq_zero_or_pos s.length with h | h
      · exact h
      · exact absurd (sz (s.length - 1)) (ts _ (by omega))
    refine ⟨by omega, 1, by decide, fun i => ?_⟩
    rw [sz i, ig_out (by omega), Rat.mul_zero]
    rfl
  · obtain ⟨m, em⟩ : ∃ m, t.length = m + 1 := ⟨t.length - 1, by omega⟩
    have lt : m < t.length := by omega
    have nz := tt m em
    have L0 : ((lcs t : Nat) : Rat) ≠ 0 := fun z => by
      have := Rat.natCast_eq_zero_iff.mp z
      have := lcs_pos t
      omega
    have tz : topOf (lcs t) (cf t m) ≠ 0 := fun z => by
      have h := tops_ig (qs := t) m
      rw [ig_at (tops_get lt), z] at h
      rcases Rat.mul_eq_zero.mp h.symm with h | h
      · exact L0 h
      · exact nz h
    have g0 : 0 < gI (topsOf t) := gI_pos (List.mem_of_getElem? (tops_get lt)) tz
    have G0 : ((gI (topsOf t) : Nat) : Rat) ≠ 0 := fun z => by
      have := Rat.natCast_eq_zero_iff.mp z
      omega
    have f0 : ((lcs t : Nat) : Rat) / ((gI (topsOf t) : Nat) : Rat) ≠ 0 := fun z => by
      have h := Rat.div_mul_cancel (a := ((lcs t : Nat) : Rat)) G0
      rw [z, Rat.zero_mul] at h
      exact L0 h.symm
    have sl : s.length = t.length := by
      refine Nat.le_antisymm ?_ ?_
      · rcases Nat.lt_or_ge t.length s.length with lt2 | ge
        · have := ts (s.length - 1) (by omega)
          rw [es, shf_eq, cf_out (by omega), Rat.zero_mul] at this
          exact absurd rfl this
        · exact ge
      · rcases Nat.lt_or_ge m s.length with lt2 | ge
        · omega
        · have h := es m
          rw [cf_out ge, shf_eq] at h
          rcases Rat.mul_eq_zero.mp h.symm with h | h
          · exact absurd h nz
          · exact absurd h f0
    refine ⟨by omega, c / (((lcs t : Nat) : Rat) / ((gI (topsOf t) : Nat) : Rat)), fun z => ?_, fun i => ?_⟩
    · have h := Rat.div_mul_cancel (a := c) f0
      rw [z, Rat.zero_mul] at h
      exact c0 h.symm
    · rw [es i, shf_eq, e i]
      generalize ((lcs t : Nat) : Rat) / ((gI (topsOf t) : Nat) : Rat) = f at f0
      grind
theorem lean_bd {zs : List Int} {k x : Nat} (h : BdI x zs) : BdI x (leanOf zs k) := fun z hz => by
  unfold leanOf at hz
  obtain ⟨y, hy, rfl⟩ := List.mem_map.mp hz
  exact Nat.lt_of_le_of_lt natAbs_fdiv_le (h y (List.mem_of_mem_take hy))
theorem tops_bd {qs : List Rat} {x y : Nat} (h : CD x y qs) : BdI x (topsOf qs) := fun z hz => by
  obtain ⟨M, m0, _, hd, hM⟩ := cd_lcs h
  unfold topsOf at hz
  obtain ⟨q, hq, rfl⟩ := List.mem_map.mp hz
  obtain ⟨i, e⟩ := List.getElem?_of_mem hq
  obtain ⟨w, hw, ew⟩ := hM i
  rw [cf_at e] at ew
  exact top_lt hw ew (lcs_dvd qs q hq) (lcs_min qs hd) m0
theorem shf_cd {t s : List Rat} {x y : Nat} (h : CD x y t) (es : ∀ i, cf s i = shf t i) : CD x 1 s := by
  refine ⟨1, by decide, by decide, fun i => ?_⟩
  rcases Nat.lt_or_ge i t.length with lt | ge
  · have mem := List.mem_of_getElem? (tops_get lt)
    have b := tops_bd h _ mem
    obtain ⟨w, ew⟩ := gI_dvd _ _ mem
    have hx := tops_ig (qs := t) i
    rw [ig_at (tops_get lt)] at hx
    have hd : ((gI (topsOf t) : Nat) : Int) ∣ topOf (lcs t) (cf t i) := Int.ofNat_dvd_left.mpr ⟨w, ew⟩
    obtain ⟨u, eu⟩ := hd
    rcases Nat.eq_zero_or_pos (gI (topsOf t)) with g0 | g0
    · refine ⟨0, Nat.two_pow_pos _, ?_⟩
      rw [es i, shf_eq, g0, Rat.zero_divInt]
      show cf t i * (((lcs t : Nat) : Rat) / 0) = 0
      rw [Rat.div_def, Rat.inv_zero, Rat.mul_zero, Rat.mul_zero]
    · refine ⟨u, ?_, ?_⟩
      · rw [eu, Int.natAbs_mul] at b
        have l1 : 1 * u.natAbs ≤ ((gI (topsOf t) : Nat) : Int).natAbs * u.natAbs := Nat.mul_le_mul_right _ (show 1 ≤ ((gI (topsOf t) : Nat) : Int).natAbs from g0)
        omega
      · have G0 : ((gI (topsOf t) : Nat) : Rat) ≠ 0 := fun z => by
          have := Rat.natCast_eq_zero_iff.mp z
          omega
        rw [eu, Rat.intCast_mul, Rat.intCast_natCast] at hx
        rw [es i, shf_eq]
        show _ = Rat.divInt u 1
        rw [divInt_one]
        generalize ((gI (topsOf t) : Nat) : Rat) = g at hx G0
        generalize ((lcs t : Nat) : Rat) = l at hx
        grind
  · exact ⟨0, Nat.two_pow_pos _, by rw [es i, shf_eq, cf_out ge, Rat.zero_mul, Rat.zero_divInt]⟩
theorem CD.up {x y x' y' : Nat} {R : List Rat} (h : CD x y R) (a : x ≤ x') (b : y ≤ y') : CD x' y' R := by
  obtain ⟨M, m0, m1, hM⟩ := h
  exact ⟨M, m0, Nat.lt_of_lt_of_le m1 (pow_up b), fun i => by
    obtain ⟨z, hz, e⟩ := hM i
    exact ⟨z, up_lt hz a, e⟩⟩
theorem CD.of {x y : Nat} {R S : List Rat} (h : CD x y R) (e : ∀ i, cf S i = cf R i) : CD x y S := by
  obtain ⟨M, m0, m1, hM⟩ := h
  exact ⟨M, m0, m1, fun i => by
    obtain ⟨z, hz, e'⟩ := hM i
    exact ⟨z, hz, (e i).trans e'⟩⟩
end Kz
set_option linter.all false
set_option maxRecDepth 100000
set_option maxHeartbeats 4000000
namespace Kz
open PySem PySem.Spec PyProof.Rows L2
/-- the bits of the rows: a, b how much longer than the planted one they are, x, y their bits -/
def chk : Nat → Nat → Nat → Nat → Nat → Bool
  | 0, _, _, _, _ => false
  | n + 1, a, x, b, y => decide (x + (a + 1 - b) * (y + 1) ≤ 4200) && decide (y ≤ 4000) && decide (x + 7 * (y + 1) ≤ 30000) && decide (58 + (a + 1 - b) * y + y + 58 + 58 + (a + 1 - b) * y ≤ 9000) && decide (x + (a + 1 - b) * (y + 1) + (58 + (a + 1 - b) * y) ≤ 8900) &&
    (List.range b).all fun c => chk n b y c (x + (a + 1 - b) * (y + 1))
theorem chk_all : ∀ a, a < 5 → ∀ b, b < 5 → chk 8 a 58 b 58 = true := by decide +kernel
theorem runs {p : Nat → Rat} {L : Nat} (p0 : 0 < L → p (L - 1) ≠ 0) : ∀ (n a x b y : Nat) (r d : List Int) (R D : List Rat), chk n a x b y = true → 0 < x → 0 < y → Pp r R → Pp d D → BdI x r → BdI y d → CD x 58 R → CD y 58 D → Tr D → 0 < D.length →
    Dv p L (cf R) → Dv p L (cf D) → R.length ≤ L + a → D.length = L + b → L + a ≤ 7 → L + b ≤ 7 → ∃ f F, Run r d f ∧ RunQ R D F ∧ Pp f F ∧ Tr F ∧ BdI 4000 f ∧ CD 4000 58 F
  | 0, _, _, _, _, _, _, _, _, h, _, _, _, _, _, _, _, _, _, _, _, _, _, _, _, _ => by cases h
  | n + 1, a, x, b, y, r, d, R, D, h, x0, y0, hr, hd, br, bd, cR, cD, tD, d0, vR, vD, lR, lD, a7, b7 => by
    unfold chk at h
    rw [Bool.and_eq_true, Bool.and_eq_true, Bool.and_eq_true, Bool.and_eq_true, Bool.and_eq_true] at h
    obtain ⟨⟨⟨⟨⟨h1, h2⟩, h3⟩, h4⟩, h5⟩, h6⟩ := h
    have h1 := of_decide_eq_true h1
    have h2 := of_decide_eq_true h2
    have h3 := of_decide_eq_true h3
    have h4 := of_decide_eq_true h4
    have h5 := of_decide_eq_true h5
    obtain ⟨k0, ek0⟩ : ∃ k, D.length = k + 1 := ⟨D.length - 1, by omega⟩
    have l0 : cf D (D.length - 1) ≠ 0 := by
      have := tD k0 ek0
      rw [ek0]
      exact this
    have em : r.length + 1 - d.length = R.length + 1 - D.length := by rw [hr.1, hd.1]
    have ml : R.length + 1 - D.length ≤ a + 1 - b := by omega
    generalize hm : R.length + 1 - D.length = m at em ml
    have m1 : m * (y + 1) ≤ (a + 1 - b) * (y + 1) := Nat.mul_le_mul_right _ ml
    have m2 : m * y ≤ (a + 1 - b) * y := Nat.mul_le_mul_right _ ml
    generalize hz : x + (a + 1 - b) * (y + 1) = z at h1 h5 h6
    generalize hq : (a + 1 - b) * y = q at h4 h5 m2
    have pp : Pp (pit d m r) (dit D m R) := pp_it hd d0 l0 m r R (fun _ => by omega) hr
    have pb : BdI z (pit d m r) := (pit_bd bd m br).up (by omega)
    have pc : CD z (58 + q) (dit D m R) := (dit_cd cD l0 m cR).up (by omega) (by omega)
    have pv : Dv p L (cf (dit D m R)) := Dv.dit d0 l0 vD m R (fun _ => by omega) vR
    obtain ⟨k, nk⟩ := need_some (pit d m r)
    obtain ⟨t, tt, tl, et⟩ := tr_make (f := cf (dit D m R)) (dit D m R).length fun i hi => cf_out hi
    obtain ⟨s, ts, sl, es⟩ := tr_make (f := shf t) t.length fun i hi => by rw [shf_eq, cf_out hi, Rat.zero_mul]
    have pt : Pp (leanOf (pit d m r) k) t := lean_pp nk pp tt et
    have ps : Pp (leanOf (pit d m r) k) s := shf_pp pt tt ts es
    have bs : BdI z (leanOf (pit d m r) k) := lean_bd pb
    have ct : CD z (58 + q) t := pc.of et
    have cs : CD z 58 s := (shf_cd ct es).up (Nat.le_refl _) (by decide)
    have vs : Dv p L (cf s) := (pv.of et).smul _ fun i => (es i).trans (shf_eq t i)
    have sr : s.length < D.length := by
      rw [dit_len] at tl
      omega
    have hrl : R.length * (y + 1) ≤ 7 * (y + 1) := Nat.mul_le_mul_right _ (by omega)
    have st : ∀ {f F}, Run d (leanOf (pit d m r) k) f → RunQ D s F → Run r d f ∧ RunQ R D F := fun {f F} u v => by
      constructor
      · refine Run.step (x := x) (y := y) k br bd ?_ (by omega) (by rw [hd.1]; exact d0) (by rw [em]; exact nk) (by rw [em]; exact u)
        rw [em]
        omega
      · refine RunQ.step (x := x) (y := 58) (c := y) (e := 58) (x' := z) (y' := 58 + q) t s cR cD x0 (by decide) ?_ ?_ (by omega) (by decide) d0 tD tt (by rw [hm]; exact et) ct (by omega) (by omega) (by omega) ts es v
        · omega
        · rw [hm]
          omega
    rcases Nat.eq_zero_or_pos s.length with s0 | s0
    · have e1 : leanOf (pit d m r) k = [] := List.eq_nil_of_length_eq_zero (by rw [ps.1]; exact s0)
      have e2 : s = [] := List.eq_nil_of_length_eq_zero s0
      refine ⟨d, D, ?_⟩
      have := st (f := d) (F := D) (by rw [e1]; exact .done) (by rw [e2]; exact .done)
      exact ⟨this.1, this.2, hd, tD, bd.up h2, cD.up h2 (Nat.le_refl _)⟩
    · obtain ⟨L0, ls⟩ := vs.len p0 ts s0
      obtain ⟨c, ec⟩ : ∃ c, s.length = L + c := ⟨s.length - L, by omega⟩
      have hc : chk n b y c z = true := List.all_eq_true.mp h6 c (List.mem_range.mpr (by omega))
      obtain ⟨f, F, u, v, rest⟩ := runs p0 n b y c z d _ D s hc y0 (by omega) hd ps bd bs cD cs ts s0 vD vs (by omega) ec (by omega) (by omega)
      exact ⟨f, F, (st u v).1, (st u v).2, rest⟩
/-- the two searches for the common divisor of two multiples of p come to the same -/
theorem gcds {p qs rs : List Rat} (tp : Tr p) (tq : Tr qs) (tr : Tr rs) (cq : CD 58 58 qs) (cr : CD 58 58 rs) (vq : Dv (cf p) p.length (cf qs)) (vr : Dv (cf p) p.length (cf rs)) (lq : qs.length ≤ p.length + 4) (lr : rs.length ≤ p.length + 4) (lp : p.length ≤ 3) :
    ∃ k k' f F, NeedI (topsOf qs) k ∧ NeedI (topsOf rs) k' ∧ Run (leanOf (topsOf qs) k) (leanOf (topsOf rs) k') f ∧ RunQ qs rs F ∧ Pp f F ∧ Tr F ∧ BdI 4000 f ∧ CD 4000 58 F := by
  obtain ⟨k, nk⟩ := need_some (topsOf qs)
  obtain ⟨k', nk'⟩ := need_some (topsOf rs)
  have pq : Pp (leanOf (topsOf qs) k) qs := lean_pp nk (tops_pp qs) tq fun _ => rfl
  have pr : Pp (leanOf (topsOf rs) k') rs := lean_pp nk' (tops_pp rs) tr fun _ => rfl
  have bq : BdI 58 (leanOf (topsOf qs) k) := lean_bd (tops_bd cq)
  have br : BdI 58 (leanOf (topsOf rs) k') := lean_bd (tops_bd cr)
  rcases Nat.eq_zero_or_pos rs.length with z | pos
  · have e1 : leanOf (topsOf rs) k' = [] := List.eq_nil_of_length_eq_zero (by rw [pr.1]; exact z)
    have e2 : rs = [] := List.eq_nil_of_length_eq_zero z
    refine ⟨k, k', _, qs, nk, nk', ?_, ?_, pq, tq, bq.up (by decide), cq.up (by decide) (by decide)⟩
    · rw [e1]
      exact .done
    · rw [e2]
      exact .done
  · have p0 : 0 < p.length → cf p (p.length - 1) ≠ 0 := fun h => tp (p.length - 1) (by omega)
    obtain ⟨L0, lr'⟩ := vr.len p0 tr pos
    obtain ⟨b, eb⟩ : ∃ b, rs.length = p.length + b := ⟨rs.length - p.length, by omega⟩
    obtain ⟨f, F, u, v, rest⟩ := runs p0 8 4 58 b 58 _ _ qs rs (chk_all 4 (by decide) b (by omega)) (by decide) (by decide) pq pr bq br cq cr tr pos vq vr lq eb (by omega) (by omega)
    exact ⟨k, k', f, F, nk, nk', u, v, rest⟩
/-- .. and what both tell is the same -/
theorem Pp.monic {f : List Int} {F : List Rat} (h : Pp f F) (i : Nat) : (ig f i : Rat) / (ig f (f.length - 1) : Rat) = cf F i * (1 / cf F (F.length - 1)) := by
  obtain ⟨l, c, c0, e⟩ := h
  rw [e, e, l]
  by_cases z : cf F (F.length - 1) = 0
  · rw [z, Rat.mul_zero, Rat.div_def, Rat.div_def, Rat.inv_zero, Rat.mul_zero, Rat.mul_zero, Rat.mul_zero]
  · generalize cf F (F.length - 1) = u at z ⊢
    grind
theorem Pp.last {f : List Int} {F : List Rat} (h : Pp f F) (t : Tr F) : ∀ j, f.length = j + 1 → ig f j ≠ 0 := by
  obtain ⟨l, c, c0, e⟩ := h
  intro j hj z
  have h := e j
  rw [z] at h
  rcases Rat.mul_eq_zero.mp h.symm with h | h
  · exact c0 h
  · exact t j (by omega) h
end Kz
set_option linter.all false
set_option maxRecDepth 100000
set_option maxHeartbeats 4000000
namespace Kz
open PySem PySem.Spec PyProof.Rows L2
/-- .. and all the law's other defs -/
structure Tu (P : Program) (K : PySem.W.Frag) (mg : Str → Option Value) extends Tv P K mg where
  l_pen : Df K mg "_law_pen" (top 36) ["_law_script"]
  l_draw : Df K mg "_law_draw" (top 37) ["_law_pen_here", "_law_many"]
  l_pick : Df K mg "_law_pick" (top 38) ["_law_pen_here", "_law_some"]
  l_whole : Df K mg "_law_is_whole" (top 39) ["_law_thing"]
  l_passed : Df K mg "_law_passed" (top 47) ["_law_pen_here", "_law_ratio_here"]
  l_ratio : Df K mg "_law_ratio" (top 48) ["_law_pen_here", "_law_most"]
  l_made : Df K mg "_law_made_poly" (top 61) ["_law_pen_here", "_law_one"]
  l_drawn : Df K mg "_law_drawn" (top 62) ["_law_pen_here", "_law_degree", "_law_most"]
  l_why : Df K mg "_law_why" (top 63) ["_law_call"]
  l_is : Df K mg "_law_is" (top 64) ["_law_value", "_law_due"]
  l_any : Df K mg "_law_any" (top 65) ["_law_pen_here"]
  l_far : Df K mg "_law_far" (top 66) ["_law_pen_here"]
  l_some : Df K mg "_law_some_ratio" (top 67) ["_law_pen_here"]
  l_rr : Df K mg "_law_ratios_right" (top 68) ["_law_pen_here"]
  l_mr : Df K mg "_law_made_right" (top 69) ["_law_pen_here"]
  l_dr : Df K mg "_law_divided_right" (top 70) ["_law_pen_here"]
  nbN : cN ≠ B
  nbR : cR ≠ B
  neRN : cR ≠ cN

/-! ### what a draw leaves as it is -/
section
variable {K : PySem.W.Frag} {H H' : Hp} {p c : Addr} {n : Nat}
theorem Pen.seqT {a : Addr} {xs : List V} (b : But p H H') (pen : Pen H p c n) (h : SqT K H a xs) : SqT K H' a xs := by
  obtain ⟨ns, i, d, m, f, e1, _⟩ := pen
  rcases h with (h | ⟨o, h⟩) | h
  · exact .inl (.inl (b _ _ h (ne_of h e1 (fun z => nomatch z))))
  · exact .inl (.inr ⟨o, b _ _ h (ne_of h e1 (fun z => nomatch z))⟩)
  · exact .inr h
theorem Pen.seqL {a : Addr} {xs : List V} (b : But p H H') (pen : Pen H p c n) (h : SqL K H a xs) : SqL K H' a xs := by
  obtain ⟨ns, i, d, m, f, e1, _⟩ := pen
  rcases h with (h | ⟨o, h⟩) | h
  · exact .inl (.inl (b _ _ h (ne_of h e1 (fun z => nomatch z))))
  · exact .inl (.inr ⟨o, b _ _ h (ne_of h e1 (fun z => nomatch z))⟩)
  · exact .inr h
theorem Pen.sq {a : Addr} {xs : List V} (b : But p H H') (pen : Pen H p c n) (h : Sq K H a xs) : Sq K H' a xs := h.elim (fun h => .inl (pen.seqL b h)) fun h => .inr (pen.seqT b h)
theorem Pen.lst {a : Addr} {xs : List V} (b : But p H H') (pen : Pen H p c n) (h : H a = some (.lst xs)) : H' a = some (.lst xs) := by
  obtain ⟨ns, i, d, m, f, e1, _⟩ := pen
  exact b _ _ h (ne_of h e1 (fun z => nomatch z))
theorem Pen.rv {v : V} {q : Rat} (b : But p H H') (pen : Pen H p c n) (h : RV K H v q) : RV K H' v q := by
  obtain ⟨t, e, h⟩ := h
  exact ⟨t, e, pen.seqT b h⟩
theorem Pen.arg {v : V} {x y : Int} (b : But p H H') (pen : Pen H p c n) (h : Arg K H v x y) : Arg K H' v x y := by
  cases h with
  | int => exact .int
  | two h z => exact .two (pen.sq b h) z
theorem Pen.argQ {v : V} {x y : Nat} {q : Rat} (b : But p H H') (pen : Pen H p c n) (h : ArgQ K H v x y q) : ArgQ K H' v x y q := by
  obtain ⟨s, t, h, r⟩ := h
  exact ⟨s, t, pen.arg b h, r⟩
theorem Pen.al {vs : List V} {qs : List Rat} (b : But p H H') (pen : Pen H p c n) (h : Al K H vs qs) : Al K H' vs qs := ⟨h.1, fun i v q e1 e2 => pen.rv b (h.2 i v q e1 e2)⟩
theorem Pen.alA {vs : List V} {x y : Nat} {qs : List Rat} (b : But p H H') (pen : Pen H p c n) (h : AlA K H vs x y qs) : AlA K H' vs x y qs := ⟨h.1, fun i v q e1 e2 => pen.argQ b (h.2 i v q e1 e2)⟩
theorem Pen.lr {v : V} {qs : List Rat} (b : But p H H') (pen : Pen H p c n) (h : LR K H v qs) : LR K H' v qs := by
  obtain ⟨l, vs, e, hl, al⟩ := h
  exact ⟨l, vs, e, pen.lst b hl, pen.al b al⟩
theorem Pen.poly {cP : Addr} {v : V} {qs : List Rat} (b : But p H H') (pen : Pen H p c n) (h : PolyAt K cP H v qs) : PolyAt K cP H' v qs := by
  obtain ⟨a, dx, t, ws, e, ha, ht, al, tr⟩ := h
  have ea : H' a = some (.ins cP dx [("numbers", .ref t)]) := by
    obtain ⟨ns, i, d, m, f, e1, _⟩ := pen
    exact b _ _ ha (ne_of ha e1 (fun z => nomatch z))
  exact ⟨a, dx, t, ws, e, ea, pen.seqT b ht, pen.al b al, tr⟩
/-- all stands as before but what is at p and the tables of code objects -/
def ButN (p : Addr) (H H' : Hp) : Prop := ∀ b o, H b = some o → b ≠ p → (∀ ps, o ≠ .tbl ps) → H' b = some o
theorem But.toN (b : But p H H') : ButN p H H' := fun a o e n _ => b a o e n
theorem ButN.trans {H1 H2 H3 : Hp} {p : Addr} (a : ButN p H1 H2) (b : ButN p H2 H3) : ButN p H1 H3 := fun c o e n t => b c o (a c o e n t) n t
/-- the heap without what is at p, and without tables -/
def cl (p : Addr) (H : Hp) : Hp := fun b => if b = p then none else match H b with
  | some (.tbl _) => none
  | o => o
theorem cl_some {b : Addr} {o : HO} (e : cl p H b = some o) : b ≠ p ∧ H b = some o ∧ ∀ ps, o ≠ .tbl ps := by
  unfold cl at e
  by_cases n : b = p
  · rw [if_pos n] at e
    cases e
  · rw [if_neg n] at e
    cases h : H b with
    | none =>
      rw [h] at e
      cases e
    | some u =>
      rw [h] at e
      cases u with
      | tbl ps => cases e
      | _ =>
        cases e
        exact ⟨n, rfl, fun ps z => nomatch z⟩
theorem cl_at {b : Addr} {o : HO} (n : b ≠ p) (e : H b = some o) (t : ∀ ps, o ≠ .tbl ps) : cl p H b = some o := by
  unfold cl
  rw [if_neg n, e]
  cases o with
  | tbl ps => exact absurd rfl (t ps)
  | _ => rfl
theorem ButN.cl (b : ButN p H H') : Same (cl p H) (cl p H') := fun a o e => by
  obtain ⟨n, e, t⟩ := cl_some e
  exact cl_at n (b a o e n t) t
theorem But.cl (b : But p H H') : Same (cl p H) (cl p H') := b.toN.cl
theorem cl_sub : Same (Kz.cl p H) H := fun _ _ e => (cl_some e).2.1
/-- what is told of the heap, without p and tables -/
theorem Pen.cT {a : Addr} {xs : List V} (pen : Pen H p c n) (h : SqT K H a xs) : SqT K (Kz.cl p H) a xs := by
  obtain ⟨ns, i, d, m, f, e1, _⟩ := pen
  rcases h with (h | ⟨o, h⟩) | h
  · exact .inl (.inl (cl_at (ne_of h e1 (fun z => nomatch z)) h fun _ z => nomatch z))
  · exact .inl (.inr ⟨o, cl_at (ne_of h e1 (fun z => nomatch z)) h fun _ z => nomatch z⟩)
  · exact .inr h
theorem Pen.cL {a : Addr} {xs : List V} (pen : Pen H p c n) (h : SqL K H a xs) : SqL K (Kz.cl p H) a xs := by
  obtain ⟨ns, i, d, m, f, e1, _⟩ := pen
  rcases h with (h | ⟨o, h⟩) | h
  · exact .inl (.inl (cl_at (ne_of h e1 (fun z => nomatch z)) h fun _ z => nomatch z))
  · exact .inl (.inr ⟨o, cl_at (ne_of h e1 (fun z => nomatch z)) h fun _ z => nomatch z⟩)
  · exact .inr h
theorem Pen.cS {a : Addr} {xs : List V} (pen : Pen H p c n) (h : Sq K H a xs) : Sq K (Kz.cl p H) a xs := h.elim (fun h => .inl (pen.cL h)) fun h => .inr (pen.cT h)
theorem Pen.cRv {v : V} {q : Rat} (pen : Pen H p c n) (h : RV K H v q) : RV K (Kz.cl p H) v q := by
  obtain ⟨t, e, h⟩ := h
  exact ⟨t, e, pen.cT h⟩
theorem Pen.cArg {v : V} {x y : Nat} {q : Rat} (pen : Pen H p c n) (h : ArgQ K H v x y q) : ArgQ K (Kz.cl p H) v x y q := by
  obtain ⟨s, t, h, r⟩ := h
  refine ⟨s, t, ?_, r⟩
  cases h with
  | int => exact .int
  | two h z => exact .two (pen.cS h) z
theorem Pen.cAl {vs : List V} {qs : List Rat} (pen : Pen H p c n) (h : Al K H vs qs) : Al K (Kz.cl p H) vs qs := ⟨h.1, fun i v q e1 e2 => pen.cRv (h.2 i v q e1 e2)⟩
theorem Pen.cAlA {vs : List V} {x y : Nat} {qs : List Rat} (pen : Pen H p c n) (h : AlA K H vs x y qs) : AlA K (Kz.cl p H) vs x y qs := ⟨h.1, fun i v q e1 e2 => pen.cArg (h.2 i v q e1 e2)⟩
theorem Pen.cHas {a : Addr} {o : HO} (pen : Pen H p c n) (h : H a = some o) (nd : ∀ kvs, o ≠ .dK kvs) (nt : ∀ ps, o ≠ .tbl ps) : Kz.cl p H a = some o := by
  obtain ⟨ns, i, d, m, f, e1, _⟩ := pen
  exact cl_at (ne_of h e1 (nd _)) h nt
theorem Pen.cLr {v : V} {qs : List Rat} (pen : Pen H p c n) (h : LR K H v qs) : LR K (Kz.cl p H) v qs := by
  obtain ⟨l, vs, e, hl, al⟩ := h
  exact ⟨l, vs, e, pen.cHas hl (fun _ z => nomatch z) (fun _ z => nomatch z), pen.cAl al⟩
theorem Pen.cPoly {cP : Addr} {v : V} {qs : List Rat} (pen : Pen H p c n) (h : PolyAt K cP H v qs) : PolyAt K cP (Kz.cl p H) v qs := by
  obtain ⟨a, dx, t, ws, e, ha, ht, al, tr⟩ := h
  exact ⟨a, dx, t, ws, e, pen.cHas ha (fun _ z => nomatch z) (fun _ z => nomatch z), pen.cT ht, pen.cAl al, tr⟩
theorem Pen.extN (b : ∀ a o, H a = some o → (∀ ps, o ≠ .tbl ps) → H' a = some o) (pen : Pen H p c n) : Pen H' p c n := by
  obtain ⟨ns, i, d, m, f, e1, e2, r⟩ := pen
  exact ⟨ns, i, d, m, f, b _ _ e1 (fun _ z => nomatch z), b _ _ e2 (fun _ z => nomatch z), r⟩
theorem But.ofSame (s : Same H H') : But p H H' := fun b o e _ => s b o e
theorem But.del (b : But p H H') : Same (del H p) (del H' p) := fun a o e => by
  by_cases n : a = p
  · rw [n, del_same] at e
    cases e
  · rw [del_ne n] at e ⊢
    exact b a o e n
theorem del_sub : Same (del H p) H := fun a o e => by
  by_cases n : a = p
  · rw [n, del_same] at e
    cases e
  · rwa [del_ne n] at e
end
section
variable {P : Program} {w : World} {K : PySem.W.Frag} {mg : Str → Option Value} {base : Heap}
theorem ok_lpen (T : Tu P K mg) : FnOk P w K mg base CX0 1 T.l_pen.f T.l_pen.fd ["_law_script"] (spPen K) := ok_pen T.l_pen.fn T.blt
theorem ok_ldraw (T : Tu P K mg) : FnOk P w K mg base CX0 1 T.l_draw.f T.l_draw.fd ["_law_pen_here", "_law_many"] spDraw := ok_draw T.l_draw.fn T.blt
theorem ok_lpick (T : Tu P K mg) : FnOk P w K mg base CX0 2 T.l_pick.f T.l_pick.fd ["_law_pen_here", "_law_some"] spPick := ok_pick T.l_pick.fn T.blt T.l_draw.fn T.l_draw.g T.l_draw.b
theorem ok_lfar (T : Tu P K mg) : FnOk P w K mg base CX0 3 T.l_far.f T.l_far.fd ["_law_pen_here"] spFar := ok_far T.l_far.fn T.blt T.l_draw.fn T.l_draw.g T.l_draw.b T.l_pick.fn T.l_pick.g T.l_pick.b
theorem sc38 : FnScope ["_law_thing"] ["_law_thing"] (defScope (top 39)) := ⟨rfl, rfl, rfl, by decide +kernel, rfl, by decide +kernel, by decide +kernel⟩
theorem ok_lwhole (T : Tu P K mg) : FnOk P w K mg base CX0 1 T.l_whole.f T.l_whole.fd ["_law_thing"] (spWhole K) := by
  refine T.l_whole.fn.ok sc38 (fun vs H Q E h => ?_) (fun cdv A outer s H vs Q E hr h => ?_)
  · obtain ⟨v, t, rfl, _⟩ := h
    rfl
  · obtain ⟨v, t, rfl, ty, q⟩ := h
    refine ⟨_, pss_one (ps_ret (pe_and (pe_callB call_isi (by rfl) T.mIsi boot_isi (pa_cons (pv 0) (pa_cons (pe_bltn (v := .ty "int") (by rfl) T.blt.int boot_tint rfl) pa_nil)))
      (pe_one (pe_not (pe_callB call_isi (by rfl) T.mIsi boot_isi (pa_cons (pv 0) (pa_cons (pe_bltn (v := .ty "bool") (by rfl) T.mBool boot_tbool rfl) pa_nil))))))), ?_⟩
    refine ⟨_, rfl, v, _, _, _, _, rfl, .ty _, ty.1, kit_ty (kb_int t ty.2), _, rfl, ?_⟩
    have e := int_not_bool t ty.2
    cases c : (t == "int" || t == "bool") with
    | true =>
      rw [c, Bool.true_and] at e
      refine iteT ⟨_, rfl, v, _, _, _, _, rfl, .ty _, ty.1, kit_ty (kb_bool t ty.2), _, rfl, ?_⟩
      rw [e]
      exact q
    | false =>
      rw [c, Bool.false_and] at e
      refine iteF ?_
      rw [e]
      exact q
def spIs : Sp := fun vs H Q _ => ∃ a b : Bool, vs = [.bl a, .bl b] ∧ Q (.bl (decide (a = b))) H
theorem sc63 : FnScope ["_law_value", "_law_due"] ["_law_value", "_law_due"] (defScope (top 64)) := ⟨rfl, rfl, rfl, by decide +kernel, rfl, by decide +kernel, by decide +kernel⟩
theorem ok_lis (T : Tu P K mg) : FnOk P w K mg base CX0 1 T.l_is.f T.l_is.fd ["_law_value", "_law_due"] spIs := by
  refine T.l_is.fn.ok sc63 (fun vs H Q E h => ?_) (fun cdv A outer s H vs Q E hr h => ?_)
  · obtain ⟨a, b, rfl, _⟩ := h
    rfl
  · obtain ⟨a, b, rfl, q⟩ := h
    refine ⟨_, pss_one (ps_ret (pe_ifExp (pt_val (pv 1)) (pe_cmpR op_is_bl (pv 0) pe_bl (nomark _)) (pe_cmpR op_is_bl (pv 0) pe_bl (nomark _)))), ?_⟩
    cases b with
    | true => exact ⟨_, rfl, _, rfl, iteT ⟨_, rfl, _, _, rfl, rfl, q⟩⟩
    | false => exact ⟨_, rfl, _, rfl, iteF ⟨_, rfl, _, _, rfl, rfl, q⟩⟩
def spSomeR (K : PySem.W.Frag) : Sp := fun vs H Q _ => ∃ (p c : Addr) (n : Nat), vs = [.ref p] ∧ Pen H p c n ∧ n ≤ 800000 ∧
  ∀ v H' q, Pen H' p c (n + 40) → But p H H' → RV K H' v q → Sz 60 60 q → Q v H'
theorem sc66 : FnScope ["_law_pen_here"] ["_law_pen_here"] (defScope (top 67)) := ⟨rfl, rfl, rfl, by decide +kernel, rfl, by decide +kernel, by decide +kernel⟩
theorem ok_lsome (T : Tu P K mg) : FnOk P w K mg base CX0 4 T.l_some.f T.l_some.fd ["_law_pen_here"] (spSomeR K) := by
  have G1 : FnOk P w K mg base CX0 3 T.l_far.f T.l_far.fd ["_law_pen_here"] spFar := ok_lfar T
  have G2 : FnOk P w K mg base CX0 2 T.l_q.f T.l_q.fd ["_law_top", "_law_bottom"] (spLq K) := ok_lq T.toTy
  refine T.l_some.fn.ok sc66 (fun vs H Q E h => ?_) (fun cdv A outer s H vs Q E hr h => ?_)
  · obtain ⟨p, c, n, rfl, _⟩ := h
    rfl
  · obtain ⟨p, c, n, rfl, pen, hn, k⟩ := h
    refine ⟨_, pss_one (ps_ret (T.l_q.c0 G2 (hr.mono (by decide)) (pa_cons (T.l_far.c0 G1 hr (pa_cons (pv 0) pa_nil)) (pa_cons (pe_op op_add pe_int (pe_callB call_abs (by rfl) T.mAbs boot_abs (pa_cons (T.l_far.c0 G1 hr (pa_cons (pv 0) pa_nil)) pa_nil))) pa_nil)))), ?_⟩
    refine ⟨_, rfl, p, c, n, rfl, pen, by omega, fun y H1 y0 y1 pen1 but1 => ?_⟩
    refine ⟨_, rfl, p, c, n + 20, rfl, pen1, by omega, fun z H2 z0 z1 pen2 but2 => ?_⟩
    have e60 : (10 : Int) ^ 18 = 1000000000000000000 := by decide
    have f60 : (2 : Nat) ^ 60 = 1152921504606846976 := by decide
    refine ⟨_, rfl, _, _, rfl, rfl, ?_⟩
    rw [abs_nat]
    have b0 : 0 < 1 + ((z.natAbs : Nat) : Int) := by omega
    have b1 : (1 + ((z.natAbs : Nat) : Int)).natAbs < 2 ^ 60 := by omega
    refine ⟨_, _, rfl, by omega, up_lt b1 (by decide), fun v H3 s3 rv => k v H3 _ ((pen2.same s3).more (by omega)) ((but1.trans but2).trans (.ofSame s3)) rv (sz_divInt b0 ?_ b1)⟩
    omega
end
end Kz
set_option linter.all false
set_option maxRecDepth 100000
set_option maxHeartbeats 4000000
namespace Kz
open PySem PySem.Spec PyProof.Rows L2
section
variable {P : Program} {w : World} {K : PySem.W.Frag} {mg : Str → Option Value} {base : Heap}
theorem Dq.lstN {H : Hp} {a : Addr} {xs : List V} {ds : List PyData} (h : H a = some (.lst xs)) (n : a ≠ sysModules) (d : DqAll K H xs ds) : Dq K H (.ref a) (.list ds) := .lst h n d
theorem small_two {f : List PyData → PyData} (hf : f = .list ∨ f = .tuple) {a b : Int} (ha : a.natAbs.log2 < 1920) (hb : b.natAbs.log2 < 1920) : Small (f [.int a, .int b]) := by
  have sa := small_int ha
  have sb := small_int hb
  have a1 := sa.sh
  have b1 := sb.sh
  have a3 := sa.lv
  have b3 := sb.lv
  rcases hf with rfl | rfl
  · refine ⟨?_, ?_, ?_, ?_⟩
    · simp only [PyData.showable, PyData.showableAll, Bool.and_true] at a1 b1 ⊢
      rw [a1, b1]
      rfl
    · simp only [PyData.depth, PyData.depthAll]
      decide
    · simp only [PyData.leavesShort, PyData.leavesShortAll, Bool.and_true] at a3 b3 ⊢
      rw [a3, b3]
      rfl
    · simp only [PyData.bulk, PyData.bulkAll]
      decide
  · refine ⟨?_, ?_, ?_, ?_⟩
    · simp only [PyData.showable, PyData.showableAll, Bool.and_true] at a1 b1 ⊢
      rw [a1, b1]
      rfl
    · simp only [PyData.depth, PyData.depthAll]
      decide
    · simp only [PyData.leavesShort, PyData.leavesShortAll, Bool.and_true] at a3 b3 ⊢
      rw [a3, b3]
      rfl
    · simp only [PyData.bulk, PyData.bulkAll]
      decide
theorem log_lt {a : Int} {n : Nat} (h : a.natAbs < 2 ^ n) (l : n ≤ 1900) : a.natAbs.log2 < 1920 := by
  by_cases e : a.natAbs = 0
  · rw [e]
    decide
  · have := (Nat.log2_lt e).mpr h
    omega
/-- a ratio, passed in any way -/
def spPassed (K : PySem.W.Frag) : Sp := fun vs H Q _ => ∃ (p c : Addr) (n : Nat) (v : V) (q : Rat) (i j : Nat), vs = [.ref p, v] ∧ Pen H p c n ∧ n ≤ 900000 ∧ RV K H v q ∧ Sz i j q ∧ 0 < i ∧ 0 < j ∧ i ≤ 1800 ∧ j ≤ 1800 ∧
  ∀ u H', Pen H' p c (n + 3) → But p H H' → ArgQ K H' u (i + 2) (j + 2) q → Good K (cl p H') u → (∀ a, u = .ref a → H a = none) → Q u H'
theorem But.gone {p c a : Addr} {n : Nat} {H H' : Hp} (b : But p H H') (pen : Pen H' p c n) (h : H' a = none) : H a = none := by
  cases e : H a with
  | none => rfl
  | some o =>
    by_cases z : a = p
    · obtain ⟨ns, i, d, m, f, e1, _⟩ := pen
      rw [z, e1] at h
      cases h
    · rw [b a o e z] at h
      cases h
abbrev nPa : List Str := ["_law_pen_here", "_law_ratio_here", "_law_by"]
theorem sc46 : FnScope nPa ["_law_pen_here", "_law_ratio_here"] (defScope (top 47)) := ⟨rfl, rfl, rfl, by decide +kernel, rfl, by decide +kernel, by decide +kernel⟩
theorem ok_lpassed (T : Tu P K mg) : FnOk P w K mg base CX0 3 T.l_passed.f T.l_passed.fd ["_law_pen_here", "_law_ratio_here"] (spPassed K) := by
  have G1 : FnOk P w K mg base CX0 1 T.l_draw.f T.l_draw.fd ["_law_pen_here", "_law_many"] spDraw := ok_ldraw T
  have G2 : FnOk P w K mg base CX0 2 T.l_pick.f T.l_pick.fd ["_law_pen_here", "_law_some"] spPick := ok_lpick T
  refine T.l_passed.fn.ok sc46 (fun vs H Q E h => ?_) (fun cdv A outer s H vs Q E hr h => ?_)
  · obtain ⟨p, c, n, v, q, i, j, rfl, _⟩ := h
    rfl
  · obtain ⟨p, c, n, v, q, i, j, rfl, pen, hn, rv, zq, i0, j0, i1, j1, k⟩ := h
    have hr1 : Room 1 _ := hr.mono (by decide)
    refine ⟨_, C8.pss_cut (ps_if (PW.pt (pw_and (pt_cmpR op_eq (pe_ix ix_tup (pv 1) pe_int (fun _ _ => rfl)) pe_int (nomark _)) (pw_and1 (pt_cmpR op_eq (T.l_draw.c0 G1 hr1 (pa_cons (pv 0) (pa_cons pe_int pa_nil))) pe_int (nomark _)))))
        (pss_one (ps_ret (pe_ix ix_tup (pv 1) pe_int (fun _ _ => rfl)))) pss_nil)
      (pss_cons (ps_set (i := 2) sc46.nd rfl (.inl rfl) (T.l_pick.c0 G2 hr (pa_cons (pv 0) (pa_cons (pe_lst (pa_cons pe_int (pa_cons pe_int (pa_cons pe_int (pa_cons pe_int pa_nil))))) pa_nil))))
      (pss_one (ps_ret (T.l_pick.c0 G2 hr (pa_cons (pv 0) (pa_cons (pe_lst (pa_cons
        (pe_tup (pa_cons (pe_op op_mulW (pe_ix ix_tup (pv 1) pe_int (fun _ _ => rfl)) (pv 2)) (pa_cons (pe_op op_mulW (pe_ix ix_tup (pv 1) pe_int (fun _ _ => rfl)) (pv 2)) pa_nil)))
        (pa_cons (pe_lstN (pa_cons (pe_op op_mulW (pe_ix ix_tup (pv 1) pe_int (fun _ _ => rfl)) (pv 2)) (pa_cons (pe_op op_mulW (pe_ix ix_tup (pv 1) pe_int (fun _ _ => rfl)) (pv 2)) pa_nil))) pa_nil))) pa_nil)))))), ?_⟩
    obtain ⟨t, rfl, ht⟩ := rv
    have d0 := den_pos' q
    refine ⟨fun σ H' => σ = [some (.ref p), some (.ref t), none] ∧ ∃ m, m ≤ n + 1 ∧ Pen H' p c m ∧ But p H H', ?_, ?_⟩
    · refine ⟨_, rfl, _, _, _, _, rfl, rfl, ht, rfl, rfl, _, rfl, ?_⟩
      by_cases e1 : V.int (q.den : Int) = V.int 1
      · rw [decide_eq_true e1]
        refine iteT ⟨_, rfl, p, c, n, 2, rfl, pen, by omega, by decide, by decide, fun d H1 d0 d1 pen1 but1 => ?_⟩
        refine ⟨rfl, _, rfl, ?_⟩
        refine ite2 (fun _ => ?_) (fun _ => ⟨rfl, n + 1, Nat.le_refl _, pen1, but1⟩)
        refine ⟨_, rfl, _, _, _, _, rfl, rfl, pen.seqT but1 ht, rfl, ?_⟩
        have e1' : (q.den : Int) = 1 := V.int.inj e1
        refine k _ _ (pen1.more (by omega)) but1 ⟨q.num, 1, .int, ?_, up_lt zq.1 (by omega), ?_⟩ ⟨_, .int _, small_int (log_lt zq.1 (by omega))⟩ (fun _ z => nomatch z)
        · have := Rat.num_divInt_den q
          rw [e1'] at this
          exact this.symm
        · show (1 : Nat) < 2 ^ (j + 2)
          exact Nat.one_lt_two_pow (by omega)
      · rw [decide_eq_false e1]
        exact iteF (iteF ⟨rfl, n, by omega, pen, But.refl⟩)
    · rintro σ H1 ⟨rfl, m, hm, pen1, but1⟩
      have ht1 := pen.seqT but1 ht
      refine ⟨_, rfl, (by show 4 ≤ sizeLine; decide), fun l nl => ?_⟩
      refine ⟨p, c, l, m, _, rfl, pen1.new nl, by omega, upd_same, by decide, by decide, fun z v H2 hz pen2 but2 => ?_⟩
      have three : ∃ b : Int, v = .int b ∧ 0 < b ∧ b ≤ 3 := by
        have mem := mem_of_at hz
        simp only [List.mem_cons, List.not_mem_nil, or_false] at mem
        rcases mem with rfl | rfl | rfl | rfl
        · exact ⟨1, rfl, by decide, by decide⟩
        · exact ⟨1, rfl, by decide, by decide⟩
        · exact ⟨2, rfl, by decide, by decide⟩
        · exact ⟨3, rfl, by decide, by decide⟩
      obtain ⟨b, rfl, b0, b3⟩ := three
      have but02 : But p H H2 := (but1.trans (But.ofSame (Same.new nl))).trans but2
      have ht2 := pen.seqT but02 ht
      have bb : b.natAbs < 2 ^ 2 := by
        have : (2 : Nat) ^ 2 = 4 := by decide
        omega
      have w1 : (q.num * b).natAbs < 2 ^ (i + 2) := wide_lt zq.1 bb
      have w2 : ((q.den : Int) * b).natAbs < 2 ^ (j + 2) := wide_lt (den_abs zq) bb
      have c1 : CMulW q.num b := cmulW zq.1 bb (by omega)
      have c2 : CMulW (q.den : Int) b := cmulW (den_abs zq) bb (by omega)
      have pos : 0 < (q.den : Int) * b := Int.mul_pos d0 b0
      have eq : q = Rat.divInt (q.num * b) ((q.den : Int) * b) := by
        rw [Rat.divInt_mul_right (by omega), Rat.num_divInt_den]
      refine ⟨_, rfl, _, rfl, ?_⟩
      refine ⟨_, _, _, _, rfl, rfl, ht2, rfl, _, rfl, _, _, rfl, rfl, c1, _, rfl, _, _, _, _, rfl, rfl, ht2, rfl, _, rfl, _, _, rfl, rfl, c2, (by show 2 ≤ sizeLine; decide), fun a na => ?_⟩
      have s3 := Same.new (o := .tup [.int (q.num * b), .int ((q.den : Int) * b)]) na
      have e3 : upd H2 a (.tup [.int (q.num * b), .int ((q.den : Int) * b)]) a = some (.tup [.int (q.num * b), .int ((q.den : Int) * b)]) := upd_same
      have pen3 := pen2.same s3
      have but3 := but02.trans (.ofSame s3)
      generalize upd H2 a (.tup [.int (q.num * b), .int ((q.den : Int) * b)]) = H3 at s3 e3 pen3 but3
      have ht3 := Kz.Same.seqT s3 ht2
      refine ⟨_, rfl, _, _, _, _, rfl, rfl, ht3, rfl, _, rfl, _, _, rfl, rfl, c1, _, rfl, _, _, _, _, rfl, rfl, ht3, rfl, _, rfl, _, _, rfl, rfl, c2, (by show 2 ≤ sizeLine; decide), fun d nd nm => ?_⟩
      have s4 := Same.new (o := .lst [.int (q.num * b), .int ((q.den : Int) * b)]) nd
      have e4 : upd H3 d (.lst [.int (q.num * b), .int ((q.den : Int) * b)]) d = some (.lst [.int (q.num * b), .int ((q.den : Int) * b)]) := upd_same
      have pen4 := pen3.same s4
      have but4 := but3.trans (.ofSame s4)
      generalize upd H3 d (.lst [.int (q.num * b), .int ((q.den : Int) * b)]) = H4 at s4 e4 pen4 but4
      have e3' := s4 _ _ e3
      refine ⟨(by show 2 ≤ sizeLine; decide), fun g ng => ?_⟩
      have s5 := Same.new (o := .lst [.ref a, .ref d]) ng
      have pen5 := pen4.same s5
      have but5 := but4.trans (.ofSame s5)
      refine ⟨p, c, g, _, _, rfl, pen5, by omega, upd_same, (by show 0 < 2; decide), (by show 2 < 1000000; decide), fun y u H6 hy pen6 but6 => ?_⟩
      have e3'' := but6 _ _ (s5 _ _ e3') (pen5.off (s5 _ _ e3') fun _ z => nomatch z)
      have e4'' := pen5.lst but6 (s5 _ _ e4)
      have np : a ≠ p := pen5.off (s5 _ _ e3') fun _ z => nomatch z
      have npd : d ≠ p := pen5.off (s5 _ _ e4) fun _ z => nomatch z
      have l1 := log_lt w1 (by omega)
      have l2 := log_lt w2 (by omega)
      have but7 := but5.trans but6
      have pen7 : Pen H6 p c (n + 3) := pen6.more (by omega)
      have mem := mem_of_at hy
      simp only [List.mem_cons, List.not_mem_nil, or_false] at mem
      rcases mem with rfl | rfl
      · refine k _ _ pen7 but7 ⟨_, _, .two (.inr (SqT.of e3'')) pos, eq, w1, w2⟩ ⟨_, .tup (SqT.of (cl_at np e3'' fun _ z => nomatch z)) (.cons (.int _) (.cons (.int _) .nil)), small_two (.inr rfl) l1 l2⟩ (fun x z => by cases z; exact but02.gone pen2 na)
      · refine k _ _ pen7 but7 ⟨_, _, .two (.inl (SqL.of e4'')) pos, eq, w1, w2⟩ ⟨_, .lst (cl_at npd e4'' fun _ z => nomatch z) nm (.cons (.int _) (.cons (.int _) .nil)), small_two (.inl rfl) l1 l2⟩ (fun x z => by cases z; exact but3.gone pen3 nd)
/-- a ratio of a small bottom -/
def Rsm (m : Nat) (q : Rat) : Prop := q.den ≤ 99 ∧ q.num.natAbs ≤ m * q.den
theorem rsm_of {a b : Int} {m : Nat} (b0 : 0 < b) (b1 : b ≤ 99) (h : a.natAbs ≤ m * b.natAbs) : Rsm m (Rat.divInt a b) := by
  have g0 : 0 < Nat.gcd a.natAbs b.natAbs := Nat.gcd_pos_of_pos_right _ (by omega)
  have e1 := low_num (a := a) b0
  have e2 := low_den (a := a) b0
  have d1 : ((Nat.gcd a.natAbs b.natAbs : Nat) : Int) ∣ a := Int.ofNat_dvd_left.mpr (Nat.gcd_dvd_left _ _)
  have d2 : ((Nat.gcd a.natAbs b.natAbs : Nat) : Int) ∣ b := Int.ofNat_dvd_left.mpr (Nat.gcd_dvd_right _ _)
  rw [Int.fdiv_eq_ediv_of_nonneg _ (Int.natCast_nonneg _)] at e1 e2
  have f1 := Int.ediv_mul_cancel d1
  have f2 := Int.ediv_mul_cancel d2
  rw [e1] at f1
  rw [e2] at f2
  generalize Nat.gcd a.natAbs b.natAbs = g at g0 f1 f2
  generalize Rat.divInt a b = q at f1 f2
  have h1 : a.natAbs = q.num.natAbs * g := by
    rw [← f1, Int.natAbs_mul]
    rfl
  have h2 : b.natAbs = q.den * g := by
    rw [← f2, Int.natAbs_mul]
    rfl
  rw [h1, h2, ← Nat.mul_assoc] at h
  refine ⟨?_, Nat.le_of_mul_le_mul_right h g0⟩
  have : q.den * 1 ≤ q.den * g := Nat.mul_le_mul_left _ g0
  omega
theorem Rsm.sz {m : Nat} {q : Rat} (h : Rsm m q) (hm : m ≤ 9) : Sz 10 7 q := by
  have e1 : (2 : Nat) ^ 10 = 1024 := by decide
  have e2 : (2 : Nat) ^ 7 = 128 := by decide
  have : m * q.den ≤ 9 * 99 := Nat.mul_le_mul hm h.1
  have h1 := h.1
  have h2 := h.2
  constructor <;> omega
def spLrat (K : PySem.W.Frag) : Sp := fun vs H Q _ => ∃ (p c : Addr) (n m : Nat), vs = [.ref p, .int (m : Nat)] ∧ Pen H p c n ∧ n ≤ 900000 ∧ 0 < m ∧ m ≤ 9 ∧
  ∀ u H' q, Pen H' p c (n + 3) → But p H H' → RV K H' u q → Rsm m q → Q u H'
abbrev nRa : List Str := ["_law_pen_here", "_law_most", "_law_bottom"]
theorem sc47 : FnScope nRa ["_law_pen_here", "_law_most"] (defScope (top 48)) := ⟨rfl, rfl, rfl, by decide +kernel, rfl, by decide +kernel, by decide +kernel⟩
theorem ok_lratio (T : Tu P K mg) : FnOk P w K mg base CX0 3 T.l_ratio.f T.l_ratio.fd ["_law_pen_here", "_law_most"] (spLrat K) := by
  have G1 : FnOk P w K mg base CX0 1 T.l_draw.f T.l_draw.fd ["_law_pen_here", "_law_many"] spDraw := ok_ldraw T
  have G2 : FnOk P w K mg base CX0 2 T.l_pick.f T.l_pick.fd ["_law_pen_here", "_law_some"] spPick := ok_lpick T
  have G3 : FnOk P w K mg base CX0 2 T.l_q.f T.l_q.fd ["_law_top", "_law_bottom"] (spLq K) := ok_lq T.toTy
  refine T.l_ratio.fn.ok sc47 (fun vs H Q E h => ?_) (fun cdv A outer s H vs Q E hr h => ?_)
  · obtain ⟨p, c, n, m, rfl, _⟩ := h
    rfl
  · obtain ⟨p, c, n, m, rfl, pen, hn, m0, m9, k⟩ := h
    have hr1 : Room 1 _ := hr.mono (by decide)
    refine ⟨_, pss_cons (ps_set (i := 2) sc47.nd rfl (.inl rfl) (T.l_pick.c0 G2 hr (pa_cons (pv 0) (pa_cons (pe_lst (pa_cons pe_int (pa_cons pe_int (pa_cons pe_int (pa_cons pe_int (pa_cons pe_int (pa_cons pe_int (pa_cons
        (pe_op op_add pe_int (T.l_draw.c0 G1 hr1 (pa_cons (pv 0) (pa_cons pe_int pa_nil)))) pa_nil)))))))) pa_nil))))
      (pss_one (ps_ret (T.l_q.c0 G3 hr (pa_cons (pe_op op_sub (T.l_draw.c0 G1 hr1 (pa_cons (pv 0) (pa_cons (pe_op op_add (pe_op op_mulW (pe_op op_mulW pe_int (pv 1)) (pv 2)) pe_int) pa_nil))) (pe_op op_mulW (pv 1) (pv 2))) (pa_cons (pv 2) pa_nil))))), ?_⟩
    refine ⟨_, rfl, _, rfl, p, c, n, 99, rfl, pen, by omega, by decide, by decide, fun d H1 d0 d1 pen1 but1 => ?_⟩
    refine ⟨_, _, rfl, rfl, (by show 7 ≤ sizeLine; decide), fun l nl => ?_⟩
    have s2 := Same.new (o := .lst [.int 1, .int 1, .int 2, .int 3, .int 7, .int 10, .int (1 + d)]) nl
    refine ⟨p, c, l, n + 1, _, rfl, pen1.same s2, by omega, upd_same, (by show 0 < 7; decide), (by show 7 < 1000000; decide), fun j v H3 hj pen3 but3 => ?_⟩
    have small : ∃ b : Int, v = .int b ∧ 0 < b ∧ b ≤ 99 := by
      have mem := mem_of_at hj
      simp only [List.mem_cons, List.not_mem_nil, or_false] at mem
      rcases mem with rfl | rfl | rfl | rfl | rfl | rfl | rfl
      · exact ⟨1, rfl, by decide, by decide⟩
      · exact ⟨1, rfl, by decide, by decide⟩
      · exact ⟨2, rfl, by decide, by decide⟩
      · exact ⟨3, rfl, by decide, by decide⟩
      · exact ⟨7, rfl, by decide, by decide⟩
      · exact ⟨10, rfl, by decide, by decide⟩
      · exact ⟨_, rfl, by omega, by omega⟩
    obtain ⟨b, rfl, b0, b9⟩ := small
    have but03 := (but1.trans (.ofSame s2)).trans but3
    have e7 : (2 : Nat) ^ 7 = 128 := by decide
    have wb : b.natAbs < 2 ^ 7 := by omega
    have wm : ((m : Nat) : Int).natAbs < 2 ^ 7 := by omega
    have w2 : (2 * ((m : Nat) : Int)).natAbs < 2 ^ 7 := by omega
    have ub : ((m : Nat) : Int) * b ≤ 9 * 99 := Int.mul_le_mul (by omega) b9 (by omega) (by decide)
    have lb : 0 < ((m : Nat) : Int) * b := Int.mul_pos (by omega) b0
    have e2 : 2 * ((m : Nat) : Int) * b = 2 * (((m : Nat) : Int) * b) := Int.mul_assoc _ _ _
    refine ⟨_, rfl, _, rfl, _, _, rfl, rfl, cmulW (a := 7) (b := 7) (by decide) wm (by decide), _, rfl, _, _, rfl, rfl, cmulW w2 wb (by decide), _, _, rfl, rfl, p, c, n + 1 + 1, _, rfl, pen3, by omega, ?_, ?_, fun z H4 z0 z1 pen4 but4 => ?_⟩
    · show 0 < 2 * ((m : Nat) : Int) * b + 1
      omega
    · show 2 * ((m : Nat) : Int) * b + 1 < 1073741824
      omega
    have z1' : z < 2 * ((m : Nat) : Int) * b + 1 := z1
    refine ⟨_, rfl, _, rfl, _, _, rfl, rfl, cmulW wm wb (by decide), _, _, rfl, rfl, _, rfl, _, _, rfl, by omega, up_lt wb (by decide), fun u H5 s5 rv => k u H5 _ ((pen4.same s5).more (by omega)) ((but03.trans but4).trans (.ofSame s5)) rv (rsm_of b0 b9 ?_)⟩
    have e3 : (m * b.natAbs : Nat) = (((m : Nat) : Int) * b).natAbs := by
      rw [Int.natAbs_mul]
      rfl
    rw [e3]
    show (z - ((m : Nat) : Int) * b).natAbs ≤ _
    omega
end
end Kz
set_option linter.all false
set_option maxRecDepth 100000
set_option maxHeartbeats 4000000
namespace Kz
open PySem PySem.Spec PyProof.Rows L2
/-! ### a comprehension that draws -/
section
variable {K : PySem.W.Frag} {a : Addr} {xs : List V} {g : TG} {te : TE} {vs : List Nat} {σ : L2.St} {H1 : Hp} {D p c : Addr} {n0 : Nat} {Qd : Hp → Prop}
abbrev StepBut (p D : Addr) (g : TG) (te : TE) (vs : List Nat) (σ : L2.St) (H1 : Hp) (R : Nat → List V → Hp → Prop) (i : Nat) (x : V) : Prop :=
  ∀ (acc : List V) (H' : Hp) (Qk : VK) (Z : Hp → Prop), acc.length = i → R i acc H' → But p H1 H' → H' D = some (.lst acc) → (∀ y H4, But p H' H4 → R (i + 1) (acc ++ [y]) H4 → Qk y H4) →
    g x (wipe σ vs) H' fun σ2 H2 => wipe σ2 vs = wipe σ vs ∧ tYes σ2 H2 fun b H3 => if b = true then te σ2 H3 Qk else Z H3
theorem lc_mapRP {lo : Int} {n : Nat} (len : n ≤ 1000) (hD : H1 D = none) (np : D ≠ p) (R : Nat → List V → Hp → Prop) (br : Bears D R) (h0 : R 0 [] H1) (step : ∀ i, i < n → StepBut p D g te vs σ H1 R i (.int (lo + i)))
    (fin : ∀ acc H', H' D = some (.lst acc) → acc.length = n → R n acc H' → But p H1 H' → Qd H') : ∃ W : Nat → Nat → Hp → Prop, (∃ m, W 0 m (upd H1 D (.lst []))) ∧ ∀ i m H, W i m H →
      ((Itr lo n).stop i H ∧ Qd H) ∨ ((Itr lo n).go i H ∧ ∃ Nx : Hp → Prop, (∀ H', Nx H' → ∃ m', m' < m ∧ W (i + 1) m' H') ∧ ∀ x H', (Itr lo n).yld i H x H' → g x (wipe σ vs) H' fun σ2 H2 => wipe σ2 vs = wipe σ vs ∧ tYes σ2 H2 fun b H3 =>
        if b = true then te σ2 H3 fun y H4 => ∃ acc, H4 D = some (.lst acc) ∧ acc.length < sizeLine ∧ Nx (upd H4 D (.lst (acc ++ [y]))) else Nx H3) := by
  refine lc_range (fun i H' => ∃ acc, H' D = some (.lst acc) ∧ acc.length = i ∧ i ≤ n ∧ R i acc H' ∧ But p H1 H') ⟨[], upd_same, rfl, Nat.zero_le _, br _ _ _ _ (fun o e => by rw [hD] at e; cases e) (But.refl.set) h0, But.refl.new hD⟩
    ?_ fun H' ⟨acc, e, l, _, r, s⟩ => fin acc H' e l r s
  rintro i H' lt ⟨acc, e, l, le, r, s⟩
  refine step i lt acc H' _ _ l r s e fun y H4 s4 r4 => ⟨acc, s4 _ _ e np, le1000 (by omega), acc ++ [y], upd_same, by simp [l], lt, br _ _ _ _ (fun o e4 => ?_) But.refl.set r4, fun c u ec nc => ?_⟩
  · rw [s4 _ _ e np] at e4
    cases e4
    exact ⟨_, rfl⟩
  · rw [upd_ne (ne_of_none ec hD)]
    exact s4 _ _ (s _ _ ec nc) nc
theorem lc_mapLP (pen : Pen H1 p c n0) (hl : SqL K H1 a xs) (len : xs.length ≤ 1000) (hD : H1 D = none) (np : D ≠ p) (R : Nat → List V → Hp → Prop) (br : Bears D R) (h0 : R 0 [] H1) (step : ∀ i x, xs[i]? = some x → StepBut p D g te vs σ H1 R i x)
    (fin : ∀ acc H', H' D = some (.lst acc) → acc.length = xs.length → R xs.length acc H' → But p H1 H' → Qd H') : ∃ W : Nat → Nat → Hp → Prop, (∃ m, W 0 m (upd H1 D (.lst []))) ∧ ∀ i m H, W i m H →
      ((Itl K a).stop i H ∧ Qd H) ∨ ((Itl K a).go i H ∧ ∃ Nx : Hp → Prop, (∀ H', Nx H' → ∃ m', m' < m ∧ W (i + 1) m' H') ∧ ∀ x H', (Itl K a).yld i H x H' → g x (wipe σ vs) H' fun σ2 H2 => wipe σ2 vs = wipe σ vs ∧ tYes σ2 H2 fun b H3 =>
        if b = true then te σ2 H3 fun y H4 => ∃ acc, H4 D = some (.lst acc) ∧ acc.length < sizeLine ∧ Nx (upd H4 D (.lst (acc ++ [y]))) else Nx H3) := by
  refine lc_list (fun i H' => ∃ acc, H' D = some (.lst acc) ∧ acc.length = i ∧ i ≤ xs.length ∧ R i acc H' ∧ But p H1 H') ⟨[], upd_same, rfl, Nat.zero_le _, br _ _ _ _ (fun o e => by rw [hD] at e; cases e) (But.refl.set) h0, But.refl.new hD⟩
    (fun i H' _ ⟨acc, _, _, _, _, s⟩ => pen.seqL s hl) ?_ fun H' ⟨acc, e, l, _, r, s⟩ => fin acc H' e l r s
  rintro i x H' hx ⟨acc, e, l, le, r, s⟩
  have lt : i < xs.length := (List.getElem?_eq_some_iff.mp hx).1
  refine step i x hx acc H' _ _ l r s e fun y H4 s4 r4 => ⟨acc, s4 _ _ e np, le1000 (by omega), acc ++ [y], upd_same, by simp [l], lt, br _ _ _ _ (fun o e4 => ?_) But.refl.set r4, fun c u ec nc => ?_⟩
  · rw [s4 _ _ e np] at e4
    cases e4
    exact ⟨_, rfl⟩
  · rw [upd_ne (ne_of_none ec hD)]
    exact s4 _ _ (s _ _ ec nc) nc
end
/-- a pen bears a row that grows -/
theorem bear_pen {D p c : Addr} {n : Nat} {H H' : Hp} (l : ∀ o, H D = some o → ∃ us, o = .lst us) (nc : D ≠ c) (b : But D H H') (h : Pen H p c n) : Pen H' p c n := by
  obtain ⟨ns, i, d, m, f, e1, e2, r⟩ := h
  have np : p ≠ D := fun z => by
    rw [z] at e1
    obtain ⟨us, e⟩ := l _ e1
    cases e
  exact ⟨ns, i, d, m, f, b _ _ e1 np, b _ _ e2 nc.symm, r⟩
theorem bear_rv {K : PySem.W.Frag} {D : Addr} {H H' : Hp} {v : V} {q : Rat} (l : ∀ o, H D = some o → ∃ us, o = .lst us) (b : But D H H') (h : RV K H v q) : RV K H' v q := by
  obtain ⟨t, e, r⟩ := h
  refine ⟨t, e, ?_⟩
  have ne : ∀ {o : HO}, H t = some o → (∀ us, o ≠ .lst us) → t ≠ D := fun {o} e n z => by
    rw [z] at e
    obtain ⟨us, e'⟩ := l _ e
    exact n us e'
  rcases r with (r | ⟨o, r⟩) | r
  · exact .inl (.inl (b _ _ r (ne r (fun us z => nomatch z))))
  · exact .inl (.inr ⟨o, b _ _ r (ne r (fun us z => nomatch z))⟩)
  · exact .inr r
theorem bear_argQ {K : PySem.W.Frag} {D : Addr} {H H' : Hp} {v : V} {x y : Nat} {q : Rat} (l : ∀ o, H D = some o → ∃ us, o = .lst us) (nd : v ≠ .ref D) (b : But D H H') (h : ArgQ K H v x y q) : ArgQ K H' v x y q := by
  obtain ⟨s, t, h, r⟩ := h
  refine ⟨s, t, ?_, r⟩
  cases h with
  | int => exact .int
  | @two a _ _ h z =>
    have na : a ≠ D := fun z => nd (by rw [z])
    refine .two ?_ z
    rcases h with ((h | ⟨o, h⟩) | h) | ((h | ⟨o, h⟩) | h)
    · exact .inl (.inl (.inl (b _ _ h na)))
    · exact .inl (.inl (.inr ⟨o, b _ _ h na⟩))
    · exact .inl (.inr h)
    · exact .inr (.inl (.inl (b _ _ h na)))
    · exact .inr (.inl (.inr ⟨o, b _ _ h na⟩))
    · exact .inr (.inr h)
theorem Rsm.zero {m : Nat} : Rsm m 0 := ⟨by decide, Nat.zero_le _⟩
theorem Al.rows {K : PySem.W.Frag} {H : Hp} {vs : List V} {qs : List Rat} {v : V} {q : Rat} (h : Al K H vs qs) (r : RV K H v q) : Al K H (vs ++ [v]) (qs ++ [q]) := h.snoc r
theorem AlA.snoc {K : PySem.W.Frag} {H : Hp} {vs : List V} {qs : List Rat} {x y : Nat} {v : V} {q : Rat} (h : AlA K H vs x y qs) (r : ArgQ K H v x y q) : AlA K H (vs ++ [v]) x y (qs ++ [q]) := by
  refine ⟨by rw [List.length_append, List.length_append, h.1]; rfl, fun i u t e1 e2 => ?_⟩
  rcases Nat.lt_or_ge i vs.length with lt | ge
  · rw [List.getElem?_append_left lt] at e1
    rw [List.getElem?_append_left (by rw [← h.1]; exact lt)] at e2
    exact h.2 i u t e1 e2
  · have l := (List.getElem?_eq_some_iff.mp e1).1
    rw [List.length_append] at l
    have ei : i = vs.length := by
      have : [v].length = 1 := rfl
      omega
    subst ei
    rw [List.getElem?_append_right (Nat.le_refl _), Nat.sub_self] at e1
    rw [h.1, List.getElem?_append_right (Nat.le_refl _), Nat.sub_self] at e2
    cases e1
    cases e2
    exact r
theorem AlA.nil {K : PySem.W.Frag} {H : Hp} {x y : Nat} : AlA K H [] x y [] := ⟨rfl, fun i u q e _ => by cases e⟩
section
variable {P : Program} {w : World} {K : PySem.W.Frag} {mg : Str → Option Value} {base : Heap}
def spDrawn (K : PySem.W.Frag) : Sp := fun vs H Q _ => ∃ (p c : Addr) (n d m : Nat), vs = [.ref p, .int (d : Nat), .int (m : Nat)] ∧ Pen H p c n ∧ n ≤ 800000 ∧ d ≤ 7 ∧ 0 < m ∧ m ≤ 9 ∧
  ∀ u H' qs, Pen H' p c (n + 40) → But p H H' → LR K H' u qs → Tr qs → qs.length ≤ d + 1 → (∀ i, Rsm m (cf qs i)) → Q u H'
abbrev nDr : List Str := ["_law_pen_here", "_law_degree", "_law_most", "_law_k"]
theorem sc61 : FnScope nDr ["_law_pen_here", "_law_degree", "_law_most"] (defScope (top 62)) := ⟨rfl, rfl, rfl, by decide +kernel, rfl, by decide +kernel, by decide +kernel⟩
theorem ok_ldrawn (T : Tu P K mg) : FnOk P w K mg base CX0 4 T.l_drawn.f T.l_drawn.fd ["_law_pen_here", "_law_degree", "_law_most"] (spDrawn K) := by
  have G1 : FnOk P w K mg base CX0 1 T.l_draw.f T.l_draw.fd ["_law_pen_here", "_law_many"] spDraw := ok_ldraw T
  have G2 : FnOk P w K mg base CX0 3 T.l_ratio.f T.l_ratio.fd ["_law_pen_here", "_law_most"] (spLrat K) := ok_lratio T
  have G3 : FnOk P w K mg base CX0 1 T.l_poly.f T.l_poly.fd ["_law_numbers"] (spLpoly K) := ok_lpoly T.toTv
  refine T.l_drawn.fn.ok sc61 (fun vs H Q E h => ?_) (fun cdv A outer s H vs Q E hr h => ?_)
  · obtain ⟨p, c, n, d, m, rfl, _⟩ := h
    rfl
  · obtain ⟨p, c, n, d, m, rfl, pen, hn, hd, m0, m9, k⟩ := h
    have hr1 : Room 1 _ := hr.mono (by decide)
    refine ⟨_, pss_one (ps_ret (T.l_poly.c0 G3 hr1 (pa_cons (pe_lc (own := [("_law_k", 3)]) (g := gName 3) (tt := tYes) rfl sc61.nd (pi_range1 rfl T.blt.range (pa_cons (pe_op op_add pe_int (T.l_draw.c0 G1 hr1 (pa_cons (pv 0) (pa_cons (pe_op op_add (pv 1) pe_int) pa_nil)))) pa_nil))
      (blkOk_by (own := [("_law_k", 3)]) (N := nDr) (sc := defScope (top 62)) (by decide +kernel))
      (fun _ _ _ _ _ => pg_name (i := 3) sc61.nd rfl (Or.inl rfl)) (fun _ _ _ _ _ => pts_nil) (fun _ _ _ _ _ => T.l_ratio.c0 G2 hr (pa_cons (pv 0) (pa_cons (pv 2) pa_nil)))) pa_nil))), ?_⟩
    refine ⟨_, rfl, _, rfl, _, _, rfl, rfl, p, c, n, _, rfl, pen, by omega, ?_, ?_, fun z H1 z0 z1 pen1 but1 => ?_⟩
    · show 0 < ((d : Nat) : Int) + 1
      omega
    · show ((d : Nat) : Int) + 1 < 1073741824
      omega
    have z1' : z < ((d : Nat) : Int) + 1 := z1
    refine ⟨_, _, rfl, rfl, _, rfl, by omega, by omega, fun D hD => ?_⟩
    have nDp : D ≠ p := pen1.newP hD
    have nDc : D ≠ c := pen1.newC hD
    refine lc_mapRP (lo := 0) (n := ((1 + z : Int)).toNat) (p := p) (by omega) hD nDp (fun i acc H' => Pen H' p c (n + 1 + 3 * i) ∧ ∃ qs, Al K H' acc qs ∧ ∀ q ∈ qs, Rsm m q) ?_ ⟨pen1, [], Al.nil, fun q hq => by cases hq⟩ ?_ ?_
    · rintro i acc H2 H3 l b ⟨pn, qs, al, hq⟩
      exact ⟨bear_pen l nDc b pn, qs, ⟨al.1, fun j v q e1 e2 => bear_rv l b (al.2 j v q e1 e2)⟩, hq⟩
    · rintro i lt acc H2 Qk Z lg ⟨pn, qs, al, hq⟩ s hacc kk
      refine ⟨rfl, ?_⟩
      dsimp only [tYes]
      refine iteT ⟨_, rfl, _, rfl, p, c, _, m, rfl, pn, by omega, m0, m9, fun u H4 q pn4 b4 rv sm => kk _ _ b4 ⟨pn4, qs ++ [q], (pn.al b4 al).snoc rv, fun r hr => ?_⟩⟩
      rcases List.mem_append.mp hr with h | h
      · exact hq r h
      · rw [List.mem_singleton.mp h]
        exact sm
    · rintro acc H2 hacc lacc ⟨pn, qs, al, hq⟩ s
      have lq : qs.length = acc.length := al.1.symm
      have lz : (1 + z : Int).toNat ≤ d + 1 := by omega
      refine ⟨_, qs, rfl, ⟨D, acc, rfl, hacc, al⟩, by omega, fun u H3 rs s3 lr tr ll e => k u H3 rs ((pn.same s3).more (by omega)) ((but1.trans s).trans (.ofSame s3)) lr tr (by omega) fun i => ?_⟩
      rw [e]
      rcases Nat.lt_or_ge i qs.length with lt | ge
      · exact hq _ (mem_cf lt)
      · rw [cf_out ge]
        exact Rsm.zero
end
end Kz
set_option linter.all false
set_option maxRecDepth 100000
set_option maxHeartbeats 4000000
namespace Kz
open PySem PySem.Spec PyProof.Rows L2
theorem AlA.append {K : PySem.W.Frag} {H : Hp} {x y : Nat} {vs us : List V} {qs rs : List Rat} (h : AlA K H vs x y qs) (g : AlA K H us x y rs) : AlA K H (vs ++ us) x y (qs ++ rs) := by
  refine ⟨by rw [List.length_append, List.length_append, h.1, g.1], fun i u t e1 e2 => ?_⟩
  rcases Nat.lt_or_ge i vs.length with lt | ge
  · rw [List.getElem?_append_left lt] at e1
    rw [List.getElem?_append_left (by rw [← h.1]; exact lt)] at e2
    exact h.2 i u t e1 e2
  · rw [List.getElem?_append_right ge] at e1
    rw [List.getElem?_append_right (by rw [← h.1]; exact ge), ← h.1] at e2
    exact g.2 _ u t e1 e2
theorem alA_rep {K : PySem.W.Frag} {H : Hp} {x y : Nat} {v : V} {q : Rat} (h : ArgQ K H v x y q) : ∀ k : Nat, AlA K H (List.replicate k [v]).flatten x y (List.replicate k q)
  | 0 => AlA.nil
  | k + 1 => by
    rw [List.replicate_succ, List.flatten_cons, List.replicate_succ]
    exact AlA.append (AlA.snoc AlA.nil h) (alA_rep h k)
theorem cf_pad {qs : List Rat} {k : Nat} (i : Nat) : cf (qs ++ List.replicate k 0) i = cf qs i := by
  have h := padTo_cf (n := qs.length + k) (qs := qs) i
  unfold padTo at h
  rwa [Nat.add_sub_cancel_left] at h
section
variable {P : Program} {w : World} {K : PySem.W.Frag} {mg : Str → Option Value} {base : Heap}
/-- a Poly made of a row in any way -/
def spMade (K : PySem.W.Frag) (cP : Addr) : Sp := fun vs H Q _ => ∃ (p c : Addr) (n : Nat) (v : V) (qs : List Rat) (i j : Nat), vs = [.ref p, v] ∧ Pen H p c n ∧ n ≤ 800000 ∧ LR K H v qs ∧ Tr qs ∧ SzA i j qs ∧ 0 < i ∧ 0 < j ∧ i ≤ 1800 ∧ j ≤ 1800 ∧ qs.length ≤ 100 ∧
  ∀ u H', Pen H' p c (n + 400) → But p H H' → PolyAt K cP H' u qs → Q u H'
abbrev nMa : List Str := ["_law_pen_here", "_law_one", "_law_numbers", "_law_number"]
theorem sc60 : FnScope nMa ["_law_pen_here", "_law_one"] (defScope (top 61)) := ⟨rfl, rfl, rfl, by decide +kernel, rfl, by decide +kernel, by decide +kernel⟩
theorem ok_lmade (T : Tu P K mg) : FnOk P w K mg base CX0 7 T.l_made.f T.l_made.fd ["_law_pen_here", "_law_one"] (spMade K T.cP) := by
  have G1 : FnOk P w K mg base CX0 1 T.l_draw.f T.l_draw.fd ["_law_pen_here", "_law_many"] spDraw := ok_ldraw T
  have G2 : FnOk P w K mg base CX0 2 T.l_pick.f T.l_pick.fd ["_law_pen_here", "_law_some"] spPick := ok_lpick T
  have G3 : FnOk P w K mg base CX0 3 T.l_passed.f T.l_passed.fd ["_law_pen_here", "_law_ratio_here"] (spPassed K) := ok_lpassed T
  refine T.l_made.fn.ok sc60 (fun vs H Q E h => ?_) (fun cdv A outer s H vs Q E hr h => ?_)
  · obtain ⟨p, c, n, v, qs, i, j, rfl, _⟩ := h
    rfl
  · obtain ⟨p, c, n, v, qs, i, j, rfl, pen, hn, ⟨l, ws, rfl, hl, al⟩, tr, zq, i0, j0, i1, j1, len, k⟩ := h
    have hr1 : Room 1 _ := hr.mono (by decide)
    have hr2 : Room 2 _ := hr.mono (by decide)
    have hr3 : Room 3 _ := hr.mono (by decide)
    refine ⟨_, pss_cons (ps_set (i := 2) sc60.nd rfl (.inl rfl) (pe_op op_cat (pe_lc (own := [("_law_number", 3)]) (g := gName 3) (tt := tYes) rfl sc60.nd (pi_list (pv 1))
        (blkOk_by (own := [("_law_number", 3)]) (N := nMa) (sc := defScope (top 61)) (by decide +kernel))
        (fun _ _ _ _ _ => pg_name (i := 3) sc60.nd rfl (Or.inl rfl)) (fun _ _ _ _ _ => pts_nil) (fun _ _ _ _ _ => T.l_passed.c0 G3 hr3 (pa_cons (pv 0) (pa_cons (pv 3) pa_nil))))
        (pe_op op_rep (pe_lst (pa_cons pe_int pa_nil)) (T.l_draw.c0 G1 hr1 (pa_cons (pv 0) (pa_cons pe_int pa_nil))))))
      (pss_one (ps_ret (T.cPoly hr (pa_cons (T.l_pick.c0 G2 hr2 (pa_cons (pv 0) (pa_cons (pe_lst (pa_cons (pe_callTy call_tuple_of (by rfl) T.mTuple boot_ttuple (pa_cons (pv 2) pa_nil)) (pa_cons (pv 2) pa_nil))) pa_nil))) pa_nil)))), ?_⟩
    have la := al.1
    refine ⟨_, rfl, l, rfl, ⟨_, SqL.of hl⟩, fun D hD => ?_⟩
    have nDp : D ≠ p := pen.newP hD
    have nDc : D ≠ c := pen.newC hD
    refine lc_mapLP pen (SqL.of hl) (by omega) hD nDp (fun m acc H' => Pen H' p c (n + 3 * m) ∧ AlA K H' acc (i + 2) (j + 2) (qs.take m) ∧ ∀ u ∈ acc, u ≠ .ref D) ?_ ⟨pen, AlA.nil, fun q hq => by cases hq⟩ ?_ ?_
    · rintro m acc H2 H3 lD b ⟨pn, aa, hq⟩
      exact ⟨bear_pen lD nDc b pn, ⟨aa.1, fun x v q e1 e2 => bear_argQ lD (hq v (List.mem_of_getElem? e1)) b (aa.2 x v q e1 e2)⟩, hq⟩
    · rintro m x hx acc H2 Qk Z lg ⟨pn, aa, hq⟩ s hacc kk
      have lt : m < ws.length := (List.getElem?_eq_some_iff.mp hx).1
      have ltq : m < qs.length := by omega
      refine ⟨rfl, ?_⟩
      dsimp only [tYes]
      refine iteT ⟨_, rfl, _, rfl, p, c, _, x, cf qs m, i, j, rfl, pn, by omega, pen.rv s (al.2 m x _ hx (at_cf ltq)), zq m ltq, i0, j0, i1, j1, fun u H4 pn4 b4 aq _ fresh => kk _ _ b4 ⟨pn4, ?_, fun y hy => ?_⟩⟩
      · rw [take_snoc (at_cf ltq)]
        exact (pn.alA b4 aa).snoc aq
      · rcases List.mem_append.mp hy with h | h
        · exact hq y h
        · rw [List.mem_singleton.mp h]
          intro z
          have := fresh D z
          rw [hacc] at this
          cases this
    · rintro acc H2 hacc lacc ⟨pn, aa, hq⟩ s
      rw [la, List.take_length] at aa
      refine ⟨(by show 1 ≤ sizeLine; decide), fun z nz => ?_⟩
      have s3 := Same.new (o := .lst [.int 0]) nz
      have e3 : upd H2 z (.lst [.int 0]) z = some (.lst [.int 0]) := upd_same
      have pn3 := pn.same s3
      have b3 := s.trans (.ofSame s3)
      have aa3 := aa.same s3
      have ac3 := s3 _ _ hacc
      generalize upd H2 z (.lst [.int 0]) = H3 at s3 e3 pn3 b3 aa3 ac3
      refine ⟨_, rfl, p, c, _, 2, rfl, pn3, by omega, by decide, by decide, fun d H4 d0 d1 pn4 b4 => ?_⟩
      have e4 := pn3.lst b4 e3
      have ac4 := pn3.lst b4 ac3
      have aa4 := pn3.alA b4 aa3
      have b04 := b3.trans b4
      obtain ⟨kz, rfl⟩ := Int.eq_ofNat_of_zero_le d0
      refine ⟨z, _, _, rfl, rfl, e4, by omega, by omega, ?_, fun x nx => ?_⟩
      · show 1 * kz ≤ sizeLine
        rw [sizeLine_eq]
        omega
      dsimp only []
      have tn : (((kz : Nat) : Int)).toNat = kz := rfl
      rw [tn]
      have s5 := Same.new (o := .lst (List.replicate kz [V.int 0]).flatten) nx
      have e5 : upd H4 x (.lst (List.replicate kz [V.int 0]).flatten) x = some (.lst (List.replicate kz [V.int 0]).flatten) := upd_same
      have pn5 := pn4.same s5
      have b05 := b04.trans (.ofSame s5)
      have ac5 := s5 _ _ ac4
      have aa5 := aa4.same s5
      generalize upd H4 x (.lst (List.replicate kz [V.int 0]).flatten) = H5 at s5 e5 pn5 b05 ac5 aa5
      have ar5 : AlA K H5 (List.replicate kz [V.int 0]).flatten (i + 2) (j + 2) (List.replicate kz 0) := alA_rep (arg_int (by show 0 < 2 ^ (i + 2); exact Nat.two_pow_pos _) (by omega)) kz
      have lr : (List.replicate kz [V.int 0]).flatten.length = kz := by rw [ar5.1, List.length_replicate]
      refine ⟨D, x, _, _, rfl, rfl, ac5, e5, ?_, fun y ny => ?_⟩
      · rw [lr, sizeLine_eq]
        omega
      have s6 := Same.new (o := .lst (acc ++ (List.replicate kz [V.int 0]).flatten)) ny
      have e6 : upd H5 y (.lst (acc ++ (List.replicate kz [V.int 0]).flatten)) y = some (.lst (acc ++ (List.replicate kz [V.int 0]).flatten)) := upd_same
      have pn6 := pn5.same s6
      have b06 := b05.trans (.ofSame s6)
      have aa6 := (aa5.append ar5).same s6
      have l6 : (acc ++ (List.replicate kz [V.int 0]).flatten).length ≤ 101 := by
        rw [List.length_append, lr]
        omega
      generalize acc ++ (List.replicate kz [V.int 0]).flatten = us at s6 e6 pn6 b06 aa6 l6
      generalize upd H5 y (.lst us) = H6 at s6 e6 pn6 b06 aa6
      refine ⟨_, rfl, _, rfl, y, us, rfl, .inl ⟨SqL.of e6, fun t nt => ?_⟩⟩
      have s7 := Same.new (o := .tup us) nt
      have e7 : upd H6 t (.tup us) t = some (.tup us) := upd_same
      have pn7 := pn6.same s7
      have b07 := b06.trans (.ofSame s7)
      have aa7 := aa6.same s7
      have f7 := s7 _ _ e6
      generalize upd H6 t (.tup us) = H7 at s7 e7 pn7 b07 aa7 f7
      refine ⟨_, rfl, (by show 2 ≤ sizeLine; decide), fun g ng => ?_⟩
      have s8 := Same.new (o := .lst [.ref t, .ref y]) ng
      have pn8 := pn7.same s8
      have b08 := b07.trans (.ofSame s8)
      refine ⟨p, c, g, _, _, rfl, pn8, by omega, upd_same, (by show 0 < 2; decide), (by show 2 < 1000000; decide), fun w u H9 hw pn9 b9 => ?_⟩
      have aa9 := pn8.alA b9 (aa7.same s8)
      have t9 : SqT K H9 t us := pn8.seqT b9 (SqT.of (s8 _ _ e7))
      have y9 := pn8.lst b9 (s8 _ _ f7)
      have pn9' : Pen H9 p c (n + 400) := pn9.more (by omega)
      have b09 := b08.trans b9
      have mem := mem_of_at hw
      simp only [List.mem_cons, List.not_mem_nil, or_false] at mem
      obtain ⟨a, rfl, sa⟩ : ∃ a, u = .ref a ∧ Sq K H9 a us := by
        rcases mem with rfl | rfl
        · exact ⟨_, rfl, .inr t9⟩
        · exact ⟨_, rfl, .inl (SqL.of y9)⟩
      refine poly_made sa aa9 (by omega) (by omega) fun v H10 rs s10 pa ll er => ?_
      have trr : Tr rs := pa.tr
      have : rs = qs := tr_ext trr tr fun i => by rw [er, cf_pad]
      rw [this] at pa
      exact k v H10 (pn9'.same s10) (b09.trans (.ofSame s10)) pa
end
end Kz
set_option linter.all false
set_option maxRecDepth 100000
set_option maxHeartbeats 4000000
namespace Kz
open PySem PySem.Spec PyProof.Rows L2
/-! ### several except clauses, all with one name -/
abbrev Cl := Value × (Addr → Value → Option Addr → TS)
def endN (D : Ends) (i : Nat) : Ends := { nx := fun ρ G => D.nx (ρ.set i none) G, rt := D.rt, bk := fun ρ G => D.bk (ρ.set i none) G, ct := fun ρ G => D.ct (ρ.set i none) G }
def wNm (K : PySem.W.Frag) (Wout : WX) (D : Ends) (i : Nat) : List Cl → WX
  | [] => Wout
  | p :: r => fun cls d ρ G => ∃ b, PySem.W.exmOne K cls p.1 = some b ∧ (b = true → i < ρ.length → ∀ a, G a = none → p.2 a cls d (endN D i) (ρ.set i (some (.ref a))) G) ∧ (b = false → wNm K Wout D i r cls d ρ G)
inductive HdN (X : Cx) (n : Str) : List ExceptHandler → List Cl → Prop
  | nil : HdN X n [] []
  | cons {x : Str} {c : Value} {ts : Addr → Value → Option Addr → TS} {b : Stmt} {bs : List Stmt} {p q : Pos} {hds : List ExceptHandler} {l : List Cl} (nm : Names X x c)
      (su : ∀ (a : Addr) (oe : Obj) (cls : Value) (d : Option Addr) (pn : List (Addr × Obj)), Zc cls d oe → (∃ vs, oe.data = .fields vs) → PSs (X.suite a ((a, oe) :: pn)) (b :: bs) (ts a cls d)) (r : HdN X n hds l) :
      HdN X n (.ExceptHandler (some (.Name x p)) (some n) (b :: bs) q :: hds) ((c, ts) :: l)
section
variable {X : Cx} {body : List Stmt} {h0 : ExceptHandler} {hds : List ExceptHandler} {l : List Cl} {pos : Pos} {tb : WX → TS} {Wout : WX} {i : Nat} {n : Str}
theorem ps_try_named (st : X.stack = X.env :: X.outer) (fr : X.env.frame = some X.env.locals) (nd : X.N.Nodup) (hi : X.N[i]? = some n) (ln : X.env.kindOf n = some .local) (tk : Takes X Wout)
    (hb : ∀ (W : WX) (pn : List (Addr × Obj)) (xe : Value → Shared → Prop), Takes (X.tr pn xe) W → PassesOwn (model X.prog X.w) X.A X.env xe → PSs (X.tr pn xe) body (tb W)) (hh : HdN X n (h0 :: hds) l) :
    PS X (.Try body (h0 :: hds) [] [] pos) (fun D ρ G => tb (wNm X.K Wout D i l) D ρ G) := by
  constructor
  intro pins s ρ G D I want
  have ok := I.ok
  have frames : X.A.frames = some (X.env :: X.outer) := by rw [ok.frames, st]
  refine wpAny_Try_except (wpAny_mono ((hb (wNm X.K Wout D i l) (X.pn ++ pins) (fun e t1 => wpAny (model X.prog X.w) X.A (noteFrame e X.env) (fun _ t2 => wpAny (model X.prog X.w) X.A (setFlight e none) (fun _ t3 => wpAny (model X.prog X.w) X.A (handleBy e X.env (h0 :: hds)) (SP X pins D) X.xe t3) X.xe t2) X.xe t1)
    (fun u s' xx => ?_) PassesOwn.looking).run [] s ρ G D (I.toTry _) want) (fun f s1 done => ?_) fun e s1 he => he)
  · obtain ⟨a, B, sB, pB, ρ', G', cls, d, rfl, JB, nb, up, sky, na, os, ag, wish⟩ := xx
    have J : Inv X pins ρ' G' sB := JB.ofTry ok
    have sky2 : Sky B (X.env :: X.outer) a (Zc cls d) X.env.locals s'.heap := by rw [← st]; exact sky
    show wpAny (model X.prog X.w) X.A (noteFrame (.ref a) X.env) _ _ _
    refine Sky.land Zc.steady frames fr sky2 fun g1 fl up1 => ?_
    have J1 : Inv X pins ρ' G' { s' with heap := g1 } := J.landed nb fl.1 (up.trans up1) os ag
    obtain ⟨o1, v1, at1, z1, d1⟩ := fl.there
    have out : a ∉ frs (X.env :: X.outer) := by
      intro mem
      obtain ⟨_, o2, at2, no⟩ := (fl.2.2.1).mem mem
      rw [at1] at at2
      cases at2
      exact no _ d1
    have aL : a ≠ X.env.locals := by
      intro z
      exact out (List.mem_filterMap.mpr ⟨X.env, List.mem_cons_self, by rw [fr, z]⟩)
    have aF : a ∉ X.fs := by
      intro mem
      obtain ⟨e, me, q⟩ := List.mem_filterMap.mp mem
      exact out (List.mem_filterMap.mpr ⟨e, List.mem_cons_of_mem _ me, q⟩)
    have S1 := J1.suite at1 d1 na aL aF
    have LT : PySem.W.Looks (model X.prog X.w) g1 (typeOf (.ref a)) cls := fun A Q E s k q => wpAny_typeOf_ref (k _ _ at1) (by rw [z1.1]; exact q)
    have all : ∀ {hs' : List ExceptHandler} {l' : List Cl}, HdN X n hs' l' → wNm X.K Wout D i l' cls d ρ' G' → wpAny (model X.prog X.w) X.A (handleBy (.ref a) X.env hs') (SP X pins D) X.xe { s' with heap := g1 } := by
      intro hs' l' hk
      induction hk with
      | nil =>
        intro wish
        refine wpAny_handleBy_nil ?_
        obtain ⟨_, _, _, oe, vs, T, oT, ts', e1, _, e2, e3, _⟩ := id fl
        unfold PySem.passOn
        refine wpAny_bind (wpAny_field e1 e2 e3 ?_)
        rw [if_neg (show ¬ ((Value.ref T == Value.none) = true) by simp)]
        have last : wpAny (model X.prog X.w) X.A (setFlight (.ref a) X.env.frame) (fun _ t4 => wpAny (model X.prog X.w) X.A (throw (.ref a) : Sem Flow) (SP X pins D) X.xe t4) X.xe { s' with heap := g1 } := by
          rw [fr]
          refine HandSPX.setFlight_upZ fl fun g2 fl2 up2 => wpAny_throw (tk _ _ ?_)
          exact ⟨a, B, sB, pins, ρ', G', cls, d, rfl, J, nb, (up.trans up1).trans up2, .inr (.inr (by rw [st]; exact fl2)), na, os, ag, wish⟩
        first | exact wpAny_bind (wpAny_pure (wpAny_bind last)) | exact wpAny_bind last
      | @cons x c ts b bs p q hds2 l2 nm su r ih =>
        intro wish
        obtain ⟨t, ht, yes, no⟩ := wish
        refine wpAny_handleBy_cons (codeAny_handlers_test ?_) (by intro q; cases q)
        have LM := PySem.W.exm_one (M := model X.prog X.w) J1.kIn LT ht
        have load : ∀ {Q E : Value → Shared → Prop}, Q c { s' with heap := g1 } → wpAny (model X.prog X.w) (X.A.mark (some (.ref a))) (eval (.Name x p) X.env) Q E { s' with heap := g1 } := by
          intro Q E q
          obtain ⟨hg, hdb, hm | ⟨hm, hv, hnn⟩⟩ := nm
          · exact ld_glob (X := X.suite a ((a, o1) :: (X.pn ++ pins))) S1 hg hm q hdb
          · exact ld_blt (X := X.suite a ((a, o1) :: (X.pn ++ pins))) S1 hg hm hv q hnn hdb
        refine load (LM.here ?_)
        cases t with
        | false =>
          show wpAny _ X.A (handleBy (.ref a) X.env hds2) _ _ _
          exact ih (no rfl)
        | true =>
          refine codeAny_handlers_suite_as (HandSPX.lands_againZ fl fun g2 fl2 up2 => ?_)
          have J2 : Inv X pins ρ' G' { s' with heap := g2 } := J.landed nb fl2.1 ((up.trans up1).trans up2) os ag
          obtain ⟨o2, v2, at2, z2, d2⟩ := fl2.there
          refine store_ok (X := X.suite a ((a, o2) :: (X.pn ++ pins))) (v := .ref a) (J2.suite at2 d2 na aL aF) nd hi (.inl ln) rfl (fun s5 S5 => ?_) (.inr ln)
          refine wpAny_mono ((su a o2 cls d (X.pn ++ pins) z2 ⟨_, d2⟩).run [] s5 _ G' _ S5 (yes rfl (by rw [J2.len]; exact (List.getElem?_eq_some_iff.mp hi).1) a na)) (fun f s6 done => ?_) fun _ _ z => False.elim z
          have fin : ∀ {ρ6 : L2.St} {G6 : Hp} {Q : Shared → Prop}, Inv (X.suite a ((a, o2) :: (X.pn ++ pins))) [] ρ6 G6 s6 → (∀ s7, Inv X pins (ρ6.set i none) G6 s7 → Q s7) → wpAny (model X.prog X.w) X.A (do bindName X.env n .none; unbindBehindTheSuite X.env n q) (fun _ s7 => Q s7) X.xe s6 :=
            fun S6 hq => gone_ok (S6.unsuite ok) nd hi ln hq
          cases f with
          | ret u =>
            obtain ⟨v6, ρ6, G6, S6, r6, q6⟩ := done
            exact fin S6 fun s7 J7 => ⟨v6, _, G6, J7, r6, q6⟩
          | next =>
            obtain ⟨ρ6, G6, S6, q6⟩ := done
            exact fin S6 fun s7 J7 => ⟨_, G6, J7, q6⟩
          | brk =>
            obtain ⟨ρ6, G6, S6, q6⟩ := done
            exact fin S6 fun s7 J7 => ⟨_, G6, J7, q6⟩
          | cont =>
            obtain ⟨ρ6, G6, S6, q6⟩ := done
            exact fin S6 fun s7 J7 => ⟨_, G6, J7, q6⟩
    exact all hh wish
  · cases f with
    | ret u =>
      obtain ⟨v, ρ1, G1, J1, r, q⟩ := done
      exact ⟨v, ρ1, G1, J1.ofTry ok, r, q⟩
    | next =>
      obtain ⟨ρ1, G1, J1, q⟩ := done
      exact wpAny_execs_nil ⟨ρ1, G1, J1.ofTry ok, q⟩
    | brk =>
      obtain ⟨ρ1, G1, J1, q⟩ := done
      exact ⟨ρ1, G1, J1.ofTry ok, q⟩
    | cont =>
      obtain ⟨ρ1, G1, J1, q⟩ := done
      exact ⟨ρ1, G1, J1.ofTry ok, q⟩
end
/-- a suite that is never reached -/
theorem pss_void {X : Cx} {b : Stmt} {bs : List Stmt} : PSs X (b :: bs) (fun _ _ _ => False) := ⟨fun _ _ _ _ _ _ h => h.elim⟩
/-- repr(x), x any data -/
def rReprA (K : PySem.W.Frag) : List V → Hp → VK → Prop := fun xs H Q => ∃ (v : V) (d : PyData), xs = [v] ∧ Dq K H v d ∧ d.showable = true ∧ d.depth ≤ 60 ∧ d.shown.length ≤ sizeLine ∧ Q (.str d.shown) H
theorem call_reprA {X : Cx} (hg : X.A.guards = some []) (hu : X.A.units + 64 < cLine) : CallR X (.builtin "repr") (rReprA X.K) := by
  intro pins s σ H xs us Q I r h
  obtain ⟨v, d, rfl, hd, hs, hdp, hz, q⟩ := h
  cases v with
  | ref a => exact call_repr hg hu pins s σ H _ us Q I r ⟨a, d, rfl, hd, hs, hdp, hz, q⟩
  | non =>
    cases hd
    obtain ⟨u, rfl, ru⟩ := vals1 r
    cases (show u = Value.none from ru)
    exact PySem.P.repr_of_none ⟨.str "None", H, I.tok _, ⟨_, rfl⟩, q⟩
  | bl b =>
    cases hd
    obtain ⟨u, rfl, ru⟩ := vals1 r
    cases (show u = Value.bool b from ru)
    refine PySem.P.repr_of_bool ⟨.str (if b then "True" else "False"), H, I.tok _, ⟨_, rfl⟩, ?_⟩
    cases b with
    | true => exact q
    | false => exact q
  | int z =>
    cases hd
    obtain ⟨u, rfl, ru⟩ := vals1 r
    obtain ⟨t, rfl⟩ := ru
    have lg : z.natAbs.log2 < 1920 := by
      simp only [PyData.showable] at hs
      exact of_decide_eq_true hs
    exact PySem.P.repr_of_int lg ⟨.str (PyData.int z).shown, H, I.tok _, ⟨_, rfl⟩, q⟩
  | str x =>
    cases hd
    obtain ⟨u, rfl, ru⟩ := vals1 r
    obtain ⟨t, rfl⟩ := ru
    exact PySem.P.repr_of_str ⟨.str (PyData.str x).shown, H, I.tok _, ⟨_, rfl⟩, q⟩ hz
  | flt b => cases hd
  | byt b => cases hd
  | ty b => cases hd
/-- data, or a list of data that stands anywhere -/
def DqT (K : PySem.W.Frag) (H : Hp) (v : V) (d : PyData) : Prop := Dq K H v d ∨ ∃ (a : Addr) (ys : List V) (ds : List PyData), v = .ref a ∧ H a = some (.lst ys) ∧ DqAll K H ys ds ∧ d = .list ds
theorem DqT.same {K : PySem.W.Frag} {H H' : Hp} {v : V} {d : PyData} (s : Same H H') (h : DqT K H v d) : DqT K H' v d := by
  rcases h with h | ⟨a, ys, ds, e, ha, hd, ed⟩
  · exact .inl (h.same s)
  · exact .inr ⟨a, ys, ds, e, s _ _ ha, hd.same s, ed⟩
def rReprT (K : PySem.W.Frag) : List V → Hp → VK → Prop := fun xs H Q => ∃ (v : V) (d : PyData), xs = [v] ∧ DqT K H v d ∧ d.showable = true ∧ d.depth ≤ 60 ∧ d.shown.length ≤ sizeLine ∧ Q (.str d.shown) H
theorem call_reprT {X : Cx} (hg : X.A.guards = some []) (hu : X.A.units + 64 < cLine) : CallR X (.builtin "repr") (rReprT X.K) := by
  intro pins s σ H xs us Q I r h
  obtain ⟨v, d, rfl, hd, hs, hdp, hz, q⟩ := h
  rcases hd with hd | ⟨a, ys, ds, rfl, ha, hds, rfl⟩
  · exact call_reprA hg hu pins s σ H _ us Q I r ⟨v, d, rfl, hd, hs, hdp, hz, q⟩
  · obtain ⟨u, rfl, ru⟩ := vals1 r
    cases (show u = Value.ref a from ru)
    obtain ⟨_, its, n, rv, ho⟩ := (show ObjOk X.prog X.w H s.heap a (.lst _) from I.hok a _ ha)
    obtain ⟨as, rd, hn⟩ := DqAll.reads I hds rv
    have whole : Reads s.heap (.ref a) (.list ds) (a :: as) := .list ho rfl rfl rd
    have hz' : (listText (PyData.shownAll ds)).length ≤ sizeLine := by simpa only [PyData.shown] using hz
    have sa : PyData.showableAll ds = true := by simpa only [PyData.showable] using hs
    obtain ⟨bs, hb, hk⟩ := ReprAllK.of_readsAll (prog := X.prog) (w := X.w) rd sa (fun _ => hn) (fun t ht => Nat.le_trans (listText_mem_le ht) hz')
    have dp : (PyData.list ds).depth = PyData.depthAll ds + 1 := by simp only [PyData.depth]
    have hna : a ∉ bs := not_mem_of_deeper whole (by rw [dp]; omega) hb
    have fin : ∀ (h' : Heap) (t tk : Nat), (∀ b o, s.heap.get? b = some o → h'.get? b = some o) → EP X pins σ Q (.str (PyData.list ds).shown t) { s with heap := h', toks := tk } :=
      fun h' t tk keep => ⟨.str (PyData.list ds).shown, H, I.kept (t' := tk) keep, ⟨t, rfl⟩, q⟩
    refine call_repr_slot (by omega) ⟨_, ho, rfl⟩ F.slot_list_repr.toG ?_
    cases its with
    | nil =>
      cases rd
      refine call_list_repr_empty ⟨_, ho, rfl⟩ ho rfl ⟨_, _, rfl, ?_⟩
      exact fin s.heap _ _ fun _ _ e => e
    | cons x l =>
      refine call_list_reprK ho rfl rfl hna (by simpa using hk.length_eq) (fun i y e => hk.item i y (by simpa using e)) hg (fun b _ => Clear.nil b) (by show X.A.units + 1 + (PyData.depthAll ds + 1) < cLine; omega) (fun _ _ e => e) (fun h' t tk keep => ⟨_, _, rfl, ?_⟩) hz'
      have e : listText (PyData.shownAll ds) = (PyData.list ds).shown := by simp only [PyData.shown]
      rw [e]
      exact fin h' t tk keep
section
variable {K : PySem.W.Frag} {mg : Str → Option Value}
/-- which clause takes an error of an own class -/
theorem ErrT.exm {x y : Str} {B C D : Addr} (T : ErrT K mg x B C) (U : ErrT K mg y B D) (nb : D ≠ B) : PySem.W.exmOne K (.ref C) (.ref D) = some (decide (C = D)) := by
  obtain ⟨cd, e1, e2⟩ := T.mro
  obtain ⟨cd', e1', _⟩ := U.mro
  have m : PySem.W.mroIn K C (.ref D) = some (decide (C = D)) := by
    unfold PySem.W.mroIn
    rw [e1, Option.bind_some, e2]
    by_cases h : C = D
    · subst h
      simp
    · have n2 : ¬ (D = C) := fun z => h z.symm
      simp [n2, nb, h]
  have mD : PySem.W.subIn K (.ref D) (.type "BaseException") = some true := U.xf.exC
  unfold PySem.W.exmOne
  rw [mD]
  have ok : ((PySem.W.clsIn K D).isSome && PySem.W.typeIn K (.ref D) == some (.type "type")) = true := by
    rw [e1', U.o.tyC]
    rfl
  show (if (some true == some true) = true then (if ((PySem.W.clsIn K D).isSome && PySem.W.typeIn K (.ref D) == some (.type "type")) = true then PySem.W.mroIn K C (.ref D) else none) else none) = _
  rw [if_pos (show (some true == some true) = true from rfl), if_pos ok]
  exact m
end
end Kz
set_option linter.all false
set_option maxRecDepth 100000
set_option maxHeartbeats 4000000
namespace Kz
open PySem PySem.Spec PyProof.Rows L2
/-! ### why a call raises, told by the law's own def -/
theorem boot_repr' : bootBuiltins "repr" = some (.builtin "repr") := by decide +kernel
theorem call_reprK {X : Cx} {K : PySem.W.Frag} (e : X.K = K) (hg : X.A.guards = some []) (hu : X.A.units + 64 < cLine) : CallR X (.builtin "repr") (rReprA K) := e ▸ call_reprA hg hu
theorem call_reprTK {X : Cx} {K : PySem.W.Frag} (e : X.K = K) (hg : X.A.guards = some []) (hu : X.A.units + 64 < cLine) : CallR X (.builtin "repr") (rReprT K) := e ▸ call_reprT hg hu
/-- an error with what it tells -/
def EWhy (K : PySem.W.Frag) (cN cR : Addr) (Q : VK) : XK := fun cls d H' => ∃ (dd : Addr) (v : V) (dt : PyData), d = some dd ∧ DqT K H' v dt ∧ dt.showable = true ∧ dt.depth ≤ 60 ∧ dt.shown.length ≤ sizeLine ∧
  ((∃ what, cls = .ref cN ∧ H' dd = some (.xd [("number", v), ("what", .str what)]) ∧ ∀ t, H' t = none → Q (.ref t) (upd H' t (.tup [.str "number", .str what, .str dt.shown]))) ∨
   (cls = .ref cR ∧ H' dd = some (.xd [("row", v)]) ∧ ∀ t, H' t = none → Q (.ref t) (upd H' t (.tup [.str "row", .str dt.shown]))))
def TTwhy (K : PySem.W.Frag) (cN cR : Addr) : (XK → Hp → VK → Prop) → Hp → VK → Prop := fun tl H Q => tl (EWhy K cN cR Q) H fun _ H' => Q .non H'
theorem k1 : ((("what" : Str)) == (("number" : Str))) = false := by decide +kernel
theorem look1 {x : Str} {v : V} {r : List (Str × V)} : ((x, v) :: r).lookup x = some v := by simp [List.lookup]
theorem look2 {v u : V} : ([(("number" : Str), v), (("what" : Str), u)] : List (Str × V)).lookup ("what" : Str) = some u := by simp [List.lookup, k1]
abbrev nWy : List Str := ["_law_call", "e"]
theorem sc62 : FnScope nWy ["_law_call"] (defScope (top 63)) := ⟨rfl, rfl, rfl, by decide +kernel, rfl, by decide +kernel, by decide +kernel⟩
theorem why_gives {X : Cx} (T : Tu X.prog X.K X.mg) (hg : X.A.guards = some []) (hr : Room 2 X.A) {g : Addr} {cdg : Value} {q : Str} : LamX.GivesTo X nWy "_law_why" (defScope (top 63)) g cdg (defBody (top 63)) "_law_call" q (TTwhy X.K T.cN T.cR) := by
  intro f c' s H Q tl act hc h
  have hu := (hr.deeper (envOfC "_law_why" (defScope (top 63)) s.heap.objs.size g cdg)).units
  refine ⟨_, pss_cons (ps_try_named (X := (cxOf C8.CX0 X.prog X.w X.K X.mg X.base nWy "_law_why" (defScope (top 63)) g cdg X.A X.stack s H C8.E0).nox) (i := 1) (n := "e")
      (tb := fun W D ρ G => ∃ Ech : XK, (∀ cls d ρ' G', Ech cls d G' → W cls d ρ' G') ∧ ρ[0]? = some (some (.ref f)) ∧ G c' = some (LamX.CodeO c' q) ∧ tl Ech G fun _ G' => D.nx ρ G')
      rfl rfl sc62.nd rfl rfl LamX.takes0 (fun W pn xe tk _ => ?_)
      (.cons (c := .ref T.cN) ⟨rfl, by decide, .inl T.eN.g⟩ (fun a oe cls d pn hz hf => pss_one (ps_ret (pe_tup (pa_cons pe_str (pa_cons (pe_xf T.eN.xf T.nN1 hz hf (pv 1)) (pa_cons (pe_callB (call_reprTK (K := X.K) (X := ((cxOf C8.CX0 X.prog X.w X.K X.mg X.base nWy "_law_why" (defScope (top 63)) g cdg X.A X.stack s H C8.E0).nox).suite a ((a, oe) :: pn)) rfl hg hu) (by rfl) T.mRepr boot_repr' (pa_cons (pe_xf T.eN.xf T.nN2 hz hf (pv 1)) pa_nil)) pa_nil))))))
      (.cons (c := .ref T.cR) ⟨rfl, by decide, .inl T.eR.g⟩ (fun a oe cls d pn hz hf => pss_one (ps_ret (pe_tup (pa_cons pe_str (pa_cons (pe_callB (call_reprTK (K := X.K) (X := ((cxOf C8.CX0 X.prog X.w X.K X.mg X.base nWy "_law_why" (defScope (top 63)) g cdg X.A X.stack s H C8.E0).nox).suite a ((a, oe) :: pn)) rfl hg hu) (by rfl) T.mRepr boot_repr' (pa_cons (pe_xf T.eR.xf T.nR1 hz hf (pv 1)) pa_nil)) pa_nil)))))
      (.cons (c := .ref T.cI) ⟨rfl, by decide, .inl T.eI.g⟩ (fun a oe cls d pn hz hf => pss_void)
      (.cons (c := .ref T.cU) ⟨rfl, by decide, .inl T.eU.g⟩ (fun a oe cls d pn hz hf => pss_void) .nil)))))
    (pss_one (ps_ret pe_non)), ?_⟩
  · refine ⟨fun pins s' ρ G D I h' => ?_⟩
    obtain ⟨Ech, hW, h1, h2, h3⟩ := h'
    exact (pss_one (ps_expr (act W pn xe Ech _ _ tk hW))).run pins s' ρ G D I ⟨h1, h2, h3⟩
  · refine ⟨EWhy X.K T.cN T.cR Q, fun cls d ρ' G' hE => ?_, rfl, hc, h⟩
    obtain ⟨dd, v, dt, rfl, hd, hs, hp, hz, hE⟩ := hE
    rcases hE with ⟨what, rfl, ed, k⟩ | ⟨rfl, ed, k⟩
    · refine ⟨true, ?_, fun _ il a na => ?_, fun z => nomatch z⟩
      · have := T.eN.exm T.eN T.nbN
        rwa [decide_eq_true rfl] at this
      · have ix : (List.set ρ' 1 (some (V.ref a)))[1]? = some (some (V.ref a)) := List.getElem?_set_self il
        exact ⟨_, ix, rfl, rfl, dd, _, _, rfl, ed, look2, _, ix, rfl, rfl, dd, _, _, rfl, ed, look1, v, dt, rfl, hd, hs, hp, hz, (by show 3 ≤ sizeLine; decide), fun t nt => k t nt⟩
    · refine ⟨false, ?_, (fun z => nomatch z), fun _ => ⟨true, ?_, fun _ il a na => ?_, fun z => nomatch z⟩⟩
      · have := T.eR.exm T.eN T.nbN
        rwa [decide_eq_false T.neRN] at this
      · have := T.eR.exm T.eR T.nbR
        rwa [decide_eq_true rfl] at this
      · have ix : (List.set ρ' 1 (some (V.ref a)))[1]? = some (some (V.ref a)) := List.getElem?_set_self il
        exact ⟨_, ix, rfl, rfl, dd, _, _, rfl, ed, look1, v, dt, rfl, hd, hs, hp, hz, (by show 2 ≤ sizeLine; decide), fun t nt => k t nt⟩
end Kz
set_option linter.all false
set_option maxRecDepth 100000
set_option maxHeartbeats 4000000
namespace Kz
open PySem PySem.Spec PyProof.Rows L2
/-! ### values that are no ratios -/
/-- no ratio, and data, all of it apart from the pen -/
structure OddG (K : PySem.W.Frag) (p : Addr) (H : Hp) (v : V) : Prop where
  o : Odd K (cl p H) v
  g : Good K (cl p H) v
theorem OddG.but {K : PySem.W.Frag} {p : Addr} {H H' : Hp} {v : V} (h : OddG K p H v) (b : But p H H') : OddG K p H' v := ⟨h.o.same b.cl, h.g.same b.cl⟩
def Stock (K : PySem.W.Frag) (p : Addr) (H : Hp) (vs : List V) : Prop := ∀ v ∈ vs, OddG K p H v
theorem Stock.but {K : PySem.W.Frag} {p : Addr} {H H' : Hp} {vs : List V} (h : Stock K p H vs) (b : But p H H') : Stock K p H' vs := fun v m => (h v m).but b
theorem Stock.add {K : PySem.W.Frag} {p : Addr} {H : Hp} {vs : List V} {v : V} (h : Stock K p H vs) (o : OddG K p H v) : Stock K p H (v :: vs) := fun u m => by
  rcases List.mem_cons.mp m with e | m
  · exact e ▸ o
  · exact h u m
/-- one more object, at a new place -/
theorem Stock.new {K : PySem.W.Frag} {p q : Addr} {H : Hp} {vs : List V} {o : HO} (h : Stock K p H vs) (n : H q = none) (ob : ∀ H', cl p H' q = some o → Same (cl p H) (cl p H') → OddG K p H' (.ref q)) (np : q ≠ p) (nt : ∀ ps, o ≠ .tbl ps := by intro _ z; cases z) : Stock K p (upd H q o) (.ref q :: vs) := by
  have b : But p H (upd H q o) := But.refl.new n
  exact (h.but b).add (ob _ (cl_at np upd_same nt) b.cl)
section
variable {K : PySem.W.Frag} {p : Addr} {H : Hp}
theorem odd_non : OddG K p H .non := ⟨⟨_, ty_non, by decide, .no ty_non (by decide) (by decide)⟩, ⟨.none, .non, ⟨by decide +kernel, by decide +kernel, by decide +kernel, by decide +kernel⟩⟩⟩
theorem odd_bl {b : Bool} : OddG K p H (.bl b) := ⟨⟨_, ty_bl, by decide, .no ty_bl (by decide) (by decide)⟩, ⟨.bool b, .bl b, by cases b <;> exact ⟨by decide +kernel, by decide +kernel, by decide +kernel, by decide +kernel⟩⟩⟩
theorem odd_str {x : String} (l : (Str.ofString x).length ≤ 2000) : OddG K p H (.str (Str.ofString x)) := ⟨⟨_, ty_str, by decide, .no ty_str (by decide) (by decide)⟩, ⟨_, .str _, small_text (signs_small x) l⟩⟩
theorem small_nil : Small (.tuple []) := ⟨by decide +kernel, by decide +kernel, by decide +kernel, by decide +kernel⟩
end
abbrev ti (a b : Int) : PyData := .tuple [.int a, .int b]
section
variable {P : Program} {w : World} {K : PySem.W.Frag} {mg : Str → Option Value} {base : Heap}
def spAny (K : PySem.W.Frag) : Sp := fun vs H Q _ => ∃ (p c : Addr) (n : Nat), vs = [.ref p] ∧ Pen H p c n ∧ n ≤ 900000 ∧ ∀ u H', Pen H' p c (n + 1) → But p H H' → OddG K p H' u → Q u H'
abbrev nAn : List Str := ["_law_pen_here", "_law_some"]
theorem sc64 : FnScope nAn ["_law_pen_here"] (defScope (top 65)) := ⟨rfl, rfl, rfl, by decide +kernel, rfl, by decide +kernel, by decide +kernel⟩
theorem ok_lany (T : Tu P K mg) : FnOk P w K mg base CX0 3 T.l_any.f T.l_any.fd ["_law_pen_here"] (spAny K) := by
  have G2 : FnOk P w K mg base CX0 2 T.l_pick.f T.l_pick.fd ["_law_pen_here", "_law_some"] spPick := ok_lpick T
  refine T.l_any.fn.ok sc64 (fun vs H Q E h => ?_) (fun cdv A outer s H vs Q E hr h => ?_)
  · obtain ⟨p, c, n, rfl, _⟩ := h
    rfl
  · obtain ⟨p, c, n, rfl, pen, hn, k⟩ := h
    refine ⟨_, pss_cons (ps_set (i := 1) sc64.nd rfl (.inl rfl) (pe_lst (pa_cons pe_non (pa_cons pe_bl (pa_cons pe_str
        (pa_cons (pe_tup (pa_cons pe_int (pa_cons pe_int pa_nil))) (pa_cons (pe_tup (pa_cons pe_int (pa_cons (pe_un un_neg pe_int) pa_nil))) (pa_cons (pe_tup (pa_cons pe_int (pa_cons pe_bl pa_nil)))
        (pa_cons (pe_lstN (pa_cons pe_int pa_nil)) (pa_cons (pe_tup (pa_cons pe_int (pa_cons pe_int (pa_cons pe_int pa_nil))))
        (pa_cons (pe_disp (pps_cons pe_str pe_int pps_nil) (by rfl) (by rfl) (fun z => by cases z) (by decide))
        (pa_cons (pe_tup (pa_cons pe_str (pa_cons pe_int pa_nil))) (pa_cons (pe_tup (pa_cons pe_non (pa_cons pe_int pa_nil))) (pa_cons (pe_tup (pa_cons pe_bl (pa_cons pe_int pa_nil))) pa_nil))))))))))))))
      (pss_one (ps_ret (T.l_pick.c0 G2 hr (pa_cons (pv 0) (pa_cons (pe_op op_cat (pv 1) (pe_lst (pa_cons (pe_lstN (pa_cons pe_int (pa_cons pe_bl pa_nil)))
        (pa_cons (pe_tup (pa_cons (pe_tup (pa_cons pe_int (pa_cons pe_int pa_nil))) (pa_cons pe_int pa_nil))) (pa_cons (pe_tup pa_nil) pa_nil))))) pa_nil))))), ?_⟩
    have S0 : Stock K p H [.str (Str.ofString "1"), .bl true, .non] := ((Stock.add (fun v m => by cases m) odd_non).add odd_bl).add (odd_str (by decide))
    have b0 : But p H H := But.refl
    refine ⟨(by show 2 ≤ sizeLine; decide), fun q1 n1 => ?_⟩
    have S1 := S0.new n1 (o := .tup [.int 1, .int 0]) (fun H' e s => ⟨⟨_, ty_tup (SqT.of e), by decide, by have z := Pr.two (K := K) (x := 1) (y := 0) (.inr (SqT.of e)); exact z⟩, ⟨ti 1 0, .tup (SqT.of e) (.cons (.int _) (.cons (.int _) .nil)), ⟨by decide +kernel, by decide +kernel, by decide +kernel, by decide +kernel⟩⟩⟩) (pen.newP n1)
    have p1 := pen.new (o := .tup [.int 1, .int 0]) n1
    have b1 := b0.new (o := .tup [.int 1, .int 0]) n1
    generalize upd H q1 (.tup [.int 1, .int 0]) = H1 at S1 p1 b1
    refine ⟨_, rfl, (by show 2 ≤ sizeLine; decide), fun q2 n2 => ?_⟩
    have S2 := S1.new n2 (o := .tup [.int 1, .int (-2)]) (fun H' e s => ⟨⟨_, ty_tup (SqT.of e), by decide, by have z := Pr.two (K := K) (x := 1) (y := (-2)) (.inr (SqT.of e)); exact z⟩, ⟨ti 1 (-2), .tup (SqT.of e) (.cons (.int _) (.cons (.int _) .nil)), ⟨by decide +kernel, by decide +kernel, by decide +kernel, by decide +kernel⟩⟩⟩) (p1.newP n2)
    have p2 := p1.new (o := .tup [.int 1, .int (-2)]) n2
    have b2 := b1.new (o := .tup [.int 1, .int (-2)]) n2
    generalize upd H1 q2 (.tup [.int 1, .int (-2)]) = H2 at S2 p2 b2
    refine ⟨(by show 2 ≤ sizeLine; decide), fun q3 n3 => ?_⟩
    have S3 := S2.new n3 (o := .tup [.int 1, .bl true]) (fun H' e s => ⟨⟨_, ty_tup (SqT.of e), by decide, .snd (.inr (SqT.of e)) ty_bl (by decide)⟩, ⟨.tuple [.int 1, .bool true], .tup (SqT.of e) (.cons (.int _) (.cons (.bl _) .nil)), ⟨by decide +kernel, by decide +kernel, by decide +kernel, by decide +kernel⟩⟩⟩) (p2.newP n3)
    have p3 := p2.new (o := .tup [.int 1, .bl true]) n3
    have b3 := b2.new (o := .tup [.int 1, .bl true]) n3
    generalize upd H2 q3 (.tup [.int 1, .bl true]) = H3 at S3 p3 b3
    refine ⟨(by show 1 ≤ sizeLine; decide), fun q4 n4 m4 => ?_⟩
    have S4 := S3.new n4 (o := .lst [.int 1]) (fun H' e s => ⟨⟨_, ty_lst (SqL.of e), by decide, .len (.inl (SqL.of e)) (by decide)⟩, ⟨.list [.int 1], .lst e m4 (.cons (.int _) .nil), ⟨by decide +kernel, by decide +kernel, by decide +kernel, by decide +kernel⟩⟩⟩) (p3.newP n4)
    have p4 := p3.new (o := .lst [.int 1]) n4
    have b4 := b3.new (o := .lst [.int 1]) n4
    generalize upd H3 q4 (.lst [.int 1]) = H4 at S4 p4 b4
    refine ⟨(by show 3 ≤ sizeLine; decide), fun q5 n5 => ?_⟩
    have S5 := S4.new n5 (o := .tup [.int 1, .int 2, .int 3]) (fun H' e s => ⟨⟨_, ty_tup (SqT.of e), by decide, .len (.inr (SqT.of e)) (by decide)⟩, ⟨.tuple [.int 1, .int 2, .int 3], .tup (SqT.of e) (.cons (.int _) (.cons (.int _) (.cons (.int _) .nil))), ⟨by decide +kernel, by decide +kernel, by decide +kernel, by decide +kernel⟩⟩⟩) (p4.newP n5)
    have p5 := p4.new (o := .tup [.int 1, .int 2, .int 3]) n5
    have b5 := b4.new (o := .tup [.int 1, .int 2, .int 3]) n5
    generalize upd H4 q5 (.tup [.int 1, .int 2, .int 3]) = H5 at S5 p5 b5
    intro q6 n6
    have nm : ∀ H : Hp, H q6 = none → Same H (upd (upd H q6 (.dK [])) q6 (.dK (mergeK [] [(.inr "a", .int 1)]))) := fun H n b o e => by
      have ne := ne_of_none e n
      rw [upd_ne ne, upd_ne ne]
      exact e
    have q6p : q6 ≠ p := p5.newP n6
    have b6 := b5.trans (.ofSame (nm _ n6))
    have p6 := p5.same (nm _ n6)
    have S6 : Stock K p (upd (upd H5 q6 (.dK [])) q6 (.dK (mergeK [] [(.inr "a", .int 1)]))) (.ref q6 :: _) := (S5.but (.ofSame (nm _ n6))).add (by
      have e : cl p (upd (upd H5 q6 (.dK [])) q6 (.dK (mergeK [] [(.inr "a", .int 1)]))) q6 = some (.dK [(.inr "a", .int 1)]) := cl_at q6p upd_same fun _ z => nomatch z
      exact ⟨⟨_, ty_dic e, by decide, .no (ty_dic e) (by decide) (by decide)⟩, ⟨.dict [(.str "a", .int 1)], .dic e (.cons (.int _) .nil), ⟨by decide +kernel, by decide +kernel, by decide +kernel, by decide +kernel⟩⟩⟩)
    refine ⟨upd_same, [(.inr "a", .int 1)], rfl, (by show 1 ≤ 15; decide), ?_⟩
    generalize upd (upd H5 q6 (.dK [])) q6 (.dK (mergeK [] [(.inr "a", .int 1)])) = H6 at S6 p6 b6
    refine ⟨(by show 2 ≤ sizeLine; decide), fun q7 n7 => ?_⟩
    have S7 := S6.new n7 (o := .tup [.str "1", .int 2]) (fun H' e s => ⟨⟨_, ty_tup (SqT.of e), by decide, .fst (.inr (SqT.of e)) ty_str (by decide)⟩, ⟨.tuple [.str "1", .int 2], .tup (SqT.of e) (.cons (.str _) (.cons (.int _) .nil)), ⟨by decide +kernel, by decide +kernel, by decide +kernel, by decide +kernel⟩⟩⟩) (p6.newP n7)
    have p7 := p6.new (o := .tup [.str "1", .int 2]) n7
    have b7 := b6.new (o := .tup [.str "1", .int 2]) n7
    generalize upd H6 q7 (.tup [.str "1", .int 2]) = H7 at S7 p7 b7
    refine ⟨(by show 2 ≤ sizeLine; decide), fun q8 n8 => ?_⟩
    have S8 := S7.new n8 (o := .tup [.non, .int 1]) (fun H' e s => ⟨⟨_, ty_tup (SqT.of e), by decide, .fst (.inr (SqT.of e)) ty_non (by decide)⟩, ⟨.tuple [.none, .int 1], .tup (SqT.of e) (.cons .non (.cons (.int _) .nil)), ⟨by decide +kernel, by decide +kernel, by decide +kernel, by decide +kernel⟩⟩⟩) (p7.newP n8)
    have p8 := p7.new (o := .tup [.non, .int 1]) n8
    have b8 := b7.new (o := .tup [.non, .int 1]) n8
    generalize upd H7 q8 (.tup [.non, .int 1]) = H8 at S8 p8 b8
    refine ⟨(by show 2 ≤ sizeLine; decide), fun q9 n9 => ?_⟩
    have S9 := S8.new n9 (o := .tup [.bl true, .int 2]) (fun H' e s => ⟨⟨_, ty_tup (SqT.of e), by decide, .fst (.inr (SqT.of e)) ty_bl (by decide)⟩, ⟨.tuple [.bool true, .int 2], .tup (SqT.of e) (.cons (.bl _) (.cons (.int _) .nil)), ⟨by decide +kernel, by decide +kernel, by decide +kernel, by decide +kernel⟩⟩⟩) (p8.newP n9)
    have p9 := p8.new (o := .tup [.bl true, .int 2]) n9
    have b9 := b8.new (o := .tup [.bl true, .int 2]) n9
    generalize upd H8 q9 (.tup [.bl true, .int 2]) = H9 at S9 p9 b9
    refine ⟨(by show 12 ≤ sizeLine; decide), fun l nl => ?_⟩
    have Sl := S9.but (.ofSame (Same.new (o := .lst [.non, .bl true, .str "1", .ref q1, .ref q2, .ref q3, .ref q4, .ref q5, .ref q6, .ref q7, .ref q8, .ref q9]) nl))
    have pl := p9.new (o := .lst [.non, .bl true, .str "1", .ref q1, .ref q2, .ref q3, .ref q4, .ref q5, .ref q6, .ref q7, .ref q8, .ref q9]) nl
    have bl := b9.new (o := .lst [.non, .bl true, .str "1", .ref q1, .ref q2, .ref q3, .ref q4, .ref q5, .ref q6, .ref q7, .ref q8, .ref q9]) nl
    have el : upd H9 l (.lst [.non, .bl true, .str "1", .ref q1, .ref q2, .ref q3, .ref q4, .ref q5, .ref q6, .ref q7, .ref q8, .ref q9]) l = some (.lst [.non, .bl true, .str "1", .ref q1, .ref q2, .ref q3, .ref q4, .ref q5, .ref q6, .ref q7, .ref q8, .ref q9]) := upd_same
    generalize upd H9 l (.lst [.non, .bl true, .str "1", .ref q1, .ref q2, .ref q3, .ref q4, .ref q5, .ref q6, .ref q7, .ref q8, .ref q9]) = HL at Sl pl bl el
    refine ⟨_, rfl, _, rfl, ?_⟩
    have SL := Sl
    have pL := pl
    have bL := bl
    have kL := el
    refine ⟨(by show 2 ≤ sizeLine; decide), fun q10 n10 m10 => ?_⟩
    have S10 := SL.new n10 (o := .lst [.int 2, .bl false]) (fun H' e s => ⟨⟨_, ty_lst (SqL.of e), by decide, .snd (.inl (SqL.of e)) ty_bl (by decide)⟩, ⟨.list [.int 2, .bool false], .lst e m10 (.cons (.int _) (.cons (.bl _) .nil)), ⟨by decide +kernel, by decide +kernel, by decide +kernel, by decide +kernel⟩⟩⟩) (pL.newP n10)
    have p10 := pL.new (o := .lst [.int 2, .bl false]) n10
    have b10 := bL.new (o := .lst [.int 2, .bl false]) n10
    have k10 := Same.new (o := .lst [.int 2, .bl false]) n10 _ _ kL
    generalize upd HL q10 (.lst [.int 2, .bl false]) = H10 at S10 p10 b10 k10
    refine ⟨(by show 2 ≤ sizeLine; decide), fun q11 n11 => ?_⟩
    have S11 := S10.but (.ofSame (Same.new (o := .tup [.int 1, .int 2]) n11))
    have d11 : cl p (upd H10 q11 (.tup [.int 1, .int 2])) q11 = some (.tup [.int 1, .int 2]) := cl_at (p10.newP n11) upd_same fun _ z => nomatch z
    have p11 := p10.new (o := .tup [.int 1, .int 2]) n11
    have b11 := b10.new (o := .tup [.int 1, .int 2]) n11
    have k11 := Same.new (o := .tup [.int 1, .int 2]) n11 _ _ k10
    generalize upd H10 q11 (.tup [.int 1, .int 2]) = H11 at S11 p11 b11 k11 d11
    refine ⟨(by show 2 ≤ sizeLine; decide), fun q12 n12 => ?_⟩
    have S12 := S11.new n12 (o := .tup [.ref q11, .int 3]) (fun H' e s => ⟨⟨_, ty_tup (SqT.of e), by decide, .fst (.inr (SqT.of e)) (ty_tup (SqT.of (s _ _ d11))) (by decide)⟩, ⟨.tuple [ti 1 2, .int 3], .tup (SqT.of e) (.cons (.tup (SqT.of (s _ _ d11)) (.cons (.int _) (.cons (.int _) .nil))) (.cons (.int _) .nil)), ⟨by decide +kernel, by decide +kernel, by decide +kernel, by decide +kernel⟩⟩⟩) (p11.newP n12)
    have p12 := p11.new (o := .tup [.ref q11, .int 3]) n12
    have b12 := b11.new (o := .tup [.ref q11, .int 3]) n12
    have k12 := Same.new (o := .tup [.ref q11, .int 3]) n12 _ _ k11
    generalize upd H11 q12 (.tup [.ref q11, .int 3]) = H12 at S12 p12 b12 k12
    refine ⟨(by show 0 ≤ sizeLine; decide), fun q13 n13 => ?_⟩
    have S13 := S12.new n13 (o := .tup []) (fun H' e s => ⟨⟨_, ty_tup (SqT.of e), by decide, .len (.inr (SqT.of e)) (by decide)⟩, ⟨.tuple [], .tup (SqT.of e) .nil, ⟨by decide +kernel, by decide +kernel, by decide +kernel, by decide +kernel⟩⟩⟩) (p12.newP n13)
    have p13 := p12.new (o := .tup []) n13
    have b13 := b12.new (o := .tup []) n13
    have k13 := Same.new (o := .tup []) n13 _ _ k12
    generalize upd H12 q13 (.tup []) = H13 at S13 p13 b13 k13
    refine ⟨(by show 3 ≤ sizeLine; decide), fun r nr => ?_⟩
    have sr := Same.new (o := .lst [.ref q10, .ref q12, .ref q13]) nr
    have pr := p13.same sr
    have br := b13.trans (.ofSame sr)
    have Sr := S13.but (.ofSame sr)
    have kr := sr _ _ k13
    have er : upd H13 r (.lst [.ref q10, .ref q12, .ref q13]) r = some (.lst [.ref q10, .ref q12, .ref q13]) := upd_same
    generalize upd H13 r (.lst [.ref q10, .ref q12, .ref q13]) = H14 at sr pr br Sr kr er
    refine ⟨l, r, _, _, rfl, rfl, kr, er, (by show 15 ≤ sizeLine; decide), fun z nz => ?_⟩
    have sz := Same.new (o := .lst ([.non, .bl true, .str "1", .ref q1, .ref q2, .ref q3, .ref q4, .ref q5, .ref q6, .ref q7, .ref q8, .ref q9] ++ [.ref q10, .ref q12, .ref q13])) nz
    refine ⟨p, c, z, n, _, rfl, pr.same sz, by omega, upd_same, (by show 0 < 15; decide), (by show 15 < 1000000; decide), fun j u H15 hj pz bz => ?_⟩
    have Sz := (Sr.but (.ofSame sz)).but bz
    refine k u H15 pz ((br.trans (.ofSame sz)).trans bz) ?_
    have mem := mem_of_at hj
    simp only [List.cons_append, List.nil_append, List.mem_cons, List.not_mem_nil, or_false] at mem
    rcases mem with rfl | rfl | rfl | rfl | rfl | rfl | rfl | rfl | rfl | rfl | rfl | rfl | rfl | rfl | rfl <;> exact Sz _ (by simp)
end
end Kz
set_option linter.all false
set_option maxRecDepth 100000
set_option maxHeartbeats 4000000
namespace Kz
open PySem PySem.Spec PyProof.Rows L2
/-! ### texts -/
section
variable {prog : Program} {w : World} {A : Around} {E : Value → Shared → Prop} {s : Shared}
/-- z.join(reversed([y])) -/
theorem kz_joinRev {z y : Str} {t u : Tok} {it l : Addr} {Q : Value → Shared → Prop} (hh : A.handled = none) (hit : s.heap.IsRevIter it l 0) (hl : s.heap.IsList l #[.str y u]) (ne : l ≠ it) (hz : y.length + z.length ≤ 16777216)
    (hQ : ∀ (h' : Heap) (tk t' : Nat), (∀ b o, b ≠ it → s.heap.get? b = some o → h'.get? b = some o) → Q (.str y t') { s with heap := h', toks := tk }) :
    wpAny (model prog w) A (call (.builtin "str.join") [.str z t, .ref it]) Q E s := by
  refine wpAny_call (codeAny_call_builtin F.slot_str_join.plain F.entry_str_join (F.slot_str_join.check _ _ _ _ _ _ _ _ (typeIs_str _ _ _) (F.args_str_join_2 _ _) ?_))
  rw [join_tree_other]
  refine wpAny_bind (wpAny_typeOf (Heap.IsRevIter.typeIs hit) ?_)
  show wpAny _ A.in1 ((pyIter (.ref it)).tryCatch _ >>= fun it => collect it >>= fun items => joinTail z items) _ _ s
  refine wpAny_bind (wpAny_tryCatch (wpAny_pyIter_revIter hit ?_))
  refine wpAny_bind (RT.collect_rev (A := A.in1) hh (items := #[.str y u]) hit hl ne (by show 1 ≤ sizeLine; decide) fun h' tk acc keep hacc => ?_)
  have ea : acc.toList = strValues [(y, u)] := by
    have l1 : acc.size = 1 := hacc.1
    have e0 : acc[0]? = some (.str y u) := by
      have lt : 0 < acc.size := by omega
      rw [Array.getElem?_eq_getElem lt]
      have := hacc.2 0 _ (Array.getElem?_eq_getElem lt)
      exact this.symm
    have l2 : acc.toList.length = 1 := by rw [Array.length_toList]; exact l1
    match h : acc.toList, l2 with
    | [x], _ =>
      have e1 : acc.toList[0]? = some (.str y u) := by rw [Array.getElem?_toList]; exact e0
      rw [h] at e1
      cases e1
      rfl
  rw [ea]
  have ok : JoinOk z [y] = true := joinOk_of (by simpa using hz)
  unfold JoinOk at ok
  rw [Bool.not_eq_true'] at ok
  have g : Gives (joinTail z (strValues [(y, u)])) (joinMade z [(y, u)]) := gives_joinTail z [(y, u)] ok
  exact g prog w A (wants Q E) { s with heap := h', toks := tk } (post_join [(y, u)] ⟨joinFit_length ok, fun t' k => hQ h' k t' keep⟩)
end

def tJoinRev (K : PySem.W.Frag) (to te : TE) : TE := fun σ H Q => to σ H fun x H1 => (∃ z, x = .str z) ∧ te σ H1 fun v H2 => ∃ (a : Addr) (z y : Str), x = .str z ∧ v = .ref a ∧ SqL K H2 a [.str y] ∧ y.length + z.length ≤ 16777216 ∧ Q (.str y) H2
theorem pe_joinRev {X : Cx} {o e : Expr} {to te : TE} {apos pos p pos2 : Pos} (hc : X.calm = true) (ho : PE X o to) (hg : Gl X "reversed") (hm : X.mg "reversed" = none) (he : PE X e te)
    (hs1 : starEach [.Call (.Name "reversed" p) [e] [] pos2] X.env = [(false, eval (.Call (.Name "reversed" p) [e] [] pos2) X.env)] := by rfl)
    (hs : starEach [e] X.env = (false, eval e X.env) :: starEach [] X.env := by rfl)
    (hb : attributeBase o "join" X.env (eval o X.env) = eval o X.env := by rfl) (hline : (apos.endLine == pos.line) = true := by rfl) :
    PE X (.Call (.Attribute o "join" apos) [.Call (.Name "reversed" p) [e] [] pos2] [] pos) (tJoinRev X.K to te) := by
  constructor
  intro pins s σ H Q I h
  refine PySem.Call_method1 hb hs1 hline (thn (ho.run pins s σ H _ I h) fun v s1 ⟨x, H1, I1, r1, q1⟩ => ?_)
  obtain ⟨⟨z, rfl⟩, q1⟩ := q1
  obtain ⟨t, rfl⟩ := _root_.id r1
  refine ⟨"str", _, F.plainAttrs_str, F.slot_str_join, F.type_str_join, typeIs_str _ _ _, (fun _ e => nomatch e), Calls.callWith_builtin rfl (Calls.evalArgs_plain (Calls.spliced_cons ?_))⟩
  refine Call_ (ld_blt I1 hg hm PyProof.Rows.boot_reversed (PyProof.Rows.callWith_type1 (args_cons (thn (he.run pins s1 σ H1 _ I1 q1) fun u s2 ⟨v2, H2, I2, r2, q2⟩ => args_nil ?_) hs) hs rfl))
  obtain ⟨a, z', y, ez, rfl, hx, hz, q2⟩ := q2
  cases ez
  cases (show u = Value.ref a from r2)
  obtain ⟨its, rv, p', hsz⟩ := I2.list hx
  refine call_reversed_list p'.isList (Calls.spliced_nil ?_)
  obtain ⟨u', rfl, ru⟩ := vals1 rv
  obtain ⟨t', rfl⟩ := ru
  have lt : a < s2.heap.objs.size := by
    obtain ⟨ol, hol, _⟩ := p'.isList
    exact Heap.lt_size hol
  have hl := p'.isList
  have e0 : (([Value.str y t'].toArray.size : Nat) : Int) - 1 = 0 := rfl
  rw [e0]
  have key : wpAny (model X.prog X.w) X.A (call (.builtin "str.join") [.str z t, .ref s2.heap.objs.size]) (EP X pins σ Q) X.xe ⟨s2.heap.push (revObj a 0), s2.gens, s2.drawn, s2.toks, s2.os⟩ := by
    refine kz_joinRev (l := a) (u := t') (y := y) (I2.ok.hd hc) ⟨_, Heap.get?_push_size _ rfl, rfl, rfl⟩ (hl.push _) (Nat.ne_of_lt lt) hz ?_
    intro h' tk t'' keep
    exact ⟨.str y, H2, I2.kept (t' := tk) fun b ob eb => keep b ob (Nat.ne_of_lt (Heap.lt_size eb)) (Heap.get?_push_of_some _ eb), ⟨t'', rfl⟩, q2⟩
  exact key
end Kz
set_option linter.all false
set_option maxRecDepth 100000
set_option maxHeartbeats 4000000
namespace Kz
open PySem PySem.Spec PyProof.Rows L2
abbrev txt (z : Int) : Str := toString z
section
variable {P : Program} {w : World} {K : PySem.W.Frag} {mg : Str → Option Value} {base : Heap}
def spDig : Sp := fun vs H Q _ => ∃ z : Int, vs = [.int z] ∧ z < 10 ^ 60 ∧ z.natAbs.log2 < 1920 ∧ ∀ H', Same H H' → Q (.str (txt z)) H'
abbrev nDg : List Str := ["number", "blocks", "left", "block"]
theorem sc19 : FnScope nDg ["number"] (defScope (top 19)) := ⟨rfl, rfl, rfl, by decide +kernel, rfl, by decide +kernel, by decide +kernel⟩
theorem boot_str : bootBuiltins "str" = some (.type "str") := by decide +kernel
theorem ok_dig (T : Tx P K mg) : FnOk P w K mg base CX0 1 T.digits_of.f T.digits_of.fd ["number"] spDig := by
  refine T.digits_of.fn.ok sc19 (fun vs H Q E h => ?_) (fun cdv A outer s H vs Q E hr h => ?_)
  · obtain ⟨z, rfl, _⟩ := h
    rfl
  · obtain ⟨z, rfl, hz, lg, k⟩ := h
    refine ⟨_, PSs.nox (pss_cons (ps_set (i := 1) sc19.nd rfl (.inl rfl) (pe_lst pa_nil))
      (pss_cons (ps_set (i := 2) sc19.nd rfl (.inl rfl) (pv 0))
      (pss_cons (ps_while PassesOwn.never (pt_cmpR op_ge (pv 2) (pe_op op_pow pe_int pe_int) (nomark _)) pss_void)
      (pss_cons (ps_expr (pe_bm PySem.F.plainAttrs_list PySem.F.slot_list_append PySem.F.type_list_append mt_append (pv 1) (pa_cons (pe_callTy call_str_int (by rfl) T.mStr boot_str (pa_cons (pv 2) pa_nil)) pa_nil)))
      (pss_one (ps_ret (pe_joinRev rfl pe_str rfl T.mRev (pv 1)))))))), ?_⟩
    refine ⟨(by show 0 ≤ sizeLine; decide), fun b nb => ?_⟩
    have s1 := Same.new (o := .lst []) nb
    have e1 : upd H b (.lst []) b = some (.lst []) := upd_same
    generalize upd H b (.lst []) = H1 at s1 e1
    refine ⟨_, rfl, fun m ρ G => ρ = [some (.int z), some (.ref b), some (.int z), none] ∧ G = H1, ⟨0, rfl, rfl⟩, ?_⟩
    rintro m ρ G ⟨rfl, rfl⟩
    refine ⟨_, rfl, _, _, rfl, rfl, ⟨by decide, by decide, by decide⟩, _, _, rfl, rfl, _, rfl, ?_⟩
    rw [show decide ((10 : Int) ^ (60 : Int).toNat ≤ z) = false from decide_eq_false (Int.not_le.mpr hz)]
    refine iteF ?_
    refine ⟨_, rfl, .inl ⟨rfl, _, SqL.of e1⟩, _, rfl, z, rfl, lg, b, [], _, rfl, rfl, e1, (by show 0 < sizeLine; decide), ?_⟩
    have l1 := int_text_len_1921 lg
    refine ⟨⟨_, rfl⟩, _, rfl, b, Str.ofString "", txt z, rfl, rfl, SqL.of upd_same, ?_, k _ fun c o e => ?_⟩
    · show (Str.ofString (toString z)).length + 0 ≤ 16777216
      exact Nat.le_trans l1 (by decide)
    · rw [upd_ne (ne_of_none e nb)]
      exact s1 _ _ e
theorem txt_app (a b : String) : Str.ofString (a ++ b) = Str.ofString a ++ Str.ofString b := by
  have h : (Str.ofString (a ++ b)).cps = (Str.ofString a ++ Str.ofString b).cps := by
    apply Array.toList_inj.mp
    show (Str.ofString (a ++ b)).cps.toList = ((Str.ofString a).cps ++ (Str.ofString b).cps).toList
    rw [Array.toList_append, signs_ofString, signs_ofString, signs_ofString, String.toList_append, List.map_append]
  cases hx : Str.ofString (a ++ b)
  rw [hx] at h
  cases hy : Str.ofString a ++ Str.ofString b
  rw [hy] at h
  exact congrArg Str.mk h
theorem txt_neg {z : Int} (h : z < 0) : Str.ofString "-" ++ txt ((z.natAbs : Nat) : Int) = txt z := by
  cases z with
  | ofNat n => exact absurd h (by simp)
  | negSucc n => exact (txt_app "-" (toString ((n + 1 : Nat) : Int))).symm
theorem txt_pos {z : Int} (h : ¬ z < 0) : txt ((z.natAbs : Nat) : Int) = txt z := by
  have : ((z.natAbs : Nat) : Int) = z := by omega
  rw [this]
/-- the text of a ratio -/
def rtext (q : Rat) : Str := if q.den = 1 then txt q.num else txt q.num ++ Str.ofString "/" ++ txt (q.den : Int)
abbrev nRt : List Str := ["value", "top", "bottom", "text"]
theorem sc20 : FnScope nRt ["value"] (defScope (top 20)) := ⟨rfl, rfl, rfl, by decide +kernel, rfl, by decide +kernel, by decide +kernel⟩
def spRt (K : PySem.W.Frag) (cN : Addr) : Sp := fun vs H Q E => ∃ v, vs = [v] ∧ ((∃ q n m, ArgQ K H v n m q ∧ n ≤ 190 ∧ m ≤ 190 ∧ ∀ H', Same H H' → Q (.str (rtext q)) H') ∨ (Odd K H v ∧ ErN cN H E "ratio" v))
theorem ok_rtext (T : Tx P K mg) : FnOk P w K mg base (CX P w) 5 T.ratio_text.f T.ratio_text.fd ["value"] (spRt K T.cN) := by
  have G1 : FnOk P w K mg base (CX P w) 4 T.told.f T.told.fd ["value", "what"] (spTold K T.cN) := ok_told T
  have G2 : FnOk P w K mg base CX0 1 T.digits_of.f T.digits_of.fd ["number"] spDig := ok_dig T
  refine T.ratio_text.fn.okX sc20 (fun vs H Q E h => ?_) (fun cdv A outer s H vs Q E hr h => ?_)
  · obtain ⟨v, rfl, _⟩ := h
    rfl
  · obtain ⟨v, rfl, h⟩ := h
    have hr1 : Room 1 _ := hr.mono (by decide)
    have tk := takes_of (X := cxOf (CX P w) P w K mg base nRt "ratio_text" (defScope (top 20)) T.ratio_text.f cdv A outer s H E) (E := E) rfl rfl rfl rfl
    refine ⟨_, pss_cons (ps_asg (T.told.cS G1 hr tk (pa_cons (pv 0) (pa_cons pe_str pa_nil))) (pg_tup (by rfl) (pgs_cons (pg_name (i := 1) sc20.nd rfl (.inl rfl)) (pgs_cons (pg_name (i := 2) sc20.nd rfl (.inl rfl)) pgs_nil))))
      (pss_cons (ps_set (i := 3) sc20.nd rfl (.inl rfl) (T.digits_of.c0 G2 hr1 (pa_cons (pe_callB call_abs (by rfl) T.mAbs boot_abs (pa_cons (pv 1) pa_nil)) pa_nil)))
      (C8.pss_cut (ps_if (pt_cmpR op_lt (pv 1) pe_int (nomark _)) (pss_one (ps_set (i := 3) sc20.nd rfl (.inl rfl) (pe_op op_add_str pe_str (pv 3)))) pss_nil)
      (pss_cons (ps_if (pt_cmpR op_eq (pv 2) pe_int (nomark _)) (pss_one (ps_ret (pv 3))) pss_nil)
      (pss_one (ps_ret (pe_op op_add_str (pe_op op_add_str (pv 3) pe_str) (T.digits_of.c0 G2 hr1 (pa_cons (pv 2) pa_nil)))))))), ?_⟩
    rcases h with ⟨q, n, m, aq, hn, hm, k⟩ | ⟨od, er⟩
    · refine ⟨_, rfl, _, _, rfl, .inl ⟨q, n, m, aq, by omega, fun v1 H1 s1 rv => ?_⟩⟩
      obtain ⟨t1, rfl, h1⟩ := rv
      have zq := aq.sz
      have p190 : (2 : Nat) ^ 190 < 10 ^ 60 := by decide +kernel
      have i60 : ((10 : Int) ^ 60) = ((10 ^ 60 : Nat) : Int) := by decide +kernel
      have a1 : q.num.natAbs < 2 ^ 190 := up_lt zq.1 hn
      have a2 : q.den < 2 ^ 190 := Nat.lt_of_lt_of_le zq.2 (pow_up hm)
      have lg1 : q.num.natAbs.log2 < 1920 := log_lt a1 (by decide)
      have lg1' : (((q.num.natAbs : Nat) : Int)).natAbs.log2 < 1920 := lg1
      have lg2 : ((q.den : Int)).natAbs.log2 < 1920 := log_lt (den_abs zq) (by omega)
      have t1l := int_text_len_1921 lg1
      have t2l := int_text_len_1921 lg2
      have t3l := int_text_len_1921 lg1'
      have c1 : ((q.num.natAbs : Nat) : Int) < 10 ^ 60 := by omega
      have c2 : (q.den : Int) < 10 ^ 60 := by omega
      refine ⟨t1, _, rfl, h1, rfl, _, _, rfl, _, _, rfl, rfl, ?_⟩
      refine ⟨_, rfl, _, rfl, ?_⟩
      rw [abs_nat]
      refine ⟨_, rfl, c1, lg1', fun H2 s2 => ?_⟩
      refine ⟨fun ρ G => Same H G ∧ ρ = [some v, some (.int q.num), some (.int (q.den : Int)), some (.str (txt q.num))], ?_, ?_⟩
      · refine ⟨_, rfl, _, _, rfl, rfl, _, rfl, ?_⟩
        refine ite2 (fun lt => ?_) (fun ge => ?_)
        · have lt' : q.num < 0 := of_decide_eq_true lt
          refine ⟨_, rfl, _, _, rfl, rfl, ?_, s1.trans s2, ?_⟩
          · show 1 + (txt ((q.num.natAbs : Nat) : Int)).length ≤ sizeLine
            rw [sizeLine_eq]
            exact Nat.le_trans (Nat.add_le_add_left t3l 1) (by decide)
          · rw [← txt_neg lt']
            rfl
        · refine ⟨s1.trans s2, ?_⟩
          rw [← txt_pos fun z => ge (decide_eq_true z)]
          rfl
      · rintro ρ G ⟨sG, rfl⟩
        refine ⟨_, rfl, rfl, _, rfl, ?_⟩
        by_cases d1 : q.den = 1
        · have e : rtext q = txt q.num := if_pos d1
          rw [show decide (V.int (q.den : Int) = V.int 1) = true from decide_eq_true (by rw [d1]; rfl)]
          refine iteT ⟨_, rfl, ?_⟩
          rw [← e]
          exact k G sG
        · have e : rtext q = txt q.num ++ Str.ofString "/" ++ txt (q.den : Int) := if_neg d1
          rw [show decide (V.int (q.den : Int) = V.int 1) = false from decide_eq_false (fun z => d1 (by have := V.int.inj z; omega))]
          have ln : (txt q.num ++ Str.ofString "/").length = (txt q.num).length + 1 := Array.size_append ..
          refine iteF ⟨_, rfl, _, _, rfl, rfl, ?_, _, rfl, _, rfl, c2, lg2, fun H3 s3 => ⟨_, _, rfl, rfl, ?_, ?_⟩⟩
          · show (txt q.num).length + 1 ≤ sizeLine
            rw [sizeLine_eq]
            exact Nat.le_trans (Nat.add_le_add_right t1l 1) (by decide)
          · rw [ln, sizeLine_eq]
            exact Nat.le_trans (Nat.add_le_add (Nat.add_le_add_right t1l 1) t2l) (by decide)
          · rw [← e]
            exact k H3 (sG.trans s3)
    · exact ⟨_, rfl, _, _, rfl, .inr ⟨od, er⟩⟩
end
end Kz
set_option linter.all false
set_option maxRecDepth 100000
set_option maxHeartbeats 4000000
namespace Kz
open PySem PySem.Spec PyProof.Rows L2
/-! ### defs that make lambdas -/
structure FunC (K : PySem.W.Frag) (x qual : Str) (st : Stmt) (f : Addr) (fd : FuncData) (c : Addr) : Prop where
  ex : ∃ (oc : Value) (od : Option Addr) (kV doc pm : Value) (an : Option Addr) (ct : Value) (osl : Array (Option Value)),
    fd = PySem.W.fnOf x qual (defArgs st) (defBody st) (defScope st) .none kV doc pm an (.ref c) ct ∧ K.lookup f = some ⟨oc, od, .func fd, osl⟩ ∧ PySem.W.codeIn K (.ref c) qual = true
section
variable {P : Program} {w : World} {K : PySem.W.Frag} {mg : Str → Option Value} {base : Heap} {CX : CXT} {k : Nat} {f c : Addr} {x qual : Str} {st : Stmt} {fd : FuncData} {N ps : List Str} {sp : Sp}
theorem fnGC_of (F : FunC K x qual st f fd c) (S : FnScope N ps (defScope st)) (many : ∀ vs H Q E, sp vs H Q E → vs.length = ps.length)
    (body : ∀ (A : Around) (outer : List Env) (s : Shared) (H : Hp) (vs : List V) (Q : VK) (E : XK), A.guards = some [] → Room k (A.deeper (envOfC qual (defScope st) s.heap.objs.size f (.ref c))) → sp vs H Q E →
      ∃ t, PSs (cxOf CX P w K mg base N qual (defScope st) f (.ref c) A outer s H E) (defBody st) t ∧ t { nx := fun _ H' => Q .non H', rt := Q } (start N vs) H) :
    FnG P w K mg base CX (k + 1) f fd ps sp := by
  obtain ⟨oc, od, kV, doc, pm, an, ct, osl, rfl, lk, hcd⟩ := F.ex
  constructor
  · exact many
  intro A hg room outer s H e0 args us vs hb r Q E want
  have KX : K.In s.heap := e0.mod.kin.keeps fun b o z => (e0.bs b o z).1
  have lim : s.heap.NoLimit := e0.mod.nolimit.keeps fun b o z => (e0.bs b o z).1
  refine codeAny_call_function room.depth (KX _ _ lk) rfl S.co S.gen rfl (PySem.W.codeRec_of KX hcd) (hb _ _ _ _ ?_)
  refine wpAny_newFunctionEnv_cells S.kind ?_ ?_
  · rintro ⟨n, v⟩ mem
    cases S.par n (List.of_mem_zip mem).1 with
    | inl q => exact .inl q
    | inr q => exact .inr ⟨q, PySem.W.cellsFrom_some _ _ _ (.inl q)⟩
  rintro env rfl s1 xs
  refine ⟨lim.keeps xs.toInCall.keep, codeAny_func ?_⟩
  obtain ⟨t, ht, hq⟩ := body A outer s H vs Q E hg (room.deeper _) want
  have I := inv_start (CX := CX) (P := P) (mg := mg) (E := E) S room.hd e0 (many _ _ _ _ want) r xs
  refine wpAny_mono (ht.run [] s1 (start N vs) H _ I hq) ?_ fun _ _ z => z
  intro fl s' hs
  have fin : ∀ {σ' : L2.St} {H' : Hp} {v : V} {u : Value}, Inv (cxOf CX P w K mg base N qual (defScope st) f (.ref c) A outer s H E) [] σ' H' s' → RelV v u → Q v H' → CE outer P w H s Q u s' := by
    intro σ' H' v u J rv q
    exact ⟨v, H', J.os, J.bare, J.base, J.hok, rv, q⟩
  rcases fl with _ | _ | _ | u
  · obtain ⟨σ', H', J, q⟩ := hs
    exact fin (v := V.non) (u := Value.none) J rfl q
  · obtain ⟨_, _, _, q⟩ := hs
    exact q.elim
  · obtain ⟨_, _, _, q⟩ := hs
    exact q.elim
  · obtain ⟨v, σ', H', J, rv, q⟩ := hs
    exact fin J rv q
end
/-- a pen bears what is drawn, the tables too -/
theorem Pen.tabs {H H' : Hp} {p c : Addr} {n : Nat} {Tl : List (Addr × Str)} (pen : Pen H p c n) (b : But p H H') (t : LamX.Tabs Tl H) : LamX.Tabs Tl H' := by
  obtain ⟨ns, i, d, m, f, e1, _⟩ := pen
  intro q hq
  obtain ⟨ps, a1, a2, a3⟩ := t q hq
  refine ⟨ps, b _ _ a1 (ne_of a1 e1 (fun z => nomatch z)), a2, fun pos cv hc => ?_⟩
  obtain ⟨c0, e, h⟩ := a3 pos cv hc
  exact ⟨c0, e, b _ _ h (ne_of h e1 (fun z => by unfold LamX.CodeO at z; cases z))⟩
theorem Same.tabs {H H' : Hp} {Tl : List (Addr × Str)} (s : Same H H') (t : LamX.Tabs Tl H) : LamX.Tabs Tl H' := t.ext s
section
variable {X : Cx} {P : Program} {w : World} {K : PySem.W.Frag} {mg : Str → Option Value} {base : Heap}
/-- _law_why(lambda: body) -/
theorem pe_why (T : Tu P K mg) {Tl : List (Addr × Str)} {c Pt : Addr} {k : Nat} {params : Arguments} {body : Expr} {scope : Scope} {t : XK → TE} {p lpos pos : Pos} (hgu : X.A.guards = some []) (TB : LamX.TabB base mg c Pt) (hcode : X.env.code = .ref c)
    (hmT : (Pt, X.env.qual ++ "<lambda>") ∈ Tl) (hu : ∀ p ∈ Tl, p.1 = Pt → p.2 = X.env.qual ++ "<lambda>") (hr : Room (k + 2) X.A) (L : LamX.LamS X.env.scope scope)
    (hbody : ∀ (A : Around) (outer : List Env) (s : Shared) (H : Hp) (E : XK) (f c' : Addr), Room k (A.deeper (LamX.lamEnv X scope s.heap.objs.size f c')) → PE (LamX.lamCx X A outer s H E scope f c') body (t E))
    (of : Of X P w K mg base := by exact ⟨rfl, rfl, rfl, rfl, rfl⟩) (hg : Gl X "_law_why" := by rfl) (hdef : defaultsOf params X.env = ([], []) := by rfl)
    (hbind : ∀ (q : Str) (cl : List (Str × Addr)) (pm cv ctv : Value), bindArgs (PySem.W.kla_fn "<lambda>" q params body scope cl pm cv ctv) ⟨[], []⟩ = pure [] := by intro q cl pm cv ctv; rfl) :
    PE X (.Call (.Name "_law_why" p) [.Lambda params body scope lpos] [] pos) (LamX.tLam Tl (TTwhy K T.cN T.cR) t) := by
  obtain ⟨rfl, rfl, rfl, rfl, rfl⟩ := of
  obtain ⟨oc, od, kV, doc, pm, an, cdv, ct, osl, efd, lk, hcd⟩ := T.l_why.fn.ex
  have hb := T.l_why.b
  rw [efd] at lk hb
  exact LamX.pe_lamcall hg T.l_why.g T.l_why.fn.kp lk hcd hb sc62 rfl (.inl rfl) (why_gives T hgu (hr.mono (by omega))) TB hcode hmT hu hr L hdef hbind hbody
/-- x(e, ..), x a variable that holds one of several defs -/
theorem pe_callVarS {S : Addr → Sp → Prop} {k i : Nat} {x : Str} {p pos : Pos} {e : Expr} {es : List Expr} {t : TA} {W : WX} (hN : X.N[i]? = some x) (hv : Vis X.env.scope x)
    (C : ∀ f sp, S f sp → ∃ fd ps, FnOk X.prog X.w X.K X.mg X.base (CX X.prog X.w) k f fd ps sp ∧ PySem.W.keepIn X.K (.ref f) = true ∧ Binds X.K fd ps []) (hr : Room k X.A) (tk : Takes X W) (ha : PA X (e :: es) t)
    (hd : (x == ("__debug__" : Str)) = false := by decide) (hcd : (x == ("__classdict__" : Str)) = false := by decide)
    (st : starEach (e :: es) X.env = (false, eval e X.env) :: starEach es X.env := by rfl) (nost : (backTo pos (starEach es X.env)).any (·.1) = false := by rfl) :
    PE X (.Call (.Name x p) (e :: es) [] pos) (fun σ H Q => ∃ f sp, S f sp ∧ σ[i]? = some (some (.ref f)) ∧ t σ H fun vs H1 => sp vs H1 Q (WE W σ)) := by
  constructor
  intro pins s σ H Q I h
  obtain ⟨f, sp, hS, hs, h⟩ := h
  obtain ⟨fd, ps, F, kp, hb⟩ := C f sp hS
  refine wpAny_Call_Name_kw (thn ((pe_var (pos := p) (i := i) hN hv hd hcd).run pins s σ H (fun v H1 => v = .ref f ∧ H1 = H) I ⟨.ref f, hs, rfl, rfl⟩) fun u s1 ⟨v, H1, I1, r1, q1⟩ => ?_)
  obtain ⟨ev, eH⟩ := q1
  subst ev
  rw [eH] at I1
  obtain rfl : u = Value.ref f := r1
  refine PySem.W.callWith_K (h₀ := X.base) I1.ok.mod.kin kp ?_ st nost
  refine thn (ha.run pos pins s1 σ H _ I1 h) ?_
  rintro us s2 ⟨vs, H2, I2, r, q⟩
  exact ⟨I2.kIn, run_fnS F hr hb (passAt tk σ) I2 r q⟩
end
/-! ### the way out, told by why -/
section
variable {K : PySem.W.Frag} {cN cR : Addr} {H : Hp} {Q : VK} {v : V} {d : PyData}
/-- what repr asks of data -/
structure Shows (d : PyData) : Prop where
  sh : d.showable = true
  dp : d.depth ≤ 60
  ln : d.shown.length ≤ sizeLine
theorem er_num {what : Str} (hd : Dq K H v d) (z : Shows d) (k : ∀ (t : Addr) (H' : Hp), Same H H' → H' t = some (.tup [.str "number", .str what, .str d.shown]) → Q (.ref t) H') : ErN cN H (EWhy K cN cR Q) what v :=
  fun dd H1 s e => ⟨dd, v, d, rfl, .inl (hd.same s), z.sh, z.dp, z.ln, .inl ⟨what, rfl, e, fun t nt => k t _ (s.trans (Same.new nt)) upd_same⟩⟩
theorem er_row (hd : Dq K H v d) (z : Shows d) (k : ∀ (t : Addr) (H' : Hp), Same H H' → H' t = some (.tup [.str "row", .str d.shown]) → Q (.ref t) H') : ErR cR H (EWhy K cN cR Q) v :=
  fun dd H1 s e => ⟨dd, v, d, rfl, .inl (hd.same s), z.sh, z.dp, z.ln, .inr ⟨rfl, e, fun t nt => k t _ (s.trans (Same.new nt)) upd_same⟩⟩
theorem er_rowT (hd : DqT K H v d) (z : Shows d) (k : ∀ (t : Addr) (H' : Hp), Same H H' → H' t = some (.tup [.str "row", .str d.shown]) → Q (.ref t) H') : ErR cR H (EWhy K cN cR Q) v :=
  fun dd H1 s e => ⟨dd, v, d, rfl, hd.same s, z.sh, z.dp, z.ln, .inr ⟨rfl, e, fun t nt => k t _ (s.trans (Same.new nt)) upd_same⟩⟩
theorem Small.shows {d : PyData} (h : Small d) : Shows d := by
  refine ⟨h.sh, by have := h.dp; omega, ?_⟩
  have l := PyData.shown_le_bulk 1921 (by decide) d h.lv
  have b := h.bk
  rw [sizeLine_eq]
  omega
end
/-! ### rows of texts that are the same, compared -/
section
variable {X : Cx}
def rSameT (K : PySem.W.Frag) (r : Bool) : R2 := fun x y H Q => ∃ (a b : Addr) (l : List Str), x = .ref a ∧ y = .ref b ∧ SqT K H a (l.map V.str) ∧ SqT K H b (l.map V.str) ∧ Q (.bl r) H
theorem strs_at {l : List Str} {its its2 : List Value} {A : Around} {s : Shared} (r1 : Vals (l.map V.str) its) (r2 : Vals (l.map V.str) its2) : ∀ j (h1 : j < its.toArray.size) (h2 : j < its2.toArray.size), SeqAt.EqAt A s its.toArray[j] its2.toArray[j] true := by
  intro j h1 h2
  have hj : j < l.length := by
    have := r1.length
    rw [List.length_map] at this
    rw [List.size_toArray] at h1
    omega
  have ex : (l.map V.str)[j]? = some (.str l[j]) := by
    rw [List.getElem?_map, List.getElem?_eq_getElem hj]
    rfl
  obtain ⟨u, eu, t, ru⟩ := r1.get ex
  obtain ⟨u', eu', t', ru'⟩ := r2.get ex
  have e1 : its.toArray[j] = .str l[j] t := by
    have h : its.toArray[j]? = some u := by simpa using eu
    rw [Array.getElem?_eq_getElem h1] at h
    rw [Option.some.inj h, ru]
  have e2 : its2.toArray[j] = .str l[j] t' := by
    have h : its2.toArray[j]? = some u' := by simpa using eu'
    rw [Array.getElem?_eq_getElem h2] at h
    rw [Option.some.inj h, ru']
  rw [e1, e2]
  have := SeqAt.EqAt.str_str (A := A) (s := s) l[j] t l[j] t'
  rwa [beq_self_eq_true] at this
theorem all_same {n m : Nat} (h : n = m) : ((List.range (min n m)).all (fun _ => true) && n == m) = true := by
  subst h
  simp
theorem op_eqT (hu : X.A.units + 64 < cLine) : OpR X (compareOp .Eq) (rSameT X.K true) := by
  intro pins s σ H x y v u Q I rx ry h
  obtain ⟨a, b, l, rfl, rfl, ha, hb, q⟩ := h
  cases rx
  cases ry
  obtain ⟨its, r1, p1, _⟩ := I.tuple ha
  obtain ⟨its2, r2, p2, _⟩ := I.tuple hb
  have sz : its.toArray.size = its2.toArray.size := by
    rw [List.size_toArray, List.size_toArray, ← r1.length, ← r2.length]
  have R := SeqAt.RcAt.tuples (A := X.A) (s := s) (e := fun _ => true) p1 p2 (by omega) (strs_at r1 r2)
  rw [all_same sz] at R
  exact R X.prog X.w X.xe (EP X pins σ Q) ⟨.bl true, H, I, rfl, q⟩
theorem op_neT (hu : X.A.units + 64 < cLine) : OpR X (compareOp .NotEq) (rSameT X.K false) := by
  intro pins s σ H x y v u Q I rx ry h
  obtain ⟨a, b, l, rfl, rfl, ha, hb, q⟩ := h
  cases rx
  cases ry
  obtain ⟨its, r1, p1, _⟩ := I.tuple ha
  obtain ⟨its2, r2, p2, _⟩ := I.tuple hb
  have sz : its.toArray.size = its2.toArray.size := by
    rw [List.size_toArray, List.size_toArray, ← r1.length, ← r2.length]
  have R := SeqAt.RcNeAt.tuples (A := X.A) (s := s) (e := fun _ => true) p1 p2 (by omega) (strs_at r1 r2)
  rw [all_same sz] at R
  exact R X.prog X.w X.xe (EP X pins σ Q) ⟨.bl false, H, I, rfl, q⟩
end
end Kz
set_option linter.all false
set_option maxRecDepth 100000
set_option maxHeartbeats 4000000
namespace Kz
open PySem PySem.Spec PyProof.Rows L2
/-- the name of a def's lambdas -/
def qn (x : Str) : Str := (envOfC x (defScope (top 68)) 0 0 .none).qual ++ "<lambda>"
/-- .. and the code objects of the defs that make lambdas, with their tables -/
structure Tt (P : Program) (K : PySem.W.Frag) (mg : Str → Option Value) extends Tu P K mg where
  law : Df K mg "law" (top 71) ["_law_script"]
  c67 : Addr
  c68 : Addr
  c69 : Addr
  c70 : Addr
  P67 : Addr
  P68 : Addr
  P69 : Addr
  P70 : Addr
  f67 : FunC K "_law_ratios_right" "_law_ratios_right" (top 68) l_rr.f l_rr.fd c67
  f68 : FunC K "_law_made_right" "_law_made_right" (top 69) l_mr.f l_mr.fd c68
  f69 : FunC K "_law_divided_right" "_law_divided_right" (top 70) l_dr.f l_dr.fd c69
  f70 : FunC K "law" "law" (top 71) law.f law.fd c70
  nPP : [P67, P68, P69, P70].Nodup
section
variable {P : Program} {w : World} {K : PySem.W.Frag} {mg : Str → Option Value} {base : Heap}
def Tt.Tl (T : Tt P K mg) : List (Addr × Str) := [(T.P67, qn "_law_ratios_right"), (T.P68, qn "_law_made_right"), (T.P69, qn "_law_divided_right"), (T.P70, qn "law")]
theorem Tt.h67 (T : Tt P K mg) : ∀ p ∈ T.Tl, p.1 = T.P67 → p.2 = qn "_law_ratios_right" := by
  have n := T.nPP
  intro p hp e
  unfold Tt.Tl at hp
  simp only [List.nodup_cons, List.mem_cons, List.not_mem_nil, or_false, not_or] at n hp
  obtain ⟨⟨a, b, c⟩, ⟨d, f⟩, g, _⟩ := n
  rcases hp with rfl | rfl | rfl | rfl
  · rfl
  · exact absurd e.symm a
  · exact absurd e.symm b
  · exact absurd e.symm c
theorem Tt.h68 (T : Tt P K mg) : ∀ p ∈ T.Tl, p.1 = T.P68 → p.2 = qn "_law_made_right" := by
  have n := T.nPP
  intro p hp e
  unfold Tt.Tl at hp
  simp only [List.nodup_cons, List.mem_cons, List.not_mem_nil, or_false, not_or] at n hp
  obtain ⟨⟨a, b, c⟩, ⟨d, f⟩, g, _⟩ := n
  rcases hp with rfl | rfl | rfl | rfl
  · exact absurd e a
  · rfl
  · exact absurd e.symm d
  · exact absurd e.symm f
theorem Tt.h69 (T : Tt P K mg) : ∀ p ∈ T.Tl, p.1 = T.P69 → p.2 = qn "_law_divided_right" := by
  have n := T.nPP
  intro p hp e
  unfold Tt.Tl at hp
  simp only [List.nodup_cons, List.mem_cons, List.not_mem_nil, or_false, not_or] at n hp
  obtain ⟨⟨a, b, c⟩, ⟨d, f⟩, g, _⟩ := n
  rcases hp with rfl | rfl | rfl | rfl
  · exact absurd e b
  · exact absurd e d
  · rfl
  · exact absurd e.symm g
theorem Tt.h70 (T : Tt P K mg) : ∀ p ∈ T.Tl, p.1 = T.P70 → p.2 = qn "law" := by
  have n := T.nPP
  intro p hp e
  unfold Tt.Tl at hp
  simp only [List.nodup_cons, List.mem_cons, List.not_mem_nil, or_false, not_or] at n hp
  obtain ⟨⟨a, b, c⟩, ⟨d, f⟩, g, _⟩ := n
  rcases hp with rfl | rfl | rfl | rfl
  · exact absurd e c
  · exact absurd e f
  · exact absurd e g
  · rfl
theorem Tt.m67 (T : Tt P K mg) : (T.P67, qn "_law_ratios_right") ∈ T.Tl := by simp [Tt.Tl]
theorem Tt.m68 (T : Tt P K mg) : (T.P68, qn "_law_made_right") ∈ T.Tl := by simp [Tt.Tl]
theorem Tt.m69 (T : Tt P K mg) : (T.P69, qn "_law_divided_right") ∈ T.Tl := by simp [Tt.Tl]
theorem Tt.m70 (T : Tt P K mg) : (T.P70, qn "law") ∈ T.Tl := by simp [Tt.Tl]
/-! ### data of ratios, for repr -/
theorem RV.dq {H : Hp} {v : V} {q : Rat} (h : RV K H v q) : Dq K H v (pdQ q) := by
  obtain ⟨t, rfl, ht⟩ := h
  exact .tup ht (.cons (.int _) (.cons (.int _) .nil))
theorem Al.dq {H : Hp} : ∀ {vs : List V} {qs : List Rat}, Al K H vs qs → DqAll K H vs (qs.map pdQ)
  | [], [], _ => .nil
  | [], _ :: _, h => by cases h.1
  | _ :: _, [], h => by cases h.1
  | v :: vs, q :: qs, h => .cons (h.2 0 v q rfl rfl).dq (Al.dq ⟨Nat.succ.inj h.1, fun i u r e1 e2 => h.2 (i + 1) u r e1 e2⟩)
theorem pdQ_small {q : Rat} {n m : Nat} (z : Sz n m q) (hn : n ≤ 1900) (hm : m ≤ 1900) : Small (pdQ q) := small_two (.inr rfl) (log_lt z.1 hn) (log_lt (den_abs z) hm)
theorem rows_data : ∀ {qs : List Rat} {n m : Nat}, (∀ q ∈ qs, Sz n m q) → n ≤ 1900 → m ≤ 1900 → PyData.showableAll (qs.map pdQ) = true ∧ PyData.depthAll (qs.map pdQ) ≤ 5 ∧ PyData.leavesShortAll 1921 (qs.map pdQ) = true ∧ PyData.bulkAll (qs.map pdQ) ≤ 3 * qs.length
  | [], _, _, _, _, _ => ⟨rfl, Nat.zero_le _, rfl, Nat.zero_le _⟩
  | q :: qs, n, m, h, hn, hm => by
    have s := pdQ_small (h q List.mem_cons_self) hn hm
    obtain ⟨a, b, c, d⟩ := rows_data (fun x hx => h x (List.mem_cons_of_mem _ hx)) hn hm
    have bk : (pdQ q).bulk = 2 := rfl
    refine ⟨?_, ?_, ?_, ?_⟩
    · simp only [List.map_cons, PyData.showableAll, s.sh, a, Bool.and_self]
    · simp only [List.map_cons, PyData.depthAll]
      have := s.dp
      omega
    · simp only [List.map_cons, PyData.leavesShortAll, s.lv, c, Bool.and_self]
    · simp only [List.map_cons, PyData.bulkAll, List.length_cons, bk]
      omega
theorem rows_shows {qs : List Rat} {n m : Nat} (h : ∀ q ∈ qs, Sz n m q) (hn : n ≤ 1900) (hm : m ≤ 1900) (l : qs.length ≤ 1000) : Shows (.tuple (qs.map pdQ)) := by
  obtain ⟨a, b, c, d⟩ := rows_data h hn hm
  refine ⟨by simpa only [PyData.showable] using a, by simp only [PyData.depth]; omega, ?_⟩
  have z := PyData.shown_le_bulk 1921 (by decide) (.tuple (qs.map pdQ)) (by simpa only [PyData.leavesShort] using c)
  simp only [PyData.bulk] at z
  rw [sizeLine_eq]
  omega
theorem one_shows {q : Rat} {n m : Nat} (z : Sz n m q) (hn : n ≤ 1900) (hm : m ≤ 1900) : Shows (pdQ q) := (pdQ_small z hn hm).shows
end
end Kz
set_option linter.all false
set_option maxRecDepth 100000
set_option maxHeartbeats 8000000
namespace Kz
open PySem PySem.Spec PyProof.Rows L2
section
variable {P : Program} {w : World} {K : PySem.W.Frag} {mg : Str → Option Value} {base : Heap}
theorem fnGC0 {k : Nat} {f c : Addr} {x qual : Str} {st : Stmt} {fd : FuncData} {N ps : List Str} {sp : Sp} (F : FunC K x qual st f fd c) (S : FnScope N ps (defScope st)) (many : ∀ vs H Q E, sp vs H Q E → vs.length = ps.length)
    (body : ∀ (A : Around) (outer : List Env) (s : Shared) (H : Hp) (vs : List V) (Q : VK) (E : XK), A.guards = some [] → Room k (A.deeper (envOfC qual (defScope st) s.heap.objs.size f (.ref c))) → sp vs H Q E →
      ∃ t, PSs (cxOf CX0 P w K mg base N qual (defScope st) f (.ref c) A outer s H E).nox (defBody st) t ∧ t { nx := fun _ H' => Q .non H', rt := Q } (start N vs) H) :
    FnG P w K mg base CX0 (k + 1) f fd ps sp :=
  fnGC_of F S many fun A outer s H vs Q E hg hr h => by
    obtain ⟨t, ht, hq⟩ := body A outer s H vs Q E hg hr h
    exact ⟨t, PSs.nox ht, hq⟩
def spRight (Tl : List (Addr × Str)) : Sp := fun vs H Q _ => ∃ (p c : Addr) (n : Nat), vs = [.ref p] ∧ Pen H p c n ∧ n ≤ 200000 ∧ LamX.Tabs Tl H ∧
  ∀ H', Pen H' p c (n + 3000) → ButN p H H' → LamX.Tabs Tl H' → Q (.bl true) H'
abbrev n67 : List Str := ["_law_pen_here", "_law_one", "_law_two", "_law_a", "_law_b", "_law_whole", "_law_odd", "_law_more", "_law_zero", "_law_call"]
theorem sc67 : FnScope n67 ["_law_pen_here"] (defScope (top 68)) := ⟨rfl, rfl, rfl, by decide +kernel, rfl, by decide +kernel, by decide +kernel⟩
theorem eq_same {b : Bool} : decide (b = b) = true := decide_eq_true rfl
theorem txt_nil (x : Str) : x ++ Str.ofString "" = x := by
  cases x with
  | mk a =>
    show (⟨a ++ #[]⟩ : Str) = ⟨a⟩
    rw [Array.append_empty]
theorem txt_assoc (x y z : Str) : x ++ (y ++ z) = x ++ y ++ z := by
  show (⟨x.cps ++ (y.cps ++ z.cps)⟩ : Str) = ⟨x.cps ++ y.cps ++ z.cps⟩
  rw [Array.append_assoc]
theorem ne_same {v : V} : (!decide (v = v)) = false := by
  rw [decide_eq_true rfl]
  rfl
/-- the defs that the loops call -/
inductive Two (K : PySem.W.Frag) (T : Tx P K mg) : Addr → Sp → Prop
  | plus : Two K T T.plus.f (spTwo K T.cN cBin (fun H v q r => RV K H v (q + r)))
  | minus : Two K T T.minus.f (spTwo K T.cN cBin (fun H v q r => RV K H v (q - r)))
  | times : Two K T T.times.f (spTwo K T.cN cBin (fun H v q r => RV K H v (q * r)))
  | share : Two K T T.share.f (spShare K T.cN)
  | lower : Two K T T.lower.f (spTwo K T.cN cBin (fun _ v q r => v = .bl (decide (q < r))))
theorem Two.call {T : Tx P K mg} {f : Addr} {sp : Sp} (h : Two K T f sp) : ∃ fd ps, FnOk P w K mg base (CX P w) 5 f fd ps sp ∧ PySem.W.keepIn K (.ref f) = true ∧ Binds K fd ps [] := by
  cases h with
  | plus => exact ⟨_, _, ok_plus T, T.plus.fn.kp, T.plus.b⟩
  | minus => exact ⟨_, _, ok_minus T, T.minus.fn.kp, T.minus.b⟩
  | times => exact ⟨_, _, ok_times T, T.times.fn.kp, T.times.b⟩
  | share => exact ⟨_, _, ok_share T, T.share.fn.kp, T.share.b⟩
  | lower => exact ⟨_, _, ok_lower T, T.lower.fn.kp, T.lower.b⟩
inductive One (K : PySem.W.Frag) (T : Tx P K mg) : Addr → Sp → Prop
  | floor : One K T T.floor_of.f (spOne K T.cN (fun _ v q => v = .int q.floor))
  | text : One K T T.ratio_text.f (spRt K T.cN)
theorem One.call {T : Tx P K mg} {f : Addr} {sp : Sp} (h : One K T f sp) : ∃ fd ps, FnOk P w K mg base (CX P w) 5 f fd ps sp ∧ PySem.W.keepIn K (.ref f) = true ∧ Binds K fd ps [] := by
  cases h with
  | floor => exact ⟨_, _, ok_floor T, T.floor_of.fn.kp, T.floor_of.b⟩
  | text => exact ⟨_, _, ok_rtext T, T.ratio_text.fn.kp, T.ratio_text.b⟩
theorem num_cmp {cN cR : Addr} {what : Str} {v : V} {d : PyData} {i : Nat} {σ : L2.St} {G : Hp} {r : Bool} {Qf : VK} (hσ : σ[i]? = some (some v)) (hd : Dq K G v d) (z : Shows d) (k : ∀ G', Same G G' → Qf (.bl r) G') :
    ErN cN G (EWhy K cN cR fun x H1 => tTup (tCons (tC (.str "number")) (tCons (tC (.str what)) (tCons (tCB (rReprA K) (tCons (tVar i) tNil)) tNil))) σ H1 fun y H2 => rSameT K r x y H2 Qf) what v :=
  er_num hd z fun t G2 s2 e2 => ⟨v, hσ, v, d, rfl, hd.same s2, z.sh, z.dp, z.ln, (by show 3 ≤ sizeLine; decide), fun t2 nt2 => ⟨t, t2, ["number", what, d.shown], rfl, rfl, SqT.of (Same.new nt2 _ _ e2), SqT.of upd_same, k _ (s2.trans (Same.new nt2))⟩⟩
theorem row_cmp {cN cR : Addr} {v : V} {d : PyData} {i : Nat} {σ : L2.St} {G : Hp} {r : Bool} {Qf : VK} (hσ : σ[i]? = some (some v)) (hd : Dq K G v d) (z : Shows d) (k : ∀ G', Same G G' → Qf (.bl r) G') :
    ErR cR G (EWhy K cN cR fun x H1 => tTup (tCons (tC (.str "row")) (tCons (tCB (rReprA K) (tCons (tVar i) tNil)) tNil)) σ H1 fun y H2 => rSameT K r x y H2 Qf) v :=
  er_row hd z fun t G2 s2 e2 => ⟨v, hσ, v, d, rfl, hd.same s2, z.sh, z.dp, z.ln, (by show 2 ≤ sizeLine; decide), fun t2 nt2 => ⟨t, t2, ["row", d.shown], rfl, rfl, SqT.of (Same.new nt2 _ _ e2), SqT.of upd_same, k _ (s2.trans (Same.new nt2))⟩⟩
theorem Two.first {T : Tx P K mg} {f : Addr} {sp : Sp} (h : Two K T f sp) {v u : V} {G : Hp} {Q : VK} {E : XK} (o : Odd K G v) (e : ErN T.cN G E "ratio" v) : sp [v, u] G Q E := by
  cases h with
  | share => exact ⟨_, _, rfl, .inr (.inl ⟨o, e⟩)⟩
  | _ => exact ⟨_, _, rfl, .inr (.inl ⟨o, e⟩)⟩
theorem Two.second {T : Tx P K mg} {f : Addr} {sp : Sp} (h : Two K T f sp) {v u : V} {q : Rat} {n m : Nat} {G : Hp} {Q : VK} {E : XK} (a : ArgQ K G v n m q) (hm : m ≤ 9000) (o : Odd K G u) (e : ErN T.cN G E "ratio" u) : sp [v, u] G Q E := by
  cases h with
  | share => exact ⟨_, _, rfl, .inr (.inr (.inl ⟨⟨q, n, m, a, hm⟩, o, e⟩))⟩
  | _ => exact ⟨_, _, rfl, .inr (.inr ⟨⟨q, n, m, a, hm⟩, o, e⟩)⟩
theorem One.odd {T : Tx P K mg} {f : Addr} {sp : Sp} (h : One K T f sp) {v : V} {G : Hp} {Q : VK} {E : XK} (o : Odd K G v) (e : ErN T.cN G E "ratio" v) : sp [v] G Q E := by
  cases h with
  | floor => exact ⟨_, rfl, .inr ⟨o, e⟩⟩
  | text => exact ⟨_, rfl, .inr ⟨o, e⟩⟩
/-- what the last part of the checks keeps -/
structure RS (K : PySem.W.Frag) (Tl : List (Addr × Str)) (p c : Addr) (n : Nat) (H : Hp) (o1 o2 ua z : V) (q : Rat) (G : Hp) : Prop where
  pen : Pen G p c n
  but : ButN p H G
  tabs : LamX.Tabs Tl G
  g1 : OddG K p G o1
  g2 : OddG K p G o2
  a : ArgQ K (cl p G) ua 62 62 q
  za : ∃ n m, ArgQ K (cl p G) z n m 0 ∧ m ≤ 9000
  zg : Good K (cl p G) z
theorem RS.ext {Tl : List (Addr × Str)} {p c : Addr} {n : Nat} {H : Hp} {o1 o2 ua z : V} {q : Rat} {G G' : Hp} (h : RS K Tl p c n H o1 o2 ua z q G) (e : LamX.ExtN G G') (t : LamX.Tabs Tl G') : RS K Tl p c n H o1 o2 ua z q G' := by
  have b : ButN p G G' := fun b o eb _ nt => e b o eb nt
  obtain ⟨n1, m1, za, hm⟩ := h.za
  exact ⟨h.pen.extN e, h.but.trans b, t, ⟨h.g1.o.same b.cl, h.g1.g.same b.cl⟩, ⟨h.g2.o.same b.cl, h.g2.g.same b.cl⟩, h.a.same b.cl, ⟨n1, m1, za.same b.cl, hm⟩, h.zg.same b.cl⟩
theorem RS.same {Tl : List (Addr × Str)} {p c : Addr} {n : Nat} {H : Hp} {o1 o2 ua z : V} {q : Rat} {G G' : Hp} (h : RS K Tl p c n H o1 o2 ua z q G) (s : Same G G') : RS K Tl p c n H o1 o2 ua z q G' := h.ext (fun b o e _ => s b o e) (h.tabs.ext s)
theorem ok_rr (T : Tt P K mg) (TB : LamX.TabB base mg T.c67 T.P67) : FnG P w K mg base CX0 8 T.l_rr.f T.l_rr.fd ["_law_pen_here"] (spRight T.Tl) := by
  have Gsome : FnOk P w K mg base CX0 4 T.l_some.f T.l_some.fd ["_law_pen_here"] (spSomeR K) := ok_lsome T.toTu
  have Gpick : FnOk P w K mg base CX0 2 T.l_pick.f T.l_pick.fd ["_law_pen_here", "_law_some"] spPick := ok_lpick T.toTu
  have Gfar : FnOk P w K mg base CX0 3 T.l_far.f T.l_far.fd ["_law_pen_here"] spFar := ok_lfar T.toTu
  have Gq : FnOk P w K mg base CX0 2 T.l_q.f T.l_q.fd ["_law_top", "_law_bottom"] (spLq K) := ok_lq T.toTy
  have Gpas : FnOk P w K mg base CX0 3 T.l_passed.f T.l_passed.fd ["_law_pen_here", "_law_ratio_here"] (spPassed K) := ok_lpassed T.toTu
  have Gtold : FnOk P w K mg base (CX P w) 4 T.told.f T.told.fd ["value", "what"] (spTold K T.cN) := ok_told T.toTx
  have Gplus : FnOk P w K mg base (CX P w) 5 T.plus.f T.plus.fd ["one", "other"] (spTwo K T.cN cBin (fun H v q r => RV K H v (q + r))) := ok_plus T.toTx
  have Gminus : FnOk P w K mg base (CX P w) 5 T.minus.f T.minus.fd ["one", "other"] (spTwo K T.cN cBin (fun H v q r => RV K H v (q - r))) := ok_minus T.toTx
  have Gtimes : FnOk P w K mg base (CX P w) 5 T.times.f T.times.fd ["one", "other"] (spTwo K T.cN cBin (fun H v q r => RV K H v (q * r))) := ok_times T.toTx
  have Gshare : FnOk P w K mg base (CX P w) 5 T.share.f T.share.fd ["one", "other"] (spShare K T.cN) := ok_share T.toTx
  have Glower : FnOk P w K mg base (CX P w) 5 T.lower.f T.lower.fd ["one", "other"] (spTwo K T.cN cBin (fun _ v q r => v = .bl (decide (q < r)))) := ok_lower T.toTx
  have Gfloor : FnOk P w K mg base (CX P w) 5 T.floor_of.f T.floor_of.fd ["value"] (spOne K T.cN (fun _ v q => v = .int q.floor)) := ok_floor T.toTx
  have Gtext : FnOk P w K mg base (CX P w) 5 T.ratio_text.f T.ratio_text.fd ["value"] (spRt K T.cN) := ok_rtext T.toTx
  have Gisr : FnOk P w K mg base CX0 3 T.is_ratio.f T.is_ratio.fd ["value"] (spRatio K) := ok_ratio T.toTx
  have Glplus : FnOk P w K mg base CX0 3 T.l_plus.f T.l_plus.fd ["_law_one", "_law_two"] (spL2 K cBin (fun q r => q + r)) := ok_lplus T.toTy
  have Glminus : FnOk P w K mg base CX0 3 T.l_minus.f T.l_minus.fd ["_law_one", "_law_two"] (spL2 K cBin (fun q r => q - r)) := ok_lminus T.toTy
  have Gltimes : FnOk P w K mg base CX0 3 T.l_times.f T.l_times.fd ["_law_one", "_law_two"] (spL2 K cBin (fun q r => q * r)) := ok_ltimes T.toTy
  have Glshare : FnOk P w K mg base CX0 3 T.l_share.f T.l_share.fd ["_law_one", "_law_two"] (spL2 K cShr (fun q r => q / r)) := ok_lshare T.toTy
  have Gless : FnOk P w K mg base CX0 1 T.l_less.f T.l_less.fd ["_law_one", "_law_two"] (spLess K) := ok_lless T.toTy
  have Gis : FnOk P w K mg base CX0 1 T.l_is.f T.l_is.fd ["_law_value", "_law_due"] spIs := ok_lis T.toTu
  have Gwhole : FnOk P w K mg base CX0 1 T.l_whole.f T.l_whole.fd ["_law_thing"] (spWhole K) := ok_lwhole T.toTu
  have Gany : FnOk P w K mg base CX0 3 T.l_any.f T.l_any.fd ["_law_pen_here"] (spAny K) := ok_lany T.toTu
  refine fnGC0 T.f67 sc67 (fun vs H Q E h => ?_) (fun A outer s H vs Q E hg hr h => ?_)
  · obtain ⟨p, c, n, rfl, _⟩ := h
    rfl
  · obtain ⟨p, c, n, rfl, pen, hn, tabs, k⟩ := h
    have hr1 : Room 1 _ := hr.mono (by decide)
    have hr2 : Room 2 _ := hr.mono (by decide)
    have hr3 : Room 3 _ := hr.mono (by decide)
    have hr4 : Room 4 _ := hr.mono (by decide)
    have hr5 : Room 5 _ := hr.mono (by decide)
    have hu := hr.units
    refine ⟨_, pss_cons (ps_par (i := 1) (j := 2) rfl sc67.nd rfl rfl (by decide) rfl rfl (pa_cons (T.l_some.c0 Gsome hr4 (pa_cons (pv 0) pa_nil)) (pa_cons (T.l_pick.c0 Gpick hr2 (pa_cons (pv 0) (pa_cons (pe_lst (pa_cons (T.l_some.c0 Gsome hr4 (pa_cons (pv 0) pa_nil))
        (pa_cons (T.l_q.c0 Gq hr2 (pa_cons (T.l_far.c0 Gfar hr3 (pa_cons (pv 0) pa_nil)) (pa_cons pe_int pa_nil))) pa_nil))) pa_nil))) pa_nil)) (by rfl))
      (pss_cons (ps_set (i := 2) sc67.nd rfl (.inl rfl) (T.l_pick.c0 Gpick hr2 (pa_cons (pv 0) (pa_cons (pe_lst (pa_cons (pv 2) (pa_cons (pv 2) (pa_cons (pv 1) (pa_cons (pe_tup (pa_cons (pe_un un_neg (pe_ix ix_tup (pv 1) pe_int (fun _ _ => rfl))) (pa_cons (pe_ix ix_tup (pv 1) pe_int (fun _ _ => rfl)) pa_nil))) pa_nil))))) pa_nil))))
      (pss_cons (ps_asg (pe_tup (pa_cons (T.l_passed.c0 Gpas hr3 (pa_cons (pv 0) (pa_cons (pv 1) pa_nil))) (pa_cons (T.l_passed.c0 Gpas hr3 (pa_cons (pv 0) (pa_cons (pv 2) pa_nil))) pa_nil))) (pg_tup (by rfl) (pgs_cons (pg_name (i := 3) sc67.nd rfl (.inr rfl)) (pgs_cons (pg_name (i := 4) sc67.nd rfl (.inl rfl)) pgs_nil))))
      (C8.pss_cut (ps_if (pt_cmpR op_ne (pe_callB (call_reprK (K := K) rfl hg hu) (by rfl) T.mRepr boot_repr' (pa_cons (pe_tup (pa_cons (T.told.cX Gtold hr4 (pa_cons (pv 3) (pa_cons pe_str pa_nil))) (pa_cons (T.plus.cX Gplus hr5 (pa_cons (pv 3) (pa_cons (pv 4) pa_nil))) (pa_cons (T.minus.cX Gminus hr5 (pa_cons (pv 3) (pa_cons (pv 4) pa_nil))) pa_nil)))) pa_nil))
            (pe_callB (call_reprK (K := K) rfl hg hu) (by rfl) T.mRepr boot_repr' (pa_cons (pe_tup (pa_cons (pv 1) (pa_cons (T.l_plus.c0 Glplus hr3 (pa_cons (pv 1) (pa_cons (pv 2) pa_nil))) (pa_cons (T.l_minus.c0 Glminus hr3 (pa_cons (pv 1) (pa_cons (pv 2) pa_nil))) pa_nil)))) pa_nil)) (nomark _))
          (pss_one (ps_ret pe_bl)) pss_nil)
      (pss_cons (ps_if (pt_cmpR op_ne (pe_callB (call_reprK (K := K) rfl hg hu) (by rfl) T.mRepr boot_repr' (pa_cons (T.times.cX Gtimes hr5 (pa_cons (pv 3) (pa_cons (pv 4) pa_nil))) pa_nil))
            (pe_callB (call_reprK (K := K) rfl hg hu) (by rfl) T.mRepr boot_repr' (pa_cons (T.l_times.c0 Gltimes hr3 (pa_cons (pv 1) (pa_cons (pv 2) pa_nil))) pa_nil)) (nomark _))
          (pss_one (ps_ret pe_bl)) pss_nil)
      (C8.pss_cut (ps_if (PW.pt (pw_and (pt_cmpR op_ne (pe_ix ix_tup (pv 2) pe_int (fun _ _ => rfl)) pe_int (nomark _)) (pw_and1 (pt_cmpR op_ne (pe_callB (call_reprK (K := K) rfl hg hu) (by rfl) T.mRepr boot_repr' (pa_cons (T.share.cX Gshare hr5 (pa_cons (pv 3) (pa_cons (pv 4) pa_nil))) pa_nil))
            (pe_callB (call_reprK (K := K) rfl hg hu) (by rfl) T.mRepr boot_repr' (pa_cons (T.l_share.c0 Glshare hr3 (pa_cons (pv 1) (pa_cons (pv 2) pa_nil))) pa_nil)) (nomark _)))))
          (pss_one (ps_ret pe_bl)) pss_nil)
      (pss_cons (ps_set (i := 5) sc67.nd rfl (.inl rfl) (T.floor_of.cX Gfloor hr5 (pa_cons (pv 4) pa_nil)))
      (pss_cons (ps_if (PW.pt (pw_or (pt_not (pt_val (T.l_whole.c0 Gwhole hr1 (pa_cons (pv 5) pa_nil)))) (pw_or1 (pt_not (pt_chain op_le op_lt (pe_op op_mulW (pv 5) (pe_ix ix_tup (pv 2) pe_int (fun _ _ => rfl))) (pe_ix ix_tup (pv 2) pe_int (fun _ _ => rfl))
            (pe_op op_mulW (pe_op op_add (pv 5) pe_int) (pe_ix ix_tup (pv 2) pe_int (fun _ _ => rfl))))))))
          (pss_one (ps_ret pe_bl)) pss_nil)
      (C8.pss_cut (ps_if (pt_cmpR op_ne (T.ratio_text.cX Gtext hr5 (pa_cons (pv 4) pa_nil)) (pe_op op_add_str (pe_callTy call_str_int (by rfl) T.mStr boot_str (pa_cons (pe_ix ix_tup (pv 2) pe_int (fun _ _ => rfl)) pa_nil))
            (pe_ifExp (pt_cmpR op_eq (pe_ix ix_tup (pv 2) pe_int (fun _ _ => rfl)) pe_int (nomark _)) pe_str (pe_op op_add_str pe_str (pe_callTy call_str_int (by rfl) T.mStr boot_str (pa_cons (pe_ix ix_tup (pv 2) pe_int (fun _ _ => rfl)) pa_nil))))) (nomark _))
          (pss_one (ps_ret pe_bl)) pss_nil)
      (pss_cons (ps_if (PW.pt (pw_or (pt_not (pt_val (T.l_is.c0 Gis hr1 (pa_cons (T.lower.cX Glower hr5 (pa_cons (pv 3) (pa_cons (pv 4) pa_nil))) (pa_cons (T.l_less.c0 Gless hr1 (pa_cons (pv 1) (pa_cons (pv 2) pa_nil))) pa_nil)))))
            (pw_or1 (pt_not (pt_val (T.l_is.c0 Gis hr1 (pa_cons (T.is_ratio.c0 Gisr hr3 (pa_cons (pv 3) pa_nil)) (pa_cons pe_bl pa_nil))))))))
          (pss_one (ps_ret pe_bl)) pss_nil)
      (pss_cons (ps_asg (pe_tup (pa_cons (T.l_any.c0 Gany hr3 (pa_cons (pv 0) pa_nil)) (pa_cons (T.l_any.c0 Gany hr3 (pa_cons (pv 0) pa_nil)) (pa_cons (T.l_pick.c0 Gpick hr2 (pa_cons (pv 0) (pa_cons (pe_lst (pa_cons pe_int (pa_cons (pe_tup (pa_cons pe_int (pa_cons pe_int pa_nil))) (pa_cons (pe_lstN (pa_cons pe_int (pa_cons pe_int pa_nil))) pa_nil)))) pa_nil))) pa_nil))))
          (pg_tup (by rfl) (pgs_cons (pg_name (i := 6) sc67.nd rfl (.inr rfl)) (pgs_cons (pg_name (i := 7) sc67.nd rfl (.inr rfl)) (pgs_cons (pg_name (i := 8) sc67.nd rfl (.inr rfl)) pgs_nil)))))
      (pss_cons (ps_if (PW.pt (pw_or (pt_not (pt_val (T.l_is.c0 Gis hr1 (pa_cons (T.is_ratio.c0 Gisr hr3 (pa_cons (pv 6) pa_nil)) (pa_cons pe_bl pa_nil)))))
            (pw_or1 (pt_cmpR (op_neT hu) (pe_why T.toTu (k := 4) hg TB rfl T.m67 T.h67 (hr.mono (by decide)) (LamX.lamS_by (sc := defScope (top 68)) (by decide +kernel)) (fun A outer s H E f c' hr' => T.told.cS Gtold hr' (takes_of (E := E) rfl rfl rfl rfl) (pa_cons (pv 6) (pa_cons pe_str pa_nil))))
              (pe_tup (pa_cons pe_str (pa_cons pe_str (pa_cons (pe_callB (call_reprK (K := K) rfl hg hu) (by rfl) T.mRepr boot_repr' (pa_cons (pv 6) pa_nil)) pa_nil)))) (nomark _)))))
          (pss_one (ps_ret pe_bl)) pss_nil)
      (pss_cons (ps_for PassesOwn.never rfl (pi_list (pe_lst (pa_cons (pe_glob (v := V.ref T.plus.f) rfl T.plus.g rfl) (pa_cons (pe_glob (v := V.ref T.minus.f) rfl T.minus.g rfl) (pa_cons (pe_glob (v := V.ref T.times.f) rfl T.times.g rfl) (pa_cons (pe_glob (v := V.ref T.share.f) rfl T.share.g rfl)
            (pa_cons (pe_glob (v := V.ref T.lower.f) rfl T.lower.g rfl) pa_nil))))))) (pg_name (i := 9) sc67.nd rfl (.inr rfl))
          (pss_cons (ps_if (pt_cmpR (op_neT hu) (pe_why T.toTu (k := 5) hg TB rfl T.m67 T.h67 hr (LamX.lamS_by (sc := defScope (top 68)) (by decide +kernel)) (fun A outer s H E f c' hr' => pe_callVarS (S := Two K T.toTx) (k := 5) (i := 9) rfl (.inr (.inr rfl)) (fun _ _ h => h.call) hr' (takes_of (E := E) rfl rfl rfl rfl) (pa_cons (pv 6) (pa_cons (pv 7) pa_nil))))
              (pe_tup (pa_cons pe_str (pa_cons pe_str (pa_cons (pe_callB (call_reprK (K := K) rfl hg hu) (by rfl) T.mRepr boot_repr' (pa_cons (pv 6) pa_nil)) pa_nil)))) (nomark _)) (pss_one (ps_ret pe_bl)) pss_nil)
          (pss_one (ps_if (pt_cmpR (op_neT hu) (pe_why T.toTu (k := 5) hg TB rfl T.m67 T.h67 hr (LamX.lamS_by (sc := defScope (top 68)) (by decide +kernel)) (fun A outer s H E f c' hr' => pe_callVarS (S := Two K T.toTx) (k := 5) (i := 9) rfl (.inr (.inr rfl)) (fun _ _ h => h.call) hr' (takes_of (E := E) rfl rfl rfl rfl) (pa_cons (pv 3) (pa_cons (pv 7) pa_nil))))
              (pe_tup (pa_cons pe_str (pa_cons pe_str (pa_cons (pe_callB (call_reprK (K := K) rfl hg hu) (by rfl) T.mRepr boot_repr' (pa_cons (pv 7) pa_nil)) pa_nil)))) (nomark _)) (pss_one (ps_ret pe_bl)) pss_nil))))
      (pss_cons (ps_for PassesOwn.never rfl (pi_list (pe_lst (pa_cons (pe_glob (v := V.ref T.floor_of.f) rfl T.floor_of.g rfl) (pa_cons (pe_glob (v := V.ref T.ratio_text.f) rfl T.ratio_text.g rfl) pa_nil)))) (pg_name (i := 9) sc67.nd rfl (.inr rfl))
          (pss_one (ps_if (pt_cmpR (op_neT hu) (pe_why T.toTu (k := 5) hg TB rfl T.m67 T.h67 hr (LamX.lamS_by (sc := defScope (top 68)) (by decide +kernel)) (fun A outer s H E f c' hr' => pe_callVarS (S := One K T.toTx) (k := 5) (i := 9) rfl (.inr (.inr rfl)) (fun _ _ h => h.call) hr' (takes_of (E := E) rfl rfl rfl rfl) (pa_cons (pv 6) pa_nil)))
              (pe_tup (pa_cons pe_str (pa_cons pe_str (pa_cons (pe_callB (call_reprK (K := K) rfl hg hu) (by rfl) T.mRepr boot_repr' (pa_cons (pv 6) pa_nil)) pa_nil)))) (nomark _)) (pss_one (ps_ret pe_bl)) pss_nil)))
      (pss_cons (ps_if (pt_cmpR (op_neT hu) (pe_why T.toTu (k := 5) hg TB rfl T.m67 T.h67 hr (LamX.lamS_by (sc := defScope (top 68)) (by decide +kernel)) (fun A outer s H E f c' hr' => T.share.cS Gshare hr' (takes_of (E := E) rfl rfl rfl rfl) (pa_cons (pv 6) (pa_cons (pv 8) pa_nil))))
              (pe_tup (pa_cons pe_str (pa_cons pe_str (pa_cons (pe_callB (call_reprK (K := K) rfl hg hu) (by rfl) T.mRepr boot_repr' (pa_cons (pv 6) pa_nil)) pa_nil)))) (nomark _)) (pss_one (ps_ret pe_bl)) pss_nil)
      (pss_one (ps_ret (pe_cmpR (op_eqT hu) (pe_why T.toTu (k := 5) hg TB rfl T.m67 T.h67 hr (LamX.lamS_by (sc := defScope (top 68)) (by decide +kernel)) (fun A outer s H E f c' hr' => T.share.cS Gshare hr' (takes_of (E := E) rfl rfl rfl rfl) (pa_cons (pv 3) (pa_cons (pv 8) pa_nil)))) (pe_tup (pa_cons pe_str (pa_cons pe_str (pa_cons (pe_callB (call_reprK (K := K) rfl hg hu) (by rfl) T.mRepr boot_repr' (pa_cons (pv 8) pa_nil)) pa_nil)))) (nomark _)))))))))))))))))), ?_⟩
    have e60 : (10 : Int) ^ 18 = 1000000000000000000 := by decide
    have pen0 := pen
    have f60 : (2 : Nat) ^ 60 = 1152921504606846976 := by decide
    refine ⟨_, rfl, p, c, n, rfl, pen, by omega, fun v1 H1 q1 pen1 but1 rv1 z1 => ?_⟩
    refine ⟨_, rfl, _, rfl, p, c, n + 40, rfl, pen1, by omega, fun v2 H2 q2 pen2 but2 rv2 z2 => ?_⟩
    refine ⟨_, rfl, p, c, n + 40 + 40, rfl, pen2, by omega, fun y H3 y0 y1 pen3 but3 => ?_⟩
    refine ⟨_, _, rfl, by decide, up_lt (a := 60) (by decide) (by decide), fun v3 H4 s4 rv3 => ?_⟩
    have z3 : Sz 60 60 (Rat.divInt y 2) := sz_divInt (by decide) (by omega) (by decide)
    refine ⟨(by show 2 ≤ sizeLine; decide), fun l nl => ?_⟩
    have s5 := Same.new (o := .lst [v2, v3]) nl
    have pen5 := (pen3.same s4).same s5
    refine ⟨p, c, l, n + 40 + 40 + 20, _, rfl, pen5, by omega, upd_same, (by show 0 < 2; decide), (by show 2 < 1000000; decide), fun j u H6 hj pen6 but6 => ?_⟩
    have rv1' : RV K H6 v1 q1 := pen5.rv but6 ((pen2.rv but3 (pen1.rv but2 rv1)).same (s4.trans s5))
    obtain ⟨q4, rv4, z4⟩ : ∃ q4, RV K H6 u q4 ∧ Sz 60 60 q4 := by
      have mem := mem_of_at hj
      simp only [List.mem_cons, List.not_mem_nil, or_false] at mem
      rcases mem with rfl | rfl
      · exact ⟨q2, pen5.rv but6 ((pen2.rv but3 rv2).same (s4.trans s5)), z2⟩
      · exact ⟨_, pen5.rv but6 (rv3.same s5), z3⟩
    have but06 : But p H H6 := (((but1.trans but2).trans but3).trans (.ofSame (s4.trans s5))).trans but6
    clear rv2 rv3 z2 z3 hj
    have pen6 : Pen H6 p c (n + 150) := pen6.more (by omega)
    -- the second one
    obtain ⟨t1, rfl, ht1⟩ := id rv1'
    refine ⟨_, _, rfl, ?_⟩
    refine ⟨_, rfl, _, rfl, _, rfl, _, rfl, _, rfl, _, _, _, _, rfl, rfl, ht1, rfl, _, rfl, _, rfl, _, _, _, _, rfl, rfl, ht1, rfl, (by show 2 ≤ sizeLine; decide), fun tq nt => ?_⟩
    have s7 := Same.new (o := .tup [.int (-q1.num), .int (q1.den : Int)]) nt
    have e7 : SqT K (upd H6 tq (.tup [.int (-q1.num), .int (q1.den : Int)])) tq [.int (-q1.num), .int (q1.den : Int)] := SqT.of upd_same
    have rvn : RV K (upd H6 tq (.tup [.int (-q1.num), .int (q1.den : Int)])) (.ref tq) (-q1) := RV.neg e7
    refine ⟨(by show 4 ≤ sizeLine; decide), fun l2 nl2 => ?_⟩
    have s8 := s7.trans (Same.new (o := .lst [u, u, .ref t1, .ref tq]) nl2)
    have pen8 := pen6.same s8
    refine ⟨p, c, l2, n + 150, _, rfl, pen8, by omega, upd_same, (by show 0 < 4; decide), (by show 4 < 1000000; decide), fun j2 v2 H9 hj2 pen9 but9 => ?_⟩
    have rv1 : RV K H9 (.ref t1) q1 := pen8.rv but9 (rv1'.same s8)
    obtain ⟨q2, rv2, z2⟩ : ∃ q2, RV K H9 v2 q2 ∧ Sz 60 60 q2 := by
      have mem := mem_of_at hj2
      simp only [List.mem_cons, List.not_mem_nil, or_false] at mem
      rcases mem with rfl | rfl | rfl | rfl
      · exact ⟨q4, pen8.rv but9 (rv4.same s8), z4⟩
      · exact ⟨q4, pen8.rv but9 (rv4.same s8), z4⟩
      · exact ⟨q1, rv1, z1⟩
      · exact ⟨-q1, pen8.rv but9 (rvn.same (Same.new nl2)), sz_neg z1⟩
    have but09 := (but06.trans (.ofSame s8)).trans but9
    have pen9 : Pen H9 p c (n + 160) := pen9.more (by omega)
    -- passed
    refine ⟨_, rfl, _, rfl, p, c, n + 160, _, q1, 60, 60, rfl, pen9, by omega, rv1, z1, by decide, by decide, by decide, by decide, fun ua Ha pena buta aqa gda _ => ?_⟩
    refine ⟨_, rfl, _, rfl, p, c, _, _, q2, 60, 60, rfl, pena, by omega, pen9.rv buta rv2, z2, by decide, by decide, by decide, by decide, fun ub Hb penb butb aqb gdb _ => ?_⟩
    refine ⟨(by show 2 ≤ sizeLine; decide), fun tt ntt => ?_⟩
    have st := Same.new (o := .tup [ua, ub]) ntt
    have ett : SqT K (upd Hb tt (.tup [ua, ub])) tt [ua, ub] := SqT.of upd_same
    have rv1 := (pena.rv butb (pen9.rv buta rv1)).same st
    have rv2 := (pena.rv butb (pen9.rv buta rv2)).same st
    have aqa := (pena.argQ butb aqa).same st
    have aqb := aqb.same st
    have pen := (penb.same st).more (show _ ≤ n + 200 by omega)
    have but0 := ((but09.trans buta).trans butb).trans (.ofSame st)
    refine ⟨tt, _, rfl, ett, rfl, _, _, rfl, _, _, rfl, rfl, ?_⟩
    generalize upd Hb tt (.tup [ua, ub]) = G at rv1 rv2 aqa aqb pen but0
    clear gda gdb ett st penb butb pena buta rv4 z4 rv1' ht1 rvn e7 s7 s8 pen8 but9 hj2 pen9 but09 nl2 nt pen6 but06 but6 pen5 s5 nl s4 but3 pen3 but2 pen2 pen1 but1
    -- sums and differences
    have zs : ∀ q ∈ [q1, q1 + q2, q1 - q2], Sz 300 300 q := by
      have a1 : Sz 300 300 (q1 + q2) := (add_sz z1 z2).up (by decide) (by decide)
      have a2 : Sz 300 300 (q1 - q2) := by
        rw [Rat.sub_eq_add_neg]
        exact (add_sz z1 (sz_neg z2)).up (by decide) (by decide)
      intro q hq
      simp only [List.mem_cons, List.not_mem_nil, or_false] at hq
      rcases hq with rfl | rfl | rfl
      · exact z1.up (by decide) (by decide)
      · exact a1
      · exact a2
    have sh3 : Shows (.tuple [pdQ q1, pdQ (q1 + q2), pdQ (q1 - q2)]) := rows_shows zs (by decide) (by decide) (by show 3 ≤ 1000; decide)
    refine ⟨fun ρ G' => Same G G' ∧ ρ = [some (.ref p), some (.ref t1), some v2, some ua, some ub, none, none, none, none, none], ?_, ?_⟩
    · refine ⟨_, rfl, _, _, rfl, .inl ⟨q1, 62, 62, aqa, by decide, fun w1 G1 g1 r1 => ?_⟩⟩
      refine ⟨_, rfl, _, rfl, _, _, rfl, .inl ⟨q1, q2, 62, 62, 62, 62, aqa.same g1, aqb.same g1, by decide, by decide, ⟨by decide, by decide⟩, fun w2 G2 g2 r2 => ?_⟩⟩
      refine ⟨_, rfl, _, rfl, _, _, rfl, .inl ⟨q1, q2, 62, 62, 62, 62, aqa.same (g1.trans g2), aqb.same (g1.trans g2), by decide, by decide, ⟨by decide, by decide⟩, fun w3 G3 g3 r3 => ?_⟩⟩
      refine ⟨(by show 3 ≤ sizeLine; decide), fun t4 nt4 => ?_⟩
      have g4 := Same.new (o := .tup [w1, w2, w3]) nt4
      have h4 : Dq K (upd G3 t4 (.tup [w1, w2, w3])) (.ref t4) (.tuple [pdQ q1, pdQ (q1 + q2), pdQ (q1 - q2)]) := .tup (SqT.of upd_same) (.cons (r1.same ((g2.trans g3).trans g4)).dq (.cons (r2.same (g3.trans g4)).dq (.cons (r3.same g4).dq .nil)))
      refine ⟨_, _, rfl, h4, sh3.sh, sh3.dp, sh3.ln, ?_⟩
      have g04 := ((g1.trans g2).trans g3).trans g4
      generalize upd G3 t4 (.tup [w1, w2, w3]) = G4 at g04
      refine ⟨_, rfl, _, rfl, _, rfl, _, _, q1, q2, 60, 60, 60, 60, rfl, (rv1.same g04).pq z1, (rv2.same g04).pq z2, ⟨by decide, by decide⟩, fun w5 G5 g5 r5 => ?_⟩
      refine ⟨_, rfl, _, rfl, _, _, q1, q2, 60, 60, 60, 60, rfl, (rv1.same (g04.trans g5)).pq z1, (rv2.same (g04.trans g5)).pq z2, ⟨by decide, by decide⟩, fun w6 G6 g6 r6 => ?_⟩
      refine ⟨(by show 3 ≤ sizeLine; decide), fun t7 nt7 => ?_⟩
      have g7 := Same.new (o := .tup [.ref t1, w5, w6]) nt7
      have g07 := ((g04.trans g5).trans g6).trans g7
      have h7 : Dq K (upd G6 t7 (.tup [.ref t1, w5, w6])) (.ref t7) (.tuple [pdQ q1, pdQ (q1 + q2), pdQ (q1 - q2)]) := .tup (SqT.of upd_same) (.cons (rv1.same g07).dq (.cons (r5.same (g6.trans g7)).dq (.cons (r6.same g7).dq .nil)))
      refine ⟨_, _, rfl, h7, sh3.sh, sh3.dp, sh3.ln, rfl, _, rfl, ?_⟩
      rw [ne_same]
      exact iteF ⟨g07, rfl⟩
    · rintro ρ G' ⟨gG, rfl⟩
      have rv1 := rv1.same gG
      have rv2 := rv2.same gG
      have aqa := aqa.same gG
      have aqb := aqb.same gG
      have pen := pen.same gG
      have but0 := but0.trans (.ofSame gG)
      have sht : Shows (pdQ (q1 * q2)) := one_shows (mul_sz z1 z2) (by decide) (by decide)
      -- products
      refine ⟨_, rfl, _, rfl, _, _, rfl, .inl ⟨q1, q2, 62, 62, 62, 62, aqa, aqb, by decide, by decide, ⟨by decide, by decide⟩, fun w1 G1 g1 r1 => ?_⟩⟩
      refine ⟨_, _, rfl, r1.dq, sht.sh, sht.dp, sht.ln, ?_⟩
      refine ⟨_, rfl, _, rfl, _, _, q1, q2, 60, 60, 60, 60, rfl, (rv1.same g1).pq z1, (rv2.same g1).pq z2, ⟨by decide, by decide⟩, fun w2 G2 g2 r2 => ?_⟩
      refine ⟨_, _, rfl, r2.dq, sht.sh, sht.dp, sht.ln, rfl, _, rfl, ?_⟩
      rw [ne_same]
      refine iteF ?_
      have g02 := g1.trans g2
      have rv1 := rv1.same g02
      have rv2 := rv2.same g02
      have aqa := aqa.same g02
      have aqb := aqb.same g02
      have pen := pen.same g02
      have but0 := but0.trans (.ofSame g02)
      -- quotients
      refine ⟨fun ρ G' => Same G2 G' ∧ ρ = [some (.ref p), some (.ref t1), some v2, some ua, some ub, none, none, none, none, none], ?_, ?_⟩
      · obtain ⟨t2, rfl, ht2⟩ := id rv2
        refine ⟨_, rfl, _, _, _, _, rfl, rfl, ht2, rfl, rfl, _, rfl, ?_⟩
        by_cases d0 : q2 = 0
        · rw [show decide (V.int q2.num = V.int 0) = true from decide_eq_true (by rw [d0]; rfl)]
          exact iteF (iteF ⟨Same.refl _, rfl⟩)
        · have n0 : q2.num ≠ 0 := num_ne d0
          rw [show decide (V.int q2.num = V.int 0) = false from decide_eq_false (fun z => n0 (V.int.inj z))]
          have zd := div_sz z1 z2 d0
          have shd : Shows (pdQ (q1 / q2)) := one_shows zd (by decide) (by decide)
          refine iteT ⟨_, rfl, _, rfl, _, _, rfl, .inl ⟨q1, q2, 62, 62, 62, 62, aqa, aqb, by decide, by decide, by decide, by decide, d0, fun w3 G3 g3 r3 => ?_⟩⟩
          refine ⟨_, _, rfl, r3.dq, shd.sh, shd.dp, shd.ln, ?_⟩
          refine ⟨_, rfl, _, rfl, _, _, q1, q2, 60, 60, 60, 60, rfl, (rv1.same g3).pq z1, (rv2.same g3).pq z2, ⟨by decide, by decide, d0⟩, fun w4 G4 g4 r4 => ?_⟩
          refine ⟨_, _, rfl, r4.dq, shd.sh, shd.dp, shd.ln, rfl, _, rfl, ?_⟩
          rw [ne_same]
          exact iteF ⟨g3.trans g4, rfl⟩
      · rintro ρ G3 ⟨gG, rfl⟩
        have rv1 := rv1.same gG
        have rv2 := rv2.same gG
        have aqa := aqa.same gG
        have aqb := aqb.same gG
        have pen := pen.same gG
        have but0 := but0.trans (.ofSame gG)
        obtain ⟨t2, rfl, ht2⟩ := id rv2
        -- floor
        refine ⟨_, rfl, _, rfl, .inl ⟨q2, 62, 62, aqb, by decide, fun v5 G5 g5 e5 => ?_⟩⟩
        subst e5
        have rv1 := rv1.same g5
        have rv2 := rv2.same g5
        have ht2 := Kz.Same.seqT g5 ht2
        have aqa := aqa.same g5
        have aqb := aqb.same g5
        have pen := pen.same g5
        have but0 := but0.trans (.ofSame g5)
        have fl : q2.floor = q2.num / (q2.den : Int) := Rat.floor_def q2
        have d2 := den_pos' q2
        have f1 : q2.floor * (q2.den : Int) ≤ q2.num := by rw [fl]; exact Int.ediv_mul_le _ (by omega)
        have f2 : q2.num < (q2.floor + 1) * (q2.den : Int) := by rw [fl]; exact Int.lt_ediv_add_one_mul_self _ d2
        have w1 : q2.floor.natAbs < 2 ^ 60 := by
          rw [fl]
          exact Nat.lt_of_le_of_lt (Int.natAbs_ediv_le_natAbs _ _) z2.1
        have w2 : (q2.floor + 1).natAbs < 2 ^ 61 := by
          have : (2 : Nat) ^ 61 = 2 * 2 ^ 60 := by decide
          omega
        have w3 := den_abs z2
        refine ⟨_, rfl, _, "int", rfl, ty_int, _, rfl, iteF ?_⟩
        refine ⟨_, rfl, _, rfl, _, _, _, _, rfl, rfl, ht2, rfl, _, _, rfl, rfl, cmulW w1 w3 (by decide), _, rfl, _, _, _, _, rfl, rfl, ht2, rfl, _, _, rfl, rfl, _, rfl, ?_⟩
        rw [decide_eq_true f1]
        refine iteT ⟨_, rfl, _, _, rfl, rfl, _, rfl, _, _, _, _, rfl, rfl, ht2, rfl, _, _, rfl, rfl, cmulW w2 w3 (by decide), _, _, rfl, rfl, _, rfl, ?_⟩
        rw [decide_eq_true f2]
        refine iteF ?_
        -- the text
        refine ⟨fun ρ G' => Same G5 G' ∧ ρ = [some (.ref p), some (.ref t1), some (.ref t2), some ua, some ub, some (.int q2.floor), none, none, none, none], ?_, ?_⟩
        · refine ⟨_, rfl, _, rfl, .inl ⟨q2, 62, 62, aqb, by decide, by decide, fun G6 g6 => ?_⟩⟩
          have rv1 := rv1.same g6
          have rv2 := rv2.same g6
          have ht2 := Kz.Same.seqT g6 ht2
          have aqa := aqa.same g6
          have aqb := aqb.same g6
          have pen := pen.same g6
          have but0 := but0.trans (.ofSame g6)
          have lg1 : q2.num.natAbs.log2 < 1920 := log_lt z2.1 (by decide)
          have lg2 : ((q2.den : Int)).natAbs.log2 < 1920 := log_lt w3 (by decide)
          have l1 := int_text_len_1921 lg1
          have l2 := int_text_len_1921 lg2
          refine ⟨_, rfl, _, _, _, _, rfl, rfl, ht2, rfl, _, rfl, lg1, ?_⟩
          refine ⟨_, rfl, _, _, _, _, rfl, rfl, ht2, rfl, rfl, _, rfl, ?_⟩
          by_cases d1 : q2.den = 1
          · have e : rtext q2 = txt q2.num ++ Str.ofString "" := (if_pos d1).trans (txt_nil _).symm
            rw [show decide (V.int (q2.den : Int) = V.int 1) = true from decide_eq_true (by rw [d1]; rfl), e]
            refine iteT ⟨_, _, rfl, rfl, ?_, rfl, _, rfl, ?_⟩
            · rw [sizeLine_eq]
              exact Nat.le_trans (Nat.add_le_add_right l1 0) (by decide)
            · rw [ne_same]
              exact iteF ⟨g6, rfl⟩
          · have e : rtext q2 = txt q2.num ++ (Str.ofString "/" ++ txt (q2.den : Int)) := (if_neg d1).trans (txt_assoc _ _ _).symm
            rw [show decide (V.int (q2.den : Int) = V.int 1) = false from decide_eq_false (fun z => d1 (by have := V.int.inj z; omega)), e]
            have ln : (Str.ofString "/" ++ txt (q2.den : Int)).length = 1 + (txt (q2.den : Int)).length := Array.size_append ..
            refine iteF ⟨_, rfl, _, _, _, _, rfl, rfl, ht2, rfl, _, rfl, lg2, _, _, rfl, rfl, ?_, _, _, rfl, rfl, ?_, rfl, _, rfl, ?_⟩
            · rw [sizeLine_eq]
              exact Nat.le_trans (Nat.add_le_add_left l2 1) (by decide)
            · rw [ln, sizeLine_eq]
              exact Nat.le_trans (Nat.add_le_add l1 (Nat.add_le_add_left l2 1)) (by decide)
            · rw [ne_same]
              exact iteF ⟨g6, rfl⟩
        · rintro ρ G6 ⟨gG, rfl⟩
          have rv1 := rv1.same gG
          have rv2 := rv2.same gG
          have aqa := aqa.same gG
          have aqb := aqb.same gG
          have pen := pen.same gG
          have but0 := but0.trans (.ofSame gG)
          -- comparisons
          refine ⟨_, rfl, _, rfl, _, _, rfl, .inl ⟨q1, q2, 62, 62, 62, 62, aqa, aqb, by decide, by decide, ⟨by decide, by decide⟩, fun v7 G7 g7 e7 => ?_⟩⟩
          subst e7
          refine ⟨_, rfl, _, rfl, _, _, q1, q2, 60, 60, 60, 60, rfl, rv1.same g7, rv2.same g7, z1, z2, by decide, by decide, ?_⟩
          refine ⟨_, _, rfl, _, rfl, ?_⟩
          rw [eq_same]
          have aqa := aqa.same g7
          obtain ⟨ta, ba, tya, pra, ea⟩ := aqa.rb
          refine iteF ⟨_, rfl, _, ta, ba, rfl, tya, pra, fun G8 g8 => ?_⟩
          rw [← ea]
          refine ⟨_, _, rfl, _, rfl, ?_⟩
          rw [eq_same]
          refine iteF ?_
          have aqa := aqa.same g8
          have aqb := aqb.same (g7.trans g8)
          have pen := pen.same (g7.trans g8)
          have but0 := but0.trans (.ofSame (g7.trans g8))
          -- odd values
          refine ⟨_, rfl, p, c, n + 200, rfl, pen, by omega, fun o1 K1 kp1 kb1 ko1 => ?_⟩
          refine ⟨_, rfl, p, c, _, rfl, kp1, by omega, fun o2 K2 kp2 kb2 ko2 => ?_⟩
          refine ⟨_, rfl, (by show 2 ≤ sizeLine; decide), fun a1 na1 => ?_⟩
          have k1 := Same.new (o := .tup [.int 0, .int 1]) na1
          have x1 : upd K2 a1 (.tup [.int 0, .int 1]) a1 = some (.tup [.int 0, .int 1]) := upd_same
          have kp3 := kp2.same k1
          have y1 := kp2.newP na1
          refine ⟨(by show 2 ≤ sizeLine; decide), fun a2 na2 nm2 => ?_⟩
          have k2 := Same.new (o := .lst [.int 0, .int 5]) na2
          have x2 : upd (upd K2 a1 (.tup [.int 0, .int 1])) a2 (.lst [.int 0, .int 5]) a2 = some (.lst [.int 0, .int 5]) := upd_same
          have y2 := kp3.newP na2
          have kp4 := kp3.same k2
          have x1 := k2 _ _ x1
          have k12 := k1.trans k2
          generalize upd (upd K2 a1 (.tup [.int 0, .int 1])) a2 (.lst [.int 0, .int 5]) = K4 at k2 k12 x1 x2 kp4
          refine ⟨(by show 3 ≤ sizeLine; decide), fun l5 nl5 => ?_⟩
          have k5 := Same.new (o := .lst [.int 0, .ref a1, .ref a2]) nl5
          have kp5 := kp4.same k5
          refine ⟨p, c, l5, _, _, rfl, kp5, by omega, upd_same, (by show 0 < 3; decide), (by show 3 < 1000000; decide), fun j5 z K6 hj5 kp6 kb6 => ?_⟩
          have bz : But p K4 K6 := (But.ofSame k5).trans kb6
          have x1' : cl p K6 a1 = some (.tup [.int 0, .int 1]) := cl_at y1 (bz _ _ x1 y1) fun _ z => nomatch z
          have x2' : cl p K6 a2 = some (.lst [.int 0, .int 5]) := cl_at y2 (bz _ _ x2 y2) fun _ z => nomatch z
          obtain ⟨za, zg⟩ : (∃ n m, ArgQ K (cl p K6) z n m 0 ∧ m ≤ 9000) ∧ Good K (cl p K6) z := by
            have mem := mem_of_at hj5
            simp only [List.mem_cons, List.not_mem_nil, or_false] at mem
            rcases mem with rfl | rfl | rfl
            · exact ⟨⟨1, 1, ⟨0, 1, .int, by decide +kernel, by decide, by decide⟩, by decide⟩, ⟨_, .int 0, small_int (by decide)⟩⟩
            · exact ⟨⟨1, 1, ⟨0, 1, .two (.inr (SqT.of x1')) (by decide), by decide +kernel, by decide, by decide⟩, by decide⟩, ⟨ti 0 1, .tup (SqT.of x1') (.cons (.int _) (.cons (.int _) .nil)), small_two (.inr rfl) (by decide) (by decide)⟩⟩
            · exact ⟨⟨1, 3, ⟨0, 5, .two (.inl (SqL.of x2')) (by decide), by decide +kernel, by decide, by decide⟩, by decide⟩, ⟨.list [.int 0, .int 5], .lst x2' nm2 (.cons (.int _) (.cons (.int _) .nil)), small_two (.inl rfl) (by decide) (by decide)⟩⟩
          have bb : But p G8 K6 := ((kb1.trans kb2).trans (.ofSame k12)).trans bz
          refine ⟨(by show 3 ≤ sizeLine; decide), fun t6 nt6 => ?_⟩
          have st6 := Same.new (o := .tup [o1, o2, z]) nt6
          have e6 : SqT K (upd K6 t6 (.tup [o1, o2, z])) t6 [o1, o2, z] := SqT.of upd_same
          have rs : RS K T.Tl p c (n + 300) H o1 o2 ua z q1 K6 := ⟨kp6.more (by omega), (but0.trans bb).toN, pen0.tabs (but0.trans bb) tabs, ((ko1.but kb2).but (.ofSame k12)).but bz, (ko2.but (.ofSame k12)).but bz, (pen.cArg aqa).same bb.cl, za, zg⟩
          have rs := rs.same st6
          refine ⟨t6, _, rfl, e6, rfl, _, _, rfl, _, _, rfl, _, _, rfl, rfl, ?_⟩
          generalize upd K6 t6 (.tup [o1, o2, z]) = G at rs
          -- is_ratio, told
          obtain ⟨ty1, tyo, nto, pro⟩ := rs.g1.o.same cl_sub
          refine ⟨_, rfl, _, ty1, false, rfl, tyo, (fun _ => pro), fun G1 s1 => ?_⟩
          rw [nto]
          refine ⟨_, _, rfl, _, rfl, ?_⟩
          rw [if_neg Bool.false_ne_true, eq_same]
          have rs := rs.same s1
          refine iteF ⟨rs.tabs, fun G2 x2 tb2 => ?_⟩
          have rs := rs.ext x2 tb2
          obtain ⟨d1, hd1, sm1⟩ := (rs.g1.g).ex
          refine ⟨_, rfl, _, _, rfl, .inr ⟨rs.g1.o.same cl_sub, num_cmp rfl (hd1.same cl_sub) sm1.shows fun G3 s3 => ?_⟩⟩
          have rs := rs.same s3
          refine ⟨_, rfl, iteF ?_⟩
          -- the loop over plus, ..
          refine ⟨(by show 5 ≤ sizeLine; decide), fun l7 nl7 => ?_⟩
          have s7 := Same.new (o := .lst [.ref T.plus.f, .ref T.minus.f, .ref T.times.f, .ref T.share.f, .ref T.lower.f]) nl7
          have e7 : upd G3 l7 (.lst [.ref T.plus.f, .ref T.minus.f, .ref T.times.f, .ref T.share.f, .ref T.lower.f]) l7 = some (.lst [.ref T.plus.f, .ref T.minus.f, .ref T.times.f, .ref T.share.f, .ref T.lower.f]) := upd_same
          have rs := rs.same s7
          generalize upd G3 l7 (.lst [.ref T.plus.f, .ref T.minus.f, .ref T.times.f, .ref T.share.f, .ref T.lower.f]) = G7 at rs e7
          refine ⟨l7, rfl, ⟨_, SqL.of e7⟩, for_list (K := K) (a := l7) (xs := [.ref T.plus.f, .ref T.minus.f, .ref T.times.f, .ref T.share.f, .ref T.lower.f])
            (fun i ρ G => ∃ v, ρ = [some (.ref p), some (.ref t1), some (.ref t2), some ua, some ub, some (.int q2.floor), some o1, some o2, some z, v] ∧ G l7 = some (.lst [.ref T.plus.f, .ref T.minus.f, .ref T.times.f, .ref T.share.f, .ref T.lower.f]) ∧ RS K T.Tl p c (n + 300) H o1 o2 ua z q1 G)
            ⟨none, rfl, e7, rs⟩ (fun i ρ G _ ⟨v, _, e, _⟩ => SqL.of e) ?_ ?_⟩
          · rintro i y ρ G8 hi ⟨v, rfl, e8, rs⟩
            have two : ∃ f sp, y = .ref f ∧ Two K T.toTx f sp := by
              have mem := mem_of_at hi
              simp only [List.mem_cons, List.not_mem_nil, or_false] at mem
              rcases mem with rfl | rfl | rfl | rfl | rfl
              · exact ⟨_, _, rfl, .plus⟩
              · exact ⟨_, _, rfl, .minus⟩
              · exact ⟨_, _, rfl, .times⟩
              · exact ⟨_, _, rfl, .share⟩
              · exact ⟨_, _, rfl, .lower⟩
            obtain ⟨f, sp, rfl, two⟩ := two
            refine ⟨rs.tabs, fun G9 x9 tb9 => ?_⟩
            have rs := rs.ext x9 tb9
            have e9 := x9 _ _ e8 fun _ z => nomatch z
            obtain ⟨d2, hd2, sm2⟩ := (rs.g1.g).ex
            refine ⟨f, sp, two, rfl, _, rfl, _, rfl, two.first (rs.g1.o.same cl_sub) (num_cmp rfl (hd2.same cl_sub) sm2.shows fun Ga sa => ?_)⟩
            have rs := rs.same sa
            have ea := sa _ _ e9
            refine ⟨_, rfl, iteF ⟨rs.tabs, fun Gb xb tbb => ?_⟩⟩
            have rs := rs.ext xb tbb
            have eb := xb _ _ ea fun _ z => nomatch z
            obtain ⟨d3, hd3, sm3⟩ := (rs.g2.g).ex
            refine ⟨f, sp, two, rfl, _, rfl, _, rfl, two.second (rs.a.same cl_sub) (by decide) (rs.g2.o.same cl_sub) (num_cmp rfl (hd3.same cl_sub) sm3.shows fun Gc sc => ?_)⟩
            exact ⟨_, rfl, iteF ⟨_, rfl, sc _ _ eb, rs.same sc⟩⟩
          · rintro ρ G8 ⟨v, rfl, _, rs⟩
            -- the loop over floor_of, ratio_text
            refine ⟨(by show 2 ≤ sizeLine; decide), fun l8 nl8 => ?_⟩
            have s8 := Same.new (o := .lst [.ref T.floor_of.f, .ref T.ratio_text.f]) nl8
            have e8 : upd G8 l8 (.lst [.ref T.floor_of.f, .ref T.ratio_text.f]) l8 = some (.lst [.ref T.floor_of.f, .ref T.ratio_text.f]) := upd_same
            have rs := rs.same s8
            generalize upd G8 l8 (.lst [.ref T.floor_of.f, .ref T.ratio_text.f]) = G9 at rs e8
            refine ⟨l8, rfl, ⟨_, SqL.of e8⟩, for_list (K := K) (a := l8) (xs := [.ref T.floor_of.f, .ref T.ratio_text.f])
              (fun i ρ G => ∃ v, ρ = [some (.ref p), some (.ref t1), some (.ref t2), some ua, some ub, some (.int q2.floor), some o1, some o2, some z, v] ∧ G l8 = some (.lst [.ref T.floor_of.f, .ref T.ratio_text.f]) ∧ RS K T.Tl p c (n + 300) H o1 o2 ua z q1 G)
              ⟨v, rfl, e8, rs⟩ (fun i ρ G _ ⟨v, _, e, _⟩ => SqL.of e) ?_ ?_⟩
            · rintro i y ρ Ga hi ⟨v, rfl, ea, rs⟩
              have one : ∃ f sp, y = .ref f ∧ One K T.toTx f sp := by
                have mem := mem_of_at hi
                simp only [List.mem_cons, List.not_mem_nil, or_false] at mem
                rcases mem with rfl | rfl
                · exact ⟨_, _, rfl, .floor⟩
                · exact ⟨_, _, rfl, .text⟩
              obtain ⟨f, sp, rfl, one⟩ := one
              refine ⟨rs.tabs, fun Gb xb tbb => ?_⟩
              have rs := rs.ext xb tbb
              have eb := xb _ _ ea fun _ z => nomatch z
              obtain ⟨d2, hd2, sm2⟩ := (rs.g1.g).ex
              refine ⟨f, sp, one, rfl, _, rfl, one.odd (rs.g1.o.same cl_sub) (num_cmp rfl (hd2.same cl_sub) sm2.shows fun Gc sc => ?_)⟩
              exact ⟨_, rfl, iteF ⟨_, rfl, sc _ _ eb, rs.same sc⟩⟩
            · rintro ρ Ga ⟨v, rfl, _, rs⟩
              -- share
              refine ⟨rs.tabs, fun Gb xb tbb => ?_⟩
              have rs := rs.ext xb tbb
              obtain ⟨d2, hd2, sm2⟩ := (rs.g1.g).ex
              refine ⟨_, rfl, _, rfl, _, _, rfl, .inr (.inl ⟨rs.g1.o.same cl_sub, num_cmp rfl (hd2.same cl_sub) sm2.shows fun Gc sc => ?_⟩)⟩
              have rs := rs.same sc
              refine ⟨_, rfl, iteF ⟨rs.tabs, fun Gd xd tbd => ?_⟩⟩
              have rs := rs.ext xd tbd
              obtain ⟨d3, hd3, sm3⟩ := (rs.zg).ex
              obtain ⟨nz, mz, zarg, hmz⟩ := rs.za
              refine ⟨_, rfl, _, rfl, _, _, rfl, .inr (.inr (.inr ⟨⟨q1, 62, 62, rs.a.same cl_sub, by decide⟩, ⟨nz, mz, zarg.same cl_sub, hmz⟩, num_cmp rfl (hd3.same cl_sub) sm3.shows fun Ge se => ?_⟩))⟩
              have rs := rs.same se
              exact k Ge (rs.pen.more (by omega)) rs.but rs.tabs
end
end Kz
set_option linter.all false
set_option maxRecDepth 100000
set_option maxHeartbeats 4000000
namespace Kz
open PySem PySem.Spec PyProof.Rows L2
/-! ### sizes, told exactly -/
def CDn (A B : Nat) (R : List Rat) : Prop := ∃ M : Nat, 0 < M ∧ M ≤ B ∧ ∀ i, ∃ z : Int, z.natAbs ≤ A ∧ cf R i = Rat.divInt z (M : Int)
theorem lcs_le {m : Nat} (m0 : 0 < m) : ∀ qs : List Rat, (∀ q ∈ qs, q.den ≤ m) → lcs qs ≤ m ^ qs.length := by
  refine rev_ind (fun _ => by show 1 ≤ m ^ 0; rw [Nat.pow_zero]; exact Nat.le_refl _) fun l x h hd => ?_
  have h1 := h fun q mm => hd q (List.mem_append_left _ mm)
  have h2 := hd x (by simp)
  have l1 : Nat.lcm (lcs l) x.den ≤ lcs l * x.den := by
    unfold Nat.lcm
    exact Nat.div_le_self _ _
  rw [lcs_snoc, List.length_append]
  show _ ≤ m ^ (l.length + 1)
  rw [Nat.pow_succ]
  exact Nat.le_trans l1 (Nat.mul_le_mul h1 h2)
theorem rsm_cdn {k n : Nat} {qs : List Rat} (h : ∀ i, Rsm k (cf qs i)) (l : qs.length ≤ n) : CDn (k * 99 ^ n) (99 ^ n) qs := by
  have hd : ∀ q ∈ qs, q.den ≤ 99 := fun q hq => by
    obtain ⟨i, e⟩ := List.getElem?_of_mem hq
    have := (h i).1
    rwa [cf_at e] at this
  have le : lcs qs ≤ 99 ^ n := Nat.le_trans (lcs_le (by decide) qs hd) (Nat.pow_le_pow_right (by decide) l)
  refine ⟨lcs qs, lcs_pos qs, le, fun i => ?_⟩
  rcases Nat.lt_or_ge i qs.length with lt | ge
  · have dv := lcs_dvd qs _ (mem_cf lt)
    refine ⟨topOf (lcs qs) (cf qs i), ?_, ?_⟩
    · unfold topOf
      rw [Int.natAbs_mul]
      show (cf qs i).num.natAbs * (lcs qs / (cf qs i).den) ≤ _
      have h1 := (h i).2
      have h2 : (cf qs i).num.natAbs * (lcs qs / (cf qs i).den) ≤ (k * (cf qs i).den) * (lcs qs / (cf qs i).den) := Nat.mul_le_mul_right _ h1
      rw [Nat.mul_assoc, Nat.mul_div_cancel' dv] at h2
      exact Nat.le_trans h2 (Nat.mul_le_mul_left _ le)
    · have e := topOf_eq dv
      have L0 : ((lcs qs : Nat) : Rat) ≠ 0 := fun z => by
        have := Rat.natCast_eq_zero_iff.mp z
        have := lcs_pos qs
        omega
      rw [divInt_cast, Rat.intCast_natCast, e]
      generalize ((lcs qs : Nat) : Rat) = L at L0
      grind
  · exact ⟨0, Nat.zero_le _, by rw [cf_out ge, Rat.zero_divInt]⟩
theorem CDn.cd {A B x y : Nat} {R : List Rat} (h : CDn A B R) (a : A < 2 ^ x) (b : B < 2 ^ y) : CD x y R := by
  obtain ⟨M, m0, m1, hM⟩ := h
  exact ⟨M, m0, Nat.lt_of_le_of_lt m1 b, fun i => by
    obtain ⟨z, hz, e⟩ := hM i
    exact ⟨z, Nat.lt_of_le_of_lt hz a, e⟩⟩
theorem CDn.of {A B : Nat} {R S : List Rat} (h : CDn A B R) (e : ∀ i, cf S i = cf R i) : CDn A B S := by
  obtain ⟨M, m0, m1, hM⟩ := h
  exact ⟨M, m0, m1, fun i => by
    obtain ⟨z, hz, e'⟩ := hM i
    exact ⟨z, hz, (e i).trans e'⟩⟩
theorem conv_cdn {A B C D N : Nat} {qs rs ts : List Rat} (hq : CDn A B qs) (hr : CDn C D rs) (h : ∀ i, cf ts i = convN N (cf qs) (cf rs) i) : CDn (N * (A * C)) (B * D) ts := by
  obtain ⟨M, m0, m1, hM⟩ := hq
  obtain ⟨L, n0, n1, hL⟩ := hr
  refine ⟨M * L, Nat.mul_pos m0 n0, Nat.mul_le_mul m1 n1, fun i => ?_⟩
  rw [h i]
  unfold convN
  clear h
  induction N with
  | zero => exact ⟨0, Nat.zero_le _, by rw [Rat.zero_divInt]; rfl⟩
  | succ k ih =>
    obtain ⟨z, hz, e⟩ := ih
    by_cases hk : k ≤ i
    · obtain ⟨a, ha, ea⟩ := hM k
      obtain ⟨b, hb, eb⟩ := hL (i - k)
      refine ⟨z + a * b, ?_, ?_⟩
      · have h1 : (a * b).natAbs ≤ A * C := by
          rw [Int.natAbs_mul]
          exact Nat.mul_le_mul ha hb
        have h2 := Int.natAbs_add_le z (a * b)
        rw [Nat.succ_mul]
        omega
      · show sumTo k _ + (if k ≤ i then cf qs k * cf rs (i - k) else 0) = _
        rw [if_pos hk, e, ea, eb, Rat.divInt_mul_divInt, ← Int.natCast_mul, divInt_cast, divInt_cast, divInt_cast, Rat.intCast_add]
        generalize ((((M * L : Nat) : Int)) : Rat) = F
        grind
    · refine ⟨z, Nat.le_trans hz (Nat.mul_le_mul_right _ (Nat.le_succ k)), ?_⟩
      show sumTo k _ + (if k ≤ i then cf qs k * cf rs (i - k) else 0) = _
      rw [if_neg hk, e]
      exact Rat.add_zero _
/-- a planted polynomial times another one -/
theorem planted_cd {ps os ts : List Rat} (hp : ∀ i, Rsm 3 (cf ps i)) (lp : ps.length ≤ 3) (ho : ∀ i, Rsm 3 (cf os i)) (lo : os.length ≤ 5) (h : ∀ i, cf ts i = convN ps.length (cf ps) (cf os) i) : CD 58 58 ts := by
  have a := rsm_cdn hp lp
  have b := rsm_cdn ho lo
  have c := conv_cdn a b h
  refine c.cd ?_ (by decide)
  have : ps.length * (3 * 99 ^ 3 * (3 * 99 ^ 5)) ≤ 3 * (3 * 99 ^ 3 * (3 * 99 ^ 5)) := Nat.mul_le_mul_right _ lp
  exact Nat.lt_of_le_of_lt this (by decide)
theorem planted_dv {ps os ts : List Rat} (h : ∀ i, cf ts i = convN ps.length (cf ps) (cf os) i) : Dv (cf ps) ps.length (cf ts) := ⟨cf os, os.length, fun i hi => cf_out hi, h⟩
theorem dqs_sz' {D : List Rat} {c e : Nat} (hD : CD c e D) (l0 : cf D (D.length - 1) ≠ 0) : ∀ (n : Nat) {x y : Nat} {R : List Rat}, CD x y R → ∀ q ∈ dqs D n R, Sz (x + n * (c + 1) + e) (y + n * c + c) q
  | 0, _, _, _, _, q, hq => by cases hq
  | n + 1, x, y, R, hR, q, hq => by
    have m1 : (n + 1) * (c + 1) = n * (c + 1) + (c + 1) := Nat.succ_mul _ _
    have m2 : (n + 1) * c = n * c + c := Nat.succ_mul _ _
    rcases List.mem_cons.mp hq with e1 | hq
    · rw [e1]
      exact (div_sz (hR.sz _) (hD.sz _) l0).up (by omega) (by omega)
    · exact (dqs_sz' hD l0 n (dstep_cd hR hD l0) q hq).up (by omega) (by omega)
theorem one_rsm {i : Nat} : Rsm 3 (cf [(1 : Rat)] i) := by
  match i with
  | 0 => exact ⟨by decide, by decide⟩
  | n + 1 => rw [cf_out (show [(1 : Rat)].length ≤ n + 1 by show 1 ≤ n + 1; omega)]; exact Rsm.zero
theorem nil_rsm {i : Nat} : Rsm 3 (cf [] i) := by
  rw [cf_out (Nat.zero_le _)]
  exact Rsm.zero
end Kz
set_option linter.all false
set_option maxRecDepth 100000
set_option maxHeartbeats 4000000
namespace Kz
open PySem PySem.Spec PyProof.Rows L2
/-! ### rows that the law's own functions make are new -/
section
variable {P : Program} {w : World} {K : PySem.W.Frag} {mg : Str → Option Value} {base : Heap}
def spLpolyF (K : PySem.W.Frag) : Sp := fun vs H Q _ => ∃ v qs, vs = [v] ∧ LR K H v qs ∧ qs.length ≤ 1000 ∧ ∀ u H' rs, Same H H' → LR K H' u rs → Tr rs → rs.length ≤ qs.length → (∀ i, cf rs i = cf qs i) → (∀ a, u = .ref a → H a = none) → Q u H'
theorem ok_lpolyF (T : Tv P K mg) : FnOk P w K mg base CX0 1 T.l_poly.f T.l_poly.fd ["_law_numbers"] (spLpolyF K) := by
  refine T.l_poly.fn.ok sc48 (fun vs H Q E h => ?_) (fun cdv A outer s H vs Q E hr h => ?_)
  · obtain ⟨v, qs, rfl, _⟩ := h
    rfl
  · obtain ⟨v, qs, rfl, ⟨l, ws, rfl, hl, al⟩, len, k⟩ := h
    have hu := hr.units
    refine ⟨_, pss_cons (ps_set (i := 1) sc48.nd rfl (.inl rfl) (pe_callTy call_list_of (by rfl) T.blt.list boot_tlist (pa_cons (pv 0) pa_nil)))
      (pss_cons (ps_for PassesOwn.never rfl (pi_range1 rfl T.blt.range (pa_cons (pe_callB call_len_seq (by rfl) T.blt.len PySem.boot_len (pa_cons (pv 0) pa_nil)) pa_nil)) (pg_name (i := 2) sc48.nd rfl (.inl rfl))
        (pss_cons (ps_if (PW.pt (pw_or (pt_cmpR (op_eqD hu) (pv 1) (pe_lst pa_nil) (nomark _)) (pw_or1 (pt_cmpR op_ne (pe_ix ix_tup (pe_ix ix_list (pv 1) (pe_un un_neg pe_int) (fun _ _ => rfl)) pe_int (fun _ _ => rfl)) pe_int (nomark _))))) (pss_one ps_break) pss_nil)
        (pss_one (ps_expr (pe_bm0 PySem.F.plainAttrs_list PySem.F.slot_list_pop PySem.F.type_list_pop mt_pop (pv 1))))))
      (pss_one (ps_ret (pv 1)))), ?_⟩
    refine ⟨_, rfl, l, ws, rfl, .inl (SqL.of hl), fun f nf => ?_⟩
    have s1 := Same.new (o := .lst ws) nf
    have e1 : upd H f (.lst ws) f = some (.lst ws) := upd_same
    generalize upd H f (.lst ws) = H1 at s1 e1
    have fl : f ≠ l := (ne_of_none hl nf).symm
    refine ⟨_, rfl, l, ws, rfl, .inl (SqL.of (s1 _ _ hl)), ((ws.length : Nat) : Int), rfl, by omega, by have := al.1; omega, ?_⟩
    refine for_range (lo := 0) (n := ((ws.length : Nat) : Int).toNat) (fun i σ H' => i ≤ qs.length ∧ ∃ v2 vs R, σ = [some (.ref l), some (.ref f), v2] ∧ H' f = some (.lst vs) ∧ Al K H' vs R ∧ R.length = qs.length - i ∧ (∀ j, cf R j = cf qs j) ∧ Same H H')
      ⟨Nat.zero_le _, none, ws, qs, rfl, e1, al.same s1, rfl, fun _ => rfl, s1⟩ ?_ ?_
    · rintro i σ H2 hi ⟨_, v2, vs, R, rfl, hf, ar, lr, er, s2⟩
      have hi' : i < qs.length := by
        have : i < ws.length := hi
        have := al.1
        omega
      refine ⟨_, rfl, (by show 0 ≤ sizeLine; decide), fun z nz => ?_⟩
      have s3 := Same.new (o := .lst []) nz
      have ez : upd H2 z (.lst []) z = some (.lst []) := upd_same
      generalize upd H2 z (.lst []) = H3 at s3 ez
      have hf3 := s3 _ _ hf
      have ar3 := ar.same s3
      refine ⟨pdR R, pdR [], .lst (SqL.of hf3) ar3.dp, .lst (SqL.of ez) .nil, pdR_shaped R, pdR_shaped [], _, rfl, ?_⟩
      rw [pdR_nil]
      have tl : Tr R → _ := fun tr => k (.ref f) H3 R (s2.trans s3) ⟨f, vs, rfl, hf3, ar3⟩ tr (by omega) er (fun a e => by cases e; exact nf)
      by_cases e0 : R = []
      · rw [decide_eq_true e0]
        refine iteT (iteT ⟨_, rfl, tl ?_⟩)
        intro j ej
        rw [e0] at ej
        cases ej
      · rw [decide_eq_false e0]
        have l0 : 0 < R.length := List.length_pos_iff.mpr e0
        obtain ⟨vl, el, rl⟩ := ar3.get (i := R.length - 1) (by omega)
        obtain ⟨t, rfl, ht⟩ := rl
        refine iteF ⟨_, rfl, _, rfl, f, vs, _, _, rfl, rfl, SqL.of hf3, atI_last (by rw [ar.1]; exact el), t, _, _, _, rfl, rfl, ht, atI_nat (j := 0) rfl, rfl, _, rfl, ?_⟩
        by_cases z0 : (cf R (R.length - 1)).num = 0
        · rw [z0]
          refine iteNS rfl ?_
          refine ⟨_, rfl, .inl ⟨rfl, _, SqL.of hf3⟩, f, vs, _, rfl, rfl, hf3, by rw [ar.1]; exact el, ?_⟩
          have b4 : But f H3 (upd H3 f (.lst vs.dropLast)) := But.refl.set
          refine ⟨hi', _, vs.dropLast, R.take (R.length - 1), rfl, upd_same, ?_, by rw [List.length_take]; omega, fun j => ?_, fun c o e => b4 _ _ (s3 _ _ (s2 _ _ e)) (ne_of_none e nf)⟩
          · have e : vs.dropLast = vs.take (R.length - 1) := by rw [List.dropLast_eq_take, ar.1]
            have z := (Al.bear hf3 b4 ar3).take (R.length - 1)
            rw [← e] at z
            exact z
          · rw [← er j]
            rcases Nat.lt_or_ge j (R.length - 1) with lt | ge
            · exact cf_take lt
            · rw [cf_out (by rw [List.length_take]; omega)]
              rcases Nat.eq_or_lt_of_le ge with e | lt
              · rw [← e]
                exact (Rat.num_eq_zero.mp z0).symm
              · exact (cf_out (by omega)).symm
        · rw [decide_eq_false (p := V.int _ = V.int 0) (fun z => z0 (V.int.inj z))]
          refine iteT ⟨_, rfl, tl ?_⟩
          intro j ej
          have : j = R.length - 1 := by omega
          subst this
          exact fun c => z0 (by rw [c]; rfl)
    · rintro σ H2 ⟨_, v2, vs, R, rfl, hf, ar, lr, er, s2⟩
      have e : ((ws.length : Nat) : Int).toNat = qs.length := al.1
      rw [e, Nat.sub_self] at lr
      refine ⟨_, rfl, k (.ref f) H2 R s2 ⟨f, vs, rfl, hf, ar⟩ ?_ (by omega) er (fun a e => by cases e; exact nf)⟩
      intro j ej
      omega
def spLtmF (K : PySem.W.Frag) : Sp := fun vs H Q _ => ∃ v u qs rs x y c e, vs = [v, u] ∧ LR K H v qs ∧ LR K H u rs ∧ CD x y qs ∧ CD c e rs ∧ 0 < x ∧ 0 < y ∧ 0 < c ∧ 0 < e ∧ x + c ≤ 300000 ∧ y + e ≤ 4000 ∧ qs.length ≤ 200 ∧ rs.length ≤ 200 ∧
  ∀ t H' ts, Same H H' → LR K H' t ts → Tr ts → ts.length ≤ qs.length + rs.length - 1 → (∀ i, cf ts i = convN qs.length (cf qs) (cf rs) i) → (∀ a, t = .ref a → H a = none) → Q t H'
theorem ok_ltmF (T : Tv P K mg) : FnOk P w K mg base CX0 4 T.l_ptimes.f T.l_ptimes.fd ["_law_one", "_law_two"] (spLtmF K) := by
  have G0 : FnOk P w K mg base CX0 1 T.l_poly.f T.l_poly.fd ["_law_numbers"] (spLpolyF K) := ok_lpolyF T
  have G1 : FnOk P w K mg base CX0 3 T.l_plus.f T.l_plus.fd ["_law_one", "_law_two"] (spL2 K cBin (fun q r => q + r)) := ok_lplus T.toTy
  have G2 : FnOk P w K mg base CX0 3 T.l_times.f T.l_times.fd ["_law_one", "_law_two"] (spL2 K cBin (fun q r => q * r)) := ok_ltimes T.toTy
  refine T.l_ptimes.fn.ok sc52 (fun vs H Q E h => ?_) (fun cdv A outer s H vs Q E hr h => ?_)
  · obtain ⟨v, u, qs, rs, x, y, c, e, rfl, _⟩ := h
    rfl
  · obtain ⟨v, u, qs, rs, x, y, c, e, rfl, ⟨l, ws, rfl, hl, al⟩, ⟨l', ws', rfl, hl', al'⟩, cq, cr, x0, y0, c0, e0, b1, b2, l2, l2', k⟩ := h
    refine ⟨_, pss_cons (ps_set (i := 2) sc52.nd rfl (.inl rfl) (pe_op op_rep (pe_lst (pa_cons (pe_tup (pa_cons pe_int (pa_cons pe_int pa_nil))) pa_nil)) (pe_callB (cr_max rfl) (by rfl) T.mMax boot_max2 (pa_cons (pe_lst (pa_cons pe_int (pa_cons (pe_op op_sub (pe_op op_add (pe_callB call_len_seq (by rfl) T.blt.len PySem.boot_len (pa_cons (pv 0) pa_nil)) (pe_callB call_len_seq (by rfl) T.blt.len PySem.boot_len (pa_cons (pv 1) pa_nil))) pe_int) pa_nil))) pa_nil))))
      (pss_cons (ps_for PassesOwn.never rfl (pi_range1 rfl T.blt.range (pa_cons (pe_callB call_len_seq (by rfl) T.blt.len PySem.boot_len (pa_cons (pv 0) pa_nil)) pa_nil)) (pg_name (i := 3) sc52.nd rfl (.inl rfl))
        (pss_one (ps_for PassesOwn.never rfl (pi_range1 rfl T.blt.range (pa_cons (pe_callB call_len_seq (by rfl) T.blt.len PySem.boot_len (pa_cons (pv 1) pa_nil)) pa_nil)) (pg_name (i := 4) sc52.nd rfl (.inl rfl))
          (pss_one (ps_asg (T.l_plus.c0 G1 hr (pa_cons (pe_ix ix_list (pv 2) (pe_op op_add (pv 3) (pv 4)) (fun _ _ => rfl)) (pa_cons (T.l_times.c0 G2 hr (pa_cons (pe_ix ix_list (pv 0) (pv 3) (fun _ _ => rfl)) (pa_cons (pe_ix ix_list (pv 1) (pv 4) (fun _ _ => rfl)) pa_nil))) pa_nil))) (pg_sub (pv 2) (pe_op op_add (pv 3) (pv 4)) set_list (fun _ => rfl)))))))
      (pss_one (ps_ret (T.l_poly.c0 G0 (hr.mono (by decide)) (pa_cons (pv 2) pa_nil))))), ?_⟩
    have la := al.1
    have la' := al'.1
    refine ⟨(by show 2 ≤ sizeLine; decide), fun z nz => ?_⟩
    have s2 := Same.new (o := .tup [.int 0, .int 1]) nz
    have ez : RV K (upd H z (.tup [.int 0, .int 1])) (.ref z) 0 := rv_zero (SqT.of upd_same)
    generalize upd H z (.tup [.int 0, .int 1]) = H2 at s2 ez
    refine ⟨(by show 1 ≤ sizeLine; decide), fun p np => ?_⟩
    have t3 := Same.new (o := .lst [.ref z]) np
    have ep : upd H2 p (.lst [.ref z]) p = some (.lst [.ref z]) := upd_same
    have s3 := s2.trans t3
    have ez3 := ez.same t3
    generalize upd H2 p (.lst [.ref z]) = H3 at ep s3 ez3
    refine ⟨_, rfl, l, ws, rfl, .inl (SqL.of (s3 _ _ hl)), _, rfl, l', ws', rfl, .inl (SqL.of (s3 _ _ hl')), _, _, rfl, rfl, _, _, rfl, rfl, (by show 2 ≤ sizeLine; decide), fun yy ny => ?_⟩
    have t4 := Same.new (o := .lst [.int 0, .int (((ws.length : Nat) : Int) + ((ws'.length : Nat) : Int) - 1)]) ny
    have ey : upd H3 yy (.lst [.int 0, .int (((ws.length : Nat) : Int) + ((ws'.length : Nat) : Int) - 1)]) yy = some (.lst [.int 0, .int (((ws.length : Nat) : Int) + ((ws'.length : Nat) : Int) - 1)]) := upd_same
    have s4 := s3.trans t4
    have ep4 := t4 _ _ ep
    have ez4 := ez3.same t4
    generalize upd H3 yy (.lst [.int 0, .int (((ws.length : Nat) : Int) + ((ws'.length : Nat) : Int) - 1)]) = H4 at ey s4 ep4 ez4
    refine ⟨yy, [0, ((ws.length : Nat) : Int) + ((ws'.length : Nat) : Int) - 1], rfl, SqL.of ey, (by show 0 < 2; decide), fun mx mem all => ?_⟩
    have em : mx = ((qs.length + rs.length - 1 : Nat) : Int) := by
      have h1 := all 0 (by simp)
      have h2 := all (((ws.length : Nat) : Int) + ((ws'.length : Nat) : Int) - 1) (by simp)
      simp only [List.mem_cons, List.not_mem_nil, or_false] at mem
      omega
    subst em
    generalize hN : qs.length + rs.length - 1 = N at k
    refine ⟨p, _, _, rfl, rfl, ep4, by omega, by omega, ?_, fun fo nfo => ?_⟩
    · have tn : (((N : Nat) : Int)).toNat = N := rfl
      rw [tn]
      show 1 * N ≤ sizeLine
      rw [sizeLine_eq]
      omega
    have tn : (((N : Nat) : Int)).toNat = N := rfl
    rw [tn]
    have t5 := Same.new (o := .lst (List.replicate N [V.ref z]).flatten) nfo
    have ef : upd H4 fo (.lst (List.replicate N [V.ref z]).flatten) fo = some (.lst (List.replicate N [V.ref z]).flatten) := upd_same
    have s5 := s4.trans t5
    have af := al_rep (k := N) (ez4.same t5)
    rw [rep_upTo] at af
    have nfo0 : H fo = none := Kz.Same.none_of s4 nfo
    generalize upd H4 fo (.lst (List.replicate N [V.ref z]).flatten) = H5 at ef s5 af
    generalize (List.replicate N [V.ref z]).flatten = us at ef af
    obtain ⟨M, M0, M1, hM⟩ := id cq
    obtain ⟨L, L0, L1, hL⟩ := id cr
    have szc : ∀ j i, j ≤ 200 → Sz (x + c + 9) (y + e) (convN j (cf qs) (cf rs) i) := fun j i hj => by
      obtain ⟨zz, hz, ee⟩ := conv_part hM hL M0 L0 j i
      rw [ee]
      refine sz_divInt (by have := Nat.mul_pos M0 L0; omega) ?_ ?_
      · have h1 : j * 2 ^ (x + c) ≤ 2 ^ 8 * 2 ^ (x + c) := Nat.mul_le_mul_right _ (by omega)
        rw [← Nat.pow_add] at h1
        have h2 : 2 ^ (8 + (x + c)) < 2 ^ (x + c + 9) := Nat.pow_lt_pow_right (by decide) (by omega)
        omega
      · show M * L < _
        rw [Nat.pow_add]
        exact Nat.mul_lt_mul'' M1 L1
    refine ⟨_, rfl, l, ws, rfl, .inl (SqL.of (s5 _ _ hl)), ((ws.length : Nat) : Int), rfl, by omega, by omega, ?_⟩
    refine for_range (lo := 0) (n := ((ws.length : Nat) : Int).toNat) (fun i σ H' => i ≤ qs.length ∧ ∃ v3 v4 vs, σ = [some (.ref l), some (.ref l'), some (.ref fo), v3, v4] ∧ H' fo = some (.lst vs) ∧ Al K H' vs (upTo N (convN i (cf qs) (cf rs))) ∧ Same H H')
      ⟨Nat.zero_le _, none, none, us, rfl, ef, ?_, s5⟩ ?_ ?_
    · exact af
    · rintro i σ H6 hi ⟨_, v3, v4, vs, rfl, hf, av, s6⟩
      have hi' : i < qs.length := by
        have : i < ws.length := hi
        omega
      have e0' : (0 : Int) + ((i : Nat) : Int) = ((i : Nat) : Int) := Int.zero_add _
      rw [e0']
      refine ⟨_, rfl, l', ws', rfl, .inl (SqL.of (s6 _ _ hl')), ((ws'.length : Nat) : Int), rfl, by omega, by omega, ?_⟩
      refine for_range (lo := 0) (n := ((ws'.length : Nat) : Int).toNat) (fun n σ H' => n ≤ rs.length ∧ ∃ v4 vs, σ = [some (.ref l), some (.ref l'), some (.ref fo), some (.int ((i : Nat) : Int)), v4] ∧ H' fo = some (.lst vs) ∧
        Al K H' vs (upTo N fun j => convN i (cf qs) (cf rs) j + if i ≤ j ∧ j < i + n then cf qs i * cf rs (j - i) else 0) ∧ Same H H') ⟨Nat.zero_le _, v4, vs, rfl, hf, ?_, s6⟩ ?_ ?_
      · have : (upTo N fun j => convN i (cf qs) (cf rs) j + if i ≤ j ∧ j < i + 0 then cf qs i * cf rs (j - i) else 0) = upTo N (convN i (cf qs) (cf rs)) := upTo_ext fun j _ => by
          rw [if_neg (by omega)]
          exact Rat.add_zero _
        rw [this]
        exact av
      · rintro n σ H7 hn ⟨_, v4, vs, rfl, hf7, av7, s7⟩
        have hn' : n < rs.length := by
          have : n < ws'.length := hn
          omega
        have e1 : (0 : Int) + ((n : Nat) : Int) = ((n : Nat) : Int) := Int.zero_add _
        have ek : ((i : Nat) : Int) + ((n : Nat) : Int) = ((i + n : Nat) : Int) := by omega
        rw [e1]
        have inN : i + n < N := by omega
        obtain ⟨vi, ei, ri⟩ := av7.get (i := i + n) (by rw [upTo_len]; exact inN)
        rw [cf_at (upTo_at inN), if_neg (by omega), show convN i (cf qs) (cf rs) (i + n) + 0 = convN i (cf qs) (cf rs) (i + n) from Rat.add_zero _] at ri
        obtain ⟨va, ea, ra⟩ := (al.same s7).get hi'
        obtain ⟨vb, eb, rb⟩ := (al'.same s7).get hn'
        have za : Sz x y (cf qs i) := cq.sz i
        have zb : Sz c e (cf rs n) := cr.sz n
        refine ⟨_, rfl, _, rfl, _, rfl, _, _, rfl, rfl, fo, vs, _, vi, rfl, rfl, SqL.of hf7, (by rw [ek]; exact atI_nat ei), ?_⟩
        refine ⟨_, rfl, _, rfl, l, ws, _, va, rfl, rfl, SqL.of (s7 _ _ hl), atI_nat ea, _, rfl, _, rfl, l', ws', _, vb, rfl, rfl, SqL.of (s7 _ _ hl'), atI_nat eb, ?_⟩
        refine ⟨va, vb, _, _, x, y, c, e, rfl, ra.pq za, rb.pq zb, ⟨by omega, by omega⟩, fun vm H8 s8 rm => ?_⟩
        refine ⟨vi, vm, _, _, x + c + 9, y + e, x + c, y + e, rfl, (ri.same s8).pq (szc i _ (by omega)), rm.pq (mul_sz za zb), ⟨by omega, by omega⟩, fun vn H9 s9 rn => ?_⟩
        have s89 := s8.trans s9
        have h9 := s89 _ _ hf7
        have lv : vs.length = N := av7.1.trans upTo_len
        refine ⟨_, rfl, _, rfl, _, rfl, _, _, rfl, rfl, fo, vs, _, i + n, rfl, rfl, h9, (by rw [ek, lv]; exact ixN_nat inN), ?_⟩
        have b10 : But fo H9 (upd H9 fo (.lst (vs.set (i + n) vn))) := But.refl.set
        have e10 : upd H9 fo (.lst (vs.set (i + n) vn)) fo = some (.lst (vs.set (i + n) vn)) := upd_same
        generalize upd H9 fo (.lst (vs.set (i + n) vn)) = H10 at b10 e10
        have rows : (upTo N fun j => convN i (cf qs) (cf rs) j + if i ≤ j ∧ j < i + (n + 1) then cf qs i * cf rs (j - i) else 0) =
            (upTo N fun j => convN i (cf qs) (cf rs) j + if i ≤ j ∧ j < i + n then cf qs i * cf rs (j - i) else 0).set (i + n) (convN i (cf qs) (cf rs) (i + n) + cf qs i * cf rs n) := by
          rw [upTo_set]
          refine upTo_ext fun j _ => ?_
          by_cases e : j = i + n
          · rw [if_pos e, e, if_pos (by omega), Nat.add_sub_cancel_left]
          · rw [if_neg e]
            congr 1
            by_cases c : i ≤ j ∧ j < i + n
            · rw [if_pos c, if_pos (by omega)]
            · rw [if_neg c, if_neg (by omega)]
        refine ⟨hn', _, _, rfl, e10, ?_, fun cc o ec => b10 _ _ (s89 _ _ (s7 _ _ ec)) (ne_of_none ec nfo0)⟩
        rw [rows]
        exact (Al.bear h9 b10 (av7.same s89)).set ((Al.bear h9 b10 (Al.snoc (Al.nil (H := H9)) rn)).2 0 vn _ rfl rfl)
      · rintro σ H7 ⟨_, v4, vs, rfl, hf7, av7, s7⟩
        have en : ((ws'.length : Nat) : Int).toNat = rs.length := la'
        rw [en] at av7
        refine ⟨hi', _, _, vs, rfl, hf7, ?_, s7⟩
        have : (upTo N fun j => convN i (cf qs) (cf rs) j + if i ≤ j ∧ j < i + rs.length then cf qs i * cf rs (j - i) else 0) = upTo N (convN (i + 1) (cf qs) (cf rs)) := upTo_ext fun j _ => by
          show _ = convN i (cf qs) (cf rs) j + (if i ≤ j then cf qs i * cf rs (j - i) else 0)
          congr 1
          by_cases c : i ≤ j
          · rw [if_pos c]
            by_cases c2 : j < i + rs.length
            · rw [if_pos ⟨c, c2⟩]
            · rw [if_neg (by omega), cf_out (qs := rs) (by omega), Rat.mul_zero]
          · rw [if_neg c, if_neg (by omega)]
        rw [← this]
        exact av7
    · rintro σ H6 ⟨_, v3, v4, vs, rfl, hf, av, s6⟩
      have en : ((ws.length : Nat) : Int).toNat = qs.length := la
      rw [en] at av
      refine ⟨_, rfl, _, _, rfl, ⟨fo, vs, rfl, hf, av⟩, by rw [upTo_len]; omega, fun t H7 ts s7 lr tr ll et fr => k t H7 ts (s6.trans s7) lr tr (by rw [upTo_len] at ll; exact ll) (fun i => ?_) (fun a e => Kz.Same.none_of s6 (fr a e))⟩
      rw [et, upTo_cf]
      intro i ge
      rcases Nat.eq_zero_or_pos rs.length with r0 | r0
      · exact conv_zero (L := 0) (fun j _ => cf_out (by omega)) (by omega)
      · exact conv_zero (L := rs.length) (fun j hj => cf_out hj) (by omega)
end
end Kz
set_option linter.all false
set_option maxRecDepth 100000
set_option maxHeartbeats 8000000
namespace Kz
open PySem PySem.Spec PyProof.Rows L2
theorem call_tupleK {X : Cx} {K : PySem.W.Frag} (e : X.K = K) : CallR X (.type "tuple") (fun xs H Q => ∃ p ys, xs = [.ref p] ∧ ((SqL K H p ys ∧ ∀ l, H l = none → Q (.ref l) (upd H l (.tup ys))) ∨ (SqT K H p ys ∧ Q (.ref p) H))) := e ▸ call_tuple_of
theorem pe_fldK {X : Cx} {K : PySem.W.Frag} (eK : X.K = K) {n : Str} {o : Expr} {ta : TE} {pos : Pos} (h : PE X o ta) (hb : attributeBase o n X.env (eval o X.env) = eval o X.env := by rfl) : PE X (.Attribute o n pos) (tFld K ta n) := eK ▸ pe_fld h hb
section
variable {P : Program} {w : World} {K : PySem.W.Frag} {mg : Str → Option Value} {base : Heap}
theorem PolyAt.ext {cP p c : Addr} {n : Nat} {H H' : Hp} {v : V} {qs : List Rat} (pen : Pen H p c n) (b : ButN p H H') (h : PolyAt K cP H v qs) : PolyAt K cP H' v qs := ((pen.cPoly h).same b.cl).same cl_sub
/-- a tuple of ratios -/
def TA (K : PySem.W.Frag) (H : Hp) (v : V) (qs : List Rat) : Prop := ∃ q ws, v = .ref q ∧ SqT K H q ws ∧ Al K H ws qs
theorem TA.same {H H' : Hp} {v : V} {qs : List Rat} (s : Same H H') (h : TA K H v qs) : TA K H' v qs := by
  obtain ⟨q, ws, e, h1, h2⟩ := h
  exact ⟨q, ws, e, Kz.Same.seqT s h1, h2.same s⟩
theorem TA.dp {H : Hp} {v : V} {qs : List Rat} (h : TA K H v qs) : Dp K H v (.tuple (qs.map pdQ)) := by
  obtain ⟨q, ws, rfl, h1, h2⟩ := h
  exact .tup h1 h2.dp
theorem bear_seqT {D : Addr} {H H' : Hp} {t : Addr} {xs : List V} (l : ∀ o, H D = some o → ∃ us, o = .lst us) (b : But D H H') (r : SqT K H t xs) : SqT K H' t xs := by
  have ne : ∀ {o : HO}, H t = some o → (∀ us, o ≠ .lst us) → t ≠ D := fun {o} e n z => by
    rw [z] at e
    obtain ⟨us, e'⟩ := l _ e
    exact n us e'
  rcases r with (r | ⟨o, r⟩) | r
  · exact .inl (.inl (b _ _ r (ne r (fun us z => nomatch z))))
  · exact .inl (.inr ⟨o, b _ _ r (ne r (fun us z => nomatch z))⟩)
  · exact .inr r
/-- tuples of ratios, as many as rows -/
def TAs (K : PySem.W.Frag) (rows : List (List Rat)) (i : Nat) (acc : List V) (H : Hp) : Prop := acc.length = i ∧ ∀ (j : Nat) (v : V), acc[j]? = some v → TA K H v (rows.getD j [])
theorem TAs.bears {rows : List (List Rat)} {D : Addr} : Bears D (TAs K rows) := fun i acc H H' l b h => ⟨h.1, fun j v e => by
  obtain ⟨q, ws, ev, h1, h2⟩ := h.2 j v e
  exact ⟨q, ws, ev, bear_seqT l b h1, ⟨h2.1, fun a u r e1 e2 => bear_rv l b (h2.2 a u r e1 e2)⟩⟩⟩
theorem TAs.snoc {rows : List (List Rat)} {i : Nat} {acc : List V} {H : Hp} {v : V} (h : TAs K rows i acc H) (r : TA K H v (rows.getD i [])) : TAs K rows (i + 1) (acc ++ [v]) H := by
  refine ⟨by rw [List.length_append, h.1]; rfl, fun j u e => ?_⟩
  rcases Nat.lt_or_ge j acc.length with lt | ge
  · rw [List.getElem?_append_left lt] at e
    exact h.2 j u e
  · have l := (List.getElem?_eq_some_iff.mp e).1
    rw [List.length_append] at l
    have ej : j = acc.length := by
      have : [v].length = 1 := rfl
      omega
    rw [ej, List.getElem?_append_right (Nat.le_refl _), Nat.sub_self] at e
    cases e
    rw [ej, h.1]
    exact r
theorem TAs.same {rows : List (List Rat)} {i : Nat} {acc : List V} {H H' : Hp} (s : Same H H') (h : TAs K rows i acc H) : TAs K rows i acc H' := ⟨h.1, fun j v e => (h.2 j v e).same s⟩
theorem row_lay (qs : List Rat) : (PyData.tuple (qs.map pdQ)).canLay0 = true ∧ (PyData.tuple (qs.map pdQ)).depth ≤ 2 := by
  obtain ⟨h1, h2⟩ := pdQ_lay qs
  exact ⟨by simpa only [PyData.canLay0] using h1, by simp only [PyData.depth]; omega⟩
theorem two_shaped (a b : List Rat) : SeqAt.shaped (.list [.tuple (a.map pdQ), .tuple (b.map pdQ)]) = true := by
  obtain ⟨h1, h2⟩ := row_lay a
  obtain ⟨h3, h4⟩ := row_lay b
  unfold SeqAt.shaped
  have c1 : (PyData.list [.tuple (a.map pdQ), .tuple (b.map pdQ)]).canLay0 = true := by
    simp only [PyData.canLay0, PyData.canLayAll0, Bool.and_true] at h1 h3 ⊢
    rw [h1, h3]
    rfl
  have c2 : (PyData.list [.tuple (a.map pdQ), .tuple (b.map pdQ)]).depth ≤ 64 := by
    have e : (PyData.list [.tuple (a.map pdQ), .tuple (b.map pdQ)]).depth = PyData.depthAll [.tuple (a.map pdQ), .tuple (b.map pdQ)] + 1 := by simp only [PyData.depth]
    rw [e]
    simp only [PyData.depthAll]
    omega
  rw [c1, decide_eq_true c2]
  rfl
theorem two_eqv (a b : List Rat) : PyData.eqv (.list [.tuple (a.map pdQ), .tuple (b.map pdQ)]) (.list [.tuple (a.map pdQ), .tuple (b.map pdQ)]) = true := by
  have h1 := eqv_row a a
  have h2 := eqv_row b b
  rw [decide_eq_true rfl] at h1 h2
  simp only [PyData.eqv, PyData.eqvAll, h1, h2, Bool.and_true]
theorem TAs.two {a b : List Rat} {acc : List V} {H : Hp} (h : TAs K [a, b] 2 acc H) : DpAll K H acc [.tuple (a.map pdQ), .tuple (b.map pdQ)] := by
  obtain ⟨l, h⟩ := h
  match acc, l with
  | [x, y], _ => exact .cons (h 0 x rfl).dp (.cons (h 1 y rfl).dp .nil)
/-- a row that was planted -/
structure Row69 (K : PySem.W.Frag) (ps : List Rat) (H : Hp) (v : V) (qs : List Rat) : Prop where
  lr : LR K H v qs
  tr : Tr qs
  cd : CD 58 58 qs
  dv : Dv (cf ps) ps.length (cf qs)
  ln : qs.length ≤ ps.length + 4
theorem Row69.but {ps : List Rat} {H H' : Hp} {p c : Addr} {n : Nat} {v : V} {qs : List Rat} (b : But p H H') (pen : Pen H p c n) (h : Row69 K ps H v qs) : Row69 K ps H' v qs := ⟨pen.lr b h.lr, h.tr, h.cd, h.dv, h.ln⟩
abbrev n69 : List Str := ["_law_pen_here", "_law_planted", "_law_ones", "_law_k", "_law_other", "_law_a", "_law_b", "_law_both", "_law_due", "_law_one"]
theorem sc69 : FnScope n69 ["_law_pen_here"] (defScope (top 70)) := ⟨rfl, rfl, rfl, by decide +kernel, rfl, by decide +kernel, by decide +kernel⟩
theorem ok_dr (T : Tt P K mg) (O : OpsT K) (TB : LamX.TabB base mg T.c69 T.P69) : FnG P w K mg base CX0 10 T.l_dr.f T.l_dr.fd ["_law_pen_here"] (spRight T.Tl) := by
  have Gpick : FnOk P w K mg base CX0 2 T.l_pick.f T.l_pick.fd ["_law_pen_here", "_law_some"] spPick := ok_lpick T.toTu
  have Gdrawn : FnOk P w K mg base CX0 4 T.l_drawn.f T.l_drawn.fd ["_law_pen_here", "_law_degree", "_law_most"] (spDrawn K) := ok_ldrawn T.toTu
  have Gtm : FnOk P w K mg base CX0 4 T.l_ptimes.f T.l_ptimes.fd ["_law_one", "_law_two"] (spLtmF K) := ok_ltmF T.toTv
  have Gmade : FnOk P w K mg base CX0 7 T.l_made.f T.l_made.fd ["_law_pen_here", "_law_one"] (spMade K T.cP) := ok_lmade T.toTu
  have Gcomm : FnOk P w K mg base CX0 7 T.common.f T.common.fd ["one", "other"] (spComm K T.cP) := ok_comm T.toTz
  have Glco : FnOk P w K mg base CX0 6 T.l_pcommon.f T.l_pcommon.fd ["_law_one", "_law_two"] (spLco K) := ok_lcommon T.toTv
  have Gdiv : FnOk P w K mg base (CX P w) 7 T.divided.f T.divided.fd ["one", "other"] (spDivd K T.cP T.cN) := ok_divd T.toTz
  have Gldv : FnOk P w K mg base CX0 4 T.l_pdivided.f T.l_pdivided.fd ["_law_one", "_law_two"] (spLdv K) := ok_ldv T.toTv
  have GA : FnOk P w K mg base CX0 8 T.p_add.f T.p_add.fd ["self", "other"] (spAr K T.cP cAdd (fun f _ g _ t => ∀ i, t i = f i + g i) (fun a b => max a b)) := ok_padd T.toTz
  have GM : FnOk P w K mg base CX0 8 T.p_mul.f T.p_mul.fd ["self", "other"] (spAr K T.cP cMul (fun f N g _ t => ∀ i, t i = convN N f g i) (fun a b => a + b)) := ok_pmul T.toTz
  refine fnGC0 T.f69 sc69 (fun vs H Q E h => ?_) (fun A outer s H vs Q E hg hr h => ?_)
  · obtain ⟨p, c, n, rfl, _⟩ := h
    rfl
  · obtain ⟨p, c, n, rfl, pen, hn, tabs, k⟩ := h
    have pen0 := pen
    have hr1 : Room 1 _ := hr.mono (by decide)
    have hr2 : Room 2 _ := hr.mono (by decide)
    have hr4 : Room 4 _ := hr.mono (by decide)
    have hr6 : Room 6 _ := hr.mono (by decide)
    have hr7 : Room 7 _ := hr.mono (by decide)
    have hr8 : Room 8 _ := hr.mono (by decide)
    have hu := hr.units
    refine ⟨_, pss_cons (ps_par (i := 1) (j := 2) rfl sc69.nd rfl rfl (by decide) rfl rfl (pa_cons (T.l_drawn.c0 Gdrawn hr4 (pa_cons (pv 0) (pa_cons pe_int (pa_cons pe_int pa_nil)))) (pa_cons (pe_lst pa_nil) pa_nil)) (by rfl))
      (pss_cons (ps_for PassesOwn.never rfl (pi_range1 rfl T.blt.range (pa_cons pe_int pa_nil)) (pg_name (i := 3) sc69.nd rfl (.inl rfl))
        (pss_cons (ps_set (i := 4) sc69.nd rfl (.inl rfl) (T.l_drawn.c0 Gdrawn hr4 (pa_cons (pv 0) (pa_cons pe_int (pa_cons pe_int pa_nil)))))
        (pss_one (ps_expr (pe_bm PySem.F.plainAttrs_list PySem.F.slot_list_append PySem.F.type_list_append mt_append (pv 2) (pa_cons (T.l_ptimes.c0 Gtm hr4 (pa_cons (pv 1) (pa_cons (T.l_pick.c0 Gpick hr2 (pa_cons (pv 0) (pa_cons
          (pe_lst (pa_cons (pv 4) (pa_cons (pv 4) (pa_cons (pe_lst (pa_cons (pe_tup (pa_cons pe_int (pa_cons pe_int pa_nil))) pa_nil)) (pa_cons (pe_lst pa_nil) pa_nil))))) pa_nil))) pa_nil))) pa_nil))))))
      (pss_cons (ps_asg (pe_tup (pa_cons (T.l_made.c0 Gmade hr7 (pa_cons (pv 0) (pa_cons (pe_ix ix_list (pv 2) pe_int (fun _ _ => rfl)) pa_nil))) (pa_cons (T.l_made.c0 Gmade hr7 (pa_cons (pv 0) (pa_cons (pe_ix ix_list (pv 2) pe_int (fun _ _ => rfl)) pa_nil))) pa_nil))) (pg_tup (by rfl) (pgs_cons (pg_name (i := 5) sc69.nd rfl (.inr rfl)) (pgs_cons (pg_name (i := 6) sc69.nd rfl (.inr rfl)) pgs_nil))))
      (pss_cons (ps_if (pt_cmpR (op_neD hu) (pe_fld (T.common.c0 Gcomm hr7 (pa_cons (pv 5) (pa_cons (pv 6) pa_nil))) (by rfl)) (pe_callTy call_tuple_of (by rfl) T.mTuple boot_ttuple (pa_cons (T.l_pcommon.c0 Glco hr6 (pa_cons (pe_ix ix_list (pv 2) pe_int (fun _ _ => rfl)) (pa_cons (pe_ix ix_list (pv 2) pe_int (fun _ _ => rfl)) pa_nil))) pa_nil)) (nomark _))
          (pss_one (ps_ret pe_bl)) pss_nil)
      (pss_cons (ps_if (pt_cmpR (op_eqD hu) (pe_ix ix_list (pv 2) pe_int (fun _ _ => rfl)) (pe_lst pa_nil) (nomark _))
          (pss_one (ps_ret (pe_cmpR (op_eqT hu) (pe_why T.toTu (k := 7) hg TB rfl T.m69 T.h69 hr (LamX.lamS_by (sc := defScope (top 70)) (by decide +kernel)) (fun A outer s H E f c' hr' => T.divided.cS Gdiv hr' (takes_of (E := E) rfl rfl rfl rfl) (pa_cons (pv 5) (pa_cons (pv 6) pa_nil))))
            (pe_tup (pa_cons pe_str (pa_cons pe_str (pa_cons pe_str pa_nil)))) (nomark _)))) pss_nil)
      (pss_cons (ps_par (i := 7) (j := 8) rfl sc69.nd rfl rfl (by decide) rfl rfl (pa_cons (T.divided.cX Gdiv hr7 (pa_cons (pv 5) (pa_cons (pv 6) pa_nil))) (pa_cons
          (pe_lc (own := [("_law_one", 9)]) (g := gName 9) (tt := tYes) rfl sc69.nd (pi_tup (T.l_pdivided.c0 Gldv hr4 (pa_cons (pe_ix ix_list (pv 2) pe_int (fun _ _ => rfl)) (pa_cons (pe_ix ix_list (pv 2) pe_int (fun _ _ => rfl)) pa_nil)))) (blkOk_by (own := [("_law_one", 9)]) (N := n69) (sc := defScope (top 70)) (by decide +kernel))
            (fun _ _ _ _ _ => pg_name (i := 9) sc69.nd rfl (Or.inl rfl)) (fun _ _ _ _ _ => pts_nil) (fun _ _ _ _ _ => pe_callTy (call_tupleK (K := K) rfl) (by rfl) T.mTuple boot_ttuple (pa_cons (pv 9) pa_nil))) pa_nil)) (by rfl))
      (pss_cons (ps_if (PW.pt (pw_or (pt_not (pt_val (pe_callB call_isi (by rfl) T.mIsi boot_isi (pa_cons (pv 7) (pa_cons (pe_bltn (v := .ty "tuple") (by rfl) T.mTuple boot_ttuple rfl) pa_nil)))))
          (pw_or1 (pt_cmpR (op_neD hu) (pe_lc (own := [("_law_one", 9)]) (g := gName 9) (tt := tYes) rfl sc69.nd (pi_tup (pv 7)) (blkOk_by (own := [("_law_one", 9)]) (N := n69) (sc := defScope (top 70)) (by decide +kernel))
            (fun _ _ _ _ _ => pg_name (i := 9) sc69.nd rfl (Or.inl rfl)) (fun _ _ _ _ _ => pts_nil) (fun _ _ _ _ _ => pe_fldK (K := K) rfl (pv 9) (by rfl))) (pv 8) (nomark _)))))
          (pss_one (ps_ret pe_bl)) pss_nil)
      (pss_one (ps_ret (pe_cmpR (op_peq T.toTw hr1) (pe_op (op_pp T.p_add GA T.sfP hr8 rfl) (pe_op (op_pp T.p_mul GM T.sfP hr8 rfl) (pe_ix ix_tup (pv 7) pe_int (fun _ _ => rfl)) (pv 6)) (pe_ix ix_tup (pv 7) pe_int (fun _ _ => rfl))) (pv 5) (nomark _)))))))))), ?_⟩
    refine ⟨_, rfl, p, c, n, 2, 3, rfl, pen, by omega, by decide, by decide, by decide, fun v1 H1 ps pen1 but1 lr1 tr1 ll1 rs1 => ?_⟩
    refine ⟨(by show 0 ≤ sizeLine; decide), fun o nO => ?_⟩
    have s2 := Same.new (o := .lst []) nO
    have e2 : upd H1 o (.lst []) o = some (.lst []) := upd_same
    have pen2 := pen1.same s2
    have but2 := but1.trans (.ofSame s2)
    have lr2 := lr1.same s2
    have oc : o ≠ c := pen1.newC nO
    have op : o ≠ p := pen1.newP nO
    obtain ⟨lp, wp, rfl, hlp, alp⟩ := id lr1
    have olp : o ≠ lp := (ne_of_none hlp nO).symm
    have noO : H o = none := but1.gone pen1 nO
    generalize upd H1 o (.lst []) = H2 at s2 e2 pen2 but2 lr2
    refine ⟨_, _, rfl, (2 : Int), rfl, by decide, by decide, for_range (lo := 0) (n := 2) (fun i σ G => ∃ (us : List V) (v3 v4 : Option V), σ = [some (.ref p), some (.ref lp), some (.ref o), v3, v4, none, none, none, none, none] ∧
      Pen G p c (n + 40 + 50 * i) ∧ But p H G ∧ LR K G (.ref lp) ps ∧ G o = some (.lst us) ∧ us.length = i ∧ ∀ (j : Nat) (v : V), us[j]? = some v → v ≠ .ref o ∧ ∃ qs, Row69 K ps G v qs) ⟨[], none, none, rfl, pen2, but2, lr2, e2, rfl, fun j v e => by simp at e⟩ ?_ ?_⟩
    · rintro i σ G hi ⟨us, v3, v4, rfl, pn, bG, lrp, eo, lus, rows⟩
      have hi2 : i < 2 := hi
      refine ⟨_, rfl, p, c, _, 4, 3, rfl, pn, by omega, by decide, by decide, by decide, fun v5 G1 os pn1 b1 lr5 tr5 ll5 rs5 => ?_⟩
      have eo1 := pn.lst b1 eo
      have lrp1 := pn.lr b1 lrp
      refine ⟨_, rfl, .inl ⟨rfl, _, SqL.of eo1⟩, _, rfl, _, rfl, _, rfl, _, rfl, (by show 2 ≤ sizeLine; decide), fun t nt => ?_⟩
      have k1 := Same.new (o := .tup [.int 1, .int 1]) nt
      have r1 : RV K (upd G1 t (.tup [.int 1, .int 1])) (.ref t) 1 := ⟨t, rfl, SqT.of upd_same⟩
      generalize upd G1 t (.tup [.int 1, .int 1]) = G2 at k1 r1
      refine ⟨(by show 1 ≤ sizeLine; decide), fun l1 nl1 => ?_⟩
      have k2 := Same.new (o := .lst [.ref t]) nl1
      have r2 : LR K (upd G2 l1 (.lst [.ref t])) (.ref l1) [1] := ⟨l1, _, rfl, upd_same, Al.snoc (Al.nil (H := _)) (r1.same k2)⟩
      have k12 := k1.trans k2
      generalize upd G2 l1 (.lst [.ref t]) = G3 at k2 r2 k12
      refine ⟨(by show 0 ≤ sizeLine; decide), fun l2 nl2 => ?_⟩
      have k3 := Same.new (o := .lst []) nl2
      have r3 : LR K (upd G3 l2 (.lst [])) (.ref l2) [] := ⟨l2, _, rfl, upd_same, Al.nil⟩
      have r2 := r2.same k3
      have k13 := k12.trans k3
      generalize upd G3 l2 (.lst []) = G4 at k3 r3 r2 k13
      refine ⟨(by show 4 ≤ sizeLine; decide), fun l3 nl3 => ?_⟩
      have k4 := Same.new (o := .lst [v5, v5, .ref l1, .ref l2]) nl3
      have k14 := k13.trans k4
      have pn4 := pn1.same k14
      refine ⟨p, c, l3, _, _, rfl, pn4, by omega, upd_same, (by show 0 < 4; decide), (by show 4 < 1000000; decide), fun j u G7 hj pn7 b7 => ?_⟩
      have b17 : But p G1 G7 := (But.ofSame k14).trans b7
      obtain ⟨oq, lru, rsu, llu⟩ : ∃ oq, LR K G7 u oq ∧ (∀ i, Rsm 3 (cf oq i)) ∧ oq.length ≤ 5 := by
        have mem := mem_of_at hj
        simp only [List.mem_cons, List.not_mem_nil, or_false] at mem
        rcases mem with rfl | rfl | rfl | rfl
        · exact ⟨os, pn1.lr b17 lr5, rs5, ll5⟩
        · exact ⟨os, pn1.lr b17 lr5, rs5, ll5⟩
        · exact ⟨[1], pn4.lr b7 (r2.same k4), fun i => one_rsm, by decide⟩
        · exact ⟨[], pn4.lr b7 (r3.same k4), fun i => nil_rsm, by decide⟩
      have cdp : CD 22 20 ps := (rsm_cdn rs1 ll1).cd (by decide) (by decide)
      have cdo : CD 35 34 oq := (rsm_cdn rsu llu).cd (by decide) (by decide)
      refine ⟨_, u, ps, oq, 22, 20, 35, 34, rfl, pn1.lr b17 lrp1, lru, cdp, cdo, by decide, by decide, by decide, by decide, by decide, by decide, by omega, by omega, fun w G8 ts s8 lr8 tr8 ll8 e8 fr8 => ?_⟩
      have eo8 := s8 _ _ (pn1.lst b17 eo1)
      obtain ⟨l8, w8, rfl, hl8, al8⟩ := id lr8
      have nol8 : l8 ≠ o := fun z => by
        have := fr8 l8 rfl
        rw [z, pn1.lst b17 eo1] at this
        cases this
      refine ⟨o, us, _, rfl, rfl, eo8, (by rw [lus, sizeLine_eq]; omega), ?_⟩
      have b9 : But o G8 (upd G8 o (.lst (us ++ [.ref l8]))) := But.refl.set
      have e9 : upd G8 o (.lst (us ++ [.ref l8])) o = some (.lst (us ++ [.ref l8])) := upd_same
      have pn9 := ((pn7.same s8).set (o := .lst (us ++ [.ref l8])) op oc)
      generalize upd G8 o (.lst (us ++ [.ref l8])) = G9 at b9 e9 pn9
      have bear : ∀ {v : V} {qs : List Rat}, LR K G8 v qs → v ≠ .ref o → LR K G9 v qs := fun {v qs} h ne => by
        obtain ⟨l, vs, rfl, hl, al⟩ := h
        exact ⟨l, vs, rfl, b9 _ _ hl (fun z => ne (by rw [z])), al.bear eo8 b9⟩
      have b08 : But p H G8 := ((bG.trans b1).trans b17).trans (.ofSame s8)
      refine ⟨us ++ [.ref l8], _, _, rfl, pn9.more (by omega), fun b ob eb nb => b9 _ _ (b08 _ _ eb nb) (ne_of_none eb noO), bear ((pn1.lr b17 lrp1).same s8) (fun z => olp (V.ref.inj z).symm), e9, by rw [List.length_append, lus]; rfl, fun j v ev => ?_⟩
      rcases Nat.lt_or_ge j us.length with lt | ge
      · rw [List.getElem?_append_left lt] at ev
        obtain ⟨nv, qs, row⟩ := rows j v ev
        have row := (row.but b1 pn).but b17 pn1
        exact ⟨nv, qs, bear (row.lr.same s8) nv, row.tr, row.cd, row.dv, row.ln⟩
      · have jl := (List.getElem?_eq_some_iff.mp ev).1
        rw [List.length_append] at jl
        have ej : j = us.length := by
          have : [V.ref l8].length = 1 := rfl
          omega
        subst ej
        rw [List.getElem?_append_right (Nat.le_refl _), Nat.sub_self] at ev
        cases ev
        exact ⟨fun z => nol8 (V.ref.inj z), ts, bear lr8 (fun z => nol8 (V.ref.inj z)), tr8, planted_cd rs1 ll1 rsu llu e8, planted_dv e8, by omega⟩
    · rintro σ G ⟨us, v3, v4, rfl, pn, bG, lrp, eo, lus, rows⟩
      have lus2 : us.length = 2 := lus
      obtain ⟨r1, r2, rfl⟩ : ∃ r1 r2, us = [r1, r2] := by
        match us, lus2 with
        | [a, b], _ => exact ⟨a, b, rfl⟩
      obtain ⟨_, as, ra⟩ := rows 0 r1 rfl
      obtain ⟨_, bs, rb⟩ := rows 1 r2 rfl
      have la100 : as.length ≤ 7 := by have := ra.ln; omega
      have lb100 : bs.length ≤ 7 := by have := rb.ln; omega
      refine ⟨_, rfl, _, rfl, o, _, _, _, rfl, rfl, SqL.of eo, atI_nat (j := 0) rfl, p, c, _, r1, as, 58, 58, rfl, pn, by omega, ra.lr, ra.tr, ra.cd.szA, by decide, by decide, by decide, by decide, by omega, fun ua Ga pna ba pa => ?_⟩
      refine ⟨_, rfl, _, rfl, o, _, _, _, rfl, rfl, SqL.of (pn.lst ba eo), atI_nat (j := 1) rfl, p, c, _, r2, bs, 58, 58, rfl, pna, by omega, pn.lr ba rb.lr, rb.tr, rb.cd.szA, by decide, by decide, by decide, by decide, by omega, fun ub Gb pnb bb pb => ?_⟩
      refine ⟨(by show 2 ≤ sizeLine; decide), fun tt ntt => ?_⟩
      have st := Same.new (o := .tup [ua, ub]) ntt
      have ett : SqT K (upd Gb tt (.tup [ua, ub])) tt [ua, ub] := SqT.of upd_same
      have pa := (pna.poly bb pa).same st
      have pb := pb.same st
      have eo := st _ _ (pna.lst bb (pn.lst ba eo))
      have lra := (pna.lr bb (pn.lr ba ra.lr)).same st
      have lrb := (pna.lr bb (pn.lr ba rb.lr)).same st
      have pn := (pnb.same st).more (show _ ≤ n + 2000 by have : (2 : Int).toNat = 2 := rfl; omega)
      have bG := ((bG.trans ba).trans bb).trans (.ofSame st)
      refine ⟨tt, _, rfl, ett, rfl, _, _, rfl, _, _, rfl, rfl, ?_⟩
      generalize upd Gb tt (.tup [ua, ub]) = G at pa pb eo lra lrb pn bG
      -- common
      obtain ⟨k1, k2, f, F, nk1, nk2, run, runq, pp, tF, bf, cF⟩ := gcds tr1 ra.tr rb.tr ra.cd rb.cd ra.dv rb.dv ra.ln rb.ln ll1
      refine ⟨_, rfl, _, rfl, ua, ub, as, bs, 58, 58, 58, 58, k1, k2, f, rfl, pa, pb, ra.cd.szA, rb.cd.szA, by decide, by decide, by decide, by decide, by omega, by omega, by omega, by omega, (tops_bd ra.cd).up (by decide), (tops_bd rb.cd).up (by decide), nk1, nk2, run, bf.up (by decide), pp.last tF, fun cv G1 ts s1 pc ec => ?_⟩
      obtain ⟨cb, cdx, ct, cw, rfl, hcb, hct, alc, trc⟩ := id pc
      refine ⟨cb, T.cP, cdx, _, _, rfl, hcb, T.clP, T.nP, lkN, ?_⟩
      refine ⟨_, rfl, o, _, _, _, rfl, rfl, SqL.of (s1 _ _ eo), atI_nat (j := 0) rfl, _, rfl, o, _, _, _, rfl, rfl, SqL.of (s1 _ _ eo), atI_nat (j := 1) rfl, r1, r2, as, bs, F, 4000, 58, rfl, lra.same s1, lrb.same s1, by omega, by omega, runq, tF, cF.szA, by decide, by decide, by decide, by decide, fun dv G2 ts' s2 lrd trd ed => ?_⟩
      obtain ⟨ld, wd, rfl, hld, ald⟩ := id lrd
      refine ⟨ld, wd, rfl, .inl ⟨SqL.of hld, fun q nq => ?_⟩⟩
      have s3 := Same.new (o := .tup wd) nq
      have ets : ts = ts' := tr_ext trc trd fun i => by rw [ec, ed, pp.monic]
      refine ⟨.tuple (ts.map pdQ), .tuple (ts'.map pdQ), .tup (Kz.Same.seqT (s2.trans s3) hct) (alc.same (s2.trans s3)).dp, .tup (SqT.of upd_same) (ald.same s3).dp, shaped_row ts, shaped_row ts', _, rfl, ?_⟩
      rw [show PyData.eqv (.tuple (ts.map pdQ)) (.tuple (ts'.map pdQ)) = decide (ts = ts') from eqv_row ts ts', decide_eq_true ets]
      refine iteF ?_
      have s13 := (s1.trans s2).trans s3
      have pa := pa.same s13
      have pb := pb.same s13
      have eo := s13 _ _ eo
      have lra := lra.same s13
      have lrb := lrb.same s13
      have pn := pn.same s13
      have bG := bG.trans (.ofSame s13)
      generalize upd G2 q (.tup wd) = G3 at pa pb eo lra lrb pn bG
      -- no divisor
      refine ⟨_, rfl, o, _, _, _, rfl, rfl, SqL.of eo, atI_nat (j := 1) rfl, (by show 0 ≤ sizeLine; decide), fun z nz => ?_⟩
      have s4 := Same.new (o := .lst []) nz
      have ez : upd G3 z (.lst []) z = some (.lst []) := upd_same
      have pa := pa.same s4
      have pb := pb.same s4
      have eo := s4 _ _ eo
      have lra := lra.same s4
      have lrb := lrb.same s4
      have pn := pn.same s4
      have bG := bG.trans (.ofSame s4)
      generalize upd G3 z (.lst []) = G4 at pa pb eo lra lrb pn bG ez
      obtain ⟨lb, wb, rfl, hlb, alb⟩ := id lrb
      refine ⟨pdR bs, pdR [], .lst (SqL.of hlb) alb.dp, .lst (SqL.of ez) .nil, pdR_shaped bs, pdR_shaped [], _, rfl, ?_⟩
      rw [pdR_nil]
      by_cases b0 : bs = []
      · rw [decide_eq_true b0]
        refine iteT ⟨pen0.tabs bG tabs, fun G5 x5 tb5 => ?_⟩
        have pa5 := PolyAt.ext pn (fun b ob e _ nt => x5 b ob e nt) pa
        have pb5 := PolyAt.ext pn (fun b ob e _ nt => x5 b ob e nt) pb
        refine ⟨_, rfl, _, rfl, ua, ub, as, bs, rfl, pa5, pb5, .inl ⟨b0, er_num (.int 0) (small_int (by decide)).shows fun t G6 s6 e6 => ?_⟩⟩
        refine ⟨(by show 3 ≤ sizeLine; decide), fun t2 nt2 => ?_⟩
        have s7 := Same.new (o := .tup [.str "number", .str "divisor", .str "0"]) nt2
        refine ⟨t, t2, ["number", "divisor", "0"], rfl, rfl, SqT.of (s7 _ _ e6), SqT.of upd_same, ?_⟩
        have s67 := s6.trans s7
        refine k _ (((pn.extN x5).same s67).more (by omega)) (bG.toN.trans fun b ob e _ nt => s67 _ _ (x5 b ob e nt)) (tb5.ext s67)
      · rw [decide_eq_false b0]
        refine iteF ?_
        have bl : 0 < bs.length := List.length_pos_iff.mpr b0
        have lc : cf bs (bs.length - 1) ≠ 0 := rb.tr (bs.length - 1) (by omega)
        have w7 : as.length * 59 ≤ 7 * 59 := Nat.mul_le_mul_right _ la100
        have w8 : as.length * 58 ≤ 7 * 58 := Nat.mul_le_mul_right _ la100
        have w9 : (as.length + 1 - bs.length) * 58 ≤ 7 * 58 := Nat.mul_le_mul_right _ (by omega)
        have w10 : (as.length + 1 - bs.length) * 59 ≤ 7 * 59 := Nat.mul_le_mul_right _ (by omega)
        refine ⟨_, rfl, _, rfl, ua, ub, as, bs, rfl, pa, pb, .inr ⟨58, 58, 58, 58, bl, ra.cd, rb.cd, by decide, by decide, by omega, by omega, by decide, by decide, by omega, by omega, fun t u v G5 ts us s5 ht pu pv ets eus => ?_⟩⟩
        refine ⟨_, rfl, o, _, _, _, rfl, rfl, SqL.of (s5 _ _ eo), atI_nat (j := 0) rfl, _, rfl, o, _, _, _, rfl, rfl, SqL.of (s5 _ _ eo), atI_nat (j := 1) rfl, _, _, as, bs, 58, 58, 58, 58, rfl, lra.same s5, lrb.same s5, bl, lc, ra.cd, rb.cd, by decide, by decide, by omega, by omega, by decide, by decide, by omega, by omega, fun t' a' b' G6 ts' us' s6 ht' la' lb' tra' trb' ll' ea' eb' => ?_⟩
        refine ⟨t', rfl, ⟨_, ht'⟩, fun D hD => ?_⟩
        have e1 : ts = ts' := tr_ext pu.tr tra' fun i => by rw [ets, ea']
        have e2 : us = us' := tr_ext pv.tr trb' fun i => by rw [eus, eb']
        subst e1 e2
        refine lc_mapT ht' (by show 2 ≤ 1000; decide) hD (TAs K [ts, us]) TAs.bears ⟨rfl, fun j v e => by simp at e⟩ ?_ ?_
        · intro i x hx acc G7 Qk Z la7 r7 s7 kk
          refine ⟨rfl, ?_⟩
          dsimp only [tYes]
          have lx : LR K G7 x ([ts, us].getD i []) := by
            match i, hx with
            | 0, hx => cases hx; exact la'.same s7
            | 1, hx => cases hx; exact lb'.same s7
            | i + 2, hx => cases hx
          obtain ⟨lx1, wx, rfl, hlx, alx⟩ := lx
          refine iteT ⟨_, rfl, lx1, wx, rfl, .inl ⟨SqL.of hlx, fun q nq => ?_⟩⟩
          have s8 := Same.new (o := .tup wx) nq
          exact kk _ _ s8 ((r7.same s8).snoc ⟨q, wx, rfl, SqT.of upd_same, alx.same s8⟩)
        · intro acc G7 hacc lacc r7 s7
          have r7 : TAs K [ts, us] 2 acc G7 := r7
          have s57 := (s5.trans s6).trans s7
          have ht := Kz.Same.seqT (s6.trans s7) ht
          have pu := pu.same (s6.trans s7)
          have pv := pv.same (s6.trans s7)
          have pa := pa.same s57
          have pb := pb.same s57
          have pn := pn.same s57
          have bG := bG.trans (.ofSame s57)
          refine ⟨_, _, rfl, ?_⟩
          -- the same rows
          refine ⟨_, rfl, _, _, _, _, _, rfl, .ty _, (ty_tup ht).1, kit_ty (kb_tuple "tuple" (ty_tup ht).2), _, rfl, ?_⟩
          rw [show (("tuple" : String) == "tuple") = true from rfl]
          refine iteF ⟨_, rfl, t, rfl, ⟨_, ht⟩, fun D2 hD2 => ?_⟩
          refine lc_mapT ht (by show 2 ≤ 1000; decide) hD2 (TAs K [ts, us]) TAs.bears ⟨rfl, fun j v e => by simp at e⟩ ?_ ?_
          · intro i x hx acc2 G8 Qk Z la8 r8 s8 kk
            refine ⟨rfl, ?_⟩
            dsimp only [tYes]
            have px : PolyAt K T.cP G8 x ([ts, us].getD i []) := by
              match i, hx with
              | 0, hx => cases hx; exact pu.same s8
              | 1, hx => cases hx; exact pv.same s8
              | i + 2, hx => cases hx
            obtain ⟨xa, xdx, xt, xw, rfl, hxa, hxt, alx, _⟩ := px
            exact iteT ⟨_, rfl, xa, T.cP, xdx, _, _, rfl, hxa, T.clP, T.nP, lkN, kk _ _ (Same.refl _) (r8.snoc ⟨xt, xw, rfl, hxt, alx⟩)⟩
          · intro acc2 G8 hacc2 lacc2 r8 s8
            have r8 : TAs K [ts, us] 2 acc2 G8 := r8
            refine ⟨_, rfl, .list [.tuple (ts.map pdQ), .tuple (us.map pdQ)], .list [.tuple (ts.map pdQ), .tuple (us.map pdQ)], .lst (SqL.of hacc2) r8.two, .lst (SqL.of (s8 _ _ hacc)) (r7.same s8).two, two_shaped ts us, two_shaped ts us, _, rfl, ?_⟩
            rw [two_eqv]
            refine iteF ?_
            have ht := Kz.Same.seqT s8 ht
            have pu := pu.same s8
            have pv := pv.same s8
            have pa := pa.same s8
            have pb := pb.same s8
            have pn := pn.same s8
            have bG := bG.trans (.ofSame s8)
            -- quotient * divisor + rest
            have lts : ts.length ≤ as.length + 1 - bs.length := by
              have := tr_le pu.tr ets
              rw [List.length_reverse, dqs_len] at this
              exact this
            have sq : SzA 530 530 ts := fun i l => by
              rw [ets i]
              have li : i < (dqs bs (as.length + 1 - bs.length) as).reverse.length := by rw [List.length_reverse, dqs_len]; omega
              have m : cf (dqs bs (as.length + 1 - bs.length) as).reverse i ∈ dqs bs (as.length + 1 - bs.length) as := List.mem_reverse.mp (mem_cf li)
              exact (dqs_sz' rb.cd lc _ ra.cd _ m).up (by omega) (by omega)
            have cr : CD 480 480 us := ((dit_cd rb.cd lc (as.length + 1 - bs.length) ra.cd).of eus).up (by omega) (by omega)
            have lus' : us.length ≤ as.length := by
              have := tr_le pv.tr eus
              rw [dit_len] at this
              omega
            obtain ⟨ub', udx, _, _, rfl, hub, _⟩ := id pu
            obtain ⟨bb', bdx, _, _, rfl, hbb, _⟩ := id pb
            have m530 : 530 * ts.length ≤ 530 * 8 := Nat.mul_le_mul_left _ (by omega)
            have m58 : 58 * bs.length ≤ 58 * 8 := Nat.mul_le_mul_left _ (by omega)
            refine ⟨_, rfl, t, _, _, _, rfl, rfl, ht, atI_nat (j := 0) rfl, _, rfl, ⟨ub', bb', udx, bdx, _, _, rfl, rfl, hub, hbb⟩, .ref ub', .ref bb', ts, cf bs, 530, 530, 58, 58, bs.length, rfl, pu, .inl ⟨bs, pb, rb.cd.szA, Nat.le_refl _, fun _ => rfl⟩, sq, by decide, by decide, by decide, by decide, by omega, by omega, by decide, by decide, ⟨by omega, by decide, by decide⟩, fun pr G9 prs s9 ppr epr lpr => ?_⟩
            have whole : ∀ i, cf prs i + cf us i = cf as i := fun i => by
              rw [epr i]
              exact div_whole bl lc ets eus i
            have lpr : prs.length ≤ ts.length + bs.length := lpr
            have sp : SzA 1077 538 prs := fun i _ => by
              have e : cf prs i = cf as i + -cf us i := by
                have := whole i
                grind
              rw [e]
              exact (add_sz (ra.cd.sz i) (sz_neg (cr.sz i))).up (by decide) (by decide)
            obtain ⟨pr', pdx, _, _, rfl, hpr, _⟩ := id ppr
            have pv9 := pv.same s9
            obtain ⟨vv, vdx, _, _, rfl, hvv, _⟩ := id pv9
            refine ⟨_, rfl, t, _, _, _, rfl, rfl, Kz.Same.seqT s9 ht, atI_nat (j := 1) rfl, ⟨pr', vv, pdx, vdx, _, _, rfl, rfl, hpr, hvv⟩, .ref pr', .ref vv, prs, cf us, 1077, 538, 480, 480, us.length, rfl, ppr, .inl ⟨us, pv9, cr.szA, Nat.le_refl _, fun _ => rfl⟩, sp, by decide, by decide, by decide, by decide, by omega, by omega, by decide, by decide, (by show 538 + 480 ≤ 9000; decide), fun sm G10 sms s10 psm esm lsm => ?_⟩
            have s910 := s9.trans s10
            refine ⟨_, rfl, sms, psm, .inl ⟨as, pa.same s910, ?_⟩⟩
            have es : sms = as := tr_ext psm.tr ra.tr fun i => by rw [esm i, whole i]
            rw [decide_eq_true es]
            exact k G10 ((pn.same s910).more (by omega)) (bG.trans (.ofSame s910)).toN (pen0.tabs (bG.trans (.ofSame s910)) tabs)
end
end Kz
set_option linter.all false
set_option maxRecDepth 100000
set_option maxHeartbeats 8000000
namespace Kz
open PySem PySem.Spec PyProof.Rows L2
/-! ### what is known to be new -/
/-- the heap without p, without tables, and without what stood in Z -/
def cz (p : Addr) (Z H : Hp) : Hp := fun b => match Z b with
  | none => cl p H b
  | some _ => none
theorem cz_sub {p : Addr} {Z H : Hp} : Same (cz p Z H) (cl p H) := fun b o e => by
  unfold cz at e
  cases z : Z b with
  | none =>
    rw [z] at e
    exact e
  | some u =>
    rw [z] at e
    cases e
theorem cz_some {p : Addr} {Z H : Hp} {b : Addr} {o : HO} (e : cz p Z H b = some o) : Z b = none := by
  unfold cz at e
  cases z : Z b with
  | none => rfl
  | some u =>
    rw [z] at e
    cases e
theorem cz_of {p : Addr} {Z H : Hp} {b : Addr} {o : HO} (z : Z b = none) (e : cl p H b = some o) : cz p Z H b = some o := by
  unfold cz
  rw [z]
  exact e
theorem cz_at {p : Addr} {Z H : Hp} {b : Addr} {o : HO} (z : Z b = none) (n : b ≠ p) (e : H b = some o) (t : ∀ ps, o ≠ .tbl ps) : cz p Z H b = some o := cz_of z (cl_at n e t)
theorem But.cz {p : Addr} {Z H H' : Hp} (b : But p H H') : Same (Kz.cz p Z H) (Kz.cz p Z H') := fun _ _ e => cz_of (cz_some e) (b.cl _ _ (cz_sub _ _ e))
structure OddZ (K : PySem.W.Frag) (p : Addr) (Z H : Hp) (v : V) : Prop where
  o : Odd K (cz p Z H) v
  g : Good K (cz p Z H) v
theorem OddZ.but {K : PySem.W.Frag} {p : Addr} {Z H H' : Hp} {v : V} (h : OddZ K p Z H v) (b : But p H H') : OddZ K p Z H' v := ⟨h.o.same b.cz, h.g.same b.cz⟩
def StockZ (K : PySem.W.Frag) (p : Addr) (Z H : Hp) (vs : List V) : Prop := ∀ v ∈ vs, OddZ K p Z H v
theorem StockZ.but {K : PySem.W.Frag} {p : Addr} {Z H H' : Hp} {vs : List V} (h : StockZ K p Z H vs) (b : But p H H') : StockZ K p Z H' vs := fun v m => (h v m).but b
theorem StockZ.add {K : PySem.W.Frag} {p : Addr} {Z H : Hp} {vs : List V} {v : V} (h : StockZ K p Z H vs) (o : OddZ K p Z H v) : StockZ K p Z H (v :: vs) := fun u m => by
  rcases List.mem_cons.mp m with e | m
  · exact e ▸ o
  · exact h u m
theorem StockZ.new {K : PySem.W.Frag} {p q : Addr} {Z H : Hp} {vs : List V} {o : HO} (h : StockZ K p Z H vs) (n : H q = none) (ob : ∀ H', cz p Z H' q = some o → Same (cz p Z H) (cz p Z H') → OddZ K p Z H' (.ref q)) (np : q ≠ p) (z : Z q = none) (nt : ∀ ps, o ≠ .tbl ps := by intro _ z; cases z) : StockZ K p Z (upd H q o) (.ref q :: vs) := by
  have b : But p H (upd H q o) := But.refl.new n
  exact (h.but b).add (ob _ (cz_at z np upd_same nt) b.cz)
section
variable {K : PySem.W.Frag} {p : Addr} {Z H : Hp}
theorem oddz_non : OddZ K p Z H .non := ⟨⟨_, ty_non, by decide, .no ty_non (by decide) (by decide)⟩, ⟨.none, .non, ⟨by decide +kernel, by decide +kernel, by decide +kernel, by decide +kernel⟩⟩⟩
theorem oddz_bl {b : Bool} : OddZ K p Z H (.bl b) := ⟨⟨_, ty_bl, by decide, .no ty_bl (by decide) (by decide)⟩, ⟨.bool b, .bl b, by cases b <;> exact ⟨by decide +kernel, by decide +kernel, by decide +kernel, by decide +kernel⟩⟩⟩
theorem oddz_str {x : String} (l : (Str.ofString x).length ≤ 2000) : OddZ K p Z H (.str (Str.ofString x)) := ⟨⟨_, ty_str, by decide, .no ty_str (by decide) (by decide)⟩, ⟨_, .str _, small_text (signs_small x) l⟩⟩
end
/-- an integer, or two integers in a row, small -/
inductive Leaf (H : Hp) : V → Prop
  | int {i : Int} : i.natAbs.log2 < 1920 → Leaf H (.int i)
  | tup {a : Addr} {x y : Int} : H a = some (.tup [.int x, .int y]) → x.natAbs.log2 < 1920 → y.natAbs.log2 < 1920 → Leaf H (.ref a)
  | lst {a : Addr} {x y : Int} : H a = some (.lst [.int x, .int y]) → a ≠ sysModules → x.natAbs.log2 < 1920 → y.natAbs.log2 < 1920 → Leaf H (.ref a)
theorem Leaf.but {H H' : Hp} {D : Addr} {v : V} (h : Leaf H v) (n : v ≠ .ref D) (b : But D H H') : Leaf H' v := by
  cases h with
  | int l => exact .int l
  | @tup a _ _ e l m => exact .tup (b _ _ e (fun z => n (by rw [z]))) l m
  | @lst a _ _ e s l m => exact .lst (b _ _ e (fun z => n (by rw [z]))) s l m
theorem Leaf.same {H H' : Hp} {v : V} (h : Leaf H v) (s : Same H H') : Leaf H' v := by
  cases h with
  | int l => exact .int l
  | tup e l m => exact .tup (s _ _ e) l m
  | lst e n l m => exact .lst (s _ _ e) n l m
theorem Leaf.pen {H H' : Hp} {p c : Addr} {n : Nat} {v : V} (h : Leaf H v) (pen : Pen H p c n) (b : But p H H') : Leaf H' v := by
  obtain ⟨ns, i, d, m, f, e1, _⟩ := pen
  cases h with
  | int l => exact .int l
  | tup e l m => exact .tup (b _ _ e (ne_of e e1 (fun z => nomatch z))) l m
  | lst e n l m => exact .lst (b _ _ e (ne_of e e1 (fun z => nomatch z))) n l m
theorem Leaf.good {K : PySem.W.Frag} {H : Hp} {v : V} (h : Leaf H v) : Good K H v := by
  cases h with
  | int l => exact ⟨_, .int _, small_int l⟩
  | tup e l m => exact ⟨_, .tup (SqT.of e) (.cons (.int _) (.cons (.int _) .nil)), small_two (.inr rfl) l m⟩
  | lst e n l m => exact ⟨_, .lst e n (.cons (.int _) (.cons (.int _) .nil)), small_two (.inl rfl) l m⟩
section
variable {P : Program} {w : World} {K : PySem.W.Frag} {mg : Str → Option Value} {base : Heap}
def spAnyZ (K : PySem.W.Frag) : Sp := fun vs H Q _ => ∃ (p c : Addr) (n : Nat), vs = [.ref p] ∧ Pen H p c n ∧ n ≤ 900000 ∧ ∀ u H', Pen H' p c (n + 1) → But p H H' → OddZ K p H H' u → Q u H'
theorem ok_lanyZ (T : Tu P K mg) : FnOk P w K mg base CX0 3 T.l_any.f T.l_any.fd ["_law_pen_here"] (spAnyZ K) := by
  have G2 : FnOk P w K mg base CX0 2 T.l_pick.f T.l_pick.fd ["_law_pen_here", "_law_some"] spPick := ok_lpick T
  refine T.l_any.fn.ok sc64 (fun vs H Q E h => ?_) (fun cdv A outer s H vs Q E hr h => ?_)
  · obtain ⟨p, c, n, rfl, _⟩ := h
    rfl
  · obtain ⟨p, c, n, rfl, pen, hn, k⟩ := h
    refine ⟨_, pss_cons (ps_set (i := 1) sc64.nd rfl (.inl rfl) (pe_lst (pa_cons pe_non (pa_cons pe_bl (pa_cons pe_str
        (pa_cons (pe_tup (pa_cons pe_int (pa_cons pe_int pa_nil))) (pa_cons (pe_tup (pa_cons pe_int (pa_cons (pe_un un_neg pe_int) pa_nil))) (pa_cons (pe_tup (pa_cons pe_int (pa_cons pe_bl pa_nil)))
        (pa_cons (pe_lstN (pa_cons pe_int pa_nil)) (pa_cons (pe_tup (pa_cons pe_int (pa_cons pe_int (pa_cons pe_int pa_nil))))
        (pa_cons (pe_disp (pps_cons pe_str pe_int pps_nil) (by rfl) (by rfl) (fun z => by cases z) (by decide))
        (pa_cons (pe_tup (pa_cons pe_str (pa_cons pe_int pa_nil))) (pa_cons (pe_tup (pa_cons pe_non (pa_cons pe_int pa_nil))) (pa_cons (pe_tup (pa_cons pe_bl (pa_cons pe_int pa_nil))) pa_nil))))))))))))))
      (pss_one (ps_ret (T.l_pick.c0 G2 hr (pa_cons (pv 0) (pa_cons (pe_op op_cat (pv 1) (pe_lst (pa_cons (pe_lstN (pa_cons pe_int (pa_cons pe_bl pa_nil)))
        (pa_cons (pe_tup (pa_cons (pe_tup (pa_cons pe_int (pa_cons pe_int pa_nil))) (pa_cons pe_int pa_nil))) (pa_cons (pe_tup pa_nil) pa_nil))))) pa_nil))))), ?_⟩
    have S0 : StockZ K p H H [.str (Str.ofString "1"), .bl true, .non] := ((StockZ.add (fun v m => by cases m) oddz_non).add oddz_bl).add (oddz_str (by decide))
    have b0 : But p H H := But.refl
    refine ⟨(by show 2 ≤ sizeLine; decide), fun q1 n1 => ?_⟩
    have S1 := S0.new n1 (o := .tup [.int 1, .int 0]) (fun H' e s => ⟨⟨_, ty_tup (SqT.of e), by decide, by have z := Pr.two (K := K) (x := 1) (y := 0) (.inr (SqT.of e)); exact z⟩, ⟨ti 1 0, .tup (SqT.of e) (.cons (.int _) (.cons (.int _) .nil)), ⟨by decide +kernel, by decide +kernel, by decide +kernel, by decide +kernel⟩⟩⟩) (pen.newP n1) (b0.gone pen n1)
    have p1 := pen.new (o := .tup [.int 1, .int 0]) n1
    have b1 := b0.new (o := .tup [.int 1, .int 0]) n1
    generalize upd H q1 (.tup [.int 1, .int 0]) = H1 at S1 p1 b1
    refine ⟨_, rfl, (by show 2 ≤ sizeLine; decide), fun q2 n2 => ?_⟩
    have S2 := S1.new n2 (o := .tup [.int 1, .int (-2)]) (fun H' e s => ⟨⟨_, ty_tup (SqT.of e), by decide, by have z := Pr.two (K := K) (x := 1) (y := (-2)) (.inr (SqT.of e)); exact z⟩, ⟨ti 1 (-2), .tup (SqT.of e) (.cons (.int _) (.cons (.int _) .nil)), ⟨by decide +kernel, by decide +kernel, by decide +kernel, by decide +kernel⟩⟩⟩) (p1.newP n2) (b1.gone p1 n2)
    have p2 := p1.new (o := .tup [.int 1, .int (-2)]) n2
    have b2 := b1.new (o := .tup [.int 1, .int (-2)]) n2
    generalize upd H1 q2 (.tup [.int 1, .int (-2)]) = H2 at S2 p2 b2
    refine ⟨(by show 2 ≤ sizeLine; decide), fun q3 n3 => ?_⟩
    have S3 := S2.new n3 (o := .tup [.int 1, .bl true]) (fun H' e s => ⟨⟨_, ty_tup (SqT.of e), by decide, .snd (.inr (SqT.of e)) ty_bl (by decide)⟩, ⟨.tuple [.int 1, .bool true], .tup (SqT.of e) (.cons (.int _) (.cons (.bl _) .nil)), ⟨by decide +kernel, by decide +kernel, by decide +kernel, by decide +kernel⟩⟩⟩) (p2.newP n3) (b2.gone p2 n3)
    have p3 := p2.new (o := .tup [.int 1, .bl true]) n3
    have b3 := b2.new (o := .tup [.int 1, .bl true]) n3
    generalize upd H2 q3 (.tup [.int 1, .bl true]) = H3 at S3 p3 b3
    refine ⟨(by show 1 ≤ sizeLine; decide), fun q4 n4 m4 => ?_⟩
    have S4 := S3.new n4 (o := .lst [.int 1]) (fun H' e s => ⟨⟨_, ty_lst (SqL.of e), by decide, .len (.inl (SqL.of e)) (by decide)⟩, ⟨.list [.int 1], .lst e m4 (.cons (.int _) .nil), ⟨by decide +kernel, by decide +kernel, by decide +kernel, by decide +kernel⟩⟩⟩) (p3.newP n4) (b3.gone p3 n4)
    have p4 := p3.new (o := .lst [.int 1]) n4
    have b4 := b3.new (o := .lst [.int 1]) n4
    generalize upd H3 q4 (.lst [.int 1]) = H4 at S4 p4 b4
    refine ⟨(by show 3 ≤ sizeLine; decide), fun q5 n5 => ?_⟩
    have S5 := S4.new n5 (o := .tup [.int 1, .int 2, .int 3]) (fun H' e s => ⟨⟨_, ty_tup (SqT.of e), by decide, .len (.inr (SqT.of e)) (by decide)⟩, ⟨.tuple [.int 1, .int 2, .int 3], .tup (SqT.of e) (.cons (.int _) (.cons (.int _) (.cons (.int _) .nil))), ⟨by decide +kernel, by decide +kernel, by decide +kernel, by decide +kernel⟩⟩⟩) (p4.newP n5) (b4.gone p4 n5)
    have p5 := p4.new (o := .tup [.int 1, .int 2, .int 3]) n5
    have b5 := b4.new (o := .tup [.int 1, .int 2, .int 3]) n5
    generalize upd H4 q5 (.tup [.int 1, .int 2, .int 3]) = H5 at S5 p5 b5
    intro q6 n6
    have nm : ∀ H : Hp, H q6 = none → Same H (upd (upd H q6 (.dK [])) q6 (.dK (mergeK [] [(.inr "a", .int 1)]))) := fun H n b o e => by
      have ne := ne_of_none e n
      rw [upd_ne ne, upd_ne ne]
      exact e
    have q6p : q6 ≠ p := p5.newP n6
    have b6 := b5.trans (.ofSame (nm _ n6))
    have p6 := p5.same (nm _ n6)
    have S6 : StockZ K p H (upd (upd H5 q6 (.dK [])) q6 (.dK (mergeK [] [(.inr "a", .int 1)]))) (.ref q6 :: _) := (S5.but (.ofSame (nm _ n6))).add (by
      have e : cz p H (upd (upd H5 q6 (.dK [])) q6 (.dK (mergeK [] [(.inr "a", .int 1)]))) q6 = some (.dK [(.inr "a", .int 1)]) := cz_at (b5.gone p5 n6) q6p upd_same fun _ z => nomatch z
      exact ⟨⟨_, ty_dic e, by decide, .no (ty_dic e) (by decide) (by decide)⟩, ⟨.dict [(.str "a", .int 1)], .dic e (.cons (.int _) .nil), ⟨by decide +kernel, by decide +kernel, by decide +kernel, by decide +kernel⟩⟩⟩)
    refine ⟨upd_same, [(.inr "a", .int 1)], rfl, (by show 1 ≤ 15; decide), ?_⟩
    generalize upd (upd H5 q6 (.dK [])) q6 (.dK (mergeK [] [(.inr "a", .int 1)])) = H6 at S6 p6 b6
    refine ⟨(by show 2 ≤ sizeLine; decide), fun q7 n7 => ?_⟩
    have S7 := S6.new n7 (o := .tup [.str "1", .int 2]) (fun H' e s => ⟨⟨_, ty_tup (SqT.of e), by decide, .fst (.inr (SqT.of e)) ty_str (by decide)⟩, ⟨.tuple [.str "1", .int 2], .tup (SqT.of e) (.cons (.str _) (.cons (.int _) .nil)), ⟨by decide +kernel, by decide +kernel, by decide +kernel, by decide +kernel⟩⟩⟩) (p6.newP n7) (b6.gone p6 n7)
    have p7 := p6.new (o := .tup [.str "1", .int 2]) n7
    have b7 := b6.new (o := .tup [.str "1", .int 2]) n7
    generalize upd H6 q7 (.tup [.str "1", .int 2]) = H7 at S7 p7 b7
    refine ⟨(by show 2 ≤ sizeLine; decide), fun q8 n8 => ?_⟩
    have S8 := S7.new n8 (o := .tup [.non, .int 1]) (fun H' e s => ⟨⟨_, ty_tup (SqT.of e), by decide, .fst (.inr (SqT.of e)) ty_non (by decide)⟩, ⟨.tuple [.none, .int 1], .tup (SqT.of e) (.cons .non (.cons (.int _) .nil)), ⟨by decide +kernel, by decide +kernel, by decide +kernel, by decide +kernel⟩⟩⟩) (p7.newP n8) (b7.gone p7 n8)
    have p8 := p7.new (o := .tup [.non, .int 1]) n8
    have b8 := b7.new (o := .tup [.non, .int 1]) n8
    generalize upd H7 q8 (.tup [.non, .int 1]) = H8 at S8 p8 b8
    refine ⟨(by show 2 ≤ sizeLine; decide), fun q9 n9 => ?_⟩
    have S9 := S8.new n9 (o := .tup [.bl true, .int 2]) (fun H' e s => ⟨⟨_, ty_tup (SqT.of e), by decide, .fst (.inr (SqT.of e)) ty_bl (by decide)⟩, ⟨.tuple [.bool true, .int 2], .tup (SqT.of e) (.cons (.bl _) (.cons (.int _) .nil)), ⟨by decide +kernel, by decide +kernel, by decide +kernel, by decide +kernel⟩⟩⟩) (p8.newP n9) (b8.gone p8 n9)
    have p9 := p8.new (o := .tup [.bl true, .int 2]) n9
    have b9 := b8.new (o := .tup [.bl true, .int 2]) n9
    generalize upd H8 q9 (.tup [.bl true, .int 2]) = H9 at S9 p9 b9
    refine ⟨(by show 12 ≤ sizeLine; decide), fun l nl => ?_⟩
    have Sl := S9.but (.ofSame (Same.new (o := .lst [.non, .bl true, .str "1", .ref q1, .ref q2, .ref q3, .ref q4, .ref q5, .ref q6, .ref q7, .ref q8, .ref q9]) nl))
    have pl := p9.new (o := .lst [.non, .bl true, .str "1", .ref q1, .ref q2, .ref q3, .ref q4, .ref q5, .ref q6, .ref q7, .ref q8, .ref q9]) nl
    have bl := b9.new (o := .lst [.non, .bl true, .str "1", .ref q1, .ref q2, .ref q3, .ref q4, .ref q5, .ref q6, .ref q7, .ref q8, .ref q9]) nl
    have el : upd H9 l (.lst [.non, .bl true, .str "1", .ref q1, .ref q2, .ref q3, .ref q4, .ref q5, .ref q6, .ref q7, .ref q8, .ref q9]) l = some (.lst [.non, .bl true, .str "1", .ref q1, .ref q2, .ref q3, .ref q4, .ref q5, .ref q6, .ref q7, .ref q8, .ref q9]) := upd_same
    generalize upd H9 l (.lst [.non, .bl true, .str "1", .ref q1, .ref q2, .ref q3, .ref q4, .ref q5, .ref q6, .ref q7, .ref q8, .ref q9]) = HL at Sl pl bl el
    refine ⟨_, rfl, _, rfl, ?_⟩
    have SL := Sl
    have pL := pl
    have bL := bl
    have kL := el
    refine ⟨(by show 2 ≤ sizeLine; decide), fun q10 n10 m10 => ?_⟩
    have S10 := SL.new n10 (o := .lst [.int 2, .bl false]) (fun H' e s => ⟨⟨_, ty_lst (SqL.of e), by decide, .snd (.inl (SqL.of e)) ty_bl (by decide)⟩, ⟨.list [.int 2, .bool false], .lst e m10 (.cons (.int _) (.cons (.bl _) .nil)), ⟨by decide +kernel, by decide +kernel, by decide +kernel, by decide +kernel⟩⟩⟩) (pL.newP n10) (bL.gone pL n10)
    have p10 := pL.new (o := .lst [.int 2, .bl false]) n10
    have b10 := bL.new (o := .lst [.int 2, .bl false]) n10
    have k10 := Same.new (o := .lst [.int 2, .bl false]) n10 _ _ kL
    generalize upd HL q10 (.lst [.int 2, .bl false]) = H10 at S10 p10 b10 k10
    refine ⟨(by show 2 ≤ sizeLine; decide), fun q11 n11 => ?_⟩
    have S11 := S10.but (.ofSame (Same.new (o := .tup [.int 1, .int 2]) n11))
    have d11 : cz p H (upd H10 q11 (.tup [.int 1, .int 2])) q11 = some (.tup [.int 1, .int 2]) := cz_at (b10.gone p10 n11) (p10.newP n11) upd_same fun _ z => nomatch z
    have p11 := p10.new (o := .tup [.int 1, .int 2]) n11
    have b11 := b10.new (o := .tup [.int 1, .int 2]) n11
    have k11 := Same.new (o := .tup [.int 1, .int 2]) n11 _ _ k10
    generalize upd H10 q11 (.tup [.int 1, .int 2]) = H11 at S11 p11 b11 k11 d11
    refine ⟨(by show 2 ≤ sizeLine; decide), fun q12 n12 => ?_⟩
    have S12 := S11.new n12 (o := .tup [.ref q11, .int 3]) (fun H' e s => ⟨⟨_, ty_tup (SqT.of e), by decide, .fst (.inr (SqT.of e)) (ty_tup (SqT.of (s _ _ d11))) (by decide)⟩, ⟨.tuple [ti 1 2, .int 3], .tup (SqT.of e) (.cons (.tup (SqT.of (s _ _ d11)) (.cons (.int _) (.cons (.int _) .nil))) (.cons (.int _) .nil)), ⟨by decide +kernel, by decide +kernel, by decide +kernel, by decide +kernel⟩⟩⟩) (p11.newP n12) (b11.gone p11 n12)
    have p12 := p11.new (o := .tup [.ref q11, .int 3]) n12
    have b12 := b11.new (o := .tup [.ref q11, .int 3]) n12
    have k12 := Same.new (o := .tup [.ref q11, .int 3]) n12 _ _ k11
    generalize upd H11 q12 (.tup [.ref q11, .int 3]) = H12 at S12 p12 b12 k12
    refine ⟨(by show 0 ≤ sizeLine; decide), fun q13 n13 => ?_⟩
    have S13 := S12.new n13 (o := .tup []) (fun H' e s => ⟨⟨_, ty_tup (SqT.of e), by decide, .len (.inr (SqT.of e)) (by decide)⟩, ⟨.tuple [], .tup (SqT.of e) .nil, ⟨by decide +kernel, by decide +kernel, by decide +kernel, by decide +kernel⟩⟩⟩) (p12.newP n13) (b12.gone p12 n13)
    have p13 := p12.new (o := .tup []) n13
    have b13 := b12.new (o := .tup []) n13
    have k13 := Same.new (o := .tup []) n13 _ _ k12
    generalize upd H12 q13 (.tup []) = H13 at S13 p13 b13 k13
    refine ⟨(by show 3 ≤ sizeLine; decide), fun r nr => ?_⟩
    have sr := Same.new (o := .lst [.ref q10, .ref q12, .ref q13]) nr
    have pr := p13.same sr
    have br := b13.trans (.ofSame sr)
    have Sr := S13.but (.ofSame sr)
    have kr := sr _ _ k13
    have er : upd H13 r (.lst [.ref q10, .ref q12, .ref q13]) r = some (.lst [.ref q10, .ref q12, .ref q13]) := upd_same
    generalize upd H13 r (.lst [.ref q10, .ref q12, .ref q13]) = H14 at sr pr br Sr kr er
    refine ⟨l, r, _, _, rfl, rfl, kr, er, (by show 15 ≤ sizeLine; decide), fun z nz => ?_⟩
    have sz := Same.new (o := .lst ([.non, .bl true, .str "1", .ref q1, .ref q2, .ref q3, .ref q4, .ref q5, .ref q6, .ref q7, .ref q8, .ref q9] ++ [.ref q10, .ref q12, .ref q13])) nz
    refine ⟨p, c, z, n, _, rfl, pr.same sz, by omega, upd_same, (by show 0 < 15; decide), (by show 15 < 1000000; decide), fun j u H15 hj pz bz => ?_⟩
    have Sz := (Sr.but (.ofSame sz)).but bz
    refine k u H15 pz ((br.trans (.ofSame sz)).trans bz) ?_
    have mem := mem_of_at hj
    simp only [List.cons_append, List.nil_append, List.mem_cons, List.not_mem_nil, or_false] at mem
    rcases mem with rfl | rfl | rfl | rfl | rfl | rfl | rfl | rfl | rfl | rfl | rfl | rfl | rfl | rfl | rfl <;> exact Sz _ (by simp)

def spPassedL (K : PySem.W.Frag) : Sp := fun vs H Q _ => ∃ (p c : Addr) (n : Nat) (v : V) (q : Rat) (i j : Nat), vs = [.ref p, v] ∧ Pen H p c n ∧ n ≤ 900000 ∧ RV K H v q ∧ Sz i j q ∧ 0 < i ∧ 0 < j ∧ i ≤ 1800 ∧ j ≤ 1800 ∧
  ∀ u H', Pen H' p c (n + 3) → But p H H' → ArgQ K H' u (i + 2) (j + 2) q → Leaf H' u → (∀ a, u = .ref a → H a = none) → Q u H'
theorem ok_lpassedL (T : Tu P K mg) : FnOk P w K mg base CX0 3 T.l_passed.f T.l_passed.fd ["_law_pen_here", "_law_ratio_here"] (spPassedL K) := by
  have G1 : FnOk P w K mg base CX0 1 T.l_draw.f T.l_draw.fd ["_law_pen_here", "_law_many"] spDraw := ok_ldraw T
  have G2 : FnOk P w K mg base CX0 2 T.l_pick.f T.l_pick.fd ["_law_pen_here", "_law_some"] spPick := ok_lpick T
  refine T.l_passed.fn.ok sc46 (fun vs H Q E h => ?_) (fun cdv A outer s H vs Q E hr h => ?_)
  · obtain ⟨p, c, n, v, q, i, j, rfl, _⟩ := h
    rfl
  · obtain ⟨p, c, n, v, q, i, j, rfl, pen, hn, rv, zq, i0, j0, i1, j1, k⟩ := h
    have hr1 : Room 1 _ := hr.mono (by decide)
    refine ⟨_, C8.pss_cut (ps_if (PW.pt (pw_and (pt_cmpR op_eq (pe_ix ix_tup (pv 1) pe_int (fun _ _ => rfl)) pe_int (nomark _)) (pw_and1 (pt_cmpR op_eq (T.l_draw.c0 G1 hr1 (pa_cons (pv 0) (pa_cons pe_int pa_nil))) pe_int (nomark _)))))
        (pss_one (ps_ret (pe_ix ix_tup (pv 1) pe_int (fun _ _ => rfl)))) pss_nil)
      (pss_cons (ps_set (i := 2) sc46.nd rfl (.inl rfl) (T.l_pick.c0 G2 hr (pa_cons (pv 0) (pa_cons (pe_lst (pa_cons pe_int (pa_cons pe_int (pa_cons pe_int (pa_cons pe_int pa_nil))))) pa_nil))))
      (pss_one (ps_ret (T.l_pick.c0 G2 hr (pa_cons (pv 0) (pa_cons (pe_lst (pa_cons
        (pe_tup (pa_cons (pe_op op_mulW (pe_ix ix_tup (pv 1) pe_int (fun _ _ => rfl)) (pv 2)) (pa_cons (pe_op op_mulW (pe_ix ix_tup (pv 1) pe_int (fun _ _ => rfl)) (pv 2)) pa_nil)))
        (pa_cons (pe_lstN (pa_cons (pe_op op_mulW (pe_ix ix_tup (pv 1) pe_int (fun _ _ => rfl)) (pv 2)) (pa_cons (pe_op op_mulW (pe_ix ix_tup (pv 1) pe_int (fun _ _ => rfl)) (pv 2)) pa_nil))) pa_nil))) pa_nil)))))), ?_⟩
    obtain ⟨t, rfl, ht⟩ := rv
    have d0 := den_pos' q
    refine ⟨fun σ H' => σ = [some (.ref p), some (.ref t), none] ∧ ∃ m, m ≤ n + 1 ∧ Pen H' p c m ∧ But p H H', ?_, ?_⟩
    · refine ⟨_, rfl, _, _, _, _, rfl, rfl, ht, rfl, rfl, _, rfl, ?_⟩
      by_cases e1 : V.int (q.den : Int) = V.int 1
      · rw [decide_eq_true e1]
        refine iteT ⟨_, rfl, p, c, n, 2, rfl, pen, by omega, by decide, by decide, fun d H1 d0 d1 pen1 but1 => ?_⟩
        refine ⟨rfl, _, rfl, ?_⟩
        refine ite2 (fun _ => ?_) (fun _ => ⟨rfl, n + 1, Nat.le_refl _, pen1, but1⟩)
        refine ⟨_, rfl, _, _, _, _, rfl, rfl, pen.seqT but1 ht, rfl, ?_⟩
        have e1' : (q.den : Int) = 1 := V.int.inj e1
        refine k _ _ (pen1.more (by omega)) but1 ⟨q.num, 1, .int, ?_, up_lt zq.1 (by omega), ?_⟩ (.int (log_lt zq.1 (by omega))) (fun _ z => nomatch z)
        · have := Rat.num_divInt_den q
          rw [e1'] at this
          exact this.symm
        · show (1 : Nat) < 2 ^ (j + 2)
          exact Nat.one_lt_two_pow (by omega)
      · rw [decide_eq_false e1]
        exact iteF (iteF ⟨rfl, n, by omega, pen, But.refl⟩)
    · rintro σ H1 ⟨rfl, m, hm, pen1, but1⟩
      have ht1 := pen.seqT but1 ht
      refine ⟨_, rfl, (by show 4 ≤ sizeLine; decide), fun l nl => ?_⟩
      refine ⟨p, c, l, m, _, rfl, pen1.new nl, by omega, upd_same, by decide, by decide, fun z v H2 hz pen2 but2 => ?_⟩
      have three : ∃ b : Int, v = .int b ∧ 0 < b ∧ b ≤ 3 := by
        have mem := mem_of_at hz
        simp only [List.mem_cons, List.not_mem_nil, or_false] at mem
        rcases mem with rfl | rfl | rfl | rfl
        · exact ⟨1, rfl, by decide, by decide⟩
        · exact ⟨1, rfl, by decide, by decide⟩
        · exact ⟨2, rfl, by decide, by decide⟩
        · exact ⟨3, rfl, by decide, by decide⟩
      obtain ⟨b, rfl, b0, b3⟩ := three
      have but02 : But p H H2 := (but1.trans (But.ofSame (Same.new nl))).trans but2
      have ht2 := pen.seqT but02 ht
      have bb : b.natAbs < 2 ^ 2 := by
        have : (2 : Nat) ^ 2 = 4 := by decide
        omega
      have w1 : (q.num * b).natAbs < 2 ^ (i + 2) := wide_lt zq.1 bb
      have w2 : ((q.den : Int) * b).natAbs < 2 ^ (j + 2) := wide_lt (den_abs zq) bb
      have c1 : CMulW q.num b := cmulW zq.1 bb (by omega)
      have c2 : CMulW (q.den : Int) b := cmulW (den_abs zq) bb (by omega)
      have pos : 0 < (q.den : Int) * b := Int.mul_pos d0 b0
      have eq : q = Rat.divInt (q.num * b) ((q.den : Int) * b) := by
        rw [Rat.divInt_mul_right (by omega), Rat.num_divInt_den]
      refine ⟨_, rfl, _, rfl, ?_⟩
      refine ⟨_, _, _, _, rfl, rfl, ht2, rfl, _, rfl, _, _, rfl, rfl, c1, _, rfl, _, _, _, _, rfl, rfl, ht2, rfl, _, rfl, _, _, rfl, rfl, c2, (by show 2 ≤ sizeLine; decide), fun a na => ?_⟩
      have s3 := Same.new (o := .tup [.int (q.num * b), .int ((q.den : Int) * b)]) na
      have e3 : upd H2 a (.tup [.int (q.num * b), .int ((q.den : Int) * b)]) a = some (.tup [.int (q.num * b), .int ((q.den : Int) * b)]) := upd_same
      have pen3 := pen2.same s3
      have but3 := but02.trans (.ofSame s3)
      generalize upd H2 a (.tup [.int (q.num * b), .int ((q.den : Int) * b)]) = H3 at s3 e3 pen3 but3
      have ht3 := Kz.Same.seqT s3 ht2
      refine ⟨_, rfl, _, _, _, _, rfl, rfl, ht3, rfl, _, rfl, _, _, rfl, rfl, c1, _, rfl, _, _, _, _, rfl, rfl, ht3, rfl, _, rfl, _, _, rfl, rfl, c2, (by show 2 ≤ sizeLine; decide), fun d nd nm => ?_⟩
      have s4 := Same.new (o := .lst [.int (q.num * b), .int ((q.den : Int) * b)]) nd
      have e4 : upd H3 d (.lst [.int (q.num * b), .int ((q.den : Int) * b)]) d = some (.lst [.int (q.num * b), .int ((q.den : Int) * b)]) := upd_same
      have pen4 := pen3.same s4
      have but4 := but3.trans (.ofSame s4)
      generalize upd H3 d (.lst [.int (q.num * b), .int ((q.den : Int) * b)]) = H4 at s4 e4 pen4 but4
      have e3' := s4 _ _ e3
      refine ⟨(by show 2 ≤ sizeLine; decide), fun g ng => ?_⟩
      have s5 := Same.new (o := .lst [.ref a, .ref d]) ng
      have pen5 := pen4.same s5
      have but5 := but4.trans (.ofSame s5)
      refine ⟨p, c, g, _, _, rfl, pen5, by omega, upd_same, (by show 0 < 2; decide), (by show 2 < 1000000; decide), fun y u H6 hy pen6 but6 => ?_⟩
      have e3'' := but6 _ _ (s5 _ _ e3') (pen5.off (s5 _ _ e3') fun _ z => nomatch z)
      have e4'' := pen5.lst but6 (s5 _ _ e4)
      have np : a ≠ p := pen5.off (s5 _ _ e3') fun _ z => nomatch z
      have npd : d ≠ p := pen5.off (s5 _ _ e4) fun _ z => nomatch z
      have l1 := log_lt w1 (by omega)
      have l2 := log_lt w2 (by omega)
      have but7 := but5.trans but6
      have pen7 : Pen H6 p c (n + 3) := pen6.more (by omega)
      have mem := mem_of_at hy
      simp only [List.mem_cons, List.not_mem_nil, or_false] at mem
      rcases mem with rfl | rfl
      · refine k _ _ pen7 but7 ⟨_, _, .two (.inr (SqT.of e3'')) pos, eq, w1, w2⟩ (.tup e3'' l1 l2) (fun x z => by cases z; exact but02.gone pen2 na)
      · refine k _ _ pen7 but7 ⟨_, _, .two (.inl (SqL.of e4'')) pos, eq, w1, w2⟩ (.lst e4'' nm l1 l2) (fun x z => by cases z; exact but3.gone pen3 nd)
end
end Kz
set_option linter.all false
set_option maxRecDepth 100000
set_option maxHeartbeats 8000000
namespace Kz
open PySem PySem.Spec PyProof.Rows L2
section
variable {P : Program} {w : World} {K : PySem.W.Frag} {mg : Str → Option Value} {base : Heap}
/-- Poly(e), which may raise -/
theorem Tz.cPolyE {X : Cx} {p pos : Pos} {e : Expr} {t} {E : XK} (T : Tz P K mg) (tk : Takes X fun cls d _ H => E cls d H) (hr : Room 6 X.A) (ha : PA X [e] t) (of : Of X P w K mg base := by exact ⟨rfl, rfl, rfl, rfl, rfl⟩) (hg : Gl X "Poly" := by rfl)
    (st : starEach [e] X.env = (false, eval e X.env) :: starEach [] X.env := by rfl) (nost : (backTo pos (starEach [] X.env)).any (·.1) = false := by rfl) :
    PE X (.Call (.Name "Poly" p) [e] [] pos) (tMake T.cP (spInit K T.cP T.cR) [] E t) := by
  obtain ⟨rfl, rfl, rfl, rfl, rfl⟩ := of
  exact pe_make T.mkP (ok_pinit T) hr hg T.mgP T.p_init.b .nil (passes_call tk fun _ _ _ _ h => h) ha (by decide) st nost
/-- xs != [] -/
def rNeE (K : PySem.W.Frag) : R2 := fun x y H Q => ∃ (a b : Addr) (ys : List V), x = .ref a ∧ y = .ref b ∧ SqL K H a ys ∧ SqL K H b [] ∧ Q (.bl (!decide (ys = []))) H
theorem op_neE {X : Cx} (hu : X.A.units + 64 < cLine) : OpR X (compareOp .NotEq) (rNeE X.K) := by
  intro pins s σ H x y v u Q I rx ry h
  obtain ⟨a, b, ys, rfl, rfl, ha, hb, q⟩ := h
  cases rx
  cases ry
  obtain ⟨its, r1, p1, _⟩ := I.list ha
  obtain ⟨its2, r2, p2, _⟩ := I.list hb
  have z2 : its2 = [] := List.eq_nil_of_length_eq_zero (r2.length.symm.trans rfl)
  subst z2
  by_cases e : ys = []
  · subst e
    have z1 : its = [] := List.eq_nil_of_length_eq_zero (r1.length.symm.trans rfl)
    subst z1
    have R := SeqAt.RcNeAt.lists (A := X.A) (s := s) (e := fun _ => true) p1.isList p2.isList rfl (by omega) (fun j h1 _ => absurd h1 (Nat.not_lt_zero j))
    exact R X.prog X.w X.xe (EP X pins σ Q) ⟨.bl false, H, I, rfl, by simpa using q⟩
  · have l : its.length ≠ 0 := fun z => e (List.eq_nil_of_length_eq_zero (r1.length.trans z))
    have R := SeqAt.RcNeAt.lists_lengths (A := X.A) (s := s) p1.isList p2.isList (by simpa using l) (by omega)
    exact R X.prog X.w X.xe (EP X pins σ Q) ⟨.bl true, H, I, rfl, by simpa [e] using q⟩
/-- data in a row, all of them shown short -/
structure Rowy (ds : List PyData) (n : Nat) : Prop where
  a : PyData.showableAll ds = true
  b : PyData.depthAll ds ≤ 5
  c : PyData.leavesShortAll 1921 ds = true
  d : PyData.bulkAll ds ≤ n
theorem Rowy.up {ds : List PyData} {n m : Nat} (h : Rowy ds n) (l : n ≤ m) : Rowy ds m := ⟨h.a, h.b, h.c, Nat.le_trans h.d l⟩
theorem Rowy.cons {d : PyData} {ds : List PyData} {n k : Nat} (h : Rowy ds n) (s : Small d) (bk : d.bulk ≤ k) : Rowy (d :: ds) (k + 1 + n) := by
  refine ⟨?_, ?_, ?_, ?_⟩
  · simp only [PyData.showableAll, s.sh, h.a, Bool.and_self]
  · simp only [PyData.depthAll]
    have := s.dp
    have := h.b
    omega
  · simp only [PyData.leavesShortAll, s.lv, h.c, Bool.and_self]
  · simp only [PyData.bulkAll]
    have := h.d
    omega
theorem list_shows {ds : List PyData} (h : Rowy ds 2200) : Shows (.list ds) := by
  have b := h.b
  have d := h.d
  refine ⟨by simpa only [PyData.showable] using h.a, by simp only [PyData.depth]; omega, ?_⟩
  have z := PyData.shown_le_bulk 1921 (by decide) (.list ds) (by simpa only [PyData.leavesShort] using h.c)
  simp only [PyData.bulk] at z
  rw [sizeLine_eq]
  omega
theorem Leaf.data {K : PySem.W.Frag} {H : Hp} {v : V} (h : Leaf H v) : ∃ d, Dq K H v d ∧ Small d ∧ d.bulk ≤ 10 := by
  cases h with
  | int l => exact ⟨_, .int _, small_int l, Nat.zero_le _⟩
  | tup e l m => exact ⟨_, .tup (SqT.of e) (.cons (.int _) (.cons (.int _) .nil)), small_two (.inr rfl) l m, by simp only [PyData.bulk, PyData.bulkAll]; decide⟩
  | lst e n l m => exact ⟨_, .lst e n (.cons (.int _) (.cons (.int _) .nil)), small_two (.inl rfl) l m, by simp only [PyData.bulk, PyData.bulkAll]; decide⟩
theorem all_leaf {K : PySem.W.Frag} {H : Hp} : ∀ {vs : List V}, (∀ v ∈ vs, Leaf H v) → ∃ ds, DqAll K H vs ds ∧ Rowy ds (11 * vs.length)
  | [], _ => ⟨[], .nil, rfl, Nat.zero_le _, rfl, Nat.zero_le _⟩
  | v :: vs, h => by
    obtain ⟨d, q, s, bk⟩ := (h v List.mem_cons_self).data (K := K)
    obtain ⟨ds, q2, r⟩ := all_leaf (K := K) fun x hx => h x (List.mem_cons_of_mem _ hx)
    exact ⟨d :: ds, .cons q q2, (r.cons s bk).up (by rw [List.length_cons]; omega)⟩
theorem one_odd {K : PySem.W.Frag} {H : Hp} {o : V} (g : Good K H o) : ∀ {vs : List V} (j : Nat), (∀ v ∈ vs, Leaf H v) → ∃ ds, DqAll K H (vs.set j o) ds ∧ Rowy ds (2001 + 11 * vs.length)
  | [], _, _ => ⟨[], .nil, rfl, Nat.zero_le _, rfl, Nat.zero_le _⟩
  | v :: vs, 0, h => by
    obtain ⟨d, q, s⟩ := g.ex
    obtain ⟨ds, q2, r⟩ := all_leaf (K := K) fun x hx => h x (List.mem_cons_of_mem _ hx)
    exact ⟨d :: ds, .cons q q2, (r.cons s s.bk).up (by rw [List.length_cons]; omega)⟩
  | v :: vs, j + 1, h => by
    obtain ⟨d, q, s, bk⟩ := (h v List.mem_cons_self).data (K := K)
    obtain ⟨ds, q2, r⟩ := one_odd g j fun x hx => h x (List.mem_cons_of_mem _ hx)
    exact ⟨d :: ds, .cons q q2, (r.cons s bk).up (by rw [List.length_cons]; omega)⟩
theorem poly_bad' {K : PySem.W.Frag} {cP cR : Addr} {H : Hp} {v : V} {Q : Addr → Hp → Prop} {E : XK} (nr : NotRow K H v) (er : ErR cR H E v) :
    ∀ x dx, H x = none → H dx = none → dx ≠ x → spInit K cP cR (.ref x :: ([v] ++ [])) (upd (upd H dx (.own x)) x (.ins cP dx [])) (fun v H2 => v = .non ∧ Q x H2) E := by
  intro x dx nx ndx ne
  have s1 : Same H (upd (upd H dx (.own x)) x (.ins cP dx [])) := fun c u e => by
    rw [upd_ne (ne_of_none e nx), upd_ne (ne_of_none e ndx)]
    exact e
  exact ⟨x, dx, _, rfl, upd_same, .inr ⟨nr.same s1, er.after s1⟩⟩
theorem Leaf.cl {H : Hp} {p c : Addr} {n : Nat} {v : V} (h : Leaf H v) (pen : Pen H p c n) : Leaf (Kz.cl p H) v := by
  cases h with
  | int l => exact .int l
  | tup e l m => exact .tup (pen.cHas e (fun _ z => nomatch z) (fun _ z => nomatch z)) l m
  | lst e n l m => exact .lst (pen.cHas e (fun _ z => nomatch z) (fun _ z => nomatch z)) n l m
theorem cz_upd {p D : Addr} {Z H : Hp} {o o' : HO} (z : Z D = some o) : Same (cz p Z H) (Kz.cl p (upd H D o')) := fun b u e => by
  have n : b ≠ D := fun e' => by
    have := cz_some e
    rw [e', z] at this
    cases this
  obtain ⟨np, e, t⟩ := cl_some (cz_sub _ _ e)
  exact cl_at np (by rw [upd_ne n]; exact e) t
abbrev n68 : List Str := ["_law_pen_here", "_law_numbers", "_law_given", "_law_due", "_law_kept", "_law_made", "_law_odd", "_law_strange", "_law_k", "_law_number"]
theorem sc68 : FnScope n68 ["_law_pen_here"] (defScope (top 69)) := ⟨rfl, rfl, rfl, by decide +kernel, rfl, by decide +kernel, by decide +kernel⟩
theorem ok_mr (T : Tt P K mg) (TB : LamX.TabB base mg T.c68 T.P68) : FnG P w K mg base CX0 10 T.l_mr.f T.l_mr.fd ["_law_pen_here"] (spRight T.Tl) := by
  have Gdraw : FnOk P w K mg base CX0 1 T.l_draw.f T.l_draw.fd ["_law_pen_here", "_law_many"] spDraw := ok_ldraw T.toTu
  have Gpick : FnOk P w K mg base CX0 2 T.l_pick.f T.l_pick.fd ["_law_pen_here", "_law_some"] spPick := ok_lpick T.toTu
  have Grat : FnOk P w K mg base CX0 3 T.l_ratio.f T.l_ratio.fd ["_law_pen_here", "_law_most"] (spLrat K) := ok_lratio T.toTu
  have Gsome : FnOk P w K mg base CX0 4 T.l_some.f T.l_some.fd ["_law_pen_here"] (spSomeR K) := ok_lsome T.toTu
  have Gpas : FnOk P w K mg base CX0 3 T.l_passed.f T.l_passed.fd ["_law_pen_here", "_law_ratio_here"] (spPassedL K) := ok_lpassedL T.toTu
  have Gpoly : FnOk P w K mg base CX0 1 T.l_poly.f T.l_poly.fd ["_law_numbers"] (spLpoly K) := ok_lpoly T.toTv
  have GD : FnOk P w K mg base CX0 1 T.p_degree.f T.p_degree.fd ["self"] (spDeg K T.cP) := ok_degree T.toTz
  have Gany : FnOk P w K mg base CX0 3 T.l_any.f T.l_any.fd ["_law_pen_here"] (spAnyZ K) := ok_lanyZ T.toTu
  refine fnGC0 T.f68 sc68 (fun vs H Q E h => ?_) (fun A outer s H vs Q E hg hr h => ?_)
  · obtain ⟨p, c, n, rfl, _⟩ := h
    rfl
  · obtain ⟨p, c, n, rfl, pen, hn, tabs, k⟩ := h
    have pen0 := pen
    have hr1 : Room 1 _ := hr.mono (by decide)
    have hr2 : Room 2 _ := hr.mono (by decide)
    have hr3 : Room 3 _ := hr.mono (by decide)
    have hr4 : Room 4 _ := hr.mono (by decide)
    have hr6 : Room 6 _ := hr.mono (by decide)
    have hu := hr.units
    refine ⟨_, pss_cons (ps_setLc (i := 1) (own := [("_law_k", 8)]) (g := gName 8) (tt := tYes) rfl sc68.nd rfl rfl (sw_true rfl rfl rfl (by decide +kernel)) (pi_range1 rfl T.blt.range (pa_cons (T.l_draw.c0 Gdraw hr1 (pa_cons (pv 0) (pa_cons pe_int pa_nil))) pa_nil))
        (blkOk_by (own := [("_law_k", 8)]) (N := n68) (sc := defScope (top 69)) (by decide +kernel)) (fun _ _ _ _ _ => pg_name (i := 8) sc68.nd rfl (Or.inl rfl)) (fun _ _ _ _ _ => pts_nil)
        (fun _ _ _ _ _ => T.l_pick.c0 Gpick hr2 (pa_cons (pv 0) (pa_cons (pe_lst (pa_cons (pe_tup (pa_cons pe_int (pa_cons pe_int pa_nil))) (pa_cons (T.l_ratio.c0 Grat hr3 (pa_cons (pv 0) (pa_cons pe_int pa_nil))) (pa_cons (T.l_some.c0 Gsome hr4 (pa_cons (pv 0) pa_nil)) pa_nil)))) pa_nil))))
      (pss_cons (ps_set (i := 1) sc68.nd rfl (.inl rfl) (pe_op op_cat (pv 1) (pe_op op_rep (pe_lst (pa_cons (pe_tup (pa_cons pe_int (pa_cons pe_int pa_nil))) pa_nil)) (T.l_draw.c0 Gdraw hr1 (pa_cons (pv 0) (pa_cons pe_int pa_nil))))))
      (pss_cons (ps_asg (pe_tup (pa_cons (pe_lc (own := [("_law_number", 9)]) (g := gName 9) (tt := tYes) rfl sc68.nd (pi_list (pv 1)) (blkOk_by (own := [("_law_number", 9)]) (N := n68) (sc := defScope (top 69)) (by decide +kernel))
            (fun _ _ _ _ _ => pg_name (i := 9) sc68.nd rfl (Or.inl rfl)) (fun _ _ _ _ _ => pts_nil) (fun _ _ _ _ _ => T.l_passed.c0 Gpas hr3 (pa_cons (pv 0) (pa_cons (pv 9) pa_nil))))
          (pa_cons (pe_callTy call_tuple_of (by rfl) T.mTuple boot_ttuple (pa_cons (T.l_poly.c0 Gpoly hr1 (pa_cons (pv 1) pa_nil)) pa_nil)) pa_nil))) (pg_tup (by rfl) (pgs_cons (pg_name (i := 2) sc68.nd rfl (.inr rfl)) (pgs_cons (pg_name (i := 3) sc68.nd rfl (.inl rfl)) pgs_nil))))
      (pss_cons (ps_set (i := 4) sc68.nd rfl (.inl rfl) (pe_callB (call_reprTK (K := K) rfl hg hu) (by rfl) T.mRepr boot_repr' (pa_cons (pv 2) pa_nil)))
      (pss_cons (ps_set (i := 5) sc68.nd rfl (.inl rfl) (T.cPoly hr6 (pa_cons (T.l_pick.c0 Gpick hr2 (pa_cons (pv 0) (pa_cons (pe_lst (pa_cons (pv 2) (pa_cons (pe_callTy call_tuple_of (by rfl) T.mTuple boot_ttuple (pa_cons (pv 2) pa_nil)) pa_nil))) pa_nil))) pa_nil)))
      (pss_cons (ps_if (PW.pt (pw_or (pt_cmpR op_ne (pe_callB (call_reprTK (K := K) rfl hg hu) (by rfl) T.mRepr boot_repr' (pa_cons (pv 2) pa_nil)) (pv 4) (nomark _))
          (pw_or (pt_cmpR op_ne (pe_callB (call_reprK (K := K) rfl hg hu) (by rfl) T.mRepr boot_repr' (pa_cons (pe_fld (pv 5) (by rfl)) pa_nil)) (pe_callB (call_reprK (K := K) rfl hg hu) (by rfl) T.mRepr boot_repr' (pa_cons (pv 3) pa_nil)) (nomark _))
          (pw_or1 (pt_cmpR op_ne (pe_meth0 (pv 5) T.clP T.p_degree.me GD hr1 T.p_degree.b .nil pass0 (by rfl)) (pe_op op_sub (pe_callB call_len_seq (by rfl) T.blt.len PySem.boot_len (pa_cons (pv 3) pa_nil)) pe_int) (nomark _))))))
          (pss_one (ps_ret pe_bl)) pss_nil)
      (pss_cons (ps_if (PW.pt (pw_or (pt_cmpR (op_peq T.toTw hr1) (pv 5) (T.cPoly hr6 (pa_cons (pe_op op_cat (pe_callTy call_list_of (by rfl) T.blt.list boot_tlist (pa_cons (pv 3) pa_nil)) (pe_lst (pa_cons pe_int pa_nil))) pa_nil)) (nomark _))
          (pw_or (pt_cmpR (op_peq T.toTw hr1) (pv 5) (pv 3) (nomark _))
          (pw_or (pt_cmpR (op_peq T.toTw hr1) (T.cPoly hr6 (pa_cons (pe_tup (pa_cons pe_int pa_nil)) pa_nil)) pe_int (nomark _))
          (pw_or1 (pt_not (pt_cmpR (op_peq T.toTw hr1) (pv 5) (T.cPoly hr6 (pa_cons (pv 3) pa_nil)) (nomark _))))))))
          (pss_one (ps_ret pe_bl)) pss_nil)
      (pss_cons (ps_set (i := 6) sc68.nd rfl (.inl rfl) (T.l_any.c0 Gany hr3 (pa_cons (pv 0) pa_nil)))
      (C8.pss_cut (ps_if (pt_cmpR (op_neE hu) (pv 2) (pe_lst pa_nil) (nomark _))
          (pss_cons (ps_asg (pv 6) (pg_sub (pv 2) (T.l_draw.c0 Gdraw hr1 (pa_cons (pv 0) (pa_cons (pe_callB call_len_seq (by rfl) T.blt.len PySem.boot_len (pa_cons (pv 2) pa_nil)) pa_nil))) set_list (fun _ => rfl)))
          (pss_one (ps_if (pt_cmpR (op_neT hu) (pe_why T.toTu (k := 6) hg TB rfl T.m68 T.h68 (hr.mono (by decide)) (LamX.lamS_by (sc := defScope (top 69)) (by decide +kernel)) (fun A outer s H E f c' hr' => Tz.cPolyE T.toTz (takes_of (E := E) rfl rfl rfl rfl) hr' (pa_cons (pv 2) pa_nil)))
              (pe_tup (pa_cons pe_str (pa_cons (pe_callB (call_reprTK (K := K) rfl hg hu) (by rfl) T.mRepr boot_repr' (pa_cons (pv 2) pa_nil)) pa_nil))) (nomark _)) (pss_one (ps_ret pe_bl)) pss_nil))) pss_nil)
      (pss_cons (ps_set (i := 7) sc68.nd rfl (.inr rfl) (T.l_pick.c0 Gpick hr2 (pa_cons (pv 0) (pa_cons (pe_lst (pa_cons pe_non (pa_cons pe_int (pa_cons pe_str (pa_cons (pe_disp (pps_cons pe_str pe_int pps_nil) (by rfl) (by rfl) (fun z => by cases z) (by decide)) (pa_cons pe_bl pa_nil)))))) pa_nil))))
      (pss_one (ps_ret (pe_cmpR (op_eqT hu) (pe_why T.toTu (k := 6) hg TB rfl T.m68 T.h68 (hr.mono (by decide)) (LamX.lamS_by (sc := defScope (top 69)) (by decide +kernel)) (fun A outer s H E f c' hr' => Tz.cPolyE T.toTz (takes_of (E := E) rfl rfl rfl rfl) hr' (pa_cons (pv 7) pa_nil)))
              (pe_tup (pa_cons pe_str (pa_cons (pe_callB (call_reprK (K := K) rfl hg hu) (by rfl) T.mRepr boot_repr' (pa_cons (pv 7) pa_nil)) pa_nil))) (nomark _))))))))))))), ?_⟩
    -- numbers
    refine ⟨_, rfl, p, c, n, 8, rfl, pen, by omega, by decide, by decide, fun d H1 d0 d1 pen1 but1 => ?_⟩
    have d8 : d < 8 := d1
    refine ⟨_, rfl, by omega, by omega, fun D hD => ?_⟩
    have nDp : D ≠ p := pen1.newP hD
    have nDc : D ≠ c := pen1.newC hD
    refine lc_mapRP (lo := 0) (n := d.toNat) (p := p) (by omega) hD nDp (fun i acc H' => Pen H' p c (n + 1 + 50 * i) ∧ ∃ qs, Al K H' acc qs ∧ ∀ q ∈ qs, Sz 60 60 q) ?_ ⟨pen1, [], Al.nil, fun q hq => by cases hq⟩ ?_ ?_
    · rintro i acc H2 H3 l b ⟨pn, qs, al, hq⟩
      exact ⟨bear_pen l nDc b pn, qs, ⟨al.1, fun j v q e1 e2 => bear_rv l b (al.2 j v q e1 e2)⟩, hq⟩
    · rintro i lt acc H2 Qk Z lg ⟨pn, qs, al, hq⟩ s hacc kk
      have i8 : i < 8 := by omega
      refine ⟨rfl, ?_⟩
      dsimp only [tYes]
      refine iteT ⟨_, rfl, (by show 2 ≤ sizeLine; decide), fun t nt => ?_⟩
      have s3 := Same.new (o := .tup [.int 0, .int 1]) nt
      have r0 : RV K (upd H2 t (.tup [.int 0, .int 1])) (.ref t) 0 := ⟨t, rfl, SqT.of upd_same⟩
      have pn3 := pn.same s3
      generalize upd H2 t (.tup [.int 0, .int 1]) = H3 at s3 r0 pn3
      refine ⟨_, rfl, p, c, _, 9, rfl, pn3, by omega, by decide, by decide, fun v4 H4 q4 pn4 b4 rv4 sm4 => ?_⟩
      refine ⟨_, rfl, p, c, _, rfl, pn4, by omega, fun v5 H5 q5 pn5 b5 rv5 z5 => ?_⟩
      refine ⟨(by show 3 ≤ sizeLine; decide), fun l nl => ?_⟩
      have s6 := Same.new (o := .lst [.ref t, v4, v5]) nl
      have pn6 := pn5.same s6
      refine ⟨p, c, l, _, _, rfl, pn6, by omega, upd_same, (by show 0 < 3; decide), (by show 3 < 1000000; decide), fun j u H7 hj pn7 b7 => ?_⟩
      have bb : But p H2 H7 := ((((But.ofSame s3).trans b4).trans b5).trans (.ofSame s6)).trans b7
      obtain ⟨q, rv, zq⟩ : ∃ q, RV K H7 u q ∧ Sz 60 60 q := by
        have mem := mem_of_at hj
        simp only [List.mem_cons, List.not_mem_nil, or_false] at mem
        rcases mem with rfl | rfl | rfl
        · exact ⟨0, pn6.rv b7 ((pn4.rv b5 (pn3.rv b4 r0)).same s6), by decide, by decide⟩
        · exact ⟨q4, pn6.rv b7 ((pn4.rv b5 rv4).same s6), (sm4.sz (by decide)).up (by decide) (by decide)⟩
        · exact ⟨q5, pn6.rv b7 (rv5.same s6), z5⟩
      refine kk _ _ bb ⟨pn7.more (by omega), qs ++ [q], (pn.al bb al).snoc rv, fun r hr => ?_⟩
      rcases List.mem_append.mp hr with h | h
      · exact hq r h
      · rw [List.mem_singleton.mp h]
        exact zq
    · rintro acc H2 hacc lacc ⟨pn, qs, al, hq⟩ s
      have lq : qs.length = d.toNat := by rw [← al.1, lacc]
      -- zeros
      refine ⟨_, rfl, (by show 2 ≤ sizeLine; decide), fun t nt => ?_⟩
      have s3 := Same.new (o := .tup [.int 0, .int 1]) nt
      have r3 : RV K (upd H2 t (.tup [.int 0, .int 1])) (.ref t) 0 := ⟨t, rfl, SqT.of upd_same⟩
      have pn3 := pn.same s3
      have al3 := al.same s3
      have ac3 := s3 _ _ hacc
      have b3 := (but1.trans s).trans (.ofSame s3)
      generalize upd H2 t (.tup [.int 0, .int 1]) = H3 at s3 r3 pn3 al3 ac3 b3
      refine ⟨(by show 1 ≤ sizeLine; decide), fun z nz => ?_⟩
      have s4 := Same.new (o := .lst [.ref t]) nz
      have e4 : upd H3 z (.lst [.ref t]) z = some (.lst [.ref t]) := upd_same
      have pn4 := pn3.same s4
      have al4 := al3.same s4
      have ac4 := s4 _ _ ac3
      have r4 := r3.same s4
      have b4 := b3.trans (.ofSame s4)
      generalize upd H3 z (.lst [.ref t]) = H4 at s4 e4 pn4 al4 ac4 r4 b4
      refine ⟨_, rfl, p, c, _, 3, rfl, pn4, by omega, by decide, by decide, fun kz' H5 k0 k1 pn5 but5 => ?_⟩
      have e5 := pn4.lst but5 e4
      have ac5 := pn4.lst but5 ac4
      have al5 := pn4.al but5 al4
      have r5 := pn4.rv but5 r4
      have b5 := b4.trans but5
      have k3 : kz' < 3 := k1
      obtain ⟨kz, rfl⟩ := Int.eq_ofNat_of_zero_le k0
      refine ⟨z, _, _, rfl, rfl, e5, by omega, by omega, ?_, fun x nx => ?_⟩
      · show 1 * kz ≤ sizeLine
        rw [sizeLine_eq]
        omega
      have tn : (((kz : Nat) : Int)).toNat = kz := rfl
      rw [tn]
      have s6 := Same.new (o := .lst (List.replicate kz [V.ref t]).flatten) nx
      have e6 : upd H5 x (.lst (List.replicate kz [V.ref t]).flatten) x = some (.lst (List.replicate kz [V.ref t]).flatten) := upd_same
      have pn6 := pn5.same s6
      have al6 := al5.same s6
      have ac6 := s6 _ _ ac5
      have ar6 : Al K (upd H5 x (.lst (List.replicate kz [V.ref t]).flatten)) (List.replicate kz [V.ref t]).flatten (List.replicate kz 0) := al_rep (r5.same s6)
      have b6 := b5.trans (.ofSame s6)
      generalize upd H5 x (.lst (List.replicate kz [V.ref t]).flatten) = H6 at s6 e6 pn6 al6 ac6 ar6 b6
      have lr : (List.replicate kz [V.ref t]).flatten.length = kz := by rw [ar6.1, List.length_replicate]
      refine ⟨D, x, _, _, rfl, rfl, ac6, e6, ?_, fun y ny => ?_⟩
      · rw [lr, lacc, sizeLine_eq]
        omega
      have s7 := Same.new (o := .lst (acc ++ (List.replicate kz [V.ref t]).flatten)) ny
      have e7 : upd H6 y (.lst (acc ++ (List.replicate kz [V.ref t]).flatten)) y = some (.lst (acc ++ (List.replicate kz [V.ref t]).flatten)) := upd_same
      have pn7 := (pn6.same s7).more (show _ ≤ n + 500 by omega)
      have b7 := b6.trans (.ofSame s7)
      have al7 := (al6.append ar6).same s7
      have l7 : (acc ++ (List.replicate kz [V.ref t]).flatten).length ≤ 10 := by
        rw [List.length_append, lr, lacc]
        omega
      have hq7 : ∀ q ∈ qs ++ List.replicate kz 0, Sz 60 60 q := fun q hm => by
        rcases List.mem_append.mp hm with h | h
        · exact hq q h
        · rw [(List.mem_replicate.mp h).2]
          exact ⟨by decide, by decide⟩
      generalize acc ++ (List.replicate kz [V.ref t]).flatten = us at s7 e7 pn7 b7 al7 l7
      generalize qs ++ List.replicate kz 0 = ns at al7 hq7
      generalize upd H6 y (.lst us) = H7 at s7 e7 pn7 b7 al7
      clear s7 ny lr ar6 ac6 al6 pn6 e6 s6 tn r5 al5 ac5 e5 but5 pn5 b5 b6 r4 al4 ac4 pn4 e4 s4 b4 b3 ac3 al3 pn3 r3 s3 al pn hq lq hacc lacc s
      -- given
      refine ⟨_, rfl, y, rfl, ⟨_, SqL.of e7⟩, fun G nG => ?_⟩
      have nGp : G ≠ p := pn7.newP nG
      have nGc : G ≠ c := pn7.newC nG
      have noG : H G = none := b7.gone pn7 nG
      have la := al7.1
      refine lc_mapLP pn7 (SqL.of e7) (by omega) nG nGp (fun m acc H' => Pen H' p c (n + 500 + 3 * m) ∧ AlA K H' acc 62 62 (ns.take m) ∧ ∀ u ∈ acc, u ≠ .ref G ∧ Leaf H' u) ?_ ⟨pn7, AlA.nil, fun q hq => by cases hq⟩ ?_ ?_
      · rintro m ac H8 H9 lG b ⟨pn, aa, hq⟩
        exact ⟨bear_pen lG nGc b pn, ⟨aa.1, fun x v q e1 e2 => bear_argQ lG (hq v (List.mem_of_getElem? e1)).1 b (aa.2 x v q e1 e2)⟩, fun u hu => ⟨(hq u hu).1, (hq u hu).2.but (hq u hu).1 b⟩⟩
      · rintro m x hx ac H8 Qk Z lg ⟨pn, aa, hq⟩ s hacc kk
        have lt : m < us.length := (List.getElem?_eq_some_iff.mp hx).1
        have ltq : m < ns.length := by omega
        refine ⟨rfl, ?_⟩
        dsimp only [tYes]
        refine iteT ⟨_, rfl, _, rfl, p, c, _, x, cf ns m, 60, 60, rfl, pn, by omega, pn7.rv s (al7.2 m x _ hx (at_cf ltq)), hq7 _ (mem_cf ltq), by decide, by decide, by decide, by decide, fun u H9 pn9 b9 aq leaf fresh => kk _ _ b9 ⟨pn9, ?_, fun w hw => ?_⟩⟩
        · rw [take_snoc (at_cf ltq)]
          exact (pn.alA b9 aa).snoc aq
        · rcases List.mem_append.mp hw with h | h
          · exact ⟨(hq w h).1, (hq w h).2.pen pn b9⟩
          · rw [List.mem_singleton.mp h]
            refine ⟨fun z => ?_, leaf⟩
            have := fresh G z
            rw [hacc] at this
            cases this
      · rintro ac H8 eG lac ⟨pn8, aa8, lf8⟩ s8
        have aa8 : AlA K H8 ac 62 62 (ns.take us.length) := aa8
        rw [la, List.take_length] at aa8
        have e8 := pn7.lst s8 e7
        have al8 := pn7.al s8 al7
        have b8 := b7.trans s8
        have pn8 := pn8.more (show _ ≤ n + 600 by omega)
        have lns : ns.length ≤ 10 := by omega
        have lac10 : ac.length ≤ 10 := by omega
        -- due
        refine ⟨_, rfl, _, ns, rfl, ⟨y, us, rfl, e8, al8⟩, by omega, fun dv H9 ts s9 lrd trd ltd etd => ?_⟩
        obtain ⟨ld, wd, rfl, hld, ald⟩ := lrd
        refine ⟨ld, wd, rfl, .inl ⟨SqL.of hld, fun dt ndt => ?_⟩⟩
        have s10 := Same.new (o := .tup wd) ndt
        have hdt : upd H9 dt (.tup wd) dt = some (.tup wd) := upd_same
        have ald := ald.same s10
        have s10 := s9.trans s10
        generalize upd H9 dt (.tup wd) = H10 at s10 hdt ald
        refine ⟨(by show 2 ≤ sizeLine; decide), fun tt ntt => ?_⟩
        have s11 := Same.new (o := .tup [.ref G, .ref dt]) ntt
        have ett : SqT K (upd H10 tt (.tup [.ref G, .ref dt])) tt [.ref G, .ref dt] := SqT.of upd_same
        have hdt := s11 _ _ hdt
        have ald := ald.same s11
        have s11 := s10.trans s11
        refine ⟨tt, _, rfl, ett, rfl, _, _, rfl, _, _, rfl, rfl, ?_⟩
        generalize upd H10 tt (.tup [.ref G, .ref dt]) = H11 at s11 hdt ald
        have eG := s11 _ _ eG
        have aa := aa8.same s11
        have lf : ∀ u ∈ ac, u ≠ .ref G ∧ Leaf H11 u := fun u hu => ⟨(lf8 u hu).1, (lf8 u hu).2.same s11⟩
        have pn := pn8.same s11
        have b := b8.trans (.ofSame s11)
        clear ett s10 hld s9 s8 aa8 lf8 pn8 b8 al8 e8 al7 e7 pn7
        -- kept
        obtain ⟨ds, dqs, f⟩ := all_leaf (K := K) (H := Kz.cl p H11) (vs := ac) fun u hu => (lf u hu).2.cl pn
        have shG : Shows (.list ds) := list_shows (f.up (by omega : 11 * ac.length ≤ 2200))
        have hG : DqT K H11 (.ref G) (.list ds) := .inr ⟨G, ac, ds, rfl, eG, dqs.same cl_sub, rfl⟩
        refine ⟨_, rfl, _, _, rfl, hG, shG.sh, shG.dp, shG.ln, ?_⟩
        -- made
        refine ⟨_, rfl, _, rfl, _, rfl, G, ac, rfl, .inl ⟨SqL.of eG, fun t nt => ?_⟩⟩
        have s12 := Same.new (o := .tup ac) nt
        have e12 : upd H11 t (.tup ac) t = some (.tup ac) := upd_same
        have pn12 := pn.same s12
        generalize upd H11 t (.tup ac) = H12 at s12 e12 pn12
        refine ⟨(by show 2 ≤ sizeLine; decide), fun g ng => ?_⟩
        have s13 := Same.new (o := .lst [.ref G, .ref t]) ng
        have pn13 := pn12.same s13
        have s13 := s12.trans s13
        refine ⟨p, c, g, _, _, rfl, pn13, by omega, upd_same, (by show 0 < 2; decide), (by show 2 < 1000000; decide), fun w u H14 hw pn14 b14 => ?_⟩
        have e12 : SqT K H14 t ac := pn13.seqT b14 (SqT.of ((Same.new (o := .lst [.ref G, .ref t]) ng) _ _ e12))
        have b14 : But p H11 H14 := (But.ofSame s13).trans b14
        have eG := pn.lst b14 eG
        have hdt : SqT K H14 dt wd := pn.seqT b14 (SqT.of hdt)
        have ald := pn.al b14 ald
        have aa := pn.alA b14 aa
        have lf : ∀ u ∈ ac, u ≠ .ref G ∧ Leaf H14 u := fun u hu => ⟨(lf u hu).1, (lf u hu).2.pen pn b14⟩
        have b := b.trans b14
        have dqs := dqs.same b14.cl
        obtain ⟨a, rfl, sa⟩ : ∃ a, u = .ref a ∧ Sq K H14 a ac := by
          have mem := mem_of_at hw
          simp only [List.mem_cons, List.not_mem_nil, or_false] at mem
          rcases mem with rfl | rfl
          · exact ⟨_, rfl, .inl (SqL.of eG)⟩
          · exact ⟨_, rfl, .inr e12⟩
        have pn := pn14
        clear hG f pn14 b14 pn13 s13 pn12 s12 s11
        refine poly_made' sa aa (by omega) (by omega) fun v H15 rs s15 pa lrs ers => ?_
        have ets : rs = ts := tr_ext pa.tr trd fun i => by rw [ers, etd]
        subst ets
        have eG := s15 _ _ eG
        have hdt := Kz.Same.seqT s15 hdt
        have ald := ald.same s15
        have aa := aa.same s15
        have lf : ∀ u ∈ ac, u ≠ .ref G ∧ Leaf H15 u := fun u hu => ⟨(lf u hu).1, (lf u hu).2.same s15⟩
        have b := b.trans (.ofSame s15)
        have pn := pn.same s15
        -- kept as it was
        have len_w : wd.length = rs.length := ald.1
        have lrs10 : rs.length ≤ 10 := by omega
        have zts : ∀ q ∈ rs, Sz 62 62 q := fun q hm => by
          obtain ⟨i, li⟩ := List.getElem?_of_mem hm
          have lt := (List.getElem?_eq_some_iff.mp li).1
          have e : q = cf rs i := (cf_at li).symm
          rw [e, ers i]
          exact aa.sz i (by omega)
        have shT : Shows (.tuple (rs.map pdQ)) := rows_shows zts (by decide) (by decide) (by omega)
        have dqs := dqs.same (But.ofSame s15 : But p H14 H15).cl
        have hG : DqT K H15 (.ref G) (.list ds) := .inr ⟨G, ac, ds, rfl, eG, dqs.same cl_sub, rfl⟩
        have zsz : SzA 62 62 rs := fun i li => zts _ (mem_cf li)
        obtain ⟨_, pdx, pt, pw, epa, hpa, hpt, apw, _⟩ := id pa
        cases epa
        refine ⟨_, rfl, _, _, rfl, hG, shG.sh, shG.dp, shG.ln, _, rfl, rfl, _, rfl, ?_⟩
        rw [ne_same]
        refine iteF ⟨_, rfl, v, T.cP, pdx, _, _, rfl, hpa, T.clP, T.nP, lkN, _, _, rfl, .tup hpt apw.dq, shT.sh, shT.dp, shT.ln, ?_⟩
        refine ⟨_, rfl, _, _, rfl, .tup hdt ald.dq, shT.sh, shT.dp, shT.ln, rfl, _, rfl, ?_⟩
        rw [ne_same]
        refine iteF ⟨_, rfl, v, pdx, _, rfl, hpa, lkD, _, rs, rfl, pa, ?_⟩
        refine ⟨_, rfl, dt, wd, rfl, .inr hdt, _, _, rfl, rfl, rfl, _, rfl, ?_⟩
        rw [show decide (V.int ((rs.length : Int) - 1) = V.int ((wd.length : Int) - 1)) = true from decide_eq_true (by rw [len_w])]
        refine iteF ?_
        clear hG dqs shG shT apw hpt hpa
        -- comparisons
        refine ⟨_, rfl, _, rfl, dt, wd, rfl, .inr hdt, fun l nl => ?_⟩
        have s16 := Same.new (o := .lst wd) nl
        have e16 : upd H15 l (.lst wd) l = some (.lst wd) := upd_same
        generalize upd H15 l (.lst wd) = H16 at s16 e16
        refine ⟨(by show 1 ≤ sizeLine; decide), fun l2 nl2 => ?_⟩
        have s17 := Same.new (o := .lst [.int 1]) nl2
        have e17 : upd H16 l2 (.lst [.int 1]) l2 = some (.lst [.int 1]) := upd_same
        have e16 := s17 _ _ e16
        have s17 := s16.trans s17
        generalize upd H16 l2 (.lst [.int 1]) = H17 at s17 e17 e16
        refine ⟨l, l2, wd, [.int 1], rfl, rfl, e16, e17, (by show wd.length + 1 ≤ sizeLine; rw [sizeLine_eq]; omega), fun l3 nl3 => ?_⟩
        have s18 := Same.new (o := .lst (wd ++ [.int 1])) nl3
        have e18 : upd H17 l3 (.lst (wd ++ [.int 1])) l3 = some (.lst (wd ++ [.int 1])) := upd_same
        have s18 := s17.trans s18
        generalize upd H17 l3 (.lst (wd ++ [.int 1])) = H18 at s18 e18
        have a18 : AlA K H18 (wd ++ [.int 1]) 62 62 (rs ++ [((1 : Int) : Rat)]) := ((ald.same s18).arg zsz).snoc (arg_int (by decide) (by decide))
        refine poly_made' (.inl (SqL.of e18)) a18 (by decide) (by rw [List.length_append]; show wd.length + 1 ≤ 1000; omega) fun v6 H19 rs6 s19 p6 l6 e6 => ?_
        refine ⟨rs, pa.same (s18.trans s19), .inl ⟨rs6, p6, _, rfl, ?_⟩⟩
        have ne6 : rs ≠ rs6 := fun z => by
          have h := e6 rs.length
          rw [← z, cf_out (Nat.le_refl _), cf_at (q := ((1 : Int) : Rat)) (by rw [List.getElem?_append_right (Nat.le_refl _), Nat.sub_self]; rfl)] at h
          exact absurd h (by decide)
        rw [decide_eq_false ne6]
        have s19 := s18.trans s19
        refine iteF ⟨_, rfl, _, rfl, rs, pa.same s19, .inr ⟨"tuple", .inr ⟨rfl, dt, wd, rfl, Kz.Same.seqT s19 hdt⟩, _, rfl, iteF ?_⟩⟩
        clear p6 e6 ne6 l6 a18 e18 e17 e16 s17 s16
        refine ⟨(by show 1 ≤ sizeLine; decide), fun t3 nt3 => ?_⟩
        have s20 := Same.new (o := .tup [.int 3]) nt3
        have e20 : upd H19 t3 (.tup [.int 3]) t3 = some (.tup [.int 3]) := upd_same
        have s20 := s19.trans s20
        generalize upd H19 t3 (.tup [.int 3]) = H20 at s20 e20
        refine poly_made' (.inr (SqT.of e20)) (AlA.snoc AlA.nil (arg_int (i := 3) (n := 62) (m := 62) (by decide) (by decide))) (by decide) (by show 1 ≤ 1000; decide) fun v7 H21 rs7 s21 p7 l7' e7' => ?_
        refine ⟨rs7, p7, .inr ⟨"int", .inl ⟨rfl, _, rfl⟩, _, rfl, iteF ?_⟩⟩
        have s21 := s20.trans s21
        refine ⟨_, rfl, _, rfl, ?_⟩
        refine poly_made' (.inr (Kz.Same.seqT s21 hdt)) ((ald.same s21).arg zsz) (by decide) (by omega) fun v8 H22 rs8 s22 p8 l8 e8 => ?_
        have e8' : rs = rs8 := tr_ext pa.tr p8.tr fun i => (e8 i).symm
        have s22 := s21.trans s22
        refine ⟨rs, pa.same s22, .inl ⟨rs8, p8, _, rfl, ?_⟩⟩
        rw [decide_eq_true e8']
        refine iteF ?_
        have eG := s22 _ _ eG
        have aa := aa.same s22
        have lf : ∀ u ∈ ac, u ≠ .ref G ∧ Leaf H22 u := fun u hu => ⟨(lf u hu).1, (lf u hu).2.same s22⟩
        have b := b.trans (.ofSame s22)
        have pn := pn.same s22
        clear e8' e8 p8 l8 s21 e7' p7 l7' e20 s20 s19 s18 hdt ald zsz pa zts ers etd trd
        -- an odd value
        refine ⟨_, rfl, p, c, _, rfl, pn, by omega, fun o H23 pn23 b23 oz => ?_⟩
        have zG : H22 G = some (.lst ac) := eG
        have eG := pn.lst b23 eG
        have aa := pn.alA b23 aa
        have lf : ∀ u ∈ ac, u ≠ .ref G ∧ Leaf H23 u := fun u hu => ⟨(lf u hu).1, (lf u hu).2.pen pn b23⟩
        have b := b.trans b23
        have pn := pn23.more (show _ ≤ n + 650 by omega)
        refine ⟨fun ρ G' => ∃ v1 v2 v3 v4 v5 v6 : Option V, ρ = [some (.ref p), v1, v2, v3, v4, v5, v6, none, none, none] ∧ Pen G' p c (n + 700) ∧ ButN p H G' ∧ LamX.Tabs T.Tl G', ?_, ?_⟩
        · refine ⟨_, rfl, (by show 0 ≤ sizeLine; decide), fun z nz => ?_⟩
          have s24 := Same.new (o := .lst []) nz
          have ez : upd H23 z (.lst []) z = some (.lst []) := upd_same
          have eG := s24 _ _ eG
          have aa := aa.same s24
          have lf : ∀ u ∈ ac, u ≠ .ref G ∧ Leaf (upd H23 z (.lst [])) u := fun u hu => ⟨(lf u hu).1, (lf u hu).2.same s24⟩
          have b := b.trans (.ofSame s24)
          have pn := pn.same s24
          have oz := oz.but (.ofSame s24)
          generalize upd H23 z (.lst []) = H24 at ez eG aa lf b pn oz
          refine ⟨G, z, ac, rfl, rfl, SqL.of eG, SqL.of ez, _, rfl, ?_⟩
          by_cases a0 : ac = []
          · rw [decide_eq_true a0]
            exact iteF ⟨_, _, _, _, _, _, rfl, pn.more (by omega), b.toN, pen0.tabs b tabs⟩
          · rw [decide_eq_false a0]
            have l0 : 0 < ac.length := List.length_pos_iff.mpr a0
            refine iteT ⟨_, rfl, _, rfl, _, rfl, _, rfl, G, ac, rfl, .inl (SqL.of eG), p, c, _, _, rfl, pn, by omega, ?_, ?_, fun k' H25 k0 k1 pn25 b25 => ?_⟩
            · show 0 < ((ac.length : Nat) : Int)
              omega
            · show ((ac.length : Nat) : Int) < 1073741824
              omega
            have k1' : k' < ((ac.length : Nat) : Int) := k1
            have eG := pn.lst b25 eG
            have aa := pn.alA b25 aa
            have lf : ∀ u ∈ ac, u ≠ .ref G ∧ Leaf H25 u := fun u hu => ⟨(lf u hu).1, (lf u hu).2.pen pn b25⟩
            have b := b.trans b25
            have oz := oz.but b25
            obtain ⟨j, rfl⟩ := Int.eq_ofNat_of_zero_le k0
            refine ⟨G, ac, _, j, rfl, rfl, eG, (by unfold ixN; rw [if_pos k0, if_pos k1']; rfl), ?_⟩
            have e26 : upd H25 G (.lst (ac.set j o)) G = some (.lst (ac.set j o)) := upd_same
            have so := cz_upd (p := p) (H := H25) (o' := .lst (ac.set j o)) zG
            have b26 : But G H25 (upd H25 G (.lst (ac.set j o))) := But.refl.set
            have pn26 := pn25.set (o := .lst (ac.set j o)) nGp nGc
            have bN : ButN p H (upd H25 G (.lst (ac.set j o))) := fun c' oc ec nc _ => b26 _ _ (b _ _ ec nc) (ne_of_none ec noG)
            have bT : But p H (upd H25 G (.lst (ac.set j o))) := fun c' oc ec nc => b26 _ _ (b _ _ ec nc) (ne_of_none ec noG)
            have lG : ∀ oo, H25 G = some oo → ∃ us, oo = .lst us := fun oo e => by
              rw [eG] at e
              cases e
              exact ⟨_, rfl⟩
            have lf6 : ∀ u ∈ ac, Leaf (upd H25 G (.lst (ac.set j o))) u := fun u hu => (lf u hu).2.but (lf u hu).1 b26
            have aq6 : ∀ (i : Nat) (u : V), ac[i]? = some u → ArgQ K (upd H25 G (.lst (ac.set j o))) u 62 62 (cf ns i) := fun i u e => by
              have li : i < ns.length := by
                have := (List.getElem?_eq_some_iff.mp e).1
                omega
              exact bear_argQ lG (lf u (List.mem_of_getElem? e)).1 b26 (aa.2 i u _ e (at_cf li))
            generalize upd H25 G (.lst (ac.set j o)) = H26 at e26 so b26 pn26 bN bT lf6 aq6
            have jl : j < ac.length := by omega
            have eC : Kz.cl p H26 G = some (.lst (ac.set j o)) := cl_at nGp e26 fun _ z => nomatch z
            have nr : NotRow K (Kz.cl p H26) (.ref G) := by
              refine .inr ⟨G, ac.set j o, (List.replicate ac.length true).set j false, rfl, .inl (SqL.of eC), by rw [List.length_set]; omega, ⟨by rw [List.length_set, List.length_set, List.length_replicate], fun i u bb e1 e2 => ?_⟩, ?_⟩
              · by_cases ij : j = i
                · subst ij
                  rw [List.getElem?_set_self jl] at e1
                  rw [List.getElem?_set_self (by rw [List.length_replicate]; exact jl)] at e2
                  cases e1
                  cases e2
                  exact (oz.o.same so).rb
                · rw [List.getElem?_set_ne ij] at e1 e2
                  have il : i < ac.length := (List.getElem?_eq_some_iff.mp e1).1
                  rw [List.getElem?_replicate, if_pos il] at e2
                  cases e2
                  exact (pn26.cArg (aq6 i u e1)).rb
              · exact List.all_eq_false.mpr ⟨false, List.mem_of_getElem? (List.getElem?_set_self (by rw [List.length_replicate]; exact jl)), by decide⟩
            obtain ⟨ds2, dq2, f2⟩ := one_odd (K := K) (H := Kz.cl p H26) (oz.g.same so) (vs := ac) j fun u hu => (lf6 u hu).cl pn26
            have sh2 : Shows (.list ds2) := list_shows (f2.up (by omega))
            have hd2 : DqT K (Kz.cl p H26) (.ref G) (.list ds2) := .inr ⟨G, _, ds2, rfl, eC, dq2, rfl⟩
            refine ⟨pen0.tabs bT tabs, fun G5 x5 tb5 => ?_⟩
            have b5 : ButN p H26 G5 := fun b o e _ nt => x5 b o e nt
            have s5 : Same (Kz.cl p H26) G5 := Same.trans b5.cl cl_sub
            refine ⟨_, rfl, poly_bad' (nr.same s5) (er_rowT (hd2.same s5) sh2 fun t5 G6 s6 e6 => ?_)⟩
            refine ⟨_, rfl, _, _, rfl, hd2.same (s5.trans s6), sh2.sh, sh2.dp, sh2.ln, (by show 2 ≤ sizeLine; decide), fun t2 nt2 => ?_⟩
            have s7 := Same.new (o := .tup [.str "row", .str (PyData.list ds2).shown]) nt2
            have s67 := s6.trans s7
            refine ⟨t5, t2, ["row", (PyData.list ds2).shown], rfl, rfl, SqT.of (s7 _ _ e6), SqT.of upd_same, _, rfl, iteF ⟨_, _, _, _, _, _, rfl, ((pn26.extN x5).same s67).more (by omega), bN.trans fun b ob e _ nt => s67 _ _ (x5 b ob e nt), tb5.ext s67⟩⟩
        · rintro ρ H27 ⟨v1, v2, v3, v4, v5, v6, rfl, pn, bN, tb⟩
          -- strange ones
          refine ⟨_, rfl, fun q6 n6 => ?_⟩
          have nm : Same H27 (upd (upd H27 q6 (.dK [])) q6 (.dK (mergeK [] [(.inr "a", .int 1)]))) := fun b o e => by
            have ne := ne_of_none e n6
            rw [upd_ne ne, upd_ne ne]
            exact e
          have q6p : q6 ≠ p := pn.newP n6
          have e6 : upd (upd H27 q6 (.dK [])) q6 (.dK (mergeK [] [(.inr "a", .int 1)])) q6 = some (.dK [(.inr "a", .int 1)]) := upd_same
          have pn28 := pn.same nm
          refine ⟨upd_same, [(.inr "a", .int 1)], rfl, (by show 1 ≤ 15; decide), ?_⟩
          generalize upd (upd H27 q6 (.dK [])) q6 (.dK (mergeK [] [(.inr "a", .int 1)])) = H28 at nm e6 pn28
          refine ⟨(by show 5 ≤ sizeLine; decide), fun l nl => ?_⟩
          have s29 := Same.new (o := .lst [.non, .int 5, .str "12", .ref q6, .bl true]) nl
          have pn29 := pn28.same s29
          refine ⟨p, c, l, _, _, rfl, pn29, by omega, upd_same, (by show 0 < 5; decide), (by show 5 < 1000000; decide), fun j u H30 hj pn30 b30 => ?_⟩
          have bb : But p H27 H30 := (But.ofSame (nm.trans s29)).trans b30
          have eC : Kz.cl p H30 q6 = some (.dK [(.inr "a", .int 1)]) := cl_at q6p (b30 _ _ (s29 _ _ e6) q6p) fun _ z => nomatch z
          obtain ⟨d, hd, sm, nr⟩ : ∃ d, Dq K (Kz.cl p H30) u d ∧ Small d ∧ NotRow K (Kz.cl p H30) u := by
            have mem := mem_of_at hj
            simp only [List.mem_cons, List.not_mem_nil, or_false] at mem
            rcases mem with rfl | rfl | rfl | rfl | rfl
            · exact ⟨.none, .non, ⟨by decide +kernel, by decide +kernel, by decide +kernel, by decide +kernel⟩, .inl ⟨_, ty_non, by decide, by decide⟩⟩
            · exact ⟨.int 5, .int _, ⟨by decide +kernel, by decide +kernel, by decide +kernel, by decide +kernel⟩, .inl ⟨_, ty_int, by decide, by decide⟩⟩
            · exact ⟨.str "12", .str _, ⟨by decide +kernel, by decide +kernel, by decide +kernel, by decide +kernel⟩, .inl ⟨_, ty_str, by decide, by decide⟩⟩
            · exact ⟨.dict [(.str "a", .int 1)], .dic eC (.cons (.int _) .nil), ⟨by decide +kernel, by decide +kernel, by decide +kernel, by decide +kernel⟩, .inl ⟨_, ty_dic eC, by decide, by decide⟩⟩
            · exact ⟨.bool true, .bl _, ⟨by decide +kernel, by decide +kernel, by decide +kernel, by decide +kernel⟩, .inl ⟨_, ty_bl, by decide, by decide⟩⟩
          have sh := sm.shows
          refine ⟨pn.tabs bb tb, fun G5 x5 tb5 => ?_⟩
          have b5 : ButN p H30 G5 := fun b o e _ nt => x5 b o e nt
          have s5 : Same (Kz.cl p H30) G5 := Same.trans b5.cl cl_sub
          refine ⟨_, rfl, poly_bad' (nr.same s5) (er_row (hd.same s5) sh fun t5 G6 s6 e6 => ?_)⟩
          refine ⟨_, rfl, _, _, rfl, hd.same (s5.trans s6), sh.sh, sh.dp, sh.ln, (by show 2 ≤ sizeLine; decide), fun t2 nt2 => ?_⟩
          have s7 := Same.new (o := .tup [.str "row", .str d.shown]) nt2
          have s67 := s6.trans s7
          refine ⟨t5, t2, ["row", d.shown], rfl, rfl, SqT.of (s7 _ _ e6), SqT.of upd_same, k _ (((pn30.extN x5).same s67).more (by omega)) ((bN.trans bb.toN).trans fun b ob e _ nt => s67 _ _ (x5 b ob e nt)) (tb5.ext s67)⟩
end
end Kz
set_option linter.all false
set_option maxRecDepth 100000
set_option maxHeartbeats 8000000
namespace Kz
open PySem PySem.Spec PyProof.Rows L2
/-! ### sizes of what the law tells -/
def lstOf (g : Nat → Rat) (n : Nat) : List Rat := (List.range n).map g
theorem cf_lstOf {g : Nat → Rat} {n : Nat} (z : ∀ i, n ≤ i → g i = 0) (i : Nat) : cf (lstOf g n) i = g i := by
  rcases Nat.lt_or_ge i n with lt | ge
  · exact cf_at (by unfold lstOf; rw [List.getElem?_map, List.getElem?_range lt]; rfl)
  · rw [z i ge]
    exact cf_out (by unfold lstOf; rw [List.length_map, List.length_range]; exact ge)
theorem one0_out {q : Rat} {i : Nat} (h : 1 ≤ i) : one0 q i = 0 := if_neg (by omega)
theorem pair_out {a b : Rat} (i : Nat) (h : 2 ≤ i) : cf [a, b] i = 0 := cf_out h
theorem mvd_cd {f : Nat → Rat} {N : Nat} {a b : Rat} (za : Sz 10 7 a) (zb : Sz 10 7 b) (zf : ∀ i, Sz 10 7 (f i)) : ∀ j, j ≤ 7 → ∃ rs : List Rat, (∀ i, cf rs i = mvd f N (cf [a, b]) j i) ∧ CD (1 + 250 * j) (1 + 21 * j) rs
  | 0, _ => ⟨[], fun i => cf_out (Nat.zero_le _), 1, by decide, by decide, fun i => ⟨0, by decide, by rw [Rat.zero_divInt]; exact cf_out (Nat.zero_le _)⟩⟩
  | j + 1, h => by
    obtain ⟨rs, e, c⟩ := mvd_cd (N := N) za zb zf j (by omega)
    have ef : cf rs = mvd f N (cf [a, b]) j := funext e
    have zc : ∀ i, j + 1 ≤ i → convN (j + 1) (cf rs) (cf [a, b]) i = 0 := fun i hi => by
      have z := mvd_zero (f := f) (N := N) (ln := cf [a, b]) pair_out (j + 1) i hi
      rw [ef]
      have z2 : convN (j + 1) (mvd f N (cf [a, b]) j) (cf [a, b]) i + one0 (f (N - 1 - j)) i = 0 := z
      rw [one0_out (by omega)] at z2
      rwa [Rat.add_zero] at z2
    have c1 := conv_cd (N := j + 1) c (pair_cd za zb (by decide) (by decide) (rs := [a, b]) fun i => rfl) (by omega) (cf_lstOf zc)
    have c2 := one_cd (zf (N - 1 - j)) (rs := [f (N - 1 - j)]) fun i => cf_one i
    refine ⟨lstOf (mvd f N (cf [a, b]) (j + 1)) (j + 1), cf_lstOf (mvd_zero pair_out (j + 1)), (CD.both c1 c2 fun i => ?_).up (by omega) (by omega)⟩
    rw [cf_lstOf (mvd_zero pair_out (j + 1)), cf_lstOf zc, cf_one, ef]
    rfl
theorem mvd_sz {f : Nat → Rat} {N : Nat} {a b : Rat} (za : Sz 10 7 a) (zb : Sz 10 7 b) (zf : ∀ i, Sz 10 7 (f i)) {j : Nat} (h : j ≤ 7) (i : Nat) : Sz 1900 1900 (mvd f N (cf [a, b]) j i) := by
  obtain ⟨rs, e, c⟩ := mvd_cd (N := N) za zb zf j h
  rw [← e i]
  exact (c.sz i).up (by omega) (by omega)
theorem hn_sz {f : Nat → Rat} {N : Nat} {x : Rat} (zx : Sz 10 7 x) (zf : ∀ i, Sz 10 7 (f i)) : ∀ j, j ≤ 7 → Sz (1 + 250 * j) (1 + 14 * j) (hn f N x j)
  | 0, _ => ⟨by show (0 : Rat).num.natAbs < _; decide, by show (0 : Rat).den < _; decide⟩
  | j + 1, h => by
    have ih := hn_sz (N := N) zx zf j (by omega)
    exact (add_sz (mul_sz ih zx) (zf (N - 1 - j))).up (by omega) (by omega)
theorem int_sz {k : Int} {n : Nat} (h : k.natAbs < 2 ^ n) : Sz n 1 (k : Rat) := ⟨by rw [Rat.num_intCast]; exact h, by rw [Rat.den_intCast]; decide⟩
theorem zero_sz {n m : Nat} (h : 0 < m) : Sz n m 0 := ⟨Nat.two_pow_pos n, Nat.one_lt_two_pow (by omega)⟩
theorem small3 {i : Nat} (h : i < 7) : ((i + 1 : Nat) : Int).natAbs < 2 ^ 3 := by
  show i + 1 < 8
  omega
theorem slope_sz {qs : List Rat} (z : ∀ i, Sz 10 7 (cf qs i)) (l : qs.length ≤ 6) (i : Nat) : Sz 1900 1900 (cf qs (i + 1) * (((i + 1 : Nat) : Int) : Rat)) := by
  rcases Nat.lt_or_ge (i + 1) qs.length with lt | ge
  · exact (mul_sz (z (i + 1)) (int_sz (k := ((i + 1 : Nat) : Int)) (n := 3) (small3 (by omega)))).up (by decide) (by decide)
  · rw [cf_out ge, Rat.zero_mul]
    exact zero_sz (by decide)
theorem pos_ne {i : Nat} : (((i + 1 : Nat) : Int) : Rat) ≠ 0 := fun z => by
  have := Rat.intCast_eq_zero_iff.mp z
  omega
theorem area_sz {qs : List Rat} (z : ∀ i, Sz 10 7 (cf qs i)) (l : qs.length ≤ 6) : ∀ i, Sz 20 20 (arF (cf qs) i)
  | 0 => zero_sz (by decide)
  | i + 1 => by
    show Sz 20 20 (cf qs i / (((i + 1 : Nat) : Int) : Rat))
    rcases Nat.lt_or_ge i qs.length with lt | ge
    · exact (div_sz (z i) (int_sz (k := ((i + 1 : Nat) : Int)) (n := 3) (small3 (by omega))) pos_ne).up (by decide) (by decide)
    · rw [cf_out ge]
      have e : (0 : Rat) / (((i + 1 : Nat) : Int) : Rat) = 0 := by grind
      rw [e]
      exact zero_sz (by decide)
theorem area_slope {f : Nat → Rat} (i : Nat) : (((i + 1 : Nat) : Int) : Rat) * arF f (i + 1) = f i := by
  show (((i + 1 : Nat) : Int) : Rat) * (f i / (((i + 1 : Nat) : Int) : Rat)) = f i
  have h := pos_ne (i := i)
  generalize (((i + 1 : Nat) : Int) : Rat) = t at h
  grind
/-- a row of the list: a Poly and what is due -/
def RowOk (K : PySem.W.Frag) (cP : Addr) (H : Hp) (u : V) : Prop := ∃ t pv dv ts, u = .ref t ∧ SqT K H t [pv, dv] ∧ PolyAt K cP H pv ts ∧ LR K H dv ts ∧ (∀ i, Sz 1900 1900 (cf ts i)) ∧ ts.length ≤ 1000
section
variable {K : PySem.W.Frag} {cP : Addr} {H H' : Hp}
theorem LR.same' {v : V} {qs : List Rat} (s : Same H H') (h : LR K H v qs) : LR K H' v qs := h.same s
theorem RowOk.same {u : V} (s : Same H H') (h : RowOk K cP H u) : RowOk K cP H' u := by
  obtain ⟨t, pv, dv, ts, e, h1, h2, h3, h4⟩ := h
  exact ⟨t, pv, dv, ts, e, Kz.Same.seqT s h1, h2.same s, h3.same s, h4⟩
theorem RowOk.but {u : V} {p c : Addr} {n : Nat} (pen : Pen H p c n) (b : But p H H') (h : RowOk K cP H u) : RowOk K cP H' u := by
  obtain ⟨t, pv, dv, ts, e, h1, h2, h3, h4⟩ := h
  exact ⟨t, pv, dv, ts, e, pen.seqT b h1, pen.poly b h2, pen.lr b h3, h4⟩
theorem RowOk.new {t : Addr} {pv dv : V} {ts rs : List Rat} (nt : H t = none) (pa : PolyAt K cP H pv ts) (lr : LR K H dv rs) (tr : Tr rs) (e : ∀ i, cf ts i = cf rs i) (z : ∀ i, Sz 1900 1900 (cf rs i)) (l : rs.length ≤ 1000) : RowOk K cP (upd H t (.tup [pv, dv])) (.ref t) := by
  have et : ts = rs := tr_ext pa.tr tr e
  subst et
  have s := Same.new (o := .tup [pv, dv]) nt
  exact ⟨t, pv, dv, ts, rfl, SqT.of upd_same, pa.same s, lr.same s, z, l⟩
end
/-- what was drawn, and what is made of it -/
theorem rsm_sz {m : Nat} {qs : List Rat} (h : ∀ i, Rsm m (cf qs i)) (hm : m ≤ 9) (i : Nat) : Sz 10 7 (cf qs i) := (h i).sz hm
theorem rsm_cd {qs : List Rat} (h : ∀ i, Rsm 5 (cf qs i)) (l : qs.length ≤ 6) : CD 43 40 qs := (rsm_cdn h l).cd (by decide) (by decide)
theorem cd_scaled {x y : Nat} {qs rs : List Rat} (h : CD x y qs) (e : ∀ i, cf rs i = cf qs i * (-1 : Rat)) : CD x y rs := by
  obtain ⟨M, m0, m1, hM⟩ := h
  refine ⟨M, m0, m1, fun i => ?_⟩
  obtain ⟨z, hz, ez⟩ := hM i
  refine ⟨-z, by rw [Int.natAbs_neg]; exact hz, ?_⟩
  rw [e, ez, ← Rat.neg_divInt]
  grind
theorem lkSl {v : V} : ([(("numbers" : Str), v)] : List (Str × V)).lookup ("slope" : Str) = none := by
  have e : ((("slope" : Str)) == (("numbers" : Str))) = false := by decide +kernel
  simp [List.lookup, e]
theorem lkAr {v : V} : ([(("numbers" : Str), v)] : List (Str × V)).lookup ("area" : Str) = none := by
  have e : ((("area" : Str)) == (("numbers" : Str))) = false := by decide +kernel
  simp [List.lookup, e]
theorem lkMv {v : V} : ([(("numbers" : Str), v)] : List (Str × V)).lookup ("moved" : Str) = none := by
  have e : ((("moved" : Str)) == (("numbers" : Str))) = false := by decide +kernel
  simp [List.lookup, e]
theorem lkAt {v : V} : ([(("numbers" : Str), v)] : List (Str × V)).lookup ("at" : Str) = none := by
  have e : ((("at" : Str)) == (("numbers" : Str))) = false := by decide +kernel
  simp [List.lookup, e]
/-- a ratio as the law passes it: an integer, or a tuple of two -/
def VOk (K : PySem.W.Frag) (H : Hp) (v : V) (q : Rat) : Prop := (∃ i : Int, v = .int i ∧ q = (i : Rat) ∧ i.natAbs < 2 ^ 12) ∨
  (∃ (a : Addr) (x y : Int), v = .ref a ∧ SqT K H a [.int x, .int y] ∧ 0 < y ∧ q = Rat.divInt x y ∧ x.natAbs < 2 ^ 12 ∧ y.natAbs < 2 ^ 12)
section
variable {K : PySem.W.Frag} {H H' : Hp} {v : V} {q : Rat}
theorem VOk.same (s : Same H H') (h : VOk K H v q) : VOk K H' v q := by
  rcases h with h | ⟨a, x, y, e, h, r⟩
  · exact .inl h
  · exact .inr ⟨a, x, y, e, Kz.Same.seqT s h, r⟩
theorem VOk.but {p c : Addr} {n : Nat} (pen : Pen H p c n) (b : But p H H') (h : VOk K H v q) : VOk K H' v q := by
  rcases h with h | ⟨a, x, y, e, h, r⟩
  · exact .inl h
  · exact .inr ⟨a, x, y, e, pen.seqT b h, r⟩
theorem VOk.arg (h : VOk K H v q) : ArgQ K H v 12 12 q := by
  rcases h with ⟨i, rfl, rfl, l⟩ | ⟨a, x, y, rfl, h, y0, rfl, l1, l2⟩
  · exact arg_int l (by decide)
  · exact ⟨x, y, .two (.inr h) y0, rfl, l1, l2⟩
theorem VOk.plain (h : VOk K H v q) : ∃ T, Plain K H v T := by
  rcases h with ⟨i, rfl, _⟩ | ⟨a, x, y, rfl, h, _⟩
  · exact ⟨"int", .inl ⟨rfl, i, rfl⟩⟩
  · exact ⟨"tuple", .inr ⟨rfl, a, _, rfl, h⟩⟩
theorem VOk.ty (h : VOk K H v q) : ∃ t, TyN K H v t ∧ (t == "list") = false := by
  rcases h with ⟨i, rfl, _⟩ | ⟨a, x, y, rfl, h, _⟩
  · exact ⟨_, ty_int, by decide⟩
  · exact ⟨_, ty_tup h, by decide⟩
theorem VOk.of (h : RV K H v q) (z : Sz 10 7 q) : VOk K H v q := by
  obtain ⟨t, rfl, h⟩ := h
  exact .inr ⟨t, _, _, rfl, h, den_pos' q, (Rat.num_divInt_den q).symm, up_lt z.1 (by decide), up_lt (den_abs z) (by decide)⟩
theorem VOk.three {t : Addr} (h : SqT K H t [.int (3 * q.num), .int (3 * (q.den : Int))]) (z : Sz 10 7 q) : VOk K H (.ref t) q := by
  have e1 : (2 : Nat) ^ 12 = 4096 := by decide
  have e2 : (2 : Nat) ^ 10 = 1024 := by decide
  have e3 : (2 : Nat) ^ 7 = 128 := by decide
  have z1 := z.1
  have z2 := z.2
  have d0 := q.den_pos
  refine .inr ⟨t, _, _, rfl, h, by omega, ?_, by omega, by omega⟩
  rw [Rat.divInt_mul_left (by decide : (3 : Int) ≠ 0)]
  exact (Rat.num_divInt_den q).symm
theorem VOk.int (z : Sz 10 7 q) (d : q.den = 1) : VOk K H (.int q.num) q := by
  refine .inl ⟨q.num, rfl, ?_, up_lt z.1 (by decide)⟩
  have e := Rat.num_divInt_den q
  rw [d] at e
  have e2 := Rat.num_divInt_den ((q.num : Int) : Rat)
  rw [Rat.num_intCast, Rat.den_intCast] at e2
  exact e.symm.trans e2
end
theorem conv_oneR {f : Nat → Rat} {q : Rat} : ∀ n i : Nat, convN n f (one0 q) i = if i < n then f i * q else 0
  | 0, i => by
    rw [if_neg (by omega)]
    rfl
  | n + 1, i => by
    rw [convN_succ, conv_oneR n i]
    rcases Nat.lt_trichotomy i n with lt | e | gt
    · rw [if_pos lt, if_neg (by omega), if_pos (by omega), Rat.add_zero]
    · subst e
      rw [if_neg (by omega), if_pos (Nat.le_refl _), if_pos (by omega), Nat.sub_self, Rat.zero_add]
      rfl
    · rw [if_neg (by omega), if_pos (by omega), if_neg (by omega), one0_out (by omega), Rat.mul_zero, Rat.add_zero]
theorem conv_oneQ {qs : List Rat} {q : Rat} (i : Nat) : convN qs.length (cf qs) (one0 q) i = cf qs i * q := by
  rw [conv_oneR]
  rcases Nat.lt_or_ge i qs.length with lt | ge
  · rw [if_pos lt]
  · rw [if_neg (by omega), cf_out ge, Rat.zero_mul]
theorem conv_oneL {g : Nat → Rat} {q : Rat} {N : Nat} (l : N ≤ 1) (z : ∀ i, N ≤ i → one0 q i = 0) (i : Nat) : convN N (one0 q) g i = q * g i := by
  match N, l with
  | 0, _ =>
    have e : q = 0 := z 0 (Nat.le_refl _)
    rw [e, Rat.zero_mul]
    rfl
  | 1, _ =>
    rw [convN_succ, if_pos (Nat.zero_le _), Nat.sub_zero]
    show 0 + q * g i = q * g i
    rw [Rat.zero_add]
theorem hn_at0 {f : Nat → Rat} (z : f 0 = 0) : ∀ N, hn f N (((0 : Int)) : Rat) N = 0
  | 0 => rfl
  | n + 1 => by
    show hn f (n + 1) (((0 : Int)) : Rat) n * (((0 : Int)) : Rat) + f (n + 1 - 1 - n) = 0
    rw [show n + 1 - 1 - n = 0 from by omega, z]
    have e : (((0 : Int)) : Rat) = 0 := rfl
    rw [e, Rat.mul_zero, Rat.add_zero]
theorem eqv0 : PyData.eqv (pdQ 0) (pdQ 0) = true := by decide +kernel
theorem shp0 : SeqAt.shaped (pdQ 0) = true := by decide +kernel
end Kz
set_option linter.all false
set_option maxRecDepth 100000
set_option maxHeartbeats 16000000
namespace Kz
open PySem PySem.Spec PyProof.Rows L2
section
variable {P : Program} {w : World} {K : PySem.W.Frag} {mg : Str → Option Value} {base : Heap}
/-- one third -/
def third : Rat := ⟨1, 3, by decide, by decide⟩
def spLaw (K : PySem.W.Frag) (Tl : List (Addr × Str)) : Sp := fun vs H Q _ => ∃ (a : Addr) (ns : List Int), vs = [.ref a] ∧ SqL K H a (ns.map V.int) ∧ LamX.Tabs Tl H ∧ ∀ H', Q (.bl true) H'
abbrev n70 : List Str := ["_law_script", "_law_pen_here", "_law_lap", "_law_one", "_law_two", "_law_a", "_law_b", "_law_by", "_law_rows", "_law_flat", "_law_passed_here", "_law_start", "_law_step", "_law_moved", "_law_told_poly", "_law_due", "_law_odd", "_law_more"]
theorem sc70 : FnScope n70 ["_law_script"] (defScope (top 71)) := ⟨rfl, rfl, rfl, by decide +kernel, rfl, by decide +kernel, by decide +kernel⟩

theorem ok_law (T : Tt P K mg) (O : OpsT K) (TB67 : LamX.TabB base mg T.c67 T.P67) (TB68 : LamX.TabB base mg T.c68 T.P68) (TB69 : LamX.TabB base mg T.c69 T.P69) (TB : LamX.TabB base mg T.c70 T.P70) : FnG P w K mg base CX0 12 T.law.f T.law.fd ["_law_script"] (spLaw K T.Tl) := by
  have Gpen : FnOk P w K mg base CX0 1 T.l_pen.f T.l_pen.fd ["_law_script"] (spPen K) := ok_lpen T.toTu
  have Gpick : FnOk P w K mg base CX0 2 T.l_pick.f T.l_pick.fd ["_law_pen_here", "_law_some"] spPick := ok_lpick T.toTu
  have Grat : FnOk P w K mg base CX0 3 T.l_ratio.f T.l_ratio.fd ["_law_pen_here", "_law_most"] (spLrat K) := ok_lratio T.toTu
  have Gpas : FnOk P w K mg base CX0 3 T.l_passed.f T.l_passed.fd ["_law_pen_here", "_law_ratio_here"] (spPassed K) := ok_lpassed T.toTu
  have Gany : FnOk P w K mg base CX0 3 T.l_any.f T.l_any.fd ["_law_pen_here"] (spAny K) := ok_lany T.toTu
  have Gdrawn : FnOk P w K mg base CX0 4 T.l_drawn.f T.l_drawn.fd ["_law_pen_here", "_law_degree", "_law_most"] (spDrawn K) := ok_ldrawn T.toTu
  have Gmade : FnOk P w K mg base CX0 7 T.l_made.f T.l_made.fd ["_law_pen_here", "_law_one"] (spMade K T.cP) := ok_lmade T.toTu
  have Gpoly : FnOk P w K mg base CX0 1 T.l_poly.f T.l_poly.fd ["_law_numbers"] (spLpoly K) := ok_lpoly T.toTv
  have Gsc : FnOk P w K mg base CX0 4 T.l_pscaled.f T.l_pscaled.fd ["_law_one", "_law_by"] (spLsc K) := ok_lscaled T.toTv
  have Gpl : FnOk P w K mg base CX0 4 T.l_pplus.f T.l_pplus.fd ["_law_one", "_law_two"] (spLpl K (fun a b => a + b)) := ok_lpplus T.toTv
  have Gmi : FnOk P w K mg base CX0 5 T.l_pminus.f T.l_pminus.fd ["_law_one", "_law_two"] (spLpl K (fun a b => a - b)) := ok_lpminus T.toTv
  have Gtm : FnOk P w K mg base CX0 4 T.l_ptimes.f T.l_ptimes.fd ["_law_one", "_law_two"] (spLtm K) := ok_ltm T.toTv
  have Gsl : FnOk P w K mg base CX0 4 T.l_pslope.f T.l_pslope.fd ["_law_one"] (spLsl K) := ok_lslope T.toTv
  have Glmv : FnOk P w K mg base CX0 5 T.l_pmoved.f T.l_pmoved.fd ["_law_one", "_law_start", "_law_step"] (spLmv K) := ok_lmoved T.toTv
  have Glat : FnOk P w K mg base CX0 4 T.l_pat.f T.l_pat.fd ["_law_one", "_law_point"] (spLat K) := ok_lat T.toTv
  have GA : FnOk P w K mg base CX0 8 T.p_add.f T.p_add.fd ["self", "other"] (spAr K T.cP cAdd (fun f _ g _ t => ∀ i, t i = f i + g i) (fun a b => max a b)) := ok_padd T.toTz
  have GRA := ok_pradd (P := P) (w := w) (base := base) T.toTz
  have GS := ok_psub (P := P) (w := w) (base := base) T.toTz
  have GRS := ok_prsub (P := P) (w := w) (base := base) T.toTz
  have GM := ok_pmul (P := P) (w := w) (base := base) T.toTz
  have GRM := ok_prmul (P := P) (w := w) (base := base) T.toTz
  have GN : FnOk P w K mg base CX0 7 T.p_neg.f T.p_neg.fd ["self"] (spNeg K T.cP) := ok_neg T.toTz
  have GSl : FnOk P w K mg base CX0 7 T.p_slope.f T.p_slope.fd ["self"] (spSlope K T.cP) := ok_slope T.toTz
  have GAr : FnOk P w K mg base CX0 7 T.p_area.f T.p_area.fd ["self"] (spArea K T.cP) := ok_area T.toTz
  have Gat : FnOk P w K mg base (CX P w) 5 T.p_at.f T.p_at.fd ["self", "place"] (spAt K T.cP T.cN) := ok_at T.toTz
  have Gmv : FnOk P w K mg base (CX P w) 9 T.p_moved.f T.p_moved.fd ["self", "start", "step"] (spMv K T.cP T.cN) := ok_moved T.toTw O
  have Grr : FnG P w K mg base CX0 8 T.l_rr.f T.l_rr.fd ["_law_pen_here"] (spRight T.Tl) := ok_rr T TB67
  have Gmr : FnG P w K mg base CX0 10 T.l_mr.f T.l_mr.fd ["_law_pen_here"] (spRight T.Tl) := ok_mr T TB68
  have Gdr : FnG P w K mg base CX0 10 T.l_dr.f T.l_dr.fd ["_law_pen_here"] (spRight T.Tl) := ok_dr T O TB69
  refine fnGC0 T.f70 sc70 (fun vs H Q E h => ?_) (fun A outer s H vs Q E hg hr h => ?_)
  · obtain ⟨a, ns, rfl, _⟩ := h
    rfl
  · obtain ⟨sa, ss, rfl, hS, tabs, k⟩ := h
    have hr1 : Room 1 _ := hr.mono (by decide)
    have hr2 : Room 2 _ := hr.mono (by decide)
    have hr3 : Room 3 _ := hr.mono (by decide)
    have hr4 : Room 4 _ := hr.mono (by decide)
    have hr5 : Room 5 _ := hr.mono (by decide)
    have hr7 : Room 7 _ := hr.mono (by decide)
    have hr8 : Room 8 _ := hr.mono (by decide)
    have hr9 : Room 9 _ := hr.mono (by decide)
    have hr10 : Room 10 _ := hr.mono (by decide)
    have hu := hr.units
    refine ⟨_, pss_cons (ps_set (i := 1) sc70.nd rfl (.inl rfl) (T.l_pen.c0 Gpen hr1 (pa_cons (pv 0) pa_nil)))
      (pss_cons (ps_for PassesOwn.never rfl (pi_range1 rfl T.blt.range (pa_cons pe_int pa_nil)) (pg_name (i := 2) sc70.nd rfl (.inl rfl))
        (pss_cons (ps_par (i := 3) (j := 4) rfl sc70.nd rfl rfl (by decide) rfl rfl (pa_cons (T.l_drawn.c0 Gdrawn hr4 (pa_cons (pv 1) (pa_cons pe_int (pa_cons pe_int pa_nil)))) (pa_cons (T.l_drawn.c0 Gdrawn hr4 (pa_cons (pv 1) (pa_cons pe_int (pa_cons pe_int pa_nil)))) pa_nil)) (by rfl))
        (pss_cons (ps_set (i := 4) sc70.nd rfl (.inl rfl) (T.l_pick.c0 Gpick hr2 (pa_cons (pv 1) (pa_cons (pe_lst (pa_cons (pv 4) (pa_cons (pv 4) (pa_cons (T.l_pscaled.c0 Gsc hr4 (pa_cons (pv 3) (pa_cons (pe_tup (pa_cons (pe_un un_neg pe_int) (pa_cons pe_int pa_nil))) pa_nil)))
            (pa_cons (T.l_pplus.c0 Gpl hr4 (pa_cons (pv 3) (pa_cons (pe_lst (pa_cons (pe_tup (pa_cons pe_int (pa_cons pe_int pa_nil))) pa_nil)) pa_nil))) pa_nil))))) pa_nil))))
        (pss_cons (ps_asg (pe_tup (pa_cons (T.l_made.c0 Gmade hr7 (pa_cons (pv 1) (pa_cons (pv 3) pa_nil))) (pa_cons (T.l_made.c0 Gmade hr7 (pa_cons (pv 1) (pa_cons (pv 4) pa_nil))) (pa_cons (T.l_ratio.c0 Grat hr3 (pa_cons (pv 1) (pa_cons pe_int pa_nil))) pa_nil))))
            (pg_tup (by rfl) (pgs_cons (pg_name (i := 5) sc70.nd rfl (.inr rfl)) (pgs_cons (pg_name (i := 6) sc70.nd rfl (.inl rfl)) (pgs_cons (pg_name (i := 7) sc70.nd rfl (.inl rfl)) pgs_nil)))))
        (pss_cons (ps_set (i := 8) sc70.nd rfl (.inl rfl) (pe_lst (pa_cons (pe_tup (pa_cons (pe_op (op_pp T.p_add GA T.sfP hr8 rfl) (pv 5) (pv 6)) (pa_cons (T.l_pplus.c0 Gpl hr4 (pa_cons (pv 3) (pa_cons (pv 4) pa_nil))) pa_nil)))
            (pa_cons (pe_tup (pa_cons (pe_op (op_pp T.p_sub GS T.sfP hr8 rfl) (pv 5) (pv 6)) (pa_cons (T.l_pminus.c0 Gmi hr5 (pa_cons (pv 3) (pa_cons (pv 4) pa_nil))) pa_nil)))
            (pa_cons (pe_tup (pa_cons (pe_op (op_pp T.p_mul GM T.sfP hr8 rfl) (pv 5) (pv 6)) (pa_cons (T.l_ptimes.c0 Gtm hr4 (pa_cons (pv 3) (pa_cons (pv 4) pa_nil))) pa_nil))) pa_nil)))))
        (pss_cons (ps_set (i := 8) sc70.nd rfl (.inl rfl) (pe_op op_cat (pv 8) (pe_lst (pa_cons (pe_tup (pa_cons (pe_un (un_own T.p_neg GN hr7) (pv 5)) (pa_cons (T.l_pscaled.c0 Gsc hr4 (pa_cons (pv 3) (pa_cons (pe_tup (pa_cons (pe_un un_neg pe_int) (pa_cons pe_int pa_nil))) pa_nil))) pa_nil)))
            (pa_cons (pe_tup (pa_cons (pe_meth0 (pv 5) T.clP T.p_slope.me GSl hr7 T.p_slope.b .nil pass0 (by rfl)) (pa_cons (T.l_pslope.c0 Gsl hr4 (pa_cons (pv 3) pa_nil)) pa_nil)))
            (pa_cons (pe_tup (pa_cons (pe_meth0 (pe_meth0 (pv 5) T.clP T.p_area.me GAr hr7 T.p_area.b .nil pass0 (by rfl)) T.clP T.p_slope.me GSl hr7 T.p_slope.b .nil pass0 (by rfl)) (pa_cons (pv 3) pa_nil))) pa_nil))))))
        (pss_cons (ps_set (i := 9) sc70.nd rfl (.inl rfl) (T.l_poly.c0 Gpoly hr1 (pa_cons (pe_lst (pa_cons (pv 7) pa_nil)) pa_nil)))
        (C8.pss_cut (ps_set (i := 10) sc70.nd rfl (.inl rfl) (T.l_pick.c0 Gpick hr2 (pa_cons (pv 1) (pa_cons (pe_op op_cat (pe_lst (pa_cons (pv 7) (pa_cons (pe_tup (pa_cons (pe_op op_mulW pe_int (pe_ix ix_tup (pv 7) pe_int (fun _ _ => rfl))) (pa_cons (pe_op op_mulW pe_int (pe_ix ix_tup (pv 7) pe_int (fun _ _ => rfl))) pa_nil))) pa_nil)))
            (pe_ifExp (pt_cmpR op_eq (pe_ix ix_tup (pv 7) pe_int (fun _ _ => rfl)) pe_int (nomark _)) (pe_lst (pa_cons (pe_ix ix_tup (pv 7) pe_int (fun _ _ => rfl)) pa_nil)) (pe_lst pa_nil))) pa_nil))))
        (pss_cons (ps_set (i := 8) sc70.nd rfl (.inl rfl) (pe_op op_cat (pv 8) (pe_lst (pa_cons (pe_tup (pa_cons (pe_op (op_pv T.p_add GA T.sfP hr8 rfl T.p_radd.me.at_ (fun t ht => ⟨O.add t ht, T.apartL t ht⟩)) (pv 5) (pv 10)) (pa_cons (T.l_pplus.c0 Gpl hr4 (pa_cons (pv 3) (pa_cons (pv 9) pa_nil))) pa_nil)))
            (pa_cons (pe_tup (pa_cons (pe_op (op_vp T.p_radd GRA T.sfP hr8 rfl decl_add T.p_add.me.at_ (fun t ht => ⟨O.add t ht, T.apartR t ht⟩)) (pv 10) (pv 5)) (pa_cons (T.l_pplus.c0 Gpl hr4 (pa_cons (pv 3) (pa_cons (pv 9) pa_nil))) pa_nil))) pa_nil)))))
        (pss_cons (ps_set (i := 8) sc70.nd rfl (.inl rfl) (pe_op op_cat (pv 8) (pe_lst (pa_cons (pe_tup (pa_cons (pe_op (op_vp T.p_rmul GRM T.sfP hr8 rfl decl_mul T.p_mul.me.at_ (fun t ht => ⟨O.mul t ht, T.apartR t ht⟩)) (pv 10) (pv 5)) (pa_cons (T.l_ptimes.c0 Gtm hr4 (pa_cons (pv 3) (pa_cons (pv 9) pa_nil))) pa_nil)))
            (pa_cons (pe_tup (pa_cons (pe_op (op_vp T.p_rsub GRS T.sfP hr8 rfl decl_sub T.p_sub.me.at_ (fun t ht => ⟨O.sub t ht, T.apartR t ht⟩)) (pv 10) (pv 5)) (pa_cons (T.l_pminus.c0 Gmi hr5 (pa_cons (pv 9) (pa_cons (pv 3) pa_nil))) pa_nil))) pa_nil)))))
        (pss_cons (ps_set (i := 8) sc70.nd rfl (.inl rfl) (pe_op op_cat (pv 8) (pe_lst (pa_cons (pe_tup (pa_cons (pe_op (op_pv T.p_mul GM T.sfP hr8 rfl T.p_rmul.me.at_ (fun t ht => ⟨O.mul t ht, T.apartL t ht⟩)) (pv 5) (pv 10)) (pa_cons (T.l_ptimes.c0 Gtm hr4 (pa_cons (pv 3) (pa_cons (pv 9) pa_nil))) pa_nil)))
            (pa_cons (pe_tup (pa_cons (pe_op (op_pv T.p_sub GS T.sfP hr8 rfl T.p_rsub.me.at_ (fun t ht => ⟨O.sub t ht, T.apartL t ht⟩)) (pv 5) (pv 10)) (pa_cons (T.l_pminus.c0 Gmi hr5 (pa_cons (pv 3) (pa_cons (pv 9) pa_nil))) pa_nil))) pa_nil)))))
        (pss_cons (ps_par (i := 11) (j := 12) rfl sc70.nd rfl rfl (by decide) rfl rfl (pa_cons (T.l_ratio.c0 Grat hr3 (pa_cons (pv 1) (pa_cons pe_int pa_nil))) (pa_cons (T.l_pick.c0 Gpick hr2 (pa_cons (pv 1) (pa_cons (pe_lst (pa_cons (pe_tup (pa_cons pe_int (pa_cons pe_int pa_nil))) (pa_cons (T.l_ratio.c0 Grat hr3 (pa_cons (pv 1) (pa_cons pe_int pa_nil))) pa_nil))) pa_nil))) pa_nil)) (by rfl))
        (pss_cons (ps_set (i := 13) sc70.nd rfl (.inl rfl) (pe_meth (pv 5) T.clP T.p_moved.me Gmv hr9 T.p_moved.b .nil passL (pa_cons (T.l_passed.c0 Gpas hr3 (pa_cons (pv 1) (pa_cons (pv 11) pa_nil))) (pa_cons (T.l_passed.c0 Gpas hr3 (pa_cons (pv 1) (pa_cons (pv 12) pa_nil))) pa_nil))))
        (pss_cons (ps_for PassesOwn.never rfl (pi_list (pe_op op_cat (pv 8) (pe_lst (pa_cons (pe_tup (pa_cons (pv 13) (pa_cons (T.l_pmoved.c0 Glmv hr5 (pa_cons (pv 3) (pa_cons (pv 11) (pa_cons (pv 12) pa_nil)))) pa_nil))) pa_nil))))
            (pg_tup (by rfl) (pgs_cons (pg_name (i := 14) sc70.nd rfl (.inl rfl)) (pgs_cons (pg_name (i := 15) sc70.nd rfl (.inl rfl)) pgs_nil)))
            (pss_one (ps_if (pt_cmpR op_ne (pe_callB (call_reprK (K := K) rfl hg hu) (by rfl) T.mRepr boot_repr' (pa_cons (pe_fld (pv 14) (by rfl)) pa_nil))
                (pe_callB (call_reprK (K := K) rfl hg hu) (by rfl) T.mRepr boot_repr' (pa_cons (pe_callTy call_tuple_of (by rfl) T.mTuple boot_ttuple (pa_cons (pv 15) pa_nil)) pa_nil)) (nomark _))
              (pss_one (ps_ret pe_bl)) pss_nil)))
        (pss_cons (ps_if (PW.pt (pw_or (pt_cmpR op_ne (pe_callB (call_reprK (K := K) rfl hg hu) (by rfl) T.mRepr boot_repr' (pa_cons (pe_meth (pv 5) T.clP T.p_at.me Gat hr5 T.p_at.b .nil passL (pa_cons (T.l_passed.c0 Gpas hr3 (pa_cons (pv 1) (pa_cons (pv 11) pa_nil))) pa_nil)) pa_nil))
                (pe_callB (call_reprK (K := K) rfl hg hu) (by rfl) T.mRepr boot_repr' (pa_cons (T.l_pat.c0 Glat hr4 (pa_cons (pv 3) (pa_cons (pv 11) pa_nil))) pa_nil)) (nomark _))
              (pw_or1 (pt_cmpR (op_neD hu) (pe_meth (pe_meth0 (pv 5) T.clP T.p_area.me GAr hr7 T.p_area.b .nil pass0 (by rfl)) T.clP T.p_at.me Gat hr5 T.p_at.b .nil passL (pa_cons pe_int pa_nil)) (pe_tup (pa_cons pe_int (pa_cons pe_int pa_nil))) (nomark _)))))
            (pss_one (ps_ret pe_bl)) pss_nil)
        (pss_cons (ps_asg (pe_tup (pa_cons (T.l_any.c0 Gany hr3 (pa_cons (pv 1) pa_nil)) (pa_cons (T.l_any.c0 Gany hr3 (pa_cons (pv 1) pa_nil)) pa_nil))) (pg_tup (by rfl) (pgs_cons (pg_name (i := 16) sc70.nd rfl (.inr rfl)) (pgs_cons (pg_name (i := 17) sc70.nd rfl (.inr rfl)) pgs_nil))))
        (pss_cons (ps_if (pt_cmpR (op_neT hu) (pe_why T.toTu (k := 5) hg TB rfl T.m70 T.h70 (hr.mono (by decide)) (LamX.lamS_by (sc := defScope (top 71)) (by decide +kernel)) (fun A outer s H E f c' hr' => pe_meth (pv 5) T.clP T.p_at.me Gat hr' T.p_at.b .nil (passes_call (takes_of (E := E) rfl rfl rfl rfl) fun _ _ _ _ h => h) (pa_cons (pv 16) pa_nil)))
              (pe_tup (pa_cons pe_str (pa_cons pe_str (pa_cons (pe_callB (call_reprK (K := K) rfl hg hu) (by rfl) T.mRepr boot_repr' (pa_cons (pv 16) pa_nil)) pa_nil)))) (nomark _)) (pss_one (ps_ret pe_bl)) pss_nil)
        (pss_cons (ps_if (pt_cmpR (op_neT hu) (pe_why T.toTu (k := 9) hg TB rfl T.m70 T.h70 (hr.mono (by decide)) (LamX.lamS_by (sc := defScope (top 71)) (by decide +kernel)) (fun A outer s H E f c' hr' => pe_meth (pv 5) T.clP T.p_moved.me Gmv hr' T.p_moved.b .nil (passes_call (takes_of (E := E) rfl rfl rfl rfl) fun _ _ _ _ h => h) (pa_cons (pv 16) (pa_cons (pv 17) pa_nil))))
              (pe_tup (pa_cons pe_str (pa_cons pe_str (pa_cons (pe_callB (call_reprK (K := K) rfl hg hu) (by rfl) T.mRepr boot_repr' (pa_cons (pv 16) pa_nil)) pa_nil)))) (nomark _)) (pss_one (ps_ret pe_bl)) pss_nil)
        (pss_cons (ps_if (pt_cmpR (op_neT hu) (pe_why T.toTu (k := 9) hg TB rfl T.m70 T.h70 (hr.mono (by decide)) (LamX.lamS_by (sc := defScope (top 71)) (by decide +kernel)) (fun A outer s H E f c' hr' => pe_meth (pv 5) T.clP T.p_moved.me Gmv hr' T.p_moved.b .nil (passes_call (takes_of (E := E) rfl rfl rfl rfl) fun _ _ _ _ h => h) (pa_cons pe_int (pa_cons (pv 17) pa_nil))))
              (pe_tup (pa_cons pe_str (pa_cons pe_str (pa_cons (pe_callB (call_reprK (K := K) rfl hg hu) (by rfl) T.mRepr boot_repr' (pa_cons (pv 17) pa_nil)) pa_nil)))) (nomark _)) (pss_one (ps_ret pe_bl)) pss_nil)
        (pss_one (ps_if (PW.pt (pw_or (pt_not (pt_val (pe_callG Grr hg hr8 rfl T.l_rr.g T.l_rr.fn.kp T.l_rr.b pass0 (pa_cons (pv 1) pa_nil)))) (pw_or (pt_not (pt_val (pe_callG Gmr hg hr10 rfl T.l_mr.g T.l_mr.fn.kp T.l_mr.b pass0 (pa_cons (pv 1) pa_nil))))
              (pw_or1 (pt_not (pt_val (pe_callG Gdr hg hr10 rfl T.l_dr.g T.l_dr.fn.kp T.l_dr.b pass0 (pa_cons (pv 1) pa_nil))))))))
            (pss_one (ps_ret pe_bl)) pss_nil)))))))))))))))))))))
      (pss_one (ps_ret pe_bl))), ?_⟩
    refine ⟨_, rfl, sa, ss, rfl, hS, fun p c H1 np s1 pen1 => ?_⟩
    have tabs := tabs.ext s1
    refine ⟨(2 : Int), rfl, by decide, by decide, for_range (lo := 0) (n := 2) (fun i σ G => ∃ v2 v3 v4 v5 v6 v7 v8 v9 v10 v11 v12 v13 v14 v15 v16 v17 : Option V, σ = [some (.ref sa), some (.ref p), v2, v3, v4, v5, v6, v7, v8, v9, v10, v11, v12, v13, v14, v15, v16, v17] ∧
      Pen G p c (12000 * i) ∧ LamX.Tabs T.Tl G) ⟨none, none, none, none, none, none, none, none, none, none, none, none, none, none, none, none, rfl, pen1, tabs⟩ ?_ ?_⟩
    · rintro i σ G hi ⟨v2, v3, v4, v5, v6, v7, v8, v9, v10, v11, v12, v13, v14, v15, v16, v17, rfl, pn, tb⟩
      have hi2 : i < 2 := hi
      refine ⟨_, rfl, p, c, _, 5, 5, rfl, pn, by omega, by decide, by decide, by decide, fun w1 G1 qs pn1 b1 lr1 tr1 ll1 rs1 => ?_⟩
      refine ⟨_, rfl, p, c, _, 5, 5, rfl, pn1, by omega, by decide, by decide, by decide, fun w2 G2 os pn2 b2 lr2 tr2 ll2 rs2 => ?_⟩
      have lr1 := pn1.lr b2 lr1
      have tb := pn1.tabs b2 (pn.tabs b1 tb)
      have zq := rsm_sz rs1 (by decide)
      have zo := rsm_sz rs2 (by decide)
      have cq := rsm_cd rs1 ll1
      have co := rsm_cd rs2 ll2
      refine ⟨_, _, rfl, ?_⟩
      -- the second row
      refine ⟨_, rfl, _, rfl, _, rfl, _, rfl, _, rfl, (by show 2 ≤ sizeLine; decide), fun t nt => ?_⟩
      have s3 := Same.new (o := .tup [.int (-1), .int 1]) nt
      have rm : RV K (upd G2 t (.tup [.int (-1), .int 1])) (.ref t) (-1) := ⟨t, rfl, SqT.of upd_same⟩
      generalize upd G2 t (.tup [.int (-1), .int 1]) = G3 at s3 rm
      refine ⟨w1, .ref t, qs, 10, 7, 1, 1, -1, rfl, lr1.same s3, fun i _ => zq i, rm.pq ⟨by decide, by decide⟩, by decide, by decide, by omega, fun w4 G4 ms s4 lr4 tr4 ll4 e4 => ?_⟩
      have s4 := s3.trans s4
      refine ⟨_, rfl, (by show 2 ≤ sizeLine; decide), fun t5 nt5 => ?_⟩
      have s5 := Same.new (o := .tup [.int 1, .int 3]) nt5
      have r5 : RV K (upd G4 t5 (.tup [.int 1, .int 3])) (.ref t5) third := ⟨t5, rfl, SqT.of upd_same⟩
      have lr4 := lr4.same s5
      have s5 := s4.trans s5
      generalize upd G4 t5 (.tup [.int 1, .int 3]) = G5 at s5 r5 lr4
      refine ⟨(by show 1 ≤ sizeLine; decide), fun l6 nl6 => ?_⟩
      have s6 := Same.new (o := .lst [.ref t5]) nl6
      have lr6 : LR K (upd G5 l6 (.lst [.ref t5])) (.ref l6) [third] := ⟨l6, _, rfl, upd_same, Al.snoc (Al.nil (H := _)) (r5.same s6)⟩
      have lr4 := lr4.same s6
      have s6 := s5.trans s6
      generalize upd G5 l6 (.lst [.ref t5]) = G6 at s6 lr6 lr4
      have z13 : ∀ i, Sz 2 2 (cf [third] i) := fun i => by
        rw [cf_one]
        exact one_sz (q := third) ⟨by decide, by decide⟩ (by decide) (by decide) i
      refine ⟨w1, .ref l6, qs, [third], 10, 7, 2, 2, rfl, lr1.same s6, lr6, fun i _ => zq i, fun i _ => z13 i, by decide, by decide, by decide, by decide, by decide, by decide, by omega, by decide, fun w7 G7 ps s7 lr7 tr7 ll7 e7 => ?_⟩
      have lr4 := lr4.same s7
      have s7 := s6.trans s7
      refine ⟨(by show 4 ≤ sizeLine; decide), fun l8 nl8 => ?_⟩
      have s8 := Same.new (o := .lst [w2, w2, w4, w7]) nl8
      have lr4 := lr4.same s8
      have lr7 := lr7.same s8
      have s78 := s7.trans s8
      have pn8 := pn2.same s78
      refine ⟨p, c, l8, _, _, rfl, pn8, by omega, upd_same, (by show 0 < 4; decide), (by show 4 < 1000000; decide), fun j u G9 hj pn9 b9 => ?_⟩
      obtain ⟨rs, lru, tru, llu, zru, cru⟩ : ∃ rs, LR K G9 u rs ∧ Tr rs ∧ rs.length ≤ 6 ∧ (∀ i, Sz 30 30 (cf rs i)) ∧ CD 100 60 rs := by
        have mem := mem_of_at hj
        simp only [List.mem_cons, List.not_mem_nil, or_false] at mem
        rcases mem with rfl | rfl | rfl | rfl
        · exact ⟨os, pn8.lr b9 (lr2.same s78), tr2, ll2, fun i => (zo i).up (by decide) (by decide), co.up (by decide) (by decide)⟩
        · exact ⟨os, pn8.lr b9 (lr2.same s78), tr2, ll2, fun i => (zo i).up (by decide) (by decide), co.up (by decide) (by decide)⟩
        · refine ⟨ms, pn8.lr b9 lr4, tr4, by omega, fun i => ?_, (cd_scaled cq e4).up (by decide) (by decide)⟩
          rw [e4]
          exact (mul_sz (zq i) (n' := 1) (m' := 1) (r := -1) ⟨by decide, by decide⟩).up (by decide) (by decide)
        · refine ⟨ps, pn8.lr b9 lr7, tr7, by have : [third].length = 1 := rfl; omega, fun i => ?_, (CD.both cq (one_cd (q := third) (n := 2) (m := 2) ⟨by decide, by decide⟩ (rs := [third]) fun i => cf_one i) e7).up (by decide) (by decide)⟩
          rw [e7]
          exact (add_sz (zq i) (z13 i)).up (by decide) (by decide)
      have b29 : But p G2 G9 := (But.ofSame s78).trans b9
      have lr1 := pn2.lr b29 lr1
      have tb := pn2.tabs b29 tb
      have pn := pn9.more (show _ ≤ 12000 * i + 200 by omega)
      clear b29 lr4 lr7 s8 s78 pn8 s7 e7 e4 lr6 s6 s5 r5 s4 rm s3 pn9 b9 hj pn2 b2 pn1 b1 zo co
      -- the two of them made
      refine ⟨_, rfl, _, rfl, p, c, _, w1, qs, 10, 7, rfl, pn, by omega, lr1, tr1, fun i _ => zq i, by decide, by decide, by decide, by decide, by omega, fun ua G10 pn10 b10 pa => ?_⟩
      have lr1 := pn.lr b10 lr1
      have lru := pn.lr b10 lru
      have tb := pn.tabs b10 tb
      refine ⟨_, rfl, _, rfl, p, c, _, u, rs, 30, 30, rfl, pn10, by omega, lru, tru, fun i _ => zru i, by decide, by decide, by decide, by decide, by omega, fun ub G11 pn11 b11 pb => ?_⟩
      have lr1 := pn10.lr b11 lr1
      have lru := pn10.lr b11 lru
      have pa := pn10.poly b11 pa
      have tb := pn10.tabs b11 tb
      refine ⟨_, rfl, p, c, _, 7, rfl, pn11, by omega, by decide, by decide, fun uby G12 qy pn12 b12 rby smy => ?_⟩
      have lr1 := pn11.lr b12 lr1
      have lru := pn11.lr b12 lru
      have pa := pn11.poly b12 pa
      have pb := pn11.poly b12 pb
      have tb := pn11.tabs b12 tb
      refine ⟨(by show 3 ≤ sizeLine; decide), fun tt ntt => ?_⟩
      have st := Same.new (o := .tup [ua, ub, uby]) ntt
      have ett : SqT K (upd G12 tt (.tup [ua, ub, uby])) tt [ua, ub, uby] := SqT.of upd_same
      have lr1 := lr1.same st
      have lru := lru.same st
      have pa := pa.same st
      have pb := pb.same st
      have rby := rby.same st
      have tb := tb.ext st
      have pn := (pn12.same st).more (show _ ≤ 12000 * i + 1100 by omega)
      refine ⟨tt, _, rfl, ett, rfl, _, _, rfl, _, _, rfl, _, _, rfl, rfl, ?_⟩
      generalize upd G12 tt (.tup [ua, ub, uby]) = G at lr1 lru pa pb rby tb pn
      clear ett st pn12 b12 pn11 b11 pn10 b10
      obtain ⟨a0, adx, _, _, rfl, ha, _⟩ := id pa
      obtain ⟨b0, bdx, _, _, rfl, hb, _⟩ := id pb
      -- sums, differences, products
      refine ⟨_, rfl, _, rfl, ⟨a0, b0, adx, bdx, _, _, rfl, rfl, ha, hb⟩, .ref a0, .ref b0, qs, cf rs, 10, 7, 30, 30, rs.length, rfl, pa, .inl ⟨rs, pb, fun i _ => zru i, Nat.le_refl _, fun _ => rfl⟩, fun i _ => zq i, by decide, by decide, by decide, by decide, by omega, by omega, by decide, by decide, (by show 7 + 30 ≤ 9000; decide), fun x1 K1 xs1 s1 p1 e1 l1 => ?_⟩
      refine ⟨_, rfl, _, rfl, w1, u, qs, rs, 10, 7, 30, 30, rfl, lr1.same s1, lru.same s1, fun i _ => zq i, fun i _ => zru i, by decide, by decide, by decide, by decide, by decide, by decide, by omega, by omega, fun y1 K2 ys1 t1 lry1 try1 lly1 ey1 => ?_⟩
      refine ⟨(by show 2 ≤ sizeLine; decide), fun r1 nr1 => ?_⟩
      have row1 : RowOk K T.cP (upd K2 r1 (.tup [x1, y1])) (.ref r1) := RowOk.new nr1 (p1.same t1) lry1 try1 (fun i => (e1 i).trans (ey1 i).symm) (fun i => by rw [ey1]; exact (add_sz (zq i) (zru i)).up (by decide) (by decide)) (by omega)
      have s1 := (s1.trans t1).trans (Same.new (o := .tup [x1, y1]) nr1)
      generalize upd K2 r1 (.tup [x1, y1]) = K3 at row1 s1
      clear p1 e1 l1 t1 lry1 try1 lly1 ey1
      refine ⟨_, rfl, _, rfl, ⟨a0, b0, adx, bdx, _, _, rfl, rfl, s1 _ _ ha, s1 _ _ hb⟩, .ref a0, .ref b0, qs, cf rs, 10, 7, 30, 30, rs.length, rfl, pa.same s1, .inl ⟨rs, pb.same s1, fun i _ => zru i, Nat.le_refl _, fun _ => rfl⟩, fun i _ => zq i, by decide, by decide, by decide, by decide, by omega, by omega, by decide, by decide, (by show 7 + 30 ≤ 9000; decide), fun x1 K4 xs1 t4 p1 e1 l1 => ?_⟩
      have s4 := s1.trans t4
      refine ⟨_, rfl, _, rfl, w1, u, qs, rs, 10, 7, 30, 30, rfl, lr1.same s4, lru.same s4, fun i _ => zq i, fun i _ => zru i, by decide, by decide, by decide, by decide, by decide, by decide, by omega, by omega, fun y1 K5 ys1 t5 lry1 try1 lly1 ey1 => ?_⟩
      refine ⟨(by show 2 ≤ sizeLine; decide), fun r2 nr2 => ?_⟩
      have t6 := Same.new (o := .tup [x1, y1]) nr2
      have row2 : RowOk K T.cP (upd K5 r2 (.tup [x1, y1])) (.ref r2) := RowOk.new nr2 (p1.same t5) lry1 try1 (fun i => (e1 i).trans ((Rat.sub_eq_add_neg _ _).symm.trans (ey1 i).symm)) (fun i => by rw [ey1]; show Sz 1900 1900 (cf qs i - cf rs i); rw [Rat.sub_eq_add_neg]; exact (add_sz (zq i) (sz_neg (zru i))).up (by decide) (by decide)) (by omega)
      have row1 := row1.same ((t4.trans t5).trans t6)
      have s6 := (s4.trans t5).trans t6
      generalize upd K5 r2 (.tup [x1, y1]) = K6 at row1 row2 s6
      clear p1 e1 l1 t4 t5 t6 lry1 try1 lly1 ey1 s4 s1
      refine ⟨_, rfl, _, rfl, ⟨a0, b0, adx, bdx, _, _, rfl, rfl, s6 _ _ ha, s6 _ _ hb⟩, .ref a0, .ref b0, qs, cf rs, 10, 7, 30, 30, rs.length, rfl, pa.same s6, .inl ⟨rs, pb.same s6, fun i _ => zru i, Nat.le_refl _, fun _ => rfl⟩, fun i _ => zq i, by decide, by decide, by decide, by decide, by omega, by omega, by decide, by decide, ⟨by omega, by decide, by decide⟩, fun x1 K7 xs1 t7 p1 e1 l1 => ?_⟩
      have s7 := s6.trans t7
      refine ⟨_, rfl, _, rfl, w1, u, qs, rs, 43, 40, 100, 60, rfl, lr1.same s7, lru.same s7, cq, cru, by decide, by decide, by decide, by decide, by decide, by decide, by omega, by omega, fun y1 K8 ys1 t8 lry1 try1 lly1 ey1 => ?_⟩
      refine ⟨(by show 2 ≤ sizeLine; decide), fun r3 nr3 => ?_⟩
      have t9 := Same.new (o := .tup [x1, y1]) nr3
      have row3 : RowOk K T.cP (upd K8 r3 (.tup [x1, y1])) (.ref r3) := RowOk.new nr3 (p1.same t8) lry1 try1 (fun i => (e1 i).trans (ey1 i).symm) (fun i => ((conv_cd cq cru (by omega) ey1).sz i).up (by decide) (by decide)) (by omega)
      have row1 := row1.same ((t7.trans t8).trans t9)
      have row2 := row2.same ((t7.trans t8).trans t9)
      have s9 := (s7.trans t8).trans t9
      generalize upd K8 r3 (.tup [x1, y1]) = K9 at row1 row2 row3 s9
      clear p1 e1 l1 t7 t8 t9 lry1 try1 lly1 ey1 s7 s6
      refine ⟨(by show 3 ≤ sizeLine; decide), fun R nR => ?_⟩
      have t10 := Same.new (o := .lst [.ref r1, .ref r2, .ref r3]) nR
      have eR : upd K9 R (.lst [.ref r1, .ref r2, .ref r3]) R = some (.lst [.ref r1, .ref r2, .ref r3]) := upd_same
      have rows : ∀ x ∈ [V.ref r1, .ref r2, .ref r3], RowOk K T.cP (upd K9 R (.lst [.ref r1, .ref r2, .ref r3])) x := fun x hx => by
        simp only [List.mem_cons, List.not_mem_nil, or_false] at hx
        rcases hx with rfl | rfl | rfl
        · exact row1.same t10
        · exact row2.same t10
        · exact row3.same t10
      have s10 := s9.trans t10
      generalize upd K9 R (.lst [.ref r1, .ref r2, .ref r3]) = K10 at eR rows s10
      have lR : [V.ref r1, .ref r2, .ref r3].length ≤ 3 := by show 3 ≤ 3; decide
      generalize [V.ref r1, .ref r2, .ref r3] = us at eR rows lR
      clear t10 row1 row2 row3 s9
      -- negative, slope, slope of the area
      refine ⟨_, rfl, _, rfl, ⟨a0, adx, _, rfl, s10 _ _ ha⟩, .ref a0, qs, 10, 7, rfl, pa.same s10, fun i _ => zq i, by decide, by omega, fun x1 K1 xs1 t1 p1 e1 l1 => ?_⟩
      refine ⟨_, rfl, _, rfl, (by show 2 ≤ sizeLine; decide), fun t nt => ?_⟩
      have t2 := Same.new (o := .tup [.int (-1), .int 1]) nt
      have rm : RV K (upd K1 t (.tup [.int (-1), .int 1])) (.ref t) (-1) := ⟨t, rfl, SqT.of upd_same⟩
      have t12 := t1.trans t2
      have p1 := p1.same t2
      generalize upd K1 t (.tup [.int (-1), .int 1]) = K2 at t12 rm p1
      refine ⟨w1, .ref t, qs, 10, 7, 1, 1, -1, rfl, lr1.same (s10.trans t12), fun i _ => zq i, rm.pq ⟨by decide, by decide⟩, by decide, by decide, by omega, fun y1 K3 ys1 t3 lry1 try1 lly1 ey1 => ?_⟩
      refine ⟨(by show 2 ≤ sizeLine; decide), fun r1 nr1 => ?_⟩
      have t4 := Same.new (o := .tup [x1, y1]) nr1
      have row1 : RowOk K T.cP (upd K3 r1 (.tup [x1, y1])) (.ref r1) := RowOk.new nr1 (p1.same t3) lry1 try1 (fun i => by rw [e1, ey1]; grind) (fun i => by rw [ey1]; exact (mul_sz (zq i) (n' := 1) (m' := 1) (r := -1) ⟨by decide, by decide⟩).up (by decide) (by decide)) (by omega)
      have t14 := (t12.trans t3).trans t4
      have s14 := s10.trans t14
      generalize upd K3 r1 (.tup [x1, y1]) = K4 at row1 t14 s14
      clear p1 e1 l1 rm t12 t1 lry1 try1 lly1 ey1 t3 t4
      refine ⟨_, rfl, a0, adx, _, rfl, s14 _ _ ha, lkSl, .ref a0, qs, 10, 7, rfl, pa.same s14, fun i _ => zq i, by decide, by decide, by omega, fun x1 K5 xs1 t5 p1 l1 e1 => ?_⟩
      refine ⟨_, rfl, w1, qs, 10, 7, rfl, lr1.same (s14.trans t5), fun i _ => zq i, by decide, by decide, by omega, fun y1 K6 ys1 t6 lry1 try1 lly1 ey1 => ?_⟩
      refine ⟨(by show 2 ≤ sizeLine; decide), fun r2 nr2 => ?_⟩
      have t7 := Same.new (o := .tup [x1, y1]) nr2
      have row2 : RowOk K T.cP (upd K6 r2 (.tup [x1, y1])) (.ref r2) := RowOk.new nr2 (p1.same t6) lry1 try1 (fun i => by rw [e1, ey1, Rat.mul_comm]) (fun i => by rw [ey1]; exact slope_sz zq ll1 i) (by omega)
      have t57 := (t5.trans t6).trans t7
      have row1 := row1.same t57
      have t17 := t14.trans t57
      have s17 := s14.trans t57
      generalize upd K6 r2 (.tup [x1, y1]) = K7 at row1 row2 t17 s17
      clear p1 e1 l1 t5 t6 t7 t57 lry1 try1 lly1 ey1 s14 t14
      refine ⟨_, rfl, a0, adx, _, rfl, s17 _ _ ha, lkAr, .ref a0, qs, 10, 7, rfl, pa.same s17, fun i _ => zq i, by decide, by decide, by omega, fun x1 K8 as1 t8 p1 l1 e1 => ?_⟩
      obtain ⟨v0, vdx, _, _, rfl, hv, _⟩ := id p1
      refine ⟨v0, vdx, _, rfl, hv, lkSl, .ref v0, as1, 20, 20, rfl, p1, fun i _ => by rw [e1]; exact area_sz zq ll1 i, by decide, by decide, by omega, fun x2 K9' ss1 t9 p2 l2 e2 => ?_⟩
      refine ⟨_, rfl, (by show 2 ≤ sizeLine; decide), fun r3 nr3 => ?_⟩
      have t89 := t8.trans t9
      have t10 := Same.new (o := .tup [x2, w1]) nr3
      have row3 : RowOk K T.cP (upd K9' r3 (.tup [x2, w1])) (.ref r3) := RowOk.new nr3 p2 (lr1.same (s17.trans t89)) tr1 (fun i => by rw [e2, e1]; exact area_slope i) (fun i => (zq i).up (by decide) (by decide)) (by omega)
      have row1 := row1.same (t89.trans t10)
      have row2 := row2.same (t89.trans t10)
      have t20 := (t17.trans t89).trans t10
      have s20 := (s17.trans t89).trans t10
      generalize upd K9' r3 (.tup [x2, w1]) = K11 at row1 row2 row3 t20 s20
      clear p1 e1 l1 p2 l2 e2 hv t8 t9 t89 t10 t17 s17
      refine ⟨(by show 3 ≤ sizeLine; decide), fun R2 nR2 => ?_⟩
      have t1 := Same.new (o := .lst [.ref r1, .ref r2, .ref r3]) nR2
      have eR2 : upd K11 R2 (.lst [.ref r1, .ref r2, .ref r3]) R2 = some (.lst [.ref r1, .ref r2, .ref r3]) := upd_same
      have rows : ∀ x ∈ us ++ [V.ref r1, .ref r2, .ref r3], RowOk K T.cP (upd K11 R2 (.lst [.ref r1, .ref r2, .ref r3])) x := fun x hx => by
        simp only [List.mem_append, List.mem_cons, List.not_mem_nil, or_false] at hx
        rcases hx with hx | rfl | rfl | rfl
        · exact (rows x hx).same (t20.trans t1)
        · exact row1.same t1
        · exact row2.same t1
        · exact row3.same t1
      have eR := t1 _ _ (t20 _ _ eR)
      have s21 := s20.trans t1
      generalize upd K11 R2 (.lst [.ref r1, .ref r2, .ref r3]) = K12 at eR2 rows eR s21
      refine ⟨R, R2, us, _, rfl, rfl, eR, eR2, (by show us.length + 3 ≤ sizeLine; rw [sizeLine_eq]; omega), fun R3 nR3 => ?_⟩
      have t2 := Same.new (o := .lst (us ++ [.ref r1, .ref r2, .ref r3])) nR3
      have eR3 : upd K12 R3 (.lst (us ++ [.ref r1, .ref r2, .ref r3])) R3 = some (.lst (us ++ [.ref r1, .ref r2, .ref r3])) := upd_same
      have l3 : (us ++ [V.ref r1, .ref r2, .ref r3]).length ≤ 6 := by rw [List.length_append]; show us.length + 3 ≤ 6; omega
      have rows : ∀ x ∈ us ++ [V.ref r1, .ref r2, .ref r3], RowOk K T.cP (upd K12 R3 (.lst (us ++ [.ref r1, .ref r2, .ref r3]))) x := fun x hx => (rows x hx).same t2
      have s22 := s21.trans t2
      generalize us ++ [V.ref r1, .ref r2, .ref r3] = us2 at eR3 l3 rows s22
      generalize upd K12 R3 (.lst us2) = K13 at eR3 rows s22
      have lr1 := lr1.same s22
      have pa := pa.same s22
      have rby := rby.same s22
      have tb := tb.ext s22
      have pn := pn.same s22
      clear t1 t2 eR eR2 s21 row1 row2 row3 t20 s20 s10 lR s22 hb pb lru cru zru tru llu ha
      -- one number, as a row
      refine ⟨_, rfl, (by show 1 ≤ sizeLine; decide), fun l nl => ?_⟩
      have t1 := Same.new (o := .lst [uby]) nl
      refine ⟨.ref l, [qy], rfl, ⟨l, _, rfl, upd_same, Al.snoc (Al.nil (H := _)) (rby.same t1)⟩, by show 1 ≤ 1000; decide, fun fv G2 fs t2 lrf trf llf ef => ?_⟩
      have s2 := t1.trans t2
      have lr1 := lr1.same s2
      have pa := pa.same s2
      have rby := rby.same s2
      have tb := tb.ext s2
      have pn := pn.same s2
      have eR3 := s2 _ _ eR3
      have rows : ∀ x ∈ us2, RowOk K T.cP G2 x := fun x hx => (rows x hx).same s2
      clear s2 t1 t2
      have zy : Sz 10 7 qy := smy.sz (by decide)
      have hfl : fs.length ≤ 1 := llf
      -- what is passed
      refine ⟨fun ρ G' => ∃ (x2 x4 x6 x7 : Option V) (v : V), ρ = [some (.ref sa), some (.ref p), x2, some w1, x4, some (.ref a0), x6, x7, some (.ref R3), some fv, some v, v11, v12, v13, v14, v15, v16, v17] ∧ Pen G' p c (12000 * i + 1200) ∧ But p G2 G' ∧ VOk K G' v qy, ?_, ?_⟩
      · obtain ⟨tby, rfl, hby⟩ := id rby
        have c1 : (3 : Int).natAbs < 2 ^ 2 := by decide
        refine ⟨_, rfl, _, rfl, _, rfl, _, _, _, _, rfl, rfl, hby, rfl, _, _, rfl, rfl, cmulW c1 zy.1 (by decide), ?_⟩
        refine ⟨_, rfl, _, _, _, _, rfl, rfl, hby, rfl, _, _, rfl, rfl, cmulW c1 (den_abs zy) (by decide), (by show 2 ≤ sizeLine; decide), fun tp ntp => ?_⟩
        have t1 := Same.new (o := .tup [.int (3 * qy.num), .int (3 * (qy.den : Int))]) ntp
        have etp : SqT K (upd G2 tp (.tup [.int (3 * qy.num), .int (3 * (qy.den : Int))])) tp [.int (3 * qy.num), .int (3 * (qy.den : Int))] := SqT.of upd_same
        generalize upd G2 tp (.tup [.int (3 * qy.num), .int (3 * (qy.den : Int))]) = K1 at t1 etp
        refine ⟨(by show 2 ≤ sizeLine; decide), fun la nla => ?_⟩
        have t2 := Same.new (o := .lst [.ref tby, .ref tp]) nla
        have ela : upd K1 la (.lst [.ref tby, .ref tp]) la = some (.lst [.ref tby, .ref tp]) := upd_same
        have etp := Kz.Same.seqT t2 etp
        have t2 := t1.trans t2
        generalize upd K1 la (.lst [.ref tby, .ref tp]) = K2 at t2 ela etp
        have hby2 := Kz.Same.seqT t2 hby
        refine ⟨_, rfl, _, _, _, _, rfl, rfl, hby2, rfl, rfl, _, rfl, ?_⟩
        by_cases d1 : qy.den = 1
        · rw [show decide (V.int (qy.den : Int) = V.int 1) = true from decide_eq_true (by rw [d1]; rfl)]
          refine iteT ⟨_, rfl, _, _, _, _, rfl, rfl, hby2, rfl, (by show 1 ≤ sizeLine; decide), fun lb nlb => ?_⟩
          have t3 := Same.new (o := .lst [.int qy.num]) nlb
          have elb : upd K2 lb (.lst [.int qy.num]) lb = some (.lst [.int qy.num]) := upd_same
          have ela := t3 _ _ ela
          have etp := Kz.Same.seqT t3 etp
          have t3 := t2.trans t3
          generalize upd K2 lb (.lst [.int qy.num]) = K3 at t3 elb ela etp
          refine ⟨la, lb, _, _, rfl, rfl, ela, elb, (by show 2 + 1 ≤ sizeLine; decide), fun lc nlc => ?_⟩
          have t4 := Same.new (o := .lst ([.ref tby, .ref tp] ++ [.int qy.num])) nlc
          have etp := Kz.Same.seqT t4 etp
          have t4 := t3.trans t4
          have pn4 := pn.same t4
          refine ⟨p, c, lc, _, _, rfl, pn4, by omega, upd_same, (by show 0 < 3; decide), (by show 3 < 1000000; decide), fun j v G' hj pn' b' => ?_⟩
          refine ⟨_, _, _, _, v, rfl, pn'.more (by omega), (But.ofSame t4).trans b', ?_⟩
          have mem := mem_of_at hj
          simp only [List.cons_append, List.nil_append, List.mem_cons, List.not_mem_nil, or_false] at mem
          rcases mem with rfl | rfl | rfl
          · exact (VOk.of (rby.same t4) zy).but pn4 b'
          · exact (VOk.three etp zy).but pn4 b'
          · exact VOk.int zy d1
        · rw [show decide (V.int (qy.den : Int) = V.int 1) = false from decide_eq_false (fun z => d1 (by have := V.int.inj z; omega))]
          refine iteF ⟨(by show 0 ≤ sizeLine; decide), fun lb nlb => ?_⟩
          have t3 := Same.new (o := .lst []) nlb
          have elb : upd K2 lb (.lst []) lb = some (.lst []) := upd_same
          have ela := t3 _ _ ela
          have etp := Kz.Same.seqT t3 etp
          have t3 := t2.trans t3
          generalize upd K2 lb (.lst []) = K3 at t3 elb ela etp
          refine ⟨la, lb, _, _, rfl, rfl, ela, elb, (by show 2 + 0 ≤ sizeLine; decide), fun lc nlc => ?_⟩
          have t4 := Same.new (o := .lst ([.ref tby, .ref tp] ++ [])) nlc
          have etp := Kz.Same.seqT t4 etp
          have t4 := t3.trans t4
          have pn4 := pn.same t4
          refine ⟨p, c, lc, _, _, rfl, pn4, by omega, upd_same, (by show 0 < 2; decide), (by show 2 < 1000000; decide), fun j v G' hj pn' b' => ?_⟩
          refine ⟨_, _, _, _, v, rfl, pn'.more (by omega), (But.ofSame t4).trans b', ?_⟩
          have mem := mem_of_at hj
          simp only [List.append_nil, List.mem_cons, List.not_mem_nil, or_false] at mem
          rcases mem with rfl | rfl
          · exact (VOk.of (rby.same t4) zy).but pn4 b'
          · exact (VOk.three etp zy).but pn4 b'
      · rintro ρ G ⟨x2, x4, x6, x7, v, rfl, pn2, b2, vok⟩
        have lr1 := pn.lr b2 lr1
        have pa := pn.poly b2 pa
        have tb := pn.tabs b2 tb
        have eR3 := pn.lst b2 eR3
        have lrf := pn.lr b2 lrf
        have rows : ∀ x ∈ us2, RowOk K T.cP G x := fun x hx => (rows x hx).but pn b2
        have pn := pn2
        have efl : ∀ i, cf fs i = one0 qy i := fun i => (ef i).trans (cf_one i)
        have zf : ∀ i, Sz 10 7 (cf fs i) := fun i => by
          rw [efl]
          exact one_sz zy (by decide) (by decide) i
        have cfl : CD 10 7 fs := one_cd zy efl
        have ffl : cf fs = one0 qy := funext efl
        obtain ⟨_, adx, _, _, eqa, ha, _⟩ := id pa
        cases eqa
        obtain ⟨PT, pl⟩ := vok.plain
        have s0 : Same G G := Same.refl _
        have eR := eR3
        have lus := l3
        generalize us2 = us at eR rows lus
        have vk1 := vok.same s0
        obtain ⟨PT1, pl1⟩ := vk1.plain
        refine ⟨_, rfl, _, rfl, _, rfl, ⟨a0, adx, _, PT1, rfl, s0 _ _ ha, pl1⟩, .ref a0, v, qs, one0 qy, 10, 7, 12, 12, 1, rfl, pa.same s0, .inr ⟨qy, vk1.arg, vk1.ty, Nat.le_refl 1, fun _ => rfl⟩, fun i _ => zq i, by decide, by decide, by decide, by decide, by omega, by decide, by decide, by decide, (by show 7 + 12 ≤ 9000; decide), fun x1 Ka xs1 t1 p1 e1 l1 => ?_⟩
        refine ⟨_, rfl, _, rfl, w1, fv, qs, fs, 10, 7, 10, 7, rfl, lr1.same (s0.trans t1), lrf.same (s0.trans t1), fun i _ => zq i, fun i _ => zf i, by decide, by decide, by decide, by decide, by decide, by decide, by omega, by omega, fun y1 Kb ys1 t2 lry try1 lly ey => ?_⟩
        refine ⟨(by show 2 ≤ sizeLine; decide), fun r1 nr => ?_⟩
        have t3 := Same.new (o := .tup [x1, y1]) nr
        have row1 : RowOk K T.cP (upd Kb r1 (.tup [x1, y1])) (.ref r1) := RowOk.new nr (p1.same t2) lry try1 (fun i => by
          have h1 := e1 i
          have h2 := ey i
          rw [ffl] at h2
          exact h1.trans h2.symm) (fun i => by
          rw [ey]
          exact (add_sz (zq i) (zf i)).up (by decide) (by decide)) (by omega)
        have t13 := (t1.trans t2).trans t3
        have s1 := s0.trans t13
        have eR := t13 _ _ eR
        have rows : ∀ x ∈ us, RowOk K T.cP (upd Kb r1 (.tup [x1, y1])) x := fun x hx => (rows x hx).same t13
        generalize upd Kb r1 (.tup [x1, y1]) = K1 at row1 s1 eR rows
        clear t3 t13 t2 t1 p1 e1 l1 lry try1 lly ey nr vk1 pl1
        have vk2 := vok.same s1
        obtain ⟨PT2, pl2⟩ := vk2.plain
        refine ⟨_, rfl, _, rfl, ⟨a0, adx, _, PT2, rfl, s1 _ _ ha, pl2⟩, .ref a0, v, qs, one0 qy, 10, 7, 12, 12, 1, rfl, pa.same s1, .inr ⟨qy, vk2.arg, vk2.ty, Nat.le_refl 1, fun _ => rfl⟩, fun i _ => zq i, by decide, by decide, by decide, by decide, by omega, by decide, by decide, by decide, (by show 7 + 12 ≤ 9000; decide), fun x1 Ka xs1 t1 p1 e1 l1 => ?_⟩
        refine ⟨_, rfl, _, rfl, w1, fv, qs, fs, 10, 7, 10, 7, rfl, lr1.same (s1.trans t1), lrf.same (s1.trans t1), fun i _ => zq i, fun i _ => zf i, by decide, by decide, by decide, by decide, by decide, by decide, by omega, by omega, fun y1 Kb ys1 t2 lry try1 lly ey => ?_⟩
        refine ⟨(by show 2 ≤ sizeLine; decide), fun r2 nr => ?_⟩
        have t3 := Same.new (o := .tup [x1, y1]) nr
        have row2 : RowOk K T.cP (upd Kb r2 (.tup [x1, y1])) (.ref r2) := RowOk.new nr (p1.same t2) lry try1 (fun i => by
          have h1 := e1 i
          have h2 := ey i
          rw [ffl] at h2
          exact h1.trans ((Rat.add_comm _ _).trans h2.symm)) (fun i => by
          rw [ey]
          exact (add_sz (zq i) (zf i)).up (by decide) (by decide)) (by omega)
        have t13 := (t1.trans t2).trans t3
        have s2 := s1.trans t13
        have row1 := row1.same t13
        have eR := t13 _ _ eR
        have rows : ∀ x ∈ us, RowOk K T.cP (upd Kb r2 (.tup [x1, y1])) x := fun x hx => (rows x hx).same t13
        generalize upd Kb r2 (.tup [x1, y1]) = K2 at row2 row1 s2 eR rows
        clear t3 t13 t2 t1 p1 e1 l1 lry try1 lly ey nr vk2 pl2
        refine ⟨(by show 2 ≤ sizeLine; decide), fun Rl nRl => ?_⟩
        have t1 := Same.new (o := .lst [.ref r1, .ref r2]) nRl
        have eRl : upd K2 Rl (.lst [.ref r1, .ref r2]) Rl = some (.lst [.ref r1, .ref r2]) := upd_same
        have rows : ∀ x ∈ us ++ [V.ref r1, .ref r2], RowOk K T.cP (upd K2 Rl (.lst [.ref r1, .ref r2])) x := fun x hx => by
          simp only [List.mem_append, List.mem_cons, List.not_mem_nil, or_false] at hx
          rcases hx with hx | rfl | rfl
          · exact (rows x hx).same t1
          · exact row1.same t1
          · exact row2.same t1
        have eR := t1 _ _ eR
        have s2 := s2.trans t1
        generalize upd K2 Rl (.lst [.ref r1, .ref r2]) = KL at eRl rows eR s2
        refine ⟨R3, Rl, us, _, rfl, rfl, eR, eRl, (by show us.length + 2 ≤ sizeLine; rw [sizeLine_eq]; omega), fun R4 nRn => ?_⟩
        have t2 := Same.new (o := .lst (us ++ [.ref r1, .ref r2])) nRn
        have eR : upd KL R4 (.lst (us ++ [.ref r1, .ref r2])) R4 = some (.lst (us ++ [.ref r1, .ref r2])) := upd_same
        have lus : (us ++ [V.ref r1, .ref r2]).length ≤ 8 := by rw [List.length_append]; show us.length + 2 ≤ 8; omega
        have rows : ∀ x ∈ us ++ [V.ref r1, .ref r2], RowOk K T.cP (upd KL R4 (.lst (us ++ [.ref r1, .ref r2]))) x := fun x hx => (rows x hx).same t2
        have s2 := s2.trans t2
        clear t1 eRl row1 row2
        generalize us ++ [V.ref r1, .ref r2] = us at eR lus rows s2
        generalize upd KL R4 (.lst us) = KM at eR rows s2
        clear t2
        have vk3 := vok.same s2
        obtain ⟨PT3, pl3⟩ := vk3.plain
        refine ⟨_, rfl, _, rfl, _, rfl, ⟨a0, adx, _, PT3, rfl, s2 _ _ ha, pl3⟩, .ref a0, v, qs, one0 qy, 10, 7, 12, 12, 1, rfl, pa.same s2, .inr ⟨qy, vk3.arg, vk3.ty, Nat.le_refl 1, fun _ => rfl⟩, fun i _ => zq i, by decide, by decide, by decide, by decide, by omega, by decide, by decide, by decide, ⟨by omega, by decide, by decide⟩, fun x1 Ka xs1 t1 p1 e1 l1 => ?_⟩
        refine ⟨_, rfl, _, rfl, w1, fv, qs, fs, 43, 40, 10, 7, rfl, lr1.same (s2.trans t1), lrf.same (s2.trans t1), cq, cfl, by decide, by decide, by decide, by decide, by decide, by decide, by omega, by omega, fun y1 Kb ys1 t2 lry try1 lly ey => ?_⟩
        refine ⟨(by show 2 ≤ sizeLine; decide), fun r3 nr => ?_⟩
        have t3 := Same.new (o := .tup [x1, y1]) nr
        have row3 : RowOk K T.cP (upd Kb r3 (.tup [x1, y1])) (.ref r3) := RowOk.new nr (p1.same t2) lry try1 (fun i => by
          obtain ⟨N, lN, zN, e1⟩ := e1
          have h1 := e1 i
          have h2 := ey i
          rw [ffl, conv_oneQ] at h2
          rw [conv_oneL lN zN] at h1
          rw [h1, h2, Rat.mul_comm]) (fun i => by
          exact ((conv_cd cq cfl (by omega) ey).sz i).up (by decide) (by decide)) (by omega)
        have t13 := (t1.trans t2).trans t3
        have s3 := s2.trans t13
        have eR := t13 _ _ eR
        have rows : ∀ x ∈ us, RowOk K T.cP (upd Kb r3 (.tup [x1, y1])) x := fun x hx => (rows x hx).same t13
        generalize upd Kb r3 (.tup [x1, y1]) = K3 at row3 s3 eR rows
        clear t3 t13 t2 t1 p1 e1 l1 lry try1 lly ey nr vk3 pl3
        have vk4 := vok.same s3
        obtain ⟨PT4, pl4⟩ := vk4.plain
        refine ⟨_, rfl, _, rfl, ⟨a0, adx, _, PT4, rfl, s3 _ _ ha, pl4⟩, .ref a0, v, qs, one0 qy, 10, 7, 12, 12, 1, rfl, pa.same s3, .inr ⟨qy, vk4.arg, vk4.ty, Nat.le_refl 1, fun _ => rfl⟩, fun i _ => zq i, by decide, by decide, by decide, by decide, by omega, by decide, by decide, by decide, (by show 7 + 12 ≤ 9000; decide), fun x1 Ka xs1 t1 p1 e1 l1 => ?_⟩
        refine ⟨_, rfl, _, rfl, fv, w1, fs, qs, 10, 7, 10, 7, rfl, lrf.same (s3.trans t1), lr1.same (s3.trans t1), fun i _ => zf i, fun i _ => zq i, by decide, by decide, by decide, by decide, by decide, by decide, by omega, by omega, fun y1 Kb ys1 t2 lry try1 lly ey => ?_⟩
        refine ⟨(by show 2 ≤ sizeLine; decide), fun r4 nr => ?_⟩
        have t3 := Same.new (o := .tup [x1, y1]) nr
        have row4 : RowOk K T.cP (upd Kb r4 (.tup [x1, y1])) (.ref r4) := RowOk.new nr (p1.same t2) lry try1 (fun i => by
          have h1 := e1 i
          have h2 := ey i
          rw [ffl] at h2
          exact h1.trans ((Rat.sub_eq_add_neg _ _).symm.trans h2.symm)) (fun i => by
          rw [ey]
          show Sz 1900 1900 (cf fs i - cf qs i)
          rw [Rat.sub_eq_add_neg]
          exact (add_sz (zf i) (sz_neg (zq i))).up (by decide) (by decide)) (by omega)
        have t13 := (t1.trans t2).trans t3
        have s4 := s3.trans t13
        have row3 := row3.same t13
        have eR := t13 _ _ eR
        have rows : ∀ x ∈ us, RowOk K T.cP (upd Kb r4 (.tup [x1, y1])) x := fun x hx => (rows x hx).same t13
        generalize upd Kb r4 (.tup [x1, y1]) = K4 at row4 row3 s4 eR rows
        clear t3 t13 t2 t1 p1 e1 l1 lry try1 lly ey nr vk4 pl4
        refine ⟨(by show 2 ≤ sizeLine; decide), fun Rl nRl => ?_⟩
        have t1 := Same.new (o := .lst [.ref r3, .ref r4]) nRl
        have eRl : upd K4 Rl (.lst [.ref r3, .ref r4]) Rl = some (.lst [.ref r3, .ref r4]) := upd_same
        have rows : ∀ x ∈ us ++ [V.ref r3, .ref r4], RowOk K T.cP (upd K4 Rl (.lst [.ref r3, .ref r4])) x := fun x hx => by
          simp only [List.mem_append, List.mem_cons, List.not_mem_nil, or_false] at hx
          rcases hx with hx | rfl | rfl
          · exact (rows x hx).same t1
          · exact row3.same t1
          · exact row4.same t1
        have eR := t1 _ _ eR
        have s4 := s4.trans t1
        generalize upd K4 Rl (.lst [.ref r3, .ref r4]) = KL at eRl rows eR s4
        refine ⟨R4, Rl, us, _, rfl, rfl, eR, eRl, (by show us.length + 2 ≤ sizeLine; rw [sizeLine_eq]; omega), fun R5 nRn => ?_⟩
        have t2 := Same.new (o := .lst (us ++ [.ref r3, .ref r4])) nRn
        have eR : upd KL R5 (.lst (us ++ [.ref r3, .ref r4])) R5 = some (.lst (us ++ [.ref r3, .ref r4])) := upd_same
        have lus : (us ++ [V.ref r3, .ref r4]).length ≤ 10 := by rw [List.length_append]; show us.length + 2 ≤ 10; omega
        have rows : ∀ x ∈ us ++ [V.ref r3, .ref r4], RowOk K T.cP (upd KL R5 (.lst (us ++ [.ref r3, .ref r4]))) x := fun x hx => (rows x hx).same t2
        have s4 := s4.trans t2
        clear t1 eRl row3 row4
        generalize us ++ [V.ref r3, .ref r4] = us at eR lus rows s4
        generalize upd KL R5 (.lst us) = KM at eR rows s4
        clear t2
        have vk5 := vok.same s4
        obtain ⟨PT5, pl5⟩ := vk5.plain
        refine ⟨_, rfl, _, rfl, _, rfl, ⟨a0, adx, _, PT5, rfl, s4 _ _ ha, pl5⟩, .ref a0, v, qs, one0 qy, 10, 7, 12, 12, 1, rfl, pa.same s4, .inr ⟨qy, vk5.arg, vk5.ty, Nat.le_refl 1, fun _ => rfl⟩, fun i _ => zq i, by decide, by decide, by decide, by decide, by omega, by decide, by decide, by decide, ⟨by omega, by decide, by decide⟩, fun x1 Ka xs1 t1 p1 e1 l1 => ?_⟩
        refine ⟨_, rfl, _, rfl, w1, fv, qs, fs, 43, 40, 10, 7, rfl, lr1.same (s4.trans t1), lrf.same (s4.trans t1), cq, cfl, by decide, by decide, by decide, by decide, by decide, by decide, by omega, by omega, fun y1 Kb ys1 t2 lry try1 lly ey => ?_⟩
        refine ⟨(by show 2 ≤ sizeLine; decide), fun r5 nr => ?_⟩
        have t3 := Same.new (o := .tup [x1, y1]) nr
        have row5 : RowOk K T.cP (upd Kb r5 (.tup [x1, y1])) (.ref r5) := RowOk.new nr (p1.same t2) lry try1 (fun i => by
          have h1 := e1 i
          have h2 := ey i
          rw [ffl] at h2
          exact h1.trans h2.symm) (fun i => by
          exact ((conv_cd cq cfl (by omega) ey).sz i).up (by decide) (by decide)) (by omega)
        have t13 := (t1.trans t2).trans t3
        have s5 := s4.trans t13
        have eR := t13 _ _ eR
        have rows : ∀ x ∈ us, RowOk K T.cP (upd Kb r5 (.tup [x1, y1])) x := fun x hx => (rows x hx).same t13
        generalize upd Kb r5 (.tup [x1, y1]) = K5 at row5 s5 eR rows
        clear t3 t13 t2 t1 p1 e1 l1 lry try1 lly ey nr vk5 pl5
        have vk6 := vok.same s5
        obtain ⟨PT6, pl6⟩ := vk6.plain
        refine ⟨_, rfl, _, rfl, ⟨a0, adx, _, PT6, rfl, s5 _ _ ha, pl6⟩, .ref a0, v, qs, one0 qy, 10, 7, 12, 12, 1, rfl, pa.same s5, .inr ⟨qy, vk6.arg, vk6.ty, Nat.le_refl 1, fun _ => rfl⟩, fun i _ => zq i, by decide, by decide, by decide, by decide, by omega, by decide, by decide, by decide, (by show 7 + 12 ≤ 9000; decide), fun x1 Ka xs1 t1 p1 e1 l1 => ?_⟩
        refine ⟨_, rfl, _, rfl, w1, fv, qs, fs, 10, 7, 10, 7, rfl, lr1.same (s5.trans t1), lrf.same (s5.trans t1), fun i _ => zq i, fun i _ => zf i, by decide, by decide, by decide, by decide, by decide, by decide, by omega, by omega, fun y1 Kb ys1 t2 lry try1 lly ey => ?_⟩
        refine ⟨(by show 2 ≤ sizeLine; decide), fun r6 nr => ?_⟩
        have t3 := Same.new (o := .tup [x1, y1]) nr
        have row6 : RowOk K T.cP (upd Kb r6 (.tup [x1, y1])) (.ref r6) := RowOk.new nr (p1.same t2) lry try1 (fun i => by
          have h1 := e1 i
          have h2 := ey i
          rw [ffl] at h2
          exact h1.trans ((Rat.sub_eq_add_neg _ _).symm.trans h2.symm)) (fun i => by
          rw [ey]
          show Sz 1900 1900 (cf qs i - cf fs i)
          rw [Rat.sub_eq_add_neg]
          exact (add_sz (zq i) (sz_neg (zf i))).up (by decide) (by decide)) (by omega)
        have t13 := (t1.trans t2).trans t3
        have s6 := s5.trans t13
        have row5 := row5.same t13
        have eR := t13 _ _ eR
        have rows : ∀ x ∈ us, RowOk K T.cP (upd Kb r6 (.tup [x1, y1])) x := fun x hx => (rows x hx).same t13
        generalize upd Kb r6 (.tup [x1, y1]) = K6 at row6 row5 s6 eR rows
        clear t3 t13 t2 t1 p1 e1 l1 lry try1 lly ey nr vk6 pl6
        refine ⟨(by show 2 ≤ sizeLine; decide), fun Rl nRl => ?_⟩
        have t1 := Same.new (o := .lst [.ref r5, .ref r6]) nRl
        have eRl : upd K6 Rl (.lst [.ref r5, .ref r6]) Rl = some (.lst [.ref r5, .ref r6]) := upd_same
        have rows : ∀ x ∈ us ++ [V.ref r5, .ref r6], RowOk K T.cP (upd K6 Rl (.lst [.ref r5, .ref r6])) x := fun x hx => by
          simp only [List.mem_append, List.mem_cons, List.not_mem_nil, or_false] at hx
          rcases hx with hx | rfl | rfl
          · exact (rows x hx).same t1
          · exact row5.same t1
          · exact row6.same t1
        have eR := t1 _ _ eR
        have s6 := s6.trans t1
        generalize upd K6 Rl (.lst [.ref r5, .ref r6]) = KL at eRl rows eR s6
        refine ⟨R5, Rl, us, _, rfl, rfl, eR, eRl, (by show us.length + 2 ≤ sizeLine; rw [sizeLine_eq]; omega), fun R6 nRn => ?_⟩
        have t2 := Same.new (o := .lst (us ++ [.ref r5, .ref r6])) nRn
        have eR : upd KL R6 (.lst (us ++ [.ref r5, .ref r6])) R6 = some (.lst (us ++ [.ref r5, .ref r6])) := upd_same
        have lus : (us ++ [V.ref r5, .ref r6]).length ≤ 12 := by rw [List.length_append]; show us.length + 2 ≤ 12; omega
        have rows : ∀ x ∈ us ++ [V.ref r5, .ref r6], RowOk K T.cP (upd KL R6 (.lst (us ++ [.ref r5, .ref r6]))) x := fun x hx => (rows x hx).same t2
        have s6 := s6.trans t2
        clear t1 eRl row5 row6
        generalize us ++ [V.ref r5, .ref r6] = us at eR lus rows s6
        generalize upd KL R6 (.lst us) = KM at eR rows s6
        clear t2
        have lr1 := lr1.same s6
        have pa := pa.same s6
        have tb := tb.ext s6
        have pn := pn.same s6
        clear s6 s5 s4 s3 s2 s1 s0 ha vok pl lrf b2 cfl zf ffl efl
        -- start and step
        refine ⟨_, rfl, p, c, _, 3, rfl, pn, by omega, by decide, by decide, fun sv L1 sq pn1 b1 rvs sms => ?_⟩
        refine ⟨_, rfl, (by show 2 ≤ sizeLine; decide), fun t nt => ?_⟩
        have t2 := Same.new (o := .tup [.int 0, .int 1]) nt
        have r0 : RV K (upd L1 t (.tup [.int 0, .int 1])) (.ref t) 0 := ⟨t, rfl, SqT.of upd_same⟩
        have pn2 := pn1.same t2
        generalize upd L1 t (.tup [.int 0, .int 1]) = L2 at t2 r0 pn2
        refine ⟨_, rfl, p, c, _, 3, rfl, pn2, by omega, by decide, by decide, fun v3 L3 q3 pn3 b3 rv3 sm3 => ?_⟩
        refine ⟨(by show 2 ≤ sizeLine; decide), fun l4 nl4 => ?_⟩
        have t4 := Same.new (o := .lst [.ref t, v3]) nl4
        have pn4 := pn3.same t4
        refine ⟨p, c, l4, _, _, rfl, pn4, by omega, upd_same, (by show 0 < 2; decide), (by show 2 < 1000000; decide), fun j tv L5 hj pn5 b5 => ?_⟩
        obtain ⟨tq, rvt, zt⟩ : ∃ tq, RV K L5 tv tq ∧ Sz 10 7 tq := by
          have mem := mem_of_at hj
          simp only [List.mem_cons, List.not_mem_nil, or_false] at mem
          rcases mem with rfl | rfl
          · exact ⟨0, pn4.rv b5 ((pn2.rv b3 r0).same t4), zero_sz (by decide)⟩
          · exact ⟨q3, pn4.rv b5 (rv3.same t4), sm3.sz (by decide)⟩
        have zs : Sz 10 7 sq := sms.sz (by decide)
        have b15 : But p L1 L5 := (((But.ofSame t2).trans b3).trans (.ofSame t4)).trans b5
        have rvs := pn1.rv b15 rvs
        have b05 := b1.trans b15
        have lr1 := pn.lr b05 lr1
        have pa := pn.poly b05 pa
        have tb := pn.tabs b05 tb
        have eR := pn.lst b05 eR
        have rows : ∀ x ∈ us, RowOk K T.cP L5 x := fun x hx => (rows x hx).but pn b05
        have pn := pn5.more (show _ ≤ 12000 * i + 1300 by omega)
        clear b05 b15 b1 b5 hj pn5 pn4 t4 pn3 b3 rv3 sm3 pn2 r0 t2 pn1
        refine ⟨_, _, rfl, ?_⟩
        -- moved
        obtain ⟨_, adx, _, _, eqa, ha, _⟩ := id pa
        cases eqa
        refine ⟨_, rfl, a0, adx, _, rfl, ha, lkMv, _, rfl, _, rfl, p, c, _, sv, sq, 10, 7, rfl, pn, by omega, rvs, zs, by decide, by decide, by decide, by decide, fun u1 L6 pn6 b6 aq1 _ _ => ?_⟩
        refine ⟨_, rfl, _, rfl, p, c, _, tv, tq, 10, 7, rfl, pn6, by omega, pn.rv b6 rvt, zt, by decide, by decide, by decide, by decide, fun u2 L7 pn7 b7 aq2 _ _ => ?_⟩
        have b67 := b6.trans b7
        have lr1 := pn.lr b67 lr1
        have pa := pn.poly b67 pa
        have tb := pn.tabs b67 tb
        have eR := pn.lst b67 eR
        have rvs := pn.rv b67 rvs
        have rvt := pn.rv b67 rvt
        have rows : ∀ x ∈ us, RowOk K T.cP L7 x := fun x hx => (rows x hx).but pn b67
        have aq1 := pn6.argQ b7 aq1
        have pn := pn7.more (show _ ≤ 12000 * i + 1310 by omega)
        clear b67 b6 b7 pn6 pn7 ha
        refine ⟨.ref a0, u1, u2, qs, 10, 7, rfl, pa, zq, by decide, by decide, by omega, .inl ⟨sq, tq, 12, 9, aq1, aq2, by decide, by decide, by decide, by decide, by omega, fun mv L8 mts t8 pmv emv => ?_⟩⟩
        have lr1 := lr1.same t8
        have pa := pa.same t8
        have tb := tb.ext t8
        have eR := t8 _ _ eR
        have rvs := rvs.same t8
        have rvt := rvt.same t8
        have rows : ∀ x ∈ us, RowOk K T.cP L8 x := fun x hx => (rows x hx).same t8
        have pn := pn.same t8
        clear t8 aq1 aq2
        -- the list compared
        refine ⟨_, rfl, _, rfl, _, rfl, _, rfl, _, rfl, w1, sv, tv, qs, 10, 7, sq, tq, 10, 7, rfl, lr1, zq, rvs, rvt, zs, zt, by decide, by decide, by decide, by decide, by omega, by omega, by omega, fun dv L9 dts t9 lrd trd lld ed => ?_⟩
        refine ⟨(by show 2 ≤ sizeLine; decide), fun rm nrm => ?_⟩
        have t10 := Same.new (o := .tup [mv, dv]) nrm
        have rowm : RowOk K T.cP (upd L9 rm (.tup [mv, dv])) (.ref rm) := RowOk.new nrm (pmv.same t9) lrd trd (fun i => by rw [emv, ed]) (fun i => by
          rw [ed]
          exact mvd_sz zs zt zq (by omega) i) (by omega)
        have t10 := t9.trans t10
        generalize upd L9 rm (.tup [mv, dv]) = L10 at t10 rowm
        refine ⟨(by show 1 ≤ sizeLine; decide), fun Rm nRm => ?_⟩
        have t11 := Same.new (o := .lst [.ref rm]) nRm
        have eRm : upd L10 Rm (.lst [.ref rm]) Rm = some (.lst [.ref rm]) := upd_same
        have rowm := rowm.same t11
        have t11 := t10.trans t11
        generalize upd L10 Rm (.lst [.ref rm]) = L11 at t11 rowm eRm
        refine ⟨R6, Rm, us, _, rfl, rfl, t11 _ _ eR, eRm, (by show us.length + 1 ≤ sizeLine; rw [sizeLine_eq]; omega), fun R7 nR7 => ?_⟩
        have t12 := Same.new (o := .lst (us ++ [.ref rm])) nR7
        have eR7 : upd L11 R7 (.lst (us ++ [.ref rm])) R7 = some (.lst (us ++ [.ref rm])) := upd_same
        have rows : ∀ x ∈ us ++ [V.ref rm], RowOk K T.cP (upd L11 R7 (.lst (us ++ [.ref rm]))) x := fun x hx => by
          simp only [List.mem_append, List.mem_cons, List.not_mem_nil, or_false] at hx
          rcases hx with hx | rfl
          · exact (rows x hx).same (t11.trans t12)
          · exact rowm.same t12
        have t12 := t11.trans t12
        generalize us ++ [V.ref rm] = ws at eR7 rows t12
        generalize upd L11 R7 (.lst ws) = L12 at eR7 rows t12
        have lr1 := lr1.same t12
        have pa := pa.same t12
        have tb := tb.ext t12
        have rvs := rvs.same t12
        have pn := pn.same t12
        clear t12 t11 t10 t9 rowm eRm lrd trd lld ed emv pmv rvt eR
        refine ⟨R7, rfl, ⟨_, SqL.of eR7⟩, for_list (K := K) (a := R7) (xs := ws) (fun j ρ H' => ∃ y14 y15 : Option V, ρ = [some (.ref sa), some (.ref p), x2, some w1, x4, some (.ref a0), x6, x7, some (.ref R6), some fv, some v, some sv, some tv, some mv, y14, y15, v16, v17] ∧ Same L12 H') ⟨_, _, rfl, Same.refl _⟩
          (fun j ρ H' _ ⟨_, _, _, s⟩ => SqL.of (s _ _ eR7)) ?_ ?_⟩
        · rintro j x ρ H' hx ⟨y14, y15, rfl, s⟩
          obtain ⟨t, pv1, dv1, ts, rfl, ht, hp, hl, hz, hlen⟩ := (rows x (List.mem_of_getElem? hx)).same s
          obtain ⟨m0, mdx, mt, mw, rfl, hm0, hmt, alm, _⟩ := hp
          obtain ⟨ld, wd, rfl, hld, ald⟩ := hl
          have sh : Shows (.tuple (ts.map pdQ)) := rows_shows (fun q hm => by
            obtain ⟨i', li⟩ := List.getElem?_of_mem hm
            rw [← cf_at li]
            exact hz i') (by decide) (by decide) hlen
          refine ⟨t, _, rfl, ht, rfl, _, _, rfl, _, _, rfl, rfl, ?_⟩
          refine ⟨_, rfl, m0, T.cP, mdx, _, _, rfl, hm0, T.clP, T.nP, lkN, _, _, rfl, .tup hmt alm.dq, sh.sh, sh.dp, sh.ln, ?_⟩
          refine ⟨_, rfl, ld, wd, rfl, .inl ⟨SqL.of hld, fun q nq => ?_⟩⟩
          have t1 := Same.new (o := .tup wd) nq
          refine ⟨_, _, rfl, .tup (SqT.of upd_same) (ald.same t1).dq, sh.sh, sh.dp, sh.ln, rfl, _, rfl, ?_⟩
          rw [ne_same]
          exact iteF ⟨_, _, rfl, s.trans t1⟩
        · rintro ρ L13 ⟨y14, y15, rfl, s⟩
          have lr1 := lr1.same s
          have pa := pa.same s
          have tb := tb.ext s
          have rvs := rvs.same s
          have pn := pn.same s
          obtain ⟨_, adx, _, _, eqa, ha, _⟩ := id pa
          cases eqa
          have zA : SzA 10 7 qs := fun i _ => zq i
          -- at a place
          refine ⟨_, rfl, a0, adx, _, rfl, ha, lkAt, _, rfl, _, rfl, p, c, _, sv, sq, 10, 7, rfl, pn, by omega, rvs, zs, by decide, by decide, by decide, by decide, fun u1 M1 pn1 b1 aq1 _ _ => ?_⟩
          have lr1 := pn.lr b1 lr1
          have pa := pn.poly b1 pa
          have tb := pn.tabs b1 tb
          have rvs := pn.rv b1 rvs
          have pn := pn1.more (show _ ≤ 12000 * i + 1320 by omega)
          clear b1 pn1 ha
          have shh : Shows (pdQ (hn (cf qs) qs.length sq qs.length)) := one_shows (hn_sz zs zq qs.length (by omega)) (by omega) (by omega)
          refine ⟨.ref a0, u1, qs, 10, 7, rfl, pa, zA, by decide, by decide, by omega, by omega, .inl ⟨sq, 12, 9, aq1, by decide, by decide, by omega, fun y1 M2 t2 ry1 => ?_⟩⟩
          refine ⟨_, _, rfl, ry1.dq, shh.sh, shh.dp, shh.ln, ?_⟩
          refine ⟨_, rfl, _, rfl, w1, sv, qs, 10, 7, 10, 7, sq, rfl, lr1.same t2, zA, rvs.same t2, zs, by decide, by decide, by omega, by omega, by decide, by decide, fun y2 M3 t3 ry2 => ?_⟩
          refine ⟨_, _, rfl, ry2.dq, shh.sh, shh.dp, shh.ln, rfl, _, rfl, ?_⟩
          rw [ne_same]
          have t23 := t2.trans t3
          have pa := pa.same t23
          have tb := tb.ext t23
          have pn := pn.same t23
          obtain ⟨_, adx, _, _, eqa, ha, _⟩ := id pa
          cases eqa
          refine iteF ⟨_, rfl, a0, adx, _, rfl, ha, lkAr, .ref a0, qs, 10, 7, rfl, pa, zA, by decide, by decide, by omega, fun x1 M4 as1 t4 p4 l4 e4 => ?_⟩
          obtain ⟨v0, vdx, _, _, rfl, hv, _⟩ := id p4
          have z0 : hn (cf as1) as1.length (((0 : Int)) : Rat) as1.length = 0 := hn_at0 (e4 0) _
          refine ⟨v0, vdx, _, rfl, hv, lkAt, .ref v0, .int 0, as1, 20, 20, rfl, p4, fun i _ => by rw [e4]; exact area_sz zq ll1 i, by decide, by decide, by omega, by omega, .inl ⟨_, 1, 1, arg_int (i := 0) (by decide) (by decide), by decide, by decide, by omega, fun y3 M5 t5 ry3 => ?_⟩⟩
          rw [z0] at ry3
          refine ⟨(by show 2 ≤ sizeLine; decide), fun t nt => ?_⟩
          have t6 := Same.new (o := .tup [.int 0, .int 1]) nt
          have r6 : RV K (upd M5 t (.tup [.int 0, .int 1])) (.ref t) 0 := ⟨t, rfl, SqT.of upd_same⟩
          refine ⟨pdQ 0, pdQ 0, (ry3.same t6).dp, r6.dp, shp0, shp0, _, rfl, ?_⟩
          rw [eqv0]
          have t46 := (t4.trans t5).trans t6
          have pa := pa.same t46
          have tb := tb.ext t46
          have pn := pn.same t46
          generalize upd M5 t (.tup [.int 0, .int 1]) = M6 at pa tb pn
          clear t46 r6 t6 ry3 t5 p4 hv e4 t4 t23 t3 t2 ry1 ry2 ha shh aq1
          refine iteF ?_
          -- odd values
          refine ⟨_, rfl, p, c, _, rfl, pn, by omega, fun o1 M7 pn7 b7 g1 => ?_⟩
          have pa := pn.poly b7 pa
          have tb := pn.tabs b7 tb
          refine ⟨_, rfl, p, c, _, rfl, pn7, by omega, fun o2 M8 pn8 b8 g2 => ?_⟩
          have pa := pn7.poly b8 pa
          have tb := pn7.tabs b8 tb
          have g1 := g1.but b8
          refine ⟨(by show 2 ≤ sizeLine; decide), fun tt ntt => ?_⟩
          have st := Same.new (o := .tup [o1, o2]) ntt
          have ett : SqT K (upd M8 tt (.tup [o1, o2])) tt [o1, o2] := SqT.of upd_same
          have pa := pa.same st
          have tb := tb.ext st
          have g1 := g1.but (.ofSame st)
          have g2 := g2.but (.ofSame st)
          have pn := (pn8.same st).more (show _ ≤ 12000 * i + 1330 by omega)
          refine ⟨tt, _, rfl, ett, rfl, _, _, rfl, _, _, rfl, rfl, ?_⟩
          generalize upd M8 tt (.tup [o1, o2]) = M at pa tb g1 g2 pn
          clear ett st pn8 b8 pn7 b7 rows lr1 rvs
          obtain ⟨d, hd, sm⟩ := g1.g.ex
          have sh := sm.shows
          refine ⟨tb, fun G5 x5 tb5 => ?_⟩
          have b5 : ButN p M G5 := fun b o e _ nt => x5 b o e nt
          have s5 : Same (Kz.cl p M) G5 := Same.trans b5.cl cl_sub
          have pa5 := PolyAt.ext pn b5 pa
          obtain ⟨_, adx, _, _, eqa, ha, _⟩ := id pa5
          cases eqa
          refine ⟨_, rfl, a0, adx, _, rfl, ha, lkAt, _, rfl, .ref a0, o1, qs, 10, 7, rfl, pa5, zA, by decide, by decide, by omega, by omega, .inr ⟨g1.o.same s5, er_num (hd.same s5) sh fun t5 G6 s6 e6 => ?_⟩⟩
          refine ⟨_, rfl, _, _, rfl, hd.same (s5.trans s6), sh.sh, sh.dp, sh.ln, (by show 3 ≤ sizeLine; decide), fun t2 nt2 => ?_⟩
          have s7 := Same.new (o := .tup [.str "number", .str "place", .str d.shown]) nt2
          have s67 := s6.trans s7
          refine ⟨t5, t2, ["number", "place", d.shown], rfl, rfl, SqT.of (s7 _ _ e6), SqT.of upd_same, _, rfl, ?_⟩
          have bN : ButN p M (upd G6 t2 (.tup [.str "number", .str "place", .str d.shown])) := fun b ob e _ nt => s67 _ _ (x5 b ob e nt)
          have pn := (pn.extN x5).same s67
          have tb := tb5.ext s67
          have pa := pa5.same s67
          have g1 : OddG K p _ o1 := ⟨g1.o.same bN.cl, g1.g.same bN.cl⟩
          have g2 : OddG K p _ o2 := ⟨g2.o.same bN.cl, g2.g.same bN.cl⟩
          generalize upd G6 t2 (.tup [.str "number", .str "place", .str d.shown]) = N1 at pn tb pa g1 g2
          clear bN s67 s7 e6 s6 ha pa5 s5 b5 tb5 x5 hd sm sh
          refine iteF ?_
          obtain ⟨d, hd, sm⟩ := g1.g.ex
          have sh := sm.shows
          refine ⟨tb, fun G5 x5 tb5 => ?_⟩
          have b5 : ButN p N1 G5 := fun b o e _ nt => x5 b o e nt
          have s5 : Same (Kz.cl p N1) G5 := Same.trans b5.cl cl_sub
          have pa5 := PolyAt.ext pn b5 pa
          obtain ⟨_, adx, _, _, eqa, ha, _⟩ := id pa5
          cases eqa
          refine ⟨_, rfl, a0, adx, _, rfl, ha, lkMv, _, rfl, _, rfl, .ref a0, o1, o2, qs, 10, 7, rfl, pa5, zq, by decide, by decide, by omega, .inr (.inl ⟨g1.o.same s5, er_num (hd.same s5) sh fun t5 G6 s6 e6 => ?_⟩)⟩
          refine ⟨_, rfl, _, _, rfl, hd.same (s5.trans s6), sh.sh, sh.dp, sh.ln, (by show 3 ≤ sizeLine; decide), fun t2 nt2 => ?_⟩
          have s7 := Same.new (o := .tup [.str "number", .str "start", .str d.shown]) nt2
          have s67 := s6.trans s7
          refine ⟨t5, t2, ["number", "start", d.shown], rfl, rfl, SqT.of (s7 _ _ e6), SqT.of upd_same, _, rfl, ?_⟩
          have bN : ButN p N1 (upd G6 t2 (.tup [.str "number", .str "start", .str d.shown])) := fun b ob e _ nt => s67 _ _ (x5 b ob e nt)
          have pn := (pn.extN x5).same s67
          have tb := tb5.ext s67
          have pa := pa5.same s67
          have g1 : OddG K p _ o1 := ⟨g1.o.same bN.cl, g1.g.same bN.cl⟩
          have g2 : OddG K p _ o2 := ⟨g2.o.same bN.cl, g2.g.same bN.cl⟩
          generalize upd G6 t2 (.tup [.str "number", .str "start", .str d.shown]) = N2 at pn tb pa g1 g2
          clear bN s67 s7 e6 s6 ha pa5 s5 b5 tb5 x5 hd sm sh
          refine iteF ?_
          obtain ⟨d, hd, sm⟩ := g2.g.ex
          have sh := sm.shows
          refine ⟨tb, fun G5 x5 tb5 => ?_⟩
          have b5 : ButN p N2 G5 := fun b o e _ nt => x5 b o e nt
          have s5 : Same (Kz.cl p N2) G5 := Same.trans b5.cl cl_sub
          have pa5 := PolyAt.ext pn b5 pa
          obtain ⟨_, adx, _, _, eqa, ha, _⟩ := id pa5
          cases eqa
          refine ⟨_, rfl, a0, adx, _, rfl, ha, lkMv, _, rfl, .ref a0, .int 1, o2, qs, 10, 7, rfl, pa5, zq, by decide, by decide, by omega, .inr (.inr ⟨⟨_, 2, 2, arg_int (i := 1) (by decide) (by decide), by decide⟩, g2.o.same s5, er_num (hd.same s5) sh fun t5 G6 s6 e6 => ?_⟩)⟩
          refine ⟨_, rfl, _, _, rfl, hd.same (s5.trans s6), sh.sh, sh.dp, sh.ln, (by show 3 ≤ sizeLine; decide), fun t2 nt2 => ?_⟩
          have s7 := Same.new (o := .tup [.str "number", .str "step", .str d.shown]) nt2
          have s67 := s6.trans s7
          refine ⟨t5, t2, ["number", "step", d.shown], rfl, rfl, SqT.of (s7 _ _ e6), SqT.of upd_same, _, rfl, ?_⟩
          have bN : ButN p N2 (upd G6 t2 (.tup [.str "number", .str "step", .str d.shown])) := fun b ob e _ nt => s67 _ _ (x5 b ob e nt)
          have pn := (pn.extN x5).same s67
          have tb := tb5.ext s67
          have pa := pa5.same s67
          have g1 : OddG K p _ o1 := ⟨g1.o.same bN.cl, g1.g.same bN.cl⟩
          have g2 : OddG K p _ o2 := ⟨g2.o.same bN.cl, g2.g.same bN.cl⟩
          generalize upd G6 t2 (.tup [.str "number", .str "step", .str d.shown]) = N3 at pn tb pa g1 g2
          clear bN s67 s7 e6 s6 ha pa5 s5 b5 tb5 x5 hd sm sh
          refine iteF ?_
          -- the other three
          refine ⟨_, rfl, p, c, _, rfl, pn, by omega, tb, fun Q1 pq1 _ tq1 => ⟨_, rfl, iteF ?_⟩⟩
          refine ⟨_, rfl, p, c, _, rfl, pq1, by omega, tq1, fun Q2 pq2 _ tq2 => ⟨_, rfl, iteF ?_⟩⟩
          refine ⟨_, rfl, p, c, _, rfl, pq2, by omega, tq2, fun Q3 pq3 _ tq3 => ⟨_, rfl, iteF ?_⟩⟩
          exact ⟨_, _, _, _, _, _, _, _, _, _, _, _, _, _, _, _, rfl, pq3.more (by omega), tq3⟩
    · rintro σ G ⟨v2, v3, v4, v5, v6, v7, v8, v9, v10, v11, v12, v13, v14, v15, v16, v17, rfl, pn, tb⟩
      exact k _
end
end Kz
set_option linter.all false
set_option maxRecDepth 100000
set_option maxHeartbeats 4000000
namespace Kz
open PySem PySem.Spec PyProof.Rows L2
/-! ### the end of a law whose def asks for repr and makes lambdas -/
section
variable {P : Program} {w : World} {K : PySem.W.Frag} {mg mb : Str → Option Value} {a : Addr} {cs : List (Addr × Addr)}
/-- the script at its place, and an empty table for each of the defs that make lambdas -/
def tabH (ts : List Addr) (H : Hp) : Hp := fun b => if b ∈ ts then some (.tbl #[]) else H b
theorem tabH_at {ts : List Addr} {H : Hp} {b : Addr} (m : b ∈ ts) : tabH ts H b = some (.tbl #[]) := if_pos m
theorem tabH_off {ts : List Addr} {H : Hp} {b : Addr} (m : b ∉ ts) : tabH ts H b = H b := if_neg m
theorem side_envT {h : Heap} {H : Hp} {s : Shared} {l : Array Value} (hs : s.heap = h) (KX : K.In h) (hns : h.Ns mainGlobals mg) (hb : h.Ns builtinsNs mb)
    (hbb : ∀ x : Str, x ≠ "__name__" → mb x = bootBuiltins x) (lim : h.NoLimit) (gens : s.gens = #[]) (ha : h.get? a = some { cls := .type "list", data := .seq l })
    (hT : ∀ p ∈ cs, h.get? p.2 = some { cls := .none, data := .fields #[] }) (nT : ∀ p ∈ cs, K.lookup p.2 = none) (C : ∀ p ∈ cs, PySem.W.CodeHd h p.1 p.2)
    (hbm : ∃ (bm : Addr) (ob : Obj), mg "__builtins__" = some (.ref bm) ∧ bm ≠ builtinsNs ∧ h.get? bm = some ob ∧ ob.cls = .type "module" ∧ ob.dict = some builtinsNs ∧ ob.data = .plain)
    (only : ∀ b, b ≠ a → b ∉ cs.map (·.2) → H b = none) (ok : HOk P w H h) (apart : H a ≠ none → K.lookup a = none) :
    K.In (hidT h H) ∧ (hidT h H).Ns mainGlobals mg ∧ Env0 P w K mg (hidT h H) callerA [] s H ∧ ∀ p ∈ cs, LamX.TabB (hidT h H) mg p.1 p.2 := by
  subst hs
  have free : ∀ {b : Addr} {o : Obj}, s.heap.get? b = some o → (∀ vs n, o.data ≠ .seq vs n) → o.data ≠ .fields #[] → H b = none := by
    intro b o e1 e2 e3
    by_cases hba : b = a
    · rw [hba, ha] at e1
      cases e1
      exact (e2 _ _ rfl).elim
    · by_cases hbt : b ∈ cs.map (·.2)
      · obtain ⟨p, hp, rfl⟩ := List.mem_map.mp hbt
        rw [hT p hp] at e1
        cases e1
        exact (e3 rfl).elim
      · exact only b hba hbt
  have dicts : ∀ {b : Addr} {o : Obj} {es : Array DictEntry} {ep : Nat}, s.heap.get? b = some o → o.data = .dict es ep → H b = none := fun e1 e2 =>
    free e1 (fun _ _ z => by rw [e2] at z; cases z) (fun z => by rw [e2] at z; cases z)
  have ns : ∀ {b : Addr} {m : Str → Option Value}, s.heap.Ns b m → (hidT s.heap H).Ns b m := by
    rintro b m ⟨o, es, ep, e1, e2, r⟩
    exact ⟨o, es, ep, hidT_get e1 (dicts e1 e2), e2, r⟩
  have kin : K.In (hidT s.heap H) := by
    intro b o e1
    refine hidT_get (KX b o e1) ?_
    by_cases hba : b = a
    · subst hba
      cases q : H b with
      | none => rfl
      | some u =>
        have z := apart (by rw [q]; exact fun z => nomatch z)
        rw [z] at e1
        cases e1
    · by_cases hbt : b ∈ cs.map (·.2)
      · obtain ⟨p, hp, rfl⟩ := List.mem_map.mp hbt
        rw [nT p hp] at e1
        cases e1
      · exact only b hba hbt
  have nolim : (hidT s.heap H).NoLimit := by
    obtain ⟨mc, z1, z2⟩ := lim
    exact ⟨mc, ns z1, z2⟩
  refine ⟨kin, ns hns, ⟨rfl, ⟨kin, ns hns, ⟨mb, ns hb, hbb⟩, nolim⟩, fun b o z => of_hidT z, Nat.le_of_eq (hidT_size _ _), trivial, ?_, ok, .of_eq gens⟩, fun p hp => ⟨?_, ?_, fun z => ?_⟩⟩
  · intro b z
    cases (show b ∈ ([] : List Addr) from z)
  · obtain ⟨o, us, f1, f2, f3, f4, f5, f6, f7, e1, r1, r2, r3, rest⟩ := C p hp
    exact ⟨o, us, f1, f2, f3, f4, f5, f6, f7, hidT_get e1 (free e1 (fun _ _ z => by rw [r2] at z; cases z) (fun z => by
      rw [r2] at z
      cases z
      simp at r3)), r1, r2, r3, rest⟩
  · obtain ⟨bm, ob, b1, b2, b3, b4, b5, b6⟩ := hbm
    refine ⟨bm, ob, b1, b2, fun q => ?_, fun q => ?_, hidT_get b3 (free b3 (fun _ _ z => by rw [b6] at z; cases z) (fun z => by rw [b6] at z; cases z)), b4, b5, b6⟩
    · obtain ⟨o, es, ep, e, hd, _⟩ := hns
      rw [q, e] at b3
      cases b3
      rw [hd] at b6
      cases b6
    · rw [q, hT p hp] at b3
      cases b3
      cases b6
  · obtain ⟨o, es, ep, e, hd, _⟩ := hns
    rw [z, hT p hp] at e
    cases e
    cases hd
theorem law_GT {CX : CXT} {k : Nat} {fa : Addr} {fd : FuncData} {x : Str} {sp : Sp} {s : Shared} {vs : List Value} {ns : List Int}
    (KX : K.In s.heap) (hns : s.heap.Ns mainGlobals mg) (hb : s.heap.Ns builtinsNs mb) (hbb : ∀ x : Str, x ≠ "__name__" → mb x = bootBuiltins x) (lim : s.heap.NoLimit) (gens : s.gens = #[])
    (hT : ∀ p ∈ cs, s.heap.get? p.2 = some { cls := .none, data := .fields #[] }) (nT : ∀ p ∈ cs, K.lookup p.2 = none) (C : ∀ p ∈ cs, PySem.W.CodeHd s.heap p.1 p.2)
    (hbm : ∃ (bm : Addr) (ob : Obj), mg "__builtins__" = some (.ref bm) ∧ bm ≠ builtinsNs ∧ s.heap.get? bm = some ob ∧ ob.cls = .type "module" ∧ ob.dict = some builtinsNs ∧ ob.data = .plain)
    (ha : s.heap.get? a = some { cls := .type "list", data := .seq vs.toArray }) (hi : IntsAre vs ns) (hl : ns.length ≤ sizeLine) (hr : Room k callerA)
    (F : ∀ base : Heap, K.In base → base.Ns mainGlobals mg → (∀ p ∈ cs, LamX.TabB base mg p.1 p.2) → FnG P w K mg base CX k fa fd [x] sp) (bind : ∀ (s : Shared) (u : Value), BindsTo s fd ⟨[u], []⟩ [(x, u)])
    (hsp : ∀ H : Hp, (∀ p ∈ cs, H p.2 = some (.tbl #[])) → SqL K H a (ns.map V.int) → sp [.ref a] H (fun v _ => v = .bl true) fun _ _ _ => False)
    (hCX : ∀ H e s', CX [] H s (fun _ _ _ => False) e s' → False) :
    codeAny (model P w) callerA (.call (.ref fa) ⟨[.ref a], []⟩) (fun r s' => r = .ok (.ret (.bool true)) ∧ OldK s.heap s'.heap ∧ s'.os = s.os ∧ AllBare s'.gens) s := by
  have rv := L2.vals_ints hi
  have mT : ∀ p ∈ cs, p.2 ∈ cs.map (·.2) := fun p hp => List.mem_map.mpr ⟨p, hp, rfl⟩
  have isT : ∀ b : Addr, b ∈ cs.map (·.2) → s.heap.get? b = some { cls := .none, data := .fields #[] } := fun b hb => by
    obtain ⟨p, hp, rfl⟩ := List.mem_map.mp hb
    exact hT p hp
  have aT : a ∉ cs.map (·.2) := fun z => by
    have e := isT a z
    rw [ha] at e
    have e2 : Data.seq vs.toArray _ = Data.fields #[] := congrArg Obj.data (Option.some.inj e)
    cases e2
  have core : ∀ H0 : Hp, Only H0 → SqL K (tabH (cs.map (·.2)) H0) a (ns.map V.int) → (∀ b, b ≠ a → H0 b = none) → (∀ b u, H0 b = some u → ObjOk P w (tabH (cs.map (·.2)) H0) s.heap b u) → (H0 a ≠ none → K.lookup a = none) →
      codeAny (model P w) callerA (.call (.ref fa) ⟨[.ref a], []⟩) (fun r s' => r = .ok (.ret (.bool true)) ∧ OldK s.heap s'.heap ∧ s'.os = s.os ∧ AllBare s'.gens) s := by
    intro H0 hO hS only ok0 apart
    have ok : HOk P w (tabH (cs.map (·.2)) H0) s.heap := fun b u z => by
      by_cases m : b ∈ cs.map (·.2)
      · rw [tabH_at m] at z
        cases z
        exact isT b m
      · rw [tabH_off m] at z
        exact ok0 b u z
    obtain ⟨k1, k2, e0, tb⟩ := side_envT (P := P) (w := w) (H := tabH (cs.map (·.2)) H0) rfl KX hns hb hbb lim gens ha hT nT C hbm (fun b n m => (tabH_off m).trans (only b n)) ok (fun z => apart (by rwa [tabH_off aT] at z))
    refine codeAny_mono ((F _ k1 k2 tb).go callerA rfl hr [] s _ e0 ⟨[.ref a], []⟩ [.ref a] [.ref a] (bind s (.ref a)) (.cons rfl .nil) _ _ (hsp _ (fun p hp => tabH_at (mT p hp)) hS)) ?_
    intro r s' got
    rcases r with er | fl
    · exact (hCX _ er s' got).elim
    rcases fl with _ | _ | _ | u
    all_goals try exact False.elim got
    obtain ⟨v, H', os, bare, un, ok', rel, q⟩ := got
    cases (show v = V.bl true from q)
    cases (show u = Value.bool true from rel)
    have kept : ∀ b o, b ∉ cs.map (·.2) → s.heap.get? b = some o → s'.heap.get? b = some o := fun b o m e1 => by
      have z0 : tabH (cs.map (·.2)) H0 b = H0 b := tabH_off m
      rcases hO b with z | ⟨ob, xs, z⟩
      · exact un.keep b o e1 (z0.trans z) (fun m => by cases (show b ∈ ([] : List Addr) from m)) (by simp)
      · obtain ⟨w1, _⟩ := ok b _ (z0.trans z)
        obtain ⟨w2, _⟩ := ok' b _ (un.frzs b ob _ (z0.trans z))
        rw [e1] at w1
        cases w1
        exact w2
    have grown : ∀ p ∈ cs, ∃ more : Array Value, s'.heap.get? p.2 = some { cls := .none, data := .fields more } := fun p hp => by
      obtain ⟨more, z⟩ := un.tbls p.2 #[] (tabH_at (mT p hp))
      exact ⟨_, ok' p.2 _ z⟩
    refine ⟨rfl, ⟨fun b o e1 => ?_, fun b o e1 => ?_⟩, os, bare⟩
    · by_cases m : b ∈ cs.map (·.2)
      · obtain ⟨p, hp, rfl⟩ := List.mem_map.mp m
        obtain ⟨more, e2⟩ := grown p hp
        have e3 := hT p hp
        rw [e1] at e3
        cases e3
        exact .inr (.inl ⟨((C p hp).tab (hT p hp)).isCodeTable, rfl, #[], more, rfl, by rw [Array.empty_append]; exact e2⟩)
      · exact .inl (kept b o m e1)
    · by_cases m : b ∈ cs.map (·.2)
      · obtain ⟨p, hp, rfl⟩ := List.mem_map.mp m
        obtain ⟨more, e2⟩ := grown p hp
        exact ⟨_, e2⟩
      · exact ⟨o, kept b o m e1⟩
  cases hk : K.lookup a with
  | some o =>
    have e1 := KX a o hk
    rw [ha] at e1
    cases e1
    have many : (vs.toArray).size ≤ sizeLine := by
      rw [List.size_toArray, hi.length]
      exact hl
    exact core (fun _ => none) (fun _ => .inl rfl) (.inr ⟨_, vs.toArray, _, hk, rfl, rfl, rfl, many, by simpa using rv⟩) (fun _ _ => rfl) (fun b u z => nomatch z) (fun z => absurd rfl z)
  | none =>
    refine core (scrH a { cls := .type "list", data := .seq vs.toArray } (ns.map V.int)) (fun b => ?_) (.inl (.inr ⟨_, (tabH_off aT).trans scrH_at⟩)) (fun b hb => scrH_off hb) (fun b u z => ?_) fun _ => hk
    · by_cases hba : b = a
      · rw [hba]
        exact .inr ⟨_, _, scrH_at⟩
      · exact .inl (scrH_off hba)
    · by_cases hba : b = a
      · subst hba
        cases scrH_at.symm.trans z
        refine ⟨ha, ?_, vs, _, rv, ha⟩
        rw [List.length_map]
        exact hl
      · cases (scrH_off hba).symm.trans z
end
theorem walk_GT {l : PySem.W.OpenLaw} {n k : Nat} {q : Program} {loose : List Str} {XP : (Str → Option Value) → Heap → Prop} {YP : World → Heap → Prop} {d : DefRec} {K : Params → PySem.W.Frag} {CX : World → CXT} {x : Str}
    (hn : l.most = some n) (small : n ≤ sizeLine) (nodf : d.params.defaults = []) (hr : Room k callerA) (hY : ∀ (w : World) (h : Heap), YP w h → (K w.params).In h)
    (F : ∀ (w : World) (mg : Str → Option Value) (fa : Addr) (h : Heap), YP w h → (K w.params).In h → h.Ns mainGlobals mg → mg d.name = some (.ref fa) →
      ∃ (fd : FuncData) (cs : List (Addr × Addr)) (sp : Sp), (∀ p ∈ cs, h.get? p.2 = some { cls := .none, data := .fields #[] }) ∧ (∀ p ∈ cs, (K w.params).lookup p.2 = none) ∧ (∀ p ∈ cs, PySem.W.CodeHd h p.1 p.2) ∧
        (∀ (s : Shared) (u : Value), BindsTo s fd ⟨[u], []⟩ [(x, u)]) ∧
        (∀ (H : Hp) (a : Addr) (ns : List Int), ns.length ≤ n → (∀ p ∈ cs, H p.2 = some (.tbl #[])) → SqL (K w.params) H a (ns.map V.int) → sp [.ref a] H (fun v _ => v = .bl true) fun _ _ _ => False) ∧
        ∀ base : Heap, (K w.params).In base → base.Ns mainGlobals mg → (∀ p ∈ cs, LamX.TabB base mg p.1 p.2) → FnG l.prog w (K w.params) mg base (CX w) k fa fd [x] sp)
    (hCX : ∀ (w : World) (H : Hp) (s : Shared) (e : Value) (s' : Shared), CX w [] H s (fun _ _ _ => False) e s' → False) :
    PySem.W.WalkO q loose XP YP l.row.toRowW d [] (fun f vs => PySem.call f vs) := by
  refine Att.attach_call hn nodf ?_
  intro w s₀ s₁ mg mb fa o pm cd doc a vs ns G Y ho hd hcd hmg hobj hints few hg
  obtain ⟨fd, cs, sp, hT, nT, C, hb, hsp, hF⟩ := F w mg fa _ Y (hY w _ Y) G.T.g hmg
  exact law_GT (hY w _ Y) G.T.g G.T.b G.T.builtins G.T.nolimit hg hT nT C G.T.bmain hobj hints (Nat.le_trans few small) hr hF hb (fun H hH hS => hsp H a ns few hH hS) fun H e s' => hCX w H s₁ e s'
end Kz
set_option linter.all false
set_option maxRecDepth 100000
set_option maxHeartbeats 0
namespace Kz
open PySem PySem.Spec PyProof.Rows L2
theorem errT_mk {K : PySem.W.Frag} {h : Heap} {mg : Str → Option Value} {x : Str} {B C : Addr} {nm q : Str} {N : Addr} {bs : List Value} {sn : List Str} {sub : List Value} {ab : Bool} {col : Option Bool} {dd : Option Addr} {m0 m1 m2 m3 m5 : Option Value}
    (X : K.In h) (G : h.Ns mainGlobals mg) (aC : PySem.W.nsIn K mainGlobals x = some (some (.ref C)))
    (xL : K.lookup C = some (excClassObj nm q C N bs [.ref B, .type "ValueError", .type "Exception", .type "BaseException", .type "object"] true sn sub ab col dd m0 m1 m2 m3 m5 "ValueError.__new__"))
    (sa : PySem.W.findIn K (.ref C) "__setattr__" = some (some (.builtin "object.__setattr__"))) (ga : PySem.W.findIn K (.ref C) "__getattribute__" = some (some (.builtin "BaseException.__getattribute__"))) (gg : PySem.W.findIn K (.ref C) "__getattr__" = some none)
    (ex : PySem.W.subIn K (.ref C) (.type "BaseException") = some true) (ty : PySem.W.typeIn K (.ref C) = some (.type "type")) (kp : PySem.W.keepIn K (.ref C) = true) (hd : PySem.W.hasDictIn K C = true)
    (ha : PySem.W.findIn K (.ref C) "__class__" = some (some (.builtin "object.__class__"))) (hn : PySem.W.specialIn K (.builtin "object.__class__") "__get__" = some (some (.builtin "getset_descriptor.__get__")))
    (ht : PySem.W.takesIn K (.builtin "object.__class__") = some true) (hm : PySem.W.mroIn K C (.type "object") = some true) : ErrT K mg x B C where
  o := ⟨⟨nm, q, N, bs, _, sn, sub, ab, col, dd, m0, m1, m2, m3, m5, xL, by first | rfl | decide +kernel⟩, sa, ex, ty, kp⟩
  xf := ⟨ga, gg, ex, hd⟩
  ex := ⟨ga, gg, ex, hd, ha, hn, ht, hm⟩
  g := PySem.W.mg_of X G aC
  mro := by
    refine ⟨{ name := nm, bases := bs, mro := [.ref C, .ref B, .type "ValueError", .type "Exception", .type "BaseException", .type "object"], ns := N, qualname := q, hasDict := true, slotNames := sn, subclasses := sub, abstract := ab, collection := col, hasDel := false }, ?_, rfl⟩
    · unfold PySem.W.clsIn
      rw [xL]

theorem funC_mk {K : PySem.W.Frag} {x qual : Str} {st : Stmt} {f ca : Addr} {oc : Value} {od an : Option Addr} {osl : Array (Option Value)} {kV doc pm ct : Value} (l : K.lookup f = some ⟨oc, od, .func (PySem.W.fnOf x qual (defArgs st) (defBody st) (defScope st) .none kV doc pm an (.ref ca) ct), osl⟩)
    (c : PySem.W.codeIn K (.ref ca) qual = true) : FunC K x qual st f (PySem.W.fnOf x qual (defArgs st) (defBody st) (defScope st) .none kV doc pm an (.ref ca) ct) ca := ⟨oc, od, kV, doc, pm, an, ct, osl, rfl, l, c⟩
set_option maxHeartbeats 0 in
theorem all_mk {P : Program} {w : World} {K : PySem.W.Frag} {h : Heap} {mg : Str → Option Value} {fa B CN fEN caEN ccEN CR fER caER ccER CI CU f8 f9 f10 f11 f12 f13 f14 f15 f16 f17 f18 f19 f20 f40 f41 f42 f43 f44 f45 f46 f22 f26 f27 f28 f29 f23 f30 f31 f32 f33 f34 f49 f50 f51 f52 f53 f54 f55 f56 f57 f58 f59 f60 f36 f37 f38 f39 f47 f48 f61 f62 f63 f64 f65 f66 f67 f68 ca67 f69 ca68 f70 ca69 f71 ca70 cP fm0 fm1 fm2 fm3 fm4 fm5 fm6 fm7 fm8 fm9 fm10 fm11 fm12 fm13 P67 P68 P69 P70 : Addr}
    {nmN qN : Str} {NN : Addr} {bsN : List Value} {snN : List Str} {subN : List Value} {abN : Bool} {colN : Option Bool} {ddN : Option Addr} {m0N m1N m2N m3N m5N : Option Value}
    {odEN anEN : Option Addr} {slEN : Array (Option Value)} {ocEN kVEN dcEN pmEN ctEN : Value}
    {clEN cclEN : Value} {cldEN cddEN : Option Addr} {cslEN ccsEN : Array (Option Value)} {vsEN : Array Value} {fileEN : Str} {tfEN : Tok}
    {nmR qR : Str} {NR : Addr} {bsR : List Value} {snR : List Str} {subR : List Value} {abR : Bool} {colR : Option Bool} {ddR : Option Addr} {m0R m1R m2R m3R m5R : Option Value}
    {odER anER : Option Addr} {slER : Array (Option Value)} {ocER kVER dcER pmER ctER : Value}
    {clER cclER : Value} {cldER cddER : Option Addr} {cslER ccsER : Array (Option Value)} {vsER : Array Value} {fileER : Str} {tfER : Tok}
    {nmI qI : Str} {NI : Addr} {bsI : List Value} {snI : List Str} {subI : List Value} {abI : Bool} {colI : Option Bool} {ddI : Option Addr} {m0I m1I m2I m3I m5I : Option Value}
    {nmU qU : Str} {NU : Addr} {bsU : List Value} {snU : List Str} {subU : List Value} {abU : Bool} {colU : Option Bool} {ddU : Option Addr} {m0U m1U m2U m3U m5U : Option Value}
    {od8 an8 : Option Addr} {sl8 : Array (Option Value)} {oc8 kV8 dc8 pm8 cd8 ct8 : Value}
    {od9 an9 : Option Addr} {sl9 : Array (Option Value)} {oc9 kV9 dc9 pm9 cd9 ct9 : Value}
    {od10 an10 : Option Addr} {sl10 : Array (Option Value)} {oc10 kV10 dc10 pm10 cd10 ct10 : Value}
    {od11 an11 : Option Addr} {sl11 : Array (Option Value)} {oc11 kV11 dc11 pm11 cd11 ct11 : Value}
    {od12 an12 : Option Addr} {sl12 : Array (Option Value)} {oc12 kV12 dc12 pm12 cd12 ct12 : Value}
    {od13 an13 : Option Addr} {sl13 : Array (Option Value)} {oc13 kV13 dc13 pm13 cd13 ct13 : Value}
    {od14 an14 : Option Addr} {sl14 : Array (Option Value)} {oc14 kV14 dc14 pm14 cd14 ct14 : Value}
    {od15 an15 : Option Addr} {sl15 : Array (Option Value)} {oc15 kV15 dc15 pm15 cd15 ct15 : Value}
    {od16 an16 : Option Addr} {sl16 : Array (Option Value)} {oc16 kV16 dc16 pm16 cd16 ct16 : Value}
    {od17 an17 : Option Addr} {sl17 : Array (Option Value)} {oc17 kV17 dc17 pm17 cd17 ct17 : Value}
    {od18 an18 : Option Addr} {sl18 : Array (Option Value)} {oc18 kV18 dc18 pm18 cd18 ct18 : Value}
    {od19 an19 : Option Addr} {sl19 : Array (Option Value)} {oc19 kV19 dc19 pm19 cd19 ct19 : Value}
    {od20 an20 : Option Addr} {sl20 : Array (Option Value)} {oc20 kV20 dc20 pm20 cd20 ct20 : Value}
    {od40 an40 : Option Addr} {sl40 : Array (Option Value)} {oc40 kV40 dc40 pm40 cd40 ct40 : Value}
    {od41 an41 : Option Addr} {sl41 : Array (Option Value)} {oc41 kV41 dc41 pm41 cd41 ct41 : Value}
    {od42 an42 : Option Addr} {sl42 : Array (Option Value)} {oc42 kV42 dc42 pm42 cd42 ct42 : Value}
    {od43 an43 : Option Addr} {sl43 : Array (Option Value)} {oc43 kV43 dc43 pm43 cd43 ct43 : Value}
    {od44 an44 : Option Addr} {sl44 : Array (Option Value)} {oc44 kV44 dc44 pm44 cd44 ct44 : Value}
    {od45 an45 : Option Addr} {sl45 : Array (Option Value)} {oc45 kV45 dc45 pm45 cd45 ct45 : Value}
    {od46 an46 : Option Addr} {sl46 : Array (Option Value)} {oc46 kV46 dc46 pm46 cd46 ct46 : Value}
    {od22 an22 : Option Addr} {sl22 : Array (Option Value)} {oc22 kV22 dc22 pm22 cd22 ct22 : Value}
    {od26 an26 : Option Addr} {sl26 : Array (Option Value)} {oc26 kV26 dc26 pm26 cd26 ct26 : Value}
    {od27 an27 : Option Addr} {sl27 : Array (Option Value)} {oc27 kV27 dc27 pm27 cd27 ct27 : Value}
    {od28 an28 : Option Addr} {sl28 : Array (Option Value)} {oc28 kV28 dc28 pm28 cd28 ct28 : Value}
    {od29 an29 : Option Addr} {sl29 : Array (Option Value)} {oc29 kV29 dc29 pm29 cd29 ct29 : Value}
    {od23 an23 : Option Addr} {sl23 : Array (Option Value)} {oc23 kV23 dc23 pm23 cd23 ct23 : Value}
    {od30 an30 : Option Addr} {sl30 : Array (Option Value)} {oc30 kV30 dc30 pm30 cd30 ct30 : Value}
    {od31 an31 : Option Addr} {sl31 : Array (Option Value)} {oc31 kV31 dc31 pm31 cd31 ct31 : Value}
    {od32 an32 : Option Addr} {sl32 : Array (Option Value)} {oc32 kV32 dc32 pm32 cd32 ct32 : Value}
    {od33 an33 : Option Addr} {sl33 : Array (Option Value)} {oc33 kV33 dc33 pm33 cd33 ct33 : Value}
    {od34 an34 : Option Addr} {sl34 : Array (Option Value)} {oc34 kV34 dc34 pm34 cd34 ct34 : Value}
    {od49 an49 : Option Addr} {sl49 : Array (Option Value)} {oc49 kV49 dc49 pm49 cd49 ct49 : Value}
    {od50 an50 : Option Addr} {sl50 : Array (Option Value)} {oc50 kV50 dc50 pm50 cd50 ct50 : Value}
    {od51 an51 : Option Addr} {sl51 : Array (Option Value)} {oc51 kV51 dc51 pm51 cd51 ct51 : Value}
    {od52 an52 : Option Addr} {sl52 : Array (Option Value)} {oc52 kV52 dc52 pm52 cd52 ct52 : Value}
    {od53 an53 : Option Addr} {sl53 : Array (Option Value)} {oc53 kV53 dc53 pm53 cd53 ct53 : Value}
    {od54 an54 : Option Addr} {sl54 : Array (Option Value)} {oc54 kV54 dc54 pm54 cd54 ct54 : Value}
    {od55 an55 : Option Addr} {sl55 : Array (Option Value)} {oc55 kV55 dc55 pm55 cd55 ct55 : Value}
    {od56 an56 : Option Addr} {sl56 : Array (Option Value)} {oc56 kV56 dc56 pm56 cd56 ct56 : Value}
    {od57 an57 : Option Addr} {sl57 : Array (Option Value)} {oc57 kV57 dc57 pm57 cd57 ct57 : Value}
    {od58 an58 : Option Addr} {sl58 : Array (Option Value)} {oc58 kV58 dc58 pm58 cd58 ct58 : Value}
    {od59 an59 : Option Addr} {sl59 : Array (Option Value)} {oc59 kV59 dc59 pm59 cd59 ct59 : Value}
    {od60 an60 : Option Addr} {sl60 : Array (Option Value)} {oc60 kV60 dc60 pm60 cd60 ct60 : Value}
    {od36 an36 : Option Addr} {sl36 : Array (Option Value)} {oc36 kV36 dc36 pm36 cd36 ct36 : Value}
    {od37 an37 : Option Addr} {sl37 : Array (Option Value)} {oc37 kV37 dc37 pm37 cd37 ct37 : Value}
    {od38 an38 : Option Addr} {sl38 : Array (Option Value)} {oc38 kV38 dc38 pm38 cd38 ct38 : Value}
    {od39 an39 : Option Addr} {sl39 : Array (Option Value)} {oc39 kV39 dc39 pm39 cd39 ct39 : Value}
    {od47 an47 : Option Addr} {sl47 : Array (Option Value)} {oc47 kV47 dc47 pm47 cd47 ct47 : Value}
    {od48 an48 : Option Addr} {sl48 : Array (Option Value)} {oc48 kV48 dc48 pm48 cd48 ct48 : Value}
    {od61 an61 : Option Addr} {sl61 : Array (Option Value)} {oc61 kV61 dc61 pm61 cd61 ct61 : Value}
    {od62 an62 : Option Addr} {sl62 : Array (Option Value)} {oc62 kV62 dc62 pm62 cd62 ct62 : Value}
    {od63 an63 : Option Addr} {sl63 : Array (Option Value)} {oc63 kV63 dc63 pm63 cd63 ct63 : Value}
    {od64 an64 : Option Addr} {sl64 : Array (Option Value)} {oc64 kV64 dc64 pm64 cd64 ct64 : Value}
    {od65 an65 : Option Addr} {sl65 : Array (Option Value)} {oc65 kV65 dc65 pm65 cd65 ct65 : Value}
    {od66 an66 : Option Addr} {sl66 : Array (Option Value)} {oc66 kV66 dc66 pm66 cd66 ct66 : Value}
    {od67 an67 : Option Addr} {sl67 : Array (Option Value)} {oc67 kV67 dc67 pm67 cd67 ct67 : Value}
    {od68 an68 : Option Addr} {sl68 : Array (Option Value)} {oc68 kV68 dc68 pm68 ct68 : Value}
    {od69 an69 : Option Addr} {sl69 : Array (Option Value)} {oc69 kV69 dc69 pm69 ct69 : Value}
    {od70 an70 : Option Addr} {sl70 : Array (Option Value)} {oc70 kV70 dc70 pm70 ct70 : Value}
    {od71 an71 : Option Addr} {sl71 : Array (Option Value)} {oc71 kV71 dc71 pm71 ct71 : Value}
    {odm0 anm0 : Option Addr} {slm0 : Array (Option Value)} {ocm0 kVm0 dcm0 pmm0 cdm0 ctm0 : Value}
    {odm1 anm1 : Option Addr} {slm1 : Array (Option Value)} {ocm1 kVm1 dcm1 pmm1 cdm1 ctm1 : Value}
    {odm2 anm2 : Option Addr} {slm2 : Array (Option Value)} {ocm2 kVm2 dcm2 pmm2 cdm2 ctm2 : Value}
    {odm3 anm3 : Option Addr} {slm3 : Array (Option Value)} {ocm3 kVm3 dcm3 pmm3 cdm3 ctm3 : Value}
    {odm4 anm4 : Option Addr} {slm4 : Array (Option Value)} {ocm4 kVm4 dcm4 pmm4 cdm4 ctm4 : Value}
    {odm5 anm5 : Option Addr} {slm5 : Array (Option Value)} {ocm5 kVm5 dcm5 pmm5 cdm5 ctm5 : Value}
    {odm6 anm6 : Option Addr} {slm6 : Array (Option Value)} {ocm6 kVm6 dcm6 pmm6 cdm6 ctm6 : Value}
    {odm7 anm7 : Option Addr} {slm7 : Array (Option Value)} {ocm7 kVm7 dcm7 pmm7 cdm7 ctm7 : Value}
    {odm8 anm8 : Option Addr} {slm8 : Array (Option Value)} {ocm8 kVm8 dcm8 pmm8 cdm8 ctm8 : Value}
    {odm9 anm9 : Option Addr} {slm9 : Array (Option Value)} {ocm9 kVm9 dcm9 pmm9 cdm9 ctm9 : Value}
    {odm10 anm10 : Option Addr} {slm10 : Array (Option Value)} {ocm10 kVm10 dcm10 pmm10 cdm10 ctm10 : Value}
    {odm11 anm11 : Option Addr} {slm11 : Array (Option Value)} {ocm11 kVm11 dcm11 pmm11 cdm11 ctm11 : Value}
    {odm12 anm12 : Option Addr} {slm12 : Array (Option Value)} {ocm12 kVm12 dcm12 pmm12 cdm12 ctm12 : Value}
    {odm13 anm13 : Option Addr} {slm13 : Array (Option Value)} {ocm13 kVm13 dcm13 pmm13 cdm13 ctm13 : Value}
    {uoaddint woaddint : Option Value}
    {uoaddtuple woaddtuple : Option Value}
    {uosubint wosubint : Option Value}
    {uosubtuple wosubtuple : Option Value}
    {uomulint womulint : Option Value}
    {uomultuple womultuple : Option Value}
    {vs67 : Array Value} {oq67 : Option Addr} {os67 : Array (Option Value)} {ov67 : Value}
    {vs68 : Array Value} {oq68 : Option Addr} {os68 : Array (Option Value)} {ov68 : Value}
    {vs69 : Array Value} {oq69 : Option Addr} {os69 : Array (Option Value)} {ov69 : Value}
    {vs70 : Array Value} {oq70 : Option Addr} {os70 : Array (Option Value)} {ov70 : Value}
    (X : K.In h) (G : h.Ns mainGlobals mg) (hfa : mg "law" = some (.ref fa))
    (aB : PySem.W.nsIn K mainGlobals "MeanError" = some (some (.ref B)))
    (rB : PySem.W.readsIn K B (.type "type") = true)
    (sB : PySem.W.specialIn K (.ref B) "__getattribute__" = some (some (.builtin "type.__getattribute__")))
    (fB : PySem.W.findCls K (.ref B) (.type "type") "__init__" = some (.val (.builtin "ValueError.__init__")))
    (cB : PySem.W.isClsIn K B = true)
    (tB : PySem.W.typeIn K (.ref B) = some (.type "type"))
    (hn : PySem.W.specialIn K (.builtin "object.__class__") "__get__" = some (some (.builtin "getset_descriptor.__get__")))
    (ht : PySem.W.takesIn K (.builtin "object.__class__") = some true)
    (aCN : PySem.W.nsIn K mainGlobals "BadNumber" = some (some (.ref CN)))
    (xLN : K.lookup CN = some (excClassObj nmN qN CN NN bsN [.ref B, .type "ValueError", .type "Exception", .type "BaseException", .type "object"] true snN subN abN colN ddN m0N m1N m2N m3N m5N "ValueError.__new__"))
    (saN : PySem.W.findIn K (.ref CN) "__setattr__" = some (some (.builtin "object.__setattr__")))
    (gaN : PySem.W.findIn K (.ref CN) "__getattribute__" = some (some (.builtin "BaseException.__getattribute__")))
    (ggN : PySem.W.findIn K (.ref CN) "__getattr__" = some none)
    (exN : PySem.W.subIn K (.ref CN) (.type "BaseException") = some true)
    (tyN : PySem.W.typeIn K (.ref CN) = some (.type "type"))
    (kpN : PySem.W.keepIn K (.ref CN) = true)
    (hdN : PySem.W.hasDictIn K CN = true)
    (haN : PySem.W.findIn K (.ref CN) "__class__" = some (some (.builtin "object.__class__")))
    (hmN : PySem.W.mroIn K CN (.type "object") = some true)
    (nN1 : PySem.W.findIn K (.ref CN) "what" = some none)
    (nN2 : PySem.W.findIn K (.ref CN) "number" = some none)
    (iN : PySem.W.findIn K (.ref CN) "__init__" = some (some (.ref fEN)))
    (tN : PySem.W.typeIn K (.ref fEN) = some (.type "function"))
    (lEN : K.lookup fEN = some ⟨ocEN, odEN, .func (PySem.W.fnX "__init__" "BadNumber.__init__" (defArgs sI3) (defBody sI3) (defScope sI3) [("__class__", ccEN)] .none kVEN dcEN pmEN anEN (.ref caEN) ctEN), slEN⟩)
    (cEN : PySem.W.codeIn K (.ref caEN) "BadNumber.__init__" = true)
    (lcEN : K.lookup ccEN = some ⟨clEN, cldEN, .cell (some (.ref CN)), cslEN⟩)
    (laEN : K.lookup caEN = some ⟨cclEN, cddEN, .fields vsEN, ccsEN⟩)
    (h2EN : (vsEN[2]? : Option Value) = some (.str fileEN tfEN))
    (hfEN : ((P.main.file : Str) == fileEN) = true)
    (owEN : PySem.W.mroIn K CN (.ref CN) = some true)
    (nxEN : PySem.W.ks_superIn K CN CN "__init__" = some (some (.builtin "ValueError.__init__")))
    (ivEN : PySem.W.subIn K (.ref CN) (.type "ValueError") = some true)
    (aCR : PySem.W.nsIn K mainGlobals "BadRow" = some (some (.ref CR)))
    (xLR : K.lookup CR = some (excClassObj nmR qR CR NR bsR [.ref B, .type "ValueError", .type "Exception", .type "BaseException", .type "object"] true snR subR abR colR ddR m0R m1R m2R m3R m5R "ValueError.__new__"))
    (saR : PySem.W.findIn K (.ref CR) "__setattr__" = some (some (.builtin "object.__setattr__")))
    (gaR : PySem.W.findIn K (.ref CR) "__getattribute__" = some (some (.builtin "BaseException.__getattribute__")))
    (ggR : PySem.W.findIn K (.ref CR) "__getattr__" = some none)
    (exR : PySem.W.subIn K (.ref CR) (.type "BaseException") = some true)
    (tyR : PySem.W.typeIn K (.ref CR) = some (.type "type"))
    (kpR : PySem.W.keepIn K (.ref CR) = true)
    (hdR : PySem.W.hasDictIn K CR = true)
    (haR : PySem.W.findIn K (.ref CR) "__class__" = some (some (.builtin "object.__class__")))
    (hmR : PySem.W.mroIn K CR (.type "object") = some true)
    (nR1 : PySem.W.findIn K (.ref CR) "row" = some none)
    (iR : PySem.W.findIn K (.ref CR) "__init__" = some (some (.ref fER)))
    (tR : PySem.W.typeIn K (.ref fER) = some (.type "function"))
    (lER : K.lookup fER = some ⟨ocER, odER, .func (PySem.W.fnX "__init__" "BadRow.__init__" (defArgs sI4) (defBody sI4) (defScope sI4) [("__class__", ccER)] .none kVER dcER pmER anER (.ref caER) ctER), slER⟩)
    (cER : PySem.W.codeIn K (.ref caER) "BadRow.__init__" = true)
    (lcER : K.lookup ccER = some ⟨clER, cldER, .cell (some (.ref CR)), cslER⟩)
    (laER : K.lookup caER = some ⟨cclER, cddER, .fields vsER, ccsER⟩)
    (h2ER : (vsER[2]? : Option Value) = some (.str fileER tfER))
    (hfER : ((P.main.file : Str) == fileER) = true)
    (owER : PySem.W.mroIn K CR (.ref CR) = some true)
    (nxER : PySem.W.ks_superIn K CR CR "__init__" = some (some (.builtin "ValueError.__init__")))
    (ivER : PySem.W.subIn K (.ref CR) (.type "ValueError") = some true)
    (aCI : PySem.W.nsIn K mainGlobals "BadInterval" = some (some (.ref CI)))
    (xLI : K.lookup CI = some (excClassObj nmI qI CI NI bsI [.ref B, .type "ValueError", .type "Exception", .type "BaseException", .type "object"] true snI subI abI colI ddI m0I m1I m2I m3I m5I "ValueError.__new__"))
    (saI : PySem.W.findIn K (.ref CI) "__setattr__" = some (some (.builtin "object.__setattr__")))
    (gaI : PySem.W.findIn K (.ref CI) "__getattribute__" = some (some (.builtin "BaseException.__getattribute__")))
    (ggI : PySem.W.findIn K (.ref CI) "__getattr__" = some none)
    (exI : PySem.W.subIn K (.ref CI) (.type "BaseException") = some true)
    (tyI : PySem.W.typeIn K (.ref CI) = some (.type "type"))
    (kpI : PySem.W.keepIn K (.ref CI) = true)
    (hdI : PySem.W.hasDictIn K CI = true)
    (haI : PySem.W.findIn K (.ref CI) "__class__" = some (some (.builtin "object.__class__")))
    (hmI : PySem.W.mroIn K CI (.type "object") = some true)
    (aCU : PySem.W.nsIn K mainGlobals "Unlike" = some (some (.ref CU)))
    (xLU : K.lookup CU = some (excClassObj nmU qU CU NU bsU [.ref B, .type "ValueError", .type "Exception", .type "BaseException", .type "object"] true snU subU abU colU ddU m0U m1U m2U m3U m5U "ValueError.__new__"))
    (saU : PySem.W.findIn K (.ref CU) "__setattr__" = some (some (.builtin "object.__setattr__")))
    (gaU : PySem.W.findIn K (.ref CU) "__getattribute__" = some (some (.builtin "BaseException.__getattribute__")))
    (ggU : PySem.W.findIn K (.ref CU) "__getattr__" = some none)
    (exU : PySem.W.subIn K (.ref CU) (.type "BaseException") = some true)
    (tyU : PySem.W.typeIn K (.ref CU) = some (.type "type"))
    (kpU : PySem.W.keepIn K (.ref CU) = true)
    (hdU : PySem.W.hasDictIn K CU = true)
    (haU : PySem.W.findIn K (.ref CU) "__class__" = some (some (.builtin "object.__class__")))
    (hmU : PySem.W.mroIn K CU (.type "object") = some true)
    (zs : PySem.W.nsIn K mainGlobals "super" = some none)
    (tp : (P.main.scope.names.lookup ("super" : Str)).isSome = false)
    (op : PySem.W.nsIn K cStatics "thirdparty.any" = some none)
    (z_len : PySem.W.nsIn K mainGlobals "len" = some none)
    (z_int : PySem.W.nsIn K mainGlobals "int" = some none)
    (z_list : PySem.W.nsIn K mainGlobals "list" = some none)
    (z_range : PySem.W.nsIn K mainGlobals "range" = some none)
    (z_mIsi : PySem.W.nsIn K mainGlobals "isinstance" = some none)
    (z_mBool : PySem.W.nsIn K mainGlobals "bool" = some none)
    (z_mTuple : PySem.W.nsIn K mainGlobals "tuple" = some none)
    (z_mMax : PySem.W.nsIn K mainGlobals "max" = some none)
    (z_mAll : PySem.W.nsIn K mainGlobals "all" = some none)
    (z_mEnum : PySem.W.nsIn K mainGlobals "enumerate" = some none)
    (z_mRev : PySem.W.nsIn K mainGlobals "reversed" = some none)
    (z_mZip : PySem.W.nsIn K mainGlobals "zip" = some none)
    (z_mAbs : PySem.W.nsIn K mainGlobals "abs" = some none)
    (z_mStr : PySem.W.nsIn K mainGlobals "str" = some none)
    (z_mRepr : PySem.W.nsIn K mainGlobals "repr" = some none)
    (z_mDm : PySem.W.nsIn K mainGlobals "divmod" = some none)
    (z_mNi : PySem.W.nsIn K mainGlobals "NotImplemented" = some none)
    (z_gcd : PySem.W.nsIn K mainGlobals "gcd" = some (some (.builtin "math.gcd")))
    (z_lcm : PySem.W.nsIn K mainGlobals "lcm" = some (some (.builtin "math.lcm")))
    (g8 : PySem.W.nsIn K mainGlobals "is_whole" = some (some (.ref f8)))
    (l8 : K.lookup f8 = some ⟨oc8, od8, .func (PySem.W.fnOf "is_whole" "is_whole" (defArgs (top 8)) (defBody (top 8)) (defScope (top 8)) .none kV8 dc8 pm8 an8 cd8 ct8), sl8⟩)
    (c8 : PySem.W.codeIn K cd8 "is_whole" = true)
    (k8 : PySem.W.keepIn K (.ref f8) = true)
    (g9 : PySem.W.nsIn K mainGlobals "is_pair" = some (some (.ref f9)))
    (l9 : K.lookup f9 = some ⟨oc9, od9, .func (PySem.W.fnOf "is_pair" "is_pair" (defArgs (top 9)) (defBody (top 9)) (defScope (top 9)) .none kV9 dc9 pm9 an9 cd9 ct9), sl9⟩)
    (c9 : PySem.W.codeIn K cd9 "is_pair" = true)
    (k9 : PySem.W.keepIn K (.ref f9) = true)
    (g10 : PySem.W.nsIn K mainGlobals "is_ratio" = some (some (.ref f10)))
    (l10 : K.lookup f10 = some ⟨oc10, od10, .func (PySem.W.fnOf "is_ratio" "is_ratio" (defArgs (top 10)) (defBody (top 10)) (defScope (top 10)) .none kV10 dc10 pm10 an10 cd10 ct10), sl10⟩)
    (c10 : PySem.W.codeIn K cd10 "is_ratio" = true)
    (k10 : PySem.W.keepIn K (.ref f10) = true)
    (g11 : PySem.W.nsIn K mainGlobals "lowest" = some (some (.ref f11)))
    (l11 : K.lookup f11 = some ⟨oc11, od11, .func (PySem.W.fnOf "lowest" "lowest" (defArgs (top 11)) (defBody (top 11)) (defScope (top 11)) .none kV11 dc11 pm11 an11 cd11 ct11), sl11⟩)
    (c11 : PySem.W.codeIn K cd11 "lowest" = true)
    (k11 : PySem.W.keepIn K (.ref f11) = true)
    (g12 : PySem.W.nsIn K mainGlobals "told" = some (some (.ref f12)))
    (l12 : K.lookup f12 = some ⟨oc12, od12, .func (PySem.W.fnOf "told" "told" (defArgs (top 12)) (defBody (top 12)) (defScope (top 12)) .none kV12 dc12 pm12 an12 cd12 ct12), sl12⟩)
    (c12 : PySem.W.codeIn K cd12 "told" = true)
    (k12 : PySem.W.keepIn K (.ref f12) = true)
    (g13 : PySem.W.nsIn K mainGlobals "plus" = some (some (.ref f13)))
    (l13 : K.lookup f13 = some ⟨oc13, od13, .func (PySem.W.fnOf "plus" "plus" (defArgs (top 13)) (defBody (top 13)) (defScope (top 13)) .none kV13 dc13 pm13 an13 cd13 ct13), sl13⟩)
    (c13 : PySem.W.codeIn K cd13 "plus" = true)
    (k13 : PySem.W.keepIn K (.ref f13) = true)
    (g14 : PySem.W.nsIn K mainGlobals "minus" = some (some (.ref f14)))
    (l14 : K.lookup f14 = some ⟨oc14, od14, .func (PySem.W.fnOf "minus" "minus" (defArgs (top 14)) (defBody (top 14)) (defScope (top 14)) .none kV14 dc14 pm14 an14 cd14 ct14), sl14⟩)
    (c14 : PySem.W.codeIn K cd14 "minus" = true)
    (k14 : PySem.W.keepIn K (.ref f14) = true)
    (g15 : PySem.W.nsIn K mainGlobals "times" = some (some (.ref f15)))
    (l15 : K.lookup f15 = some ⟨oc15, od15, .func (PySem.W.fnOf "times" "times" (defArgs (top 15)) (defBody (top 15)) (defScope (top 15)) .none kV15 dc15 pm15 an15 cd15 ct15), sl15⟩)
    (c15 : PySem.W.codeIn K cd15 "times" = true)
    (k15 : PySem.W.keepIn K (.ref f15) = true)
    (g16 : PySem.W.nsIn K mainGlobals "share" = some (some (.ref f16)))
    (l16 : K.lookup f16 = some ⟨oc16, od16, .func (PySem.W.fnOf "share" "share" (defArgs (top 16)) (defBody (top 16)) (defScope (top 16)) .none kV16 dc16 pm16 an16 cd16 ct16), sl16⟩)
    (c16 : PySem.W.codeIn K cd16 "share" = true)
    (k16 : PySem.W.keepIn K (.ref f16) = true)
    (g17 : PySem.W.nsIn K mainGlobals "lower" = some (some (.ref f17)))
    (l17 : K.lookup f17 = some ⟨oc17, od17, .func (PySem.W.fnOf "lower" "lower" (defArgs (top 17)) (defBody (top 17)) (defScope (top 17)) .none kV17 dc17 pm17 an17 cd17 ct17), sl17⟩)
    (c17 : PySem.W.codeIn K cd17 "lower" = true)
    (k17 : PySem.W.keepIn K (.ref f17) = true)
    (g18 : PySem.W.nsIn K mainGlobals "floor_of" = some (some (.ref f18)))
    (l18 : K.lookup f18 = some ⟨oc18, od18, .func (PySem.W.fnOf "floor_of" "floor_of" (defArgs (top 18)) (defBody (top 18)) (defScope (top 18)) .none kV18 dc18 pm18 an18 cd18 ct18), sl18⟩)
    (c18 : PySem.W.codeIn K cd18 "floor_of" = true)
    (k18 : PySem.W.keepIn K (.ref f18) = true)
    (g19 : PySem.W.nsIn K mainGlobals "digits_of" = some (some (.ref f19)))
    (l19 : K.lookup f19 = some ⟨oc19, od19, .func (PySem.W.fnOf "digits_of" "digits_of" (defArgs (top 19)) (defBody (top 19)) (defScope (top 19)) .none kV19 dc19 pm19 an19 cd19 ct19), sl19⟩)
    (c19 : PySem.W.codeIn K cd19 "digits_of" = true)
    (k19 : PySem.W.keepIn K (.ref f19) = true)
    (g20 : PySem.W.nsIn K mainGlobals "ratio_text" = some (some (.ref f20)))
    (l20 : K.lookup f20 = some ⟨oc20, od20, .func (PySem.W.fnOf "ratio_text" "ratio_text" (defArgs (top 20)) (defBody (top 20)) (defScope (top 20)) .none kV20 dc20 pm20 an20 cd20 ct20), sl20⟩)
    (c20 : PySem.W.codeIn K cd20 "ratio_text" = true)
    (k20 : PySem.W.keepIn K (.ref f20) = true)
    (g40 : PySem.W.nsIn K mainGlobals "_law_gcd" = some (some (.ref f40)))
    (l40 : K.lookup f40 = some ⟨oc40, od40, .func (PySem.W.fnOf "_law_gcd" "_law_gcd" (defArgs (top 40)) (defBody (top 40)) (defScope (top 40)) .none kV40 dc40 pm40 an40 cd40 ct40), sl40⟩)
    (c40 : PySem.W.codeIn K cd40 "_law_gcd" = true)
    (k40 : PySem.W.keepIn K (.ref f40) = true)
    (g41 : PySem.W.nsIn K mainGlobals "_law_q" = some (some (.ref f41)))
    (l41 : K.lookup f41 = some ⟨oc41, od41, .func (PySem.W.fnOf "_law_q" "_law_q" (defArgs (top 41)) (defBody (top 41)) (defScope (top 41)) .none kV41 dc41 pm41 an41 cd41 ct41), sl41⟩)
    (c41 : PySem.W.codeIn K cd41 "_law_q" = true)
    (k41 : PySem.W.keepIn K (.ref f41) = true)
    (g42 : PySem.W.nsIn K mainGlobals "_law_plus" = some (some (.ref f42)))
    (l42 : K.lookup f42 = some ⟨oc42, od42, .func (PySem.W.fnOf "_law_plus" "_law_plus" (defArgs (top 42)) (defBody (top 42)) (defScope (top 42)) .none kV42 dc42 pm42 an42 cd42 ct42), sl42⟩)
    (c42 : PySem.W.codeIn K cd42 "_law_plus" = true)
    (k42 : PySem.W.keepIn K (.ref f42) = true)
    (g43 : PySem.W.nsIn K mainGlobals "_law_minus" = some (some (.ref f43)))
    (l43 : K.lookup f43 = some ⟨oc43, od43, .func (PySem.W.fnOf "_law_minus" "_law_minus" (defArgs (top 43)) (defBody (top 43)) (defScope (top 43)) .none kV43 dc43 pm43 an43 cd43 ct43), sl43⟩)
    (c43 : PySem.W.codeIn K cd43 "_law_minus" = true)
    (k43 : PySem.W.keepIn K (.ref f43) = true)
    (g44 : PySem.W.nsIn K mainGlobals "_law_times" = some (some (.ref f44)))
    (l44 : K.lookup f44 = some ⟨oc44, od44, .func (PySem.W.fnOf "_law_times" "_law_times" (defArgs (top 44)) (defBody (top 44)) (defScope (top 44)) .none kV44 dc44 pm44 an44 cd44 ct44), sl44⟩)
    (c44 : PySem.W.codeIn K cd44 "_law_times" = true)
    (k44 : PySem.W.keepIn K (.ref f44) = true)
    (g45 : PySem.W.nsIn K mainGlobals "_law_share" = some (some (.ref f45)))
    (l45 : K.lookup f45 = some ⟨oc45, od45, .func (PySem.W.fnOf "_law_share" "_law_share" (defArgs (top 45)) (defBody (top 45)) (defScope (top 45)) .none kV45 dc45 pm45 an45 cd45 ct45), sl45⟩)
    (c45 : PySem.W.codeIn K cd45 "_law_share" = true)
    (k45 : PySem.W.keepIn K (.ref f45) = true)
    (g46 : PySem.W.nsIn K mainGlobals "_law_less" = some (some (.ref f46)))
    (l46 : K.lookup f46 = some ⟨oc46, od46, .func (PySem.W.fnOf "_law_less" "_law_less" (defArgs (top 46)) (defBody (top 46)) (defScope (top 46)) .none kV46 dc46 pm46 an46 cd46 ct46), sl46⟩)
    (c46 : PySem.W.codeIn K cd46 "_law_less" = true)
    (k46 : PySem.W.keepIn K (.ref f46) = true)
    (g22 : PySem.W.nsIn K mainGlobals "is_row" = some (some (.ref f22)))
    (l22 : K.lookup f22 = some ⟨oc22, od22, .func (PySem.W.fnOf "is_row" "is_row" (defArgs (top 22)) (defBody (top 22)) (defScope (top 22)) .none kV22 dc22 pm22 an22 cd22 ct22), sl22⟩)
    (c22 : PySem.W.codeIn K cd22 "is_row" = true)
    (k22 : PySem.W.keepIn K (.ref f22) = true)
    (g26 : PySem.W.nsIn K mainGlobals "many_needed" = some (some (.ref f26)))
    (l26 : K.lookup f26 = some ⟨oc26, od26, .func (PySem.W.fnOf "many_needed" "many_needed" (defArgs (top 26)) (defBody (top 26)) (defScope (top 26)) .none kV26 dc26 pm26 an26 cd26 ct26), sl26⟩)
    (c26 : PySem.W.codeIn K cd26 "many_needed" = true)
    (k26 : PySem.W.keepIn K (.ref f26) = true)
    (g27 : PySem.W.nsIn K mainGlobals "as_poly" = some (some (.ref f27)))
    (l27 : K.lookup f27 = some ⟨oc27, od27, .func (PySem.W.fnOf "as_poly" "as_poly" (defArgs (top 27)) (defBody (top 27)) (defScope (top 27)) .none kV27 dc27 pm27 an27 cd27 ct27), sl27⟩)
    (c27 : PySem.W.codeIn K cd27 "as_poly" = true)
    (k27 : PySem.W.keepIn K (.ref f27) = true)
    (g28 : PySem.W.nsIn K mainGlobals "number_for" = some (some (.ref f28)))
    (l28 : K.lookup f28 = some ⟨oc28, od28, .func (PySem.W.fnOf "number_for" "number_for" (defArgs (top 28)) (defBody (top 28)) (defScope (top 28)) .none kV28 dc28 pm28 an28 cd28 ct28), sl28⟩)
    (c28 : PySem.W.codeIn K cd28 "number_for" = true)
    (k28 : PySem.W.keepIn K (.ref f28) = true)
    (g29 : PySem.W.nsIn K mainGlobals "added" = some (some (.ref f29)))
    (l29 : K.lookup f29 = some ⟨oc29, od29, .func (PySem.W.fnOf "added" "added" (defArgs (top 29)) (defBody (top 29)) (defScope (top 29)) .none kV29 dc29 pm29 an29 cd29 ct29), sl29⟩)
    (c29 : PySem.W.codeIn K cd29 "added" = true)
    (k29 : PySem.W.keepIn K (.ref f29) = true)
    (g23 : PySem.W.nsIn K mainGlobals "over_one_bottom" = some (some (.ref f23)))
    (l23 : K.lookup f23 = some ⟨oc23, od23, .func (PySem.W.fnOf "over_one_bottom" "over_one_bottom" (defArgs (top 23)) (defBody (top 23)) (defScope (top 23)) .none kV23 dc23 pm23 an23 cd23 ct23), sl23⟩)
    (c23 : PySem.W.codeIn K cd23 "over_one_bottom" = true)
    (k23 : PySem.W.keepIn K (.ref f23) = true)
    (g30 : PySem.W.nsIn K mainGlobals "multiplied" = some (some (.ref f30)))
    (l30 : K.lookup f30 = some ⟨oc30, od30, .func (PySem.W.fnOf "multiplied" "multiplied" (defArgs (top 30)) (defBody (top 30)) (defScope (top 30)) .none kV30 dc30 pm30 an30 cd30 ct30), sl30⟩)
    (c30 : PySem.W.codeIn K cd30 "multiplied" = true)
    (k30 : PySem.W.keepIn K (.ref f30) = true)
    (g31 : PySem.W.nsIn K mainGlobals "divided" = some (some (.ref f31)))
    (l31 : K.lookup f31 = some ⟨oc31, od31, .func (PySem.W.fnOf "divided" "divided" (defArgs (top 31)) (defBody (top 31)) (defScope (top 31)) .none kV31 dc31 pm31 an31 cd31 ct31), sl31⟩)
    (c31 : PySem.W.codeIn K cd31 "divided" = true)
    (k31 : PySem.W.keepIn K (.ref f31) = true)
    (g32 : PySem.W.nsIn K mainGlobals "lean" = some (some (.ref f32)))
    (l32 : K.lookup f32 = some ⟨oc32, od32, .func (PySem.W.fnOf "lean" "lean" (defArgs (top 32)) (defBody (top 32)) (defScope (top 32)) .none kV32 dc32 pm32 an32 cd32 ct32), sl32⟩)
    (c32 : PySem.W.codeIn K cd32 "lean" = true)
    (k32 : PySem.W.keepIn K (.ref f32) = true)
    (g33 : PySem.W.nsIn K mainGlobals "lean_rest" = some (some (.ref f33)))
    (l33 : K.lookup f33 = some ⟨oc33, od33, .func (PySem.W.fnOf "lean_rest" "lean_rest" (defArgs (top 33)) (defBody (top 33)) (defScope (top 33)) .none kV33 dc33 pm33 an33 cd33 ct33), sl33⟩)
    (c33 : PySem.W.codeIn K cd33 "lean_rest" = true)
    (k33 : PySem.W.keepIn K (.ref f33) = true)
    (g34 : PySem.W.nsIn K mainGlobals "common" = some (some (.ref f34)))
    (l34 : K.lookup f34 = some ⟨oc34, od34, .func (PySem.W.fnOf "common" "common" (defArgs (top 34)) (defBody (top 34)) (defScope (top 34)) .none kV34 dc34 pm34 an34 cd34 ct34), sl34⟩)
    (c34 : PySem.W.codeIn K cd34 "common" = true)
    (k34 : PySem.W.keepIn K (.ref f34) = true)
    (g49 : PySem.W.nsIn K mainGlobals "_law_poly" = some (some (.ref f49)))
    (l49 : K.lookup f49 = some ⟨oc49, od49, .func (PySem.W.fnOf "_law_poly" "_law_poly" (defArgs (top 49)) (defBody (top 49)) (defScope (top 49)) .none kV49 dc49 pm49 an49 cd49 ct49), sl49⟩)
    (c49 : PySem.W.codeIn K cd49 "_law_poly" = true)
    (k49 : PySem.W.keepIn K (.ref f49) = true)
    (g50 : PySem.W.nsIn K mainGlobals "_law_p_plus" = some (some (.ref f50)))
    (l50 : K.lookup f50 = some ⟨oc50, od50, .func (PySem.W.fnOf "_law_p_plus" "_law_p_plus" (defArgs (top 50)) (defBody (top 50)) (defScope (top 50)) .none kV50 dc50 pm50 an50 cd50 ct50), sl50⟩)
    (c50 : PySem.W.codeIn K cd50 "_law_p_plus" = true)
    (k50 : PySem.W.keepIn K (.ref f50) = true)
    (g51 : PySem.W.nsIn K mainGlobals "_law_p_scaled" = some (some (.ref f51)))
    (l51 : K.lookup f51 = some ⟨oc51, od51, .func (PySem.W.fnOf "_law_p_scaled" "_law_p_scaled" (defArgs (top 51)) (defBody (top 51)) (defScope (top 51)) .none kV51 dc51 pm51 an51 cd51 ct51), sl51⟩)
    (c51 : PySem.W.codeIn K cd51 "_law_p_scaled" = true)
    (k51 : PySem.W.keepIn K (.ref f51) = true)
    (g52 : PySem.W.nsIn K mainGlobals "_law_p_minus" = some (some (.ref f52)))
    (l52 : K.lookup f52 = some ⟨oc52, od52, .func (PySem.W.fnOf "_law_p_minus" "_law_p_minus" (defArgs (top 52)) (defBody (top 52)) (defScope (top 52)) .none kV52 dc52 pm52 an52 cd52 ct52), sl52⟩)
    (c52 : PySem.W.codeIn K cd52 "_law_p_minus" = true)
    (k52 : PySem.W.keepIn K (.ref f52) = true)
    (g53 : PySem.W.nsIn K mainGlobals "_law_p_times" = some (some (.ref f53)))
    (l53 : K.lookup f53 = some ⟨oc53, od53, .func (PySem.W.fnOf "_law_p_times" "_law_p_times" (defArgs (top 53)) (defBody (top 53)) (defScope (top 53)) .none kV53 dc53 pm53 an53 cd53 ct53), sl53⟩)
    (c53 : PySem.W.codeIn K cd53 "_law_p_times" = true)
    (k53 : PySem.W.keepIn K (.ref f53) = true)
    (g54 : PySem.W.nsIn K mainGlobals "_law_p_at" = some (some (.ref f54)))
    (l54 : K.lookup f54 = some ⟨oc54, od54, .func (PySem.W.fnOf "_law_p_at" "_law_p_at" (defArgs (top 54)) (defBody (top 54)) (defScope (top 54)) .none kV54 dc54 pm54 an54 cd54 ct54), sl54⟩)
    (c54 : PySem.W.codeIn K cd54 "_law_p_at" = true)
    (k54 : PySem.W.keepIn K (.ref f54) = true)
    (g55 : PySem.W.nsIn K mainGlobals "_law_p_slope" = some (some (.ref f55)))
    (l55 : K.lookup f55 = some ⟨oc55, od55, .func (PySem.W.fnOf "_law_p_slope" "_law_p_slope" (defArgs (top 55)) (defBody (top 55)) (defScope (top 55)) .none kV55 dc55 pm55 an55 cd55 ct55), sl55⟩)
    (c55 : PySem.W.codeIn K cd55 "_law_p_slope" = true)
    (k55 : PySem.W.keepIn K (.ref f55) = true)
    (g56 : PySem.W.nsIn K mainGlobals "_law_p_moved" = some (some (.ref f56)))
    (l56 : K.lookup f56 = some ⟨oc56, od56, .func (PySem.W.fnOf "_law_p_moved" "_law_p_moved" (defArgs (top 56)) (defBody (top 56)) (defScope (top 56)) .none kV56 dc56 pm56 an56 cd56 ct56), sl56⟩)
    (c56 : PySem.W.codeIn K cd56 "_law_p_moved" = true)
    (k56 : PySem.W.keepIn K (.ref f56) = true)
    (g57 : PySem.W.nsIn K mainGlobals "_law_p_divided" = some (some (.ref f57)))
    (l57 : K.lookup f57 = some ⟨oc57, od57, .func (PySem.W.fnOf "_law_p_divided" "_law_p_divided" (defArgs (top 57)) (defBody (top 57)) (defScope (top 57)) .none kV57 dc57 pm57 an57 cd57 ct57), sl57⟩)
    (c57 : PySem.W.codeIn K cd57 "_law_p_divided" = true)
    (k57 : PySem.W.keepIn K (.ref f57) = true)
    (g58 : PySem.W.nsIn K mainGlobals "_law_p_plain" = some (some (.ref f58)))
    (l58 : K.lookup f58 = some ⟨oc58, od58, .func (PySem.W.fnOf "_law_p_plain" "_law_p_plain" (defArgs (top 58)) (defBody (top 58)) (defScope (top 58)) .none kV58 dc58 pm58 an58 cd58 ct58), sl58⟩)
    (c58 : PySem.W.codeIn K cd58 "_law_p_plain" = true)
    (k58 : PySem.W.keepIn K (.ref f58) = true)
    (g59 : PySem.W.nsIn K mainGlobals "_law_p_short" = some (some (.ref f59)))
    (l59 : K.lookup f59 = some ⟨oc59, od59, .func (PySem.W.fnOf "_law_p_short" "_law_p_short" (defArgs (top 59)) (defBody (top 59)) (defScope (top 59)) .none kV59 dc59 pm59 an59 cd59 ct59), sl59⟩)
    (c59 : PySem.W.codeIn K cd59 "_law_p_short" = true)
    (k59 : PySem.W.keepIn K (.ref f59) = true)
    (g60 : PySem.W.nsIn K mainGlobals "_law_p_common" = some (some (.ref f60)))
    (l60 : K.lookup f60 = some ⟨oc60, od60, .func (PySem.W.fnOf "_law_p_common" "_law_p_common" (defArgs (top 60)) (defBody (top 60)) (defScope (top 60)) .none kV60 dc60 pm60 an60 cd60 ct60), sl60⟩)
    (c60 : PySem.W.codeIn K cd60 "_law_p_common" = true)
    (k60 : PySem.W.keepIn K (.ref f60) = true)
    (g36 : PySem.W.nsIn K mainGlobals "_law_pen" = some (some (.ref f36)))
    (l36 : K.lookup f36 = some ⟨oc36, od36, .func (PySem.W.fnOf "_law_pen" "_law_pen" (defArgs (top 36)) (defBody (top 36)) (defScope (top 36)) .none kV36 dc36 pm36 an36 cd36 ct36), sl36⟩)
    (c36 : PySem.W.codeIn K cd36 "_law_pen" = true)
    (k36 : PySem.W.keepIn K (.ref f36) = true)
    (g37 : PySem.W.nsIn K mainGlobals "_law_draw" = some (some (.ref f37)))
    (l37 : K.lookup f37 = some ⟨oc37, od37, .func (PySem.W.fnOf "_law_draw" "_law_draw" (defArgs (top 37)) (defBody (top 37)) (defScope (top 37)) .none kV37 dc37 pm37 an37 cd37 ct37), sl37⟩)
    (c37 : PySem.W.codeIn K cd37 "_law_draw" = true)
    (k37 : PySem.W.keepIn K (.ref f37) = true)
    (g38 : PySem.W.nsIn K mainGlobals "_law_pick" = some (some (.ref f38)))
    (l38 : K.lookup f38 = some ⟨oc38, od38, .func (PySem.W.fnOf "_law_pick" "_law_pick" (defArgs (top 38)) (defBody (top 38)) (defScope (top 38)) .none kV38 dc38 pm38 an38 cd38 ct38), sl38⟩)
    (c38 : PySem.W.codeIn K cd38 "_law_pick" = true)
    (k38 : PySem.W.keepIn K (.ref f38) = true)
    (g39 : PySem.W.nsIn K mainGlobals "_law_is_whole" = some (some (.ref f39)))
    (l39 : K.lookup f39 = some ⟨oc39, od39, .func (PySem.W.fnOf "_law_is_whole" "_law_is_whole" (defArgs (top 39)) (defBody (top 39)) (defScope (top 39)) .none kV39 dc39 pm39 an39 cd39 ct39), sl39⟩)
    (c39 : PySem.W.codeIn K cd39 "_law_is_whole" = true)
    (k39 : PySem.W.keepIn K (.ref f39) = true)
    (g47 : PySem.W.nsIn K mainGlobals "_law_passed" = some (some (.ref f47)))
    (l47 : K.lookup f47 = some ⟨oc47, od47, .func (PySem.W.fnOf "_law_passed" "_law_passed" (defArgs (top 47)) (defBody (top 47)) (defScope (top 47)) .none kV47 dc47 pm47 an47 cd47 ct47), sl47⟩)
    (c47 : PySem.W.codeIn K cd47 "_law_passed" = true)
    (k47 : PySem.W.keepIn K (.ref f47) = true)
    (g48 : PySem.W.nsIn K mainGlobals "_law_ratio" = some (some (.ref f48)))
    (l48 : K.lookup f48 = some ⟨oc48, od48, .func (PySem.W.fnOf "_law_ratio" "_law_ratio" (defArgs (top 48)) (defBody (top 48)) (defScope (top 48)) .none kV48 dc48 pm48 an48 cd48 ct48), sl48⟩)
    (c48 : PySem.W.codeIn K cd48 "_law_ratio" = true)
    (k48 : PySem.W.keepIn K (.ref f48) = true)
    (g61 : PySem.W.nsIn K mainGlobals "_law_made_poly" = some (some (.ref f61)))
    (l61 : K.lookup f61 = some ⟨oc61, od61, .func (PySem.W.fnOf "_law_made_poly" "_law_made_poly" (defArgs (top 61)) (defBody (top 61)) (defScope (top 61)) .none kV61 dc61 pm61 an61 cd61 ct61), sl61⟩)
    (c61 : PySem.W.codeIn K cd61 "_law_made_poly" = true)
    (k61 : PySem.W.keepIn K (.ref f61) = true)
    (g62 : PySem.W.nsIn K mainGlobals "_law_drawn" = some (some (.ref f62)))
    (l62 : K.lookup f62 = some ⟨oc62, od62, .func (PySem.W.fnOf "_law_drawn" "_law_drawn" (defArgs (top 62)) (defBody (top 62)) (defScope (top 62)) .none kV62 dc62 pm62 an62 cd62 ct62), sl62⟩)
    (c62 : PySem.W.codeIn K cd62 "_law_drawn" = true)
    (k62 : PySem.W.keepIn K (.ref f62) = true)
    (g63 : PySem.W.nsIn K mainGlobals "_law_why" = some (some (.ref f63)))
    (l63 : K.lookup f63 = some ⟨oc63, od63, .func (PySem.W.fnOf "_law_why" "_law_why" (defArgs (top 63)) (defBody (top 63)) (defScope (top 63)) .none kV63 dc63 pm63 an63 cd63 ct63), sl63⟩)
    (c63 : PySem.W.codeIn K cd63 "_law_why" = true)
    (k63 : PySem.W.keepIn K (.ref f63) = true)
    (g64 : PySem.W.nsIn K mainGlobals "_law_is" = some (some (.ref f64)))
    (l64 : K.lookup f64 = some ⟨oc64, od64, .func (PySem.W.fnOf "_law_is" "_law_is" (defArgs (top 64)) (defBody (top 64)) (defScope (top 64)) .none kV64 dc64 pm64 an64 cd64 ct64), sl64⟩)
    (c64 : PySem.W.codeIn K cd64 "_law_is" = true)
    (k64 : PySem.W.keepIn K (.ref f64) = true)
    (g65 : PySem.W.nsIn K mainGlobals "_law_any" = some (some (.ref f65)))
    (l65 : K.lookup f65 = some ⟨oc65, od65, .func (PySem.W.fnOf "_law_any" "_law_any" (defArgs (top 65)) (defBody (top 65)) (defScope (top 65)) .none kV65 dc65 pm65 an65 cd65 ct65), sl65⟩)
    (c65 : PySem.W.codeIn K cd65 "_law_any" = true)
    (k65 : PySem.W.keepIn K (.ref f65) = true)
    (g66 : PySem.W.nsIn K mainGlobals "_law_far" = some (some (.ref f66)))
    (l66 : K.lookup f66 = some ⟨oc66, od66, .func (PySem.W.fnOf "_law_far" "_law_far" (defArgs (top 66)) (defBody (top 66)) (defScope (top 66)) .none kV66 dc66 pm66 an66 cd66 ct66), sl66⟩)
    (c66 : PySem.W.codeIn K cd66 "_law_far" = true)
    (k66 : PySem.W.keepIn K (.ref f66) = true)
    (g67 : PySem.W.nsIn K mainGlobals "_law_some_ratio" = some (some (.ref f67)))
    (l67 : K.lookup f67 = some ⟨oc67, od67, .func (PySem.W.fnOf "_law_some_ratio" "_law_some_ratio" (defArgs (top 67)) (defBody (top 67)) (defScope (top 67)) .none kV67 dc67 pm67 an67 cd67 ct67), sl67⟩)
    (c67 : PySem.W.codeIn K cd67 "_law_some_ratio" = true)
    (k67 : PySem.W.keepIn K (.ref f67) = true)
    (g68 : PySem.W.nsIn K mainGlobals "_law_ratios_right" = some (some (.ref f68)))
    (l68 : K.lookup f68 = some ⟨oc68, od68, .func (PySem.W.fnOf "_law_ratios_right" "_law_ratios_right" (defArgs (top 68)) (defBody (top 68)) (defScope (top 68)) .none kV68 dc68 pm68 an68 (.ref ca67) ct68), sl68⟩)
    (c68 : PySem.W.codeIn K (.ref ca67) "_law_ratios_right" = true)
    (k68 : PySem.W.keepIn K (.ref f68) = true)
    (g69 : PySem.W.nsIn K mainGlobals "_law_made_right" = some (some (.ref f69)))
    (l69 : K.lookup f69 = some ⟨oc69, od69, .func (PySem.W.fnOf "_law_made_right" "_law_made_right" (defArgs (top 69)) (defBody (top 69)) (defScope (top 69)) .none kV69 dc69 pm69 an69 (.ref ca68) ct69), sl69⟩)
    (c69 : PySem.W.codeIn K (.ref ca68) "_law_made_right" = true)
    (k69 : PySem.W.keepIn K (.ref f69) = true)
    (g70 : PySem.W.nsIn K mainGlobals "_law_divided_right" = some (some (.ref f70)))
    (l70 : K.lookup f70 = some ⟨oc70, od70, .func (PySem.W.fnOf "_law_divided_right" "_law_divided_right" (defArgs (top 70)) (defBody (top 70)) (defScope (top 70)) .none kV70 dc70 pm70 an70 (.ref ca69) ct70), sl70⟩)
    (c70 : PySem.W.codeIn K (.ref ca69) "_law_divided_right" = true)
    (k70 : PySem.W.keepIn K (.ref f70) = true)
    (g71 : PySem.W.nsIn K mainGlobals "law" = some (some (.ref f71)))
    (l71 : K.lookup f71 = some ⟨oc71, od71, .func (PySem.W.fnOf "law" "law" (defArgs (top 71)) (defBody (top 71)) (defScope (top 71)) .none kV71 dc71 pm71 an71 (.ref ca70) ct71), sl71⟩)
    (c71 : PySem.W.codeIn K (.ref ca70) "law" = true)
    (k71 : PySem.W.keepIn K (.ref f71) = true)
    (pG : PySem.W.nsIn K mainGlobals "Poly" = some (some (.ref cP)))
    (p1 : PySem.W.plainGet K cP Str.empty = true)
    (p2 : PySem.W.hasDictIn K cP = true)
    (p3 : PySem.W.plainOver K cP = true)
    (p4 : PySem.W.findIn K (.ref cP) "__setattr__" = some (some (.builtin "object.__setattr__")))
    (p5 : PySem.W.findIn K (.ref cP) "numbers" = some none)
    (p6 : PySem.W.findIn K (.ref cP) "__class__" = some (some (.builtin "object.__class__")))
    (p7 : PySem.W.mroIn K cP (.type "object") = some true)
    (p8 : PySem.W.makesIn K cP = true)
    (p9 : PySem.W.keepIn K (.ref cP) = true)
    (pa : PySem.W.selfFirst K cP = true)
    (pn_int : PySem.W.kitOne K (.type "int") (.ref cP) = some false)
    (pn_bool : PySem.W.kitOne K (.type "bool") (.ref cP) = some false)
    (pn_str : PySem.W.kitOne K (.type "str") (.ref cP) = some false)
    (pn_NoneType : PySem.W.kitOne K (.type "NoneType") (.ref cP) = some false)
    (pn_tuple : PySem.W.kitOne K (.type "tuple") (.ref cP) = some false)
    (pn_list : PySem.W.kitOne K (.type "list") (.ref cP) = some false)
    (pn_dict : PySem.W.kitOne K (.type "dict") (.ref cP) = some false)
    (pi1 : PySem.W.subIn K (.type "int") (.ref cP) = some false)
    (pi2 : PySem.W.subIn K (.ref cP) (.type "int") = some false)
    (pt1 : PySem.W.subIn K (.type "tuple") (.ref cP) = some false)
    (pt2 : PySem.W.subIn K (.ref cP) (.type "tuple") = some false)
    (mem0 : PySem.W.findIn K (.ref cP) "__init__" = some (some (.ref fm0)))
    (ism0 : PySem.W.isFn K (.ref fm0) = true)
    (lm0 : K.lookup fm0 = some ⟨ocm0, odm0, .func (PySem.W.fnOf "__init__" "Poly.__init__" (defArgs (sP 0)) (defBody (sP 0)) (defScope (sP 0)) .none kVm0 dcm0 pmm0 anm0 cdm0 ctm0), slm0⟩)
    (cm0 : PySem.W.codeIn K cdm0 "Poly.__init__" = true)
    (km0 : PySem.W.keepIn K (.ref fm0) = true)
    (mem1 : PySem.W.findIn K (.ref cP) "__eq__" = some (some (.ref fm1)))
    (ism1 : PySem.W.isFn K (.ref fm1) = true)
    (lm1 : K.lookup fm1 = some ⟨ocm1, odm1, .func (PySem.W.fnOf "__eq__" "Poly.__eq__" (defArgs (sP 1)) (defBody (sP 1)) (defScope (sP 1)) .none kVm1 dcm1 pmm1 anm1 cdm1 ctm1), slm1⟩)
    (cm1 : PySem.W.codeIn K cdm1 "Poly.__eq__" = true)
    (km1 : PySem.W.keepIn K (.ref fm1) = true)
    (mem2 : PySem.W.findIn K (.ref cP) "__add__" = some (some (.ref fm2)))
    (ism2 : PySem.W.isFn K (.ref fm2) = true)
    (lm2 : K.lookup fm2 = some ⟨ocm2, odm2, .func (PySem.W.fnOf "__add__" "Poly.__add__" (defArgs (sP 2)) (defBody (sP 2)) (defScope (sP 2)) .none kVm2 dcm2 pmm2 anm2 cdm2 ctm2), slm2⟩)
    (cm2 : PySem.W.codeIn K cdm2 "Poly.__add__" = true)
    (km2 : PySem.W.keepIn K (.ref fm2) = true)
    (mem3 : PySem.W.findIn K (.ref cP) "__radd__" = some (some (.ref fm3)))
    (ism3 : PySem.W.isFn K (.ref fm3) = true)
    (lm3 : K.lookup fm3 = some ⟨ocm3, odm3, .func (PySem.W.fnOf "__radd__" "Poly.__radd__" (defArgs (sP 3)) (defBody (sP 3)) (defScope (sP 3)) .none kVm3 dcm3 pmm3 anm3 cdm3 ctm3), slm3⟩)
    (cm3 : PySem.W.codeIn K cdm3 "Poly.__radd__" = true)
    (km3 : PySem.W.keepIn K (.ref fm3) = true)
    (mem4 : PySem.W.findIn K (.ref cP) "__sub__" = some (some (.ref fm4)))
    (ism4 : PySem.W.isFn K (.ref fm4) = true)
    (lm4 : K.lookup fm4 = some ⟨ocm4, odm4, .func (PySem.W.fnOf "__sub__" "Poly.__sub__" (defArgs (sP 4)) (defBody (sP 4)) (defScope (sP 4)) .none kVm4 dcm4 pmm4 anm4 cdm4 ctm4), slm4⟩)
    (cm4 : PySem.W.codeIn K cdm4 "Poly.__sub__" = true)
    (km4 : PySem.W.keepIn K (.ref fm4) = true)
    (mem5 : PySem.W.findIn K (.ref cP) "__rsub__" = some (some (.ref fm5)))
    (ism5 : PySem.W.isFn K (.ref fm5) = true)
    (lm5 : K.lookup fm5 = some ⟨ocm5, odm5, .func (PySem.W.fnOf "__rsub__" "Poly.__rsub__" (defArgs (sP 5)) (defBody (sP 5)) (defScope (sP 5)) .none kVm5 dcm5 pmm5 anm5 cdm5 ctm5), slm5⟩)
    (cm5 : PySem.W.codeIn K cdm5 "Poly.__rsub__" = true)
    (km5 : PySem.W.keepIn K (.ref fm5) = true)
    (mem6 : PySem.W.findIn K (.ref cP) "__mul__" = some (some (.ref fm6)))
    (ism6 : PySem.W.isFn K (.ref fm6) = true)
    (lm6 : K.lookup fm6 = some ⟨ocm6, odm6, .func (PySem.W.fnOf "__mul__" "Poly.__mul__" (defArgs (sP 6)) (defBody (sP 6)) (defScope (sP 6)) .none kVm6 dcm6 pmm6 anm6 cdm6 ctm6), slm6⟩)
    (cm6 : PySem.W.codeIn K cdm6 "Poly.__mul__" = true)
    (km6 : PySem.W.keepIn K (.ref fm6) = true)
    (mem7 : PySem.W.findIn K (.ref cP) "__rmul__" = some (some (.ref fm7)))
    (ism7 : PySem.W.isFn K (.ref fm7) = true)
    (lm7 : K.lookup fm7 = some ⟨ocm7, odm7, .func (PySem.W.fnOf "__rmul__" "Poly.__rmul__" (defArgs (sP 7)) (defBody (sP 7)) (defScope (sP 7)) .none kVm7 dcm7 pmm7 anm7 cdm7 ctm7), slm7⟩)
    (cm7 : PySem.W.codeIn K cdm7 "Poly.__rmul__" = true)
    (km7 : PySem.W.keepIn K (.ref fm7) = true)
    (mem8 : PySem.W.findIn K (.ref cP) "__neg__" = some (some (.ref fm8)))
    (ism8 : PySem.W.isFn K (.ref fm8) = true)
    (lm8 : K.lookup fm8 = some ⟨ocm8, odm8, .func (PySem.W.fnOf "__neg__" "Poly.__neg__" (defArgs (sP 8)) (defBody (sP 8)) (defScope (sP 8)) .none kVm8 dcm8 pmm8 anm8 cdm8 ctm8), slm8⟩)
    (cm8 : PySem.W.codeIn K cdm8 "Poly.__neg__" = true)
    (km8 : PySem.W.keepIn K (.ref fm8) = true)
    (mem9 : PySem.W.findIn K (.ref cP) "degree" = some (some (.ref fm9)))
    (ism9 : PySem.W.isFn K (.ref fm9) = true)
    (lm9 : K.lookup fm9 = some ⟨ocm9, odm9, .func (PySem.W.fnOf "degree" "Poly.degree" (defArgs (sP 9)) (defBody (sP 9)) (defScope (sP 9)) .none kVm9 dcm9 pmm9 anm9 cdm9 ctm9), slm9⟩)
    (cm9 : PySem.W.codeIn K cdm9 "Poly.degree" = true)
    (km9 : PySem.W.keepIn K (.ref fm9) = true)
    (mem10 : PySem.W.findIn K (.ref cP) "at" = some (some (.ref fm10)))
    (ism10 : PySem.W.isFn K (.ref fm10) = true)
    (lm10 : K.lookup fm10 = some ⟨ocm10, odm10, .func (PySem.W.fnOf "at" "Poly.at" (defArgs (sP 10)) (defBody (sP 10)) (defScope (sP 10)) .none kVm10 dcm10 pmm10 anm10 cdm10 ctm10), slm10⟩)
    (cm10 : PySem.W.codeIn K cdm10 "Poly.at" = true)
    (km10 : PySem.W.keepIn K (.ref fm10) = true)
    (mem11 : PySem.W.findIn K (.ref cP) "slope" = some (some (.ref fm11)))
    (ism11 : PySem.W.isFn K (.ref fm11) = true)
    (lm11 : K.lookup fm11 = some ⟨ocm11, odm11, .func (PySem.W.fnOf "slope" "Poly.slope" (defArgs (sP 11)) (defBody (sP 11)) (defScope (sP 11)) .none kVm11 dcm11 pmm11 anm11 cdm11 ctm11), slm11⟩)
    (cm11 : PySem.W.codeIn K cdm11 "Poly.slope" = true)
    (km11 : PySem.W.keepIn K (.ref fm11) = true)
    (mem12 : PySem.W.findIn K (.ref cP) "area" = some (some (.ref fm12)))
    (ism12 : PySem.W.isFn K (.ref fm12) = true)
    (lm12 : K.lookup fm12 = some ⟨ocm12, odm12, .func (PySem.W.fnOf "area" "Poly.area" (defArgs (sP 12)) (defBody (sP 12)) (defScope (sP 12)) .none kVm12 dcm12 pmm12 anm12 cdm12 ctm12), slm12⟩)
    (cm12 : PySem.W.codeIn K cdm12 "Poly.area" = true)
    (km12 : PySem.W.keepIn K (.ref fm12) = true)
    (mem13 : PySem.W.findIn K (.ref cP) "moved" = some (some (.ref fm13)))
    (ism13 : PySem.W.isFn K (.ref fm13) = true)
    (lm13 : K.lookup fm13 = some ⟨ocm13, odm13, .func (PySem.W.fnOf "moved" "Poly.moved" (defArgs (sP 13)) (defBody (sP 13)) (defScope (sP 13)) .none kVm13 dcm13 pmm13 anm13 cdm13 ctm13), slm13⟩)
    (cm13 : PySem.W.codeIn K cdm13 "Poly.moved" = true)
    (km13 : PySem.W.keepIn K (.ref fm13) = true)
    (foaddint : PySem.W.findIn K (.type "int") "__add__" = some uoaddint)
    (roaddint : PySem.W.findIn K (.type "int") "__radd__" = some woaddint)
    (foaddtuple : PySem.W.findIn K (.type "tuple") "__add__" = some uoaddtuple)
    (roaddtuple : PySem.W.findIn K (.type "tuple") "__radd__" = some woaddtuple)
    (soaddtuple : ((uoaddtuple.isSome && !isSeqSlot uoaddtuple) || (woaddtuple.isSome && !isSeqSlot woaddtuple)) = false)
    (fosubint : PySem.W.findIn K (.type "int") "__sub__" = some uosubint)
    (rosubint : PySem.W.findIn K (.type "int") "__rsub__" = some wosubint)
    (fosubtuple : PySem.W.findIn K (.type "tuple") "__sub__" = some uosubtuple)
    (rosubtuple : PySem.W.findIn K (.type "tuple") "__rsub__" = some wosubtuple)
    (sosubtuple : ((uosubtuple.isSome && !isSeqSlot uosubtuple) || (wosubtuple.isSome && !isSeqSlot wosubtuple)) = false)
    (fomulint : PySem.W.findIn K (.type "int") "__mul__" = some uomulint)
    (romulint : PySem.W.findIn K (.type "int") "__rmul__" = some womulint)
    (fomultuple : PySem.W.findIn K (.type "tuple") "__mul__" = some uomultuple)
    (romultuple : PySem.W.findIn K (.type "tuple") "__rmul__" = some womultuple)
    (somultuple : ((uomultuple.isSome && !isSeqSlot uomultuple) || (womultuple.isSome && !isSeqSlot womultuple)) = false)
    (v67 : K.lookup ca67 = some ⟨ov67, oq67, .fields vs67, os67⟩)
    (w67 : (vs67[11]? : Option Value) = some (.ref P67))
    (h67 : PySem.W.codeHdIn K ca67 P67 = true)
    (nt67 : K.lookup P67 = none)
    (ht67 : h.get? P67 = some { cls := .none, data := .fields #[] })
    (v68 : K.lookup ca68 = some ⟨ov68, oq68, .fields vs68, os68⟩)
    (w68 : (vs68[11]? : Option Value) = some (.ref P68))
    (h68 : PySem.W.codeHdIn K ca68 P68 = true)
    (nt68 : K.lookup P68 = none)
    (ht68 : h.get? P68 = some { cls := .none, data := .fields #[] })
    (v69 : K.lookup ca69 = some ⟨ov69, oq69, .fields vs69, os69⟩)
    (w69 : (vs69[11]? : Option Value) = some (.ref P69))
    (h69 : PySem.W.codeHdIn K ca69 P69 = true)
    (nt69 : K.lookup P69 = none)
    (ht69 : h.get? P69 = some { cls := .none, data := .fields #[] })
    (v70 : K.lookup ca70 = some ⟨ov70, oq70, .fields vs70, os70⟩)
    (w70 : (vs70[11]? : Option Value) = some (.ref P70))
    (h70 : PySem.W.codeHdIn K ca70 P70 = true)
    (nt70 : K.lookup P70 = none)
    (ht70 : h.get? P70 = some { cls := .none, data := .fields #[] })
    (nP : [P67, P68, P69, P70].Nodup)
    (nbN : CN ≠ B)
    (nbR : CR ≠ B)
    (neRN : CR ≠ CN)
    : ∃ (fd : FuncData) (cs : List (Addr × Addr)) (sp : Sp), (∀ p ∈ cs, h.get? p.2 = some { cls := .none, data := .fields #[] }) ∧ (∀ p ∈ cs, K.lookup p.2 = none) ∧ (∀ p ∈ cs, PySem.W.CodeHd h p.1 p.2) ∧
        (∀ (s : Shared) (u : Value), BindsTo s fd ⟨[u], []⟩ [("_law_script", u)]) ∧
        (∀ (H : Hp) (a : Addr) (ns : List Int), ns.length ≤ 63 → (∀ p ∈ cs, H p.2 = some (.tbl #[])) → SqL K H a (ns.map V.int) → sp [.ref a] H (fun v _ => v = .bl true) fun _ _ _ => False) ∧
        ∀ base : Heap, K.In base → base.Ns mainGlobals mg → (∀ p ∈ cs, LamX.TabB base mg p.1 p.2) → FnG P w K mg base CX0 12 fa fd ["_law_script"] sp := by
  cases hfa.symm.trans (PySem.W.mg_of X G g71)
  have TN : ErrT K mg "BadNumber" B CN := errT_mk X G aCN xLN saN gaN ggN exN tyN kpN hdN haN hn ht hmN
  have FEN := funS_mk (st := sI3) (P := P) lEN cEN lcEN laEN h2EN hfEN zs tp op (ErrT_cls TN.mro) owEN nxEN ivEN
  have bEN := FEN.binds (ps := ["self", "what", "number"]) fun _ _ _ _ _ _ _ us hl => match us, hl with | [_, _, _], _ => rfl
  have TR : ErrT K mg "BadRow" B CR := errT_mk X G aCR xLR saR gaR ggR exR tyR kpR hdR haR hn ht hmR
  have FER := funS_mk (st := sI4) (P := P) lER cER lcER laER h2ER hfER zs tp op (ErrT_cls TR.mro) owER nxER ivER
  have bER := FER.binds (ps := ["self", "row"]) fun _ _ _ _ _ _ _ us hl => match us, hl with | [_, _], _ => rfl
  have TI : ErrT K mg "BadInterval" B CI := errT_mk X G aCI xLI saI gaI ggI exI tyI kpI hdI haI hn ht hmI
  have TU : ErrT K mg "Unlike" B CU := errT_mk X G aCU xLU saU gaU ggU exU tyU kpU hdU haU hn ht hmU
  have F8 := fun_mk (st := top 8) l8 c8 k8
  have b8 := F8.binds (ps := ["value"]) fun _ _ _ _ _ _ us hl => match us, hl with | [_], _ => rfl
  have F9 := fun_mk (st := top 9) l9 c9 k9
  have b9 := F9.binds (ps := ["value"]) fun _ _ _ _ _ _ us hl => match us, hl with | [_], _ => rfl
  have F10 := fun_mk (st := top 10) l10 c10 k10
  have b10 := F10.binds (ps := ["value"]) fun _ _ _ _ _ _ us hl => match us, hl with | [_], _ => rfl
  have F11 := fun_mk (st := top 11) l11 c11 k11
  have b11 := F11.binds (ps := ["top", "bottom"]) fun _ _ _ _ _ _ us hl => match us, hl with | [_, _], _ => rfl
  have F12 := fun_mk (st := top 12) l12 c12 k12
  have b12 := F12.binds (ps := ["value", "what"]) fun _ _ _ _ _ _ us hl => match us, hl with | [_, _], _ => rfl
  have F13 := fun_mk (st := top 13) l13 c13 k13
  have b13 := F13.binds (ps := ["one", "other"]) fun _ _ _ _ _ _ us hl => match us, hl with | [_, _], _ => rfl
  have F14 := fun_mk (st := top 14) l14 c14 k14
  have b14 := F14.binds (ps := ["one", "other"]) fun _ _ _ _ _ _ us hl => match us, hl with | [_, _], _ => rfl
  have F15 := fun_mk (st := top 15) l15 c15 k15
  have b15 := F15.binds (ps := ["one", "other"]) fun _ _ _ _ _ _ us hl => match us, hl with | [_, _], _ => rfl
  have F16 := fun_mk (st := top 16) l16 c16 k16
  have b16 := F16.binds (ps := ["one", "other"]) fun _ _ _ _ _ _ us hl => match us, hl with | [_, _], _ => rfl
  have F17 := fun_mk (st := top 17) l17 c17 k17
  have b17 := F17.binds (ps := ["one", "other"]) fun _ _ _ _ _ _ us hl => match us, hl with | [_, _], _ => rfl
  have F18 := fun_mk (st := top 18) l18 c18 k18
  have b18 := F18.binds (ps := ["value"]) fun _ _ _ _ _ _ us hl => match us, hl with | [_], _ => rfl
  have F19 := fun_mk (st := top 19) l19 c19 k19
  have b19 := F19.binds (ps := ["number"]) fun _ _ _ _ _ _ us hl => match us, hl with | [_], _ => rfl
  have F20 := fun_mk (st := top 20) l20 c20 k20
  have b20 := F20.binds (ps := ["value"]) fun _ _ _ _ _ _ us hl => match us, hl with | [_], _ => rfl
  have F40 := fun_mk (st := top 40) l40 c40 k40
  have b40 := F40.binds (ps := ["_law_one", "_law_two"]) fun _ _ _ _ _ _ us hl => match us, hl with | [_, _], _ => rfl
  have F41 := fun_mk (st := top 41) l41 c41 k41
  have b41 := F41.binds (ps := ["_law_top", "_law_bottom"]) fun _ _ _ _ _ _ us hl => match us, hl with | [_, _], _ => rfl
  have F42 := fun_mk (st := top 42) l42 c42 k42
  have b42 := F42.binds (ps := ["_law_one", "_law_two"]) fun _ _ _ _ _ _ us hl => match us, hl with | [_, _], _ => rfl
  have F43 := fun_mk (st := top 43) l43 c43 k43
  have b43 := F43.binds (ps := ["_law_one", "_law_two"]) fun _ _ _ _ _ _ us hl => match us, hl with | [_, _], _ => rfl
  have F44 := fun_mk (st := top 44) l44 c44 k44
  have b44 := F44.binds (ps := ["_law_one", "_law_two"]) fun _ _ _ _ _ _ us hl => match us, hl with | [_, _], _ => rfl
  have F45 := fun_mk (st := top 45) l45 c45 k45
  have b45 := F45.binds (ps := ["_law_one", "_law_two"]) fun _ _ _ _ _ _ us hl => match us, hl with | [_, _], _ => rfl
  have F46 := fun_mk (st := top 46) l46 c46 k46
  have b46 := F46.binds (ps := ["_law_one", "_law_two"]) fun _ _ _ _ _ _ us hl => match us, hl with | [_, _], _ => rfl
  have F22 := fun_mk (st := top 22) l22 c22 k22
  have b22 := F22.binds (ps := ["value"]) fun _ _ _ _ _ _ us hl => match us, hl with | [_], _ => rfl
  have F26 := fun_mk (st := top 26) l26 c26 k26
  have b26 := F26.binds (ps := ["row"]) fun _ _ _ _ _ _ us hl => match us, hl with | [_], _ => rfl
  have F27 := fun_mk (st := top 27) l27 c27 k27
  have b27 := F27.binds (ps := ["value"]) fun _ _ _ _ _ _ us hl => match us, hl with | [_], _ => rfl
  have F28 := fun_mk (st := top 28) l28 c28 k28
  have b28 := F28.binds (ps := ["poly", "power"]) fun _ _ _ _ _ _ us hl => match us, hl with | [_, _], _ => rfl
  have F29 := fun_mk (st := top 29) l29 c29 k29
  have b29 := F29.binds (ps := ["one", "other"]) fun _ _ _ _ _ _ us hl => match us, hl with | [_, _], _ => rfl
  have F23 := fun_mk (st := top 23) l23 c23 k23
  have b23 := F23.binds (ps := ["pairs"]) fun _ _ _ _ _ _ us hl => match us, hl with | [_], _ => rfl
  have F30 := fun_mk (st := top 30) l30 c30 k30
  have b30 := F30.binds (ps := ["one", "other"]) fun _ _ _ _ _ _ us hl => match us, hl with | [_, _], _ => rfl
  have F31 := fun_mk (st := top 31) l31 c31 k31
  have b31 := F31.binds (ps := ["one", "other"]) fun _ _ _ _ _ _ us hl => match us, hl with | [_, _], _ => rfl
  have F32 := fun_mk (st := top 32) l32 c32 k32
  have b32 := F32.binds (ps := ["row"]) fun _ _ _ _ _ _ us hl => match us, hl with | [_], _ => rfl
  have F33 := fun_mk (st := top 33) l33 c33 k33
  have b33 := F33.binds (ps := ["row", "divisor"]) fun _ _ _ _ _ _ us hl => match us, hl with | [_, _], _ => rfl
  have F34 := fun_mk (st := top 34) l34 c34 k34
  have b34 := F34.binds (ps := ["one", "other"]) fun _ _ _ _ _ _ us hl => match us, hl with | [_, _], _ => rfl
  have F49 := fun_mk (st := top 49) l49 c49 k49
  have b49 := F49.binds (ps := ["_law_numbers"]) fun _ _ _ _ _ _ us hl => match us, hl with | [_], _ => rfl
  have F50 := fun_mk (st := top 50) l50 c50 k50
  have b50 := F50.binds (ps := ["_law_one", "_law_two"]) fun _ _ _ _ _ _ us hl => match us, hl with | [_, _], _ => rfl
  have F51 := fun_mk (st := top 51) l51 c51 k51
  have b51 := F51.binds (ps := ["_law_one", "_law_by"]) fun _ _ _ _ _ _ us hl => match us, hl with | [_, _], _ => rfl
  have F52 := fun_mk (st := top 52) l52 c52 k52
  have b52 := F52.binds (ps := ["_law_one", "_law_two"]) fun _ _ _ _ _ _ us hl => match us, hl with | [_, _], _ => rfl
  have F53 := fun_mk (st := top 53) l53 c53 k53
  have b53 := F53.binds (ps := ["_law_one", "_law_two"]) fun _ _ _ _ _ _ us hl => match us, hl with | [_, _], _ => rfl
  have F54 := fun_mk (st := top 54) l54 c54 k54
  have b54 := F54.binds (ps := ["_law_one", "_law_point"]) fun _ _ _ _ _ _ us hl => match us, hl with | [_, _], _ => rfl
  have F55 := fun_mk (st := top 55) l55 c55 k55
  have b55 := F55.binds (ps := ["_law_one"]) fun _ _ _ _ _ _ us hl => match us, hl with | [_], _ => rfl
  have F56 := fun_mk (st := top 56) l56 c56 k56
  have b56 := F56.binds (ps := ["_law_one", "_law_start", "_law_step"]) fun _ _ _ _ _ _ us hl => match us, hl with | [_, _, _], _ => rfl
  have F57 := fun_mk (st := top 57) l57 c57 k57
  have b57 := F57.binds (ps := ["_law_one", "_law_two"]) fun _ _ _ _ _ _ us hl => match us, hl with | [_, _], _ => rfl
  have F58 := fun_mk (st := top 58) l58 c58 k58
  have b58 := F58.binds (ps := ["_law_one"]) fun _ _ _ _ _ _ us hl => match us, hl with | [_], _ => rfl
  have F59 := fun_mk (st := top 59) l59 c59 k59
  have b59 := F59.binds (ps := ["_law_one"]) fun _ _ _ _ _ _ us hl => match us, hl with | [_], _ => rfl
  have F60 := fun_mk (st := top 60) l60 c60 k60
  have b60 := F60.binds (ps := ["_law_one", "_law_two"]) fun _ _ _ _ _ _ us hl => match us, hl with | [_, _], _ => rfl
  have F36 := fun_mk (st := top 36) l36 c36 k36
  have b36 := F36.binds (ps := ["_law_script"]) fun _ _ _ _ _ _ us hl => match us, hl with | [_], _ => rfl
  have F37 := fun_mk (st := top 37) l37 c37 k37
  have b37 := F37.binds (ps := ["_law_pen_here", "_law_many"]) fun _ _ _ _ _ _ us hl => match us, hl with | [_, _], _ => rfl
  have F38 := fun_mk (st := top 38) l38 c38 k38
  have b38 := F38.binds (ps := ["_law_pen_here", "_law_some"]) fun _ _ _ _ _ _ us hl => match us, hl with | [_, _], _ => rfl
  have F39 := fun_mk (st := top 39) l39 c39 k39
  have b39 := F39.binds (ps := ["_law_thing"]) fun _ _ _ _ _ _ us hl => match us, hl with | [_], _ => rfl
  have F47 := fun_mk (st := top 47) l47 c47 k47
  have b47 := F47.binds (ps := ["_law_pen_here", "_law_ratio_here"]) fun _ _ _ _ _ _ us hl => match us, hl with | [_, _], _ => rfl
  have F48 := fun_mk (st := top 48) l48 c48 k48
  have b48 := F48.binds (ps := ["_law_pen_here", "_law_most"]) fun _ _ _ _ _ _ us hl => match us, hl with | [_, _], _ => rfl
  have F61 := fun_mk (st := top 61) l61 c61 k61
  have b61 := F61.binds (ps := ["_law_pen_here", "_law_one"]) fun _ _ _ _ _ _ us hl => match us, hl with | [_, _], _ => rfl
  have F62 := fun_mk (st := top 62) l62 c62 k62
  have b62 := F62.binds (ps := ["_law_pen_here", "_law_degree", "_law_most"]) fun _ _ _ _ _ _ us hl => match us, hl with | [_, _, _], _ => rfl
  have F63 := fun_mk (st := top 63) l63 c63 k63
  have b63 := F63.binds (ps := ["_law_call"]) fun _ _ _ _ _ _ us hl => match us, hl with | [_], _ => rfl
  have F64 := fun_mk (st := top 64) l64 c64 k64
  have b64 := F64.binds (ps := ["_law_value", "_law_due"]) fun _ _ _ _ _ _ us hl => match us, hl with | [_, _], _ => rfl
  have F65 := fun_mk (st := top 65) l65 c65 k65
  have b65 := F65.binds (ps := ["_law_pen_here"]) fun _ _ _ _ _ _ us hl => match us, hl with | [_], _ => rfl
  have F66 := fun_mk (st := top 66) l66 c66 k66
  have b66 := F66.binds (ps := ["_law_pen_here"]) fun _ _ _ _ _ _ us hl => match us, hl with | [_], _ => rfl
  have F67 := fun_mk (st := top 67) l67 c67 k67
  have b67 := F67.binds (ps := ["_law_pen_here"]) fun _ _ _ _ _ _ us hl => match us, hl with | [_], _ => rfl
  have F68 := fun_mk (st := top 68) l68 c68 k68
  have b68 := F68.binds (ps := ["_law_pen_here"]) fun _ _ _ _ _ _ us hl => match us, hl with | [_], _ => rfl
  have F69 := fun_mk (st := top 69) l69 c69 k69
  have b69 := F69.binds (ps := ["_law_pen_here"]) fun _ _ _ _ _ _ us hl => match us, hl with | [_], _ => rfl
  have F70 := fun_mk (st := top 70) l70 c70 k70
  have b70 := F70.binds (ps := ["_law_pen_here"]) fun _ _ _ _ _ _ us hl => match us, hl with | [_], _ => rfl
  have F71 := fun_mk (st := top 71) l71 c71 k71
  have b71 := F71.binds (ps := ["_law_script"]) fun _ _ _ _ _ _ us hl => match us, hl with | [_], _ => rfl
  have Fm0 := fun_mk (st := sP 0) lm0 cm0 km0
  have bm0 := Fm0.binds (ps := ["self", "numbers"]) fun _ _ _ _ _ _ us hl => match us, hl with | [_, _], _ => rfl
  have Fm1 := fun_mk (st := sP 1) lm1 cm1 km1
  have bm1 := Fm1.binds (ps := ["self", "other"]) fun _ _ _ _ _ _ us hl => match us, hl with | [_, _], _ => rfl
  have Fm2 := fun_mk (st := sP 2) lm2 cm2 km2
  have bm2 := Fm2.binds (ps := ["self", "other"]) fun _ _ _ _ _ _ us hl => match us, hl with | [_, _], _ => rfl
  have Fm3 := fun_mk (st := sP 3) lm3 cm3 km3
  have bm3 := Fm3.binds (ps := ["self", "other"]) fun _ _ _ _ _ _ us hl => match us, hl with | [_, _], _ => rfl
  have Fm4 := fun_mk (st := sP 4) lm4 cm4 km4
  have bm4 := Fm4.binds (ps := ["self", "other"]) fun _ _ _ _ _ _ us hl => match us, hl with | [_, _], _ => rfl
  have Fm5 := fun_mk (st := sP 5) lm5 cm5 km5
  have bm5 := Fm5.binds (ps := ["self", "other"]) fun _ _ _ _ _ _ us hl => match us, hl with | [_, _], _ => rfl
  have Fm6 := fun_mk (st := sP 6) lm6 cm6 km6
  have bm6 := Fm6.binds (ps := ["self", "other"]) fun _ _ _ _ _ _ us hl => match us, hl with | [_, _], _ => rfl
  have Fm7 := fun_mk (st := sP 7) lm7 cm7 km7
  have bm7 := Fm7.binds (ps := ["self", "other"]) fun _ _ _ _ _ _ us hl => match us, hl with | [_, _], _ => rfl
  have Fm8 := fun_mk (st := sP 8) lm8 cm8 km8
  have bm8 := Fm8.binds (ps := ["self"]) fun _ _ _ _ _ _ us hl => match us, hl with | [_], _ => rfl
  have Fm9 := fun_mk (st := sP 9) lm9 cm9 km9
  have bm9 := Fm9.binds (ps := ["self"]) fun _ _ _ _ _ _ us hl => match us, hl with | [_], _ => rfl
  have Fm10 := fun_mk (st := sP 10) lm10 cm10 km10
  have bm10 := Fm10.binds (ps := ["self", "place"]) fun _ _ _ _ _ _ us hl => match us, hl with | [_, _], _ => rfl
  have Fm11 := fun_mk (st := sP 11) lm11 cm11 km11
  have bm11 := Fm11.binds (ps := ["self"]) fun _ _ _ _ _ _ us hl => match us, hl with | [_], _ => rfl
  have Fm12 := fun_mk (st := sP 12) lm12 cm12 km12
  have bm12 := Fm12.binds (ps := ["self"]) fun _ _ _ _ _ _ us hl => match us, hl with | [_], _ => rfl
  have Fm13 := fun_mk (st := sP 13) lm13 cm13 km13
  have bm13 := Fm13.binds (ps := ["self", "start", "step"]) fun _ _ _ _ _ _ us hl => match us, hl with | [_, _, _], _ => rfl
  let Tx0 : Tx P K mg := { blt := ⟨PySem.W.mg_none_of X G z_len, PySem.W.mg_none_of X G z_int, PySem.W.mg_none_of X G z_list, PySem.W.mg_none_of X G z_range⟩, mIsi := PySem.W.mg_none_of X G z_mIsi, mBool := PySem.W.mg_none_of X G z_mBool, mTuple := PySem.W.mg_none_of X G z_mTuple, mMax := PySem.W.mg_none_of X G z_mMax, mAll := PySem.W.mg_none_of X G z_mAll, mEnum := PySem.W.mg_none_of X G z_mEnum, mRev := PySem.W.mg_none_of X G z_mRev, mZip := PySem.W.mg_none_of X G z_mZip, mAbs := PySem.W.mg_none_of X G z_mAbs, mStr := PySem.W.mg_none_of X G z_mStr, mRepr := PySem.W.mg_none_of X G z_mRepr, mDm := PySem.W.mg_none_of X G z_mDm, mNi := PySem.W.mg_none_of X G z_mNi, mGcd := PySem.W.mg_of X G z_gcd, mLcm := PySem.W.mg_of X G z_lcm, B := B, mc := .type "type", cN := CN, cR := CR, cI := CI, cU := CU, base := ⟨PySem.W.mg_of X G aB, ⟨rB, sB⟩, fB, cB, tB⟩, eN := TN, nN1 := nN1, nN2 := nN2, fN := fEN, dN := _, iN := ⟨iN, tN, FEN⟩, bN := bEN, eR := TR, nR1 := nR1, fR := fER, dR := _, iR := ⟨iR, tR, FER⟩, bR := bER, eI := TI, eU := TU, is_whole := ⟨f8, _, F8, PySem.W.mg_of X G g8, b8⟩, is_pair := ⟨f9, _, F9, PySem.W.mg_of X G g9, b9⟩, is_ratio := ⟨f10, _, F10, PySem.W.mg_of X G g10, b10⟩, lowest := ⟨f11, _, F11, PySem.W.mg_of X G g11, b11⟩, told := ⟨f12, _, F12, PySem.W.mg_of X G g12, b12⟩, plus := ⟨f13, _, F13, PySem.W.mg_of X G g13, b13⟩, minus := ⟨f14, _, F14, PySem.W.mg_of X G g14, b14⟩, times := ⟨f15, _, F15, PySem.W.mg_of X G g15, b15⟩, share := ⟨f16, _, F16, PySem.W.mg_of X G g16, b16⟩, lower := ⟨f17, _, F17, PySem.W.mg_of X G g17, b17⟩, floor_of := ⟨f18, _, F18, PySem.W.mg_of X G g18, b18⟩, digits_of := ⟨f19, _, F19, PySem.W.mg_of X G g19, b19⟩, ratio_text := ⟨f20, _, F20, PySem.W.mg_of X G g20, b20⟩ }
  let Ty0 : Ty P K mg := { Tx0 with l_gcd := ⟨f40, _, F40, PySem.W.mg_of X G g40, b40⟩, l_q := ⟨f41, _, F41, PySem.W.mg_of X G g41, b41⟩, l_plus := ⟨f42, _, F42, PySem.W.mg_of X G g42, b42⟩, l_minus := ⟨f43, _, F43, PySem.W.mg_of X G g43, b43⟩, l_times := ⟨f44, _, F44, PySem.W.mg_of X G g44, b44⟩, l_share := ⟨f45, _, F45, PySem.W.mg_of X G g45, b45⟩, l_less := ⟨f46, _, F46, PySem.W.mg_of X G g46, b46⟩ }
  have nP7 : ∀ t ∈ tyNames, PySem.W.kitOne K (.type t) (.ref cP) = some false := by
    intro t ht
    simp only [tyNames, List.mem_cons, List.not_mem_nil, or_false] at ht
    rcases ht with rfl | rfl | rfl | rfl | rfl | rfl | rfl
    · exact pn_int
    · exact pn_bool
    · exact pn_str
    · exact pn_NoneType
    · exact pn_tuple
    · exact pn_list
    · exact pn_dict
  let Tz0 : Tz P K mg := { Ty0 with cP := cP, mgP := PySem.W.mg_of X G pG, clP := ⟨p1, p2, p3, p4⟩, nP := p5, iP := p6, gP := hn, tP := ht, oP := p7, notP := nP7, mkP := ⟨p8, mem0, ism0, p9⟩, p_init := ⟨fm0, _, Fm0, ⟨mem0, ism0, km0⟩, bm0⟩, p_eq := ⟨fm1, _, Fm1, ⟨mem1, ism1, km1⟩, bm1⟩, p_add := ⟨fm2, _, Fm2, ⟨mem2, ism2, km2⟩, bm2⟩, p_radd := ⟨fm3, _, Fm3, ⟨mem3, ism3, km3⟩, bm3⟩, p_sub := ⟨fm4, _, Fm4, ⟨mem4, ism4, km4⟩, bm4⟩, p_rsub := ⟨fm5, _, Fm5, ⟨mem5, ism5, km5⟩, bm5⟩, p_mul := ⟨fm6, _, Fm6, ⟨mem6, ism6, km6⟩, bm6⟩, p_rmul := ⟨fm7, _, Fm7, ⟨mem7, ism7, km7⟩, bm7⟩, p_neg := ⟨fm8, _, Fm8, ⟨mem8, ism8, km8⟩, bm8⟩, p_degree := ⟨fm9, _, Fm9, ⟨mem9, ism9, km9⟩, bm9⟩, p_at := ⟨fm10, _, Fm10, ⟨mem10, ism10, km10⟩, bm10⟩, p_slope := ⟨fm11, _, Fm11, ⟨mem11, ism11, km11⟩, bm11⟩, p_area := ⟨fm12, _, Fm12, ⟨mem12, ism12, km12⟩, bm12⟩, p_moved := ⟨fm13, _, Fm13, ⟨mem13, ism13, km13⟩, bm13⟩, is_row := ⟨f22, _, F22, PySem.W.mg_of X G g22, b22⟩, many_needed := ⟨f26, _, F26, PySem.W.mg_of X G g26, b26⟩, as_poly := ⟨f27, _, F27, PySem.W.mg_of X G g27, b27⟩, number_for := ⟨f28, _, F28, PySem.W.mg_of X G g28, b28⟩, added := ⟨f29, _, F29, PySem.W.mg_of X G g29, b29⟩, over_one := ⟨f23, _, F23, PySem.W.mg_of X G g23, b23⟩, multiplied := ⟨f30, _, F30, PySem.W.mg_of X G g30, b30⟩, divided := ⟨f31, _, F31, PySem.W.mg_of X G g31, b31⟩, lean := ⟨f32, _, F32, PySem.W.mg_of X G g32, b32⟩, lean_rest := ⟨f33, _, F33, PySem.W.mg_of X G g33, b33⟩, common := ⟨f34, _, F34, PySem.W.mg_of X G g34, b34⟩ }
  let Tw0 : Tw P K mg := { Tz0 with sfP := pa, nI1 := pi1, nI2 := pi2, nT1 := pt1, nT2 := pt2 }
  let Tv0 : Tv P K mg := { Tw0 with l_poly := ⟨f49, _, F49, PySem.W.mg_of X G g49, b49⟩, l_pplus := ⟨f50, _, F50, PySem.W.mg_of X G g50, b50⟩, l_pscaled := ⟨f51, _, F51, PySem.W.mg_of X G g51, b51⟩, l_pminus := ⟨f52, _, F52, PySem.W.mg_of X G g52, b52⟩, l_ptimes := ⟨f53, _, F53, PySem.W.mg_of X G g53, b53⟩, l_pat := ⟨f54, _, F54, PySem.W.mg_of X G g54, b54⟩, l_pslope := ⟨f55, _, F55, PySem.W.mg_of X G g55, b55⟩, l_pmoved := ⟨f56, _, F56, PySem.W.mg_of X G g56, b56⟩, l_pdivided := ⟨f57, _, F57, PySem.W.mg_of X G g57, b57⟩, l_pplain := ⟨f58, _, F58, PySem.W.mg_of X G g58, b58⟩, l_pshort := ⟨f59, _, F59, PySem.W.mg_of X G g59, b59⟩, l_pcommon := ⟨f60, _, F60, PySem.W.mg_of X G g60, b60⟩ }
  let Tu0 : Tu P K mg := { Tv0 with l_pen := ⟨f36, _, F36, PySem.W.mg_of X G g36, b36⟩, l_draw := ⟨f37, _, F37, PySem.W.mg_of X G g37, b37⟩, l_pick := ⟨f38, _, F38, PySem.W.mg_of X G g38, b38⟩, l_whole := ⟨f39, _, F39, PySem.W.mg_of X G g39, b39⟩, l_passed := ⟨f47, _, F47, PySem.W.mg_of X G g47, b47⟩, l_ratio := ⟨f48, _, F48, PySem.W.mg_of X G g48, b48⟩, l_made := ⟨f61, _, F61, PySem.W.mg_of X G g61, b61⟩, l_drawn := ⟨f62, _, F62, PySem.W.mg_of X G g62, b62⟩, l_why := ⟨f63, _, F63, PySem.W.mg_of X G g63, b63⟩, l_is := ⟨f64, _, F64, PySem.W.mg_of X G g64, b64⟩, l_any := ⟨f65, _, F65, PySem.W.mg_of X G g65, b65⟩, l_far := ⟨f66, _, F66, PySem.W.mg_of X G g66, b66⟩, l_some := ⟨f67, _, F67, PySem.W.mg_of X G g67, b67⟩, l_rr := ⟨f68, _, F68, PySem.W.mg_of X G g68, b68⟩, l_mr := ⟨f69, _, F69, PySem.W.mg_of X G g69, b69⟩, l_dr := ⟨f70, _, F70, PySem.W.mg_of X G g70, b70⟩, nbN := nbN, nbR := nbR, neRN := neRN }
  let Tt0 : Tt P K mg := { Tu0 with law := ⟨fa, _, F71, PySem.W.mg_of X G g71, b71⟩, c67 := ca67, c68 := ca68, c69 := ca69, c70 := ca70, P67 := P67, P68 := P68, P69 := P69, P70 := P70, f67 := funC_mk (st := top 68) l68 c68, f68 := funC_mk (st := top 69) l69 c69, f69 := funC_mk (st := top 70) l70 c70, f70 := funC_mk (st := top 71) l71 c71, nPP := nP }
  have Oadd : ∀ T, T = "int" ∨ T = "tuple" → OpT K .Add T := by
    rintro T (rfl | rfl)
    · exact ⟨_, _, foaddint, roaddint, fun z => absurd z (by decide)⟩
    · exact ⟨_, _, foaddtuple, roaddtuple, fun _ => soaddtuple⟩
  have Osub : ∀ T, T = "int" ∨ T = "tuple" → OpT K .Sub T := by
    rintro T (rfl | rfl)
    · exact ⟨_, _, fosubint, rosubint, fun z => absurd z (by decide)⟩
    · exact ⟨_, _, fosubtuple, rosubtuple, fun _ => sosubtuple⟩
  have Omul : ∀ T, T = "int" ∨ T = "tuple" → OpT K .Mult T := by
    rintro T (rfl | rfl)
    · exact ⟨_, _, fomulint, romulint, fun z => absurd z (by decide)⟩
    · exact ⟨_, _, fomultuple, romultuple, fun _ => somultuple⟩
  have O : OpsT K := ⟨Oadd, Osub, Omul⟩
  refine ⟨Tt0.law.fd, [(ca67, P67), (ca68, P68), (ca69, P69), (ca70, P70)], spLaw K Tt0.Tl, ?_, ?_, ?_, fun s u => .of_eq rfl, ?_, ?_⟩
  · intro p hp
    simp only [List.mem_cons, List.not_mem_nil, or_false] at hp
    rcases hp with rfl | rfl | rfl | rfl
    · exact ht67
    · exact ht68
    · exact ht69
    · exact ht70
  · intro p hp
    simp only [List.mem_cons, List.not_mem_nil, or_false] at hp
    rcases hp with rfl | rfl | rfl | rfl
    · exact nt67
    · exact nt68
    · exact nt69
    · exact nt70
  · intro p hp
    simp only [List.mem_cons, List.not_mem_nil, or_false] at hp
    rcases hp with rfl | rfl | rfl | rfl
    · exact PySem.W.codeHd_of_K X h67
    · exact PySem.W.codeHd_of_K X h68
    · exact PySem.W.codeHd_of_K X h69
    · exact PySem.W.codeHd_of_K X h70
  · intro H a ns hl hH hS
    refine ⟨a, ns, rfl, hS, ?_, fun _ => rfl⟩
    intro p hp
    have one : ∀ (P : Addr) (q : Str), H P = some (.tbl #[]) → LamX.TabS H P q := fun P q e => ⟨#[], e, by first | trivial | decide | simp [LamX.TriplesOk], fun pos cv z => by first | cases z | simp [LamX.codeAmong] at z⟩
    unfold Tt.Tl at hp
    simp only [List.mem_cons, List.not_mem_nil, or_false] at hp
    rcases hp with rfl | rfl | rfl | rfl
    · exact one _ _ (hH (ca67, P67) (by simp))
    · exact one _ _ (hH (ca68, P68) (by simp))
    · exact one _ _ (hH (ca69, P69) (by simp))
    · exact one _ _ (hH (ca70, P70) (by simp))
  · intro base _ _ tb
    exact ok_law Tt0 O (tb (ca67, P67) (by simp)) (tb (ca68, P68) (by simp)) (tb (ca69, P69) (by simp)) (tb (ca70, P70) (by simp))
theorem walk {l : PySem.W.OpenLaw} {q : Program} {loose : List Str} {XP : (Str → Option Value) → Heap → Prop} {YP : World → Heap → Prop} {d : DefRec} {K : Params → PySem.W.Frag} (hn : l.most = some 63) (hdf : d.params.defaults = [])
    (hY : ∀ (w : World) (h : Heap), YP w h → (K w.params).In h)
    (F : ∀ (w : World) (mg : Str → Option Value) (fa : Addr) (h : Heap), YP w h → (K w.params).In h → h.Ns mainGlobals mg → mg d.name = some (.ref fa) →
      ∃ (fd : FuncData) (cs : List (Addr × Addr)) (sp : Sp), (∀ p ∈ cs, h.get? p.2 = some { cls := .none, data := .fields #[] }) ∧ (∀ p ∈ cs, (K w.params).lookup p.2 = none) ∧ (∀ p ∈ cs, PySem.W.CodeHd h p.1 p.2) ∧
        (∀ (s : Shared) (u : Value), BindsTo s fd ⟨[u], []⟩ [("_law_script", u)]) ∧
        (∀ (H : Hp) (a : Addr) (ns : List Int), ns.length ≤ 63 → (∀ p ∈ cs, H p.2 = some (.tbl #[])) → SqL (K w.params) H a (ns.map V.int) → sp [.ref a] H (fun v _ => v = .bl true) fun _ _ _ => False) ∧
        ∀ base : Heap, (K w.params).In base → base.Ns mainGlobals mg → (∀ p ∈ cs, LamX.TabB base mg p.1 p.2) → FnG l.prog w (K w.params) mg base CX0 12 fa fd ["_law_script"] sp) :
    PySem.W.WalkO q loose XP YP l.row.toRowW d [] (fun f vs => PySem.call f vs) :=
  walk_GT (n := 63) (k := 12) (x := "_law_script") (CX := fun _ => CX0) hn (by decide) hdf ⟨rfl, by decide, by decide⟩ hY F fun _ _ _ _ _ z => z
end Kz

open PySem PySem.W PyProof.Rows
set_option maxRecDepth 100000 in
set_option maxHeartbeats 0 in
theorem PySem.Challenge.cw_toldmeans_k01_whole_ratios_and_polynomia_holds : PySem.Challenge.rw_toldmeans_k01_whole_ratios_and_polynomia.Holds := by
  w_on; o_law; k_head; (case hw => w_witness2)
  k_fill
  refine Kz.walk (l := PySem.Challenge.rw_toldmeans_k01_whole_ratios_and_polynomia) rfl rfl (fun w h Y => PySem.W.km_in_of Y) ?F
  case F =>
    intro w mg fa h YY KX G hmg
    refine' Kz.all_mk KX G hmg ?h_aB ?h_rB ?h_sB ?h_fB ?h_cB ?h_tB ?h_hn ?h_ht ?h_aCN ?h_xLN ?h_saN ?h_gaN ?h_ggN ?h_exN ?h_tyN ?h_kpN ?h_hdN ?h_haN ?h_hmN ?h_nN1 ?h_nN2 ?h_iN ?h_tN ?h_lEN ?h_cEN ?h_lcEN ?h_laEN ?h_h2EN ?h_hfEN ?h_owEN ?h_nxEN ?h_ivEN ?h_aCR ?h_xLR ?h_saR ?h_gaR ?h_ggR ?h_exR ?h_tyR ?h_kpR ?h_hdR ?h_haR ?h_hmR ?h_nR1 ?h_iR ?h_tR ?h_lER ?h_cER ?h_lcER ?h_laER ?h_h2ER ?h_hfER ?h_owER ?h_nxER ?h_ivER ?h_aCI ?h_xLI ?h_saI ?h_gaI ?h_ggI ?h_exI ?h_tyI ?h_kpI ?h_hdI ?h_haI ?h_hmI ?h_aCU ?h_xLU ?h_saU ?h_gaU ?h_ggU ?h_exU ?h_tyU ?h_kpU ?h_hdU ?h_haU ?h_hmU ?h_zs ?h_tp ?h_op ?h_z_len ?h_z_int ?h_z_list ?h_z_range ?h_z_mIsi ?h_z_mBool ?h_z_mTuple ?h_z_mMax ?h_z_mAll ?h_z_mEnum ?h_z_mRev ?h_z_mZip ?h_z_mAbs ?h_z_mStr ?h_z_mRepr ?h_z_mDm ?h_z_mNi ?h_z_gcd ?h_z_lcm ?h_g8 ?h_l8 ?h_c8 ?h_k8 ?h_g9 ?h_l9 ?h_c9 ?h_k9 ?h_g10 ?h_l10 ?h_c10 ?h_k10 ?h_g11 ?h_l11 ?h_c11 ?h_k11 ?h_g12 ?h_l12 ?h_c12 ?h_k12 ?h_g13 ?h_l13 ?h_c13 ?h_k13 ?h_g14 ?h_l14 ?h_c14 ?h_k14 ?h_g15 ?h_l15 ?h_c15 ?h_k15 ?h_g16 ?h_l16 ?h_c16 ?h_k16 ?h_g17 ?h_l17 ?h_c17 ?h_k17 ?h_g18 ?h_l18 ?h_c18 ?h_k18 ?h_g19 ?h_l19 ?h_c19 ?h_k19 ?h_g20 ?h_l20 ?h_c20 ?h_k20 ?h_g40 ?h_l40 ?h_c40 ?h_k40 ?h_g41 ?h_l41 ?h_c41 ?h_k41 ?h_g42 ?h_l42 ?h_c42 ?h_k42 ?h_g43 ?h_l43 ?h_c43 ?h_k43 ?h_g44 ?h_l44 ?h_c44 ?h_k44 ?h_g45 ?h_l45 ?h_c45 ?h_k45 ?h_g46 ?h_l46 ?h_c46 ?h_k46 ?h_g22 ?h_l22 ?h_c22 ?h_k22 ?h_g26 ?h_l26 ?h_c26 ?h_k26 ?h_g27 ?h_l27 ?h_c27 ?h_k27 ?h_g28 ?h_l28 ?h_c28 ?h_k28 ?h_g29 ?h_l29 ?h_c29 ?h_k29 ?h_g23 ?h_l23 ?h_c23 ?h_k23 ?h_g30 ?h_l30 ?h_c30 ?h_k30 ?h_g31 ?h_l31 ?h_c31 ?h_k31 ?h_g32 ?h_l32 ?h_c32 ?h_k32 ?h_g33 ?h_l33 ?h_c33 ?h_k33 ?h_g34 ?h_l34 ?h_c34 ?h_k34 ?h_g49 ?h_l49 ?h_c49 ?h_k49 ?h_g50 ?h_l50 ?h_c50 ?h_k50 ?h_g51 ?h_l51 ?h_c51 ?h_k51 ?h_g52 ?h_l52 ?h_c52 ?h_k52 ?h_g53 ?h_l53 ?h_c53 ?h_k53 ?h_g54 ?h_l54 ?h_c54 ?h_k54 ?h_g55 ?h_l55 ?h_c55 ?h_k55 ?h_g56 ?h_l56 ?h_c56 ?h_k56 ?h_g57 ?h_l57 ?h_c57 ?h_k57 ?h_g58 ?h_l58 ?h_c58 ?h_k58 ?h_g59 ?h_l59 ?h_c59 ?h_k59 ?h_g60 ?h_l60 ?h_c60 ?h_k60 ?h_g36 ?h_l36 ?h_c36 ?h_k36 ?h_g37 ?h_l37 ?h_c37 ?h_k37 ?h_g38 ?h_l38 ?h_c38 ?h_k38 ?h_g39 ?h_l39 ?h_c39 ?h_k39 ?h_g47 ?h_l47 ?h_c47 ?h_k47 ?h_g48 ?h_l48 ?h_c48 ?h_k48 ?h_g61 ?h_l61 ?h_c61 ?h_k61 ?h_g62 ?h_l62 ?h_c62 ?h_k62 ?h_g63 ?h_l63 ?h_c63 ?h_k63 ?h_g64 ?h_l64 ?h_c64 ?h_k64 ?h_g65 ?h_l65 ?h_c65 ?h_k65 ?h_g66 ?h_l66 ?h_c66 ?h_k66 ?h_g67 ?h_l67 ?h_c67 ?h_k67 ?h_g68 ?h_l68 ?h_c68 ?h_k68 ?h_g69 ?h_l69 ?h_c69 ?h_k69 ?h_g70 ?h_l70 ?h_c70 ?h_k70 ?h_g71 ?h_l71 ?h_c71 ?h_k71 ?h_pG ?h_p1 ?h_p2 ?h_p3 ?h_p4 ?h_p5 ?h_p6 ?h_p7 ?h_p8 ?h_p9 ?h_pa ?h_pn_int ?h_pn_bool ?h_pn_str ?h_pn_NoneType ?h_pn_tuple ?h_pn_list ?h_pn_dict ?h_pi1 ?h_pi2 ?h_pt1 ?h_pt2 ?h_mem0 ?h_ism0 ?h_lm0 ?h_cm0 ?h_km0 ?h_mem1 ?h_ism1 ?h_lm1 ?h_cm1 ?h_km1 ?h_mem2 ?h_ism2 ?h_lm2 ?h_cm2 ?h_km2 ?h_mem3 ?h_ism3 ?h_lm3 ?h_cm3 ?h_km3 ?h_mem4 ?h_ism4 ?h_lm4 ?h_cm4 ?h_km4 ?h_mem5 ?h_ism5 ?h_lm5 ?h_cm5 ?h_km5 ?h_mem6 ?h_ism6 ?h_lm6 ?h_cm6 ?h_km6 ?h_mem7 ?h_ism7 ?h_lm7 ?h_cm7 ?h_km7 ?h_mem8 ?h_ism8 ?h_lm8 ?h_cm8 ?h_km8 ?h_mem9 ?h_ism9 ?h_lm9 ?h_cm9 ?h_km9 ?h_mem10 ?h_ism10 ?h_lm10 ?h_cm10 ?h_km10 ?h_mem11 ?h_ism11 ?h_lm11 ?h_cm11 ?h_km11 ?h_mem12 ?h_ism12 ?h_lm12 ?h_cm12 ?h_km12 ?h_mem13 ?h_ism13 ?h_lm13 ?h_cm13 ?h_km13 ?h_foaddint ?h_roaddint ?h_foaddtuple ?h_roaddtuple ?h_soaddtuple ?h_fosubint ?h_rosubint ?h_fosubtuple ?h_rosubtuple ?h_sosubtuple ?h_fomulint ?h_romulint ?h_fomultuple ?h_romultuple ?h_somultuple ?h_v67 ?h_w67 ?h_h67 ?h_nt67 ?h_ht67 ?h_v68 ?h_w68 ?h_h68 ?h_nt68 ?h_ht68 ?h_v69 ?h_w69 ?h_h69 ?h_nt69 ?h_ht69 ?h_v70 ?h_w70 ?h_h70 ?h_nt70 ?h_ht70 ?h_nP ?h_nbN ?h_nbR ?h_neRN
    (case h_aB => k_is)
    (case h_rB => k_is)
    (case h_sB => k_is)
    (case h_fB => k_is)
    (case h_cB => k_is)
    (case h_tB => k_is)
    (case h_hn => k_is)
    (case h_ht => k_is)
    (case h_aCN => k_is)
    (case h_xLN => k_is)
    (case h_saN => k_is)
    (case h_gaN => k_is)
    (case h_ggN => k_is)
    (case h_exN => k_is)
    (case h_tyN => k_is)
    (case h_kpN => k_is)
    (case h_hdN => k_is)
    (case h_haN => k_is)
    (case h_hmN => k_is)
    (case h_nN1 => k_is)
    (case h_nN2 => k_is)
    (case h_iN => k_is)
    (case h_tN => k_is)
    (case h_lEN => k_is)
    (case h_cEN => k_is)
    (case h_lcEN => k_is)
    (case h_laEN => k_is)
    (case h_h2EN => rfl)
    (case h_hfEN => kernel_rfl)
    (case h_owEN => k_is)
    (case h_nxEN => ks_is)
    (case h_ivEN => k_is)
    (case h_aCR => k_is)
    (case h_xLR => k_is)
    (case h_saR => k_is)
    (case h_gaR => k_is)
    (case h_ggR => k_is)
    (case h_exR => k_is)
    (case h_tyR => k_is)
    (case h_kpR => k_is)
    (case h_hdR => k_is)
    (case h_haR => k_is)
    (case h_hmR => k_is)
    (case h_nR1 => k_is)
    (case h_iR => k_is)
    (case h_tR => k_is)
    (case h_lER => k_is)
    (case h_cER => k_is)
    (case h_lcER => k_is)
    (case h_laER => k_is)
    (case h_h2ER => rfl)
    (case h_hfER => kernel_rfl)
    (case h_owER => k_is)
    (case h_nxER => ks_is)
    (case h_ivER => k_is)
    (case h_aCI => k_is)
    (case h_xLI => k_is)
    (case h_saI => k_is)
    (case h_gaI => k_is)
    (case h_ggI => k_is)
    (case h_exI => k_is)
    (case h_tyI => k_is)
    (case h_kpI => k_is)
    (case h_hdI => k_is)
    (case h_haI => k_is)
    (case h_hmI => k_is)
    (case h_aCU => k_is)
    (case h_xLU => k_is)
    (case h_saU => k_is)
    (case h_gaU => k_is)
    (case h_ggU => k_is)
    (case h_exU => k_is)
    (case h_tyU => k_is)
    (case h_kpU => k_is)
    (case h_hdU => k_is)
    (case h_haU => k_is)
    (case h_hmU => k_is)
    (case h_zs => k_is)
    (case h_tp => kernel_rfl)
    (case h_op => k_is)
    (case h_z_len => k_is)
    (case h_z_int => k_is)
    (case h_z_list => k_is)
    (case h_z_range => k_is)
    (case h_z_mIsi => k_is)
    (case h_z_mBool => k_is)
    (case h_z_mTuple => k_is)
    (case h_z_mMax => k_is)
    (case h_z_mAll => k_is)
    (case h_z_mEnum => k_is)
    (case h_z_mRev => k_is)
    (case h_z_mZip => k_is)
    (case h_z_mAbs => k_is)
    (case h_z_mStr => k_is)
    (case h_z_mRepr => k_is)
    (case h_z_mDm => k_is)
    (case h_z_mNi => k_is)
    (case h_z_gcd => k_is)
    (case h_z_lcm => k_is)
    (case h_g8 => k_is)
    (case h_l8 => k_is)
    (case h_c8 => k_is)
    (case h_k8 => k_is)
    (case h_g9 => k_is)
    (case h_l9 => k_is)
    (case h_c9 => k_is)
    (case h_k9 => k_is)
    (case h_g10 => k_is)
    (case h_l10 => k_is)
    (case h_c10 => k_is)
    (case h_k10 => k_is)
    (case h_g11 => k_is)
    (case h_l11 => k_is)
    (case h_c11 => k_is)
    (case h_k11 => k_is)
    (case h_g12 => k_is)
    (case h_l12 => k_is)
    (case h_c12 => k_is)
    (case h_k12 => k_is)
    (case h_g13 => k_is)
    (case h_l13 => k_is)
    (case h_c13 => k_is)
    (case h_k13 => k_is)
    (case h_g14 => k_is)
    (case h_l14 => k_is)
    (case h_c14 => k_is)
    (case h_k14 => k_is)
    (case h_g15 => k_is)
    (case h_l15 => k_is)
    (case h_c15 => k_is)
    (case h_k15 => k_is)
    (case h_g16 => k_is)
    (case h_l16 => k_is)
    (case h_c16 => k_is)
    (case h_k16 => k_is)
    (case h_g17 => k_is)
    (case h_l17 => k_is)
    (case h_c17 => k_is)
    (case h_k17 => k_is)
    (case h_g18 => k_is)
    (case h_l18 => k_is)
    (case h_c18 => k_is)
    (case h_k18 => k_is)
    (case h_g19 => k_is)
    (case h_l19 => k_is)
    (case h_c19 => k_is)
    (case h_k19 => k_is)
    (case h_g20 => k_is)
    (case h_l20 => k_is)
    (case h_c20 => k_is)
    (case h_k20 => k_is)
    (case h_g40 => k_is)
    (case h_l40 => k_is)
    (case h_c40 => k_is)
    (case h_k40 => k_is)
    (case h_g41 => k_is)
    (case h_l41 => k_is)
    (case h_c41 => k_is)
    (case h_k41 => k_is)
    (case h_g42 => k_is)
    (case h_l42 => k_is)
    (case h_c42 => k_is)
    (case h_k42 => k_is)
    (case h_g43 => k_is)
    (case h_l43 => k_is)
    (case h_c43 => k_is)
    (case h_k43 => k_is)
    (case h_g44 => k_is)
    (case h_l44 => k_is)
    (case h_c44 => k_is)
    (case h_k44 => k_is)
    (case h_g45 => k_is)
    (case h_l45 => k_is)
    (case h_c45 => k_is)
    (case h_k45 => k_is)
    (case h_g46 => k_is)
    (case h_l46 => k_is)
    (case h_c46 => k_is)
    (case h_k46 => k_is)
    (case h_g22 => k_is)
    (case h_l22 => k_is)
    (case h_c22 => k_is)
    (case h_k22 => k_is)
    (case h_g26 => k_is)
    (case h_l26 => k_is)
    (case h_c26 => k_is)
    (case h_k26 => k_is)
    (case h_g27 => k_is)
    (case h_l27 => k_is)
    (case h_c27 => k_is)
    (case h_k27 => k_is)
    (case h_g28 => k_is)
    (case h_l28 => k_is)
    (case h_c28 => k_is)
    (case h_k28 => k_is)
    (case h_g29 => k_is)
    (case h_l29 => k_is)
    (case h_c29 => k_is)
    (case h_k29 => k_is)
    (case h_g23 => k_is)
    (case h_l23 => k_is)
    (case h_c23 => k_is)
    (case h_k23 => k_is)
    (case h_g30 => k_is)
    (case h_l30 => k_is)
    (case h_c30 => k_is)
    (case h_k30 => k_is)
    (case h_g31 => k_is)
    (case h_l31 => k_is)
    (case h_c31 => k_is)
    (case h_k31 => k_is)
    (case h_g32 => k_is)
    (case h_l32 => k_is)
    (case h_c32 => k_is)
    (case h_k32 => k_is)
    (case h_g33 => k_is)
    (case h_l33 => k_is)
    (case h_c33 => k_is)
    (case h_k33 => k_is)
    (case h_g34 => k_is)
    (case h_l34 => k_is)
    (case h_c34 => k_is)
    (case h_k34 => k_is)
    (case h_g49 => k_is)
    (case h_l49 => k_is)
    (case h_c49 => k_is)
    (case h_k49 => k_is)
    (case h_g50 => k_is)
    (case h_l50 => k_is)
    (case h_c50 => k_is)
    (case h_k50 => k_is)
    (case h_g51 => k_is)
    (case h_l51 => k_is)
    (case h_c51 => k_is)
    (case h_k51 => k_is)
    (case h_g52 => k_is)
    (case h_l52 => k_is)
    (case h_c52 => k_is)
    (case h_k52 => k_is)
    (case h_g53 => k_is)
    (case h_l53 => k_is)
    (case h_c53 => k_is)
    (case h_k53 => k_is)
    (case h_g54 => k_is)
    (case h_l54 => k_is)
    (case h_c54 => k_is)
    (case h_k54 => k_is)
    (case h_g55 => k_is)
    (case h_l55 => k_is)
    (case h_c55 => k_is)
    (case h_k55 => k_is)
    (case h_g56 => k_is)
    (case h_l56 => k_is)
    (case h_c56 => k_is)
    (case h_k56 => k_is)
    (case h_g57 => k_is)
    (case h_l57 => k_is)
    (case h_c57 => k_is)
    (case h_k57 => k_is)
    (case h_g58 => k_is)
    (case h_l58 => k_is)
    (case h_c58 => k_is)
    (case h_k58 => k_is)
    (case h_g59 => k_is)
    (case h_l59 => k_is)
    (case h_c59 => k_is)
    (case h_k59 => k_is)
    (case h_g60 => k_is)
    (case h_l60 => k_is)
    (case h_c60 => k_is)
    (case h_k60 => k_is)
    (case h_g36 => k_is)
    (case h_l36 => k_is)
    (case h_c36 => k_is)
    (case h_k36 => k_is)
    (case h_g37 => k_is)
    (case h_l37 => k_is)
    (case h_c37 => k_is)
    (case h_k37 => k_is)
    (case h_g38 => k_is)
    (case h_l38 => k_is)
    (case h_c38 => k_is)
    (case h_k38 => k_is)
    (case h_g39 => k_is)
    (case h_l39 => k_is)
    (case h_c39 => k_is)
    (case h_k39 => k_is)
    (case h_g47 => k_is)
    (case h_l47 => k_is)
    (case h_c47 => k_is)
    (case h_k47 => k_is)
    (case h_g48 => k_is)
    (case h_l48 => k_is)
    (case h_c48 => k_is)
    (case h_k48 => k_is)
    (case h_g61 => k_is)
    (case h_l61 => k_is)
    (case h_c61 => k_is)
    (case h_k61 => k_is)
    (case h_g62 => k_is)
    (case h_l62 => k_is)
    (case h_c62 => k_is)
    (case h_k62 => k_is)
    (case h_g63 => k_is)
    (case h_l63 => k_is)
    (case h_c63 => k_is)
    (case h_k63 => k_is)
    (case h_g64 => k_is)
    (case h_l64 => k_is)
    (case h_c64 => k_is)
    (case h_k64 => k_is)
    (case h_g65 => k_is)
    (case h_l65 => k_is)
    (case h_c65 => k_is)
    (case h_k65 => k_is)
    (case h_g66 => k_is)
    (case h_l66 => k_is)
    (case h_c66 => k_is)
    (case h_k66 => k_is)
    (case h_g67 => k_is)
    (case h_l67 => k_is)
    (case h_c67 => k_is)
    (case h_k67 => k_is)
    (case h_g68 => k_is)
    (case h_l68 => k_is)
    (case h_c68 => k_is)
    (case h_k68 => k_is)
    (case h_g69 => k_is)
    (case h_l69 => k_is)
    (case h_c69 => k_is)
    (case h_k69 => k_is)
    (case h_g70 => k_is)
    (case h_l70 => k_is)
    (case h_c70 => k_is)
    (case h_k70 => k_is)
    (case h_g71 => k_is)
    (case h_l71 => k_is)
    (case h_c71 => k_is)
    (case h_k71 => k_is)
    (case h_pG => k_is)
    (case h_p1 => k_is)
    (case h_p2 => k_is)
    (case h_p3 => k_is)
    (case h_p4 => k_is)
    (case h_p5 => k_is)
    (case h_p6 => k_is)
    (case h_p7 => k_is)
    (case h_p8 => k_is)
    (case h_p9 => k_is)
    (case h_pa => k_is)
    (case h_pn_int => kernel_rfl)
    (case h_pn_bool => kernel_rfl)
    (case h_pn_str => kernel_rfl)
    (case h_pn_NoneType => kernel_rfl)
    (case h_pn_tuple => kernel_rfl)
    (case h_pn_list => kernel_rfl)
    (case h_pn_dict => kernel_rfl)
    (case h_pi1 => k_is)
    (case h_pi2 => k_is)
    (case h_pt1 => k_is)
    (case h_pt2 => k_is)
    (case h_mem0 => k_is)
    (case h_ism0 => k_is)
    (case h_lm0 => k_is)
    (case h_cm0 => k_is)
    (case h_km0 => k_is)
    (case h_mem1 => k_is)
    (case h_ism1 => k_is)
    (case h_lm1 => k_is)
    (case h_cm1 => k_is)
    (case h_km1 => k_is)
    (case h_mem2 => k_is)
    (case h_ism2 => k_is)
    (case h_lm2 => k_is)
    (case h_cm2 => k_is)
    (case h_km2 => k_is)
    (case h_mem3 => k_is)
    (case h_ism3 => k_is)
    (case h_lm3 => k_is)
    (case h_cm3 => k_is)
    (case h_km3 => k_is)
    (case h_mem4 => k_is)
    (case h_ism4 => k_is)
    (case h_lm4 => k_is)
    (case h_cm4 => k_is)
    (case h_km4 => k_is)
    (case h_mem5 => k_is)
    (case h_ism5 => k_is)
    (case h_lm5 => k_is)
    (case h_cm5 => k_is)
    (case h_km5 => k_is)
    (case h_mem6 => k_is)
    (case h_ism6 => k_is)
    (case h_lm6 => k_is)
    (case h_cm6 => k_is)
    (case h_km6 => k_is)
    (case h_mem7 => k_is)
    (case h_ism7 => k_is)
    (case h_lm7 => k_is)
    (case h_cm7 => k_is)
    (case h_km7 => k_is)
    (case h_mem8 => k_is)
    (case h_ism8 => k_is)
    (case h_lm8 => k_is)
    (case h_cm8 => k_is)
    (case h_km8 => k_is)
    (case h_mem9 => k_is)
    (case h_ism9 => k_is)
    (case h_lm9 => k_is)
    (case h_cm9 => k_is)
    (case h_km9 => k_is)
    (case h_mem10 => k_is)
    (case h_ism10 => k_is)
    (case h_lm10 => k_is)
    (case h_cm10 => k_is)
    (case h_km10 => k_is)
    (case h_mem11 => k_is)
    (case h_ism11 => k_is)
    (case h_lm11 => k_is)
    (case h_cm11 => k_is)
    (case h_km11 => k_is)
    (case h_mem12 => k_is)
    (case h_ism12 => k_is)
    (case h_lm12 => k_is)
    (case h_cm12 => k_is)
    (case h_km12 => k_is)
    (case h_mem13 => k_is)
    (case h_ism13 => k_is)
    (case h_lm13 => k_is)
    (case h_cm13 => k_is)
    (case h_km13 => k_is)
    (case h_foaddint => k_is)
    (case h_roaddint => k_is)
    (case h_foaddtuple => k_is)
    (case h_roaddtuple => k_is)
    (case h_soaddtuple => decide +kernel)
    (case h_fosubint => k_is)
    (case h_rosubint => k_is)
    (case h_fosubtuple => k_is)
    (case h_rosubtuple => k_is)
    (case h_sosubtuple => decide +kernel)
    (case h_fomulint => k_is)
    (case h_romulint => k_is)
    (case h_fomultuple => k_is)
    (case h_romultuple => k_is)
    (case h_somultuple => decide +kernel)
    (case h_v67 => k_is)
    (case h_w67 => rfl)
    (case h_h67 => kernel_rfl)
    (case h_nt67 => kernel_rfl)
    (case h_ht67 => exact PySem.W.km_tabs_of YY _ (by decide))
    (case h_v68 => k_is)
    (case h_w68 => rfl)
    (case h_h68 => kernel_rfl)
    (case h_nt68 => kernel_rfl)
    (case h_ht68 => exact PySem.W.km_tabs_of YY _ (by decide))
    (case h_v69 => k_is)
    (case h_w69 => rfl)
    (case h_h69 => kernel_rfl)
    (case h_nt69 => kernel_rfl)
    (case h_ht69 => exact PySem.W.km_tabs_of YY _ (by decide))
    (case h_v70 => k_is)
    (case h_w70 => rfl)
    (case h_h70 => kernel_rfl)
    (case h_nt70 => kernel_rfl)
    (case h_ht70 => exact PySem.W.km_tabs_of YY _ (by decide))
    (case h_nP => decide)
    (case h_nbN => decide)
    (case h_nbR => decide)
    (case h_neRN => decide)
