import PyProof.Rows.All
import Wide.All
import OpenK.AllK
import Wide.FinOn
import HandS.ForMost
import HandS.Zip
import HandS.ExcInit
import HandS.ExcValue
import HandS.ExcField
import HandS.ExcIs
import HandS.ClsMeth
import KE.KExcIs
import HandS.Codes
import KE.KExcSuper
import HandS.Gcd
import HandS.Wide
import HandS.IsInst
import HandS.Flow
import HandS.ExcOwn
import HandS.WordsExc
import HandS.Iter
import HandS.Rev
import HandS.Comp
import HandS.Strs
import HandS.StrMore
import HandS.TryMany
import HandS.Lambda
import PySem.Challenge.RW_toldmeans_k10_shares_refused
import HandS.Head3
import HandS.HeadHook2
import HandS.Style
import KE.KOpsOwn
import KE.GoesEnum
import HandS.TupLe
import HandS.Deep
import HandS.OwnEq
import HandS.Defaults
import KE.GoesMore
import HandS.TupAny
import HandS.WideBits
import HandS.MakeKw
import HandS.More
import HandS.EndTab
import KE.RegKSuper
set_option Elab.async false
set_option linter.all false
set_option maxRecDepth 100000
set_option maxHeartbeats 4000000
/-! Rules of our own over the hand layer: errors as values, repr of data, lists that stand apart from the table of modules. -/
namespace Kz
open PySem PySem.Spec PyProof.Rows L2

/-! ### an own error class, called for a value -/
section
variable {X : Cx} {e : Expr} {es : List Expr} {ta : TA} {p pos p1 p2 : Pos}

end

/-! ### new lists that are not the table of modules -/
section
variable {X : Cx} {es : List Expr} {t : TA} {pos : Pos}
end

/-! ### repr of data: None, bools, ints, texts, lists, tuples, dicts by int and text keys -/
def keyD : Key → PyData
  | .inl i => .int i
  | .inr x => .str x
mutual
inductive Dq (K : PySem.W.Frag) (H : Hp) : V → PyData → Prop
  | non : Dq K H .non .none
  | bl (b : Bool) : Dq K H (.bl b) (.bool b)
  | int (i : Int) : Dq K H (.int i) (.int i)
  | str (x : Str) : Dq K H (.str x) (.str x)
  | lst {a : Addr} {xs : List V} {ds : List PyData} : H a = some (.lst xs) → a ≠ sysModules → DqAll K H xs ds → Dq K H (.ref a) (.list ds)
  | tup {a : Addr} {xs : List V} {ds : List PyData} : SqT K H a xs → DqAll K H xs ds → Dq K H (.ref a) (.tuple ds)
  | dic {a : Addr} {kvs : List (Key × V)} {ds : List PyData} : H a = some (.dK kvs) → DqAll K H (kvs.map (·.2)) ds → Dq K H (.ref a) (.dict ((kvs.map fun kv => keyD kv.1).zip ds))
inductive DqAll (K : PySem.W.Frag) (H : Hp) : List V → List PyData → Prop
  | nil : DqAll K H [] []
  | cons {v : V} {vs : List V} {d : PyData} {ds : List PyData} : Dq K H v d → DqAll K H vs ds → DqAll K H (v :: vs) (d :: ds)
end
theorem DqAll.length {K : PySem.W.Frag} {H : Hp} : ∀ {vs : List V} {ds : List PyData}, DqAll K H vs ds → vs.length = ds.length
  | _, _, .nil => rfl
  | _, _, .cons _ t => congrArg (· + 1) t.length
section
variable {X : Cx} {pins : List (Addr × Obj)} {σ : L2.St} {H : Hp} {s : Shared}
theorem reads_keys {P : Program} {w : World} {h : Heap} : ∀ {es : List DictEntry} {vs : List (Key × Value)}, PySem.Pairs (mixKind P w) es vs → ReadsAll h (es.map (·.key)) (vs.map fun kv => keyD kv.1) []
  | _, _, .nil => .nil
  | _, _, .cons (e := e) (kv := kv) hk hv t => by
    have rest := reads_keys (h := h) t
    have one : Reads h e.key (keyD kv.1) [] := by
      rcases keyIs_shape (show keyIs kv.1 e.key = true from hk) with ⟨i, t, e1, e2⟩ | ⟨x, t, e1, e2⟩
      · rw [e1, e2]
        exact .int i t
      · rw [e1, e2]
        exact .str x t
    exact .cons one rest
theorem vals_entries {P : Program} {w : World} : ∀ {es : List DictEntry} {vs : List (Key × Value)}, PySem.Pairs (mixKind P w) es vs → es.map (·.val) = vs.map (·.2)
  | _, _, .nil => rfl
  | _, _, .cons hk hv t => by
    rw [List.map_cons, List.map_cons, vals_entries t, hv]
theorem kv_vals : ∀ {kvs : List (Key × V)} {vs : List (Key × Value)}, KV kvs vs → Vals (kvs.map (·.2)) (vs.map (·.2))
  | _, _, .nil => .nil
  | _, _, .cons h t => .cons h.2 (kv_vals t)
theorem map_fst_zip' : ∀ {α β : Type} (l : List α) (m : List β), l.length = m.length → (l.zip m).map (·.1) = l
  | _, _, [], _, _ => rfl
  | _, _, a :: l, [], h => by cases h
  | _, _, a :: l, b :: m, h => by
    rw [List.zip_cons_cons, List.map_cons, map_fst_zip' l m (Nat.succ.inj h)]
theorem map_snd_zip' : ∀ {α β : Type} (l : List α) (m : List β), l.length = m.length → (l.zip m).map (·.2) = m
  | _, _, [], [], _ => rfl
  | _, _, [], _ :: _, h => by cases h
  | _, _, a :: l, [], h => by cases h
  | _, _, a :: l, b :: m, h => by
    rw [List.zip_cons_cons, List.map_cons, map_snd_zip' l m (Nat.succ.inj h)]
mutual
theorem Dq.reads (I : Inv X pins σ H s) : ∀ {v : V} {d : PyData} {u : Value}, Dq X.K H v d → RelV v u → ∃ as, Reads s.heap u d as ∧ sysModules ∉ as
  | _, _, _, .non, r => by
    cases r
    exact ⟨_, .none, by simp⟩
  | _, _, _, .bl b, r => by
    cases r
    exact ⟨_, .bool b, by simp⟩
  | _, _, _, .int i, r => by
    obtain ⟨t, rfl⟩ := r
    exact ⟨_, .int i t, by simp⟩
  | _, _, _, .str x, r => by
    obtain ⟨t, rfl⟩ := r
    exact ⟨_, .str x t, by simp⟩
  | _, _, _, .lst (a := a) hs hne ha, r => by
    cases r
    obtain ⟨_, its, n, rv, ho⟩ := (show ObjOk X.prog X.w H s.heap a (.lst _) from I.hok a _ hs)
    obtain ⟨as, hr, hn⟩ := DqAll.reads I ha rv
    refine ⟨_, .list ho rfl rfl hr, ?_⟩
    intro m
    rcases List.mem_cons.mp m with m | m
    · exact hne m.symm
    · exact hn m
  | _, _, _, .tup hs ha, r => by
    cases r
    obtain ⟨its, rv, ⟨o, ho, hc, n, hd⟩, _⟩ := I.tuple hs
    obtain ⟨as, hr, hn⟩ := DqAll.reads I ha rv
    exact ⟨_, .tuple ho hc hd hr, hn⟩
  | _, _, _, .dic (a := a) (kvs := kvs) (ds := ds) hs ha, r => by
    cases r
    obtain ⟨_, hne, vs, rel, o, es, ep, ho, hx, hd, _, hp, _⟩ := dk_of I.hok hs
    obtain ⟨bs, hr, hn⟩ := DqAll.reads I ha (kv_vals rel)
    have lk : (kvs.map fun kv => keyD kv.1).length = ds.length := by
      rw [List.length_map, ← ha.length, List.length_map]
    have ek : (vs.map fun kv => keyD kv.1) = kvs.map fun kv => keyD kv.1 := by
      have := rel.keys
      have c := congrArg (List.map keyD) this
      rw [List.map_map, List.map_map] at c
      exact c.symm
    have k1 : ReadsAll s.heap (es.toList.map (·.key)) (((kvs.map fun kv => keyD kv.1).zip ds).map (·.1)) [] := by
      rw [map_fst_zip' _ _ lk, ← ek]
      exact reads_keys hp
    have k2 : ReadsAll s.heap (es.toList.map (·.val)) (((kvs.map fun kv => keyD kv.1).zip ds).map (·.2)) bs := by
      rw [map_snd_zip' _ _ lk, vals_entries hp]
      exact hr
    refine ⟨_, .dict ho hx.1 hd k1 k2, ?_⟩
    intro m
    rcases List.mem_append.mp m with m | m
    · rcases List.mem_cons.mp m with m | m
      · rw [← m] at hne
        simp at hne
      · cases m
    · exact hn m
theorem DqAll.reads (I : Inv X pins σ H s) : ∀ {vs : List V} {ds : List PyData} {us : List Value}, DqAll X.K H vs ds → Vals vs us → ∃ as, ReadsAll s.heap us ds as ∧ sysModules ∉ as
  | _, _, _, .nil, r => by
    cases r
    exact ⟨_, .nil, by simp⟩
  | _, _, _, .cons h1 h2, r => by
    cases r with
    | cons r1 r2 =>
      obtain ⟨as, q1, n1⟩ := Dq.reads I h1 r1
      obtain ⟨bs, q2, n2⟩ := DqAll.reads I h2 r2
      exact ⟨_, .cons q1 q2, fun m => (List.mem_append.mp m).elim n1 n2⟩
end
end
/-- repr(x), x data at an address -/
def rRepr (K : PySem.W.Frag) : List V → Hp → VK → Prop := fun xs H Q => ∃ (a : Addr) (d : PyData), xs = [.ref a] ∧ Dq K H (.ref a) d ∧ d.showable = true ∧ d.depth ≤ 60 ∧ d.shown.length ≤ sizeLine ∧ Q (.str d.shown) H
theorem call_repr {X : Cx} (hg : X.A.guards = some []) (hu : X.A.units + 64 < cLine) : CallR X (.builtin "repr") (rRepr X.K) := by
  intro pins s σ H xs us Q I r h
  obtain ⟨a, d, rfl, hd, hs, hdp, hz, q⟩ := h
  obtain ⟨u, rfl, ru⟩ := vals1 r
  cases (show u = Value.ref a from ru)
  obtain ⟨as, rd, hn⟩ := Dq.reads I hd rfl
  refine repr_of_reads' rd hs (fun _ => hn) hg (by omega) (fun _ _ e => e) (fun h' t tk hk => ?_) hz
  exact ⟨.str d.shown, H, I.kept (t' := tk) hk, ⟨t, rfl⟩, q⟩
end Kz
set_option linter.all false
set_option maxRecDepth 100000
set_option maxHeartbeats 4000000
/-! Defs whose bodies ask for repr: the promise holds wherever no repr is under way around the call. -/
namespace Kz
open PySem PySem.Spec PyProof.Rows L2
section
variable {X : Cx}
end

/-- FnOk where no repr is under way -/
structure FnG (P : Program) (w : World) (K : PySem.W.Frag) (mg : Str → Option Value) (base : Heap) (CX : CXT) (k : Nat) (f : Addr) (fd : FuncData) (ps : List Str) (sp : Sp) : Prop where
  many : ∀ vs H Q E, sp vs H Q E → vs.length = ps.length
  go : ∀ (A : Around), A.guards = some [] → Room k A → ∀ (outer : List Env) (s : Shared) (H : Hp), Env0 P w K mg base A outer s H → ∀ (args : Args) (us : List Value) (vs : List V),
    BindsTo s fd args (ps.zip us) → Vals vs us → ∀ (Q : VK) (E : XK), sp vs H Q E → codeAny (model P w) A (.call (.ref f) args) (CR CX outer P w H s Q E) s
theorem FnG.of {P : Program} {w : World} {K : PySem.W.Frag} {mg : Str → Option Value} {base : Heap} {CX : CXT} {k : Nat} {f : Addr} {fd : FuncData} {ps : List Str} {sp : Sp} (F : FnOk P w K mg base CX k f fd ps sp) :
    FnG P w K mg base CX k f fd ps sp := ⟨F.len, fun A _ hr outer s H e0 args us vs hb r Q E h => F.run A outer s H args us vs Q E hr e0 hb r h⟩

section
variable {P : Program} {w : World} {K : PySem.W.Frag} {mg : Str → Option Value} {base : Heap} {CX : CXT} {k : Nat} {f : Addr} {x qual : Str} {st : Stmt} {fd : FuncData} {N ps : List Str} {sp : Sp}
/-- a def by its body -/
theorem fnG_of (F : Fun K x qual st f fd) (S : FnScope N ps (defScope st)) (many : ∀ vs H Q E, sp vs H Q E → vs.length = ps.length)
    (body : ∀ (cdv : Value) (A : Around) (outer : List Env) (s : Shared) (H : Hp) (vs : List V) (Q : VK) (E : XK), A.guards = some [] → Room k (A.deeper (envOfC qual (defScope st) s.heap.objs.size f cdv)) → sp vs H Q E →
      ∃ t, PSs (cxOf CX P w K mg base N qual (defScope st) f cdv A outer s H E) (defBody st) t ∧ t { nx := fun _ H' => Q .non H', rt := Q } (start N vs) H) :
    FnG P w K mg base CX (k + 1) f fd ps sp := by
  obtain ⟨oc, od, kV, doc, pm, an, cdv, ct, osl, rfl, lk, hcd⟩ := F.ex
  constructor
  · exact many
  intro A hg room outer s H e0 args us vs hb r Q E want
  have KX : K.In s.heap := e0.mod.kin.keeps fun b o z => (e0.bs b o z).1
  have lim : s.heap.NoLimit := e0.mod.nolimit.keeps fun b o z => (e0.bs b o z).1
  refine codeAny_call_function room.depth (KX _ _ lk) rfl S.co S.gen rfl (PySem.W.codeRec_of KX hcd) (hb _ _ _ _ ?_)
  refine wpAny_newFunctionEnv_cells S.kind ?_ ?_
  · rintro ⟨n, v⟩ mem
    cases S.par n (List.of_mem_zip mem).1 with
    | inl q => exact .inl q
    | inr q => exact .inr ⟨q, PySem.W.cellsFrom_some _ _ _ (.inl q)⟩
  rintro env rfl s1 xs
  refine ⟨lim.keeps xs.toInCall.keep, codeAny_func ?_⟩
  obtain ⟨t, ht, hq⟩ := body cdv A outer s H vs Q E hg (room.deeper _) want
  have I := inv_start (CX := CX) (P := P) (mg := mg) (E := E) S room.hd e0 (many _ _ _ _ want) r xs
  refine wpAny_mono (ht.run [] s1 (start N vs) H _ I hq) ?_ fun _ _ z => z
  intro fl s' hs
  have fin : ∀ {σ' : L2.St} {H' : Hp} {v : V} {u : Value}, Inv (cxOf CX P w K mg base N qual (defScope st) f cdv A outer s H E) [] σ' H' s' → RelV v u → Q v H' → CE outer P w H s Q u s' := by
    intro σ' H' v u J rv q
    exact ⟨v, H', J.os, J.bare, J.base, J.hok, rv, q⟩
  rcases fl with _ | _ | _ | u
  · obtain ⟨σ', H', J, q⟩ := hs
    exact fin (v := V.non) (u := Value.none) J rfl q
  · obtain ⟨_, _, _, q⟩ := hs
    exact q.elim
  · obtain ⟨_, _, _, q⟩ := hs
    exact q.elim
  · obtain ⟨v, σ', H', J, rv, q⟩ := hs
    exact fin J rv q
end

section
variable {X : Cx} {CX : CXT} {k : Nat} {f : Addr} {fd : FuncData} {ps : List Str} {sp : Sp} {E : XK} {x : Str} {p pos : Pos} {e : Expr} {es : List Expr} {t : TA}
theorem run_fnG {pins : List (Addr × Obj)} {σ : L2.St} {H : Hp} {s : Shared} {Q : VK} {us : List Value} {vs : List V} (F : FnG X.prog X.w X.K X.mg X.base CX k f fd ps sp) (hg : X.A.guards = some []) (hr : Room k X.A)
    (hb : Binds X.K fd ps []) (hx : Passes CX X E) (I : Inv X pins σ H s) (r : Vals vs us) (h : sp vs H Q E) : wpAny (model X.prog X.w) X.A (call (.ref f) us) (EP X pins σ Q) X.xe s := by
  have many : us.length = ps.length := by
    rw [← r.length]
    exact F.many _ _ _ _ h
  have bnd := hb s us I.kIn (by rw [List.append_nil]; exact many)
  rw [List.append_nil] at bnd
  refine wpAny_call (codeAny_mono (F.go X.A hg hr X.stack s H I.env0 ⟨us, []⟩ us vs bnd r Q E h) ?_)
  intro res s' hq
  rcases res with er | fl
  · exact hx pins σ H s er s' I hq
  · rcases fl with _ | _ | _ | u
    all_goals first | exact I.after hq | exact False.elim hq
theorem pe_callG (F : FnG X.prog X.w X.K X.mg X.base CX k f fd ps sp) (hgu : X.A.guards = some []) (hr : Room k X.A) (hg : Gl X x) (hm : X.mg x = some (.ref f)) (hk : PySem.W.keepIn X.K (.ref f) = true)
    (hb : Binds X.K fd ps []) (hx : Passes CX X E) (ha : PA X (e :: es) t) (hdb : (x == ("__debug__" : Str)) = false := by decide)
    (st : starEach (e :: es) X.env = (false, eval e X.env) :: starEach es X.env := by rfl) (nost : (backTo pos (starEach es X.env)).any (·.1) = false := by rfl) :
    PE X (.Call (.Name x p) (e :: es) [] pos) (tCall sp [] E t) := by
  constructor
  intro pins s σ H Q I h
  refine wpAny_Call_Name_kw (ld_glob I hg hm ?_ hdb)
  refine PySem.W.callWith_K (h₀ := X.base) I.ok.mod.kin hk ?_ st nost
  refine thn (ha.run pos pins s σ H _ I h) ?_
  rintro us s1 ⟨vs, H1, I1, r, q⟩
  rw [List.append_nil] at q
  exact ⟨I1.kIn, run_fnG F hgu hr hb hx I1 r q⟩
end

/-! ### the end of a law whose def asks for repr -/
/-- the script, tracked by what it is -/
def scrH (a : Addr) (o : Obj) (xs : List V) : Hp := fun b => if b = a then some (.frz o (.lst xs)) else none
theorem scrH_at {a : Addr} {o : Obj} {xs : List V} : scrH a o xs a = some (.frz o (.lst xs)) := if_pos rfl
theorem scrH_off {a b : Addr} {o : Obj} {xs : List V} (h : b ≠ a) : scrH a o xs b = none := if_neg h
end Kz
set_option linter.all false
set_option maxRecDepth 100000
set_option maxHeartbeats 4000000
/-! The pen that a law draws from: a dict of five entries. -/
namespace Kz
open PySem PySem.Spec PyProof.Rows L2
def penK (c : Addr) (i d n f : Int) : List (Key × V) := [(.inr "cells", .ref c), (.inr "at", .int i), (.inr "digits", .int d), (.inr "count", .int n), (.inr "fold", .int f)]
theorem q01 : ¬ (("cells" : Str) = "at") := by decide +kernel
theorem q02 : ¬ (("cells" : Str) = "digits") := by decide +kernel
theorem q03 : ¬ (("cells" : Str) = "count") := by decide +kernel
theorem q04 : ¬ (("cells" : Str) = "fold") := by decide +kernel
theorem q12 : ¬ (("at" : Str) = "digits") := by decide +kernel
theorem q13 : ¬ (("at" : Str) = "count") := by decide +kernel
theorem q14 : ¬ (("at" : Str) = "fold") := by decide +kernel
theorem q23 : ¬ (("digits" : Str) = "count") := by decide +kernel
theorem q24 : ¬ (("digits" : Str) = "fold") := by decide +kernel
theorem q34 : ¬ (("count" : Str) = "fold") := by decide +kernel
theorem kne {a b : Str} (h : ¬ a = b) : ¬ ((Sum.inr a : Key) = Sum.inr b) := fun e => h (Sum.inr.inj e)
theorem kne' {a b : Str} (h : ¬ a = b) : ¬ ((Sum.inr b : Key) = Sum.inr a) := fun e => h (Sum.inr.inj e).symm
section
variable {c : Addr} {i d n f z : Int}
theorem pk_cells : valV (penK c i d n f) (.inr "cells") = some (.ref c) := valV_pos rfl
theorem pk_at : valV (penK c i d n f) (.inr "at") = some (.int i) := (valV_neg (kne q01)).trans (valV_pos rfl)
theorem pk_digits : valV (penK c i d n f) (.inr "digits") = some (.int d) := (valV_neg (kne q02)).trans ((valV_neg (kne q12)).trans (valV_pos rfl))
theorem pk_count : valV (penK c i d n f) (.inr "count") = some (.int n) := (valV_neg (kne q03)).trans ((valV_neg (kne q13)).trans ((valV_neg (kne q23)).trans (valV_pos rfl)))
theorem pk_fold : valV (penK c i d n f) (.inr "fold") = some (.int f) := (valV_neg (kne q04)).trans ((valV_neg (kne q14)).trans ((valV_neg (kne q24)).trans ((valV_neg (kne q34)).trans (valV_pos rfl))))
theorem put_there {kvs : List (Key × V)} {k : Key} {v w : V} (h : valV kvs k = some v) : putK kvs k w = kvs.map fun kv => if kv.1 = k then (kv.1, w) else kv := by
  unfold putK
  have e : (kvs.any fun kv => decide (kv.1 = k)) = true := by
    rw [valV_any, h]
    rfl
  rw [if_pos e]
theorem put_at : putK (penK c i d n f) (.inr "at") (.int z) = penK c z d n f := by
  rw [put_there pk_at]
  simp only [penK, List.map_cons, List.map_nil, if_neg (kne q01), if_neg (kne' q12), if_neg (kne' q13), if_neg (kne' q14), if_pos]
theorem put_digits : putK (penK c i d n f) (.inr "digits") (.int z) = penK c i z n f := by
  rw [put_there pk_digits]
  simp only [penK, List.map_cons, List.map_nil, if_neg (kne q02), if_neg (kne q12), if_neg (kne' q23), if_neg (kne' q24), if_pos]
theorem put_count : putK (penK c i d n f) (.inr "count") (.int z) = penK c i d z f := by
  rw [put_there pk_count]
  simp only [penK, List.map_cons, List.map_nil, if_neg (kne q03), if_neg (kne q13), if_neg (kne q23), if_neg (kne' q34), if_pos]
theorem put_fold : putK (penK c i d n f) (.inr "fold") (.int z) = penK c i d n z := by
  rw [put_there pk_fold]
  simp only [penK, List.map_cons, List.map_nil, if_neg (kne q04), if_neg (kne q14), if_neg (kne q24), if_neg (kne q34), if_pos]
end
theorem dg_of {H : Hp} {a : Addr} {kvs : List (Key × V)} {k : Key} {v : V} (h : H a = some (.dK kvs)) (e : valV kvs k = some v) : DGet H a (kV k) (some v) := e ▸ DGet.k h
theorem dp_of {H : Hp} {a : Addr} {kvs kvs' : List (Key × V)} {k : Key} {v : V} (h : H a = some (.dK kvs)) (l : kvs.length ≤ 1000) (e : putK kvs k v = kvs') : DPut H a (kV k) v (upd H a (.dK kvs')) := e ▸ DPut.k h (small1000 l)

/-- all stands as before but what is at p -/
def But (p : Addr) (H H' : Hp) : Prop := ∀ b o, H b = some o → b ≠ p → H' b = some o
theorem But.refl {p : Addr} {H : Hp} : But p H H := fun _ _ e _ => e
theorem But.trans {p : Addr} {H H1 H2 : Hp} (a : But p H H1) (b : But p H1 H2) : But p H H2 := fun c o e n => b c o (a c o e n) n
theorem But.set {p : Addr} {H H' : Hp} {o : HO} (a : But p H H') : But p H (upd H' p o) := fun c u e n => by
  rw [upd_ne n]
  exact a c u e n
theorem But.new {p q : Addr} {H H' : Hp} {o : HO} (a : But p H H') (n : H' q = none) : But p H (upd H' q o) := fun c u e m => by
  have z := a c u e m
  rw [upd_ne (ne_of_none z n)]
  exact z
theorem But.same {p : Addr} {H H' : Hp} (s : Same H H') : But p H H' := fun c u e _ => s c u e

/-- a pen at p from which n draws were made at most, its cells at c -/
def Pen (H : Hp) (p c : Addr) (n : Nat) : Prop := ∃ (ns : List Int) (i d m f : Int), H p = some (.dK (penK c i d m f)) ∧ H c = some (.lst (ns.map V.int)) ∧
  0 ≤ i ∧ 0 ≤ d ∧ 0 ≤ m ∧ m ≤ (n : Int) ∧ 0 ≤ f ∧ f < 2147483587
theorem Pen.keep {H H' : Hp} {p c : Addr} {n : Nat} (h : Pen H p c n) (hp : H' p = H p) (hc : H' c = H c) : Pen H' p c n := by
  obtain ⟨ns, i, d, m, f, e1, e2, r⟩ := h
  exact ⟨ns, i, d, m, f, hp.trans e1, hc.trans e2, r⟩
theorem Pen.new {H : Hp} {p c q : Addr} {n : Nat} {o : HO} (h : Pen H p c n) (e : H q = none) : Pen (upd H q o) p c n := by
  obtain ⟨ns, i, d, m, f, e1, e2, r⟩ := id h
  exact h.keep (upd_ne (ne_of_none e1 e)) (upd_ne (ne_of_none e2 e))
theorem Pen.same {H H' : Hp} {p c : Addr} {n : Nat} (h : Pen H p c n) (s : Same H H') : Pen H' p c n := by
  obtain ⟨ns, i, d, m, f, e1, e2, r⟩ := h
  exact ⟨ns, i, d, m, f, s _ _ e1, s _ _ e2, r⟩
theorem Pen.more {H : Hp} {p c : Addr} {n k : Nat} (h : Pen H p c n) (l : n ≤ k) : Pen H p c k := by
  obtain ⟨ns, i, d, m, f, e1, e2, a, b, x, y, r⟩ := h
  exact ⟨ns, i, d, m, f, e1, e2, a, b, x, by omega, r⟩
theorem Pen.off {H : Hp} {p c q : Addr} {n : Nat} {o : HO} (h : Pen H p c n) (e : H q = some o) (u : ∀ kvs, o ≠ .dK kvs) : q ≠ p := by
  obtain ⟨ns, i, d, m, f, e1, _⟩ := h
  exact ne_of e e1 (u _)
theorem Pen.newP {H : Hp} {p c q : Addr} {n : Nat} (h : Pen H p c n) (e : H q = none) : q ≠ p := by
  obtain ⟨ns, i, d, m, f, e1, _⟩ := h
  exact (ne_of_none e1 e).symm
theorem Pen.set {H : Hp} {p c q : Addr} {n : Nat} {o : HO} (h : Pen H p c n) (np : q ≠ p) (nc : q ≠ c) : Pen (upd H q o) p c n := h.keep (upd_ne np.symm) (upd_ne nc.symm)

/-! ### the promises -/
def spPen (K : PySem.W.Frag) : Sp := fun vs H Q _ => ∃ (a : Addr) (ns : List Int), vs = [.ref a] ∧ SqL K H a (ns.map V.int) ∧ ∀ (p c : Addr) (H' : Hp), H p = none → Same H H' → Pen H' p c 0 → Q (.ref p) H'
def spDraw : Sp := fun vs H Q _ => ∃ (p c : Addr) (n : Nat) (many : Int), vs = [.ref p, .int many] ∧ Pen H p c n ∧ n ≤ 1000000 ∧ 0 < many ∧ many < 1073741824 ∧
  ∀ (d : Int) (H' : Hp), 0 ≤ d → d < many → Pen H' p c (n + 1) → But p H H' → Q (.int d) H'
def spPick : Sp := fun vs H Q _ => ∃ (p c l : Addr) (n : Nat) (xs : List V), vs = [.ref p, .ref l] ∧ Pen H p c n ∧ n ≤ 1000000 ∧ H l = some (.lst xs) ∧ 0 < xs.length ∧ xs.length < 1000000 ∧
  ∀ (j : Nat) (v : V) (H' : Hp), xs[j]? = some v → Pen H' p c (n + 1) → But p H H' → Q v H'
end Kz
set_option linter.all false
set_option maxRecDepth 100000
set_option maxHeartbeats 4000000
/-! Data that a law draws, and its text by repr. -/
namespace Kz
open PySem PySem.Spec PyProof.Rows L2
theorem Same.seqT {K : PySem.W.Frag} {H H' : Hp} {a : Addr} {xs : List V} (e : Same H H') (h : SqT K H a xs) : SqT K H' a xs := by
  rcases h with (h | ⟨o, h⟩) | h
  · exact .inl (.inl (e _ _ h))
  · exact .inl (.inr ⟨o, e _ _ h⟩)
  · exact .inr h
mutual
theorem Dq.same {K : PySem.W.Frag} {H H' : Hp} (s : Same H H') : ∀ {v : V} {d : PyData}, Dq K H v d → Dq K H' v d
  | _, _, .non => .non
  | _, _, .bl b => .bl b
  | _, _, .int i => .int i
  | _, _, .str x => .str x
  | _, _, .lst h n a => .lst (s _ _ h) n (DqAll.same s a)
  | _, _, .tup h a => .tup (Kz.Same.seqT s h) (DqAll.same s a)
  | _, _, .dic h a => .dic (s _ _ h) (DqAll.same s a)
theorem DqAll.same {K : PySem.W.Frag} {H H' : Hp} (s : Same H H') : ∀ {vs : List V} {ds : List PyData}, DqAll K H vs ds → DqAll K H' vs ds
  | _, _, .nil => .nil
  | _, _, .cons h t => .cons (Dq.same s h) (DqAll.same s t)
end
/-- the heap without what stands at p and at g -/
def dd (p g : Addr) (H : Hp) : Hp := fun b => if b = p then none else if b = g then none else H b
/-- small data: its repr is short -/
structure Small (d : PyData) : Prop where
  sh : d.showable = true
  dp : d.depth ≤ 5
  lv : d.leavesShort 1921 = true
  bk : d.bulk ≤ 2000
structure Good (K : PySem.W.Frag) (H : Hp) (v : V) : Prop where
  ex : ∃ d, Dq K H v d ∧ Small d
theorem Good.same {K : PySem.W.Frag} {H H' : Hp} {v : V} (g : Good K H v) (s : Same H H') : Good K H' v := by
  obtain ⟨d, q, m⟩ := g
  exact ⟨d, q.same s, m⟩
/-! ### the numbers and texts -/
end Kz
set_option linter.all false
set_option maxRecDepth 100000
set_option maxHeartbeats 4000000
/-! An own error's `__init__` that begins with super().__init__(text). -/
namespace Kz
open PySem PySem.Spec PyProof.Rows L2
abbrev supEnv (qual : Str) (scope : Scope) (L f : Addr) (cd : Value) (cc : Addr) : Env := PySem.W.envX qual scope L f cd [("__class__", cc)]
def cxSup (P : Program) (w : World) (K : PySem.W.Frag) (mg : Str → Option Value) (base : Heap) (N : List Str) (qual : Str) (scope : Scope) (f : Addr) (cd : Value) (cc : Addr) (A : Around) (outer : List Env) (s : Shared) (H : Hp) (E : XK) : Cx where
  prog := P
  w := w
  K := K
  mg := mg
  base := base
  A := A.deeper (supEnv qual scope s.heap.objs.size f cd cc)
  N := N
  s_0 := s
  H_0 := H
  env := supEnv qual scope s.heap.objs.size f cd cc
  outer := outer
  stack := supEnv qual scope s.heap.objs.size f cd cc :: outer
  ex := []
  calm := true
  fn := fun _ => false
  pn := []
  xe := fun e s' => wpAny (model P w) (A.deeper (supEnv qual scope s.heap.objs.size f cd cc)) (leaving (supEnv qual scope s.heap.objs.size f cd cc) e) (fun _ s'' => CX0 outer H s E e s'') (fun e' s'' => CX0 outer H s E e' s'') s'
/-- the scope of such a def -/
structure SupScope (N P : List Str) (sc : Scope) : Prop where
  kind : sc.kind = .function
  co : sc.isCoroutine = false
  gen : sc.isGenerator = false
  nd : N.Nodup
  pre : N.take P.length = P
  par : ∀ x ∈ P, sc.names.lookup x = some .local
  nocell : ∀ y ∈ sc.names, y.2 ≠ .cell
  free : ∀ y ∈ sc.names, y.2 = .free → y.1 = ("__class__" : Str)
  sup : sc.names.lookup ("super" : Str) = some .globalImplicit
  cls : sc.names.lookup ("__class__" : Str) = some .free
theorem lookup_out {x : Str} : ∀ {l : List (Str × Value)}, (∀ v, (x, v) ∉ l) → l.lookup x = none
  | [], _ => rfl
  | (n, v) :: r, h => by
    have ne : (x == n) = false := by
      cases e : x == n with
      | false => rfl
      | true =>
        cases beq_iff_eq.mp e
        exact absurd List.mem_cons_self (h v)
    show (match x == n with | true => some v | false => r.lookup x) = none
    rw [ne]
    exact lookup_out fun u hu => h u (List.mem_cons_of_mem _ hu)
theorem rev_lookup {x : Str} {v : Value} : ∀ {ps : List Str} {us : List Value} {i : Nat}, ps.Nodup → ps[i]? = some x → us[i]? = some v → ((ps.zip us).reverse).lookup x = some v
  | [], _, _, _, h, _ => by simp at h
  | _ :: _, [], _, _, _, h => by simp at h
  | p :: ps, w :: us, 0, nd, h1, h2 => by
    simp at h1 h2
    subst h1
    subst h2
    show ((p, w) :: ps.zip us).reverse.lookup p = some w
    have no : ((ps.zip us).reverse).lookup p = none := lookup_out fun v hv => (List.nodup_cons.mp nd).1 (List.of_mem_zip (List.mem_reverse.mp hv)).1
    rw [List.reverse_cons, List.lookup_append, no]
    simp [List.lookup]
  | p :: ps, w :: us, i + 1, nd, h1, h2 => by
    show ((p, w) :: ps.zip us).reverse.lookup x = some v
    rw [List.reverse_cons, List.lookup_append, rev_lookup (i := i) (List.nodup_cons.mp nd).2 (by simpa using h1) (by simpa using h2)]
    rfl
theorem inv_startS {P : Program} {w : World} {K : PySem.W.Frag} {mg : Str → Option Value} {base : Heap} {N ps : List Str} {qual : Str} {scope : Scope} {f cc : Addr} {cd : Value} {A : Around} {outer : List Env} {s : Shared} {H : Hp} {E : XK} {us : List Value} {vs : List V} {h₁ : Heap} {tk : Nat} {D : Value} {ocl : Obj}
    (S : SupScope N ps scope) (hd : A.handled = none) (e0 : Env0 P w K mg base A outer s H) (hl : vs.length = ps.length) (r : Vals vs us)
    (hc : K.lookup cc = some ocl) (hcd : ocl.data = .cell (some D))
    (hns : h₁.Ns s.heap.objs.size (fun x => (ps.zip us).reverse.lookup x)) (hk : ∀ b o, s.heap.get? b = some o → h₁.get? b = some o) :
    Inv (cxSup P w K mg base N qual scope f cd cc A outer s H E) [] (start N vs) H { s with heap := h₁, toks := tk } := by
  have hpl : ps.length ≤ N.length := by have := congrArg List.length S.pre; rw [List.length_take] at this; omega
  have noA : ∀ b : Addr, b ∉ (cxSup P w K mg base N qual scope f cd cc A outer s H E).ex := fun b z => absurd (show b ∈ ([] : List Addr) from z) (by simp)
  have only : ∀ {x : Str} {c : Addr}, List.lookup x [(("__class__" : Str), cc)] = some c → x = "__class__" ∧ c = cc := fun {x c} z => by
    have m := PySem.mem_of_lookup z
    rw [List.mem_singleton] at m
    exact ⟨congrArg (·.1) m, congrArg (·.2) m⟩
  have bc := e0.bs cc _ (e0.mod.kin cc _ hc)
  refine ⟨⟨e0.mod, S.kind, rfl, rfl, Nat.le_refl _, fun y z c h1 h2 => ?_, fun y hy => ?_, fun y c h => ?_, fun _ => hd, Around.frames_deeper e0.frames, .inr ⟨rfl, rfl⟩, fun b z => absurd z (noA b), e0.bs, e0.bsz, fun b _ _ => noA b, fun b z => absurd z (noA b), e0.funs, e0.frf⟩,
    rfl, e0.bare, Un.kept hk, ⟨_, hns, fun i y v h1 h2 h3 => ?_⟩, fun y c h => ⟨some D, ?_⟩, e0.hok.fresh (Nat.le_refl _), fun y c h => ?_, fun p hp => absurd (show p ∈ ([] : List (Addr × Obj)) from hp) (by simp), e0.hok.kept hk, ?_⟩
  · exact (only h1).1.trans (only h2).1.symm
  · have hy : scope.names.lookup y = some .cell ∨ scope.names.lookup y = some .free := hy
    rcases hy with hy | hy
    · exact absurd rfl (S.nocell _ (PySem.mem_of_lookup hy))
    · have e := S.free _ (PySem.mem_of_lookup hy) rfl
      exact ⟨cc, by rw [show y = "__class__" from e]; rfl⟩
  · cases h
  · have hi : i < vs.length := by
      unfold L2.start at h2
      by_cases hi : i < vs.length
      · exact hi
      · rw [List.getElem?_append_right (by simpa using hi)] at h2
        rw [List.getElem?_replicate] at h2
        split at h2 <;> cases h2
    have ha : vs[i]? = some v := by
      unfold L2.start at h2
      rw [List.getElem?_append_left (by simpa using hi), List.getElem?_map] at h2
      cases e : vs[i]? with
      | none => rw [e] at h2; cases h2
      | some a => rw [e] at h2; cases h2; rfl
    obtain ⟨u, hu, rv⟩ := r.get ha
    have hp : ps[i]? = some y := by
      rw [← S.pre, List.getElem?_take_of_lt (by omega)]; exact h1
    have ndP : ps.Nodup := by rw [← S.pre]; exact S.nd.sublist (List.take_sublist _ _)
    exact ⟨u, rv, .inl ⟨S.par y (List.mem_of_getElem? hp), rev_lookup ndP hp hu⟩⟩
  · rw [(only h).2]
    exact ⟨_, hk _ _ bc.1, hcd⟩
  · rw [(only h).2]
    exact bc.2
  · unfold L2.start
    show _ = N.length
    rw [List.length_append, List.length_map, List.length_replicate]
    omega
/-- such an `__init__` as it stands: of the class at C -/
structure FunS (K : PySem.W.Frag) (P : Program) (qual : Str) (st : Stmt) (C f : Addr) (fd : FuncData) : Prop where
  ex : ∃ (oc : Value) (od : Option Addr) (kV doc pm : Value) (an : Option Addr) (cda cc : Addr) (ct : Value) (osl : Array (Option Value)),
    fd = PySem.W.fnX "__init__" qual (defArgs st) (defBody st) (defScope st) [("__class__", cc)] .none kV doc pm an (.ref cda) ct ∧ K.lookup f = some ⟨oc, od, .func fd, osl⟩ ∧ PySem.W.codeIn K (.ref cda) qual = true ∧
    (∃ cl cld csl, K.lookup cc = some ⟨cl, cld, .cell (some (.ref C)), csl⟩) ∧
    (∃ ccl cdd vs ccs file tf, K.lookup cda = some ⟨ccl, cdd, .fields vs, ccs⟩ ∧ (vs[2]? : Option Value) = some (.str file tf) ∧ ((P.main.file : Str) == file) = true)
  sup : ∀ {h : Heap} {mg : Str → Option Value}, K.In h → h.Ns mainGlobals mg → mg "super" = none
  top : (P.main.scope.names.lookup ("super" : Str)).isSome = false
  opq : PySem.W.nsIn K cStatics "thirdparty.any" = some none
  cls : ∃ cd, PySem.W.clsIn K C = some cd
  own : PySem.W.mroIn K C (.ref C) = some true
  nxt : PySem.W.ks_superIn K C C "__init__" = some (some (.builtin "ValueError.__init__"))
  isV : PySem.W.subIn K (.ref C) (.type "ValueError") = some true
section
variable {P : Program} {w : World} {K : PySem.W.Frag} {mg : Str → Option Value} {base : Heap}
/-- the method-wrapper is called -/
theorem mw_call {X : Cx} {pins : List (Addr × Obj)} {σ : L2.St} {H : Hp} {s : Shared} {C a u : Addr} {us : List Value} {Q : Value → Shared → Prop} {E : Value → Shared → Prop} (T : OexC X.K C) (I : Inv X pins σ H s) (e : H a = some (exo a C none)) (hl : us.length ≤ sizeLine)
    (hu : s.heap.get? u = some (PySem.W.kxs_mw "ValueError.__init__" a)) (h : ∀ s', Inv X pins σ H s' → Q .none s') : wpAny (model X.prog X.w) X.A (call (.ref u) us) Q E s := by
  obtain ⟨nm, q, N, bs, bm, sn, sub, ab, col, dd, k0, k1, k2, k3, k5, hC, hbm⟩ := T.cls
  obtain ⟨t1, ho⟩ := exo_at I.hok e
  obtain ⟨hp, g, d, t, os⟩ := s
  refine wpAny_call (codeAny_of_tree ?_)
  show wpAny _ X.A.in1 (callAny (.ref u) ⟨us, []⟩) _ _ _
  simp only [callAny]
  refine wpAny_bind (wpAny_load hu ?_)
  simp only [PySem.W.kxs_mw, show (Value.type "method-wrapper" == Value.type "method" || Value.type "method-wrapper" == Value.type "builtin_function_or_method" || Value.type "method-wrapper" == Value.type "method-wrapper") = true by decide, if_true]
  refine PySem.W.KFB.if_so (by decide) ?_
  refine wpAny_bind (PySem.W.check_bound_init F.excBase_ValueError.toExcCallFacts (I.kIn _ _ hC) ho rfl ?_)
  refine wpAny_bind (wpAny_pure (wpAny_pure ?_))
  refine ⟨PySem.plainId_quiet F.excBase_ValueError.init.plain _, codeAny_builtin F.excBase_ValueError.initEntry ?_⟩
  refine PySem.W.exc_init_tree (cls := .ref C) (t0 := t1) (dv := none) (c2 := .none) (c3 := .none) (b4 := .bool false) ho hl fun h' k hx _ => ?_
  have J := I.write (t' := t) (x := a) (e := a) (o := exo a C none) (by rw [e]; exact True.intro) (.inl rfl) k ⟨_, hx⟩ (exo_ok hx)
  have eu : upd H a (exo a C none) = H := by
    funext b
    by_cases hb : b = a
    · rw [hb, upd_same, e]
    · rw [upd_ne hb]
  rw [eu] at J
  exact h _ J
end
end Kz
set_option linter.all false
set_option maxRecDepth 100000
set_option maxHeartbeats 4000000
namespace Kz
open PySem PySem.Spec PyProof.Rows L2
section
variable {P : Program} {w : World} {K : PySem.W.Frag} {mg : Str → Option Value} {base : Heap}
theorem boot_super : bootBuiltins "super" = some (.type "super") := by decide +kernel
/-- THE RULE for an `__init__` that begins with super().__init__(text): its further rows as a term of rules -/
theorem fn_sup {k : Nat} {N ps : List Str} {qual : Str} {st : Stmt} {C f : Addr} {fd : FuncData} {sp : Sp} {msg : Str} {j : Nat} {pc : Pos} {rest : List Stmt} {p0 p1 p2 pos pe : Pos} {ar : Arg} {pl : Sem Bool} (F : FunS K P qual st C f fd) (S : SupScope N ps (defScope st))
    (body : defBody st = .Expr (.Call (.Attribute (.Call (.Name "super" p0) [] [] p1) "__init__" p2) (.Constant (.str msg) j pc :: []) [] pos) pe :: rest)
    (shape : ∀ env : Env, eval (.Call (.Attribute (.Call (.Name "super" p0) [] [] p1) "__init__" p2) (.Constant (.str msg) j pc :: []) [] pos) env = (do
      let ov ← attributeBase (.Call (.Name "super" p0) [] [] p1) "__init__" env (eval (.Call (.Name "super" p0) [] [] p1) env)
      standAt p2.atName
      let (f, first) ← holding [ov] (getMethod ov "__init__" pl)
      callWith pos f first (backTo pos (starEach (.Constant (.str msg) j pc :: []) env)) []))
    (arg : ((defArgs st).posonlyargs ++ (defArgs st).args).head? = some ar) (self : ps[0]? = some ar.arg)
    (len : ∀ vs H Q E, sp vs H Q E → vs.length = ps.length)
    (main : ∀ (cda : Value) (cc : Addr) (A : Around) (outer : List Env) (s : Shared) (H : Hp) (vs : List V) (Q : VK) (E : XK), sp vs H Q E →
      ∃ a ws t, vs = .ref a :: ws ∧ OexC K C ∧ H a = some (exo a C none) ∧ PSs (cxSup P w K mg base N qual (defScope st) f cda cc A outer s H E) rest t ∧ t { nx := fun _ H' => Q .non H', rt := Q } (start N vs) H) :
    FnOk P w K mg base CX0 (k + 1) f fd ps sp := by
  refine ⟨len, fun A outer s H args us vs Q E hr e0 hb r hsp => ?_⟩
  obtain ⟨oc, od, kV, doc, pm, an, cda, cc, ct, osl, rfl, lk, hcd, ⟨cl, cld, csl, lc⟩, ccl, cdd, cvs, ccs, file, tf, lcd, h2, hfile⟩ := F.ex
  have hl := len _ _ _ _ hsp
  have KX : K.In s.heap := e0.mod.kin.keeps fun b o e => (e0.bs b o e).1
  have lim : s.heap.NoLimit := e0.mod.nolimit.keeps fun b o e => (e0.bs b o e).1
  refine PySem.ks_codeAny_call_defAt (body := defBody st) (binds := ps.zip us) hr.depth (KX _ _ lk) rfl lim (PySem.W.codeRec_of KX hcd) rfl hb S.nocell (fun y hy => S.par _ (List.of_mem_zip hy).1) (fun h₁ hns hk => ?_) S.co S.gen S.kind
  obtain ⟨a, ws, t, rfl, T, ea, ht, hq⟩ := main (.ref cda) cc A outer s H vs Q E hsp
  have I : Inv (cxSup P w K mg base N qual (defScope st) f (.ref cda) cc A outer s H E) [] (start N (.ref a :: ws)) H { s with heap := h₁, toks := s.toks + (ps.zip us).length } := inv_startS S hr.hd e0 hl r lc rfl hns hk
  refine PySem.ks_wpAt_mono (Q := SP (cxSup P w K mg base N qual (defScope st) f (.ref cda) cc A outer s H E) [] { nx := fun _ H' => Q .non H', rt := Q }) (E := (cxSup P w K mg base N qual (defScope st) f (.ref cda) cc A outer s H E).xe) ?_ (fun fl s' hs => ?_) (fun e s' h => h)
  · show _root_.PySem.wpAt (model P w) (A.deeper (supEnv qual (defScope st) s.heap.objs.size f (.ref cda) cc)) (.func (defBody st) (supEnv qual (defScope st) s.heap.objs.size f (.ref cda) cc)) (execs (defBody st) (supEnv qual (defScope st) s.heap.objs.size f (.ref cda) cc)) _ _ _
    have d0 : us[0]? = some (.ref a) := by
      obtain ⟨u, hu, ru⟩ := r.get (i := 0) (x := V.ref a) rfl
      cases (show u = Value.ref a from ru)
      exact hu
    have ndP : ps.Nodup := by rw [← S.pre]; exact S.nd.sublist (List.take_sublist _ _)
    have hv : (ps.zip us).reverse.lookup ar.arg = some (.ref a) := rev_lookup ndP self d0
    obtain ⟨cd, hcls⟩ := F.cls
    obtain ⟨t1, ho⟩ := exo_at I.hok ea
    obtain ⟨oD, hD1, hD2⟩ : ∃ oD, h₁.get? C = some oD ∧ oD.data = .cls cd := by
      unfold PySem.W.clsIn at hcls
      split at hcls
      · rename_i c d cd' sl ho
        cases hcls
        exact ⟨_, I.kIn _ _ ho, rfl⟩
      · cases hcls
    rw [body]
    refine PySem.ks_wpAt_execs_cons (PySem.ks_wpAt_Expr_any (PySem.ks_wpAt_MethodCall ?_ (shape _)) I.quiet)
    refine PySem.ks_wpAt_super_base (env := supEnv qual (defScope st) s.heap.objs.size f (.ref cda) cc) S.sup S.cls (by decide) rfl (I.kIn _ _ lk) rfl arg rfl (I.kIn _ _ lcd) rfl h2 hfile F.top ?_
    obtain ⟨mb, b1, b2⟩ := e0.mod.blt
    refine PySem.W.ks_loadName_global S.kind S.sup (Calls.loadGlobal_builtin (env := supEnv qual (defScope st) s.heap.objs.size f (.ref cda) cc) (e0.mod.glob.keeps I.bk) (F.sup e0.mod.kin e0.mod.glob) (b1.keeps I.bk) ((b2 _ (by decide)).trans boot_super) ⟨rfl, ?_⟩)
    refine wpAny_loadName_free S.kind S.cls rfl ⟨_, I.kIn _ _ lc, rfl⟩ ?_
    refine wpAny_loadName_local S.kind (S.par _ (List.mem_of_getElem? self)) hns hv ?_
    refine PySem.ks_wpAny_isType_cls hD1 hD2 ⟨rfl, ?_⟩
    refine PySem.ks_wpAny_call_super hD1 hD2 ho rfl (fun c e => nomatch e) (PySem.W.looks_mroIn I.kIn F.own) (fun h' e k => ?_)
    have J1 := I.kept (t' := s.toks + (ps.zip us).length) k
    obtain ⟨t2, ho2⟩ := exo_at J1.hok ea
    have Ia : PySem.W.InstAt h' a { cls := .ref C, dict := none, data := .fields #[.ref t2, .none, .none, .none, .bool false, .none] } C none := ⟨ho2, rfl, rfl, trivial⟩
    have hf : PySem.W.alongIn K "__init__" ((cd.mro.dropWhile (· != .ref C)).drop 1) = some (some (.builtin "ValueError.__init__")) := by
      have z := F.nxt
      unfold PySem.W.ks_superIn at z
      rw [hcls] at z
      exact z
    refine PySem.W.kxs_getMethod PySem.W.kxs_ValueError e (PySem.W.looks_opaque J1.kIn F.opq) (l₀ := cd.mro) (fun A Q E s k q => wpAny_bind ((PySem.W.looks_clsIn J1.kIn hcls) A _ E s k (wpAny_pure q))) rfl J1.kIn hf (Ia.type.andThen (PySem.W.looks_subIn J1.kIn F.isV)) (PySem.W.ks_ne J1.kIn Ia hcls) (by decide) ?_
    have J2 := J1.kept (t' := s.toks + (ps.zip us).length + 1) (h' := h'.push (PySem.W.kxs_mw "ValueError.__init__" a)) fun b o z => Heap.get?_push_of_some _ z
    have Jp : Inv (cxSup P w K mg base N qual (defScope st) f (.ref cda) cc A outer s H E) [(h'.objs.size, PySem.W.kxs_mw "ValueError.__init__" a)] (start N (.ref a :: ws)) H { s with heap := h'.push (PySem.W.kxs_mw "ValueError.__init__" a), toks := s.toks + (ps.zip us).length + 1 } := by
      refine J2.pins_of fun p hp => ?_
      rw [List.mem_singleton] at hp
      subst hp
      exact ⟨Heap.get?_push_at rfl rfl, J1.hok.fresh (Nat.le_refl _), Nat.ne_of_gt J1.lt, J1.nofs (Nat.le_refl _), fun v z => nomatch z⟩
    refine PySem.W.kxs_callWith (i := "ValueError.__init__") (x := a) rfl (Calls.evalArgs_plain ?_)
    have ha : PA (cxSup P w K mg base N qual (defScope st) f (.ref cda) cc A outer s H E) [.Constant (.str msg) j pc] (tCons (tC (.str msg)) tNil) := pa_cons pe_str pa_nil
    refine thn (ha.run pos _ _ _ H (fun vs H1 => vs = [.str msg] ∧ H1 = H) Jp ⟨rfl, rfl⟩) ?_
    rintro us1 s1 ⟨vs1, H1, I1, r1, rfl, rfl⟩
    have at1 := (I1.pin _ (List.mem_singleton.mpr rfl)).1
    refine ⟨at1, ?_⟩
    have few : us1.length ≤ sizeLine := by
      have := Paired.length r1
      rw [sizeLine_eq]
      show _ ≤ _
      have e1 : [V.str msg].length = 1 := rfl
      omega
    refine mw_call T I1 ea few at1 fun s2 J => ?_
    exact wpAt_of_wpAny (ht.run [] s2 _ _ _ (J.pins_of fun p hp => nomatch hp) hq)
  · have fin : ∀ {σ' : L2.St} {H' : Hp} {v : V} {u : Value}, Inv (cxSup P w K mg base N qual (defScope st) f (.ref cda) cc A outer s H E) [] σ' H' s' → RelV v u → Q v H' → CE outer P w H s Q u s' :=
      fun {σ' H' v u} J rv q => ⟨v, H', J.os, J.bare, J.base, J.hok, rv, q⟩
    cases fl with
    | ret u =>
      obtain ⟨v, σ', H', J, rv, q⟩ := hs
      exact fin J rv q
    | next =>
      obtain ⟨σ', H', J, q⟩ := hs
      exact fin (v := V.non) (u := Value.none) J rfl q
    | brk =>
      obtain ⟨_, _, _, q⟩ := hs
      exact False.elim q
    | cont =>
      obtain ⟨_, _, _, q⟩ := hs
      exact False.elim q
theorem FunS.binds {qual : Str} {st : Stmt} {C f : Addr} {fd : FuncData} {ps : List Str} (F : FunS K P qual st C f fd)
    (h : ∀ (kV doc pm : Value) (an : Option Addr) (cc : Addr) (cdv ct : Value) (us : List Value), us.length = ps.length → bindArgs (PySem.W.fnX "__init__" qual (defArgs st) (defBody st) (defScope st) [("__class__", cc)] .none kV doc pm an cdv ct) ⟨us, []⟩ = pure (ps.zip us)) : Binds K fd ps [] := by
  obtain ⟨oc, od, kV, doc, pm, an, cda, cc, ct, osl, rfl, _⟩ := F.ex
  exact .all (h kV doc pm an cc (.ref cda) ct)
end
end Kz
set_option linter.all false
set_option maxRecDepth 100000
set_option maxHeartbeats 4000000
namespace Kz
open PySem PySem.Spec PyProof.Rows L2
def top (i : Nat) : Stmt := PySem.Challenge.pw_toldmeans_k10_shares_refused.main.body.getD i (.Pass ⟨0, 0, 0, 0⟩)
abbrev sPen : Stmt := top 63
abbrev sDraw : Stmt := top 64
abbrev sPick : Stmt := top 65
/-- built-in names that the module leaves alone -/
structure Blt (mg : Str → Option Value) : Prop where
  len : mg "len" = none
  int : mg "int" = none
  list : mg "list" = none
  range : mg "range" = none
section
variable {P : Program} {w : World} {K : PySem.W.Frag} {mg : Str → Option Value} {base : Heap}
theorem scPen : FnScope ["_law_script", "_law_fold", "_law_cell"] ["_law_script"] (defScope sPen) := ⟨rfl, rfl, rfl, by decide +kernel, rfl, by decide +kernel, by decide +kernel⟩
theorem ok_pen {f : Addr} {fd : FuncData} (F : Fun K "_law_pen" "_law_pen" sPen f fd) (B : Blt mg) : FnOk P w K mg base CX0 1 f fd ["_law_script"] (spPen K) := by
  refine F.ok scPen (fun vs H Q E h => ?_) (fun cdv A outer s H vs Q E hr h => ?_)
  · obtain ⟨a, ns, rfl, _⟩ := h
    rfl
  · obtain ⟨a, ns, rfl, hS, k⟩ := h
    have hu := hu_of hr
    refine ⟨_, pss_cons (ps_set (i := 1) scPen.nd rfl (.inl rfl) pe_int)
      (pss_cons (ps_for PassesOwn.never rfl (pi_list (pv 0)) (pg_name (i := 2) scPen.nd rfl (.inl rfl))
        (pss_one (ps_set (i := 1) scPen.nd rfl (.inl rfl) (pe_op op_mod (pe_callTy call_int1 (by rfl) B.int boot_int (pa_cons (pe_op op_add (pe_op op_mul (pv 1) pe_int) (pv 2)) pa_nil)) pe_int))))
      (pss_one (ps_ret (pe_disp (pps_cons pe_str (pe_callTy call_list_of (by rfl) B.list (by decide +kernel) (pa_cons (pv 0) pa_nil)) (pps_cons pe_str pe_int (pps_cons pe_str pe_int (pps_cons pe_str pe_int (pps_cons pe_str (pv 1) pps_nil))))) (by rfl) (by rfl) (fun z => by cases z) (by decide))))), ?_⟩
    refine ⟨_, rfl, a, rfl, ⟨_, hS⟩, for_list (K := K) (a := a) (xs := ns.map V.int) (fun i σ H' => H' = H ∧ ∃ (f : Int) (v : Option V), σ = [some (.ref a), some (.int f), v] ∧ 0 ≤ f ∧ f < 2147483587)
      ⟨rfl, 0, none, rfl, by decide, by decide⟩ (fun i σ H' _ ⟨e, _⟩ => e ▸ hS) ?_ ?_⟩
    · rintro i y σ H' hi ⟨rfl, f, v, rfl, h0, h1⟩
      obtain ⟨z, rfl⟩ : ∃ z, y = V.int z := by
        rw [List.getElem?_map] at hi
        cases e : ns[i]? with
        | none =>
          rw [e] at hi
          cases hi
        | some z =>
          rw [e] at hi
          exact ⟨z, (Option.some.inj hi).symm⟩
      refine ⟨_, rfl, _, _, rfl, rfl, .inr ⟨by decide, by decide⟩, _, rfl, _, _, rfl, rfl, .inl ⟨_, rfl, _, _, rfl, rfl, (by show (0 : Int) < 1000000007; decide), ?_⟩⟩
      have b1 := Int.emod_nonneg (f * 47 + z) (show (1000000007 : Int) ≠ 0 by decide)
      have b2 := Int.emod_lt_of_pos (f * 47 + z) (show (0 : Int) < 1000000007 by decide)
      exact ⟨rfl, _, some (.int z), rfl, b1, by omega⟩
    · rintro σ H' ⟨rfl, f, v, rfl, h0, h1⟩
      intro p hp
      refine ⟨_, rfl, a, _, rfl, .inl (Same.seq (fun b o e => ?_) hS), fun l hl => ?_⟩
      · rw [upd_ne (ne_of_none e hp)]
        exact e
      have lp : l ≠ p := fun e => by
        rw [e, upd_same] at hl
        cases hl
      refine ⟨_, rfl, ?_⟩
      refine ⟨by rw [upd_ne lp.symm, upd_same], penK l 0 0 0 f, rfl, (by show 5 ≤ 15; decide), ?_⟩
      have em : mergeK [] (penK l 0 0 0 f) = penK l 0 0 0 f := by
        have e1 : valV ([] : List (Key × V)) (.inr "cells") = none := rfl
        have a1 : putK [] (.inr "cells") (V.ref l) = [((.inr "cells" : Key), V.ref l)] := putK_new _ e1
        have a2 : putK [((.inr "cells" : Key), V.ref l)] (.inr "at") (V.int 0) = [((.inr "cells" : Key), V.ref l), (.inr "at", V.int 0)] := putK_new _ (valV_neg (kne q01))
        have a3 : putK [((.inr "cells" : Key), V.ref l), (.inr "at", V.int 0)] (.inr "digits") (V.int 0) = [((.inr "cells" : Key), V.ref l), (.inr "at", V.int 0), (.inr "digits", V.int 0)] :=
          putK_new _ ((valV_neg (kne q02)).trans (valV_neg (kne q12)))
        have a4 : putK [((.inr "cells" : Key), V.ref l), (.inr "at", V.int 0), (.inr "digits", V.int 0)] (.inr "count") (V.int 0) = [((.inr "cells" : Key), V.ref l), (.inr "at", V.int 0), (.inr "digits", V.int 0), (.inr "count", V.int 0)] :=
          putK_new _ ((valV_neg (kne q03)).trans ((valV_neg (kne q13)).trans (valV_neg (kne q23))))
        have a5 : putK [((.inr "cells" : Key), V.ref l), (.inr "at", V.int 0), (.inr "digits", V.int 0), (.inr "count", V.int 0)] (.inr "fold") (V.int f) = penK l 0 0 0 f :=
          putK_new _ ((valV_neg (kne q04)).trans ((valV_neg (kne q14)).trans ((valV_neg (kne q24)).trans (valV_neg (kne q34)))))
        show putK (putK (putK (putK (putK ([] : List (Key × V)) (.inr "cells") (V.ref l)) (.inr "at") (V.int 0)) (.inr "digits") (V.int 0)) (.inr "count") (V.int 0)) (.inr "fold") (V.int f) = _
        rw [a1, a2, a3, a4, a5]
      refine k p l _ hp (fun b o e => ?_) ⟨ns, 0, 0, 0, f, by rw [upd_same, em], ?_, by decide, by decide, by decide, by decide, h0, h1⟩
      · have bp := ne_of_none e hp
        have bl : b ≠ l := fun z => by
          rw [z] at e bp
          rw [upd_ne bp, e] at hl
          cases hl
        rw [upd_ne bp, upd_ne bl, upd_ne bp]
        exact e
      · rw [upd_ne lp, upd_same]

theorem scDraw : FnScope ["_law_pen_here", "_law_many", "_law_cell", "_law_digit", "_law_blend"] ["_law_pen_here", "_law_many"] (defScope sDraw) := ⟨rfl, rfl, rfl, by decide +kernel, rfl, by decide +kernel, by decide +kernel⟩
theorem five {c : Addr} {i d m f : Int} : (penK c i d m f).length ≤ 1000 := by
  show 5 ≤ 1000
  decide
theorem ok_draw {f : Addr} {fd : FuncData} (F : Fun K "_law_draw" "_law_draw" sDraw f fd) (B : Blt mg) : FnOk P w K mg base CX0 1 f fd ["_law_pen_here", "_law_many"] spDraw := by
  refine F.ok scDraw (fun vs H Q E h => ?_) (fun cdv A outer s H vs Q E hr h => ?_)
  · obtain ⟨p, c, n, many, rfl, _⟩ := h
    rfl
  · obtain ⟨p, c, n, many, rfl, ⟨ns, i, d, m, f, e1, e2, b1, b2, b3, b4, b5, b6⟩, hn, m0, m1, k⟩ := h
    have hu := hu_of hr
    refine ⟨_, pss_cons (ps_dput hu (pv 0) pe_str (pe_op op_add (pe_dget hu (pv 0) pe_str (fun _ _ => rfl)) pe_int) rfl)
      (C8.pss_cut (ps_if (PW.pt (pw_and (pt_cmpR op_eq (pe_dget hu (pv 0) pe_str (fun _ _ => rfl)) pe_int (nomark _))
          (pw_and1 (pt_cmpR op_lt (pe_dget hu (pv 0) pe_str (fun _ _ => rfl)) (pe_callB call_len_seq (by rfl) B.len PySem.boot_len (pa_cons (pe_dget hu (pv 0) pe_str (fun _ _ => rfl)) pa_nil)) (nomark _)))))
        (pss_cons (ps_set (i := 2) scDraw.nd rfl (.inl rfl) (pe_ix ix_list (pe_dget hu (pv 0) pe_str (fun _ _ => rfl)) (pe_dget hu (pv 0) pe_str (fun _ _ => rfl)) (fun _ _ => rfl)))
        (pss_cons (ps_dput hu (pv 0) pe_str (pe_op op_add (pe_dget hu (pv 0) pe_str (fun _ _ => rfl)) pe_int) rfl)
        (pss_one (ps_if (pt_cmpR op_ge (pv 2) (pe_op op_pow pe_int pe_int) (nomark _))
          (pss_one (ps_dput hu (pv 0) pe_str (pe_op op_sub (pv 2) (pe_op op_pow pe_int pe_int)) rfl))
          (pss_one (ps_dput hu (pv 0) pe_str (pe_op op_mod (pe_callTy call_int1 (by rfl) B.int boot_int (pa_cons (pe_op op_add (pe_op op_mul (pe_dget hu (pv 0) pe_str (fun _ _ => rfl)) pe_int) (pv 2)) pa_nil)) pe_int) rfl))))))
        pss_nil)
      (pss_cons (ps_if (pt_cmpR op_gt (pe_dget hu (pv 0) pe_str (fun _ _ => rfl)) pe_int (nomark _))
        (pss_cons (ps_set (i := 3) scDraw.nd rfl (.inl rfl) (pe_op op_mod (pe_callTy call_int1 (by rfl) B.int boot_int (pa_cons (pe_dget hu (pv 0) pe_str (fun _ _ => rfl)) pa_nil)) (pv 1)))
        (pss_cons (ps_dput hu (pv 0) pe_str (pe_op op_fdiv (pe_dget hu (pv 0) pe_str (fun _ _ => rfl)) (pv 1)) rfl)
        (pss_one (ps_ret (pv 3))))) pss_nil)
      (pss_cons (ps_set (i := 4) scDraw.nd rfl (.inl rfl) (pe_op op_add (pe_op op_add (pe_dget hu (pv 0) pe_str (fun _ _ => rfl)) (pe_op op_mul (pe_dget hu (pv 0) pe_str (fun _ _ => rfl)) pe_int)) pe_int))
      (pss_one (ps_ret (pe_op op_mod (pe_op op_fdiv (pe_callTy call_int1 (by rfl) B.int boot_int (pa_cons (pe_op op_mod (pe_op op_pow (pv 4) pe_int) pe_int) pa_nil)) pe_int) (pv 1))))))), ?_⟩
    -- count
    refine ⟨_, rfl, p, _, rfl, dg_of e1 pk_count, _, _, rfl, rfl, _, rfl, p, _, rfl, dp_of e1 five put_count, ?_⟩
    have cp : c ≠ p := ne_of e2 e1 (fun z => nomatch z)
    have c1 : upd H p (.dK (penK c i d (m + 1) f)) p = some (.dK (penK c i d (m + 1) f)) := upd_same
    have c2 : upd H p (.dK (penK c i d (m + 1) f)) c = some (.lst (ns.map V.int)) := by
      rw [upd_ne cp]
      exact e2
    have c3 : But p H (upd H p (.dK (penK c i d (m + 1) f))) := But.refl.set
    generalize upd H p (.dK (penK c i d (m + 1) f)) = H1 at c1 c2 c3
    refine ⟨fun σ H' => ∃ (v : Option V) (i' d' f' : Int), σ = [some (.ref p), some (.int many), v, none, none] ∧ H' p = some (.dK (penK c i' d' (m + 1) f')) ∧ H' c = some (.lst (ns.map V.int)) ∧ But p H H' ∧ 0 ≤ i' ∧ 0 ≤ d' ∧ 0 ≤ f' ∧ f' < 2147483587, ?_, ?_⟩
    · refine ⟨_, rfl, p, _, rfl, dg_of c1 pk_digits, rfl, _, rfl, ?_⟩
      by_cases z : V.int d = V.int 0
      · rw [decide_eq_true z]
        refine iteT ⟨_, rfl, p, _, rfl, dg_of c1 pk_at, _, rfl, p, _, rfl, dg_of c1 pk_cells, c, _, rfl, .inl (SqL.of c2), _, _, rfl, rfl, _, rfl, ?_⟩
        refine ite2 (fun lt => ?_) (fun nlt => ⟨none, i, d, f, rfl, c1, c2, c3, b1, b2, b5, b6⟩)
        have lt' := of_decide_eq_true lt
        rw [List.length_map] at lt'
        obtain ⟨j, rfl⟩ := Int.eq_ofNat_of_zero_le b1
        have jl : j < ns.length := by omega
        have it : (ns.map V.int)[j]? = some (.int ns[j]) := by
          rw [List.getElem?_map, List.getElem?_eq_getElem jl]
          rfl
        refine ⟨_, rfl, p, _, rfl, dg_of c1 pk_cells, _, rfl, p, _, rfl, dg_of c1 pk_at, c, _, _, _, rfl, rfl, SqL.of c2, atI_nat it, ?_⟩
        refine ⟨_, rfl, p, _, rfl, dg_of c1 pk_at, _, _, rfl, rfl, _, rfl, p, _, rfl, dp_of c1 five put_at, ?_⟩
        have d1 : upd H1 p (.dK (penK c ((j : Int) + 1) d (m + 1) f)) p = some (.dK (penK c ((j : Int) + 1) d (m + 1) f)) := upd_same
        have d2 : upd H1 p (.dK (penK c ((j : Int) + 1) d (m + 1) f)) c = some (.lst (ns.map V.int)) := by
          rw [upd_ne cp]
          exact c2
        have d3 : But p H (upd H1 p (.dK (penK c ((j : Int) + 1) d (m + 1) f))) := c3.set
        generalize upd H1 p (.dK (penK c ((j : Int) + 1) d (m + 1) f)) = H2 at d1 d2 d3
        refine ⟨_, rfl, _, _, rfl, rfl, ⟨by decide, by decide, by decide⟩, _, _, rfl, rfl, _, rfl, ?_⟩
        refine ite2 (fun ge => ?_) (fun nge => ?_)
        · have ge' := of_decide_eq_true ge
          refine ⟨_, rfl, _, _, rfl, rfl, ⟨by decide, by decide, by decide⟩, _, _, rfl, rfl, _, rfl, p, _, rfl, dp_of d1 five put_digits, ?_⟩
          exact ⟨_, _, _, _, rfl, upd_same, by rw [upd_ne cp]; exact d2, d3.set, by omega, Int.sub_nonneg_of_le ge', b5, b6⟩
        · refine ⟨_, rfl, p, _, rfl, dg_of d1 pk_fold, _, _, rfl, rfl, .inr ⟨by decide, by decide⟩, _, rfl, _, _, rfl, rfl, .inl ⟨_, rfl, _, _, rfl, rfl, (by show (0 : Int) < 2147483587; decide), _, rfl, p, _, rfl, dp_of d1 five put_fold, ?_⟩⟩
          have l1 := Int.emod_nonneg (f * 69069 + ns[j]) (show (2147483587 : Int) ≠ 0 by decide)
          have l2 := Int.emod_lt_of_pos (f * 69069 + ns[j]) (show (0 : Int) < 2147483587 by decide)
          exact ⟨_, _, _, _, rfl, upd_same, by rw [upd_ne cp]; exact d2, d3.set, by omega, b2, l1, l2⟩
      · rw [decide_eq_false z]
        refine iteF (iteF ?_)
        exact ⟨none, i, d, f, rfl, c1, c2, c3, b1, b2, b5, b6⟩
    · rintro σ H' ⟨v, i', d', f', rfl, g1, g2, g3, a1, a2, a3, a4⟩
      refine ⟨_, rfl, p, _, rfl, dg_of g1 pk_digits, _, _, rfl, rfl, _, rfl, ?_⟩
      refine ite2 (fun gt => ?_) (fun ngt => ?_)
      · have gt' := of_decide_eq_true gt
        refine ⟨_, rfl, p, _, rfl, dg_of g1 pk_digits, .inl ⟨_, rfl, _, rfl, _, _, rfl, rfl, m0, ?_⟩⟩
        refine ⟨_, rfl, p, _, rfl, dg_of g1 pk_digits, _, rfl, _, _, rfl, rfl, ⟨m0, m1⟩, _, rfl, p, _, rfl, dp_of g1 five put_digits, _, rfl, ?_⟩
        have l1 := Int.emod_nonneg d' (show many ≠ 0 by omega)
        have l2 := Int.emod_lt_of_pos d' m0
        refine k _ _ l1 l2 ⟨ns, i', d' / many, m + 1, f', upd_same, by rw [upd_ne cp]; exact g2, a1, Int.ediv_nonneg a2 (by omega), by omega, by omega, a3, a4⟩ g3.set
      · refine ⟨_, rfl, p, _, rfl, dg_of g1 pk_fold, _, rfl, p, _, rfl, dg_of g1 pk_count, _, _, rfl, rfl, .inr ⟨by decide, by decide⟩, _, _, rfl, rfl, _, _, rfl, rfl, ?_⟩
        refine ⟨_, rfl, _, _, rfl, rfl, ⟨by decide, by decide, ?_⟩, _, _, rfl, rfl, (by show (0 : Int) < 2305843009213693951; decide), .inl ⟨_, rfl, _, _, rfl, rfl, ⟨by decide, by decide⟩, _, rfl, _, _, rfl, rfl, m0, ?_⟩⟩
        · have : (2 : Nat) ^ 64 = 18446744073709551616 := by decide
          omega
        · generalize (f' + (m + 1) * 7907 + 43) ^ (17 : Int).toNat % 2305843009213693951 / 128 = y
          have l1 := Int.emod_nonneg y (show many ≠ 0 by omega)
          have l2 := Int.emod_lt_of_pos y m0
          exact k _ _ l1 l2 ⟨ns, i', d', m + 1, f', g1, g2, a1, a2, by omega, by omega, a3, a4⟩ g3

theorem scPick : FnScope ["_law_pen_here", "_law_some"] ["_law_pen_here", "_law_some"] (defScope sPick) := ⟨rfl, rfl, rfl, by decide +kernel, rfl, by decide +kernel, by decide +kernel⟩
theorem ok_pick {f fD : Addr} {fd fdD : FuncData} (F : Fun K "_law_pick" "_law_pick" sPick f fd) (B : Blt mg) (FD : Fun K "_law_draw" "_law_draw" sDraw fD fdD) (gD : mg "_law_draw" = some (.ref fD)) (bD : Binds K fdD ["_law_pen_here", "_law_many"] []) :
    FnOk P w K mg base CX0 2 f fd ["_law_pen_here", "_law_some"] spPick := by
  have GD : FnOk P w K mg base CX0 1 fD fdD ["_law_pen_here", "_law_many"] spDraw := ok_draw FD B
  refine F.ok scPick (fun vs H Q E h => ?_) (fun cdv A outer s H vs Q E hr h => ?_)
  · obtain ⟨p, c, l, n, xs, rfl, _⟩ := h
    rfl
  · obtain ⟨p, c, l, n, xs, rfl, pen, hn, el, l0, l1, k⟩ := h
    refine ⟨_, pss_one (ps_ret (pe_ix ix_list (pv 1) (pe_call GD hr rfl gD FD.kp bD .nil pass0 (pa_cons (pv 0) (pa_cons (pe_callB call_len_seq (by rfl) B.len PySem.boot_len (pa_cons (pv 1) pa_nil)) pa_nil))) (fun _ _ => rfl))), ?_⟩
    refine ⟨_, rfl, _, rfl, _, rfl, l, _, rfl, .inl (SqL.of el), p, c, n, _, rfl, pen, hn, by omega, by omega, fun d H' d0 d1 pen' but => ?_⟩
    obtain ⟨j, rfl⟩ := Int.eq_ofNat_of_zero_le d0
    have jl : j < xs.length := by omega
    have lp : l ≠ p := pen.off el (fun _ z => nomatch z)
    exact ⟨l, _, _, _, rfl, rfl, SqL.of (but _ _ el lp), atI_nat (List.getElem?_eq_getElem jl), k j _ H' (List.getElem?_eq_getElem jl) pen' but⟩
end
end Kz
set_option linter.all false
set_option maxRecDepth 100000
set_option maxHeartbeats 0
namespace Kh
open PySem PySem.Spec PyProof.Rows L2 Kz
abbrev Fq : Type := Option (Str × Str × Arguments × FuncBody × Scope × Addr × Addr)
def fq (K : PySem.W.Frag) (a : Addr) : Fq := match K.lookup a with
  | some ⟨_, _, .func fd, _⟩ => some (fd.name, fd.qualname, fd.params, fd.body, fd.scope, fd.globals, fd.builtins)
  | _ => none
def fqv (x q : Str) (st : Stmt) : Fq := some (x, q, defArgs st, .stmts (defBody st), defScope st, mainGlobals, builtinsNs)
theorem fq_is {K : PySem.W.Frag} {a : Addr} {x q : Str} {st : Stmt} (e : fq K a = fqv x q st) : ∃ oc od osl cl dV kV doc pm an cdv ct, K.lookup a = some ⟨oc, od, .func (PySem.W.fnX x q (defArgs st) (defBody st) (defScope st) cl dV kV doc pm an cdv ct), osl⟩ := by
  unfold fq at e
  cases h : K.lookup a with
  | none => rw [h] at e; cases e
  | some o =>
    obtain ⟨oc, od, dt, osl⟩ := o
    rw [h] at e
    cases dt with
    | func fd =>
      obtain ⟨y1, y2, y3, y4, y5, y6, y7, y8, y9, y10, y11, y12, y13, y14, y15⟩ := fd
      have e2 : (some (y1, y2, y3, y4, y5, y6, y15) : Fq) = some (x, q, defArgs st, .stmts (defBody st), defScope st, mainGlobals, builtinsNs) := e
      rw [Option.some.injEq] at e2
      simp only [Prod.mk.injEq] at e2
      obtain ⟨h1, h2, h3, h4, h5, h6, h7⟩ := e2
      subst h1 h2 h3 h4 h5 h6 h7
      exact ⟨oc, od, osl, y7, y8, y9, y10, y11, y12, y13, y14, rfl⟩
    | _ => cases e
/-- a def without defaults or closure -/
def plB : List (Str × Addr) → Value → Bool
  | [], .none => true
  | _, _ => false
def dfB (K : PySem.W.Frag) : List (Str × Addr) → Value → Bool
  | [], .ref T => (match K.lookup T with
    | some ⟨_, _, .seq its _, _⟩ => decide (its.toList = [Value.none])
    | _ => false)
  | _, _ => false
def refA : Value → Addr
  | .ref T => T
  | _ => 0
def fp (K : PySem.W.Frag) (a : Addr) (q : Str) : Bool := PySem.W.keepIn K (.ref a) && (match K.lookup a with
  | some ⟨_, _, .func fd, _⟩ => PySem.W.codeIn K fd.code q && plB fd.closure fd.defaults
  | _ => false)
theorem fp_ok {K : PySem.W.Frag} {a : Addr} {x q : Str} {st : Stmt} (e : fq K a = fqv x q st) (c : fp K a q = true) :
    ∃ oc od osl kV doc pm an cdv ct, K.lookup a = some ⟨oc, od, .func (PySem.W.fnOf x q (defArgs st) (defBody st) (defScope st) .none kV doc pm an cdv ct), osl⟩ ∧ PySem.W.codeIn K cdv q = true ∧ PySem.W.keepIn K (.ref a) = true := by
  obtain ⟨oc, od, osl, cl, dV, kV, doc, pm, an, cdv, ct, l⟩ := fq_is e
  obtain ⟨k, c2⟩ := He.ba c
  rw [l] at c2
  obtain ⟨c3, c4⟩ := He.ba (show (PySem.W.codeIn K cdv q && plB cl dV) = true from c2)
  cases cl with
  | cons z r => cases c4
  | nil =>
    cases dV with
    | none => exact ⟨oc, od, osl, kV, doc, pm, an, cdv, ct, l, c3, k⟩
    | _ => cases c4
/-- a def with the one default None -/
def fd1 (K : PySem.W.Frag) (a : Addr) (q : Str) : Bool := PySem.W.keepIn K (.ref a) && (match K.lookup a with
  | some ⟨_, _, .func fd, _⟩ => PySem.W.codeIn K fd.code q && dfB K fd.closure fd.defaults
  | _ => false)
def dflA (K : PySem.W.Frag) (a : Addr) : Addr := match K.lookup a with
  | some ⟨_, _, .func fd, _⟩ => refA fd.defaults
  | _ => 0
theorem fd1_ok {K : PySem.W.Frag} {a : Addr} {x q : Str} {st : Stmt} (e : fq K a = fqv x q st) (c : fd1 K a q = true) :
    ∃ oc od osl kV doc pm an cdv ct oc2 od2 osl2 n2, K.lookup a = some ⟨oc, od, .func (PySem.W.fnOf x q (defArgs st) (defBody st) (defScope st) (.ref (dflA K a)) kV doc pm an cdv ct), osl⟩ ∧ PySem.W.codeIn K cdv q = true ∧ PySem.W.keepIn K (.ref a) = true ∧
      K.lookup (dflA K a) = some ⟨oc2, od2, .seq #[Value.none] n2, osl2⟩ := by
  obtain ⟨oc, od, osl, cl, dV, kV, doc, pm, an, cdv, ct, l⟩ := fq_is e
  obtain ⟨k, c2⟩ := He.ba c
  have eT : dflA K a = refA dV := by
    unfold dflA
    rw [l]
  rw [l] at c2
  obtain ⟨c3, c4⟩ := He.ba (show (PySem.W.codeIn K cdv q && dfB K cl dV) = true from c2)
  cases cl with
  | cons z r => cases c4
  | nil =>
    cases dV with
    | ref T =>
      have eT2 : dflA K a = T := eT
      rw [eT2]
      have c5 : (match K.lookup T with | some ⟨_, _, .seq its _, _⟩ => decide (its.toList = [Value.none]) | _ => false) = true := c4
      split at c5
      · rename_i oc2 od2 its n osl2 h
        have e3 : its.toList = [Value.none] := of_decide_eq_true c5
        obtain ⟨its⟩ := its
        have e4 : its = [Value.none] := e3
        subst e4
        exact ⟨oc, od, osl, kV, doc, pm, an, cdv, ct, oc2, od2, osl2, n, l, c3, k, h⟩
      · cases c5
    | _ => cases c4
def rfB : Value → Bool
  | .ref _ => true
  | _ => false
def fc (K : PySem.W.Frag) (a : Addr) (q : Str) : Bool := PySem.W.keepIn K (.ref a) && (match K.lookup a with
  | some ⟨_, _, .func fd, _⟩ => PySem.W.codeIn K fd.code q && (plB fd.closure fd.defaults && rfB fd.code)
  | _ => false)
/-- the table of a code object -/
def tabV : Option Value → Addr
  | some (.ref z) => z
  | _ => 0
def tabA (K : PySem.W.Frag) (ca : Addr) : Addr := match K.lookup ca with
  | some ⟨_, _, .fields vs, _⟩ => tabV vs[11]?
  | _ => 0
def tabB (K : PySem.W.Frag) (ca P : Addr) : Bool := match K.lookup ca with
  | some ⟨_, _, .fields vs, _⟩ => (match (vs[11]? : Option Value) with
    | some (.ref z) => decide (z = P)
    | _ => false)
  | _ => false
theorem tabB_ok {K : PySem.W.Frag} {ca P : Addr} (c : tabB K ca P = true) : ∃ oc od vs os, K.lookup ca = some ⟨oc, od, .fields vs, os⟩ ∧ (vs[11]? : Option Value) = some (.ref P) := by
  unfold tabB at c
  split at c
  · rename_i oc od vs os h
    split at c
    · rename_i z h2
      have e : z = P := of_decide_eq_true c
      subst e
      exact ⟨oc, od, vs, os, h, h2⟩
    · cases c
  · cases c
def noB (K : PySem.W.Frag) (P : Addr) : Bool := match K.lookup P with
  | none => true
  | some _ => false
theorem noB_ok {K : PySem.W.Frag} {P : Addr} (c : noB K P = true) : K.lookup P = none := by
  unfold noB at c
  split at c
  · assumption
  · cases c
/-- an empty table -/
def tbB : Option Obj → Bool
  | some ⟨.none, none, .fields vs, sl⟩ => vs.toList.isEmpty && sl.toList.isEmpty
  | _ => false
theorem tbB_ok {o : Option Obj} (c : tbB o = true) : o = some { cls := .none, data := .fields #[] } := by
  unfold tbB at c
  split at c
  · rename_i vs sl
    obtain ⟨c1, c2⟩ := He.ba c
    obtain ⟨vs⟩ := vs
    obtain ⟨sl⟩ := sl
    cases vs with
    | nil =>
      cases sl with
      | nil => rfl
      | cons x r => cases c2
    | cons x r => cases c1
  · cases c
def codA0 (K : PySem.W.Frag) (a : Addr) : Addr := match K.lookup a with
  | some ⟨_, _, .func fd, _⟩ => refA fd.code
  | _ => 0
theorem fc_ok0 {K : PySem.W.Frag} {a : Addr} {x q : Str} {st : Stmt} (e : fq K a = fqv x q st) (c : fc K a q = true) :
    ∃ oc od osl kV doc pm an ct, K.lookup a = some ⟨oc, od, .func (PySem.W.fnOf x q (defArgs st) (defBody st) (defScope st) .none kV doc pm an (.ref (codA0 K a)) ct), osl⟩ ∧ PySem.W.codeIn K (.ref (codA0 K a)) q = true ∧ PySem.W.keepIn K (.ref a) = true := by
  obtain ⟨oc, od, osl, cl, dV, kV, doc, pm, an, cdv, ct, l⟩ := fq_is e
  obtain ⟨k, c2⟩ := He.ba c
  have eC : codA0 K a = refA cdv := by
    unfold codA0
    rw [l]
  rw [l] at c2
  obtain ⟨c3, c4⟩ := He.ba (show (PySem.W.codeIn K cdv q && (plB cl dV && rfB cdv)) = true from c2)
  obtain ⟨c5, c6⟩ := He.ba c4
  cases cl with
  | cons z r => cases c5
  | nil =>
    cases dV with
    | none =>
      cases cdv with
      | ref z =>
        have eC2 : codA0 K a = z := eC
        rw [eC2]
        exact ⟨oc, od, osl, kV, doc, pm, an, ct, l, c3, k⟩
      | _ => cases c6
    | _ => cases c5
/-- an error's own init: its cell, its code -/
def clA : List (Str × Addr) → Addr
  | [z] => z.2
  | _ => 0
def clB : List (Str × Addr) → Value → Value → Bool
  | [z], .none, .ref _ => decide (z.1 = "__class__")
  | _, _, _ => false
def cloA (K : PySem.W.Frag) (a : Addr) : Addr := match K.lookup a with
  | some ⟨_, _, .func fd, _⟩ => clA fd.closure
  | _ => 0
def codA (K : PySem.W.Frag) (a : Addr) : Addr := match K.lookup a with
  | some ⟨_, _, .func fd, _⟩ => refA fd.code
  | _ => 0
theorem fc_ok {K : PySem.W.Frag} {a : Addr} {x q : Str} {st : Stmt} (e : fq K a = fqv x q st) (c : fc K a q = true) :
    ∃ oc od osl kV doc pm an ct, K.lookup a = some ⟨oc, od, .func (PySem.W.fnOf x q (defArgs st) (defBody st) (defScope st) .none kV doc pm an (.ref (codA K a)) ct), osl⟩ ∧ PySem.W.codeIn K (.ref (codA K a)) q = true ∧ PySem.W.keepIn K (.ref a) = true := fc_ok0 e c
def fileB (F : Str) (K : PySem.W.Frag) (ca : Addr) : Bool := match K.lookup ca with
  | some ⟨_, _, .fields vs, _⟩ => (match (vs[2]? : Option Value) with
    | some (.str z _) => F == z
    | _ => false)
  | _ => false
theorem fileB_ok {F : Str} {K : PySem.W.Frag} {ca : Addr} (c : fileB F K ca = true) : ∃ oc od vs osl z tf, K.lookup ca = some ⟨oc, od, .fields vs, osl⟩ ∧ (vs[2]? : Option Value) = some (.str z tf) ∧ (F == z) = true := by
  unfold fileB at c
  split at c
  · rename_i oc od vs osl h
    split at c
    · rename_i z tf h2
      exact ⟨oc, od, vs, osl, z, tf, h, h2, c⟩
    · cases c
  · cases c
def cellB (K : PySem.W.Frag) (cc C : Addr) : Bool := match K.lookup cc with
  | some ⟨_, _, .cell (some (.ref z)), _⟩ => decide (z = C)
  | _ => false
theorem cellB_ok {K : PySem.W.Frag} {cc C : Addr} (c : cellB K cc C = true) : ∃ oc od osl, K.lookup cc = some ⟨oc, od, .cell (some (.ref C)), osl⟩ := by
  unfold cellB at c
  split at c
  · rename_i oc od z osl h
    have e : z = C := of_decide_eq_true c
    subst e
    exact ⟨oc, od, osl, h⟩
  · cases c
def fi (F : Str) (K : PySem.W.Frag) (a C : Addr) (q : Str) : Bool := (match K.lookup a with
  | some ⟨_, _, .func fd, _⟩ => clB fd.closure fd.defaults fd.code
  | _ => false) && (PySem.W.codeIn K (.ref (codA K a)) q && (cellB K (cloA K a) C && fileB F K (codA K a)))
theorem fi_ok {F : Str} {K : PySem.W.Frag} {a C : Addr} {x q : Str} {st : Stmt} (e : fq K a = fqv x q st) (c : fi F K a C q = true) :
    ∃ oc od osl kV doc pm an ct oc2 od2 osl2 oc3 od3 vs osl3 z tf, K.lookup a = some ⟨oc, od, .func (PySem.W.fnX x q (defArgs st) (defBody st) (defScope st) [("__class__", cloA K a)] .none kV doc pm an (.ref (codA K a)) ct), osl⟩ ∧ PySem.W.codeIn K (.ref (codA K a)) q = true ∧
      K.lookup (cloA K a) = some ⟨oc2, od2, .cell (some (.ref C)), osl2⟩ ∧ K.lookup (codA K a) = some ⟨oc3, od3, .fields vs, osl3⟩ ∧ (vs[2]? : Option Value) = some (.str z tf) ∧ (F == z) = true := by
  obtain ⟨oc, od, osl, cl, dV, kV, doc, pm, an, cdv, ct, l⟩ := fq_is e
  obtain ⟨c1, c2⟩ := He.ba c
  obtain ⟨c3, c4⟩ := He.ba c2
  obtain ⟨c5, c6⟩ := He.ba c4
  obtain ⟨oc2, od2, osl2, h2⟩ := cellB_ok c5
  obtain ⟨oc3, od3, vs, osl3, z, tf, h3, h4, h5⟩ := fileB_ok c6
  have eA : cloA K a = clA cl := by
    unfold cloA
    rw [l]
  have eC : codA K a = refA cdv := by
    unfold codA
    rw [l]
  rw [l] at c1
  have c7 : clB cl dV cdv = true := c1
  unfold clB at c7
  split at c7
  · rename_i z1 z2
    obtain ⟨y1, y2⟩ := z1
    have e1 : y1 = "__class__" := of_decide_eq_true c7
    subst e1
    have eA2 : cloA K a = y2 := eA
    have eC2 : codA K a = z2 := eC
    refine ⟨oc, od, osl, kV, doc, pm, an, ct, oc2, od2, osl2, oc3, od3, vs, osl3, z, tf, ?_, c3, h2, h3, h4, h5⟩
    rw [eA2, eC2]
    exact l
  · cases c7
/-- an own error right below B -/
def xc (K : PySem.W.Frag) (C B : Addr) : Bool := match K.lookup C with
  | some ⟨.type "type", _, .cls cd, sl⟩ => (match sl.toList with
    | [_, _, _, _, some (.builtin n), _] => decide (cd.mro = [.ref C, .ref B, .type "ValueError", .type "Exception", .type "BaseException", .type "object"]) && (n == "ValueError.__new__" && (!cd.hasDel && cd.hasDict))
    | _ => false)
  | _ => false
theorem xc_ok {K : PySem.W.Frag} {C B : Addr} (c : xc K C B = true) : ∃ nm q N bs sn sub ab col dd m0 m1 m2 m3 m5, K.lookup C = some (excClassObj nm q C N bs [.ref B, .type "ValueError", .type "Exception", .type "BaseException", .type "object"] true sn sub ab col dd m0 m1 m2 m3 m5 "ValueError.__new__") := by
  unfold xc at c
  split at c
  · rename_i dd cd sl h
    split at c
    · rename_i k0 k1 k2 k3 n k5 hs
      obtain ⟨c1, c2⟩ := He.ba c
      obtain ⟨c3, c4⟩ := He.ba c2
      obtain ⟨c5, c6⟩ := He.ba c4
      obtain ⟨nm, bs, mro, ns, qn, hasD, sn, sub, ab, col, del⟩ := cd
      have e1 : mro = [.ref C, .ref B, .type "ValueError", .type "Exception", .type "BaseException", .type "object"] := of_decide_eq_true c1
      have e2 : n = "ValueError.__new__" := eq_of_beq c3
      have e3 : del = false := by
        cases del
        · rfl
        · cases c5
      have e4 : hasD = true := c6
      subst e1 e2 e3 e4
      have hsl : sl = #[k0, k1, k2, k3, some (.builtin "ValueError.__new__"), k5] := by
        obtain ⟨l⟩ := sl
        simp only at hs
        rw [hs]
      subst hsl
      exact ⟨nm, qn, ns, bs, sn, sub, ab, col, dd, k0, k1, k2, k3, k5, h⟩
    · cases c
  · cases c
def cfB (a : Option PySem.W.CFound) (v : Value) : Bool := match a with
  | some (.val u) => decide (u = v)
  | _ => false
theorem cfB_ok {a : Option PySem.W.CFound} {v : Value} (c : cfB a v = true) : a = some (.val v) := by
  unfold cfB at c
  split at c
  · rw [of_decide_eq_true c]
  · cases c
/-! ### a part of the heap -/
def refsK (o : Obj) : List Addr := match o.data with
  | .dict es _ => es.toList.flatMap fun e => He.refV e.val
  | .func fd => He.refV fd.code ++ He.refV fd.defaults ++ fd.closure.map (·.2)
  | .cls cd => [cd.ns]
  | _ => []
def lv (g : Addr → Option Obj) (as : List Addr) : List Addr := as.flatMap fun a => match g a with
  | some o => refsK o
  | none => []
/-- a list of addresses, written out -/
def frL {α : Type} : List Addr → (List Addr → α) → α
  | [], k => k []
  | a :: r, k => HandSHeadRun.frNat a fun a => frL r fun r => k (a :: r)
def asH (g : Addr → Option Obj) : List Addr := frL (lv g [mainGlobals]) fun l1 => frL (lv g l1) fun l2 => frL (lv g l2) fun l3 => frL (lv g l3) fun l4 => mainGlobals :: cStatics :: (l1 ++ (l2 ++ (l3 ++ l4)))
def kOf (g : Addr → Option Obj) : PySem.W.Frag := He.frG g (asH g)
/-! ### addresses -/
def aB (K : PySem.W.Frag) : Addr := He.ga K "MeanError"
def aCN (K : PySem.W.Frag) : Addr := He.ga K "BadNumber"
def afEN (K : PySem.W.Frag) : Addr := He.ma K (aCN K) "__init__"
def accEN (K : PySem.W.Frag) : Addr := cloA K (afEN K)
def acaEN (K : PySem.W.Frag) : Addr := codA K (afEN K)
def aCR (K : PySem.W.Frag) : Addr := He.ga K "BadRow"
def afER (K : PySem.W.Frag) : Addr := He.ma K (aCR K) "__init__"
def accER (K : PySem.W.Frag) : Addr := cloA K (afER K)
def acaER (K : PySem.W.Frag) : Addr := codA K (afER K)
def aCU (K : PySem.W.Frag) : Addr := He.ga K "Unlike"
def afEU (K : PySem.W.Frag) : Addr := He.ma K (aCU K) "__init__"
def accEU (K : PySem.W.Frag) : Addr := cloA K (afEU K)
def acaEU (K : PySem.W.Frag) : Addr := codA K (afEU K)
def af8 (K : PySem.W.Frag) : Addr := He.ga K "is_whole"
def af9 (K : PySem.W.Frag) : Addr := He.ga K "is_pair"
def af10 (K : PySem.W.Frag) : Addr := He.ga K "is_ratio"
def af11 (K : PySem.W.Frag) : Addr := He.ga K "lowest"
def af12 (K : PySem.W.Frag) : Addr := He.ga K "told"
def af13 (K : PySem.W.Frag) : Addr := He.ga K "plus"
def af14 (K : PySem.W.Frag) : Addr := He.ga K "minus"
def af15 (K : PySem.W.Frag) : Addr := He.ga K "times"
def af16 (K : PySem.W.Frag) : Addr := He.ga K "lower"
def af19 (K : PySem.W.Frag) : Addr := He.ga K "is_row"
def af30 (K : PySem.W.Frag) : Addr := He.ga K "many_needed"
def af31 (K : PySem.W.Frag) : Addr := He.ga K "as_poly"
def af32 (K : PySem.W.Frag) : Addr := He.ga K "number_for"
def af33 (K : PySem.W.Frag) : Addr := He.ga K "added"
def af24 (K : PySem.W.Frag) : Addr := He.ga K "over_one_bottom"
def af34 (K : PySem.W.Frag) : Addr := He.ga K "multiplied"
def af63 (K : PySem.W.Frag) : Addr := He.ga K "_law_pen"
def af64 (K : PySem.W.Frag) : Addr := He.ga K "_law_draw"
def af65 (K : PySem.W.Frag) : Addr := He.ga K "_law_pick"
def af20 (K : PySem.W.Frag) : Addr := He.ga K "ascends"
def af21 (K : PySem.W.Frag) : Addr := He.ga K "told_row"
def af37 (K : PySem.W.Frag) : Addr := He.ga K "is_row_of_polys"
def af38 (K : PySem.W.Frag) : Addr := He.ga K "place_in"
def af39 (K : PySem.W.Frag) : Addr := He.ga K "piece_from"
def af40 (K : PySem.W.Frag) : Addr := He.ga K "knot_limits"
def af41 (K : PySem.W.Frag) : Addr := He.ga K "numbers_and_limits"
def af17 (K : PySem.W.Frag) : Addr := He.ga K "gap_of"
def af22 (K : PySem.W.Frag) : Addr := He.ga K "sum_of"
def af23 (K : PySem.W.Frag) : Addr := He.ga K "are_whole_parts"
def af26 (K : PySem.W.Frag) : Addr := He.ga K "joint_sums"
def af27 (K : PySem.W.Frag) : Addr := He.ga K "joint_sum"
def af45 (K : PySem.W.Frag) : Addr := He.ga K "are_parts"
def af46 (K : PySem.W.Frag) : Addr := He.ga K "is_bounded_kind"
def af47 (K : PySem.W.Frag) : Addr := He.ga K "is_within"
def af48 (K : PySem.W.Frag) : Addr := He.ga K "means_of"
def af56 (K : PySem.W.Frag) : Addr := He.ga K "check_one_stretch"
def af57 (K : PySem.W.Frag) : Addr := He.ga K "functions_of"
def af58 (K : PySem.W.Frag) : Addr := He.ga K "gap_missed"
def af59 (K : PySem.W.Frag) : Addr := He.ga K "check_places"
def af60 (K : PySem.W.Frag) : Addr := He.ga K "missed"
def af25 (K : PySem.W.Frag) : Addr := He.ga K "in_order"
def af49 (K : PySem.W.Frag) : Addr := He.ga K "mean"
def af50 (K : PySem.W.Frag) : Addr := He.ga K "check_ends"
def af51 (K : PySem.W.Frag) : Addr := He.ga K "chance"
def af52 (K : PySem.W.Frag) : Addr := He.ga K "chance_between"
def af53 (K : PySem.W.Frag) : Addr := He.ga K "gathered"
def af54 (K : PySem.W.Frag) : Addr := He.ga K "mixed"
def af55 (K : PySem.W.Frag) : Addr := He.ga K "moved"
def af66 (K : PySem.W.Frag) : Addr := He.ga K "_law_fault"
def af67 (K : PySem.W.Frag) : Addr := He.ga K "_law_number_fault"
def af68 (K : PySem.W.Frag) : Addr := He.ga K "_law_all_right"
def af69 (K : PySem.W.Frag) : Addr := He.ga K "_law_shares_refused"
def aca69 (K : PySem.W.Frag) : Addr := codA K (af69 K)
def af70 (K : PySem.W.Frag) : Addr := He.ga K "_law_told_refused"
def aca70 (K : PySem.W.Frag) : Addr := codA K (af70 K)
def af71 (K : PySem.W.Frag) : Addr := He.ga K "law"
def aca71 (K : PySem.W.Frag) : Addr := codA K (af71 K)
def acP (K : PySem.W.Frag) : Addr := He.ga K "Poly"
def afm0 (K : PySem.W.Frag) : Addr := He.ma K (acP K) "__init__"
def afm1 (K : PySem.W.Frag) : Addr := He.ma K (acP K) "__eq__"
def afm2 (K : PySem.W.Frag) : Addr := He.ma K (acP K) "__add__"
def afm3 (K : PySem.W.Frag) : Addr := He.ma K (acP K) "__radd__"
def afm4 (K : PySem.W.Frag) : Addr := He.ma K (acP K) "__sub__"
def afm5 (K : PySem.W.Frag) : Addr := He.ma K (acP K) "__rsub__"
def afm6 (K : PySem.W.Frag) : Addr := He.ma K (acP K) "__mul__"
def afm7 (K : PySem.W.Frag) : Addr := He.ma K (acP K) "__rmul__"
def afm8 (K : PySem.W.Frag) : Addr := He.ma K (acP K) "__neg__"
def afm9 (K : PySem.W.Frag) : Addr := He.ma K (acP K) "degree"
def afm10 (K : PySem.W.Frag) : Addr := He.ma K (acP K) "at"
def acB (K : PySem.W.Frag) : Addr := He.ga K "Broken"
def afq0 (K : PySem.W.Frag) : Addr := He.ma K (acB K) "__init__"
def afq1 (K : PySem.W.Frag) : Addr := He.ma K (acB K) "__eq__"
def afq2 (K : PySem.W.Frag) : Addr := He.ma K (acB K) "value"
def afq3 (K : PySem.W.Frag) : Addr := He.ma K (acB K) "limits"
def afq5 (K : PySem.W.Frag) : Addr := He.ma K (acB K) "is_upper"
def afq6 (K : PySem.W.Frag) : Addr := He.ma K (acB K) "is_lower"
def acS (K : PySem.W.Frag) : Addr := He.ga K "Share"
def afsq0 (K : PySem.W.Frag) : Addr := He.ma K (acS K) "__init__"
def acT (K : PySem.W.Frag) : Addr := He.ga K "Told"
def aftq0 (K : PySem.W.Frag) : Addr := He.ma K (acT K) "__init__"
def afFi (K : PySem.W.Frag) : Addr := He.ga K "fits"
def aaTFi (K : PySem.W.Frag) : Addr := dflA K (afFi K)
def aP69 (K : PySem.W.Frag) : Addr := tabA K (aca69 K)
def aP70 (K : PySem.W.Frag) : Addr := tabA K (aca70 K)
def aP71 (K : PySem.W.Frag) : Addr := tabA K (aca71 K)
/-! ### facts -/
def t_qaB (K : PySem.W.Frag) : Bool := decide (PySem.W.nsIn K mainGlobals "MeanError" = some (some (.ref (aB K))))
def t_qrB (K : PySem.W.Frag) : Bool := decide (PySem.W.readsIn K (aB K) (.type "type") = true)
def t_qsB (K : PySem.W.Frag) : Bool := decide (PySem.W.specialIn K (.ref (aB K)) "__getattribute__" = some (some (.builtin "type.__getattribute__")))
def t_qfB (K : PySem.W.Frag) : Bool := cfB (PySem.W.findCls K (.ref (aB K)) (.type "type") "__init__") (.builtin "ValueError.__init__")
def t_qcB (K : PySem.W.Frag) : Bool := decide (PySem.W.isClsIn K (aB K) = true)
def t_qtB (K : PySem.W.Frag) : Bool := decide (PySem.W.typeIn K (.ref (aB K)) = some (.type "type"))
def t_hn (K : PySem.W.Frag) : Bool := decide (PySem.W.specialIn K (.builtin "object.__class__") "__get__" = some (some (.builtin "getset_descriptor.__get__")))
def t_ht (K : PySem.W.Frag) : Bool := decide (PySem.W.takesIn K (.builtin "object.__class__") = some true)
def t_aCN (K : PySem.W.Frag) : Bool := decide (PySem.W.nsIn K mainGlobals "BadNumber" = some (some (.ref (aCN K))))
def t_xc_CN (K : PySem.W.Frag) : Bool := decide (xc K (aCN K) (aB K) = true)
def t_saN (K : PySem.W.Frag) : Bool := decide (PySem.W.findIn K (.ref (aCN K)) "__setattr__" = some (some (.builtin "object.__setattr__")))
def t_gaN (K : PySem.W.Frag) : Bool := decide (PySem.W.findIn K (.ref (aCN K)) "__getattribute__" = some (some (.builtin "BaseException.__getattribute__")))
def t_ggN (K : PySem.W.Frag) : Bool := decide (PySem.W.findIn K (.ref (aCN K)) "__getattr__" = some none)
def t_exN (K : PySem.W.Frag) : Bool := decide (PySem.W.subIn K (.ref (aCN K)) (.type "BaseException") = some true)
def t_tyN (K : PySem.W.Frag) : Bool := decide (PySem.W.typeIn K (.ref (aCN K)) = some (.type "type"))
def t_kpN (K : PySem.W.Frag) : Bool := decide (PySem.W.keepIn K (.ref (aCN K)) = true)
def t_hdN (K : PySem.W.Frag) : Bool := decide (PySem.W.hasDictIn K (aCN K) = true)
def t_haN (K : PySem.W.Frag) : Bool := decide (PySem.W.findIn K (.ref (aCN K)) "__class__" = some (some (.builtin "object.__class__")))
def t_hmN (K : PySem.W.Frag) : Bool := decide (PySem.W.mroIn K (aCN K) (.type "object") = some true)
def t_nN1 (K : PySem.W.Frag) : Bool := decide (PySem.W.findIn K (.ref (aCN K)) "what" = some none)
def t_nN2 (K : PySem.W.Frag) : Bool := decide (PySem.W.findIn K (.ref (aCN K)) "number" = some none)
def t_iN (K : PySem.W.Frag) : Bool := decide (PySem.W.findIn K (.ref (aCN K)) "__init__" = some (some (.ref (afEN K))))
def t_tN (K : PySem.W.Frag) : Bool := decide (PySem.W.typeIn K (.ref (afEN K)) = some (.type "function"))
def t_fi_fEN (K : PySem.W.Frag) : Bool := decide (fi PySem.Challenge.pw_toldmeans_k10_shares_refused.main.file K (afEN K) (aCN K) "BadNumber.__init__" = true)
def t_owEN (K : PySem.W.Frag) : Bool := decide (PySem.W.mroIn K (aCN K) (.ref (aCN K)) = some true)
def t_nxEN (K : PySem.W.Frag) : Bool := decide (PySem.W.ks_superIn K (aCN K) (aCN K) "__init__" = some (some (.builtin "ValueError.__init__")))
def t_ivEN (K : PySem.W.Frag) : Bool := decide (PySem.W.subIn K (.ref (aCN K)) (.type "ValueError") = some true)
def t_aCR (K : PySem.W.Frag) : Bool := decide (PySem.W.nsIn K mainGlobals "BadRow" = some (some (.ref (aCR K))))
def t_xc_CR (K : PySem.W.Frag) : Bool := decide (xc K (aCR K) (aB K) = true)
def t_saR (K : PySem.W.Frag) : Bool := decide (PySem.W.findIn K (.ref (aCR K)) "__setattr__" = some (some (.builtin "object.__setattr__")))
def t_gaR (K : PySem.W.Frag) : Bool := decide (PySem.W.findIn K (.ref (aCR K)) "__getattribute__" = some (some (.builtin "BaseException.__getattribute__")))
def t_ggR (K : PySem.W.Frag) : Bool := decide (PySem.W.findIn K (.ref (aCR K)) "__getattr__" = some none)
def t_exR (K : PySem.W.Frag) : Bool := decide (PySem.W.subIn K (.ref (aCR K)) (.type "BaseException") = some true)
def t_tyR (K : PySem.W.Frag) : Bool := decide (PySem.W.typeIn K (.ref (aCR K)) = some (.type "type"))
def t_kpR (K : PySem.W.Frag) : Bool := decide (PySem.W.keepIn K (.ref (aCR K)) = true)
def t_hdR (K : PySem.W.Frag) : Bool := decide (PySem.W.hasDictIn K (aCR K) = true)
def t_haR (K : PySem.W.Frag) : Bool := decide (PySem.W.findIn K (.ref (aCR K)) "__class__" = some (some (.builtin "object.__class__")))
def t_hmR (K : PySem.W.Frag) : Bool := decide (PySem.W.mroIn K (aCR K) (.type "object") = some true)
def t_nR1 (K : PySem.W.Frag) : Bool := decide (PySem.W.findIn K (.ref (aCR K)) "row" = some none)
def t_iR (K : PySem.W.Frag) : Bool := decide (PySem.W.findIn K (.ref (aCR K)) "__init__" = some (some (.ref (afER K))))
def t_tR (K : PySem.W.Frag) : Bool := decide (PySem.W.typeIn K (.ref (afER K)) = some (.type "function"))
def t_fi_fER (K : PySem.W.Frag) : Bool := decide (fi PySem.Challenge.pw_toldmeans_k10_shares_refused.main.file K (afER K) (aCR K) "BadRow.__init__" = true)
def t_owER (K : PySem.W.Frag) : Bool := decide (PySem.W.mroIn K (aCR K) (.ref (aCR K)) = some true)
def t_nxER (K : PySem.W.Frag) : Bool := decide (PySem.W.ks_superIn K (aCR K) (aCR K) "__init__" = some (some (.builtin "ValueError.__init__")))
def t_ivER (K : PySem.W.Frag) : Bool := decide (PySem.W.subIn K (.ref (aCR K)) (.type "ValueError") = some true)
def t_aCU (K : PySem.W.Frag) : Bool := decide (PySem.W.nsIn K mainGlobals "Unlike" = some (some (.ref (aCU K))))
def t_xc_CU (K : PySem.W.Frag) : Bool := decide (xc K (aCU K) (aB K) = true)
def t_saU (K : PySem.W.Frag) : Bool := decide (PySem.W.findIn K (.ref (aCU K)) "__setattr__" = some (some (.builtin "object.__setattr__")))
def t_gaU (K : PySem.W.Frag) : Bool := decide (PySem.W.findIn K (.ref (aCU K)) "__getattribute__" = some (some (.builtin "BaseException.__getattribute__")))
def t_ggU (K : PySem.W.Frag) : Bool := decide (PySem.W.findIn K (.ref (aCU K)) "__getattr__" = some none)
def t_exU (K : PySem.W.Frag) : Bool := decide (PySem.W.subIn K (.ref (aCU K)) (.type "BaseException") = some true)
def t_tyU (K : PySem.W.Frag) : Bool := decide (PySem.W.typeIn K (.ref (aCU K)) = some (.type "type"))
def t_kpU (K : PySem.W.Frag) : Bool := decide (PySem.W.keepIn K (.ref (aCU K)) = true)
def t_hdU (K : PySem.W.Frag) : Bool := decide (PySem.W.hasDictIn K (aCU K) = true)
def t_haU (K : PySem.W.Frag) : Bool := decide (PySem.W.findIn K (.ref (aCU K)) "__class__" = some (some (.builtin "object.__class__")))
def t_hmU (K : PySem.W.Frag) : Bool := decide (PySem.W.mroIn K (aCU K) (.type "object") = some true)
def t_nU1 (K : PySem.W.Frag) : Bool := decide (PySem.W.findIn K (.ref (aCU K)) "what" = some none)
def t_iU (K : PySem.W.Frag) : Bool := decide (PySem.W.findIn K (.ref (aCU K)) "__init__" = some (some (.ref (afEU K))))
def t_tU (K : PySem.W.Frag) : Bool := decide (PySem.W.typeIn K (.ref (afEU K)) = some (.type "function"))
def t_fi_fEU (K : PySem.W.Frag) : Bool := decide (fi PySem.Challenge.pw_toldmeans_k10_shares_refused.main.file K (afEU K) (aCU K) "Unlike.__init__" = true)
def t_owEU (K : PySem.W.Frag) : Bool := decide (PySem.W.mroIn K (aCU K) (.ref (aCU K)) = some true)
def t_nxEU (K : PySem.W.Frag) : Bool := decide (PySem.W.ks_superIn K (aCU K) (aCU K) "__init__" = some (some (.builtin "ValueError.__init__")))
def t_ivEU (K : PySem.W.Frag) : Bool := decide (PySem.W.subIn K (.ref (aCU K)) (.type "ValueError") = some true)
def t_zs (K : PySem.W.Frag) : Bool := decide (PySem.W.nsIn K mainGlobals "super" = some none)
def t_op (K : PySem.W.Frag) : Bool := decide (PySem.W.nsIn K cStatics "thirdparty.any" = some none)
def t_z_len (K : PySem.W.Frag) : Bool := decide (PySem.W.nsIn K mainGlobals "len" = some none)
def t_z_int (K : PySem.W.Frag) : Bool := decide (PySem.W.nsIn K mainGlobals "int" = some none)
def t_z_list (K : PySem.W.Frag) : Bool := decide (PySem.W.nsIn K mainGlobals "list" = some none)
def t_z_range (K : PySem.W.Frag) : Bool := decide (PySem.W.nsIn K mainGlobals "range" = some none)
def t_z_mIsi (K : PySem.W.Frag) : Bool := decide (PySem.W.nsIn K mainGlobals "isinstance" = some none)
def t_z_mBool (K : PySem.W.Frag) : Bool := decide (PySem.W.nsIn K mainGlobals "bool" = some none)
def t_z_mTuple (K : PySem.W.Frag) : Bool := decide (PySem.W.nsIn K mainGlobals "tuple" = some none)
def t_z_mMax (K : PySem.W.Frag) : Bool := decide (PySem.W.nsIn K mainGlobals "max" = some none)
def t_z_mAll (K : PySem.W.Frag) : Bool := decide (PySem.W.nsIn K mainGlobals "all" = some none)
def t_z_mEnum (K : PySem.W.Frag) : Bool := decide (PySem.W.nsIn K mainGlobals "enumerate" = some none)
def t_z_mRev (K : PySem.W.Frag) : Bool := decide (PySem.W.nsIn K mainGlobals "reversed" = some none)
def t_z_mZip (K : PySem.W.Frag) : Bool := decide (PySem.W.nsIn K mainGlobals "zip" = some none)
def t_z_mAbs (K : PySem.W.Frag) : Bool := decide (PySem.W.nsIn K mainGlobals "abs" = some none)
def t_z_mStr (K : PySem.W.Frag) : Bool := decide (PySem.W.nsIn K mainGlobals "str" = some none)
def t_z_mRepr (K : PySem.W.Frag) : Bool := decide (PySem.W.nsIn K mainGlobals "repr" = some none)
def t_z_mDm (K : PySem.W.Frag) : Bool := decide (PySem.W.nsIn K mainGlobals "divmod" = some none)
def t_z_mNi (K : PySem.W.Frag) : Bool := decide (PySem.W.nsIn K mainGlobals "NotImplemented" = some none)
def t_z_mAny (K : PySem.W.Frag) : Bool := decide (PySem.W.nsIn K mainGlobals "any" = some none)
def t_z_mSum (K : PySem.W.Frag) : Bool := decide (PySem.W.nsIn K mainGlobals "sum" = some none)
def t_z_gcd (K : PySem.W.Frag) : Bool := decide (PySem.W.nsIn K mainGlobals "gcd" = some (some (.builtin "math.gcd")))
def t_z_lcm (K : PySem.W.Frag) : Bool := decide (PySem.W.nsIn K mainGlobals "lcm" = some (some (.builtin "math.lcm")))
def t_g8 (K : PySem.W.Frag) : Bool := decide (PySem.W.nsIn K mainGlobals "is_whole" = some (some (.ref (af8 K))))
def t_fp_f8 (K : PySem.W.Frag) : Bool := decide (fp K (af8 K) "is_whole" = true)
def t_g9 (K : PySem.W.Frag) : Bool := decide (PySem.W.nsIn K mainGlobals "is_pair" = some (some (.ref (af9 K))))
def t_fp_f9 (K : PySem.W.Frag) : Bool := decide (fp K (af9 K) "is_pair" = true)
def t_g10 (K : PySem.W.Frag) : Bool := decide (PySem.W.nsIn K mainGlobals "is_ratio" = some (some (.ref (af10 K))))
def t_fp_f10 (K : PySem.W.Frag) : Bool := decide (fp K (af10 K) "is_ratio" = true)
def t_g11 (K : PySem.W.Frag) : Bool := decide (PySem.W.nsIn K mainGlobals "lowest" = some (some (.ref (af11 K))))
def t_fp_f11 (K : PySem.W.Frag) : Bool := decide (fp K (af11 K) "lowest" = true)
def t_g12 (K : PySem.W.Frag) : Bool := decide (PySem.W.nsIn K mainGlobals "told" = some (some (.ref (af12 K))))
def t_fp_f12 (K : PySem.W.Frag) : Bool := decide (fp K (af12 K) "told" = true)
def t_g13 (K : PySem.W.Frag) : Bool := decide (PySem.W.nsIn K mainGlobals "plus" = some (some (.ref (af13 K))))
def t_fp_f13 (K : PySem.W.Frag) : Bool := decide (fp K (af13 K) "plus" = true)
def t_g14 (K : PySem.W.Frag) : Bool := decide (PySem.W.nsIn K mainGlobals "minus" = some (some (.ref (af14 K))))
def t_fp_f14 (K : PySem.W.Frag) : Bool := decide (fp K (af14 K) "minus" = true)
def t_g15 (K : PySem.W.Frag) : Bool := decide (PySem.W.nsIn K mainGlobals "times" = some (some (.ref (af15 K))))
def t_fp_f15 (K : PySem.W.Frag) : Bool := decide (fp K (af15 K) "times" = true)
def t_g16 (K : PySem.W.Frag) : Bool := decide (PySem.W.nsIn K mainGlobals "lower" = some (some (.ref (af16 K))))
def t_fp_f16 (K : PySem.W.Frag) : Bool := decide (fp K (af16 K) "lower" = true)
def t_g19 (K : PySem.W.Frag) : Bool := decide (PySem.W.nsIn K mainGlobals "is_row" = some (some (.ref (af19 K))))
def t_fp_f19 (K : PySem.W.Frag) : Bool := decide (fp K (af19 K) "is_row" = true)
def t_g30 (K : PySem.W.Frag) : Bool := decide (PySem.W.nsIn K mainGlobals "many_needed" = some (some (.ref (af30 K))))
def t_fp_f30 (K : PySem.W.Frag) : Bool := decide (fp K (af30 K) "many_needed" = true)
def t_g31 (K : PySem.W.Frag) : Bool := decide (PySem.W.nsIn K mainGlobals "as_poly" = some (some (.ref (af31 K))))
def t_fp_f31 (K : PySem.W.Frag) : Bool := decide (fp K (af31 K) "as_poly" = true)
def t_g32 (K : PySem.W.Frag) : Bool := decide (PySem.W.nsIn K mainGlobals "number_for" = some (some (.ref (af32 K))))
def t_fp_f32 (K : PySem.W.Frag) : Bool := decide (fp K (af32 K) "number_for" = true)
def t_g33 (K : PySem.W.Frag) : Bool := decide (PySem.W.nsIn K mainGlobals "added" = some (some (.ref (af33 K))))
def t_fp_f33 (K : PySem.W.Frag) : Bool := decide (fp K (af33 K) "added" = true)
def t_g24 (K : PySem.W.Frag) : Bool := decide (PySem.W.nsIn K mainGlobals "over_one_bottom" = some (some (.ref (af24 K))))
def t_fp_f24 (K : PySem.W.Frag) : Bool := decide (fp K (af24 K) "over_one_bottom" = true)
def t_g34 (K : PySem.W.Frag) : Bool := decide (PySem.W.nsIn K mainGlobals "multiplied" = some (some (.ref (af34 K))))
def t_fp_f34 (K : PySem.W.Frag) : Bool := decide (fp K (af34 K) "multiplied" = true)
def t_g63 (K : PySem.W.Frag) : Bool := decide (PySem.W.nsIn K mainGlobals "_law_pen" = some (some (.ref (af63 K))))
def t_fp_f63 (K : PySem.W.Frag) : Bool := decide (fp K (af63 K) "_law_pen" = true)
def t_g64 (K : PySem.W.Frag) : Bool := decide (PySem.W.nsIn K mainGlobals "_law_draw" = some (some (.ref (af64 K))))
def t_fp_f64 (K : PySem.W.Frag) : Bool := decide (fp K (af64 K) "_law_draw" = true)
def t_g65 (K : PySem.W.Frag) : Bool := decide (PySem.W.nsIn K mainGlobals "_law_pick" = some (some (.ref (af65 K))))
def t_fp_f65 (K : PySem.W.Frag) : Bool := decide (fp K (af65 K) "_law_pick" = true)
def t_g20 (K : PySem.W.Frag) : Bool := decide (PySem.W.nsIn K mainGlobals "ascends" = some (some (.ref (af20 K))))
def t_fp_f20 (K : PySem.W.Frag) : Bool := decide (fp K (af20 K) "ascends" = true)
def t_g21 (K : PySem.W.Frag) : Bool := decide (PySem.W.nsIn K mainGlobals "told_row" = some (some (.ref (af21 K))))
def t_fp_f21 (K : PySem.W.Frag) : Bool := decide (fp K (af21 K) "told_row" = true)
def t_g37 (K : PySem.W.Frag) : Bool := decide (PySem.W.nsIn K mainGlobals "is_row_of_polys" = some (some (.ref (af37 K))))
def t_fp_f37 (K : PySem.W.Frag) : Bool := decide (fp K (af37 K) "is_row_of_polys" = true)
def t_g38 (K : PySem.W.Frag) : Bool := decide (PySem.W.nsIn K mainGlobals "place_in" = some (some (.ref (af38 K))))
def t_fp_f38 (K : PySem.W.Frag) : Bool := decide (fp K (af38 K) "place_in" = true)
def t_g39 (K : PySem.W.Frag) : Bool := decide (PySem.W.nsIn K mainGlobals "piece_from" = some (some (.ref (af39 K))))
def t_fp_f39 (K : PySem.W.Frag) : Bool := decide (fp K (af39 K) "piece_from" = true)
def t_g40 (K : PySem.W.Frag) : Bool := decide (PySem.W.nsIn K mainGlobals "knot_limits" = some (some (.ref (af40 K))))
def t_fp_f40 (K : PySem.W.Frag) : Bool := decide (fp K (af40 K) "knot_limits" = true)
def t_g41 (K : PySem.W.Frag) : Bool := decide (PySem.W.nsIn K mainGlobals "numbers_and_limits" = some (some (.ref (af41 K))))
def t_fp_f41 (K : PySem.W.Frag) : Bool := decide (fp K (af41 K) "numbers_and_limits" = true)
def t_g17 (K : PySem.W.Frag) : Bool := decide (PySem.W.nsIn K mainGlobals "gap_of" = some (some (.ref (af17 K))))
def t_fp_f17 (K : PySem.W.Frag) : Bool := decide (fp K (af17 K) "gap_of" = true)
def t_g22 (K : PySem.W.Frag) : Bool := decide (PySem.W.nsIn K mainGlobals "sum_of" = some (some (.ref (af22 K))))
def t_fp_f22 (K : PySem.W.Frag) : Bool := decide (fp K (af22 K) "sum_of" = true)
def t_g23 (K : PySem.W.Frag) : Bool := decide (PySem.W.nsIn K mainGlobals "are_whole_parts" = some (some (.ref (af23 K))))
def t_fp_f23 (K : PySem.W.Frag) : Bool := decide (fp K (af23 K) "are_whole_parts" = true)
def t_g26 (K : PySem.W.Frag) : Bool := decide (PySem.W.nsIn K mainGlobals "joint_sums" = some (some (.ref (af26 K))))
def t_fp_f26 (K : PySem.W.Frag) : Bool := decide (fp K (af26 K) "joint_sums" = true)
def t_g27 (K : PySem.W.Frag) : Bool := decide (PySem.W.nsIn K mainGlobals "joint_sum" = some (some (.ref (af27 K))))
def t_fp_f27 (K : PySem.W.Frag) : Bool := decide (fp K (af27 K) "joint_sum" = true)
def t_g45 (K : PySem.W.Frag) : Bool := decide (PySem.W.nsIn K mainGlobals "are_parts" = some (some (.ref (af45 K))))
def t_fp_f45 (K : PySem.W.Frag) : Bool := decide (fp K (af45 K) "are_parts" = true)
def t_g46 (K : PySem.W.Frag) : Bool := decide (PySem.W.nsIn K mainGlobals "is_bounded_kind" = some (some (.ref (af46 K))))
def t_fp_f46 (K : PySem.W.Frag) : Bool := decide (fp K (af46 K) "is_bounded_kind" = true)
def t_g47 (K : PySem.W.Frag) : Bool := decide (PySem.W.nsIn K mainGlobals "is_within" = some (some (.ref (af47 K))))
def t_fp_f47 (K : PySem.W.Frag) : Bool := decide (fp K (af47 K) "is_within" = true)
def t_g48 (K : PySem.W.Frag) : Bool := decide (PySem.W.nsIn K mainGlobals "means_of" = some (some (.ref (af48 K))))
def t_fp_f48 (K : PySem.W.Frag) : Bool := decide (fp K (af48 K) "means_of" = true)
def t_g56 (K : PySem.W.Frag) : Bool := decide (PySem.W.nsIn K mainGlobals "check_one_stretch" = some (some (.ref (af56 K))))
def t_fp_f56 (K : PySem.W.Frag) : Bool := decide (fp K (af56 K) "check_one_stretch" = true)
def t_g57 (K : PySem.W.Frag) : Bool := decide (PySem.W.nsIn K mainGlobals "functions_of" = some (some (.ref (af57 K))))
def t_fp_f57 (K : PySem.W.Frag) : Bool := decide (fp K (af57 K) "functions_of" = true)
def t_g58 (K : PySem.W.Frag) : Bool := decide (PySem.W.nsIn K mainGlobals "gap_missed" = some (some (.ref (af58 K))))
def t_fp_f58 (K : PySem.W.Frag) : Bool := decide (fp K (af58 K) "gap_missed" = true)
def t_g59 (K : PySem.W.Frag) : Bool := decide (PySem.W.nsIn K mainGlobals "check_places" = some (some (.ref (af59 K))))
def t_fp_f59 (K : PySem.W.Frag) : Bool := decide (fp K (af59 K) "check_places" = true)
def t_g60 (K : PySem.W.Frag) : Bool := decide (PySem.W.nsIn K mainGlobals "missed" = some (some (.ref (af60 K))))
def t_fp_f60 (K : PySem.W.Frag) : Bool := decide (fp K (af60 K) "missed" = true)
def t_g25 (K : PySem.W.Frag) : Bool := decide (PySem.W.nsIn K mainGlobals "in_order" = some (some (.ref (af25 K))))
def t_fp_f25 (K : PySem.W.Frag) : Bool := decide (fp K (af25 K) "in_order" = true)
def t_g49 (K : PySem.W.Frag) : Bool := decide (PySem.W.nsIn K mainGlobals "mean" = some (some (.ref (af49 K))))
def t_fp_f49 (K : PySem.W.Frag) : Bool := decide (fp K (af49 K) "mean" = true)
def t_g50 (K : PySem.W.Frag) : Bool := decide (PySem.W.nsIn K mainGlobals "check_ends" = some (some (.ref (af50 K))))
def t_fp_f50 (K : PySem.W.Frag) : Bool := decide (fp K (af50 K) "check_ends" = true)
def t_g51 (K : PySem.W.Frag) : Bool := decide (PySem.W.nsIn K mainGlobals "chance" = some (some (.ref (af51 K))))
def t_fp_f51 (K : PySem.W.Frag) : Bool := decide (fp K (af51 K) "chance" = true)
def t_g52 (K : PySem.W.Frag) : Bool := decide (PySem.W.nsIn K mainGlobals "chance_between" = some (some (.ref (af52 K))))
def t_fp_f52 (K : PySem.W.Frag) : Bool := decide (fp K (af52 K) "chance_between" = true)
def t_g53 (K : PySem.W.Frag) : Bool := decide (PySem.W.nsIn K mainGlobals "gathered" = some (some (.ref (af53 K))))
def t_fp_f53 (K : PySem.W.Frag) : Bool := decide (fp K (af53 K) "gathered" = true)
def t_g54 (K : PySem.W.Frag) : Bool := decide (PySem.W.nsIn K mainGlobals "mixed" = some (some (.ref (af54 K))))
def t_fp_f54 (K : PySem.W.Frag) : Bool := decide (fp K (af54 K) "mixed" = true)
def t_g55 (K : PySem.W.Frag) : Bool := decide (PySem.W.nsIn K mainGlobals "moved" = some (some (.ref (af55 K))))
def t_fp_f55 (K : PySem.W.Frag) : Bool := decide (fp K (af55 K) "moved" = true)
def t_g66 (K : PySem.W.Frag) : Bool := decide (PySem.W.nsIn K mainGlobals "_law_fault" = some (some (.ref (af66 K))))
def t_fp_f66 (K : PySem.W.Frag) : Bool := decide (fp K (af66 K) "_law_fault" = true)
def t_g67 (K : PySem.W.Frag) : Bool := decide (PySem.W.nsIn K mainGlobals "_law_number_fault" = some (some (.ref (af67 K))))
def t_fp_f67 (K : PySem.W.Frag) : Bool := decide (fp K (af67 K) "_law_number_fault" = true)
def t_g68 (K : PySem.W.Frag) : Bool := decide (PySem.W.nsIn K mainGlobals "_law_all_right" = some (some (.ref (af68 K))))
def t_fp_f68 (K : PySem.W.Frag) : Bool := decide (fp K (af68 K) "_law_all_right" = true)
def t_g69 (K : PySem.W.Frag) : Bool := decide (PySem.W.nsIn K mainGlobals "_law_shares_refused" = some (some (.ref (af69 K))))
def t_fc_f69 (K : PySem.W.Frag) : Bool := decide (fc K (af69 K) "_law_shares_refused" = true)
def t_g70 (K : PySem.W.Frag) : Bool := decide (PySem.W.nsIn K mainGlobals "_law_told_refused" = some (some (.ref (af70 K))))
def t_fc_f70 (K : PySem.W.Frag) : Bool := decide (fc K (af70 K) "_law_told_refused" = true)
def t_g71 (K : PySem.W.Frag) : Bool := decide (PySem.W.nsIn K mainGlobals "law" = some (some (.ref (af71 K))))
def t_fc_f71 (K : PySem.W.Frag) : Bool := decide (fc K (af71 K) "law" = true)
def t_pG (K : PySem.W.Frag) : Bool := decide (PySem.W.nsIn K mainGlobals "Poly" = some (some (.ref (acP K))))
def t_p1 (K : PySem.W.Frag) : Bool := decide (PySem.W.plainGet K (acP K) Str.empty = true)
def t_p2 (K : PySem.W.Frag) : Bool := decide (PySem.W.hasDictIn K (acP K) = true)
def t_p3 (K : PySem.W.Frag) : Bool := decide (PySem.W.plainOver K (acP K) = true)
def t_p4 (K : PySem.W.Frag) : Bool := decide (PySem.W.findIn K (.ref (acP K)) "__setattr__" = some (some (.builtin "object.__setattr__")))
def t_p5 (K : PySem.W.Frag) : Bool := decide (PySem.W.findIn K (.ref (acP K)) "numbers" = some none)
def t_p6 (K : PySem.W.Frag) : Bool := decide (PySem.W.findIn K (.ref (acP K)) "__class__" = some (some (.builtin "object.__class__")))
def t_p7 (K : PySem.W.Frag) : Bool := decide (PySem.W.mroIn K (acP K) (.type "object") = some true)
def t_p8 (K : PySem.W.Frag) : Bool := decide (PySem.W.makesIn K (acP K) = true)
def t_p9 (K : PySem.W.Frag) : Bool := decide (PySem.W.keepIn K (.ref (acP K)) = true)
def t_pa (K : PySem.W.Frag) : Bool := decide (PySem.W.selfFirst K (acP K) = true)
def t_pn_int (K : PySem.W.Frag) : Bool := decide (PySem.W.kitOne K (.type "int") (.ref (acP K)) = some false)
def t_pn_bool (K : PySem.W.Frag) : Bool := decide (PySem.W.kitOne K (.type "bool") (.ref (acP K)) = some false)
def t_pn_str (K : PySem.W.Frag) : Bool := decide (PySem.W.kitOne K (.type "str") (.ref (acP K)) = some false)
def t_pn_NoneType (K : PySem.W.Frag) : Bool := decide (PySem.W.kitOne K (.type "NoneType") (.ref (acP K)) = some false)
def t_pn_tuple (K : PySem.W.Frag) : Bool := decide (PySem.W.kitOne K (.type "tuple") (.ref (acP K)) = some false)
def t_pn_list (K : PySem.W.Frag) : Bool := decide (PySem.W.kitOne K (.type "list") (.ref (acP K)) = some false)
def t_pn_dict (K : PySem.W.Frag) : Bool := decide (PySem.W.kitOne K (.type "dict") (.ref (acP K)) = some false)
def t_pi1 (K : PySem.W.Frag) : Bool := decide (PySem.W.subIn K (.type "int") (.ref (acP K)) = some false)
def t_pi2 (K : PySem.W.Frag) : Bool := decide (PySem.W.subIn K (.ref (acP K)) (.type "int") = some false)
def t_pt1 (K : PySem.W.Frag) : Bool := decide (PySem.W.subIn K (.type "tuple") (.ref (acP K)) = some false)
def t_pt2 (K : PySem.W.Frag) : Bool := decide (PySem.W.subIn K (.ref (acP K)) (.type "tuple") = some false)
def t_mem0 (K : PySem.W.Frag) : Bool := decide (PySem.W.findIn K (.ref (acP K)) "__init__" = some (some (.ref (afm0 K))))
def t_ism0 (K : PySem.W.Frag) : Bool := decide (PySem.W.isFn K (.ref (afm0 K)) = true)
def t_fp_fm0 (K : PySem.W.Frag) : Bool := decide (fp K (afm0 K) "Poly.__init__" = true)
def t_mem1 (K : PySem.W.Frag) : Bool := decide (PySem.W.findIn K (.ref (acP K)) "__eq__" = some (some (.ref (afm1 K))))
def t_ism1 (K : PySem.W.Frag) : Bool := decide (PySem.W.isFn K (.ref (afm1 K)) = true)
def t_fp_fm1 (K : PySem.W.Frag) : Bool := decide (fp K (afm1 K) "Poly.__eq__" = true)
def t_mem2 (K : PySem.W.Frag) : Bool := decide (PySem.W.findIn K (.ref (acP K)) "__add__" = some (some (.ref (afm2 K))))
def t_ism2 (K : PySem.W.Frag) : Bool := decide (PySem.W.isFn K (.ref (afm2 K)) = true)
def t_fp_fm2 (K : PySem.W.Frag) : Bool := decide (fp K (afm2 K) "Poly.__add__" = true)
def t_mem3 (K : PySem.W.Frag) : Bool := decide (PySem.W.findIn K (.ref (acP K)) "__radd__" = some (some (.ref (afm3 K))))
def t_ism3 (K : PySem.W.Frag) : Bool := decide (PySem.W.isFn K (.ref (afm3 K)) = true)
def t_fp_fm3 (K : PySem.W.Frag) : Bool := decide (fp K (afm3 K) "Poly.__radd__" = true)
def t_mem4 (K : PySem.W.Frag) : Bool := decide (PySem.W.findIn K (.ref (acP K)) "__sub__" = some (some (.ref (afm4 K))))
def t_ism4 (K : PySem.W.Frag) : Bool := decide (PySem.W.isFn K (.ref (afm4 K)) = true)
def t_fp_fm4 (K : PySem.W.Frag) : Bool := decide (fp K (afm4 K) "Poly.__sub__" = true)
def t_mem5 (K : PySem.W.Frag) : Bool := decide (PySem.W.findIn K (.ref (acP K)) "__rsub__" = some (some (.ref (afm5 K))))
def t_ism5 (K : PySem.W.Frag) : Bool := decide (PySem.W.isFn K (.ref (afm5 K)) = true)
def t_fp_fm5 (K : PySem.W.Frag) : Bool := decide (fp K (afm5 K) "Poly.__rsub__" = true)
def t_mem6 (K : PySem.W.Frag) : Bool := decide (PySem.W.findIn K (.ref (acP K)) "__mul__" = some (some (.ref (afm6 K))))
def t_ism6 (K : PySem.W.Frag) : Bool := decide (PySem.W.isFn K (.ref (afm6 K)) = true)
def t_fp_fm6 (K : PySem.W.Frag) : Bool := decide (fp K (afm6 K) "Poly.__mul__" = true)
def t_mem7 (K : PySem.W.Frag) : Bool := decide (PySem.W.findIn K (.ref (acP K)) "__rmul__" = some (some (.ref (afm7 K))))
def t_ism7 (K : PySem.W.Frag) : Bool := decide (PySem.W.isFn K (.ref (afm7 K)) = true)
def t_fp_fm7 (K : PySem.W.Frag) : Bool := decide (fp K (afm7 K) "Poly.__rmul__" = true)
def t_mem8 (K : PySem.W.Frag) : Bool := decide (PySem.W.findIn K (.ref (acP K)) "__neg__" = some (some (.ref (afm8 K))))
def t_ism8 (K : PySem.W.Frag) : Bool := decide (PySem.W.isFn K (.ref (afm8 K)) = true)
def t_fp_fm8 (K : PySem.W.Frag) : Bool := decide (fp K (afm8 K) "Poly.__neg__" = true)
def t_mem9 (K : PySem.W.Frag) : Bool := decide (PySem.W.findIn K (.ref (acP K)) "degree" = some (some (.ref (afm9 K))))
def t_ism9 (K : PySem.W.Frag) : Bool := decide (PySem.W.isFn K (.ref (afm9 K)) = true)
def t_fp_fm9 (K : PySem.W.Frag) : Bool := decide (fp K (afm9 K) "Poly.degree" = true)
def t_mem10 (K : PySem.W.Frag) : Bool := decide (PySem.W.findIn K (.ref (acP K)) "at" = some (some (.ref (afm10 K))))
def t_ism10 (K : PySem.W.Frag) : Bool := decide (PySem.W.isFn K (.ref (afm10 K)) = true)
def t_fp_fm10 (K : PySem.W.Frag) : Bool := decide (fp K (afm10 K) "Poly.at" = true)
def t_bG (K : PySem.W.Frag) : Bool := decide (PySem.W.nsIn K mainGlobals "Broken" = some (some (.ref (acB K))))
def t_b1 (K : PySem.W.Frag) : Bool := decide (PySem.W.plainGet K (acB K) Str.empty = true)
def t_b2 (K : PySem.W.Frag) : Bool := decide (PySem.W.hasDictIn K (acB K) = true)
def t_b3 (K : PySem.W.Frag) : Bool := decide (PySem.W.plainOver K (acB K) = true)
def t_b4 (K : PySem.W.Frag) : Bool := decide (PySem.W.findIn K (.ref (acB K)) "__setattr__" = some (some (.builtin "object.__setattr__")))
def t_b5 (K : PySem.W.Frag) : Bool := decide (PySem.W.findIn K (.ref (acB K)) "knots" = some none)
def t_b6 (K : PySem.W.Frag) : Bool := decide (PySem.W.findIn K (.ref (acB K)) "polys" = some none)
def t_b7 (K : PySem.W.Frag) : Bool := decide (PySem.W.findIn K (.ref (acB K)) "at" = some none)
def t_yb8 (K : PySem.W.Frag) : Bool := decide (PySem.W.findIn K (.ref (acB K)) "__class__" = some (some (.builtin "object.__class__")))
def t_yb9 (K : PySem.W.Frag) : Bool := decide (PySem.W.mroIn K (acB K) (.type "object") = some true)
def t_ba (K : PySem.W.Frag) : Bool := decide (PySem.W.makesIn K (acB K) = true)
def t_bb (K : PySem.W.Frag) : Bool := decide (PySem.W.keepIn K (.ref (acB K)) = true)
def t_bn_int (K : PySem.W.Frag) : Bool := decide (PySem.W.kitOne K (.type "int") (.ref (acB K)) = some false)
def t_bn_bool (K : PySem.W.Frag) : Bool := decide (PySem.W.kitOne K (.type "bool") (.ref (acB K)) = some false)
def t_bn_str (K : PySem.W.Frag) : Bool := decide (PySem.W.kitOne K (.type "str") (.ref (acB K)) = some false)
def t_bn_NoneType (K : PySem.W.Frag) : Bool := decide (PySem.W.kitOne K (.type "NoneType") (.ref (acB K)) = some false)
def t_bn_tuple (K : PySem.W.Frag) : Bool := decide (PySem.W.kitOne K (.type "tuple") (.ref (acB K)) = some false)
def t_bn_list (K : PySem.W.Frag) : Bool := decide (PySem.W.kitOne K (.type "list") (.ref (acB K)) = some false)
def t_bn_dict (K : PySem.W.Frag) : Bool := decide (PySem.W.kitOne K (.type "dict") (.ref (acB K)) = some false)
def t_bi1 (K : PySem.W.Frag) : Bool := decide (PySem.W.subIn K (.type "int") (.ref (acB K)) = some false)
def t_bt1 (K : PySem.W.Frag) : Bool := decide (PySem.W.subIn K (.type "tuple") (.ref (acB K)) = some false)
def t_meq0 (K : PySem.W.Frag) : Bool := decide (PySem.W.findIn K (.ref (acB K)) "__init__" = some (some (.ref (afq0 K))))
def t_isq0 (K : PySem.W.Frag) : Bool := decide (PySem.W.isFn K (.ref (afq0 K)) = true)
def t_fp_fq0 (K : PySem.W.Frag) : Bool := decide (fp K (afq0 K) "Broken.__init__" = true)
def t_meq1 (K : PySem.W.Frag) : Bool := decide (PySem.W.findIn K (.ref (acB K)) "__eq__" = some (some (.ref (afq1 K))))
def t_isq1 (K : PySem.W.Frag) : Bool := decide (PySem.W.isFn K (.ref (afq1 K)) = true)
def t_fp_fq1 (K : PySem.W.Frag) : Bool := decide (fp K (afq1 K) "Broken.__eq__" = true)
def t_meq2 (K : PySem.W.Frag) : Bool := decide (PySem.W.findIn K (.ref (acB K)) "value" = some (some (.ref (afq2 K))))
def t_isq2 (K : PySem.W.Frag) : Bool := decide (PySem.W.isFn K (.ref (afq2 K)) = true)
def t_fp_fq2 (K : PySem.W.Frag) : Bool := decide (fp K (afq2 K) "Broken.value" = true)
def t_meq3 (K : PySem.W.Frag) : Bool := decide (PySem.W.findIn K (.ref (acB K)) "limits" = some (some (.ref (afq3 K))))
def t_isq3 (K : PySem.W.Frag) : Bool := decide (PySem.W.isFn K (.ref (afq3 K)) = true)
def t_fp_fq3 (K : PySem.W.Frag) : Bool := decide (fp K (afq3 K) "Broken.limits" = true)
def t_meq5 (K : PySem.W.Frag) : Bool := decide (PySem.W.findIn K (.ref (acB K)) "is_upper" = some (some (.ref (afq5 K))))
def t_isq5 (K : PySem.W.Frag) : Bool := decide (PySem.W.isFn K (.ref (afq5 K)) = true)
def t_fp_fq5 (K : PySem.W.Frag) : Bool := decide (fp K (afq5 K) "Broken.is_upper" = true)
def t_meq6 (K : PySem.W.Frag) : Bool := decide (PySem.W.findIn K (.ref (acB K)) "is_lower" = some (some (.ref (afq6 K))))
def t_isq6 (K : PySem.W.Frag) : Bool := decide (PySem.W.isFn K (.ref (afq6 K)) = true)
def t_fp_fq6 (K : PySem.W.Frag) : Bool := decide (fp K (afq6 K) "Broken.is_lower" = true)
def t_osG (K : PySem.W.Frag) : Bool := decide (PySem.W.nsIn K mainGlobals "Share" = some (some (.ref (acS K))))
def t_os1 (K : PySem.W.Frag) : Bool := decide (PySem.W.plainGet K (acS K) Str.empty = true)
def t_os2 (K : PySem.W.Frag) : Bool := decide (PySem.W.hasDictIn K (acS K) = true)
def t_os3 (K : PySem.W.Frag) : Bool := decide (PySem.W.plainOver K (acS K) = true)
def t_os4 (K : PySem.W.Frag) : Bool := decide (PySem.W.findIn K (.ref (acS K)) "__setattr__" = some (some (.builtin "object.__setattr__")))
def t_osf0 (K : PySem.W.Frag) : Bool := decide (PySem.W.findIn K (.ref (acS K)) "places" = some none)
def t_osf1 (K : PySem.W.Frag) : Bool := decide (PySem.W.findIn K (.ref (acS K)) "parts" = some none)
def t_osa (K : PySem.W.Frag) : Bool := decide (PySem.W.makesIn K (acS K) = true)
def t_osb (K : PySem.W.Frag) : Bool := decide (PySem.W.keepIn K (.ref (acS K)) = true)
def t_mesq0 (K : PySem.W.Frag) : Bool := decide (PySem.W.findIn K (.ref (acS K)) "__init__" = some (some (.ref (afsq0 K))))
def t_issq0 (K : PySem.W.Frag) : Bool := decide (PySem.W.isFn K (.ref (afsq0 K)) = true)
def t_fp_fsq0 (K : PySem.W.Frag) : Bool := decide (fp K (afsq0 K) "Share.__init__" = true)
def t_otG (K : PySem.W.Frag) : Bool := decide (PySem.W.nsIn K mainGlobals "Told" = some (some (.ref (acT K))))
def t_ot1 (K : PySem.W.Frag) : Bool := decide (PySem.W.plainGet K (acT K) Str.empty = true)
def t_ot2 (K : PySem.W.Frag) : Bool := decide (PySem.W.hasDictIn K (acT K) = true)
def t_ot3 (K : PySem.W.Frag) : Bool := decide (PySem.W.plainOver K (acT K) = true)
def t_ot4 (K : PySem.W.Frag) : Bool := decide (PySem.W.findIn K (.ref (acT K)) "__setattr__" = some (some (.builtin "object.__setattr__")))
def t_otf0 (K : PySem.W.Frag) : Bool := decide (PySem.W.findIn K (.ref (acT K)) "function" = some none)
def t_otf1 (K : PySem.W.Frag) : Bool := decide (PySem.W.findIn K (.ref (acT K)) "least" = some none)
def t_otf2 (K : PySem.W.Frag) : Bool := decide (PySem.W.findIn K (.ref (acT K)) "most" = some none)
def t_ota (K : PySem.W.Frag) : Bool := decide (PySem.W.makesIn K (acT K) = true)
def t_otb (K : PySem.W.Frag) : Bool := decide (PySem.W.keepIn K (.ref (acT K)) = true)
def t_metq0 (K : PySem.W.Frag) : Bool := decide (PySem.W.findIn K (.ref (acT K)) "__init__" = some (some (.ref (aftq0 K))))
def t_istq0 (K : PySem.W.Frag) : Bool := decide (PySem.W.isFn K (.ref (aftq0 K)) = true)
def t_fp_ftq0 (K : PySem.W.Frag) : Bool := decide (fp K (aftq0 K) "Told.__init__" = true)
def t_gFi (K : PySem.W.Frag) : Bool := decide (PySem.W.nsIn K mainGlobals "fits" = some (some (.ref (afFi K))))
def t_fd_fFi (K : PySem.W.Frag) : Bool := decide (fd1 K (afFi K) "fits" = true)
def t_tb_P69 (K : PySem.W.Frag) : Bool := decide (tabB K (aca69 K) (aP69 K) = true)
def t_h69 (K : PySem.W.Frag) : Bool := decide (PySem.W.codeHdIn K (aca69 K) (aP69 K) = true)
def t_nn_P69 (K : PySem.W.Frag) : Bool := decide (noB K (aP69 K) = true)
def t_tb_P70 (K : PySem.W.Frag) : Bool := decide (tabB K (aca70 K) (aP70 K) = true)
def t_h70 (K : PySem.W.Frag) : Bool := decide (PySem.W.codeHdIn K (aca70 K) (aP70 K) = true)
def t_nn_P70 (K : PySem.W.Frag) : Bool := decide (noB K (aP70 K) = true)
def t_tb_P71 (K : PySem.W.Frag) : Bool := decide (tabB K (aca71 K) (aP71 K) = true)
def t_h71 (K : PySem.W.Frag) : Bool := decide (PySem.W.codeHdIn K (aca71 K) (aP71 K) = true)
def t_nn_P71 (K : PySem.W.Frag) : Bool := decide (noB K (aP71 K) = true)
def t_nPa (K : PySem.W.Frag) : Bool := decide ((aP69 K) ≠ (aP70 K))
def t_nPb (K : PySem.W.Frag) : Bool := decide ((aP69 K) ≠ (aP71 K))
def t_nPc (K : PySem.W.Frag) : Bool := decide ((aP70 K) ≠ (aP71 K))
def t_moT (K : PySem.W.Frag) : Bool := decide (PySem.W.mroIn K (acT K) (.type "object") = some true)
def t_eqT (K : PySem.W.Frag) : Bool := decide (PySem.W.findIn K (.ref (acT K)) "__eq__" = some (some (.builtin "object.__eq__")))
def t_nbN (K : PySem.W.Frag) : Bool := decide ((aCN K) ≠ (aB K))
def t_nbR (K : PySem.W.Frag) : Bool := decide ((aCR K) ≠ (aB K))
def t_neRN (K : PySem.W.Frag) : Bool := decide ((aCR K) ≠ (aCN K))
def t_nbU (K : PySem.W.Frag) : Bool := decide ((aCU K) ≠ (aB K))
def t_neUN (K : PySem.W.Frag) : Bool := decide ((aCU K) ≠ (aCN K))
def t_neUR (K : PySem.W.Frag) : Bool := decide ((aCU K) ≠ (aCR K))
def fa0 : List (PySem.W.Frag → Bool) := [t_qaB, t_qrB, t_qsB, t_qfB, t_qcB, t_qtB, t_hn, t_ht, t_aCN, t_xc_CN, t_saN, t_gaN, t_ggN, t_exN, t_tyN, t_kpN, t_hdN, t_haN, t_hmN, t_nN1, t_nN2, t_iN, t_tN, t_fi_fEN, t_owEN, t_nxEN, t_ivEN, t_aCR, t_xc_CR, t_saR]
def fa1 : List (PySem.W.Frag → Bool) := [t_gaR, t_ggR, t_exR, t_tyR, t_kpR, t_hdR, t_haR, t_hmR, t_nR1, t_iR, t_tR, t_fi_fER, t_owER, t_nxER, t_ivER, t_aCU, t_xc_CU, t_saU, t_gaU, t_ggU, t_exU, t_tyU, t_kpU, t_hdU, t_haU, t_hmU, t_nU1, t_iU, t_tU, t_fi_fEU]
def fa2 : List (PySem.W.Frag → Bool) := [t_owEU, t_nxEU, t_ivEU, t_zs, t_op, t_z_len, t_z_int, t_z_list, t_z_range, t_z_mIsi, t_z_mBool, t_z_mTuple, t_z_mMax, t_z_mAll, t_z_mEnum, t_z_mRev, t_z_mZip, t_z_mAbs, t_z_mStr, t_z_mRepr, t_z_mDm, t_z_mNi, t_z_mAny, t_z_mSum, t_z_gcd, t_z_lcm, t_g8, t_fp_f8, t_g9, t_fp_f9]
def fa3 : List (PySem.W.Frag → Bool) := [t_g10, t_fp_f10, t_g11, t_fp_f11, t_g12, t_fp_f12, t_g13, t_fp_f13, t_g14, t_fp_f14, t_g15, t_fp_f15, t_g16, t_fp_f16, t_g19, t_fp_f19, t_g30, t_fp_f30, t_g31, t_fp_f31, t_g32, t_fp_f32, t_g33, t_fp_f33, t_g24, t_fp_f24, t_g34, t_fp_f34, t_g63, t_fp_f63]
def fa4 : List (PySem.W.Frag → Bool) := [t_g64, t_fp_f64, t_g65, t_fp_f65, t_g20, t_fp_f20, t_g21, t_fp_f21, t_g37, t_fp_f37, t_g38, t_fp_f38, t_g39, t_fp_f39, t_g40, t_fp_f40, t_g41, t_fp_f41, t_g17, t_fp_f17, t_g22, t_fp_f22, t_g23, t_fp_f23, t_g26, t_fp_f26, t_g27, t_fp_f27, t_g45, t_fp_f45]
def fa5 : List (PySem.W.Frag → Bool) := [t_g46, t_fp_f46, t_g47, t_fp_f47, t_g48, t_fp_f48, t_g56, t_fp_f56, t_g57, t_fp_f57, t_g58, t_fp_f58, t_g59, t_fp_f59, t_g60, t_fp_f60, t_g25, t_fp_f25, t_g49, t_fp_f49, t_g50, t_fp_f50, t_g51, t_fp_f51, t_g52, t_fp_f52, t_g53, t_fp_f53, t_g54, t_fp_f54]
def fa6 : List (PySem.W.Frag → Bool) := [t_g55, t_fp_f55, t_g66, t_fp_f66, t_g67, t_fp_f67, t_g68, t_fp_f68, t_g69, t_fc_f69, t_g70, t_fc_f70, t_g71, t_fc_f71, t_pG, t_p1, t_p2, t_p3, t_p4, t_p5, t_p6, t_p7, t_p8, t_p9, t_pa, t_pn_int, t_pn_bool, t_pn_str, t_pn_NoneType, t_pn_tuple]
def fa7 : List (PySem.W.Frag → Bool) := [t_pn_list, t_pn_dict, t_pi1, t_pi2, t_pt1, t_pt2, t_mem0, t_ism0, t_fp_fm0, t_mem1, t_ism1, t_fp_fm1, t_mem2, t_ism2, t_fp_fm2, t_mem3, t_ism3, t_fp_fm3, t_mem4, t_ism4, t_fp_fm4, t_mem5, t_ism5, t_fp_fm5, t_mem6, t_ism6, t_fp_fm6, t_mem7, t_ism7, t_fp_fm7]
def fa8 : List (PySem.W.Frag → Bool) := [t_mem8, t_ism8, t_fp_fm8, t_mem9, t_ism9, t_fp_fm9, t_mem10, t_ism10, t_fp_fm10, t_bG, t_b1, t_b2, t_b3, t_b4, t_b5, t_b6, t_b7, t_yb8, t_yb9, t_ba, t_bb, t_bn_int, t_bn_bool, t_bn_str, t_bn_NoneType, t_bn_tuple, t_bn_list, t_bn_dict, t_bi1, t_bt1]
def fa9 : List (PySem.W.Frag → Bool) := [t_meq0, t_isq0, t_fp_fq0, t_meq1, t_isq1, t_fp_fq1, t_meq2, t_isq2, t_fp_fq2, t_meq3, t_isq3, t_fp_fq3, t_meq5, t_isq5, t_fp_fq5, t_meq6, t_isq6, t_fp_fq6, t_osG, t_os1, t_os2, t_os3, t_os4, t_osf0, t_osf1, t_osa, t_osb, t_mesq0, t_issq0, t_fp_fsq0]
def fa10 : List (PySem.W.Frag → Bool) := [t_otG, t_ot1, t_ot2, t_ot3, t_ot4, t_otf0, t_otf1, t_otf2, t_ota, t_otb, t_metq0, t_istq0, t_fp_ftq0, t_gFi, t_fd_fFi, t_tb_P69, t_h69, t_nn_P69, t_tb_P70, t_h70, t_nn_P70, t_tb_P71, t_h71, t_nn_P71, t_nPa, t_nPb, t_nPc, t_moT, t_eqT, t_nbN]
def fa11 : List (PySem.W.Frag → Bool) := [t_nbR, t_neRN, t_nbU, t_neUN, t_neUR]
def fa : List (List (PySem.W.Frag → Bool)) := [fa0, fa1, fa2, fa3, fa4, fa5, fa6, fa7, fa8, fa9, fa10, fa11]
structure Fe where
  ad : PySem.W.Frag → Addr
  x : Str
  q : Str
  st : Stmt
def d0 : Fe := ⟨afEN, "__init__", "BadNumber.__init__", inClass (top 4) 0⟩
def d1 : Fe := ⟨afER, "__init__", "BadRow.__init__", inClass (top 5) 0⟩
def d2 : Fe := ⟨afEU, "__init__", "Unlike.__init__", inClass (top 6) 0⟩
def d3 : Fe := ⟨af8, "is_whole", "is_whole", top 8⟩
def d4 : Fe := ⟨af9, "is_pair", "is_pair", top 9⟩
def d5 : Fe := ⟨af10, "is_ratio", "is_ratio", top 10⟩
def d6 : Fe := ⟨af11, "lowest", "lowest", top 11⟩
def d7 : Fe := ⟨af12, "told", "told", top 12⟩
def d8 : Fe := ⟨af13, "plus", "plus", top 13⟩
def d9 : Fe := ⟨af14, "minus", "minus", top 14⟩
def d10 : Fe := ⟨af15, "times", "times", top 15⟩
def d11 : Fe := ⟨af16, "lower", "lower", top 16⟩
def d12 : Fe := ⟨af19, "is_row", "is_row", top 19⟩
def d13 : Fe := ⟨af30, "many_needed", "many_needed", top 30⟩
def d14 : Fe := ⟨af31, "as_poly", "as_poly", top 31⟩
def d15 : Fe := ⟨af32, "number_for", "number_for", top 32⟩
def d16 : Fe := ⟨af33, "added", "added", top 33⟩
def d17 : Fe := ⟨af24, "over_one_bottom", "over_one_bottom", top 24⟩
def d18 : Fe := ⟨af34, "multiplied", "multiplied", top 34⟩
def d19 : Fe := ⟨af63, "_law_pen", "_law_pen", top 63⟩
def d20 : Fe := ⟨af64, "_law_draw", "_law_draw", top 64⟩
def d21 : Fe := ⟨af65, "_law_pick", "_law_pick", top 65⟩
def d22 : Fe := ⟨af20, "ascends", "ascends", top 20⟩
def d23 : Fe := ⟨af21, "told_row", "told_row", top 21⟩
def d24 : Fe := ⟨af37, "is_row_of_polys", "is_row_of_polys", top 37⟩
def d25 : Fe := ⟨af38, "place_in", "place_in", top 38⟩
def d26 : Fe := ⟨af39, "piece_from", "piece_from", top 39⟩
def d27 : Fe := ⟨af40, "knot_limits", "knot_limits", top 40⟩
def d28 : Fe := ⟨af41, "numbers_and_limits", "numbers_and_limits", top 41⟩
def d29 : Fe := ⟨af17, "gap_of", "gap_of", top 17⟩
def d30 : Fe := ⟨af22, "sum_of", "sum_of", top 22⟩
def d31 : Fe := ⟨af23, "are_whole_parts", "are_whole_parts", top 23⟩
def d32 : Fe := ⟨af26, "joint_sums", "joint_sums", top 26⟩
def d33 : Fe := ⟨af27, "joint_sum", "joint_sum", top 27⟩
def d34 : Fe := ⟨af45, "are_parts", "are_parts", top 45⟩
def d35 : Fe := ⟨af46, "is_bounded_kind", "is_bounded_kind", top 46⟩
def d36 : Fe := ⟨af47, "is_within", "is_within", top 47⟩
def d37 : Fe := ⟨af48, "means_of", "means_of", top 48⟩
def d38 : Fe := ⟨af56, "check_one_stretch", "check_one_stretch", top 56⟩
def d39 : Fe := ⟨af57, "functions_of", "functions_of", top 57⟩
def d40 : Fe := ⟨af58, "gap_missed", "gap_missed", top 58⟩
def d41 : Fe := ⟨af59, "check_places", "check_places", top 59⟩
def d42 : Fe := ⟨af60, "missed", "missed", top 60⟩
def d43 : Fe := ⟨af25, "in_order", "in_order", top 25⟩
def d44 : Fe := ⟨af49, "mean", "mean", top 49⟩
def d45 : Fe := ⟨af50, "check_ends", "check_ends", top 50⟩
def d46 : Fe := ⟨af51, "chance", "chance", top 51⟩
def d47 : Fe := ⟨af52, "chance_between", "chance_between", top 52⟩
def d48 : Fe := ⟨af53, "gathered", "gathered", top 53⟩
def d49 : Fe := ⟨af54, "mixed", "mixed", top 54⟩
def d50 : Fe := ⟨af55, "moved", "moved", top 55⟩
def d51 : Fe := ⟨af66, "_law_fault", "_law_fault", top 66⟩
def d52 : Fe := ⟨af67, "_law_number_fault", "_law_number_fault", top 67⟩
def d53 : Fe := ⟨af68, "_law_all_right", "_law_all_right", top 68⟩
def d54 : Fe := ⟨af69, "_law_shares_refused", "_law_shares_refused", top 69⟩
def d55 : Fe := ⟨af70, "_law_told_refused", "_law_told_refused", top 70⟩
def d56 : Fe := ⟨af71, "law", "law", top 71⟩
def d57 : Fe := ⟨afm0, "__init__", "Poly.__init__", inClass (top 29) 0⟩
def d58 : Fe := ⟨afm1, "__eq__", "Poly.__eq__", inClass (top 29) 1⟩
def d59 : Fe := ⟨afm2, "__add__", "Poly.__add__", inClass (top 29) 2⟩
def d60 : Fe := ⟨afm3, "__radd__", "Poly.__radd__", inClass (top 29) 3⟩
def d61 : Fe := ⟨afm4, "__sub__", "Poly.__sub__", inClass (top 29) 4⟩
def d62 : Fe := ⟨afm5, "__rsub__", "Poly.__rsub__", inClass (top 29) 5⟩
def d63 : Fe := ⟨afm6, "__mul__", "Poly.__mul__", inClass (top 29) 6⟩
def d64 : Fe := ⟨afm7, "__rmul__", "Poly.__rmul__", inClass (top 29) 7⟩
def d65 : Fe := ⟨afm8, "__neg__", "Poly.__neg__", inClass (top 29) 8⟩
def d66 : Fe := ⟨afm9, "degree", "Poly.degree", inClass (top 29) 9⟩
def d67 : Fe := ⟨afm10, "at", "Poly.at", inClass (top 29) 10⟩
def d68 : Fe := ⟨afq0, "__init__", "Broken.__init__", inClass (top 36) 0⟩
def d69 : Fe := ⟨afq1, "__eq__", "Broken.__eq__", inClass (top 36) 1⟩
def d70 : Fe := ⟨afq2, "value", "Broken.value", inClass (top 36) 2⟩
def d71 : Fe := ⟨afq3, "limits", "Broken.limits", inClass (top 36) 3⟩
def d72 : Fe := ⟨afq5, "is_upper", "Broken.is_upper", inClass (top 36) 5⟩
def d73 : Fe := ⟨afq6, "is_lower", "Broken.is_lower", inClass (top 36) 6⟩
def d74 : Fe := ⟨afsq0, "__init__", "Share.__init__", inClass (top 43) 0⟩
def d75 : Fe := ⟨aftq0, "__init__", "Told.__init__", inClass (top 44) 0⟩
def d76 : Fe := ⟨afFi, "fits", "fits", top 61⟩
def fn0 : List Fe := [d0, d1, d2, d3, d4, d5, d6, d7, d8, d9, d10, d11, d12, d13, d14, d15, d16, d17, d18, d19, d20, d21, d22, d23, d24, d25, d26, d27, d28, d29]
def fn1 : List Fe := [d30, d31, d32, d33, d34, d35, d36, d37, d38, d39, d40, d41, d42, d43, d44, d45, d46, d47, d48, d49, d50, d51, d52, d53, d54, d55, d56, d57, d58, d59]
def fn2 : List Fe := [d60, d61, d62, d63, d64, d65, d66, d67, d68, d69, d70, d71, d72, d73, d74, d75, d76]
def fn : List Fe := fn0 ++ (fn1 ++ (fn2))
abbrev Al : Type := Bool × List Fq
def obK (K : PySem.W.Frag) : Al := (fa.all fun l => l.all fun f => f K, fn.map fun d => fq K (d.ad K))
def vaK : Al := (true, fn.map fun d => fqv d.x d.q d.st)
def Says (K : PySem.W.Frag) : Prop := obK K = vaK
def obG (g : Addr → Option Obj) : Bool × Al := (tbB (g (aP69 (kOf g))) && (tbB (g (aP70 (kOf g))) && tbB (g (aP71 (kOf g)))), obK (kOf g))
def hk : PySem.W.Hook where
  α := Bool × Al
  obs := fun s => obG s.heap.get?
  val := fun _ => (true, vaK)
  says := fun _ h => ∃ K : PySem.W.Frag, K.In h ∧ Says K ∧ h.get? (aP69 K) = some { cls := .none, data := .fields #[] } ∧ h.get? (aP70 K) = some { cls := .none, data := .fields #[] } ∧ h.get? (aP71 K) = some { cls := .none, data := .fields #[] }
  of := fun _ s e => ⟨kOf s.heap.get?, He.frG_in, congrArg (fun z : Bool × Al => z.2) e, tbB_ok (He.ba (congrArg (fun z : Bool × Al => z.1) e)).1, tbB_ok (He.ba (He.ba (congrArg (fun z : Bool × Al => z.1) e)).2).1, tbB_ok (He.ba (He.ba (congrArg (fun z : Bool × Al => z.1) e)).2).2⟩
  keeps := fun _ _ _ ⟨Kp, inK, says, ta, tb, tc⟩ kp => ⟨Kp, PySem.W.Frag.In.keeps inK kp, says, kp _ _ ta, kp _ _ tb, kp _ _ tc⟩
def ob (s : PySem.W.SharedT) : Bool × Al := obG (HandSHeadRun.getT s)
theorem ob_eq (s : PySem.W.SharedT) : ob s = hk.obs s.abs := by
  have e : HandSHeadRun.getT s = s.abs.heap.get? := funext fun a => HandSHeadRun.getT_eq s a
  show obG (HandSHeadRun.getT s) = obG s.abs.heap.get?
  rw [e]
def lo0 : List Str := ["_wall", "MeanError", "BadNumber", "BadRow", "Unlike", "is_whole", "is_pair", "is_ratio", "lowest", "told", "plus", "minus", "times", "lower", "gap_of", "is_row", "ascends", "told_row", "sum_of", "are_whole_parts", "over_one_bottom", "in_order", "joint_sums", "joint_sum", "Poly", "many_needed", "as_poly", "number_for", "added", "multiplied"]
def lo1 : List Str := ["Broken", "is_row_of_polys", "place_in", "piece_from", "knot_limits", "numbers_and_limits", "Share", "Told", "are_parts", "is_bounded_kind", "is_within", "means_of", "mean", "check_ends", "chance", "chance_between", "gathered", "mixed", "moved", "check_one_stretch", "functions_of", "gap_missed", "check_places", "missed", "fits", "_law_pen", "_law_draw", "_law_pick", "_law_fault", "_law_number_fault"]
def lo2 : List Str := ["_law_all_right", "_law_shares_refused", "_law_told_refused"]
def loose : List Str := lo0 ++ (lo1 ++ (lo2))
abbrev R : PySem.W.OpenRow := PySem.W.OpenLaw.row PySem.Challenge.rw_toldmeans_k10_shares_refused
abbrev vw : Program := PySem.W.view R.prog [0, 71]
theorem run (w : World) : HandSHeadRun.RunEqI R vw hk ob 6000 loose w := by
  unfold HandSHeadRun.RunEqI
  kernel_rfl
end Kh
set_option linter.all false
set_option maxRecDepth 100000
set_option maxHeartbeats 2000000
/-! lambdas that are kept: values of the abstract heap -/
namespace Vl
open PySem PySem.Spec PyProof.Rows L2 LamX
/-- one object, as it is, for good -/
def Fz (c : Addr) (ob : Obj) : HO := .frz ob (.ext fun h => h.get? c = some ob)
theorem fz_ok {P : Program} {w : World} {H : Hp} {h : Heap} {c : Addr} {ob : Obj} (e : h.get? c = some ob) : ObjOk P w H h c (Fz c ob) := ⟨e, e, ⟨ob, e⟩, fun h1 h2 a st => st _ a⟩
theorem fz_get {P : Program} {w : World} {H : Hp} {h : Heap} {c : Addr} {ob : Obj} (x : HOk P w H h) (e : H c = some (Fz c ob)) : h.get? c = some ob := by
  obtain ⟨q, _⟩ := x c _ e
  exact q
theorem fz_ne_tup {c : Addr} {ob : Obj} {xs : List V} : Fz c ob ≠ .tup xs := fun z => by
  unfold Fz at z
  cases z
theorem fz_ne_own {c a : Addr} {ob : Obj} : Fz c ob ≠ .own a := fun z => by
  unfold Fz at z
  cases z
theorem fz_ne_tbl {c : Addr} {ob : Obj} {ps : Array Value} : Fz c ob ≠ .tbl ps := fun z => by
  unfold Fz at z
  cases z
/-- some objects given to the abstract heap, taken from it -/
def gv (S : Addr → Option Obj) (H : Hp) : Hp := fun b => match S b with
  | some ob => some (Fz b ob)
  | none => H b
def tk (S : Addr → Option Obj) (H : Hp) : Hp := fun b => match S b with
  | some _ => none
  | none => H b
section
variable {S : Addr → Option Obj} {H H' : Hp} {b : Addr} {ob : Obj}
theorem gv_in (e : S b = some ob) : gv S H b = some (Fz b ob) := by
  unfold gv
  rw [e]
theorem gv_out (e : S b = none) : gv S H b = H b := by
  unfold gv
  rw [e]
theorem tk_in (e : S b = some ob) : tk S H b = none := by
  unfold tk
  rw [e]
theorem tk_out (e : S b = none) : tk S H b = H b := by
  unfold tk
  rw [e]
end
section
variable {P : Program} {w : World} {S : Addr → Option Obj} {H H' : Hp} {h h' : Heap} {fs : List Addr}
theorem hok_gv (x : HOk P w H h) (hs : ∀ b ob, S b = some ob → h.get? b = some ob) (hn : ∀ b ob, S b = some ob → H b = none) : HOk P w (gv S H) h := fun b o e => by
  have keep : ∀ c u, H c = some u → gv S H c = some u := fun c u q => by
    cases r : S c with
    | none => rw [gv_out r]; exact q
    | some ob =>
      rw [hn c ob r] at q
      cases q
  cases r : S b with
  | some ob =>
    rw [gv_in r] at e
    cases e
    exact fz_ok (hs b ob r)
  | none =>
    rw [gv_out r] at e
    exact (x b o e).stay (fun _ _ _ q => q) (fun c q => keep c _ q) fun c xs q => keep c _ q
theorem hok_tk (x : HOk P w H h) (hf : ∀ b ob, S b = some ob → H b = some (Fz b ob)) : HOk P w (tk S H) h := fun b o e => by
  have keep : ∀ c u, H c = some u → (∀ ob, u ≠ Fz c ob) → tk S H c = some u := fun c u q n => by
    cases r : S c with
    | none => rw [tk_out r]; exact q
    | some ob =>
      rw [hf c ob r] at q
      exact absurd (Option.some.inj q).symm (n ob)
  cases r : S b with
  | some ob =>
    rw [tk_in r] at e
    cases e
  | none =>
    rw [tk_out r] at e
    exact (x b o e).stay (fun _ _ _ q => q) (fun c q => keep c _ q fun ob z => fz_ne_own z.symm) fun c xs q => keep c _ q fun ob z => fz_ne_tup z.symm
/-- run without them, and given back -/
def Off (S : Addr → Option Obj) (H : Hp) : Prop := ∀ b ob, S b = some ob → H b = none
theorem off_same {S : Addr → Option Obj} {H : Hp} (f : Off S H) : ∀ b o, H b = some o → gv S H b = some o := fun b o e => by
  cases r : S b with
  | none => rw [gv_out r]; exact e
  | some ob =>
    rw [f b ob r] at e
    cases e
theorem un_back (hx : HOk P w H h) (hf : ∀ b ob, S b = some ob → H b = some (Fz b ob)) (fr : ∀ b ∈ fs, H b = none) (u : Un fs [] (tk S H) H' h h') (x : HOk P w H' h') : Un fs [] H (gv S H') h h' ∧ HOk P w (gv S H') h' ∧ Off S H' := by
  have nf : ∀ b ob, S b = some ob → b ∉ fs := fun b ob r z => by
    have := fr b z
    rw [hf b ob r] at this
    cases this
  have st : ∀ b ob, S b = some ob → h'.get? b = some ob ∧ H' b = none := fun b ob r => by
    have e := fz_get hx (hf b ob r)
    exact ⟨u.keep b ob e (tk_in r) (nf b ob r) (by simp), u.free b ob e (tk_in r) (by simp)⟩
  have out : ∀ b, H b = none → S b = none := fun b n => by
    cases r : S b with
    | none => rfl
    | some ob =>
      rw [hf b ob r] at n
      cases n
  have outU : ∀ b o, H b = some o → (∀ ob, o ≠ Fz b ob) → S b = none := fun b o q n => by
    cases r : S b with
    | none => rfl
    | some ob =>
      rw [hf b ob r] at q
      exact absurd (Option.some.inj q).symm (n ob)
  refine ⟨⟨fun b o e n i1 i2 => u.keep b o e (by rw [tk_out (out b n)]; exact n) i1 i2, fun b o e n i1 i2 => u.slot b o e (by rw [tk_out (out b n)]; exact n) i1 i2, fun b o e n i => ?_, u.there, fun b xs e => ?_, fun b o v e => ?_, fun b ps e => ?_⟩, hok_gv x (fun b ob r => (st b ob r).1) (fun b ob r => (st b ob r).2), fun b ob r => (st b ob r).2⟩
  · rw [gv_out (out b n)]
    exact u.free b o e (by rw [tk_out (out b n)]; exact n) i
  · have r := outU b _ e fun ob z => fz_ne_tup z.symm
    rw [gv_out r]
    exact u.tups b xs (by rw [tk_out r]; exact e)
  · cases r : S b with
    | none =>
      rw [gv_out r]
      exact u.frzs b o v (by rw [tk_out r]; exact e)
    | some ob =>
      rw [gv_in r, ← hf b ob r]
      exact e
  · have r := outU b _ e fun ob z => fz_ne_tbl z.symm
    obtain ⟨m, q⟩ := u.tbls b ps (by rw [tk_out r]; exact e)
    exact ⟨m, by rw [gv_out r]; exact q⟩
/-- .. where an exception came out -/
theorem ub_back {B : Heap} (hx : HOk P w H h) (hf : ∀ b ob, S b = some ob → H b = some (Fz b ob)) (fr : ∀ b ∈ fs, H b = none) (u : UB fs (tk S H) H' h B h') (x : HOk P w H' B) : UB fs H (gv S H') h B h' ∧ HOk P w (gv S H') B ∧ Off S H' ∧ ∀ b ob, S b = some ob → B.get? b = some ob := by
  have nf : ∀ b ob, S b = some ob → b ∉ fs := fun b ob r z => by
    have := fr b z
    rw [hf b ob r] at this
    cases this
  have st : ∀ b ob, S b = some ob → B.get? b = some ob ∧ H' b = none := fun b ob r => by
    have e := fz_get hx (hf b ob r)
    exact ⟨u.keep b ob e (tk_in r) (nf b ob r), u.free b ob e (tk_in r)⟩
  have out : ∀ b, H b = none → S b = none := fun b n => by
    cases r : S b with
    | none => rfl
    | some ob =>
      rw [hf b ob r] at n
      cases n
  have outU : ∀ b o, H b = some o → (∀ ob, o ≠ Fz b ob) → S b = none := fun b o q n => by
    cases r : S b with
    | none => rfl
    | some ob =>
      rw [hf b ob r] at q
      exact absurd (Option.some.inj q).symm (n ob)
  refine ⟨⟨fun b o e n i => u.keep b o e (by rw [tk_out (out b n)]; exact n) i, u.slot, fun b o e n => ?_, u.there, fun b xs e => ?_, fun b o v e => ?_, fun b ps e => ?_⟩, hok_gv x (fun b ob r => (st b ob r).1) (fun b ob r => (st b ob r).2), fun b ob r => (st b ob r).2, fun b ob r => (st b ob r).1⟩
  · rw [gv_out (out b n)]
    exact u.free b o e (by rw [tk_out (out b n)]; exact n)
  · have r := outU b _ e fun ob z => fz_ne_tup z.symm
    rw [gv_out r]
    exact u.tups b xs (by rw [tk_out r]; exact e)
  · cases r : S b with
    | none =>
      rw [gv_out r]
      exact u.frzs b o v (by rw [tk_out r]; exact e)
    | some ob =>
      rw [gv_in r, ← hf b ob r]
      exact e
  · have r := outU b _ e fun ob z => fz_ne_tbl z.symm
    obtain ⟨m, q⟩ := u.tbls b ps (by rw [tk_out r]; exact e)
    exact ⟨m, by rw [gv_out r]; exact q⟩
/-- run with them, and taken back -/
theorem un_take (hs : ∀ b ob, S b = some ob → h.get? b = some ob) (hn : ∀ b ob, S b = some ob → H b = none) (u : Un fs [] (gv S H) H' h h') (x : HOk P w H' h') : Un fs [] H (tk S H') h h' ∧ HOk P w (tk S H') h' ∧ ∀ b ob, S b = some ob → H' b = some (Fz b ob) := by
  have fz : ∀ b ob, S b = some ob → H' b = some (Fz b ob) := fun b ob r => u.frzs b _ _ (gv_in r)
  have out : ∀ b o, H b = some o → S b = none := fun b o n => by
    cases r : S b with
    | none => rfl
    | some ob =>
      rw [hn b ob r] at n
      cases n
  refine ⟨⟨fun b o e n i1 i2 => ?_, fun b o e n i1 i2 => ?_, fun b o e n i => ?_, u.there, fun b xs e => ?_, fun b o v e => ?_, fun b ps e => ?_⟩, hok_tk x fz, fz⟩
  · cases r : S b with
    | none => exact u.keep b o e (by rw [gv_out r]; exact n) i1 i2
    | some ob =>
      have q := hs b ob r
      rw [e] at q
      cases q
      exact fz_get x (fz b o r)
  · cases r : S b with
    | none => exact u.slot b o e (by rw [gv_out r]; exact n) i1 i2
    | some ob =>
      have q := hs b ob r
      rw [e] at q
      cases q
      exact ⟨o.slots, fz_get x (fz b o r)⟩
  · cases r : S b with
    | none =>
      rw [tk_out r]
      exact u.free b o e (by rw [gv_out r]; exact n) i
    | some ob => exact tk_in r
  · rw [tk_out (out b _ e)]
    exact u.tups b xs (by rw [gv_out (out b _ e)]; exact e)
  · rw [tk_out (out b _ e)]
    exact u.frzs b o v (by rw [gv_out (out b _ e)]; exact e)
  · obtain ⟨m, q⟩ := u.tbls b ps (by rw [gv_out (out b _ e)]; exact e)
    exact ⟨m, by rw [tk_out (out b _ e)]; exact q⟩
end
end Vl
set_option linter.all false
set_option maxRecDepth 100000
set_option maxHeartbeats 2000000
namespace Vl
open PySem PySem.Spec PyProof.Rows L2 LamX
abbrev lmN (X : Cx) : Str := X.env.qual ++ "<lambda>"
/-- the function object that X's lambda makes -/
abbrev lmO (X : Cx) (pa : Arguments) (bo : Expr) (sc : Scope) (pm : Value) (c' : Addr) (ctv : Value) : Obj :=
  PySem.W.kla_obj "<lambda>" (lmN X) pa bo sc (cloFrom X.env.cells sc.names []) pm c' ctv
section
variable {X : Cx} {pins : List (Addr × Obj)} {σ : L2.St} {H : Hp} {s : Shared}
/-- the function object is new -/
theorem lam_new {Tl : List (Addr × Str)} {c Pt : Addr} {pa : Arguments} {bo : Expr} {sc : Scope} {at_ : Pos} {E Q : Value → Shared → Prop}
    (I : Inv X pins σ H s) (TB : TabB X.base X.mg c Pt) (own : X.env.code = .ref c) (inT : (Pt, lmN X) ∈ Tl)
    (one : ∀ p ∈ Tl, p.1 = Pt → p.2 = lmN X) (tabs : Tabs Tl H) (nodef : defaultsOf pa X.env = ([], []))
    (fr : ∀ y ∈ sc.names, y.2 = .free → ∃ c, X.env.cells.lookup y.1 = some c)
    (go : ∀ (f c' : Addr) (pm ctv : Value) (H1 : Hp) (s2 : Shared), Inv X pins σ (upd H1 f (Fz f (lmO X pa bo sc pm c' ctv))) s2 → ExtN H H1 → Tabs Tl H1 → H1 f = none →
      H1 c' = some (CodeO c' (lmN X)) → Q (.ref f) s2) :
    wpAny (model X.prog X.w) X.A (eval (.Lambda pa bo sc at_) X.env) Q E s := by
  obtain ⟨ps, eP, tri, amg⟩ := tabs _ inT
  have rawP : s.heap.get? Pt = some { cls := .none, data := .fields ps } := I.hok Pt _ eP
  have bl := TB.bm.keeps I.bk
  apply PySem.W.kla_eval nodef
  cases look : codeAmong at_ ps.toList with
  | some cv =>
    obtain ⟨c', rfl, known⟩ := amg at_ cv look
    apply PySem.W.kla_makeFunctionHit (mg := X.mg) (c := c) (P := Pt) (ps := ps) (closure_ok fr) I.ok.glob (I.mod.glob.keeps I.bk) own (TB.code.keeps I.bk) rawP tri look bl
    intro ctv h2 t2 kept big
    have J := (I.kept (t' := t2) kept).laid (t' := t2) (o := Fz h2.objs.size (lmO X pa bo sc ((X.mg "__name__").getD .none) c' ctv)) (fun b u q => Heap.get?_push_of_some _ q) (Nat.le_refl _) (fz_ok (Heap.get?_push_size _ rfl))
    exact go h2.objs.size c' ((X.mg "__name__").getD .none) ctv H _ J (ExtN.refl H) tabs (I.hok.fresh big) known
  | none =>
    apply PySem.W.kla_makeFunction (mg := X.mg) (c := c) (P := Pt) (ps := ps) (closure_ok fr) I.ok.glob (I.mod.glob.keeps I.bk) own (TB.code.keeps I.bk) rawP tri look TB.gP bl
    intro c' ctv h2 t2 ext lo hi rec newP
    obtain ⟨c9, oc, vs, t, e9, g1, g2, g3⟩ := rec
    cases e9
    have n0 : H c' = none := I.hok.fresh lo
    have nPc : Pt ≠ c' := ne_of_none eP n0
    have J0 := inv_table (q := lmN X) (t' := t2) (more := #[rawInt at_.line, rawInt at_.col, .ref c']) I eP ext newP lo ⟨oc, vs, t, g1, g2, g3⟩
    generalize eH : upd (upd H Pt (.tbl (ps ++ #[rawInt at_.line, rawInt at_.col, .ref c']))) c' (CodeO c' (lmN X)) = H1 at J0
    have at1 : H1 c' = some (CodeO c' (lmN X)) := by rw [← eH]; exact upd_same
    have atP : H1 Pt = some (.tbl (ps ++ #[rawInt at_.line, rawInt at_.col, .ref c'])) := by rw [← eH, upd_ne nPc]; exact upd_same
    have same : ∀ b, b ≠ Pt → b ≠ c' → H1 b = H b := fun b u v => by rw [← eH, upd_ne v, upd_ne u]
    have grow : ExtN H H1 := fun b o e n => by
      rw [same b (fun z => n ps (Option.some.inj (e.symm.trans (by rw [z]; exact eP)))) (ne_of_none e n0)]
      exact e
    have J := J0.laid (t' := t2) (o := Fz h2.objs.size (lmO X pa bo sc ((X.mg "__name__").getD .none) c' ctv)) (fun b u q => Heap.get?_push_of_some _ q) (Nat.le_refl _) (fz_ok (Heap.get?_push_size _ rfl))
    refine go h2.objs.size c' ((X.mg "__name__").getD .none) ctv H1 _ J grow ?_ (J0.hok.fresh (Nat.le_refl _)) at1
    intro p hp
    by_cases hb : p.1 = Pt
    · refine ⟨_, by rw [hb]; exact atP, ?_, fun p' cv hcv => ?_⟩
      · simpa using PySem.TriplesOk_snoc _ _ _ _ tri
      · rw [one p hp hb]
        have z : codeAmong p' (ps.toList ++ [rawInt at_.line, rawInt at_.col, .ref c']) = some cv := by simpa using hcv
        rcases among_app _ tri z with k | k
        · obtain ⟨c0, e1, e2⟩ := amg p' cv k
          exact ⟨c0, e1, grow _ _ e2 codeO_ne⟩
        · exact ⟨c', k, at1⟩
    · obtain ⟨qs, a1, a2, a3⟩ := tabs p hp
      refine ⟨qs, by rw [same _ hb (ne_of_none a1 n0)]; exact a1, a2, fun p' cv k => ?_⟩
      obtain ⟨c0, e1, e2⟩ := a3 p' cv k
      exact ⟨c0, e1, grow _ _ e2 codeO_ne⟩
end
/-- a lambda as a value -/
def tLamV (Tl : List (Addr × Str)) (q : Str) (mk : Value → Addr → Value → Obj) : TE := fun _ H Q => Tabs Tl H ∧ ∀ (f c' : Addr) (pm ctv : Value) (H1 : Hp), ExtN H H1 → Tabs Tl H1 → H1 f = none → H1 c' = some (CodeO c' q) → Q (.ref f) (upd H1 f (Fz f (mk pm c' ctv)))
theorem pe_lamV {X : Cx} {Tl : List (Addr × Str)} {c Pt : Addr} {pa : Arguments} {bo : Expr} {sc : Scope} {at_ : Pos} (TB : TabB X.base X.mg c Pt) (own : X.env.code = .ref c) (inT : (Pt, lmN X) ∈ Tl)
    (one : ∀ p ∈ Tl, p.1 = Pt → p.2 = lmN X) (L : LamS X.env.scope sc) (nodef : defaultsOf pa X.env = ([], []) := by rfl) : PE X (.Lambda pa bo sc at_) (tLamV Tl (lmN X) (lmO X pa bo sc)) := by
  refine ⟨fun pins s σ H Q I h => ?_⟩
  refine lam_new I TB own inT one h.1 nodef (L.has I.ok) fun f c' pm ctv H1 s2 J g t n k => ?_
  exact ⟨.ref f, _, J, rfl, h.2 f c' pm ctv H1 g t n k⟩
/-! ### called -/
/-- what the cells of X hold -/
structure Kept (X : Cx) (σ : L2.St) (S : Addr → Option Obj) : Prop where
  cl : ∀ x c, X.env.cells.lookup x = some c → ∃ (ob : Obj) (v : Option Value), S c = some ob ∧ ob.data = .cell v
  val : ∀ (i : Nat) (x : Str) (v : V), X.N[i]? = some x → σ[i]? = some (some v) → (X.env.scope.names.lookup x = some .cell ∨ X.env.scope.names.lookup x = some .free) → ∃ (c : Addr) (ob : Obj) (u : Value), X.env.cells.lookup x = some c ∧ S c = some ob ∧ ob.data = .cell (some u) ∧ RelV v u
  len : σ.length = X.N.length
  inj : ∀ x y c, X.env.cells.lookup x = some c → X.env.cells.lookup y = some c → x = y
  has : ∀ x, (X.env.scope.names.lookup x = some .cell ∨ X.env.scope.names.lookup x = some .free) → ∃ c, X.env.cells.lookup x = some c
section
variable {X : Cx} {σ : L2.St} {HZ : Hp} {s1 : Shared} {S : Addr → Option Obj}
theorem lam_enter {A : Around} {outer : List Env} {E : XK} {sc : Scope} {f c' : Addr} {h₁ : Heap} {t1 : Nat} (kt : Kept X σ S) (L : LamS X.env.scope sc) (e0 : Env0 X.prog X.w X.K X.mg X.base A outer s1 HZ) (hd : A.handled = none)
    (hS : ∀ b ob, S b = some ob → HZ b = some (Fz b ob)) (hns : h₁.Ns s1.heap.objs.size fun y => ([] : List (Str × Value)).reverse.lookup y) (kp : ∀ b o, s1.heap.get? b = some o → h₁.get? b = some o) :
    Inv (lamCx X A outer s1 (tk S HZ) E sc f c') [] σ (tk S HZ) { s1 with heap := h₁, toks := t1 } := by
  have lower : ∀ b, HZ b = none → tk S HZ b = none := fun b n => by
    cases r : S b with
    | none => rw [tk_out r]; exact n
    | some ob => exact tk_in r
  have hokZ : HOk X.prog X.w (tk S HZ) s1.heap := hok_tk e0.hok hS
  have has : ∀ y ∈ sc.names, y.2 = .free → ∃ c, X.env.cells.lookup y.1 = some c := fun y hy e => kt.has _ (L.free y hy e)
  have sub : ∀ {y c}, (cloFrom X.env.cells sc.names []).lookup y = some c → X.env.cells.lookup y = some c := fun {y c} e => by
    rcases cloFrom_mem (PySem.mem_of_lookup e) with m | ⟨m, r⟩
    · cases m
    · obtain ⟨c1, q⟩ := has _ m rfl
      have q : X.env.cells.lookup y = some c1 := q
      have r2 : c = c1 := by
        rw [r, q]
        rfl
      rw [r2]
      exact q
  have sup : ∀ {y}, sc.names.lookup y = some .free → ∃ c, (cloFrom X.env.cells sc.names []).lookup y = some c := fun {y} e => by
    have m : (y, NameKind.free) ∈ sc.names := PySem.mem_of_lookup e
    exact mem_lookup (cloFrom_has (cells := X.env.cells) (acc := []) m)
  have isc : ∀ {c ob v}, S c = some ob → ob.data = .cell v → h₁.IsCell c v := fun {c ob v} r d => ⟨ob, kp _ _ (fz_get e0.hok (hS c ob r)), d⟩
  have noA : ∀ b : Addr, b ∉ (lamCx X A outer s1 (tk S HZ) E sc f c').ex := fun b z => absurd (show b ∈ ([] : List Addr) from z) (by simp)
  refine ⟨⟨e0.mod, L.kind, rfl, rfl, Nat.le_refl _, fun y z c e1 e2 => kt.inj y z c (sub e1) (sub e2), fun y hy => ?_, fun y c z _ => ?_, fun _ => hd, Around.frames_deeper e0.frames, .inr ⟨rfl, rfl⟩, fun b z => absurd z (noA b), fun b o e => ⟨(e0.bs b o e).1, lower b (e0.bs b o e).2⟩, e0.bsz, fun b _ _ => noA b,
      fun b z => absurd z (noA b), e0.funs, fun b hb => lower b (e0.frf b hb)⟩,
    rfl, e0.bare, Un.kept kp, ⟨_, hns, fun i y v e1 e2 e3 => ?_⟩, fun y c e => ?_, hokZ.fresh (Nat.le_refl _), fun y c e => ?_, fun q hq => absurd (show q ∈ ([] : List (Addr × Obj)) ++ [] from hq) (by simp), hokZ.kept kp, kt.len⟩
  · have hy : sc.names.lookup y = some .cell ∨ sc.names.lookup y = some .free := hy
    rcases hy with hy | hy
    · exact absurd rfl (L.own _ (PySem.mem_of_lookup hy)).2
    · exact sup hy
  · cases (show false = true from z)
  · rcases (show Vis sc y from e3) with k | k | k
    · exact absurd rfl (L.own _ (PySem.mem_of_lookup k)).1
    · exact absurd rfl (L.own _ (PySem.mem_of_lookup k)).2
    · obtain ⟨c, ob, u, a1, a2, a3, r⟩ := kt.val i y v e1 e2 (L.free _ (PySem.mem_of_lookup k) rfl)
      obtain ⟨c2, b2⟩ := sup k
      have b3 := sub b2
      rw [a1] at b3
      cases b3
      exact ⟨u, r, .inr ⟨.inr k, c, b2, isc a2 a3⟩⟩
  · obtain ⟨ob, v, a1, a2⟩ := kt.cl y c (sub e)
    exact ⟨v, isc a1 a2⟩
  · obtain ⟨ob, v, a1, _⟩ := kt.cl y c (sub e)
    exact tk_in a1
end
end Vl
set_option linter.all false
set_option maxRecDepth 100000
set_option maxHeartbeats 2000000
namespace Vl
open PySem PySem.Spec PyProof.Rows L2 LamX
section
variable {X Y : Cx} {σ : L2.St} {S : Addr → Option Obj}
/-- where the lambda stands, and its cells -/
def LamAt (X : Cx) (S : Addr → Option Obj) (pa : Arguments) (bo : Expr) (sc : Scope) (H : Hp) (v : V) : Prop :=
  ∃ (f c' : Addr) (pm ctv : Value), v = .ref f ∧ H f = some (Fz f (lmO X pa bo sc pm c' ctv)) ∧ H c' = some (CodeO c' (lmN X)) ∧ ∀ b ob, S b = some ob → H b = some (Fz b ob)
/-- a() where a is a lambda that was kept -/
theorem pe_act2 {pa : Arguments} {bo : Expr} {sc : Scope} {k i : Nat} {a : Str} {W : WX} {E : XK} {tb : TE} {p1 p2 : Pos} (of : Y.prog = X.prog ∧ Y.w = X.w ∧ Y.K = X.K ∧ Y.mg = X.mg ∧ Y.base = X.base) (kt : Kept X σ S) (L : LamS X.env.scope sc)
    (bind : ∀ (q : Str) (cl : List (Str × Addr)) (pm cv ctv : Value), bindArgs (PySem.W.kla_fn "<lambda>" q pa bo sc cl pm cv ctv) ⟨[], []⟩ = pure [])
    (tks : Takes Y W) (hW : ∀ cls d σ2 H', E cls d H' → Off S H' → W cls d σ2 (gv S H')) (hr : Room (k + 1) Y.A)
    (body : ∀ (A : Around) (outer : List Env) (s : Shared) (H : Hp) (f c' : Addr), Room k (A.deeper (lamEnv X sc s.heap.objs.size f c')) → PE (lamCx X A outer s H E sc f c') bo tb)
    (hN : Y.N[i]? = some a) (hv : Vis Y.env.scope a) (hd : (a == ("__debug__" : Str)) = false := by decide) (hcd : (a == ("__classdict__" : Str)) = false := by decide) :
    PE Y (.Call (.Name a p1) [] [] p2) (fun ρ HZ Q => ∃ v, ρ[i]? = some (some v) ∧ LamAt X S pa bo sc HZ v ∧ tb σ (tk S HZ) fun u H' => Off S H' → Q u (gv S H')) := by
  obtain ⟨o1, o2, o3, o4, o5⟩ := of
  refine ⟨fun pins sZ ρ HZ Q IZ h => ?_⟩
  obtain ⟨v, hs, ⟨f, c', pm, ctv, rfl, hf, hc, hS⟩, ht⟩ := h
  refine wpAny_Call_Name_kw (thn ((pe_var (pos := p1) (i := i) hN hv hd hcd).run pins sZ ρ HZ (fun v H1 => v = .ref f ∧ H1 = HZ) IZ ⟨.ref f, hs, rfl, rfl⟩) fun u s1 ⟨v, H1, I1, r1, q1⟩ => ?_)
  obtain ⟨ev, eH⟩ := q1
  subst ev
  rw [eH] at I1
  obtain rfl : u = Value.ref f := r1
  have raw : s1.heap.get? f = some (lmO X pa bo sc pm c' ctv) := fz_get I1.hok hf
  refine PySem.W.callWith_F0 ⟨_, _, _, _, raw⟩ ?_
  obtain ⟨⟨oc, vs, t, w1, w2, w3⟩, _, _⟩ := I1.hok c' _ hc
  have e0 : Env0 X.prog X.w X.K X.mg X.base Y.A Y.stack s1 HZ := by
    have := I1.env0
    rwa [o1, o2, o3, o4, o5] at this
  have hokX : HOk X.prog X.w HZ s1.heap := e0.hok
  have run : codeAny (model Y.prog Y.w) Y.A (.call (.ref f) ⟨[], []⟩) (CR (L2.CX Y.prog Y.w) Y.stack Y.prog Y.w HZ s1 Q (fun cls d H2 => ∃ H', H2 = gv S H' ∧ Off S H' ∧ E cls d H')) s1 := by
    rw [o1, o2]
    refine PySem.W.kla_callFunE hr.depth raw rfl L.co L.gen rfl ⟨c', oc, vs, t, rfl, w1, w2, w3⟩ ?_
    rw [bind]
    refine wpAny_pure (wpAny_newFunctionEnv (fun y hy => (L.own y hy).2) (fun y hy => absurd hy (by simp)) (fun h₁ hns hsb => ⟨I1.nolimit.fresh _ hsb, ?_⟩) L.kind)
    show codeAny _ _ (.expr bo (lamEnv X sc s1.heap.objs.size f c')) _ _
    have kp : ∀ b o, s1.heap.get? b = some o → h₁.get? b = some o := fun b o e => hsb.extBut b o (Nat.ne_of_lt (Heap.lt_size e)) (Heap.get?_push_of_some _ e)
    have J : Inv (lamCx X Y.A Y.stack s1 (tk S HZ) E sc f c') [] σ (tk S HZ) { s1 with heap := h₁, toks := s1.toks + ([] : List (Str × Value)).length } := lam_enter kt L e0 hr.hd hS hns kp
    refine PySem.W.kla_codeExpr (wpAny_mono ((body Y.A Y.stack s1 (tk S HZ) f c' (hr.deeper _)).run [] _ _ (tk S HZ) (fun u H' => Off S H' → Q u (gv S H')) J ht) (fun u s2 hq => ?_) fun e s2 hq => ?_)
    · obtain ⟨u2, H', J2, rv, q⟩ := hq
      obtain ⟨b1, b2, b3⟩ := un_back hokX hS e0.frf J2.base J2.hok
      exact ⟨u2, gv S H', J2.os, J2.bare, b1, b2, rv, q b3⟩
    · have turn : ∀ e2 s3, L2.CX X.prog X.w Y.stack (tk S HZ) s1 E e2 s3 → L2.CX X.prog X.w Y.stack HZ s1 (fun cls d H2 => ∃ H', H2 = gv S H' ∧ Off S H' ∧ E cls d H') e2 s3 := fun e2 s3 z => by
        obtain ⟨a0, B, H', cls, d, rfl, fl, hok, ub, na, os, ag, hE⟩ := z
        obtain ⟨b1, b2, b4, b3⟩ := ub_back hokX hS e0.frf ub hok
        refine ⟨a0, B, gv S H', cls, d, rfl, fl, b2, b1, ?_, os, ag, H', rfl, b4, hE⟩
        cases r : S a0 with
        | none => rw [gv_out r]; exact na
        | some ob =>
          exfalso
          have := b3 a0 ob r
          exact absurd this (by
            have z := fl.2.1
            rw [z]
            exact fun q => nomatch q)
      exact wpAny_mono hq (fun _ s3 z => turn _ _ z) fun e2 s3 z => turn _ _ z
  have hx : Passes (L2.CX Y.prog Y.w) Y (fun cls d H2 => ∃ H', H2 = gv S H' ∧ Off S H' ∧ E cls d H') := passes_call tks fun cls d σ2 H2 ⟨H', e, off, z⟩ => by
    subst e
    exact hW cls d σ2 H' z off
  refine wpAny_call (codeAny_mono run fun r s2 hq => ?_)
  cases r with
  | error e => exact hx pins ρ HZ s1 e s2 I1 hq
  | ok fl =>
    cases fl with
    | ret u => exact I1.after hq
    | next => exact False.elim hq
    | brk => exact False.elim hq
    | cont => exact False.elim hq
end
end Vl
set_option linter.all false
set_option maxRecDepth 100000
set_option maxHeartbeats 2000000
namespace Vl
open PySem PySem.Spec PyProof.Rows L2 LamX
/-- a def that is handed lambdas of this frame: it sees what the frame's cells hold -/
def tCallV (X : Cx) (sp : Sp) (t : TA) : TE := fun σ H Q => t σ H fun vs H1 => ∀ S : Addr → Option Obj, Kept X σ S → (∀ b ob, S b = some ob → H1 b = none) → sp vs (gv S H1) (fun u H' => (∀ b ob, S b = some ob → H' b = some (Fz b ob)) → Q u (tk S H')) fun _ _ _ => False
section
variable {X : Cx} {pins : List (Addr × Obj)} {σ : L2.St} {H : Hp} {s : Shared}
open Classical in
/-- the cells of the frame, as they are -/
theorem cells_of (I : Inv X pins σ H s) : ∃ S : Addr → Option Obj, Kept X σ S ∧ (∀ b ob, S b = some ob → s.heap.get? b = some ob) ∧ (∀ b ob, S b = some ob → H b = none) ∧ ∀ b ob, S b = some ob → ∃ x v, X.env.cells.lookup x = some b ∧ ob.data = .cell v := by
  let S : Addr → Option Obj := fun b => if ∃ x, X.env.cells.lookup x = some b then s.heap.get? b else none
  have yes : ∀ {x b}, X.env.cells.lookup x = some b → S b = s.heap.get? b := fun {x b} e => if_pos ⟨x, e⟩
  have inv : ∀ {b ob}, S b = some ob → (∃ x, X.env.cells.lookup x = some b) ∧ s.heap.get? b = some ob := fun {b ob} e => by
    by_cases c : ∃ x, X.env.cells.lookup x = some b
    · exact ⟨c, by rw [← e]; exact (if_pos c).symm⟩
    · have z : S b = none := if_neg c
      rw [z] at e
      cases e
  refine ⟨S, ⟨fun x c e => ?_, fun i x v e1 e2 e3 => ?_, I.len, I.ok.inj, I.ok.has⟩, fun b ob e => (inv e).2, fun b ob e => ?_, fun b ob e => ?_⟩
  · obtain ⟨v, ob, g, d⟩ := I.cell x c e
    exact ⟨ob, v, by rw [yes e]; exact g, d⟩
  · obtain ⟨m, _, l⟩ := I.loc
    have vis : Vis X.env.scope x := e3.elim (fun z => .inr (.inl z)) fun z => .inr (.inr z)
    obtain ⟨u, rv, lk⟩ := l i x v e1 e2 vis
    rcases lk with ⟨k, _⟩ | ⟨_, c, e4, ob, g, d⟩
    · have k : X.env.scope.names.lookup x = some .local := k
      rcases e3 with z | z <;> rw [z] at k <;> cases k
    · exact ⟨c, ob, u, e4, by rw [yes e4]; exact g, d, rv⟩
  · obtain ⟨⟨x, c⟩, _⟩ := inv e
    exact I.freeC x b c
  · obtain ⟨⟨x, c⟩, g⟩ := inv e
    obtain ⟨v, ob2, g2, d⟩ := I.cell x b c
    rw [g] at g2
    cases g2
    exact ⟨x, v, c, d⟩
theorem pe_callV {k : Nat} {f : Addr} {fd : FuncData} {ps : List Str} {sp : Sp} {x : Str} {p pos : Pos} {e : Expr} {es : List Expr} {t : TA} (F : Kz.FnG X.prog X.w X.K X.mg X.base C8.CX0 k f fd ps sp) (gu : X.A.guards = some []) (hr : Room k X.A) (gl : Gl X x) (hm : X.mg x = some (.ref f))
    (kp : PySem.W.keepIn X.K (.ref f) = true) (hb : Binds X.K fd ps []) (ha : PA X (e :: es) t) (fn : ∀ y, X.fn y = true) (two : X.stack = X.env :: X.outer ∧ X.env.frame = some X.env.locals) (hdb : (x == ("__debug__" : Str)) = false := by decide)
    (st : starEach (e :: es) X.env = (false, eval e X.env) :: starEach es X.env := by rfl) (nost : (backTo pos (starEach es X.env)).any (·.1) = false := by rfl) : PE X (.Call (.Name x p) (e :: es) [] pos) (tCallV X sp t) := by
  constructor
  intro pins s σ H Q I want
  refine wpAny_Call_Name_kw (ld_glob I gl hm ?_ hdb)
  refine PySem.W.callWith_K (h₀ := X.base) I.ok.mod.kin kp ?_ st nost
  refine thn (ha.run pos pins s σ H _ I want) ?_
  rintro us s1 ⟨vs, H1, I1, r, q⟩
  refine ⟨I1.kIn, ?_⟩
  obtain ⟨S, kt, raw, new, cel⟩ := cells_of I1
  have ask := q S kt new
  have many : us.length = ps.length := by
    rw [← r.length]
    exact F.many _ _ _ _ ask
  have bnd := hb s1 us I1.kIn (by rw [List.append_nil]; exact many)
  rw [List.append_nil] at bnd
  have far : ∀ b, (∃ o, X.s_0.heap.get? b = some o) → S b = none := fun b ⟨o, z⟩ => by
    cases r : S b with
    | none => rfl
    | some ob =>
      obtain ⟨y, v, c, _⟩ := cel b ob r
      exact absurd (Nat.lt_of_lt_of_le (Heap.lt_size z) (I1.ok.cab y b (fn y) c)) (Nat.lt_irrefl _)
  have own : S X.env.locals = none := by
    cases r : S X.env.locals with
    | none => rfl
    | some ob =>
      obtain ⟨y, v, c, d⟩ := cel _ ob r
      obtain ⟨m, ⟨o, es2, ep, g, z⟩, _⟩ := I1.loc
      have g2 := raw _ ob r
      rw [g] at g2
      cases g2
      have z1 := z.1
      simp_all
  have e0 := I1.env0
  have e1 : Env0 X.prog X.w X.K X.mg X.base X.A X.stack s1 (gv S H1) := by
    refine ⟨e0.frames, e0.mod, fun b o z => ⟨(e0.bs b o z).1, ?_⟩, e0.bsz, e0.funs, fun b hb => ?_, hok_gv e0.hok raw new, e0.bare⟩
    · rw [gv_out (far b ⟨o, (I1.ok.bs b o z).1⟩)]
      exact (e0.bs b o z).2
    · have off : S b = none := by
        rw [two.1] at hb
        rcases List.mem_cons.mp (show b ∈ X.env.locals :: frs X.outer by
          unfold frs at hb ⊢
          rw [List.filterMap_cons, two.2] at hb
          exact hb) with z | z
        · rw [z]
          exact own
        · obtain ⟨_, o, g, _⟩ := I1.ok.funs.mem (b := b) z
          exact far b ⟨o, g⟩
      rw [gv_out off]
      exact e0.frf b hb
  refine wpAny_call (codeAny_mono (F.go X.A gu hr X.stack s1 (gv S H1) e1 ⟨us, []⟩ us vs bnd r _ _ ask) ?_)
  intro res s2 hq
  rcases res with er | fl
  · exact False.elim hq
  · rcases fl with _ | _ | _ | u
    · exact False.elim hq
    · exact False.elim hq
    · exact False.elim hq
    · obtain ⟨v, H', os, bare, un, hok, rv, qv⟩ := hq
      obtain ⟨b1, b2, b3⟩ := un_take raw new un hok
      exact I1.after ⟨v, tk S H', os, bare, b1, b2, rv, qv b3⟩
end
end Vl
set_option linter.all false
set_option maxRecDepth 100000
set_option maxHeartbeats 4000000
namespace Kz
open PySem PySem.Spec PyProof.Rows L2
/-! ### error objects -/
/-- an error object with its fields -/
def EAt (H : Hp) (a C : Addr) (fs : List (Str × V)) : Prop := ∃ d, H a = some (exo a C (some d)) ∧ H d = some (exd d fs)
theorem EAt.same {H H' : Hp} {a C : Addr} {fs : List (Str × V)} (h : EAt H a C fs) (s : Same H H') : EAt H' a C fs := by
  obtain ⟨d, e1, e2⟩ := h
  exact ⟨d, s _ _ e1, s _ _ e2⟩
def EAtN (H0 H : Hp) (a C : Addr) (fs : List (Str × V)) : Prop := ∃ d, H0 d = none ∧ H a = some (exo a C (some d)) ∧ H d = some (exd d fs)
def spI1 (K : PySem.W.Frag) (C : Addr) (f : Str) : Sp := fun vs H Q _ => ∃ (a : Addr) (v : V), vs = [.ref a, v] ∧ OexC K C ∧ PySem.W.findIn K (.ref C) f = some none ∧ H a = some (exo a C none) ∧
  ∀ H', EAtN H H' a C [(f, v)] → But a H H' → Q .non H'
def spI2 (K : PySem.W.Frag) (C : Addr) (f g : Str) : Sp := fun vs H Q _ => ∃ (a : Addr) (v u : V), vs = [.ref a, v, u] ∧ OexC K C ∧ PySem.W.findIn K (.ref C) f = some none ∧ PySem.W.findIn K (.ref C) g = some none ∧ H a = some (exo a C none) ∧
  ∀ H', EAtN H H' a C [(g, u), (f, v)] → But a H H' → Q .non H'
def t1 (K : PySem.W.Frag) (f : Str) : TS := tOst K f (tVar 0) (tVar 1)
def t2 (K : PySem.W.Frag) (f g : Str) : TS := tSeq (tOst K f (tVar 0) (tVar 1)) (tOst K g (tVar 0) (tVar 2))
theorem run1 {K : PySem.W.Frag} {C : Addr} {f x : Str} {vs : List V} {H : Hp} {Q : VK} {E : XK} (h : spI1 K C f vs H Q E) : t1 K f { nx := fun _ H' => Q .non H', rt := Q } (start ["self", x] vs) H := by
  obtain ⟨a, v, rfl, T, no, ea, k⟩ := h
  refine ⟨_, rfl, _, rfl, a, C, rfl, T, no, .inl ⟨ea, fun d nd ne => ?_⟩⟩
  refine k _ ⟨d, nd, upd_same, ?_⟩ fun b o e nb => ?_
  · rw [upd_ne ne]
    exact upd_same
  · rw [upd_ne nb, upd_ne (ne_of_none e nd)]
    exact e
theorem run2 {K : PySem.W.Frag} {C : Addr} {f g x y : Str} {vs : List V} {H : Hp} {Q : VK} {E : XK} (h : spI2 K C f g vs H Q E) : t2 K f g { nx := fun _ H' => Q .non H', rt := Q } (start ["self", x, y] vs) H := by
  obtain ⟨a, v, u, rfl, T, no, no2, ea, k⟩ := h
  refine ⟨_, rfl, _, rfl, a, C, rfl, T, no, .inl ⟨ea, fun d nd ne => ?_⟩⟩
  refine ⟨_, rfl, _, rfl, a, C, rfl, T, no2, .inr ⟨d, [(f, v)], upd_same, ?_, (by show 1 ≤ 900; decide), ?_⟩⟩
  · rw [upd_ne ne]
    exact upd_same
  refine k _ ⟨d, nd, ?_, upd_same⟩ fun b o e nb => ?_
  · rw [upd_ne ne.symm]
    exact upd_same
  · have nbd := ne_of_none e nd
    rw [upd_ne nbd, upd_ne nb, upd_ne nbd]
    exact e

/-! ### what the top has written of the classes -/
structure BaseT (K : PySem.W.Frag) (mg : Str → Option Value) (B : Addr) (mc : Value) : Prop where
  g : mg "MeanError" = some (.ref B)
  rd : ClX.CRead K B mc
  fnd : PySem.W.findCls K (.ref B) mc "__init__" = some (.val (.builtin "ValueError.__init__"))
  cls : (PySem.W.clsIn K B).isSome = true
  ty : PySem.W.typeIn K (.ref B) = some (.type "type")
structure ErrT (K : PySem.W.Frag) (mg : Str → Option Value) (x : Str) (B C : Addr) : Prop where
  o : OexC K C
  xf : XfC K C
  ex : ExcC K C
  g : mg x = some (.ref C)
  mro : ∃ cd, PySem.W.clsIn K C = some cd ∧ cd.mro = [.ref C, .ref B, .type "ValueError", .type "Exception", .type "BaseException", .type "object"]
structure InitT (K : PySem.W.Frag) (P : Program) (x : Str) (st : Stmt) (C f : Addr) (fd : FuncData) : Prop where
  i : PySem.W.findIn K (.ref C) "__init__" = some (some (.ref f))
  t : PySem.W.typeIn K (.ref f) = some (.type "function")
  fn : FunS K P x st C f fd
theorem ErrT.kitB {K : PySem.W.Frag} {mg : Str → Option Value} {x : Str} {B C : Addr} {mc : Value} (T : ErrT K mg x B C) (U : BaseT K mg B mc) : PySem.W.kitOne K (.ref C) (.ref B) = some true := by
  obtain ⟨cd, e1, e2⟩ := T.mro
  unfold PySem.W.kitOne
  by_cases h : C = B
  · subst h
    simp
  · have n1 : ¬ ((Value.ref C == Value.ref B) = true) := by
      intro z
      exact h (Value.ref.inj (beq_iff_eq.mp z))
    rw [if_neg n1]
    have ok : ((PySem.W.clsIn K B).isSome && PySem.W.typeIn K (.ref B) == some (.type "type")) = true := by
      rw [U.cls, U.ty]
      rfl
    show (if ((PySem.W.clsIn K B).isSome && PySem.W.typeIn K (.ref B) == some (.type "type")) = true then PySem.W.mroIn K C (.ref B) else none) = _
    rw [if_pos ok]
    unfold PySem.W.mroIn
    rw [e1, Option.bind_some, e2]
    simp
abbrev sI3 : Stmt := inClass (top 4) 0
abbrev sI4 : Stmt := inClass (top 5) 0
abbrev sI6 : Stmt := inClass (top 6) 0
section
variable {P : Program} {w : World} {K : PySem.W.Frag} {mg : Str → Option Value} {base : Heap}
theorem scI3 : SupScope ["self", "what", "number"] ["self", "what", "number"] (defScope sI3) := ⟨rfl, rfl, rfl, by decide +kernel, rfl, by decide +kernel, by decide +kernel, by decide +kernel, rfl, rfl⟩
theorem ok_i3 {C f : Addr} {fd : FuncData} (F : FunS K P "BadNumber.__init__" sI3 C f fd) : FnOk P w K mg base CX0 1 f fd ["self", "what", "number"] (spI2 K C "what" "number") := by
  refine fn_sup F scI3 rfl (fun _ => rfl) rfl rfl (fun vs H Q E h => ?_) (fun cda cc A outer s H vs Q E h => ?_)
  · obtain ⟨a, v, u, rfl, _⟩ := h
    rfl
  · have h0 := h
    obtain ⟨a, v, u, rfl, T, no, no2, ea, _⟩ := h
    exact ⟨a, _, _, rfl, T, ea, pss_cons (ps_ost (pv 0) (pv 1)) (pss_one (ps_ost (pv 0) (pv 2))), run2 h0⟩
theorem scI4 : SupScope ["self", "row"] ["self", "row"] (defScope sI4) := ⟨rfl, rfl, rfl, by decide +kernel, rfl, by decide +kernel, by decide +kernel, by decide +kernel, rfl, rfl⟩
theorem ok_i4 {C f : Addr} {fd : FuncData} (F : FunS K P "BadRow.__init__" sI4 C f fd) : FnOk P w K mg base CX0 1 f fd ["self", "row"] (spI1 K C "row") := by
  refine fn_sup F scI4 rfl (fun _ => rfl) rfl rfl (fun vs H Q E h => ?_) (fun cda cc A outer s H vs Q E h => ?_)
  · obtain ⟨a, v, rfl, _⟩ := h
    rfl
  · have h0 := h
    obtain ⟨a, v, rfl, T, no, ea, _⟩ := h
    exact ⟨a, _, _, rfl, T, ea, pss_one (ps_ost (pv 0) (pv 1)), run1 h0⟩
theorem scI6 : SupScope ["self", "what"] ["self", "what"] (defScope sI6) := ⟨rfl, rfl, rfl, by decide +kernel, rfl, by decide +kernel, by decide +kernel, by decide +kernel, rfl, rfl⟩
theorem ok_i6 {C f : Addr} {fd : FuncData} (F : FunS K P "Unlike.__init__" sI6 C f fd) : FnOk P w K mg base CX0 1 f fd ["self", "what"] (spI1 K C "what") := by
  refine fn_sup F scI6 rfl (fun _ => rfl) rfl rfl (fun vs H Q E h => ?_) (fun cda cc A outer s H vs Q E h => ?_)
  · obtain ⟨a, v, rfl, _⟩ := h
    rfl
  · have h0 := h
    obtain ⟨a, v, rfl, T, no, ea, _⟩ := h
    exact ⟨a, _, _, rfl, T, ea, pss_one (ps_ost (pv 0) (pv 1)), run1 h0⟩
end
/-! ### raising them -/
theorem raised1 {K : PySem.W.Frag} {C : Addr} {f : Str} {v : V} {H : Hp} {Q : XK} (T : OexC K C) (no : PySem.W.findIn K (.ref C) f = some none)
    (k : ∀ (d : Addr) (H' : Hp), Same H H' → H' d = some (.xd [(f, v)]) → Q (.ref C) (some d) H') :
    [v].length ≤ 1000 ∧ ∀ a, H a = none → spI1 K C f (.ref a :: ([v] ++ [])) (upd H a (exo a C none))
      (fun x H2 => x = .non ∧ ∃ (d : Addr) (fs : List (Str × V)), H2 a = some (exo a C (some d)) ∧ H2 d = some (exd d fs) ∧ H d = none ∧ Q (.ref C) (some d) (upd (del H2 a) d (.xd fs))) fun _ _ _ => False := by
  refine ⟨by show 1 ≤ 1000; decide, fun a n => ⟨a, v, rfl, T, no, upd_same, fun H' e b => ?_⟩⟩
  obtain ⟨d, nd, e1, e2⟩ := e
  have da : d ≠ a := fun z => by
    rw [z, upd_same] at nd
    cases nd
  rw [upd_ne da] at nd
  refine ⟨rfl, d, _, e1, e2, nd, k d _ (fun c u e => ?_) upd_same⟩
  have ca := ne_of_none e n
  have cd := ne_of_none e nd
  rw [upd_ne cd, del_ne ca]
  refine b c u ?_ ca
  rw [upd_ne ca]
  exact e
theorem raised2 {K : PySem.W.Frag} {C : Addr} {f g : Str} {v u : V} {H : Hp} {Q : XK} (T : OexC K C) (no : PySem.W.findIn K (.ref C) f = some none) (no2 : PySem.W.findIn K (.ref C) g = some none)
    (k : ∀ (d : Addr) (H' : Hp), Same H H' → H' d = some (.xd [(g, u), (f, v)]) → Q (.ref C) (some d) H') :
    [v, u].length ≤ 1000 ∧ ∀ a, H a = none → spI2 K C f g (.ref a :: ([v, u] ++ [])) (upd H a (exo a C none))
      (fun x H2 => x = .non ∧ ∃ (d : Addr) (fs : List (Str × V)), H2 a = some (exo a C (some d)) ∧ H2 d = some (exd d fs) ∧ H d = none ∧ Q (.ref C) (some d) (upd (del H2 a) d (.xd fs))) fun _ _ _ => False := by
  refine ⟨by show 2 ≤ 1000; decide, fun a n => ⟨a, v, u, rfl, T, no, no2, upd_same, fun H' e b => ?_⟩⟩
  obtain ⟨d, nd, e1, e2⟩ := e
  have da : d ≠ a := fun z => by
    rw [z, upd_same] at nd
    cases nd
  rw [upd_ne da] at nd
  refine ⟨rfl, d, _, e1, e2, nd, k d _ (fun c u e => ?_) upd_same⟩
  have ca := ne_of_none e n
  have cd := ne_of_none e nd
  rw [upd_ne cd, del_ne ca]
  refine b c u ?_ ca
  rw [upd_ne ca]
  exact e
end Kz
set_option linter.all false
set_option maxRecDepth 100000
set_option maxHeartbeats 4000000
namespace Kz
open PySem PySem.Spec PyProof.Rows L2
/-! ### a def as it stands, and its calls -/
structure Df (K : PySem.W.Frag) (mg : Str → Option Value) (x : Str) (st : Stmt) (ps : List Str) where
  f : Addr
  fd : FuncData
  fn : Fun K x x st f fd
  g : mg x = some (.ref f)
  b : Binds K fd ps []
section
variable {X : Cx} {P : Program} {w : World} {K : PySem.W.Frag} {mg : Str → Option Value} {base : Heap} {k : Nat} {x : Str} {stt : Stmt} {ps : List Str} {sp : Sp} {W : WX} {p pos : Pos} {e : Expr} {es : List Expr} {t : TA}
/-- the context's own is the module's -/
abbrev Of (X : Cx) (P : Program) (w : World) (K : PySem.W.Frag) (mg : Str → Option Value) (base : Heap) : Prop := X.prog = P ∧ X.w = w ∧ X.K = K ∧ X.mg = mg ∧ X.base = base
theorem Df.cS (D : Df K mg x stt ps) (F : FnOk P w K mg base (CX P w) k D.f D.fd ps sp) (hr : Room k X.A) (tk : Takes X W) (ha : PA X (e :: es) t) (of : Of X P w K mg base := by exact ⟨rfl, rfl, rfl, rfl, rfl⟩) (hg : Gl X x := by rfl) (hdb : (x == ("__debug__" : Str)) = false := by decide)
    (st : starEach (e :: es) X.env = (false, eval e X.env) :: starEach es X.env := by rfl) (nost : (backTo pos (starEach es X.env)).any (·.1) = false := by rfl) : PE X (.Call (.Name x p) (e :: es) [] pos) (tCallS sp (WE W) t) := by
  obtain ⟨rfl, rfl, rfl, rfl, rfl⟩ := of
  exact pe_callS F hr hg D.g D.fn.kp D.b (fun σ => passAt tk σ) ha hdb st nost
theorem Df.cX (D : Df K mg x stt ps) (F : FnOk P w K mg base (CX P w) k D.f D.fd ps sp) (hr : Room k X.A) (ha : PA X (e :: es) t) (of : Of X P w K mg base := by exact ⟨rfl, rfl, rfl, rfl, rfl⟩) (hg : Gl X x := by rfl) (hdb : (x == ("__debug__" : Str)) = false := by decide)
    (st : starEach (e :: es) X.env = (false, eval e X.env) :: starEach es X.env := by rfl) (nost : (backTo pos (starEach es X.env)).any (·.1) = false := by rfl) : PE X (.Call (.Name x p) (e :: es) [] pos) (tCall sp [] (fun _ _ _ => False) t) := by
  obtain ⟨rfl, rfl, rfl, rfl, rfl⟩ := of
  exact pe_call F hr hg D.g D.fn.kp D.b .nil passL ha hdb st nost
theorem Df.c0 (D : Df K mg x stt ps) (F : FnOk P w K mg base CX0 k D.f D.fd ps sp) (hr : Room k X.A) (ha : PA X (e :: es) t) (of : Of X P w K mg base := by exact ⟨rfl, rfl, rfl, rfl, rfl⟩) (hg : Gl X x := by rfl) (hdb : (x == ("__debug__" : Str)) = false := by decide)
    (st : starEach (e :: es) X.env = (false, eval e X.env) :: starEach es X.env := by rfl) (nost : (backTo pos (starEach es X.env)).any (·.1) = false := by rfl) : PE X (.Call (.Name x p) (e :: es) [] pos) (tCall sp [] (fun _ _ _ => False) t) := by
  obtain ⟨rfl, rfl, rfl, rfl, rfl⟩ := of
  exact pe_call F hr hg D.g D.fn.kp D.b .nil pass0 ha hdb st nost
/-- // with any divisor but 0, where the two are not both very long -/
def CDivF (i j : Int) : Prop := j ≠ 0 ∧ Builtin.divisionGoesByPylong i j = false
theorem op_fdivF : OpR X (binaryOp .FloorDiv) (rI CDivF fun i j => .int (i.fdiv j)) := opI fun i j _ _ _ _ _ hc q => floordiv_int hc.1 q (.inl hc.2)
end
theorem cdivF {i j : Int} (h : j ≠ 0) (b : j.natAbs < 2 ^ 9000) : CDivF i j := by
  refine ⟨h, PyProof.noPylong_of_log2 ?_⟩
  exact (Nat.log2_lt (by omega)).mpr b

/-! ### what the top has written -/
structure Tx (P : Program) (K : PySem.W.Frag) (mg : Str → Option Value) where
  blt : Blt mg
  mIsi : mg "isinstance" = none
  mBool : mg "bool" = none
  mTuple : mg "tuple" = none
  mMax : mg "max" = none
  mAll : mg "all" = none
  mEnum : mg "enumerate" = none
  mRev : mg "reversed" = none
  mZip : mg "zip" = none
  mAbs : mg "abs" = none
  mStr : mg "str" = none
  mRepr : mg "repr" = none
  mDm : mg "divmod" = none
  mNi : mg "NotImplemented" = none
  mGcd : mg "gcd" = some (.builtin "math.gcd")
  mLcm : mg "lcm" = some (.builtin "math.lcm")
  B : Addr
  mc : Value
  cN : Addr
  cR : Addr
  cI : Addr
  cU : Addr
  base : BaseT K mg B mc
  eN : ErrT K mg "BadNumber" B cN
  nN1 : PySem.W.findIn K (.ref cN) "what" = some none
  nN2 : PySem.W.findIn K (.ref cN) "number" = some none
  fN : Addr
  dN : FuncData
  iN : InitT K P "BadNumber.__init__" sI3 cN fN dN
  bN : Binds K dN ["self", "what", "number"] []
  eR : ErrT K mg "BadRow" B cR
  nR1 : PySem.W.findIn K (.ref cR) "row" = some none
  fR : Addr
  dR : FuncData
  iR : InitT K P "BadRow.__init__" sI4 cR fR dR
  bR : Binds K dR ["self", "row"] []
  eU : ErrT K mg "Unlike" B cU
  is_whole : Df K mg "is_whole" (top 8) ["value"]
  is_pair : Df K mg "is_pair" (top 9) ["value"]
  is_ratio : Df K mg "is_ratio" (top 10) ["value"]
  lowest : Df K mg "lowest" (top 11) ["top", "bottom"]
  told : Df K mg "told" (top 12) ["value", "what"]
  plus : Df K mg "plus" (top 13) ["one", "other"]
  minus : Df K mg "minus" (top 14) ["one", "other"]
  times : Df K mg "times" (top 15) ["one", "other"]
  lower : Df K mg "lower" (top 16) ["one", "other"]

/-! ### kinds of values -/
def tyNames : List String := ["int", "bool", "str", "NoneType", "tuple", "list", "dict"]
def TyN (K : PySem.W.Frag) (H : Hp) (v : V) (t : String) : Prop := TyX K H v (.type t) ∧ t ∈ tyNames
theorem kb_int : ∀ t ∈ tyNames, kitB t "int" = some (t == "int" || t == "bool") := by decide +kernel
theorem kb_bool : ∀ t ∈ tyNames, kitB t "bool" = some (t == "bool") := by decide +kernel
theorem kb_tuple : ∀ t ∈ tyNames, kitB t "tuple" = some (t == "tuple") := by decide +kernel
theorem kb_list : ∀ t ∈ tyNames, kitB t "list" = some (t == "list") := by decide +kernel
theorem int_not_bool : ∀ t ∈ tyNames, ((t == "int" || t == "bool") && !(t == "bool")) = (t == "int") := by decide +kernel
theorem boot_isi : bootBuiltins "isinstance" = some (.builtin "isinstance") := by decide +kernel
theorem boot_tint : bootBuiltins "int" = some (.type "int") := by decide +kernel
theorem boot_tbool : bootBuiltins "bool" = some (.type "bool") := by decide +kernel
theorem boot_ttuple : bootBuiltins "tuple" = some (.type "tuple") := by decide +kernel
theorem boot_tlist : bootBuiltins "list" = some (.type "list") := by decide +kernel
theorem ty_tup {K : PySem.W.Frag} {H : Hp} {a : Addr} {xs : List V} (h : SqT K H a xs) : TyN K H (.ref a) "tuple" := by
  refine ⟨?_, by decide⟩
  rcases h with (h | ⟨o, h⟩) | ⟨o, its, n, e, c, _⟩
  · exact .base (.tup h)
  · exact .fTuple h
  · exact .kTuple e c
theorem ty_lst {K : PySem.W.Frag} {H : Hp} {a : Addr} {xs : List V} (h : SqL K H a xs) : TyN K H (.ref a) "list" := by
  refine ⟨?_, by decide⟩
  rcases h with (h | ⟨o, h⟩) | ⟨o, its, n, e, c, _⟩
  · exact .base (.lst h)
  · exact .base (.frz h)
  · exact .kList e c
theorem ty_int {K : PySem.W.Frag} {H : Hp} {i : Int} : TyN K H (.int i) "int" := ⟨.base (.int i), by decide⟩
theorem ty_bl {K : PySem.W.Frag} {H : Hp} {i : Bool} : TyN K H (.bl i) "bool" := ⟨.base (.bl i), by decide⟩
theorem ty_str {K : PySem.W.Frag} {H : Hp} {i : Str} : TyN K H (.str i) "str" := ⟨.base (.str i), by decide⟩
theorem ty_non {K : PySem.W.Frag} {H : Hp} : TyN K H .non "NoneType" := ⟨.base .non, by decide⟩
theorem ty_dic {K : PySem.W.Frag} {H : Hp} {a : Addr} {kvs : List (Key × V)} (h : H a = some (.dK kvs)) : TyN K H (.ref a) "dict" := ⟨.base (.dK h), by decide⟩
/-- a tuple or a list -/
def Sq (K : PySem.W.Frag) (H : Hp) (a : Addr) (xs : List V) : Prop := SqL K H a xs ∨ SqT K H a xs
theorem Sq.same {K : PySem.W.Frag} {H H' : Hp} {a : Addr} {xs : List V} (s : Same H H') (h : Sq K H a xs) : Sq K H' a xs := h.elim (fun h => .inl (Same.seq s h)) fun h => .inr (Kz.Same.seqT s h)

section
variable {P : Program} {w : World} {K : PySem.W.Frag} {mg : Str → Option Value} {base : Heap}
def spWhole (K : PySem.W.Frag) : Sp := fun vs H Q _ => ∃ v t, vs = [v] ∧ TyN K H v t ∧ Q (.bl (t == "int")) H
theorem sc8 : FnScope ["value"] ["value"] (defScope (top 8)) := ⟨rfl, rfl, rfl, by decide +kernel, rfl, by decide +kernel, by decide +kernel⟩
theorem ok_whole (T : Tx P K mg) : FnOk P w K mg base CX0 1 T.is_whole.f T.is_whole.fd ["value"] (spWhole K) := by
  refine T.is_whole.fn.ok sc8 (fun vs H Q E h => ?_) (fun cdv A outer s H vs Q E hr h => ?_)
  · obtain ⟨v, t, rfl, _⟩ := h
    rfl
  · obtain ⟨v, t, rfl, ty, q⟩ := h
    refine ⟨_, pss_one (ps_ret (pe_and (pe_callB call_isi (by rfl) T.mIsi boot_isi (pa_cons (pv 0) (pa_cons (pe_bltn (v := .ty "int") (by rfl) T.blt.int boot_tint rfl) pa_nil)))
      (pe_one (pe_not (pe_callB call_isi (by rfl) T.mIsi boot_isi (pa_cons (pv 0) (pa_cons (pe_bltn (v := .ty "bool") (by rfl) T.mBool boot_tbool rfl) pa_nil))))))), ?_⟩
    refine ⟨_, rfl, v, _, _, _, _, rfl, .ty _, ty.1, kit_ty (kb_int t ty.2), _, rfl, ?_⟩
    have e := int_not_bool t ty.2
    cases c : (t == "int" || t == "bool") with
    | true =>
      rw [c, Bool.true_and] at e
      refine iteT ⟨_, rfl, v, _, _, _, _, rfl, .ty _, ty.1, kit_ty (kb_bool t ty.2), _, rfl, ?_⟩
      rw [e]
      exact q
    | false =>
      rw [c, Bool.false_and] at e
      refine iteF ?_
      rw [e]
      exact q
/-- what is_pair says of a value -/
inductive Pr (K : PySem.W.Frag) (H : Hp) : V → Bool → Prop
  | no {v : V} {t : String} : TyN K H v t → (t == "tuple") = false → (t == "list") = false → Pr K H v false
  | len {a : Addr} {xs : List V} : Sq K H a xs → xs.length ≠ 2 → Pr K H (.ref a) false
  | fst {a : Addr} {x y : V} {t : String} : Sq K H a [x, y] → TyN K H x t → (t == "int") = false → Pr K H (.ref a) false
  | snd {a : Addr} {x : Int} {y : V} {t : String} : Sq K H a [.int x, y] → TyN K H y t → (t == "int") = false → Pr K H (.ref a) false
  | two {a : Addr} {x y : Int} : Sq K H a [.int x, .int y] → Pr K H (.ref a) (decide (y > 0))
def spPair (K : PySem.W.Frag) : Sp := fun vs H Q _ => ∃ v b, vs = [v] ∧ Pr K H v b ∧ ∀ H', Same H H' → Q (.bl b) H'
theorem sc9 : FnScope ["value"] ["value"] (defScope (top 9)) := ⟨rfl, rfl, rfl, by decide +kernel, rfl, by decide +kernel, by decide +kernel⟩
theorem kit_tl {K : PySem.W.Frag} {t : String} (m : t ∈ tyNames) : PySem.W.kitAny K (.type t) [.type "tuple", .type "list"] = some (t == "tuple" || t == "list") := by
  refine kitAny_cons (b := (t == "tuple")) (kit_ty (kb_tuple t m)) (fun h => ?_) (fun h => by rw [h]; rfl)
  refine kitAny_cons (b := (t == "list")) (kit_ty (kb_list t m)) (fun h' => ?_) (fun h' => by rw [h']; simp)
  rw [h, h']
  rfl
theorem clsTL : Paired ClsV [.ty "tuple", .ty "list"] [.type "tuple", .type "list"] := .cons (.ty _) (.cons (.ty _) .nil)
end
end Kz
set_option linter.all false
set_option maxRecDepth 100000
set_option maxHeartbeats 4000000
namespace Kz
open PySem PySem.Spec PyProof.Rows L2
theorem TyX.same {K : PySem.W.Frag} {H H' : Hp} {v : V} {t : Value} (s : Same H H') (h : TyX K H v t) : TyX K H' v t := by
  cases h with
  | base b =>
    cases b with
    | non => exact .base .non
    | bl x => exact .base (.bl x)
    | int i => exact .base (.int i)
    | str x => exact .base (.str x)
    | flt x => exact .base (.flt x)
    | lst e => exact .base (.lst (s _ _ e))
    | frz e => exact .base (.frz (s _ _ e))
    | tup e => exact .base (.tup (s _ _ e))
    | dK e => exact .base (.dK (s _ _ e))
    | dT e => exact .base (.dT (s _ _ e))
    | ins e a b c d f => exact .base (.ins (s _ _ e) a b c d f)
  | byt b => exact .byt b
  | set e => exact .set (s _ _ e)
  | kList e c => exact .kList e c
  | kTuple e c => exact .kTuple e c
  | kDict e c => exact .kDict e c
  | fTuple e => exact .fTuple (s _ _ e)
  | fDict e => exact .fDict (s _ _ e)
theorem TyN.same {K : PySem.W.Frag} {H H' : Hp} {v : V} {t : String} (s : Same H H') (h : TyN K H v t) : TyN K H' v t := ⟨TyX.same s h.1, h.2⟩
theorem Pr.same {K : PySem.W.Frag} {H H' : Hp} {v : V} {b : Bool} (s : Same H H') (h : Pr K H v b) : Pr K H' v b := by
  cases h with
  | no a b c => exact .no (a.same s) b c
  | len a b => exact .len (a.same s) b
  | fst a b c => exact .fst (a.same s) (b.same s) c
  | snd a b c => exact .snd (a.same s) (b.same s) c
  | two a => exact .two (a.same s)
theorem Sq.ix {K : PySem.W.Frag} {H : Hp} {a : Addr} {xs : List V} {j : Int} {v : V} {Q : VK} (h : Sq K H a xs) (e : atI xs j = some v) (q : Q v H) : rIx K (.ref a) (.int j) H Q :=
  h.elim (fun h => .inl ⟨a, xs, j, v, rfl, rfl, h, e, q⟩) fun h => .inr (.inl ⟨a, xs, j, v, rfl, rfl, h, e, q⟩)
section
variable {P : Program} {w : World} {K : PySem.W.Frag} {mg : Str → Option Value} {base : Heap}
theorem Sq.ty {H : Hp} {a : Addr} {xs : List V} (h : Sq K H a xs) : ∃ t, TyN K H (.ref a) t ∧ (t == "tuple" || t == "list") = true ∧ (t == "int") = false :=
  h.elim (fun h => ⟨_, ty_lst h, by decide, by decide⟩) fun h => ⟨_, ty_tup h, by decide, by decide⟩
theorem ok_pair (T : Tx P K mg) : FnOk P w K mg base CX0 2 T.is_pair.f T.is_pair.fd ["value"] (spPair K) := by
  have G : FnOk P w K mg base CX0 1 T.is_whole.f T.is_whole.fd ["value"] (spWhole K) := ok_whole T
  refine T.is_pair.fn.ok sc9 (fun vs H Q E h => ?_) (fun cdv A outer s H vs Q E hr h => ?_)
  · obtain ⟨v, t, rfl, _⟩ := h
    rfl
  · obtain ⟨v, b, rfl, pr, q⟩ := h
    refine ⟨_, pss_cons (ps_if (PW.pt (pw_or (pt_not (pt_val (pe_callB call_isiT (by rfl) T.mIsi boot_isi (pa_cons (pv 0) (pa_cons (pe_tup (pa_cons (pe_bltn (v := .ty "tuple") (by rfl) T.mTuple boot_ttuple rfl) (pa_cons (pe_bltn (v := .ty "list") (by rfl) T.blt.list boot_tlist rfl) pa_nil))) pa_nil)))))
        (pw_or1 (pt_cmpR op_ne (pe_callB call_len_seq (by rfl) T.blt.len PySem.boot_len (pa_cons (pv 0) pa_nil)) pe_int (nomark _))))) (pss_one (ps_ret pe_bl)) pss_nil)
      (pss_one (ps_ret (pe_and (T.is_whole.c0 G hr (pa_cons (pe_ix ix_seq (pv 0) pe_int (fun _ _ => rfl)) pa_nil)) (pe_and (T.is_whole.c0 G hr (pa_cons (pe_ix ix_seq (pv 0) pe_int (fun _ _ => rfl)) pa_nil))
        (pe_one (pe_cmpR op_gt (pe_ix ix_seq (pv 0) pe_int (fun _ _ => rfl)) pe_int (nomark _))))))), ?_⟩
    refine ⟨v, rfl, ?_⟩
    refine ⟨(by show 2 ≤ sizeLine; decide), fun p hp => ?_⟩
    have s1 : Same H (upd H p (.tup [.ty "tuple", .ty "list"])) := fun c u e => by
      rw [upd_ne (ne_of_none e hp)]
      exact e
    have hp1 : upd H p (.tup [.ty "tuple", .ty "list"]) p = some (.tup [.ty "tuple", .ty "list"]) := upd_same
    have pr1 := pr.same s1
    generalize upd H p (.tup [.ty "tuple", .ty "list"]) = H1 at s1 hp1 pr1
    have atoms : ∀ t : String, TyN K H1 v t → PySem.W.kitAny K (.type t) [.type "tuple", .type "list"] = some (t == "tuple" || t == "list") := fun t ty => kit_tl ty.2
    cases pr1 with
    | @no _ t ty n1 n2 =>
      refine ⟨v, p, _, _, _, _, rfl, hp1, clsTL, ty.1, atoms t ty, _, rfl, ?_⟩
      rw [n1, n2]
      exact iteT (iteT (q _ s1))
    | @len a xs hs l =>
      obtain ⟨t, ty, e1, e2⟩ := hs.ty
      refine ⟨_, p, _, _, _, _, rfl, hp1, clsTL, ty.1, atoms t ty, _, rfl, ?_⟩
      rw [e1]
      refine iteF ⟨_, rfl, a, xs, rfl, hs, rfl, _, rfl, ?_⟩
      have : ¬ ((V.int (xs.length : Int)) = V.int 2) := fun z => l (by have := V.int.inj z; omega)
      rw [decide_eq_false this]
      exact iteT (q _ s1)
    | @fst a x y t' hs ty' n1 =>
      obtain ⟨t, ty, e1, e2⟩ := hs.ty
      refine ⟨_, p, _, _, _, _, rfl, hp1, clsTL, ty.1, atoms t ty, _, rfl, ?_⟩
      rw [e1]
      refine iteF ⟨_, rfl, a, _, rfl, hs, rfl, _, rfl, ?_⟩
      refine iteF ⟨_, rfl, hs.ix rfl ⟨x, _, rfl, ty', ?_⟩⟩
      rw [n1]
      exact ⟨_, rfl, iteF (q _ s1)⟩
    | @snd a x y t' hs ty' n1 =>
      obtain ⟨t, ty, e1, e2⟩ := hs.ty
      refine ⟨_, p, _, _, _, _, rfl, hp1, clsTL, ty.1, atoms t ty, _, rfl, ?_⟩
      rw [e1]
      refine iteF ⟨_, rfl, a, _, rfl, hs, rfl, _, rfl, ?_⟩
      refine iteF ⟨_, rfl, hs.ix rfl ⟨_, _, rfl, ty_int, ?_⟩⟩
      refine ⟨_, rfl, iteT ⟨_, rfl, hs.ix rfl ⟨y, _, rfl, ty', ?_⟩⟩⟩
      rw [n1]
      exact ⟨_, rfl, iteF (q _ s1)⟩
    | @two a x y hs =>
      obtain ⟨t, ty, e1, e2⟩ := hs.ty
      refine ⟨_, p, _, _, _, _, rfl, hp1, clsTL, ty.1, atoms t ty, _, rfl, ?_⟩
      rw [e1]
      refine iteF ⟨_, rfl, a, _, rfl, hs, rfl, _, rfl, ?_⟩
      refine iteF ⟨_, rfl, hs.ix rfl ⟨_, _, rfl, ty_int, ?_⟩⟩
      refine ⟨_, rfl, iteT ⟨_, rfl, hs.ix rfl ⟨_, _, rfl, ty_int, ?_⟩⟩⟩
      refine ⟨_, rfl, iteT ⟨_, rfl, hs.ix rfl ⟨_, _, rfl, rfl, ?_⟩⟩⟩
      exact q _ s1
end
end Kz
set_option linter.all false
set_option maxRecDepth 100000
set_option maxHeartbeats 4000000
namespace Kz
open PySem PySem.Spec PyProof.Rows L2
theorem Same.new {H : Hp} {p : Addr} {o : HO} (n : H p = none) : Same H (upd H p o) := fun b u e => by
  rw [upd_ne (ne_of_none e n)]
  exact e
/-! ### ratios -/
theorem low_num {a b : Int} (h : 0 < b) : a.fdiv ((Nat.gcd a.natAbs b.natAbs : Nat) : Int) = (Rat.divInt a b).num := by
  rw [Rat.num_divInt, Int.sign_eq_one_of_pos h, Int.one_mul, Int.fdiv_eq_ediv_of_nonneg _ (Int.natCast_nonneg _)]
  show a / ((Nat.gcd a.natAbs b.natAbs : Nat) : Int) = a / ((Nat.gcd b.natAbs a.natAbs : Nat) : Int)
  rw [Nat.gcd_comm]
theorem low_den {a b : Int} (h : 0 < b) : b.fdiv ((Nat.gcd a.natAbs b.natAbs : Nat) : Int) = ((Rat.divInt a b).den : Int) := by
  rw [Rat.den_divInt, if_neg (by omega), Int.fdiv_eq_ediv_of_nonneg _ (Int.natCast_nonneg _)]
  show b / ((Nat.gcd a.natAbs b.natAbs : Nat) : Int) = ((b.natAbs / Nat.gcd b.natAbs a.natAbs : Nat) : Int)
  rw [Nat.gcd_comm b.natAbs, Int.natCast_ediv]
  congr 1
  omega
/-- a told ratio -/
def RV (K : PySem.W.Frag) (H : Hp) (v : V) (q : Rat) : Prop := ∃ t, v = .ref t ∧ SqT K H t [.int q.num, .int (q.den : Int)]
theorem RV.same {K : PySem.W.Frag} {H H' : Hp} {v : V} {q : Rat} (s : Same H H') (h : RV K H v q) : RV K H' v q := by
  obtain ⟨t, e, h⟩ := h
  exact ⟨t, e, Kz.Same.seqT s h⟩
/-- how long a ratio's two integers are -/
def Sz (n m : Nat) (q : Rat) : Prop := q.num.natAbs < 2 ^ n ∧ q.den < 2 ^ m
theorem natAbs_fdiv_le {a : Int} {g : Nat} : (a.fdiv (g : Int)).natAbs ≤ a.natAbs := by
  rw [Int.fdiv_eq_ediv_of_nonneg _ (Int.natCast_nonneg _)]
  exact Int.natAbs_ediv_le_natAbs _ _
theorem sz_divInt {a b : Int} {n m : Nat} (h : 0 < b) (ha : a.natAbs < 2 ^ n) (hb : b.natAbs < 2 ^ m) : Sz n m (Rat.divInt a b) := by
  constructor
  · rw [← low_num h]
    exact Nat.lt_of_le_of_lt natAbs_fdiv_le ha
  · have := low_den (a := a) h
    have le : (b.fdiv ((Nat.gcd a.natAbs b.natAbs : Nat) : Int)).natAbs ≤ b.natAbs := natAbs_fdiv_le
    rw [this] at le
    have le' : (Rat.divInt a b).den ≤ b.natAbs := by simpa using le
    omega
/-- what stands for a ratio, as a caller may pass it -/
inductive Arg (K : PySem.W.Frag) (H : Hp) : V → Int → Int → Prop
  | int {a : Int} : Arg K H (.int a) a 1
  | two {p : Addr} {a b : Int} : Sq K H p [.int a, .int b] → 0 < b → Arg K H (.ref p) a b
theorem Arg.pos {K : PySem.W.Frag} {H : Hp} {v : V} {a b : Int} (h : Arg K H v a b) : 0 < b := by
  cases h with
  | int => decide
  | two _ h => exact h
theorem Arg.same {K : PySem.W.Frag} {H H' : Hp} {v : V} {a b : Int} (s : Same H H') (h : Arg K H v a b) : Arg K H' v a b := by
  cases h with
  | int => exact .int
  | two h z => exact .two (h.same s) z
def ArgQ (K : PySem.W.Frag) (H : Hp) (v : V) (n m : Nat) (q : Rat) : Prop := ∃ a b, Arg K H v a b ∧ q = Rat.divInt a b ∧ a.natAbs < 2 ^ n ∧ b.natAbs < 2 ^ m
theorem ArgQ.same {K : PySem.W.Frag} {H H' : Hp} {v : V} {n m : Nat} {q : Rat} (s : Same H H') (h : ArgQ K H v n m q) : ArgQ K H' v n m q := by
  obtain ⟨a, b, h, r⟩ := h
  exact ⟨a, b, h.same s, r⟩
theorem ArgQ.sz {K : PySem.W.Frag} {H : Hp} {v : V} {n m : Nat} {q : Rat} (h : ArgQ K H v n m q) : Sz n m q := by
  obtain ⟨a, b, h, rfl, ha, hb⟩ := h
  exact sz_divInt h.pos ha hb
theorem RV.arg {K : PySem.W.Frag} {H : Hp} {v : V} {n m : Nat} {q : Rat} (h : RV K H v q) (s : Sz n m q) : ArgQ K H v n m q := by
  obtain ⟨t, rfl, h⟩ := h
  refine ⟨_, _, .two (.inr h) (Int.natCast_pos.mpr q.den_pos), ?_, s.1, by simpa using s.2⟩
  rw [Rat.divInt_ofNat, Rat.mkRat_self]
theorem arg_int {K : PySem.W.Frag} {H : Hp} {i : Int} {n m : Nat} (h : i.natAbs < 2 ^ n) (hm : 0 < m) : ArgQ K H (.int i) n m (i : Rat) := by
  refine ⟨_, _, .int, ?_, h, ?_⟩
  · have e := Rat.num_divInt_den (i : Rat)
    rw [Rat.num_intCast, Rat.den_intCast] at e
    exact e.symm
  · show (1 : Nat) < 2 ^ m
    exact Nat.one_lt_two_pow (by omega)
/-- what is no ratio -/
def Odd (K : PySem.W.Frag) (H : Hp) (v : V) : Prop := ∃ t, TyN K H v t ∧ (t == "int") = false ∧ Pr K H v false
theorem Odd.same {K : PySem.W.Frag} {H H' : Hp} {v : V} (s : Same H H') (h : Odd K H v) : Odd K H' v := by
  obtain ⟨t, a, b, c⟩ := h
  exact ⟨t, a.same s, b, c.same s⟩
/-- the way out with a BadNumber -/
def ErN (cN : Addr) (H : Hp) (E : XK) (what : Str) (v : V) : Prop := ∀ (d : Addr) (H' : Hp), Same H H' → H' d = some (.xd [("number", v), ("what", .str what)]) → E (.ref cN) (some d) H'
theorem ErN.after {cN : Addr} {H H1 : Hp} {E : XK} {what : Str} {v : V} (s : Same H H1) (h : ErN cN H E what v) : ErN cN H1 E what v := fun d H' s' => h d H' (s.trans s')
section
variable {P : Program} {w : World} {K : PySem.W.Frag} {mg : Str → Option Value} {base : Heap}
def spRatio (K : PySem.W.Frag) : Sp := fun vs H Q _ => ∃ v t b, vs = [v] ∧ TyN K H v t ∧ ((t == "int") = false → Pr K H v b) ∧ ∀ H', Same H H' → Q (.bl (if (t == "int") = true then true else b)) H'
theorem sc10 : FnScope ["value"] ["value"] (defScope (top 10)) := ⟨rfl, rfl, rfl, by decide +kernel, rfl, by decide +kernel, by decide +kernel⟩
theorem ok_ratio (T : Tx P K mg) : FnOk P w K mg base CX0 3 T.is_ratio.f T.is_ratio.fd ["value"] (spRatio K) := by
  have G : FnOk P w K mg base CX0 1 T.is_whole.f T.is_whole.fd ["value"] (spWhole K) := ok_whole T
  have G2 : FnOk P w K mg base CX0 2 T.is_pair.f T.is_pair.fd ["value"] (spPair K) := ok_pair T
  refine T.is_ratio.fn.ok sc10 (fun vs H Q E h => ?_) (fun cdv A outer s H vs Q E hr h => ?_)
  · obtain ⟨v, t, b, rfl, _⟩ := h
    rfl
  · obtain ⟨v, t, b, rfl, ty, pr, q⟩ := h
    refine ⟨_, pss_one (ps_ret (pe_or (T.is_whole.c0 G (hr.mono (by decide)) (pa_cons (pv 0) pa_nil)) (pe_one (T.is_pair.c0 G2 hr (pa_cons (pv 0) pa_nil))))), ?_⟩
    refine ⟨_, rfl, v, _, rfl, ty, _, rfl, ?_⟩
    cases e : (t == "int") with
    | true =>
      rw [e] at q
      exact iteT (q H (Same.refl _))
    | false =>
      rw [e] at q
      exact iteF ⟨_, rfl, v, b, rfl, pr e, fun H' s => q H' s⟩
def spLow (K : PySem.W.Frag) : Sp := fun vs H Q _ => ∃ a b : Int, vs = [.int a, .int b] ∧ 0 < b ∧ b.natAbs < 2 ^ 9000 ∧ ∀ v H', Same H H' → RV K H' v (Rat.divInt a b) → Q v H'
theorem sc11 : FnScope ["top", "bottom", "most"] ["top", "bottom"] (defScope (top 11)) := ⟨rfl, rfl, rfl, by decide +kernel, rfl, by decide +kernel, by decide +kernel⟩
theorem gcd_le' {a b : Int} (h : 0 < b) : Nat.gcd a.natAbs b.natAbs ≤ b.natAbs := Nat.gcd_le_right _ (by omega)
theorem gcd_ne {a b : Int} (h : 0 < b) : ((Nat.gcd a.natAbs b.natAbs : Nat) : Int) ≠ 0 := by
  have : 0 < Nat.gcd a.natAbs b.natAbs := Nat.gcd_pos_of_pos_right _ (by omega)
  omega
theorem ok_low (T : Tx P K mg) : FnOk P w K mg base CX0 1 T.lowest.f T.lowest.fd ["top", "bottom"] (spLow K) := by
  refine T.lowest.fn.ok sc11 (fun vs H Q E h => ?_) (fun cdv A outer s H vs Q E hr h => ?_)
  · obtain ⟨a, b, rfl, _⟩ := h
    rfl
  · obtain ⟨a, b, rfl, b0, b1, q⟩ := h
    refine ⟨_, pss_cons (ps_set (i := 2) sc11.nd rfl (.inl rfl) (pe_callBfun cr_gcd (by rfl) T.mGcd (pa_cons (pv 0) (pa_cons (pv 1) pa_nil))))
      (pss_one (ps_ret (pe_tup (pa_cons (pe_op op_fdivF (pv 0) (pv 2)) (pa_cons (pe_op op_fdivF (pv 1) (pv 2)) pa_nil))))), ?_⟩
    have hg : CDivF a ((Nat.gcd a.natAbs b.natAbs : Nat) : Int) ∧ CDivF b ((Nat.gcd a.natAbs b.natAbs : Nat) : Int) := by
      have n := gcd_ne (a := a) b0
      have l := gcd_le' (a := a) b0
      have l' : (((Nat.gcd a.natAbs b.natAbs : Nat) : Int)).natAbs < 2 ^ 9000 := Nat.lt_of_le_of_lt (by simpa using l) b1
      exact ⟨cdivF n l', cdivF n l'⟩
    refine ⟨_, rfl, _, rfl, a, b, rfl, ?_⟩
    refine ⟨_, rfl, _, rfl, _, _, rfl, rfl, hg.1, _, rfl, _, rfl, _, _, rfl, rfl, hg.2, (by show 2 ≤ sizeLine; decide), fun p hp => ?_⟩
    refine q _ _ (Same.new hp) ⟨p, rfl, ?_⟩
    rw [← low_num b0, ← low_den b0]
    exact SqT.of upd_same
def spTold (K : PySem.W.Frag) (cN : Addr) : Sp := fun vs H Q E => ∃ v what, vs = [v, .str what] ∧
  ((∃ q n m, ArgQ K H v n m q ∧ m ≤ 9000 ∧ ∀ v' H', Same H H' → RV K H' v' q → Q v' H') ∨ (Odd K H v ∧ ErN cN H E what v))
theorem sc12 : FnScope ["value", "what"] ["value", "what"] (defScope (top 12)) := ⟨rfl, rfl, rfl, by decide +kernel, rfl, by decide +kernel, by decide +kernel⟩
theorem pow_le9 {m : Nat} (h : m ≤ 9000) : 2 ^ m ≤ 2 ^ 9000 := Nat.pow_le_pow_right (by decide) h
theorem ok_told (T : Tx P K mg) : FnOk P w K mg base (CX P w) 4 T.told.f T.told.fd ["value", "what"] (spTold K T.cN) := by
  have G1 : FnOk P w K mg base CX0 1 T.is_whole.f T.is_whole.fd ["value"] (spWhole K) := ok_whole T
  have G2 : FnOk P w K mg base CX0 3 T.is_ratio.f T.is_ratio.fd ["value"] (spRatio K) := ok_ratio T
  have G3 : FnOk P w K mg base CX0 1 T.lowest.f T.lowest.fd ["top", "bottom"] (spLow K) := ok_low T
  refine T.told.fn.okX sc12 (fun vs H Q E h => ?_) (fun cdv A outer s H vs Q E hr h => ?_)
  · obtain ⟨v, what, rfl, _⟩ := h
    rfl
  · obtain ⟨v, what, rfl, h⟩ := h
    have hr1 : Room 1 _ := hr.mono (by decide)
    refine ⟨_, pss_cons (ps_if (pt_not (pt_val (T.is_ratio.c0 G2 hr (pa_cons (pv 0) pa_nil))))
        (pss_one (ps_raise rfl (takes_of rfl rfl rfl rfl) (pmk_oex (CX := CX0) T.eN.o T.iN.i T.iN.t (ok_i3 T.iN.fn) (hr.mono (by decide)) T.bN .nil pass0 rfl T.eN.g (pa_cons (pv 1) (pa_cons (pv 0) pa_nil))))) pss_nil)
      (pss_cons (ps_if (pt_val (T.is_whole.c0 G1 hr1 (pa_cons (pv 0) pa_nil)))
        (pss_one (ps_ret (T.lowest.c0 G3 hr1 (pa_cons (pv 0) (pa_cons pe_int pa_nil))))) pss_nil)
      (pss_one (ps_ret (T.lowest.c0 G3 hr1 (pa_cons (pe_ix ix_seq (pv 0) pe_int (fun _ _ => rfl)) (pa_cons (pe_ix ix_seq (pv 0) pe_int (fun _ _ => rfl)) pa_nil)))))), ?_⟩
    rcases h with ⟨q, n, m, ⟨a, b, arg, rfl, ha, hb⟩, hm, k⟩ | ⟨⟨t, ty, nt, pr⟩, er⟩
    · have hb9 : b.natAbs < 2 ^ 9000 := Nat.lt_of_lt_of_le hb (pow_le9 hm)
      cases arg with
      | int =>
        refine ⟨_, rfl, _, "int", true, rfl, ty_int, (fun z => by cases z), fun H1 s1 => ⟨_, rfl, ?_⟩⟩
        refine iteF ⟨_, rfl, _, "int", rfl, ty_int, _, rfl, ?_⟩
        exact iteT ⟨_, rfl, _, _, rfl, by decide, hb9, fun v' H' s' rv => k v' H' (s1.trans s') rv⟩
      | @two p a b hs b0 =>
        obtain ⟨t, ty, e1, e2⟩ := hs.ty
        refine ⟨_, rfl, _, t, _, rfl, ty, (fun _ => .two hs), fun H1 s1 => ?_⟩
        rw [e2, decide_eq_true b0]
        refine ⟨_, rfl, iteF ⟨_, rfl, _, t, rfl, ty.same s1, ?_⟩⟩
        rw [e2]
        refine ⟨_, rfl, iteF ⟨_, rfl, (hs.same s1).ix rfl ⟨_, rfl, (hs.same s1).ix rfl ⟨_, _, rfl, b0, hb9, fun v' H' s' rv => k v' H' (s1.trans s') rv⟩⟩⟩⟩
    · refine ⟨_, rfl, v, t, false, rfl, ty, (fun _ => pr), fun H1 s1 => ?_⟩
      rw [nt]
      refine ⟨_, rfl, iteT ⟨_, rfl, _, rfl, ?_⟩⟩
      exact raised2 T.eN.o T.nN1 T.nN2 fun d H' s' e => er d H' (s1.trans s') e
end
end Kz
set_option linter.all false
set_option maxRecDepth 100000
set_option maxHeartbeats 4000000
namespace Kz
open PySem PySem.Spec PyProof.Rows L2
theorem rat_add (p r : Rat) : Rat.divInt (p.num * (r.den : Int) + r.num * (p.den : Int)) ((p.den : Int) * (r.den : Int)) = p + r := by
  rw [Rat.add_def', ← Int.natCast_mul, Rat.divInt_ofNat]
theorem rat_sub (p r : Rat) : Rat.divInt (p.num * (r.den : Int) - r.num * (p.den : Int)) ((p.den : Int) * (r.den : Int)) = p - r := by
  rw [Rat.sub_def', ← Int.natCast_mul, Rat.divInt_ofNat]
theorem rat_mul (p r : Rat) : Rat.divInt (p.num * r.num) ((p.den : Int) * (r.den : Int)) = p * r := by
  rw [Rat.mul_def', ← Int.natCast_mul, Rat.divInt_ofNat]
theorem den_abs {m n : Nat} {q : Rat} (s : Sz n m q) : ((q.den : Int)).natAbs < 2 ^ m := by simpa using s.2
theorem den_pos' (q : Rat) : (0 : Int) < (q.den : Int) := Int.natCast_pos.mpr q.den_pos
theorem pow_up {a b : Nat} (h : a ≤ b) : 2 ^ a ≤ 2 ^ b := Nat.pow_le_pow_right (by decide) h
theorem up_lt {i : Int} {a b : Nat} (h : i.natAbs < 2 ^ a) (l : a ≤ b) : i.natAbs < 2 ^ b := Nat.lt_of_lt_of_le h (pow_up l)
/-- * of two integers below powers of two -/
theorem cmulW {i j : Int} {a b : Nat} (ha : i.natAbs < 2 ^ a) (hb : j.natAbs < 2 ^ b) (h : a + b ≤ 900000) : CMulW i j := by
  have x : i.natAbs < 2 ^ (a + 1) := Nat.lt_of_lt_of_le ha (pow_up (by omega))
  have y : j.natAbs < 2 ^ (b + 1) := Nat.lt_of_lt_of_le hb (pow_up (by omega))
  exact wide_mul x y (by omega) (by omega) (by omega)
section
variable {P : Program} {w : World} {K : PySem.W.Frag} {mg : Str → Option Value} {base : Heap}
/-- two ratios, the first wrong one refused -/
def spTwo (K : PySem.W.Frag) (cN : Addr) (C : Nat → Nat → Nat → Nat → Rat → Rat → Prop) (R : Hp → V → Rat → Rat → Prop) : Sp := fun vs H Q E => ∃ v u, vs = [v, u] ∧
  ((∃ q r n m n' m', ArgQ K H v n m q ∧ ArgQ K H u n' m' r ∧ m ≤ 9000 ∧ m' ≤ 9000 ∧ C n m n' m' q r ∧ ∀ v' H', Same H H' → R H' v' q r → Q v' H') ∨ (Odd K H v ∧ ErN cN H E "ratio" v) ∨
    ((∃ q n m, ArgQ K H v n m q ∧ m ≤ 9000) ∧ Odd K H u ∧ ErN cN H E "ratio" u))
def cBin (n m n' m' : Nat) (_ _ : Rat) : Prop := n + n' + m + m' ≤ 800000 ∧ m + m' ≤ 9000

theorem sc14 : FnScope ["one", "other", "top", "bottom", "above", "below"] ["one", "other"] (defScope (top 14)) := ⟨rfl, rfl, rfl, by decide +kernel, rfl, by decide +kernel, by decide +kernel⟩
theorem ok_minus (T : Tx P K mg) : FnOk P w K mg base (CX P w) 5 T.minus.f T.minus.fd ["one", "other"] (spTwo K T.cN cBin (fun H v q r => RV K H v (q - r))) := by
  have G : FnOk P w K mg base (CX P w) 4 T.told.f T.told.fd ["value", "what"] (spTold K T.cN) := ok_told T
  have G3 : FnOk P w K mg base CX0 1 T.lowest.f T.lowest.fd ["top", "bottom"] (spLow K) := ok_low T
  refine T.minus.fn.okX sc14 (fun vs H Q E h => ?_) (fun cdv A outer s H vs Q E hr h => ?_)
  · obtain ⟨v, u, rfl, _⟩ := h
    rfl
  · obtain ⟨v, u, rfl, h⟩ := h
    have hr1 : Room 1 _ := hr.mono (by decide)
    have tk := takes_of (X := cxOf (CX P w) P w K mg base ["one", "other", "top", "bottom", "above", "below"] "minus" (defScope (top 14)) T.minus.f cdv A outer s H E) (E := E) rfl rfl rfl rfl
    refine ⟨_, pss_cons (ps_asg (T.told.cS G hr tk (pa_cons (pv 0) (pa_cons pe_str pa_nil))) (pg_tup (by rfl) (pgs_cons (pg_name (i := 2) sc14.nd rfl (.inl rfl)) (pgs_cons (pg_name (i := 3) sc14.nd rfl (.inl rfl)) pgs_nil))))
      (pss_cons (ps_asg (T.told.cS G hr tk (pa_cons (pv 1) (pa_cons pe_str pa_nil))) (pg_tup (by rfl) (pgs_cons (pg_name (i := 4) sc14.nd rfl (.inl rfl)) (pgs_cons (pg_name (i := 5) sc14.nd rfl (.inl rfl)) pgs_nil))))
      (pss_one (ps_ret (T.lowest.c0 G3 hr1 (pa_cons (pe_op op_sub (pe_op op_mulW (pv 2) (pv 5)) (pe_op op_mulW (pv 4) (pv 3))) (pa_cons (pe_op op_mulW (pv 3) (pv 5)) pa_nil)))))), ?_⟩
    rcases h with ⟨q, r, n, m, n', m', aq, ar, hm, hm', hC, k⟩ | ⟨od, er⟩ | ⟨⟨q, n, m, aq, hm⟩, od, er⟩
    · refine ⟨_, rfl, _, _, rfl, .inl ⟨q, n, m, aq, hm, fun v1 H1 s1 rv => ?_⟩⟩
      obtain ⟨t1, rfl, h1⟩ := rv
      refine ⟨t1, _, rfl, h1, rfl, _, _, rfl, _, _, rfl, rfl, ?_⟩
      refine ⟨_, rfl, _, _, rfl, .inl ⟨r, n', m', ar.same s1, hm', fun v2 H2 s2 rv2 => ?_⟩⟩
      obtain ⟨t2, rfl, h2⟩ := rv2
      refine ⟨t2, _, rfl, h2, rfl, _, _, rfl, _, _, rfl, rfl, ?_⟩
      have zq := aq.sz
      have zr := ar.sz
      have s12 := s1.trans s2
      refine ⟨_, rfl, _, rfl, _, _, rfl, rfl, cmulW zq.1 (den_abs zr) (by have := hC.1; omega), _, rfl, _, rfl, _, _, rfl, rfl, cmulW zr.1 (den_abs zq) (by have := hC.1; omega), _, _, rfl, rfl, ?_⟩
      refine ⟨_, rfl, _, rfl, _, _, rfl, rfl, cmulW (den_abs zq) (den_abs zr) (by have := hC.1; omega), _, _, rfl, (Int.mul_pos (den_pos' q) (den_pos' r)), (up_lt (wide_lt (den_abs zq) (den_abs zr)) hC.2), fun v' H' s' rv => ?_⟩
      rw [rat_sub] at rv
      exact k v' H' (s12.trans s') rv
    · exact ⟨_, rfl, _, _, rfl, .inr ⟨od, er⟩⟩
    · refine ⟨_, rfl, _, _, rfl, .inl ⟨q, n, m, aq, hm, fun v1 H1 s1 rv => ?_⟩⟩
      obtain ⟨t1, rfl, h1⟩ := rv
      refine ⟨t1, _, rfl, h1, rfl, _, _, rfl, _, _, rfl, rfl, ?_⟩
      exact ⟨_, rfl, _, _, rfl, .inr ⟨od.same s1, er.after s1⟩⟩
end
end Kz
set_option linter.all false
set_option maxRecDepth 100000
set_option maxHeartbeats 4000000
namespace Kz
open PySem PySem.Spec PyProof.Rows L2
section
variable {P : Program} {w : World} {K : PySem.W.Frag} {mg : Str → Option Value} {base : Heap}
theorem sc17 : FnScope ["one", "other", "top", "bottom", "above", "below"] ["one", "other"] (defScope (top 16)) := ⟨rfl, rfl, rfl, by decide +kernel, rfl, by decide +kernel, by decide +kernel⟩
theorem ok_lower (T : Tx P K mg) : FnOk P w K mg base (CX P w) 5 T.lower.f T.lower.fd ["one", "other"] (spTwo K T.cN cBin (fun _ v q r => v = .bl (decide (q < r)))) := by
  have G : FnOk P w K mg base (CX P w) 4 T.told.f T.told.fd ["value", "what"] (spTold K T.cN) := ok_told T
  refine T.lower.fn.okX sc17 (fun vs H Q E h => ?_) (fun cdv A outer s H vs Q E hr h => ?_)
  · obtain ⟨v, u, rfl, _⟩ := h
    rfl
  · obtain ⟨v, u, rfl, h⟩ := h
    have tk := takes_of (X := cxOf (CX P w) P w K mg base ["one", "other", "top", "bottom", "above", "below"] "lower" (defScope (top 16)) T.lower.f cdv A outer s H E) (E := E) rfl rfl rfl rfl
    refine ⟨_, pss_cons (ps_asg (T.told.cS G hr tk (pa_cons (pv 0) (pa_cons pe_str pa_nil))) (pg_tup (by rfl) (pgs_cons (pg_name (i := 2) sc17.nd rfl (.inl rfl)) (pgs_cons (pg_name (i := 3) sc17.nd rfl (.inl rfl)) pgs_nil))))
      (pss_cons (ps_asg (T.told.cS G hr tk (pa_cons (pv 1) (pa_cons pe_str pa_nil))) (pg_tup (by rfl) (pgs_cons (pg_name (i := 4) sc17.nd rfl (.inl rfl)) (pgs_cons (pg_name (i := 5) sc17.nd rfl (.inl rfl)) pgs_nil))))
      (pss_one (ps_ret (pe_cmpR op_lt (pe_op op_mulW (pv 2) (pv 5)) (pe_op op_mulW (pv 4) (pv 3)) (nomark _))))), ?_⟩
    rcases h with ⟨q, r, n, m, n', m', aq, ar, hm, hm', hC, k⟩ | ⟨od, er⟩ | ⟨⟨q, n, m, aq, hm⟩, od, er⟩
    · refine ⟨_, rfl, _, _, rfl, .inl ⟨q, n, m, aq, hm, fun v1 H1 s1 rv => ?_⟩⟩
      obtain ⟨t1, rfl, h1⟩ := rv
      refine ⟨t1, _, rfl, h1, rfl, _, _, rfl, _, _, rfl, rfl, ?_⟩
      refine ⟨_, rfl, _, _, rfl, .inl ⟨r, n', m', ar.same s1, hm', fun v2 H2 s2 rv2 => ?_⟩⟩
      obtain ⟨t2, rfl, h2⟩ := rv2
      refine ⟨t2, _, rfl, h2, rfl, _, _, rfl, _, _, rfl, rfl, ?_⟩
      have zq := aq.sz
      have zr := ar.sz
      refine ⟨_, rfl, _, rfl, _, _, rfl, rfl, cmulW zq.1 (den_abs zr) (by have := hC.1; omega), _, rfl, _, rfl, _, _, rfl, rfl, cmulW zr.1 (den_abs zq) (by have := hC.1; omega), _, _, rfl, rfl, ?_⟩
      refine k _ _ (s1.trans s2) ?_
      show V.bl _ = V.bl _
      congr 1
      exact decide_eq_decide.mpr (Rat.lt_iff q r).symm
    · exact ⟨_, rfl, _, _, rfl, .inr ⟨od, er⟩⟩
    · refine ⟨_, rfl, _, _, rfl, .inl ⟨q, n, m, aq, hm, fun v1 H1 s1 rv => ?_⟩⟩
      obtain ⟨t1, rfl, h1⟩ := rv
      refine ⟨t1, _, rfl, h1, rfl, _, _, rfl, _, _, rfl, rfl, ?_⟩
      exact ⟨_, rfl, _, _, rfl, .inr ⟨od.same s1, er.after s1⟩⟩
end
end Kz
set_option linter.all false
set_option maxRecDepth 100000
set_option maxHeartbeats 4000000
namespace Kz
open PySem PySem.Spec PyProof.Rows L2
/-- .. and of the law's own ratios -/
structure Ty (P : Program) (K : PySem.W.Frag) (mg : Str → Option Value) extends Tx P K mg where
section
variable {P : Program} {w : World} {K : PySem.W.Frag} {mg : Str → Option Value} {base : Heap}
/-- a ratio as a tuple, in any terms -/
def PQ (K : PySem.W.Frag) (H : Hp) (v : V) (n m : Nat) (q : Rat) : Prop := ∃ t a b, v = .ref t ∧ SqT K H t [.int a, .int b] ∧ 0 < b ∧ q = Rat.divInt a b ∧ a.natAbs < 2 ^ n ∧ b.natAbs < 2 ^ m
def cShr (n m n' m' : Nat) (_ r : Rat) : Prop := n + n' + m + m' ≤ 800000 ∧ m + n' ≤ 9000 ∧ r ≠ 0
end
end Kz
set_option linter.all false
set_option maxRecDepth 100000
set_option maxHeartbeats 4000000
namespace Kz
open PySem PySem.Spec PyProof.Rows L2
/-! ### rows of ratios -/
def cf (qs : List Rat) (i : Nat) : Rat := qs.getD i 0
/-- no zero at its end -/
def Tr (qs : List Rat) : Prop := ∀ k, qs.length = k + 1 → cf qs k ≠ 0
theorem cf_out {qs : List Rat} {i : Nat} (h : qs.length ≤ i) : cf qs i = 0 := by
  unfold cf
  rw [List.getD_eq_getElem?_getD, List.getElem?_eq_none h]
  rfl
theorem cf_at {qs : List Rat} {i : Nat} {q : Rat} (h : qs[i]? = some q) : cf qs i = q := by
  unfold cf
  rw [List.getD_eq_getElem?_getD, h]
  rfl
theorem at_cf {qs : List Rat} {i : Nat} (h : i < qs.length) : qs[i]? = some (cf qs i) := by
  rw [List.getElem?_eq_getElem h, cf_at (List.getElem?_eq_getElem h)]
theorem tr_le {a b : List Rat} (ha : Tr a) (h : ∀ i, cf a i = cf b i) : a.length ≤ b.length := by
  rcases Nat.lt_or_ge b.length a.length with lt | ge
  · obtain ⟨k, e⟩ : ∃ k, a.length = k + 1 := ⟨a.length - 1, by omega⟩
    exact absurd ((h k).trans (cf_out (by omega))) (ha k e)
  · exact ge
theorem tr_ext {a b : List Rat} (ha : Tr a) (hb : Tr b) (h : ∀ i, cf a i = cf b i) : a = b := by
  have l : a.length = b.length := Nat.le_antisymm (tr_le ha h) (tr_le hb fun i => (h i).symm)
  refine List.ext_getElem? fun i => ?_
  rcases Nat.lt_or_ge i a.length with lt | ge
  · rw [at_cf lt, at_cf (by omega), h i]
  · rw [List.getElem?_eq_none ge, List.getElem?_eq_none (by omega)]
/-- how many are needed -/
def Need (qs : List Rat) (k : Nat) : Prop := k ≤ qs.length ∧ (∀ i, k ≤ i → cf qs i = 0) ∧ ∀ j, k = j + 1 → cf qs j ≠ 0
theorem cf_take {qs : List Rat} {k i : Nat} (h : i < k) : cf (qs.take k) i = cf qs i := by
  unfold cf
  rw [List.getD_eq_getElem?_getD, List.getD_eq_getElem?_getD, List.getElem?_take, if_pos h]
theorem need_cf {qs : List Rat} {k : Nat} (h : Need qs k) (i : Nat) : cf (qs.take k) i = cf qs i := by
  rcases Nat.lt_or_ge i k with lt | ge
  · exact cf_take lt
  · rw [cf_out (by rw [List.length_take]; omega), h.2.1 i ge]
theorem need_tr {qs : List Rat} {k : Nat} (h : Need qs k) : Tr (qs.take k) := by
  intro j e
  rw [List.length_take, Nat.min_eq_left h.1] at e
  rw [cf_take (by omega)]
  exact h.2.2 j e
/-- the values stand for the ratios, one by one -/
def Al (K : PySem.W.Frag) (H : Hp) (vs : List V) (qs : List Rat) : Prop := vs.length = qs.length ∧ ∀ (i : Nat) (v : V) (q : Rat), vs[i]? = some v → qs[i]? = some q → RV K H v q
theorem Al.same {K : PySem.W.Frag} {H H' : Hp} {vs : List V} {qs : List Rat} (s : Same H H') (h : Al K H vs qs) : Al K H' vs qs := ⟨h.1, fun i v q a b => (h.2 i v q a b).same s⟩
theorem Al.nil {K : PySem.W.Frag} {H : Hp} : Al K H [] [] := ⟨rfl, fun i v q a _ => by simp at a⟩
theorem Al.snoc {K : PySem.W.Frag} {H : Hp} {vs : List V} {qs : List Rat} {v : V} {q : Rat} (h : Al K H vs qs) (r : RV K H v q) : Al K H (vs ++ [v]) (qs ++ [q]) := by
  refine ⟨by simp [h.1], fun i v' q' a b => ?_⟩
  rcases Nat.lt_or_ge i vs.length with lt | ge
  · rw [List.getElem?_append_left lt] at a
    rw [List.getElem?_append_left (by rw [← h.1]; exact lt)] at b
    exact h.2 i _ _ a b
  · rw [List.getElem?_append_right ge] at a
    rw [List.getElem?_append_right (by rw [← h.1]; exact ge), ← h.1] at b
    cases z : i - vs.length with
    | zero =>
      rw [z] at a b
      cases a
      cases b
      exact r
    | succ n =>
      rw [z] at a
      simp at a
theorem Al.take {K : PySem.W.Frag} {H : Hp} {vs : List V} {qs : List Rat} (h : Al K H vs qs) (k : Nat) : Al K H (vs.take k) (qs.take k) := by
  refine ⟨by simp [h.1], fun i v' q' a b => ?_⟩
  rw [List.getElem?_take] at a b
  by_cases lt : i < k
  · rw [if_pos lt] at a b
    exact h.2 i _ _ a b
  · rw [if_neg lt] at a
    cases a
theorem Al.get {K : PySem.W.Frag} {H : Hp} {vs : List V} {qs : List Rat} {i : Nat} (h : Al K H vs qs) (lt : i < qs.length) : ∃ v, vs[i]? = some v ∧ RV K H v (cf qs i) := by
  have lt' : i < vs.length := by rw [h.1]; exact lt
  exact ⟨_, List.getElem?_eq_getElem lt', h.2 i _ _ (List.getElem?_eq_getElem lt') (at_cf lt)⟩
theorem Al.set {K : PySem.W.Frag} {H : Hp} {vs : List V} {qs : List Rat} {i : Nat} {v : V} {q : Rat} (h : Al K H vs qs) (r : RV K H v q) : Al K H (vs.set i v) (qs.set i q) := by
  refine ⟨by simp [h.1], fun j v' q' a b => ?_⟩
  rw [List.getElem?_set] at a b
  by_cases e : i = j
  · rw [if_pos e] at a b
    by_cases l : i < vs.length
    · rw [if_pos l] at a
      rw [if_pos (by rw [← h.1]; exact l)] at b
      cases a
      cases b
      exact r
    · rw [if_neg l] at a
      cases a
  · rw [if_neg e] at a b
    exact h.2 j _ _ a b
theorem Al.reverse {K : PySem.W.Frag} {H : Hp} {vs : List V} {qs : List Rat} (h : Al K H vs qs) : Al K H vs.reverse qs.reverse := by
  refine ⟨by simp [h.1], fun i v' q' a b => ?_⟩
  have l : i < vs.length := by
    rcases Nat.lt_or_ge i vs.length with lt | ge
    · exact lt
    · rw [List.getElem?_eq_none (by simpa using ge)] at a
      cases a
  rw [List.getElem?_reverse l] at a
  rw [List.getElem?_reverse (by rw [← h.1]; exact l), ← h.1] at b
  exact h.2 _ _ _ a b
/-- how long the ratios of a row are -/
def SzA (n m : Nat) (qs : List Rat) : Prop := ∀ i, i < qs.length → Sz n m (cf qs i)
theorem Sz.up {n m n' m' : Nat} {q : Rat} (h : Sz n m q) (a : n ≤ n') (b : m ≤ m') : Sz n' m' q := ⟨Nat.lt_of_lt_of_le h.1 (pow_up a), Nat.lt_of_lt_of_le h.2 (pow_up b)⟩
theorem SzA.up {n m n' m' : Nat} {qs : List Rat} (h : SzA n m qs) (a : n ≤ n') (b : m ≤ m') : SzA n' m' qs := fun i l => (h i l).up a b
theorem pi_or {X : Cx} {tg l : Expr} {wi wi' : TI} (h : PI X tg l wi) (h' : PI X tg l wi') : PI X tg l (fun σ H R => wi σ H R ∨ wi' σ H R) :=
  ⟨fun pins s σ H R I z => z.elim (h.run pins s σ H R I) (h'.run pins s σ H R I)⟩
end Kz
set_option linter.all false
set_option maxRecDepth 100000
set_option maxHeartbeats 4000000
namespace Kz
open PySem PySem.Spec PyProof.Rows L2
/-- a method as it stands -/
structure Dm (K : PySem.W.Frag) (C : Addr) (m qual : Str) (st : Stmt) (ps : List Str) where
  f : Addr
  fd : FuncData
  fn : Fun K m qual st f fd
  me : Meth K C m f
  b : Binds K fd ps []
abbrev sP (i : Nat) : Stmt := inClass (top 29) i
structure Tz (P : Program) (K : PySem.W.Frag) (mg : Str → Option Value) extends Ty P K mg where
  cP : Addr
  mgP : mg "Poly" = some (.ref cP)
  clP : Cls K cP
  nP : NoAttr K cP "numbers"
  iP : PySem.W.findIn K (.ref cP) "__class__" = some (some (.builtin "object.__class__"))
  gP : PySem.W.specialIn K (.builtin "object.__class__") "__get__" = some (some (.builtin "getset_descriptor.__get__"))
  tP : PySem.W.takesIn K (.builtin "object.__class__") = some true
  oP : PySem.W.mroIn K cP (.type "object") = some true
  notP : ∀ t ∈ tyNames, PySem.W.kitOne K (.type t) (.ref cP) = some false
  p_init : Dm K cP "__init__" "Poly.__init__" (sP 0) ["self", "numbers"]
  mkP : Mk K cP p_init.f
  p_eq : Dm K cP "__eq__" "Poly.__eq__" (sP 1) ["self", "other"]
  p_add : Dm K cP "__add__" "Poly.__add__" (sP 2) ["self", "other"]
  p_radd : Dm K cP "__radd__" "Poly.__radd__" (sP 3) ["self", "other"]
  p_sub : Dm K cP "__sub__" "Poly.__sub__" (sP 4) ["self", "other"]
  p_rsub : Dm K cP "__rsub__" "Poly.__rsub__" (sP 5) ["self", "other"]
  p_mul : Dm K cP "__mul__" "Poly.__mul__" (sP 6) ["self", "other"]
  p_rmul : Dm K cP "__rmul__" "Poly.__rmul__" (sP 7) ["self", "other"]
  p_neg : Dm K cP "__neg__" "Poly.__neg__" (sP 8) ["self"]
  p_degree : Dm K cP "degree" "Poly.degree" (sP 9) ["self"]
  p_at : Dm K cP "at" "Poly.at" (sP 10) ["self", "place"]
  is_row : Df K mg "is_row" (top 19) ["value"]
  many_needed : Df K mg "many_needed" (top 30) ["row"]
  as_poly : Df K mg "as_poly" (top 31) ["value"]
  number_for : Df K mg "number_for" (top 32) ["poly", "power"]
  added : Df K mg "added" (top 33) ["one", "other"]
  over_one : Df K mg "over_one_bottom" (top 24) ["pairs"]
  multiplied : Df K mg "multiplied" (top 34) ["one", "other"]
theorem boot_all : bootBuiltins "all" = some (.builtin "all") := by decide +kernel
/-- is_ratio's answer -/
def RB (K : PySem.W.Frag) (H : Hp) (u : V) (c : Bool) : Prop := ∃ t b, TyN K H u t ∧ ((t == "int") = false → Pr K H u b) ∧ c = (if (t == "int") = true then true else b)
theorem RB.same {K : PySem.W.Frag} {H H' : Hp} {u : V} {c : Bool} (s : Same H H') (h : RB K H u c) : RB K H' u c := by
  obtain ⟨t, b, x, y, z⟩ := h
  exact ⟨t, b, x.same s, fun e => (y e).same s, z⟩
theorem ArgQ.rb {K : PySem.W.Frag} {H : Hp} {v : V} {n m : Nat} {q : Rat} (h : ArgQ K H v n m q) : RB K H v true := by
  obtain ⟨a, b, h, _⟩ := h
  cases h with
  | int => exact ⟨"int", true, ty_int, (fun z => by cases z), rfl⟩
  | @two p a b hs b0 =>
    obtain ⟨t, ty, e1, e2⟩ := hs.ty
    refine ⟨t, true, ty, fun _ => ?_, by rw [e2]; rfl⟩
    have := Pr.two hs
    rw [decide_eq_true b0] at this
    exact this
theorem Odd.rb {K : PySem.W.Frag} {H : Hp} {v : V} (h : Odd K H v) : RB K H v false := by
  obtain ⟨t, ty, nt, pr⟩ := h
  exact ⟨t, false, ty, fun _ => pr, by rw [nt]; rfl⟩
def RBs (K : PySem.W.Frag) (H : Hp) (us : List V) (bs : List Bool) : Prop := bs.length = us.length ∧ ∀ (i : Nat) (u : V) (b : Bool), us[i]? = some u → bs[i]? = some b → RB K H u b
def spRow (K : PySem.W.Frag) : Sp := fun vs H Q _ => ∃ v, vs = [v] ∧ ((∃ t, TyN K H v t ∧ (t == "tuple") = false ∧ (t == "list") = false ∧ ∀ H', Same H H' → Q (.bl false) H') ∨
  (∃ a us bs, v = .ref a ∧ Sq K H a us ∧ us.length ≤ 1000 ∧ RBs K H us bs ∧ ∀ H', Same H H' → Q (.bl (bs.all id)) H'))
theorem take_snoc {α : Type} {l : List α} {i : Nat} {x : α} (h : l[i]? = some x) : l.take (i + 1) = l.take i ++ [x] := by
  rw [List.take_add_one, h]
  rfl
theorem le1000 {n : Nat} (h : n ≤ 1000) : n < sizeLine := by
  rw [sizeLine_eq]
  omega
section
variable {P : Program} {w : World} {K : PySem.W.Frag} {mg : Str → Option Value} {base : Heap}
theorem sc23 : FnScope ["value", "number"] ["value"] (defScope (top 19)) := ⟨rfl, rfl, rfl, by decide +kernel, rfl, by decide +kernel, by decide +kernel⟩
theorem ok_row (T : Tz P K mg) : FnOk P w K mg base CX0 4 T.is_row.f T.is_row.fd ["value"] (spRow K) := by
  have G : FnOk P w K mg base CX0 3 T.is_ratio.f T.is_ratio.fd ["value"] (spRatio K) := ok_ratio T.toTx
  refine T.is_row.fn.ok sc23 (fun vs H Q E h => ?_) (fun cdv A outer s H vs Q E hr h => ?_)
  · obtain ⟨v, rfl, _⟩ := h
    rfl
  · obtain ⟨v, rfl, h⟩ := h
    refine ⟨_, pss_cons (ps_if (pt_not (pt_val (pe_callB call_isiT (by rfl) T.mIsi boot_isi (pa_cons (pv 0) (pa_cons (pe_tup (pa_cons (pe_bltn (v := .ty "tuple") (by rfl) T.mTuple boot_ttuple rfl) (pa_cons (pe_bltn (v := .ty "list") (by rfl) T.blt.list boot_tlist rfl) pa_nil))) pa_nil)))))
        (pss_one (ps_ret pe_bl)) pss_nil)
      (pss_one (ps_ret (pe_callB (cr_all rfl) (by rfl) T.mAll boot_all (pa_cons (pe_lc (own := [("number", 1)]) (g := gName 1) (tt := tYes) rfl sc23.nd (pi_or (pi_list (pv 0)) (pi_tup (pv 0))) (blkOk_by (own := [("number", 1)]) (N := ["value", "number"]) (sc := defScope (top 19)) (by decide +kernel))
        (fun _ _ _ _ _ => pg_name (i := 1) sc23.nd rfl (Or.inl rfl)) (fun _ _ _ _ _ => pts_nil) (fun _ _ _ _ _ => T.is_ratio.c0 G hr (pa_cons (pv 1) pa_nil))) pa_nil)))), ?_⟩
    refine ⟨v, rfl, ?_⟩
    refine ⟨(by show 2 ≤ sizeLine; decide), fun p hp => ?_⟩
    have s1 : Same H (upd H p (.tup [.ty "tuple", .ty "list"])) := Same.new hp
    have hp1 : upd H p (.tup [.ty "tuple", .ty "list"]) p = some (.tup [.ty "tuple", .ty "list"]) := upd_same
    generalize upd H p (.tup [.ty "tuple", .ty "list"]) = H1 at s1 hp1
    rcases h with ⟨t, ty, n1, n2, q⟩ | ⟨a, us, bs, rfl, hs, len, rb, q⟩
    · refine ⟨v, p, _, _, _, _, rfl, hp1, clsTL, (ty.same s1).1, kit_tl ty.2, _, rfl, ?_⟩
      rw [n1, n2]
      exact iteT (q _ s1)
    · have hs1 := hs.same s1
      obtain ⟨t, ty, e1, e2⟩ := hs1.ty
      refine ⟨_, p, _, _, _, _, rfl, hp1, clsTL, ty.1, kit_tl ty.2, _, rfl, ?_⟩
      rw [e1]
      refine iteF ?_
      have h0 : ∀ D, H1 D = none → upd H1 D (.lst []) D = some (.lst ((bs.take 0).map V.bl)) ∧ Same H1 (upd H1 D (.lst [])) := fun D hD => ⟨upd_same, Same.new hD⟩
      have fin : ∀ (D : Addr) (H' : Hp), (H' D = some (.lst ((bs.take us.length).map V.bl)) ∧ Same H1 H') → ∃ (a : Addr) (bs : List Bool), [V.ref D] = [.ref a] ∧ SqL K H' a (bs.map V.bl) ∧ Q (.bl (bs.all id)) H' := fun D H' ⟨e, s⟩ => by
        rw [← rb.1, List.take_length] at e
        exact ⟨D, bs, rfl, SqL.of e, q _ (s1.trans s)⟩
      have step : ∀ (D : Addr) (i : Nat) (x : V) (H' : Hp), H1 D = none → us[i]? = some x → (H' D = some (.lst ((bs.take i).map V.bl)) ∧ Same H1 H') → ∃ v t b, [x] ++ [] = [v] ∧ TyN K H' v t ∧ ((t == "int") = false → Pr K H' v b) ∧
          ∀ H2, Same H' H2 → ∃ acc, H2 D = some (.lst acc) ∧ acc.length < sizeLine ∧
            (upd H2 D (.lst (acc ++ [.bl (if (t == "int") = true then true else b)])) D = some (.lst ((bs.take (i + 1)).map V.bl)) ∧ Same H1 (upd H2 D (.lst (acc ++ [.bl (if (t == "int") = true then true else b)])))) := by
        rintro D i x H' hD hx ⟨e, s⟩
        have lt : i < us.length := (List.getElem?_eq_some_iff.mp hx).1
        have lb : i < bs.length := by rw [rb.1]; exact lt
        obtain ⟨t, b, ty, pr, ec⟩ := ((rb.2 i x _ hx (List.getElem?_eq_getElem lb)).same (s1.trans s))
        refine ⟨x, t, b, rfl, ty, pr, fun H2 s2 => ⟨_, s2 _ _ e, ?_, ?_, ?_⟩⟩
        · rw [List.length_map, List.length_take]
          exact le1000 (by omega)
        · rw [upd_same, take_snoc (List.getElem?_eq_getElem lb), List.map_append, ec]
          rfl
        · intro c u ec'
          rw [upd_ne (ne_of_none ec' hD)]
          exact s2 _ _ (s _ _ ec')
      rcases hs1 with hl | ht
      · refine .inl ⟨_, rfl, a, rfl, ⟨_, hl⟩, fun D hD => ?_⟩
        refine lc_list (K := K) (a := a) (xs := us) (fun i H' => H' D = some (.lst ((bs.take i).map V.bl)) ∧ Same H1 H') (h0 D hD) (fun i H' _ ⟨_, s⟩ => Same.seq s hl) ?_ (fun H' pv => fin D H' pv)
        intro i x H' hx pv
        refine ⟨rfl, ?_⟩
        dsimp only [tYes]
        refine iteT ⟨_, rfl, ?_⟩
        exact step D i x H' hD hx pv
      · refine .inr ⟨_, rfl, a, rfl, ⟨_, ht⟩, fun D hD => ?_⟩
        refine lc_tup (K := K) (a := a) (xs := us) (fun i H' => H' D = some (.lst ((bs.take i).map V.bl)) ∧ Same H1 H') (h0 D hD) (fun i H' _ ⟨_, s⟩ => Kz.Same.seqT s ht) ?_ (fun H' pv => fin D H' pv)
        intro i x H' hx pv
        refine ⟨rfl, ?_⟩
        dsimp only [tYes]
        refine iteT ⟨_, rfl, ?_⟩
        exact step D i x H' hD hx pv
end
end Kz
set_option linter.all false
set_option maxRecDepth 100000
set_option maxHeartbeats 4000000
namespace Kz
open PySem PySem.Spec PyProof.Rows L2
/-- how many of a row of integers are needed -/
def NeedI (ns : List Int) (k : Nat) : Prop := k ≤ ns.length ∧ (∀ (i : Nat) (z : Int), k ≤ i → ns[i]? = some z → z = 0) ∧ ∀ j, k = j + 1 → ∃ z, ns[j]? = some z ∧ z ≠ 0
def spNeed (K : PySem.W.Frag) : Sp := fun vs H Q _ => ∃ (a : Addr) (ns : List Int), vs = [.ref a] ∧ SqL K H a (ns.map V.int) ∧ ns.length ≤ 1000 ∧ ∀ k : Nat, NeedI ns k → Q (.int (k : Int)) H
section
variable {P : Program} {w : World} {K : PySem.W.Frag} {mg : Str → Option Value} {base : Heap}
theorem sc24 : FnScope ["row", "many"] ["row"] (defScope (top 30)) := ⟨rfl, rfl, rfl, by decide +kernel, rfl, by decide +kernel, by decide +kernel⟩
theorem ok_need (T : Tz P K mg) : FnOk P w K mg base CX0 1 T.many_needed.f T.many_needed.fd ["row"] (spNeed K) := by
  refine T.many_needed.fn.ok sc24 (fun vs H Q E h => ?_) (fun cdv A outer s H vs Q E hr h => ?_)
  · obtain ⟨v, ns, rfl, _⟩ := h
    rfl
  · obtain ⟨a, ns, rfl, hs, len, q⟩ := h
    refine ⟨_, pss_cons (ps_set (i := 1) sc24.nd rfl (.inl rfl) (pe_callB call_len_seq (by rfl) T.blt.len PySem.boot_len (pa_cons (pv 0) pa_nil)))
      (pss_cons (ps_while PassesOwn.never (PW.pt (pw_and (pt_cmpR op_gt (pv 1) pe_int (nomark _)) (pw_and1 (pt_cmpR op_eq (pe_ix ix_list (pv 0) (pe_op op_sub (pv 1) pe_int) (fun _ _ => rfl)) pe_int (nomark _)))))
        (pss_one (ps_set (i := 1) sc24.nd rfl (.inl rfl) (pe_op op_sub (pv 1) pe_int))))
      (pss_one (ps_ret (pv 1)))), ?_⟩
    refine ⟨_, rfl, a, _, rfl, .inl hs, ?_⟩
    rw [List.length_map]
    refine while_by (fun σ H' => H' = H ∧ ∃ k : Nat, σ = [some (.ref a), some (.int (k : Int))] ∧ k ≤ ns.length ∧ ∀ (i : Nat) (z : Int), k ≤ i → ns[i]? = some z → z = 0)
      (fun σ _ => match σ with | [_, some (.int k)] => k.toNat | _ => 0) ⟨rfl, ns.length, rfl, Nat.le_refl _, fun i z hi hz => ?_⟩ ?_ ?_
    · have := (List.getElem?_eq_some_iff.mp hz).1
      omega
    · rintro σ H' ⟨rfl, k, rfl, hk, hz⟩
      refine ⟨_, rfl, _, _, rfl, rfl, _, rfl, ?_⟩
      rcases Nat.eq_zero_or_pos k with k0 | k0
      · subst k0
        refine iteF (iteF ⟨_, rfl, q 0 ⟨Nat.zero_le _, fun i z _ => hz i z (Nat.zero_le _), fun j e => by omega⟩⟩)
      · rw [decide_eq_true (show ((k : Int) > 0) by omega)]
        obtain ⟨j, rfl⟩ : ∃ j, k = j + 1 := ⟨k - 1, by omega⟩
        have jl : j < ns.length := by omega
        have it : (ns.map V.int)[j]? = some (.int ns[j]) := by
          rw [List.getElem?_map, List.getElem?_eq_getElem jl]
          rfl
        have ej : ((j + 1 : Nat) : Int) - 1 = (j : Int) := by omega
        refine iteT ⟨_, rfl, _, rfl, _, _, rfl, rfl, a, _, _, .int ns[j], rfl, rfl, hs, ?_, rfl, _, rfl, ?_⟩
        · rw [ej]
          exact atI_nat it
        by_cases z0 : ns[j] = 0
        · rw [decide_eq_true (by rw [z0])]
          refine iteT ⟨_, rfl, _, _, rfl, rfl, ⟨rfl, j, ?_, by omega, fun i z hi e => ?_⟩, ?_⟩
          · show [some (V.ref a), some (V.int (((j + 1 : Nat) : Int) - 1))] = _
            rw [ej]
          · rcases Nat.eq_or_lt_of_le hi with e' | lt
            · rw [← e', List.getElem?_eq_getElem jl, z0] at e
              cases e
              rfl
            · exact hz i z lt e
          · show (((j + 1 : Nat) : Int) - 1).toNat < ((j + 1 : Nat) : Int).toNat
            omega
        · rw [decide_eq_false (fun z => z0 (V.int.inj z))]
          exact iteF ⟨_, rfl, q (j + 1) ⟨hk, hz, fun j' e => ⟨ns[j], by
            obtain rfl : j = j' := by omega
            exact List.getElem?_eq_getElem jl, z0⟩⟩⟩
    · intro σ H Q Q' imp h
      obtain ⟨v, e, i, j, e1, e2, k, e3, h⟩ := h
      refine ⟨v, e, i, j, e1, e2, k, e3, ?_⟩
      cases k with
      | true =>
        rw [if_pos rfl] at h ⊢
        obtain ⟨v, e, v', e', i, j, e1, e2, p, xs, i', v2, e3, e4, hs, ha, e5, b, e6, h⟩ := h
        exact ⟨v, e, v', e', i, j, e1, e2, p, xs, i', v2, e3, e4, hs, ha, e5, b, e6, imp _ _ h⟩
      | false =>
        rw [if_neg (by decide)] at h ⊢
        exact imp _ _ h
end
end Kz
set_option linter.all false
set_option maxRecDepth 100000
set_option maxHeartbeats 4000000
namespace Kz
open PySem PySem.Spec PyProof.Rows L2
def AlA (K : PySem.W.Frag) (H : Hp) (us : List V) (n m : Nat) (qs : List Rat) : Prop := us.length = qs.length ∧ ∀ (i : Nat) (u : V) (q : Rat), us[i]? = some u → qs[i]? = some q → ArgQ K H u n m q
theorem AlA.same {K : PySem.W.Frag} {H H' : Hp} {us : List V} {n m : Nat} {qs : List Rat} (s : Same H H') (h : AlA K H us n m qs) : AlA K H' us n m qs := ⟨h.1, fun i u q a b => (h.2 i u q a b).same s⟩
theorem AlA.sz {K : PySem.W.Frag} {H : Hp} {us : List V} {n m : Nat} {qs : List Rat} (h : AlA K H us n m qs) : SzA n m qs := fun i l => by
  have l' : i < us.length := by rw [h.1]; exact l
  exact (h.2 i _ _ (List.getElem?_eq_getElem l') (at_cf l)).sz
theorem Al.arg {K : PySem.W.Frag} {H : Hp} {us : List V} {n m : Nat} {qs : List Rat} (h : Al K H us qs) (z : SzA n m qs) : AlA K H us n m qs := ⟨h.1, fun i u q a b => by
  have l : i < qs.length := (List.getElem?_eq_some_iff.mp b).1
  have e := z i l
  rw [cf_at b] at e
  exact (h.2 i u q a b).arg e⟩
/-- what is no row of ratios -/
def NotRow (K : PySem.W.Frag) (H : Hp) (v : V) : Prop := (∃ t, TyN K H v t ∧ (t == "tuple") = false ∧ (t == "list") = false) ∨ (∃ a us bs, v = .ref a ∧ Sq K H a us ∧ us.length ≤ 1000 ∧ RBs K H us bs ∧ bs.all id = false)
def ErR (cR : Addr) (H : Hp) (E : XK) (v : V) : Prop := ∀ (d : Addr) (H' : Hp), Same H H' → H' d = some (.xd [("row", v)]) → E (.ref cR) (some d) H'
theorem NotRow.same {K : PySem.W.Frag} {H H' : Hp} {v : V} (s : Same H H') (h : NotRow K H v) : NotRow K H' v := by
  rcases h with ⟨t, a, b⟩ | ⟨a, us, bs, e, hs, l, rb, f⟩
  · exact .inl ⟨t, a.same s, b⟩
  · exact .inr ⟨a, us, bs, e, hs.same s, l, ⟨rb.1, fun i u b x y => (rb.2 i u b x y).same s⟩, f⟩
theorem ErR.after {cR : Addr} {H H1 : Hp} {E : XK} {v : V} (s : Same H H1) (h : ErR cR H E v) : ErR cR H1 E v := fun d H' s' => h d H' (s.trans s')
theorem SqT.off {K : PySem.W.Frag} {H H' : Hp} {x a C dx : Addr} {fs : List (Str × V)} {xs : List V} (hx : H x = some (.ins C dx fs)) (b : But x H H') (h : SqT K H a xs) : SqT K H' a xs := by
  rcases h with (h | ⟨o, h⟩) | h
  · exact .inl (.inl (b _ _ h (ne_of h hx (fun z => nomatch z))))
  · exact .inl (.inr ⟨o, b _ _ h (ne_of h hx (fun z => nomatch z))⟩)
  · exact .inr h
theorem Al.off {K : PySem.W.Frag} {H H' : Hp} {x C dx : Addr} {fs : List (Str × V)} {vs : List V} {qs : List Rat} (hx : H x = some (.ins C dx fs)) (b : But x H H') (h : Al K H vs qs) : Al K H' vs qs := ⟨h.1, fun i v q e1 e2 => by
  obtain ⟨t, e, r⟩ := h.2 i v q e1 e2
  exact ⟨t, e, Kz.SqT.off hx b r⟩⟩
theorem cut_take {vs : List V} {k : Nat} (h : k ≤ vs.length) : cutV vs none (some (k : Int)) = vs.take k := by
  unfold cutV
  rw [HT.sIx_none, List.drop_zero]
  have e : HT.sIx vs.length vs.length (some (k : Int)) = k := by
    show (if (k : Int) < 0 then ((k : Int) + (vs.length : Int)).toNat else min (k : Int).toNat vs.length) = k
    rw [if_neg (by omega)]
    have : (k : Int).toNat = k := rfl
    rw [this]
    exact Nat.min_eq_left h
  rw [e]
  rfl
/-- the numbers of a row above the line -/
def numsOf (qs : List Rat) : List Int := qs.map (·.num)
theorem need_of {qs : List Rat} {k : Nat} (h : NeedI (numsOf qs) k) : Need qs k := by
  have l : (numsOf qs).length = qs.length := List.length_map _
  refine ⟨by rw [← l]; exact h.1, fun i hi => ?_, fun j e => ?_⟩
  · rcases Nat.lt_or_ge i qs.length with lt | ge
    · have := h.2.1 i (cf qs i).num hi (by unfold numsOf; rw [List.getElem?_map, at_cf lt]; rfl)
      exact Rat.num_eq_zero.mp this
    · exact cf_out ge
  · obtain ⟨z, e1, e2⟩ := h.2.2 j e
    unfold numsOf at e1
    rw [List.getElem?_map] at e1
    intro c
    have lt : j < qs.length := by
      have := h.1
      omega
    rw [at_cf lt, c] at e1
    cases e1
    exact e2 rfl
def spInit (K : PySem.W.Frag) (cP cR : Addr) : Sp := fun vs H Q E => ∃ x dx v, vs = [.ref x, v] ∧ H x = some (.ins cP dx []) ∧
  ((∃ a us qs n m, v = .ref a ∧ Sq K H a us ∧ AlA K H us n m qs ∧ m ≤ 9000 ∧ us.length ≤ 1000 ∧
    ∀ (H' : Hp) (t : Addr) (ws : List V) (rs : List Rat), But x H H' → H' x = some (.ins cP dx [("numbers", .ref t)]) → SqT K H' t ws → Al K H' ws rs → Tr rs → rs.length ≤ qs.length → (∀ i, cf rs i = cf qs i) → Q .non H') ∨
   (NotRow K H v ∧ ErR cR H E v))
/-! ### a comprehension that makes a row, one value for each item -/
/-- what holds of the row made so far bears new objects and the row's own growth -/
def Bears (D : Addr) (R : Nat → List V → Hp → Prop) : Prop := ∀ (i : Nat) (acc : List V) (H H' : Hp), (∀ o, H D = some o → ∃ us, o = .lst us) → But D H H' → R i acc H → R i acc H'
theorem bears_al {K : PySem.W.Frag} {D : Addr} {qs : List Rat} : Bears D (fun i acc H => Al K H acc (qs.take i)) := fun i acc H H' l b h => ⟨h.1, fun j v q e1 e2 => by
  obtain ⟨t, e, r⟩ := h.2 j v q e1 e2
  refine ⟨t, e, ?_⟩
  have ne : ∀ {o : HO}, H t = some o → (∀ us, o ≠ .lst us) → t ≠ D := fun {o} e n z => by
    rw [z] at e
    obtain ⟨us, e'⟩ := l _ e
    exact n us e'
  rcases r with (r | ⟨o, r⟩) | r
  · exact .inl (.inl (b _ _ r (ne r (fun us z => nomatch z))))
  · exact .inl (.inr ⟨o, b _ _ r (ne r (fun us z => nomatch z))⟩)
  · exact .inr r⟩
theorem bears_pure {D : Addr} {R : Nat → List V → Prop} : Bears D (fun i acc _ => R i acc) := fun _ _ _ _ _ _ h => h
section
variable {K : PySem.W.Frag} {a : Addr} {xs : List V} {g : TG} {te : TE} {vs : List Nat} {σ : L2.St} {H1 : Hp} {D : Addr} {Qd : Hp → Prop}
abbrev StepOf (g : TG) (te : TE) (vs : List Nat) (σ : L2.St) (H1 : Hp) (R : Nat → List V → Hp → Prop) (i : Nat) (x : V) : Prop :=
  ∀ (acc : List V) (H' : Hp) (Qk : VK) (Z : Hp → Prop), acc.length = i → R i acc H' → Same H1 H' → (∀ y H4, Same H' H4 → R (i + 1) (acc ++ [y]) H4 → Qk y H4) →
    g x (wipe σ vs) H' fun σ2 H2 => wipe σ2 vs = wipe σ vs ∧ tYes σ2 H2 fun b H3 => if b = true then te σ2 H3 Qk else Z H3
theorem lc_mapL (hl : SqL K H1 a xs) (len : xs.length ≤ 1000) (hD : H1 D = none) (R : Nat → List V → Hp → Prop) (br : Bears D R) (h0 : R 0 [] H1) (step : ∀ i x, xs[i]? = some x → StepOf g te vs σ H1 R i x)
    (fin : ∀ acc H', H' D = some (.lst acc) → acc.length = xs.length → R xs.length acc H' → Same H1 H' → Qd H') : ∃ W : Nat → Nat → Hp → Prop, (∃ m, W 0 m (upd H1 D (.lst []))) ∧ ∀ i m H, W i m H →
      ((Itl K a).stop i H ∧ Qd H) ∨ ((Itl K a).go i H ∧ ∃ Nx : Hp → Prop, (∀ H', Nx H' → ∃ m', m' < m ∧ W (i + 1) m' H') ∧ ∀ x H', (Itl K a).yld i H x H' → g x (wipe σ vs) H' fun σ2 H2 => wipe σ2 vs = wipe σ vs ∧ tYes σ2 H2 fun b H3 =>
        if b = true then te σ2 H3 fun y H4 => ∃ acc, H4 D = some (.lst acc) ∧ acc.length < sizeLine ∧ Nx (upd H4 D (.lst (acc ++ [y]))) else Nx H3) := by
  refine lc_list (fun i H' => ∃ acc, H' D = some (.lst acc) ∧ acc.length = i ∧ i ≤ xs.length ∧ R i acc H' ∧ Same H1 H') ⟨[], upd_same, rfl, Nat.zero_le _, br _ _ _ _ (fun o e => by rw [hD] at e; cases e) (But.refl.set) h0, Same.new hD⟩
    (fun i H' _ ⟨acc, _, _, _, _, s⟩ => Same.seq s hl) ?_ fun H' ⟨acc, e, l, _, r, s⟩ => fin acc H' e l r s
  rintro i x H' hx ⟨acc, e, l, le, r, s⟩
  have lt : i < xs.length := (List.getElem?_eq_some_iff.mp hx).1
  refine step i x hx acc H' _ _ l r s fun y H4 s4 r4 => ⟨acc, s4 _ _ e, le1000 (by omega), acc ++ [y], upd_same, by simp [l], lt, br _ _ _ _ (fun o e4 => ?_) But.refl.set r4, fun c u ec => ?_⟩
  · rw [s4 _ _ e] at e4
    cases e4
    exact ⟨_, rfl⟩
  · rw [upd_ne (ne_of_none ec hD)]
    exact s4 _ _ (s _ _ ec)
theorem lc_mapT (hl : SqT K H1 a xs) (len : xs.length ≤ 1000) (hD : H1 D = none) (R : Nat → List V → Hp → Prop) (br : Bears D R) (h0 : R 0 [] H1) (step : ∀ i x, xs[i]? = some x → StepOf g te vs σ H1 R i x)
    (fin : ∀ acc H', H' D = some (.lst acc) → acc.length = xs.length → R xs.length acc H' → Same H1 H' → Qd H') : ∃ W : Nat → Nat → Hp → Prop, (∃ m, W 0 m (upd H1 D (.lst []))) ∧ ∀ i m H, W i m H →
      ((Itt K a).stop i H ∧ Qd H) ∨ ((Itt K a).go i H ∧ ∃ Nx : Hp → Prop, (∀ H', Nx H' → ∃ m', m' < m ∧ W (i + 1) m' H') ∧ ∀ x H', (Itt K a).yld i H x H' → g x (wipe σ vs) H' fun σ2 H2 => wipe σ2 vs = wipe σ vs ∧ tYes σ2 H2 fun b H3 =>
        if b = true then te σ2 H3 fun y H4 => ∃ acc, H4 D = some (.lst acc) ∧ acc.length < sizeLine ∧ Nx (upd H4 D (.lst (acc ++ [y]))) else Nx H3) := by
  refine lc_tup (fun i H' => ∃ acc, H' D = some (.lst acc) ∧ acc.length = i ∧ i ≤ xs.length ∧ R i acc H' ∧ Same H1 H') ⟨[], upd_same, rfl, Nat.zero_le _, br _ _ _ _ (fun o e => by rw [hD] at e; cases e) (But.refl.set) h0, Same.new hD⟩
    (fun i H' _ ⟨acc, _, _, _, _, s⟩ => Kz.Same.seqT s hl) ?_ fun H' ⟨acc, e, l, _, r, s⟩ => fin acc H' e l r s
  rintro i x H' hx ⟨acc, e, l, le, r, s⟩
  have lt : i < xs.length := (List.getElem?_eq_some_iff.mp hx).1
  refine step i x hx acc H' _ _ l r s fun y H4 s4 r4 => ⟨acc, s4 _ _ e, le1000 (by omega), acc ++ [y], upd_same, by simp [l], lt, br _ _ _ _ (fun o e4 => ?_) But.refl.set r4, fun c u ec => ?_⟩
  · rw [s4 _ _ e] at e4
    cases e4
    exact ⟨_, rfl⟩
  · rw [upd_ne (ne_of_none ec hD)]
    exact s4 _ _ (s _ _ ec)
end
/-- over a variable that is a tuple or a list -/
theorem lc_mapS {K : PySem.W.Frag} {a : Addr} {xs : List V} {g : TG} {te : TE} {vs : List Nat} {σ : L2.St} {H1 : Hp} {j : Nat} {Q : Addr → Hp → Prop} (hj : σ[j]? = some (some (.ref a))) (hs : Sq K H1 a xs) (len : xs.length ≤ 1000) (R : Nat → List V → Hp → Prop)
    (br : ∀ D, Bears D R) (h0 : R 0 [] H1) (step : ∀ i x, xs[i]? = some x → StepOf g te vs σ H1 R i x) (fin : ∀ D acc H', H' D = some (.lst acc) → acc.length = xs.length → R xs.length acc H' → Same H1 H' → Q D H') :
    (iList K (tVar j) σ H1 fun J H1 => ∀ D, H1 D = none → ∃ W : Nat → Nat → Hp → Prop, (∃ m, W 0 m (upd H1 D (.lst []))) ∧ ∀ i m H, W i m H →
  (J.stop i H ∧ Q D H) ∨ (J.go i H ∧ ∃ Nx : Hp → Prop, (∀ H', Nx H' → ∃ m', m' < m ∧ W (i + 1) m' H') ∧ ∀ x H', J.yld i H x H' → g x (wipe σ vs) H' fun σ2 H2 => wipe σ2 vs = wipe σ vs ∧ tYes σ2 H2 fun b H3 =>
    if b = true then te σ2 H3 fun y H4 => ∃ acc, H4 D = some (.lst acc) ∧ acc.length < sizeLine ∧ Nx (upd H4 D (.lst (acc ++ [y]))) else Nx H3)) ∨ (iTup K (tVar j) σ H1 fun J H1 => ∀ D, H1 D = none → ∃ W : Nat → Nat → Hp → Prop, (∃ m, W 0 m (upd H1 D (.lst []))) ∧ ∀ i m H, W i m H →
  (J.stop i H ∧ Q D H) ∨ (J.go i H ∧ ∃ Nx : Hp → Prop, (∀ H', Nx H' → ∃ m', m' < m ∧ W (i + 1) m' H') ∧ ∀ x H', J.yld i H x H' → g x (wipe σ vs) H' fun σ2 H2 => wipe σ2 vs = wipe σ vs ∧ tYes σ2 H2 fun b H3 =>
    if b = true then te σ2 H3 fun y H4 => ∃ acc, H4 D = some (.lst acc) ∧ acc.length < sizeLine ∧ Nx (upd H4 D (.lst (acc ++ [y]))) else Nx H3)) := by
  rcases hs with hl | ht
  · exact .inl ⟨_, hj, a, rfl, ⟨_, hl⟩, fun D hD => lc_mapL hl len hD R (br D) h0 step fun acc H' => fin D acc H'⟩
  · exact .inr ⟨_, hj, a, rfl, ⟨_, ht⟩, fun D hD => lc_mapT ht len hD R (br D) h0 step fun acc H' => fin D acc H'⟩
end Kz
set_option linter.all false
set_option maxRecDepth 100000
set_option maxHeartbeats 4000000
namespace Kz
open PySem PySem.Spec PyProof.Rows L2
section
variable {P : Program} {w : World} {K : PySem.W.Frag} {mg : Str → Option Value} {base : Heap}
abbrev nP0 : List Str := ["self", "numbers", "pairs", "number", "top", "_"]
theorem scP0 : FnScope nP0 ["self", "numbers"] (defScope (sP 0)) := ⟨rfl, rfl, rfl, by decide +kernel, rfl, by decide +kernel, by decide +kernel⟩
theorem ints_get {qs : List Rat} {i : Nat} (lt : i < qs.length) : (numsOf qs)[i]? = some (cf qs i).num := by
  unfold numsOf
  rw [List.getElem?_map, at_cf lt]
  rfl
theorem ok_pinit (T : Tz P K mg) : FnOk P w K mg base (CX P w) 5 T.p_init.f T.p_init.fd ["self", "numbers"] (spInit K T.cP T.cR) := by
  have G1 : FnOk P w K mg base CX0 4 T.is_row.f T.is_row.fd ["value"] (spRow K) := ok_row T
  have G2 : FnOk P w K mg base (CX P w) 4 T.told.f T.told.fd ["value", "what"] (spTold K T.cN) := ok_told T.toTx
  have G3 : FnOk P w K mg base CX0 1 T.many_needed.f T.many_needed.fd ["row"] (spNeed K) := ok_need T
  refine T.p_init.fn.okX scP0 (fun vs H Q E h => ?_) (fun cdv A outer s H vs Q E hr h => ?_)
  · obtain ⟨x, dx, v, rfl, _⟩ := h
    rfl
  · obtain ⟨x, dx, v, rfl, hx, h⟩ := h
    have tk := takes_of (X := cxOf (CX P w) P w K mg base nP0 "Poly.__init__" (defScope (sP 0)) T.p_init.f cdv A outer s H E) (E := E) rfl rfl rfl rfl
    refine ⟨_, pss_cons (ps_if (pt_not (pt_val (T.is_row.c0 G1 hr (pa_cons (pv 1) pa_nil))))
        (pss_one (ps_raise rfl tk (pmk_oex (CX := CX0) T.eR.o T.iR.i T.iR.t (ok_i4 T.iR.fn) (hr.mono (by decide)) T.bR .nil pass0 rfl T.eR.g (pa_cons (pv 1) pa_nil)))) pss_nil)
      (pss_cons (ps_setLc (i := 2) (own := [("number", 3)]) (g := gName 3) (tt := tYes) rfl scP0.nd rfl rfl (sw_true rfl rfl rfl (by decide +kernel)) (pi_or (pi_list (pv 1)) (pi_tup (pv 1))) (blkOk_by (own := [("number", 3)]) (N := nP0) (sc := defScope (sP 0)) (by decide +kernel))
        (fun _ _ _ _ _ => pg_name (i := 3) scP0.nd rfl (Or.inl rfl)) (fun _ _ _ _ _ => pts_nil) (fun _ _ _ _ _ => T.told.cX G2 hr (pa_cons (pv 3) (pa_cons pe_str pa_nil))))
      (pss_one (ps_fld (pv 0) (pe_callTy call_tuple_of (by rfl) T.mTuple boot_ttuple (pa_cons (pe_slice sl_list (pv 2) po_none (po_some (T.many_needed.c0 G3 (hr.mono (by decide)) (pa_cons
        (pe_lc (own := [("top", 4), ("_", 5)]) (g := gTup K 2 (gCons (gName 4) (gCons (gName 5) gNil))) (tt := tYes) rfl scP0.nd (pi_list (pv 2)) (blkOk_by (own := [("top", 4), ("_", 5)]) (N := nP0) (sc := defScope (sP 0)) (by decide +kernel))
          (fun _ _ _ _ _ => pg_tup (by rfl) (pgs_cons (pg_name (i := 4) scP0.nd rfl (Or.inl rfl)) (pgs_cons (pg_name (i := 5) scP0.nd rfl (Or.inl rfl)) pgs_nil))) (fun _ _ _ _ _ => pts_nil) (fun _ _ _ _ _ => pv 4)) pa_nil)))) pa_nil)) (by rfl)))), ?_⟩
    rcases h with ⟨a, us, qs, n, m, rfl, hs, al, hm, len, q⟩ | ⟨nr, er⟩
    · have rbs : RBs K H us (List.replicate us.length true) := ⟨List.length_replicate, fun i u b e1 e2 => by
        have lt : i < us.length := (List.getElem?_eq_some_iff.mp e1).1
        rw [List.getElem?_replicate, if_pos lt] at e2
        cases e2
        exact (al.2 i u _ e1 (at_cf (by rw [← al.1]; exact lt))).rb⟩
      refine ⟨_, rfl, _, rfl, .inr ⟨a, us, _, rfl, hs, len, rbs, fun H1 s1 => ?_⟩⟩
      have all1 : (List.replicate us.length true).all id = true := by simp
      rw [all1]
      refine ⟨_, rfl, iteF ?_⟩
      have hs1 := hs.same s1
      have al1 := al.same s1
      refine lc_mapS (K := K) (σ := L2.start nP0 [.ref x, .ref a]) (g := gName 3) (vs := [3]) (j := 1) rfl hs1 len (fun i acc H' => Al K H' acc (qs.take i)) (fun D => bears_al) Al.nil ?_ ?_
      · intro i x hx acc H' Qk Z l r s k
        have lt : i < us.length := (List.getElem?_eq_some_iff.mp hx).1
        have ltq : i < qs.length := by rw [← al.1]; exact lt
        refine ⟨rfl, ?_⟩
        dsimp only [tYes]
        refine iteT ⟨_, rfl, _, _, rfl, .inl ⟨_, n, m, (al1.2 i x _ hx (at_cf ltq)).same s, hm, fun v' H4 s4 rv => k _ _ s4 ?_⟩⟩
        show Al K H4 (acc ++ [v']) (qs.take (i + 1))
        rw [take_snoc (at_cf ltq)]
        exact (Al.same s4 r).snoc rv
      · intro D vs H2 hv lv av s2
        have av : Al K H2 vs (qs.take us.length) := av
        rw [al.1, List.take_length] at av
        have lvq : vs.length = qs.length := av.1
        refine ⟨_, rfl, ?_⟩
        refine ⟨_, rfl, D, rfl, ⟨_, SqL.of hv⟩, fun D2 hD2 => ?_⟩
        refine lc_mapL (SqL.of hv) (by omega) hD2 (fun i acc _ => acc = ((numsOf qs).take i).map V.int) bears_pure rfl ?_ ?_
        · intro i x hx acc H' Qk Z l r s k
          have lt : i < vs.length := (List.getElem?_eq_some_iff.mp hx).1
          have ltq : i < qs.length := by omega
          obtain ⟨t, rfl, ht⟩ := (av.2 i x _ hx (at_cf ltq)).same s
          refine ⟨t, _, rfl, ht, rfl, _, _, rfl, _, _, rfl, rfl, rfl, ?_⟩
          dsimp only [tYes]
          refine iteT ⟨_, rfl, k _ _ (Same.refl _) ?_⟩
          show acc ++ [V.int (cf qs i).num] = ((numsOf qs).take (i + 1)).map V.int
          rw [take_snoc (ints_get ltq), List.map_append, r]
          rfl
        · intro acc H3 hacc lacc r s3
          have ln : (numsOf qs).length = qs.length := List.length_map _
          have r' : acc = ((numsOf qs).take vs.length).map V.int := r
          rw [lvq, ← ln, List.take_length] at r'
          subst r'
          refine ⟨D2, _, rfl, SqL.of hacc, by omega, fun k0 hk => ?_⟩
          have nk := need_of hk
          refine ⟨_, rfl, D, vs, rfl, SqL.of (s3 _ _ hv), fun D4 hD4 => ?_⟩
          rw [cut_take (by rw [lvq]; exact nk.1)]
          refine ⟨D4, _, rfl, .inl ⟨SqL.of upd_same, fun t ht => ?_⟩⟩
          have s4 : Same H3 (upd (upd H3 D4 (.lst (vs.take k0))) t (.tup (vs.take k0))) := (Same.new hD4).trans (Same.new ht)
          have et : upd (upd H3 D4 (.lst (vs.take k0))) t (.tup (vs.take k0)) t = some (.tup (vs.take k0)) := upd_same
          generalize upd (upd H3 D4 (.lst (vs.take k0))) t (.tup (vs.take k0)) = H4 at s4 et
          have sAll : Same H H4 := ((s1.trans s2).trans s3).trans s4
          have hx4 := sAll _ _ hx
          refine ⟨_, rfl, x, T.cP, dx, [], rfl, hx4, T.clP, T.nP, by decide, ?_⟩
          have b : But x H4 (upd H4 x (.ins T.cP dx (putF "numbers" (.ref t) []))) := But.refl.set
          refine q _ t _ (qs.take k0) (fun c u e ne => b c u (sAll _ _ e) ne) upd_same (Kz.SqT.off hx4 b (SqT.of et)) ((((av.take k0).same s3).same s4).off hx4 b) (need_tr nk) (by rw [List.length_take]; omega) (need_cf nk)
    · rcases nr with ⟨t, ty, n1, n2⟩ | ⟨a, us, bs, rfl, hs, len, rb, f⟩
      · refine ⟨_, rfl, _, rfl, .inl ⟨t, ty, n1, n2, fun H1 s1 => ⟨_, rfl, iteT ⟨_, rfl, ?_⟩⟩⟩⟩
        exact raised1 T.eR.o T.nR1 fun d H' s' e => er d H' (s1.trans s') e
      · refine ⟨_, rfl, _, rfl, .inr ⟨a, us, bs, rfl, hs, len, rb, fun H1 s1 => ?_⟩⟩
        rw [f]
        exact ⟨_, rfl, iteT ⟨_, rfl, raised1 T.eR.o T.nR1 fun d H' s' e => er d H' (s1.trans s') e⟩⟩
end
end Kz
set_option linter.all false
set_option maxRecDepth 100000
set_option maxHeartbeats 4000000
namespace Kz
open PySem PySem.Spec PyProof.Rows L2
/-- a Poly with these numbers -/
def PolyAt (K : PySem.W.Frag) (cP : Addr) (H : Hp) (v : V) (qs : List Rat) : Prop := ∃ a dx t ws, v = .ref a ∧ H a = some (.ins cP dx [("numbers", .ref t)]) ∧ SqT K H t ws ∧ Al K H ws qs ∧ Tr qs
theorem PolyAt.same {K : PySem.W.Frag} {cP : Addr} {H H' : Hp} {v : V} {qs : List Rat} (s : Same H H') (h : PolyAt K cP H v qs) : PolyAt K cP H' v qs := by
  obtain ⟨a, dx, t, ws, e, ha, ht, al, tr⟩ := h
  exact ⟨a, dx, t, ws, e, s _ _ ha, Kz.Same.seqT s ht, al.same s, tr⟩
theorem lkN {v : V} : ([(("numbers" : Str), v)] : List (Str × V)).lookup ("numbers" : Str) = some v := by simp [List.lookup]
section
variable {P : Program} {w : World} {K : PySem.W.Frag} {mg : Str → Option Value} {base : Heap}
/-- Poly(row), read -/
theorem poly_made {cP cR : Addr} {H : Hp} {a : Addr} {us : List V} {qs : List Rat} {n m : Nat} {Q : VK} {E : XK} (hs : Sq K H a us) (al : AlA K H us n m qs) (hm : m ≤ 9000) (len : us.length ≤ 1000)
    (k : ∀ (v : V) (H' : Hp) (rs : List Rat), Same H H' → PolyAt K cP H' v rs → rs.length ≤ qs.length → (∀ i, cf rs i = cf qs i) → Q v H') :
    ∀ x dx, H x = none → H dx = none → dx ≠ x → spInit K cP cR (.ref x :: ([.ref a] ++ [])) (upd (upd H dx (.own x)) x (.ins cP dx [])) (fun v H2 => v = .non ∧ Q (.ref x) H2) E := by
  intro x dx nx ndx ne
  have s1 : Same H (upd (upd H dx (.own x)) x (.ins cP dx [])) := fun c u e => by
    rw [upd_ne (ne_of_none e nx), upd_ne (ne_of_none e ndx)]
    exact e
  refine ⟨x, dx, _, rfl, upd_same, .inl ⟨a, us, qs, n, m, rfl, hs.same s1, al.same s1, hm, len, fun H' t ws rs b ex ht al' tr l e => ⟨rfl, ?_⟩⟩⟩
  exact k _ H' rs (fun c u ec => b c u (s1 _ _ ec) (ne_of_none ec nx)) ⟨x, dx, t, ws, rfl, ex, ht, al', tr⟩ l e
/-- Poly(e) as an expression, where it raises nothing -/
theorem Tz.cPoly {X : Cx} {p pos : Pos} {e : Expr} {t : TA} (T : Tz P K mg) (hr : Room 6 X.A) (ha : PA X [e] t) (of : Of X P w K mg base := by exact ⟨rfl, rfl, rfl, rfl, rfl⟩) (hg : Gl X "Poly" := by rfl)
    (st : starEach [e] X.env = (false, eval e X.env) :: starEach [] X.env := by rfl) (nost : (backTo pos (starEach [] X.env)).any (·.1) = false := by rfl) :
    PE X (.Call (.Name "Poly" p) [e] [] pos) (tMake T.cP (spInit K T.cP T.cR) [] (fun _ _ _ => False) t) := by
  obtain ⟨rfl, rfl, rfl, rfl, rfl⟩ := of
  exact pe_make T.mkP (ok_pinit T) hr hg T.mgP T.p_init.b .nil passL ha (by decide) st nost
theorem sz_zero {n m : Nat} (a : 0 < n) (b : 0 < m) : Sz n m 0 := ⟨by show (0 : Nat) < 2 ^ n; exact Nat.two_pow_pos _, by show (1 : Nat) < 2 ^ m; exact Nat.one_lt_two_pow (by omega)⟩
theorem SzA.all {n m : Nat} {qs : List Rat} (h : SzA n m qs) (a : 0 < n) (b : 0 < m) (i : Nat) : Sz n m (cf qs i) := by
  rcases Nat.lt_or_ge i qs.length with lt | ge
  · exact h i lt
  · rw [cf_out ge]
    exact sz_zero a b
/-- the ratios of a function from 0 on -/
def upTo (n : Nat) (f : Nat → Rat) : List Rat := (List.range n).map f
theorem upTo_len {n : Nat} {f : Nat → Rat} : (upTo n f).length = n := by
  unfold upTo
  rw [List.length_map, List.length_range]
end
end Kz
set_option linter.all false
set_option maxRecDepth 100000
set_option maxHeartbeats 4000000
namespace Kz
open PySem PySem.Spec PyProof.Rows L2
/-! ### lcm -/
def rLcm : List V → Hp → VK → Prop := fun vs H Q => ∃ a b : Int, vs = [.int a, .int b] ∧ a.natAbs < 2 ^ 13000 ∧ b.natAbs < 2 ^ 13000 ∧ Q (.int ((Nat.lcm a.natAbs b.natAbs : Nat) : Int)) H
theorem log_of {a n : Nat} (h : a < 2 ^ n) (n0 : 0 < n) : a.log2 < n := PySem.Flt.log2_lt_of n0 h
theorem cr_lcm {X : Cx} : CallR X (.builtin "math.lcm") rLcm := by
  intro pins s σ H vs us Q I r h
  obtain ⟨a, b, rfl, ha, hb, q⟩ := h
  obtain ⟨t, u, rfl⟩ := Vals.int2 r
  have h1 : (max 1 a.natAbs).log2 < 13000 := log_of (by
    have : 1 < 2 ^ 13000 := Nat.one_lt_two_pow (by decide)
    omega) (by decide)
  have h2 : (max a.natAbs b.natAbs).log2 < 13000 := log_of (by omega) (by decide)
  have hl : (a.natAbs.lcm b.natAbs) < 2 ^ 26001 := by
    have l1 : a.natAbs.lcm b.natAbs ≤ a.natAbs * b.natAbs := by
      unfold Nat.lcm
      exact Nat.div_le_self _ _
    have l2 : a.natAbs * b.natAbs ≤ 2 ^ 13000 * 2 ^ 13000 := Nat.mul_le_mul (Nat.le_of_lt ha) (Nat.le_of_lt hb)
    rw [← Nat.pow_add] at l2
    exact Nat.lt_of_le_of_lt (Nat.le_trans l1 l2) (Nat.pow_lt_pow_right (by decide) (by decide))
  have hz : ((((Nat.lcm 1 a.natAbs).lcm b.natAbs : Nat) : Int)).natAbs.log2 < bitsLine := by
    rw [PySem.W.mc_lcm_one]
    show (a.natAbs.lcm b.natAbs).log2 < bitsLine
    have e : bitsLine = 134217728 := by decide
    have := log_of hl (by decide)
    omega
  have g := PySem.W.mg_run_lcm a t b u (by omega) (by omega) hz
  rw [PySem.W.mc_lcm_one] at g
  exact call_function_meets PySem.W.MGF.kind_lcm PySem.W.MGF.plain_lcm PySem.W.MGF.entry_lcm (PySem.W.MGF.args_lcm _ _) g.meets ⟨.int _, H, I.tok _, ⟨_, rfl⟩, q⟩
/-! ### one bottom for a row -/
def lcs (qs : List Rat) : Nat := qs.foldl (fun a q => Nat.lcm a q.den) 1
theorem lcs_snoc (qs : List Rat) (q : Rat) : lcs (qs ++ [q]) = Nat.lcm (lcs qs) q.den := by
  unfold lcs
  rw [List.foldl_append]
  rfl
theorem rev_ind {α : Type} {P : List α → Prop} (h0 : P []) (hs : ∀ l x, P l → P (l ++ [x])) : ∀ l, P l := by
  intro l
  have : ∀ n, P (l.take n) := by
    intro n
    induction n with
    | zero => simpa using h0
    | succ n ih =>
      cases e : l[n]? with
      | none =>
        have : l.length ≤ n := by
          rcases Nat.lt_or_ge n l.length with lt | ge
          · rw [List.getElem?_eq_getElem lt] at e
            cases e
          · exact ge
        rw [List.take_of_length_le (by omega)]
        rw [List.take_of_length_le this] at ih
        exact ih
      | some x =>
        rw [take_snoc e]
        exact hs _ _ ih
  have z := this l.length
  rwa [List.take_length] at z
theorem lcs_pos : ∀ qs : List Rat, 0 < lcs qs := by
  refine rev_ind (by decide) fun l x h => ?_
  rw [lcs_snoc]
  exact Nat.lcm_pos h x.den_pos
theorem lcs_dvd : ∀ qs : List Rat, ∀ q ∈ qs, q.den ∣ lcs qs := by
  refine rev_ind (by simp) fun l x h => ?_
  intro q hq
  rw [lcs_snoc]
  rcases List.mem_append.mp hq with m | m
  · exact Nat.dvd_trans (h q m) (Nat.dvd_lcm_left _ _)
  · have : q = x := by simpa using m
    subst this
    exact Nat.dvd_lcm_right _ _
theorem lcs_lt {n m : Nat} : ∀ qs : List Rat, (∀ q ∈ qs, Sz n m q) → lcs qs < 2 ^ (m * qs.length + 1) := by
  refine rev_ind (fun _ => by
    show 1 < 2 ^ (m * 0 + 1)
    rw [Nat.mul_zero]
    decide) fun l x h hd => ?_
  have := h fun q mm => hd q (List.mem_append_left _ mm)
  have z := (hd x (by simp)).2
  rw [lcs_snoc, List.length_append]
  have l1 : Nat.lcm (lcs l) x.den ≤ lcs l * x.den := by
    unfold Nat.lcm
    exact Nat.div_le_self _ _
  have l2 : lcs l * x.den < 2 ^ (m * l.length + 1) * 2 ^ m := Nat.mul_lt_mul'' this z
  rw [← Nat.pow_add] at l2
  have e : m * l.length + 1 + m = m * (l.length + [x].length) + 1 := by
    show m * l.length + 1 + m = m * (l.length + 1) + 1
    rw [Nat.mul_add]
    omega
  rw [← e]
  omega
theorem SzA.mem {n m : Nat} {qs : List Rat} (h : SzA n m qs) : ∀ q ∈ qs, Sz n m q := fun q hq => by
  obtain ⟨i, e⟩ := List.getElem?_of_mem hq
  have lt : i < qs.length := (List.getElem?_eq_some_iff.mp e).1
  have := h i lt
  rwa [cf_at e] at this
def topOf (L : Nat) (q : Rat) : Int := q.num * ((L / q.den : Nat) : Int)
def topsOf (qs : List Rat) : List Int := qs.map (topOf (lcs qs))
theorem topOf_eq {L : Nat} {q : Rat} (h : q.den ∣ L) : (topOf L q : Rat) = q * (L : Rat) := by
  obtain ⟨c, rfl⟩ := h
  have d0 : (q.den : Rat) ≠ 0 := fun z => q.den_nz (Rat.natCast_eq_zero_iff.mp z)
  have e : q * (q.den : Rat) = (q.num : Rat) := by
    have h1 := Rat.num_divInt_den q
    rw [Rat.divInt_eq_div, Rat.intCast_natCast] at h1
    have h2 := Rat.div_mul_cancel (a := (q.num : Rat)) d0
    rw [h1] at h2
    exact h2
  unfold topOf
  rw [Nat.mul_div_cancel_left _ q.den_pos]
  have e2 : ((q.num * ((c : Nat) : Int) : Int) : Rat) = (q.num : Rat) * (c : Rat) := by
    rw [Rat.intCast_mul]
    rfl
  have e3 : ((q.den * c : Nat) : Rat) = (q.den : Rat) * (c : Rat) := Rat.natCast_mul _ _
  rw [e2, e3, ← e]
  grind
theorem tops_get {qs : List Rat} {i : Nat} (lt : i < qs.length) : (topsOf qs)[i]? = some (topOf (lcs qs) (cf qs i)) := by
  unfold topsOf
  rw [List.getElem?_map, at_cf lt]
  rfl
theorem mem_cf {qs : List Rat} {i : Nat} (lt : i < qs.length) : cf qs i ∈ qs := List.mem_of_getElem? (at_cf lt)
section
variable {P : Program} {w : World} {K : PySem.W.Frag} {mg : Str → Option Value} {base : Heap}
def spOver (K : PySem.W.Frag) : Sp := fun vs H Q _ => ∃ t ws qs n m, vs = [.ref t] ∧ SqT K H t ws ∧ Al K H ws qs ∧ SzA n m qs ∧ m ≤ 9000 ∧ qs.length ≤ 1000 ∧ m * qs.length + 2 ≤ 13000 ∧ n ≤ 400000 ∧
  ∀ p l H', Same H H' → SqT K H' p [.ref l, .int ((lcs qs : Nat) : Int)] → H' l = some (.lst ((topsOf qs).map V.int)) → H l = none → Q (.ref p) H'
abbrev nOv : List Str := ["pairs", "shared", "_", "bottom", "top"]
theorem sc28 : FnScope nOv ["pairs"] (defScope (top 24)) := ⟨rfl, rfl, rfl, by decide +kernel, rfl, by decide +kernel, by decide +kernel⟩
theorem ok_over (T : Tz P K mg) : FnOk P w K mg base CX0 1 T.over_one.f T.over_one.fd ["pairs"] (spOver K) := by
  refine T.over_one.fn.ok sc28 (fun vs H Q E h => ?_) (fun cdv A outer s H vs Q E hr h => ?_)
  · obtain ⟨t, ws, qs, n, m, rfl, _⟩ := h
    rfl
  · obtain ⟨t, ws, qs, n, m, rfl, ht, al, zq, m9, len, lm, nn, q⟩ := h
    refine ⟨_, pss_cons (ps_set (i := 1) sc28.nd rfl (.inr rfl) pe_int)
      (pss_cons (ps_for PassesOwn.never rfl (pi_tup (pv 0)) (pg_tup (by rfl) (pgs_cons (pg_name (i := 2) sc28.nd rfl (.inl rfl)) (pgs_cons (pg_name (i := 3) sc28.nd rfl (.inl rfl)) pgs_nil)))
        (pss_one (ps_set (i := 1) sc28.nd rfl (.inr rfl) (pe_callBfun cr_lcm (by rfl) T.mLcm (pa_cons (pv 1) (pa_cons (pv 3) pa_nil))))))
      (pss_one (ps_ret (pe_tup (pa_cons (pe_lc (own := [("top", 4), ("bottom", 3)]) (g := gTup K 2 (gCons (gName 4) (gCons (gName 3) gNil))) (tt := tYes) rfl sc28.nd (pi_tup (pv 0)) (blkOk_by (own := [("top", 4), ("bottom", 3)]) (N := nOv) (sc := defScope (top 24)) (by decide +kernel))
        (fun _ _ _ _ _ => pg_tup (by rfl) (pgs_cons (pg_name (i := 4) sc28.nd rfl (Or.inl rfl)) (pgs_cons (pg_name (i := 3) sc28.nd rfl (Or.inl rfl)) pgs_nil))) (fun _ _ _ _ _ => pts_nil) (fun _ _ _ _ _ => pe_op op_mulW (pv 4) (pe_op op_fdivF (pv 1) (pv 3)))) (pa_cons (pv 1) pa_nil)))))), ?_⟩
    have lt2 : ∀ i, i ≤ qs.length → lcs (qs.take i) < 2 ^ 12999 := fun i hi => by
      have z : ∀ q ∈ qs.take i, Sz n m q := fun q hq => zq.mem q (List.mem_of_mem_take hq)
      refine Nat.lt_of_lt_of_le (lcs_lt _ z) (pow_up ?_)
      have : (qs.take i).length ≤ qs.length := by rw [List.length_take]; omega
      have := Nat.mul_le_mul_left m this
      omega
    refine ⟨_, rfl, t, rfl, ⟨_, ht⟩, for_tup (K := K) (a := t) (xs := ws) (fun i σ H' => H' = H ∧ i ≤ ws.length ∧ ∃ v v', σ = [some (.ref t), some (.int ((lcs (qs.take i) : Nat) : Int)), v, v', none]) ⟨rfl, Nat.zero_le _, none, none, rfl⟩ (fun i σ H' _ ⟨e, _⟩ => e ▸ ht) ?_ ?_⟩
    · rintro i x σ H' hx ⟨rfl, le, v, v', rfl⟩
      have lt : i < ws.length := (List.getElem?_eq_some_iff.mp hx).1
      have ltq : i < qs.length := by rw [← al.1]; exact lt
      obtain ⟨t', rfl, ht'⟩ := al.2 i x _ hx (at_cf ltq)
      refine ⟨t', _, rfl, ht', rfl, _, _, rfl, _, _, rfl, rfl, ?_⟩
      have zi := (zq i ltq).2
      refine ⟨_, rfl, _, rfl, _, _, rfl, ?_, ?_, rfl, lt, some (.int (cf qs i).num), some (.int ((cf qs i).den : Int)), ?_⟩
      · exact Nat.lt_of_lt_of_le (lt2 i (by omega)) (pow_up (by decide))
      · exact Nat.lt_of_lt_of_le zi (pow_up (by omega))
      · rw [take_snoc (at_cf ltq), lcs_snoc]
        rfl
    · rintro σ H' ⟨rfl, _, v, v', rfl⟩
      rw [al.1, List.take_length]
      refine ⟨_, rfl, t, rfl, ⟨_, ht⟩, fun D hD => ?_⟩
      refine lc_mapT ht (by rw [al.1]; exact len) hD (fun i acc _ => acc = ((topsOf qs).take i).map V.int) bears_pure rfl ?_ ?_
      · intro i x hx acc H2 Qk Z l r s k
        have lt : i < ws.length := (List.getElem?_eq_some_iff.mp hx).1
        have ltq : i < qs.length := by rw [← al.1]; exact lt
        obtain ⟨t', rfl, ht'⟩ := (al.2 i x _ hx (at_cf ltq)).same s
        refine ⟨t', _, rfl, ht', rfl, _, _, rfl, _, _, rfl, rfl, rfl, ?_⟩
        dsimp only [tYes]
        have zi := zq i ltq
        have dv : (((lcs qs : Nat) : Int)).fdiv (((cf qs i).den : Nat) : Int) = ((lcs qs / (cf qs i).den : Nat) : Int) := by
          rw [Int.fdiv_eq_ediv_of_nonneg _ (Int.natCast_nonneg _), ← Int.natCast_ediv]
        have lL := lt2 qs.length (Nat.le_refl _)
        rw [List.take_length] at lL
        refine iteT ⟨_, rfl, _, rfl, _, rfl, _, _, rfl, rfl, cdivF (Int.ne_of_gt (den_pos' _)) (up_lt (den_abs zi) m9), _, _, rfl, rfl, ?_, k _ _ (Same.refl _) ?_⟩
        · rw [dv]
          refine cmulW zi.1 (b := 13000) ?_ (by omega)
          refine Nat.lt_of_le_of_lt (Nat.div_le_self _ _) (Nat.lt_of_lt_of_le lL (pow_up (by decide)))
        · show acc ++ [V.int ((cf qs i).num * _)] = ((topsOf qs).take (i + 1)).map V.int
          rw [dv, take_snoc (tops_get ltq), List.map_append, r]
          rfl
      · intro acc H2 hacc lacc r s
        have r' : acc = ((topsOf qs).take ws.length).map V.int := r
        have ln : (topsOf qs).length = qs.length := List.length_map _
        rw [al.1, ← ln, List.take_length] at r'
        subst r'
        refine ⟨_, rfl, (by show 2 ≤ sizeLine; decide), fun p hp => ?_⟩
        refine q p D _ (s.trans (Same.new hp)) (SqT.of upd_same) ?_ hD
        rw [upd_ne (ne_of_none hacc hp)]
        exact hacc
end
end Kz
set_option linter.all false
set_option maxRecDepth 100000
set_option maxHeartbeats 4000000
namespace Kz
open PySem PySem.Spec PyProof.Rows L2
def ig (ns : List Int) (i : Nat) : Int := ns.getD i 0
theorem ig_at {ns : List Int} {i : Nat} {z : Int} (h : ns[i]? = some z) : ig ns i = z := by
  unfold ig
  rw [List.getD_eq_getElem?_getD, h]
  rfl
theorem ig_out {ns : List Int} {i : Nat} (h : ns.length ≤ i) : ig ns i = 0 := by
  unfold ig
  rw [List.getD_eq_getElem?_getD, List.getElem?_eq_none h]
  rfl
theorem at_ig {ns : List Int} {i : Nat} (h : i < ns.length) : ns[i]? = some (ig ns i) := by
  rw [List.getElem?_eq_getElem h, ig_at (List.getElem?_eq_getElem h)]
section
variable {P : Program} {w : World} {K : PySem.W.Frag} {mg : Str → Option Value} {base : Heap}
end
end Kz
set_option linter.all false
set_option maxRecDepth 100000
set_option maxHeartbeats 4000000
namespace Kz
open PySem PySem.Spec PyProof.Rows L2
section
variable {P : Program} {w : World} {K : PySem.W.Frag} {mg : Str → Option Value} {base : Heap}
theorem poly_ty (T : Tz P K mg) {H : Hp} {a dx : Addr} {fs : List (Str × V)} (h : H a = some (.ins T.cP dx fs)) : TyX K H (.ref a) (.ref T.cP) := .base (.ins h T.clP T.iP T.gP T.tP T.oP)
theorem kit_self {C : Addr} : PySem.W.kitOne K (.ref C) (.ref C) = some true := by
  unfold PySem.W.kitOne
  simp
theorem ArgQ.ty {H : Hp} {v : V} {n m : Nat} {q : Rat} (h : ArgQ K H v n m q) : ∃ t, TyN K H v t := by
  obtain ⟨a, b, h, _⟩ := h
  cases h with
  | int => exact ⟨_, ty_int⟩
  | two hs b0 =>
    obtain ⟨t, ty, _⟩ := hs.ty
    exact ⟨t, ty⟩
end
end Kz
set_option linter.all false
set_option maxRecDepth 100000
set_option maxHeartbeats 4000000
namespace Kz
open PySem PySem.Spec PyProof.Rows L2
def gI (zs : List Int) : Nat := zs.foldl (fun a z => Nat.gcd a z.natAbs) 0
def leanOf (zs : List Int) (k : Nat) : List Int := (zs.take k).map fun z => z.fdiv ((gI zs : Nat) : Int)
section
variable {P : Program} {w : World} {K : PySem.W.Frag} {mg : Str → Option Value} {base : Heap}
end
end Kz
set_option linter.all false
set_option maxRecDepth 100000
set_option maxHeartbeats 4000000
namespace Kz
open PySem PySem.Spec PyProof.Rows L2
/-- one step of a division without fractions -/
def pval (D r : List Int) (i : Nat) : Int := ig r i * ig D (D.length - 1) - (if r.length - D.length ≤ i then ig r (r.length - 1) * ig D (i - (r.length - D.length)) else 0)
def pstep (D r : List Int) : List Int := (List.range (r.length - 1)).map (pval D r)
def pit (D : List Int) : Nat → List Int → List Int
  | 0, r => r
  | n + 1, r => pit D n (pstep D r)
def BdI (n : Nat) (zs : List Int) : Prop := ∀ z ∈ zs, z.natAbs < 2 ^ n
theorem BdI.ig {n : Nat} {zs : List Int} (h : BdI n zs) (i : Nat) : (ig zs i).natAbs < 2 ^ n := by
  rcases Nat.lt_or_ge i zs.length with lt | ge
  · exact h _ (List.mem_of_getElem? (at_ig lt))
  · rw [ig_out ge]
    exact Nat.two_pow_pos _
theorem BdI.up {n m : Nat} {zs : List Int} (h : BdI n zs) (l : n ≤ m) : BdI m zs := fun z hz => up_lt (h z hz) l
section
variable {P : Program} {w : World} {K : PySem.W.Frag} {mg : Str → Option Value} {base : Heap}
theorem atI_last {xs : List V} {v : V} (h : xs[xs.length - 1]? = some v) : atI xs (-1) = some v := by
  have lt := (List.getElem?_eq_some_iff.mp h).1
  unfold atI ixN
  rw [if_neg (by decide), if_pos (by omega)]
  show xs[((-1 : Int) + (xs.length : Int)).toNat]? = some v
  have : ((-1 : Int) + (xs.length : Int)).toNat = xs.length - 1 := by omega
  rw [this]
  exact h
end
end Kz
set_option linter.all false
set_option maxRecDepth 100000
set_option maxHeartbeats 4000000
namespace Kz
open PySem PySem.Spec PyProof.Rows L2
/-- the rows that a search for a common divisor goes through -/
inductive Run : List Int → List Int → List Int → Prop
  | done {r : List Int} : Run r [] r
  | step {r d f : List Int} {x y : Nat} (k : Nat) : BdI x r → BdI y d → x + (r.length + 1 - d.length) * (y + 1) ≤ 9000 → y ≤ 9000 → 0 < d.length → NeedI (pit d (r.length + 1 - d.length) r) k → Run d (leanOf (pit d (r.length + 1 - d.length) r) k) f → Run r d f
section
variable {P : Program} {w : World} {K : PySem.W.Frag} {mg : Str → Option Value} {base : Heap}
end
end Kz
set_option linter.all false
set_option maxRecDepth 100000
set_option maxHeartbeats 4000000
namespace Kz
open PySem PySem.Spec PyProof.Rows L2
theorem Al.bear {K : PySem.W.Frag} {D : Addr} {H H' : Hp} {vs : List V} {qs : List Rat} {us : List V} (hD : H D = some (.lst us)) (b : But D H H') (h : Al K H vs qs) : Al K H' vs qs := by
  have z := bears_al (K := K) (D := D) (qs := qs) qs.length vs H H' (fun o e => ⟨us, by rw [hD] at e; exact (Option.some.inj e).symm⟩) b (by
    show Al K H vs (qs.take qs.length)
    rw [List.take_length]
    exact h)
  have z' : Al K H' vs (qs.take qs.length) := z
  rwa [List.take_length] at z'
/-- a row above one bottom -/
def CD (x y : Nat) (R : List Rat) : Prop := ∃ M : Nat, 0 < M ∧ M < 2 ^ y ∧ ∀ i, ∃ z : Int, z.natAbs < 2 ^ x ∧ cf R i = Rat.divInt z (M : Int)
theorem CD.sz {x y : Nat} {R : List Rat} (h : CD x y R) (i : Nat) : Sz x y (cf R i) := by
  obtain ⟨M, m0, m1, h⟩ := h
  obtain ⟨z, hz, e⟩ := h i
  rw [e]
  exact sz_divInt (by omega) hz (by simpa using m1)
/-- one step of a division -/
def dfac (D R : List Rat) : Rat := cf R (R.length - 1) / cf D (D.length - 1)
def dval (D R : List Rat) (i : Nat) : Rat := if R.length - D.length ≤ i then cf R i - dfac D R * cf D (i - (R.length - D.length)) else cf R i
def dstep (D R : List Rat) : List Rat := upTo (R.length - 1) (dval D R)
def dit (D : List Rat) : Nat → List Rat → List Rat
  | 0, R => R
  | n + 1, R => dit D n (dstep D R)
theorem dstep_len {D R : List Rat} : (dstep D R).length = R.length - 1 := upTo_len
theorem dit_len {D : List Rat} : ∀ (n : Nat) (R : List Rat), (dit D n R).length = R.length - n
  | 0, R => rfl
  | n + 1, R => by
    show (dit D n (dstep D R)).length = _
    rw [dit_len n, dstep_len]
    omega
end Kz
set_option linter.all false
set_option maxRecDepth 100000
set_option maxHeartbeats 4000000
namespace Kz
open PySem PySem.Spec PyProof.Rows L2
section
variable {P : Program} {w : World} {K : PySem.W.Frag} {mg : Str → Option Value} {base : Heap}
theorem poly_made' {cP cR : Addr} {H : Hp} {a : Addr} {us : List V} {qs : List Rat} {n m : Nat} {Q : Addr → Hp → Prop} {E : XK} (hs : Sq K H a us) (al : AlA K H us n m qs) (hm : m ≤ 9000) (len : us.length ≤ 1000)
    (k : ∀ (v : Addr) (H' : Hp) (rs : List Rat), Same H H' → PolyAt K cP H' (.ref v) rs → rs.length ≤ qs.length → (∀ i, cf rs i = cf qs i) → Q v H') :
    ∀ x dx, H x = none → H dx = none → dx ≠ x → spInit K cP cR (.ref x :: ([.ref a] ++ [])) (upd (upd H dx (.own x)) x (.ins cP dx [])) (fun v H2 => v = .non ∧ Q x H2) E := by
  intro x dx nx ndx ne
  exact poly_made (Q := fun v H' => ∃ b, v = .ref b ∧ Q b H') (E := E) hs al hm len (fun v H' rs s p l e => by
    obtain ⟨b, dx, t, ws, rfl, r⟩ := id p
    exact ⟨b, rfl, k b H' rs s p l e⟩) x dx nx ndx ne |> fun h => by
      obtain ⟨x', dx', v', e1, e2, h⟩ := h
      refine ⟨x', dx', v', e1, e2, ?_⟩
      rcases h with ⟨a', us', qs', n', m', f1, f2, f3, f4, f5, f6⟩ | h
      · refine .inl ⟨a', us', qs', n', m', f1, f2, f3, f4, f5, fun H' t ws rs b1 b2 b3 b4 b5 b6 b7 => ?_⟩
        obtain ⟨z1, b, z2, z3⟩ := f6 H' t ws rs b1 b2 b3 b4 b5 b6 b7
        cases z2
        exact ⟨z1, z3⟩
      · exact .inr h
end
end Kz
set_option linter.all false
set_option maxRecDepth 100000
set_option maxHeartbeats 4000000
/-! Operators of own classes: two instances of one class; a built-in value on the left. -/
namespace PySem.W
open PySem PySem.Calls PyProof.Rows
section
variable {prog : Program} {w : World} {A : Around} {E : Value → Shared → Prop} {s : Shared} {K : Frag} {x y C L f : Addr} {h₀ : Heap} {m : Str → Option Value} {ox oy : Obj} {od oe : Option Obj} {T : String}
end
end PySem.W
set_option linter.all false
set_option maxRecDepth 100000
set_option maxHeartbeats 4000000
namespace PySem.W
open PySem PySem.Calls PyProof.Rows
section
variable {prog : Program} {w : World} {A : Around} {E : Value → Shared → Prop} {s : Shared} {y C dx : Addr} {i : Int} {t : Tok} {Q : Value → Shared → Prop}
end
end PySem.W
namespace Kz
open PySem PySem.Spec PyProof.Rows L2
/-- .. and what operators ask of it -/
structure Tw (P : Program) (K : PySem.W.Frag) (mg : Str → Option Value) extends Tz P K mg where
  sfP : PySem.W.selfFirst K cP = true
  nI1 : PySem.W.subIn K (.type "int") (.ref cP) = some false
  nI2 : PySem.W.subIn K (.ref cP) (.type "int") = some false
  nT1 : PySem.W.subIn K (.type "tuple") (.ref cP) = some false
  nT2 : PySem.W.subIn K (.ref cP) (.type "tuple") = some false
section
variable {X : Cx} {P : Program} {w : World} {K : PySem.W.Frag} {mg : Str → Option Value} {base : Heap} {k : Nat} {m q : Str} {stt : Stmt} {sp : Sp} {op : Operator}
end
end Kz
set_option linter.all false
set_option maxRecDepth 100000
set_option maxHeartbeats 4000000
namespace PySem.W
open PySem PySem.Calls PyProof.Rows
section
variable {prog : Program} {w : World} {A : Around} {E : Value → Shared → Prop} {s : Shared} {K : Frag} {x C f g : Addr} {ox : Obj} {od : Option Obj} {T : String}
end
end PySem.W
namespace Kz
open PySem PySem.Spec PyProof.Rows L2
/-- an int, or a tuple -/
def Plain (K : PySem.W.Frag) (H : Hp) (y : V) (T : String) : Prop := (T = "int" ∧ ∃ i, y = .int i) ∨ (T = "tuple" ∧ ∃ a xs, y = .ref a ∧ SqT K H a xs)
theorem Plain.names {K : PySem.W.Frag} {H : Hp} {y : V} {T : String} (h : Plain K H y T) : T = "int" ∨ T = "tuple" := h.elim (fun h => .inl h.1) fun h => .inr h.1
section
variable {X : Cx} {P : Program} {w : World} {K : PySem.W.Frag} {mg : Str → Option Value} {base : Heap} {k : Nat} {m q : Str} {stt : Stmt} {sp : Sp} {op : Operator}
/-- what built-in types have for an operator -/
structure OpT (K : PySem.W.Frag) (op : Operator) (T : String) : Prop where
  ex : ∃ fo ro, PySem.W.findIn K (.type T) (PySem.dunder op.info.2) = some fo ∧ PySem.W.findIn K (.type T) (dunderR op.info.2) = some ro ∧ (T = "tuple" → ((fo.isSome && !isSeqSlot fo) || (ro.isSome && !isSeqSlot ro)) = false)
end
end Kz
set_option linter.all false
set_option maxRecDepth 100000
set_option maxHeartbeats 4000000
namespace Kz
open PySem PySem.Spec PyProof.Rows L2
section
variable {P : Program} {w : World} {K : PySem.W.Frag} {mg : Str → Option Value} {base : Heap}
end
end Kz
set_option linter.all false
set_option maxRecDepth 100000
set_option maxHeartbeats 4000000
namespace Kz
open PySem PySem.Spec PyProof.Rows L2
/-- a value by the numbers from the last one on -/
def hn (f : Nat → Rat) (N : Nat) (x : Rat) : Nat → Rat
  | 0 => 0
  | j + 1 => hn f N x j * x + f (N - 1 - j)
theorem hn_scale {f g : Nat → Rat} {N : Nat} {x L : Rat} (h : ∀ i, g i = f i * L) : ∀ j, hn g N x j = hn f N x j * L
  | 0 => by
    show (0 : Rat) = 0 * L
    rw [Rat.zero_mul]
  | j + 1 => by
    show hn g N x j * x + g (N - 1 - j) = (hn f N x j * x + f (N - 1 - j)) * L
    rw [hn_scale h j, h]
    grind
theorem step_q {t s a b h q x : Rat} (b0 : b ≠ 0) (e : t * b = s * h) (ex : x = a / b) : (t * a + q * s) * b = (s * b) * (h * x + q) := by
  subst ex
  have e2 : h * (a / b) * b = h * a := by grind
  grind
section
variable {P : Program} {w : World} {K : PySem.W.Frag} {mg : Str → Option Value} {base : Heap}
def spAt (K : PySem.W.Frag) (cP cN : Addr) : Sp := fun vs H Q E => ∃ p v qs n m, vs = [p, v] ∧ PolyAt K cP H p qs ∧ SzA n m qs ∧ m ≤ 9000 ∧ n ≤ 300000 ∧ qs.length ≤ 100 ∧ m * qs.length + 2 ≤ 6000 ∧
  ((∃ x α β, ArgQ K H v α β x ∧ 0 < α ∧ α ≤ 1000 ∧ β * qs.length + β ≤ 2900 ∧ ∀ u H', Same H H' → RV K H' u (hn (cf qs) qs.length x qs.length) → Q u H') ∨ (Odd K H v ∧ ErN cN H E "place" v))
abbrev nAt : List Str := ["self", "place", "above", "below", "tops", "bottom", "total", "scale", "top"]
theorem scP10 : FnScope nAt ["self", "place"] (defScope (sP 10)) := ⟨rfl, rfl, rfl, by decide +kernel, rfl, by decide +kernel, by decide +kernel⟩
theorem ok_at (T : Tz P K mg) : FnOk P w K mg base (CX P w) 5 T.p_at.f T.p_at.fd ["self", "place"] (spAt K T.cP T.cN) := by
  have G1 : FnOk P w K mg base CX0 1 T.over_one.f T.over_one.fd ["pairs"] (spOver K) := ok_over T
  have G2 : FnOk P w K mg base (CX P w) 4 T.told.f T.told.fd ["value", "what"] (spTold K T.cN) := ok_told T.toTx
  have G3 : FnOk P w K mg base CX0 1 T.lowest.f T.lowest.fd ["top", "bottom"] (spLow K) := ok_low T.toTx
  refine T.p_at.fn.okX scP10 (fun vs H Q E h => ?_) (fun cdv A outer s H vs Q E hr h => ?_)
  · obtain ⟨p, v, qs, n, m, rfl, _⟩ := h
    rfl
  · obtain ⟨p, v, qs, n, m, rfl, hp, zq, m9, n3, l2, lm, h⟩ := h
    have hr1 : Room 1 _ := hr.mono (by decide)
    have tk := takes_of (X := cxOf (CX P w) P w K mg base nAt "Poly.at" (defScope (sP 10)) T.p_at.f cdv A outer s H E) (E := E) rfl rfl rfl rfl
    refine ⟨_, pss_cons (ps_asg (T.told.cS G2 hr tk (pa_cons (pv 1) (pa_cons pe_str pa_nil))) (pg_tup (by rfl) (pgs_cons (pg_name (i := 2) scP10.nd rfl (.inl rfl)) (pgs_cons (pg_name (i := 3) scP10.nd rfl (.inl rfl)) pgs_nil))))
      (pss_cons (ps_asg (T.over_one.c0 G1 hr1 (pa_cons (pe_fld (pv 0) (by rfl)) pa_nil)) (pg_tup (by rfl) (pgs_cons (pg_name (i := 4) scP10.nd rfl (.inl rfl)) (pgs_cons (pg_name (i := 5) scP10.nd rfl (.inl rfl)) pgs_nil))))
      (pss_cons (ps_set (i := 6) scP10.nd rfl (.inl rfl) pe_int)
      (pss_cons (ps_set (i := 7) scP10.nd rfl (.inl rfl) pe_int)
      (pss_cons (ps_for (passes_of rfl) rfl (pi_reversed (by rfl) T.mRev (pa_cons (pv 4) pa_nil)) (pg_name (i := 8) scP10.nd rfl (.inl rfl))
        (pss_cons (ps_set (i := 6) scP10.nd rfl (.inl rfl) (pe_op op_add (pe_op op_mulW (pv 6) (pv 2)) (pe_op op_mulW (pv 8) (pv 7))))
        (pss_one (ps_set (i := 7) scP10.nd rfl (.inl rfl) (pe_op op_mulW (pv 7) (pv 3))))))
      (pss_one (ps_ret (T.lowest.c0 G3 hr1 (pa_cons (pe_op op_mulW (pv 6) (pv 3)) (pa_cons (pe_op op_mulW (pv 5) (pv 7)) pa_nil))))))))), ?_⟩
    obtain ⟨a, dx, t, ws, rfl, ha, ht, al, tr⟩ := id hp
    rcases h with ⟨x, α, β, aq, α0, α1, bβ, k⟩ | ⟨od, er⟩
    · have β9 : β ≤ 9000 := by omega
      refine ⟨_, rfl, _, _, rfl, .inl ⟨x, α, β, aq, β9, fun v1 H1 s1 rv => ?_⟩⟩
      obtain ⟨t1, rfl, h1⟩ := rv
      refine ⟨t1, _, rfl, h1, rfl, _, _, rfl, _, _, rfl, rfl, ?_⟩
      refine ⟨_, rfl, a, T.cP, dx, _, _, rfl, s1 _ _ ha, T.clP, T.nP, lkN, t, ws, qs, n, m, rfl, Kz.Same.seqT s1 ht, al.same s1, zq, m9, by omega, by omega, by omega, fun p1 l1 H2 s2 hp1 hl1 nl1 => ?_⟩
      refine ⟨p1, _, rfl, hp1, rfl, _, _, rfl, _, _, rfl, rfl, ?_⟩
      have zx := aq.sz
      have ltq : (topsOf qs).length = qs.length := List.length_map _
      have lmt : ((topsOf qs).map V.int).length = qs.length := by rw [List.length_map, ltq]
      have lq := lcs_lt qs zq.mem
      have bq : ∀ k, (ig (topsOf qs) k).natAbs < 2 ^ 310000 := fun k => by
        rcases Nat.lt_or_ge k qs.length with lt | ge
        · rw [ig_at (tops_get lt)]
          have z := zq k lt
          have : ((lcs qs / (cf qs k).den : Nat) : Int).natAbs < 2 ^ (m * qs.length + 1) := Nat.lt_of_le_of_lt (Nat.div_le_self _ _) lq
          exact up_lt (wide_lt z.1 this) (by omega)
        · rw [ig_out (by omega)]
          exact Nat.two_pow_pos _
      have cT : ∀ k, ((ig (topsOf qs) k : Int) : Rat) = cf qs k * (lcs qs : Rat) := fun k => by
        rcases Nat.lt_or_ge k qs.length with lt | ge
        · rw [ig_at (tops_get lt), topOf_eq (lcs_dvd qs _ (mem_cf lt))]
        · rw [ig_out (by omega), cf_out ge, Rat.intCast_zero, Rat.zero_mul]
      have b0 : ((x.den : Int) : Rat) ≠ 0 := fun z => by have := Rat.intCast_eq_zero_iff.mp z; have := x.den_pos; omega
      have ex : x = (x.num : Rat) / ((x.den : Int) : Rat) := by
        have e := Rat.num_divInt_den x
        rw [Rat.divInt_eq_div] at e
        exact e.symm
      refine ⟨_, rfl, l1, _, rfl, SqL.of hl1, RT.for_Itv (K := K) (a := l1) (xs := (topsOf qs).map V.int) (fun j σ H' => H' = H2 ∧ j ≤ qs.length ∧ ∃ (tot sc : Int) (v8 : Option V), σ = [some (.ref a), some v, some (.int x.num), some (.int (x.den : Int)), some (.ref l1), some (.int ((lcs qs : Nat) : Int)), some (.int tot), some (.int sc), v8] ∧
        (tot : Rat) * ((x.den : Int) : Rat) = (sc : Rat) * hn (fun i => ((ig (topsOf qs) i : Int) : Rat)) qs.length x j ∧ tot.natAbs < 2 ^ (310000 + j * (α + β + 1)) ∧ 0 < sc ∧ sc.natAbs < 2 ^ (β * j + 1))
        ⟨rfl, Nat.zero_le _, 0, 1, none, rfl, ?_, by show (0 : Nat) < _; exact Nat.two_pow_pos _, by decide, by show (1 : Nat) < 2 ^ (β * 0 + 1); rw [Nat.mul_zero]; decide⟩ (fun i σ H' ⟨e, _⟩ => e ▸ SqL.of hl1) ?_ ?_⟩
      · show ((0 : Int) : Rat) * _ = ((1 : Int) : Rat) * 0
        rw [Rat.intCast_zero, Rat.zero_mul, Rat.mul_zero]
      · rintro j y σ H' hj hy ⟨rfl, _, tot, sc, v8, rfl, inv, bt, s0, bs⟩
        rw [lmt] at hj hy
        have it := at_ig (ns := topsOf qs) (i := qs.length - 1 - j) (by omega)
        rw [List.getElem?_map, it] at hy
        cases hy
        have m1 : j * (α + β + 1) ≤ 100 * (α + β + 1) := Nat.mul_le_mul_right _ (by omega)
        have m2 : β * j ≤ β * qs.length := Nat.mul_le_mul_left _ (by omega)
        refine ⟨_, rfl, _, rfl, _, _, rfl, rfl, cmulW bt zx.1 (by omega), _, rfl, _, rfl, _, _, rfl, rfl, cmulW (bq _) bs (by omega), _, _, rfl, rfl, ?_⟩
        refine ⟨_, rfl, _, rfl, _, _, rfl, rfl, cmulW bs (den_abs zx) (by omega), rfl, hj, _, _, _, rfl, ?_, ?_, Int.mul_pos s0 (den_pos' x), ?_⟩
        · rw [Rat.intCast_add, Rat.intCast_mul, Rat.intCast_mul, Rat.intCast_mul]
          exact step_q b0 inv ex
        · have h1 := wide_lt bt zx.1
          have h2 := wide_lt (bq (qs.length - 1 - j)) bs
          have h3 := Int.natAbs_add_le (tot * x.num) (ig (topsOf qs) (qs.length - 1 - j) * sc)
          have e : 310000 + (j + 1) * (α + β + 1) = (310000 + j * (α + β + 1) + α + β) + 1 := by rw [Nat.succ_mul]; omega
          have l1' : 2 ^ (310000 + j * (α + β + 1) + α) ≤ 2 ^ (310000 + j * (α + β + 1) + α + β) := pow_up (by omega)
          have l2' : 2 ^ (310000 + (β * j + 1)) ≤ 2 ^ (310000 + j * (α + β + 1) + α + β) := pow_up (by
            have : j * (α + β + 1) = j * (α + 1) + β * j := by rw [Nat.mul_comm β j, ← Nat.mul_add]; congr 1; omega
            omega)
          rw [e, Nat.pow_succ]
          omega
        · have := wide_lt bs (den_abs zx)
          have e : β * (j + 1) + 1 = β * j + 1 + β := by rw [Nat.mul_succ]; omega
          rw [e]
          exact this
      · rintro σ H' ⟨rfl, _, tot, sc, v8, rfl, inv, bt, s0, bs⟩
        rw [lmt] at inv bt bs
        have m1 : qs.length * (α + β + 1) ≤ 100 * (α + β + 1) := Nat.mul_le_mul_right _ l2
        have lp := lcs_pos qs
        have bb : ((lcs qs : Nat) : Int).natAbs < 2 ^ (m * qs.length + 1) := lq
        refine ⟨_, rfl, _, rfl, _, _, rfl, rfl, cmulW bt (den_abs zx) (by omega), ?_⟩
        refine ⟨_, rfl, _, rfl, _, _, rfl, rfl, cmulW bb bs (by rw [Nat.mul_comm β] at *; omega), _, _, rfl, Int.mul_pos (by omega) s0, up_lt (wide_lt bb bs) (by rw [Nat.mul_comm β] at *; omega), fun u H3 s3 ru => k u H3 ((s1.trans s2).trans s3) ?_⟩
        have e : Rat.divInt (tot * (x.den : Int)) (((lcs qs : Nat) : Int) * sc) = hn (cf qs) qs.length x qs.length := by
          have sz : ((sc : Int) : Rat) ≠ 0 := fun z => by have := Rat.intCast_eq_zero_iff.mp z; omega
          have lz : (lcs qs : Rat) ≠ 0 := fun z => by have := Rat.natCast_eq_zero_iff.mp z; omega
          rw [Rat.divInt_eq_div, Rat.intCast_mul, Rat.intCast_mul, inv, hn_scale cT, Rat.intCast_natCast]
          generalize hn (cf qs) qs.length x qs.length = h
          generalize (lcs qs : Rat) = L at lz
          generalize ((sc : Int) : Rat) = S at sz
          grind
        rw [e] at ru
        exact ru
    · exact ⟨_, rfl, _, _, rfl, .inr ⟨od, er⟩⟩
end
end Kz
set_option linter.all false
set_option maxRecDepth 100000
set_option maxHeartbeats 4000000
namespace Kz
open PySem PySem.Spec PyProof.Rows L2
/-- .. and the law's own polynomials -/
structure Tv (P : Program) (K : PySem.W.Frag) (mg : Str → Option Value) extends Tw P K mg where
/-- a list of told ratios -/
def LR (K : PySem.W.Frag) (H : Hp) (v : V) (qs : List Rat) : Prop := ∃ l vs, v = .ref l ∧ H l = some (.lst vs) ∧ Al K H vs qs
theorem LR.same {K : PySem.W.Frag} {H H' : Hp} {v : V} {qs : List Rat} (s : Same H H') (h : LR K H v qs) : LR K H' v qs := by
  obtain ⟨l, vs, e, hl, al⟩ := h
  exact ⟨l, vs, e, s _ _ hl, al.same s⟩
/-- a ratio, a row of them, as data -/
def pdQ (q : Rat) : PyData := .tuple [.int q.num, .int (q.den : Int)]
def pdR (qs : List Rat) : PyData := .list (qs.map pdQ)
theorem RV.dp {K : PySem.W.Frag} {H : Hp} {v : V} {q : Rat} (h : RV K H v q) : Dp K H v (pdQ q) := by
  obtain ⟨t, rfl, h⟩ := h
  exact .tup h (.cons (.int _) (.cons (.int _) .nil))
theorem Al.dp {K : PySem.W.Frag} {H : Hp} : ∀ {vs : List V} {qs : List Rat}, Al K H vs qs → DpAll K H vs (qs.map pdQ)
  | [], [], _ => .nil
  | [], q :: qs, h => by cases h.1
  | v :: vs, [], h => by cases h.1
  | v :: vs, q :: qs, h => .cons (h.2 0 v q rfl rfl).dp (Al.dp ⟨Nat.succ.inj h.1, fun i u r a b => h.2 (i + 1) u r a b⟩)
theorem pdQ_lay (qs : List Rat) : PyData.canLayAll0 (qs.map pdQ) = true ∧ PyData.depthAll (qs.map pdQ) ≤ 1 := by
  induction qs with
  | nil => exact ⟨rfl, Nat.zero_le _⟩
  | cons q qs ih =>
    refine ⟨?_, ?_⟩
    · simp only [List.map_cons, PyData.canLayAll0, ih.1, Bool.and_true]
      rfl
    · simp only [List.map_cons, PyData.depthAll]
      have : (pdQ q).depth = 1 := rfl
      rw [this]
      exact Nat.max_le.mpr ⟨Nat.le_refl _, ih.2⟩
section
variable {P : Program} {w : World} {K : PySem.W.Frag} {mg : Str → Option Value} {base : Heap}
end
end Kz
set_option linter.all false
set_option maxRecDepth 100000
set_option maxHeartbeats 4000000
namespace Kz
open PySem PySem.Spec PyProof.Rows L2
theorem PQ.same {K : PySem.W.Frag} {H H' : Hp} {v : V} {n m : Nat} {q : Rat} (s : Same H H') (h : PQ K H v n m q) : PQ K H' v n m q := by
  obtain ⟨t, a, b, e, ht, r⟩ := h
  exact ⟨t, a, b, e, Kz.Same.seqT s ht, r⟩
section
variable {P : Program} {w : World} {K : PySem.W.Frag} {mg : Str → Option Value} {base : Heap}
end
end Kz
set_option linter.all false
set_option maxRecDepth 100000
set_option maxHeartbeats 4000000
namespace Kz
open PySem PySem.Spec PyProof.Rows L2
/-- a comprehension over two lists side by side -/
theorem lc_mapZ {K : PySem.W.Frag} {a b : Addr} {xs ys : List V} {g : TG} {te : TE} {vs : List Nat} {σ : L2.St} {H1 : Hp} {D : Addr} {Qd : Hp → Prop} (hx : SqL K H1 a xs) (hy : SqL K H1 b ys) (le : xs.length = ys.length) (len : xs.length ≤ 1000) (hD : H1 D = none)
    (R : Nat → List V → Hp → Prop) (br : Bears D R) (h0 : R 0 [] H1)
    (step : ∀ (i : Nat) (x y : V), xs[i]? = some x → ys[i]? = some y → ∀ (acc : List V) (H' : Hp) (Qk : VK) (Z : Hp → Prop) (T : Addr), acc.length = i → R i acc H' → Same H1 H' → H' T = none → (∀ u H4, Same H' H4 → R (i + 1) (acc ++ [u]) H4 → Qk u H4) →
      g (.ref T) (wipe σ vs) (upd H' T (.tup [x, y])) fun σ2 H2 => wipe σ2 vs = wipe σ vs ∧ tYes σ2 H2 fun b H3 => if b = true then te σ2 H3 Qk else Z H3)
    (fin : ∀ acc H', H' D = some (.lst acc) → acc.length = xs.length → R xs.length acc H' → Same H1 H' → Qd H') : ∃ W : Nat → Nat → Hp → Prop, (∃ m, W 0 m (upd H1 D (.lst []))) ∧ ∀ i m H, W i m H →
      ((Itz K a b).stop i H ∧ Qd H) ∨ ((Itz K a b).go i H ∧ ∃ Nx : Hp → Prop, (∀ H', Nx H' → ∃ m', m' < m ∧ W (i + 1) m' H') ∧ ∀ x H', (Itz K a b).yld i H x H' → g x (wipe σ vs) H' fun σ2 H2 => wipe σ2 vs = wipe σ vs ∧ tYes σ2 H2 fun b H3 =>
        if b = true then te σ2 H3 fun y H4 => ∃ acc, H4 D = some (.lst acc) ∧ acc.length < sizeLine ∧ Nx (upd H4 D (.lst (acc ++ [y]))) else Nx H3) := by
  refine ⟨fun i m H => m = xs.length - i ∧ i ≤ xs.length ∧ ∃ acc, H D = some (.lst acc) ∧ acc.length = i ∧ R i acc H ∧ Same H1 H, ⟨_, rfl, Nat.zero_le _, [], upd_same, rfl, br _ _ _ _ (fun o e => by rw [hD] at e; cases e) But.refl.set h0, Same.new hD⟩, ?_⟩
  rintro i m H ⟨rfl, hi, acc, e, l, r, s⟩
  have sx := Same.seq s hx
  have sy := Same.seq s hy
  rcases Nat.lt_or_ge i xs.length with lt | ge
  · right
    have lty : i < ys.length := by omega
    refine ⟨⟨xs, ys, _, _, sx, sy, List.getElem?_eq_getElem lt, List.getElem?_eq_getElem lty⟩, fun H' => i + 1 ≤ xs.length ∧ ∃ acc, H' D = some (.lst acc) ∧ acc.length = i + 1 ∧ R (i + 1) acc H' ∧ Same H1 H', fun H' p => ⟨_, by omega, rfl, p⟩, ?_⟩
    rintro v H' ⟨T, x, y, rfl, nT, rfl, fx, fy⟩
    refine step i x y (fx xs sx) (fy ys sy) acc H _ _ T l r s nT fun u H4 s4 r4 => ⟨acc, s4 _ _ e, le1000 (by omega), lt, acc ++ [u], upd_same, by simp [l], br _ _ _ _ (fun o e4 => ?_) But.refl.set r4, fun c o ec => ?_⟩
    · rw [s4 _ _ e] at e4
      cases e4
      exact ⟨_, rfl⟩
    · rw [upd_ne (ne_of_none ec hD)]
      exact s4 _ _ (s _ _ ec)
  · left
    have ei : i = xs.length := by omega
    subst ei
    exact ⟨⟨xs, ys, sx, sy, .inl (Nat.le_refl _)⟩, fin acc H e l r s⟩
section
variable {P : Program} {w : World} {K : PySem.W.Frag} {mg : Str → Option Value} {base : Heap}
end
end Kz
set_option linter.all false
set_option maxRecDepth 100000
set_option maxHeartbeats 4000000
namespace Kz
open PySem PySem.Spec PyProof.Rows L2
theorem CD.both {x y x' y' : Nat} {qs rs ts : List Rat} (hq : CD x y qs) (hr : CD x' y' rs) (h : ∀ i, cf ts i = cf qs i + cf rs i) : CD (x + y' + x' + y + 1) (y + y') ts := by
  obtain ⟨M, m0, m1, hM⟩ := hq
  obtain ⟨L, n0, n1, hL⟩ := hr
  refine ⟨M * L, Nat.mul_pos m0 n0, by rw [Nat.pow_add]; exact Nat.mul_lt_mul'' m1 n1, fun i => ?_⟩
  obtain ⟨z, hz, e⟩ := hM i
  obtain ⟨z', hz', e'⟩ := hL i
  refine ⟨z * (L : Int) + z' * (M : Int), ?_, ?_⟩
  · have h1 := wide_lt hz (show ((L : Nat) : Int).natAbs < 2 ^ y' from n1)
    have h2 := wide_lt hz' (show ((M : Nat) : Int).natAbs < 2 ^ y from m1)
    have h3 := Int.natAbs_add_le (z * (L : Int)) (z' * (M : Int))
    have l1 : 2 ^ (x + y') ≤ 2 ^ (x + y' + x' + y) := pow_up (by omega)
    have l2 : 2 ^ (x' + y) ≤ 2 ^ (x + y' + x' + y) := pow_up (by omega)
    rw [Nat.pow_succ]
    omega
  · rw [h, e, e', Rat.divInt_add_divInt _ _ (by omega) (by omega), Int.natCast_mul]
section
variable {P : Program} {w : World} {K : PySem.W.Frag} {mg : Str → Option Value} {base : Heap}
end
end Kz
set_option linter.all false
set_option maxRecDepth 100000
set_option maxHeartbeats 4000000
namespace Kz
open PySem PySem.Spec PyProof.Rows L2
section
variable {P : Program} {w : World} {K : PySem.W.Frag} {mg : Str → Option Value} {base : Heap}
end
end Kz
set_option linter.all false
set_option maxRecDepth 100000
set_option maxHeartbeats 4000000
namespace Kz
open PySem PySem.Spec PyProof.Rows L2
section
variable {P : Program} {w : World} {K : PySem.W.Frag} {mg : Str → Option Value} {base : Heap}
end
end Kz
set_option linter.all false
set_option maxRecDepth 100000
set_option maxHeartbeats 4000000
namespace Kz
open PySem PySem.Spec PyProof.Rows L2
section
variable {P : Program} {w : World} {K : PySem.W.Frag} {mg : Str → Option Value} {base : Heap}
/-- a row above its least bottom, and without a common divisor -/
def shf (qs : List Rat) (i : Nat) : Rat := cf qs i * Rat.divInt ((lcs qs : Nat) : Int) ((gI (topsOf qs) : Nat) : Int)
end
end Kz
set_option linter.all false
set_option maxRecDepth 100000
set_option maxHeartbeats 4000000
namespace Kz
open PySem PySem.Spec PyProof.Rows L2
/-- the rows that the law's search for a common divisor goes through: t the rest, s the same made short -/
inductive RunQ : List Rat → List Rat → List Rat → Prop
  | done {r : List Rat} : RunQ r [] r
  | step {r d f : List Rat} {x y c e x' y' : Nat} (t s : List Rat) : CD x y r → CD c e d → 0 < x → 0 < y → x + r.length * (c + 1) ≤ 30000 → y + (r.length + 1 - d.length) * c + c + e + y + (r.length + 1 - d.length) * c ≤ 9000 → c ≤ 9000 → e ≤ 9000 → 0 < d.length → Tr d →
      Tr t → (∀ i, cf t i = cf (dit d (r.length + 1 - d.length) r) i) → CD x' y' t → 0 < x' → 0 < y' → x' + y' ≤ 8900 → Tr s → (∀ i, cf s i = shf t i) → RunQ d s f → RunQ r d f
section
variable {P : Program} {w : World} {K : PySem.W.Frag} {mg : Str → Option Value} {base : Heap}
theorem RunQ.len {r d f : List Rat} (h : RunQ r d f) (hr : r.length ≤ 200) (hd : d.length ≤ 200) : f.length ≤ 200 := by
  induction h with
  | done => exact hr
  | @step r d f _ _ _ _ _ _ t s _ _ _ _ _ _ _ _ d0 td tt et _ _ _ _ ts es _ ih =>
    refine ih hd ?_
    have h1 : t.length ≤ (dit d (r.length + 1 - d.length) r).length := tr_le tt et
    have h2 : s.length ≤ t.length := by
      rcases Nat.lt_or_ge t.length s.length with lt | ge
      · have := ts (s.length - 1) (by omega)
        rw [es] at this
        unfold shf at this
        rw [cf_out (by omega), Rat.zero_mul] at this
        exact absurd rfl this
      · exact ge
    rw [dit_len] at h1
    omega
end
end Kz
set_option linter.all false
set_option maxRecDepth 100000
set_option maxHeartbeats 4000000
namespace Kz
open PySem PySem.Spec PyProof.Rows L2
theorem PolyAt.tr {K : PySem.W.Frag} {cP : Addr} {H : Hp} {v : V} {qs : List Rat} (h : PolyAt K cP H v qs) : Tr qs := by
  obtain ⟨_, _, _, _, _, _, _, _, t⟩ := h
  exact t
section
variable {P : Program} {w : World} {K : PySem.W.Frag} {mg : Str → Option Value} {base : Heap}
/-- the facts of built-in types for + and * -/
structure OpsT (K : PySem.W.Frag) : Prop where
  add : ∀ T, T = "int" ∨ T = "tuple" → OpT K .Add T
  sub : ∀ T, T = "int" ∨ T = "tuple" → OpT K .Sub T
  mul : ∀ T, T = "int" ∨ T = "tuple" → OpT K .Mult T
end
end Kz
set_option linter.all false
set_option maxRecDepth 100000
set_option maxHeartbeats 4000000
/-! enumerate over a tuple. -/
namespace PySem.W
open PySem PySem.Calls PyProof.Rows
theorem kz_enumNew {v : Value} {o : Obj} {G : Heap → Prop} (B : Begins v o G) :
    Meets (Builtin.«enumerate.__new__» ⟨[.type "enumerate", v], []⟩) (fun _ R s => G s.heap ∧
      R (.ok (.ret (.ref (s.heap.push o).objs.size))) { s with heap := (s.heap.push o).push { cls := .type "enumerate", data := .fields #[.none, .bool false, .ref s.heap.objs.size, rawInt 0, .none, .none] } }) :=
  .of_wp fun prog w A R s both => by
    obtain ⟨hq, gq, dq, tq, oq⟩ := s
    obtain ⟨stands, goal⟩ := both
    have isSub := sub_enumerate
    have first : ∀ {A' : Around} {E : Value → Shared → Prop} {Q : Value → Shared → Prop}, Q (.ref hq.objs.size) ⟨hq.push o, gq, dq, tq, oq⟩ → wpAny (model prog w) A' (pyIter v) Q E ⟨hq, gq, dq, tq, oq⟩ :=
      fun q => B.iter prog w _ _ ⟨hq, gq, dq, tq, oq⟩ _ stands q
    wp_walk using first
    refine wpAny_stack_any fun st => wpAny_pure ?_
    split
    · rename_i cl _ _ _ _ _
      cases (cl == Value.type "enumerate")
      · wp_walk using first
        exact ⟨_, rfl, goal⟩
      · wp_walk using first
        exact ⟨_, rfl, goal⟩
    · wp_walk using first
      exact ⟨_, rfl, goal⟩
section
variable {prog : Program} {w : World} {A : Around} {E : Value → Shared → Prop} {s : Shared}
theorem kz_enum {v : Value} {o : Obj} {G : Heap → Prop} {Q : Value → Shared → Prop} (B : Begins v o G) (stands : G s.heap)
    (h : ∀ h', IsEnum h' (s.heap.objs.size + 1) s.heap.objs.size 0 .none → h'.get? s.heap.objs.size = some o → h'.objs.size = s.heap.objs.size + 2 →
      (∀ b u, s.heap.get? b = some u → h'.get? b = some u) → Q (.ref (s.heap.objs.size + 1)) { s with heap := h' }) :
    wpAny (model prog w) A (call (.type "enumerate") [v]) Q E s := by
  refine callType_new PySem.F.called_enumerate (by decide) (PySem.F.typeCall_enumerate_1 _) (PySem.F.newCall_enumerate_1 _) (fun obj => PySem.F.args_object_init_2 obj _) PySem.F.entry_enumerate_new (kz_enumNew B) ⟨stands, ?_⟩
  have size : (s.heap.push o).objs.size = s.heap.objs.size + 1 := Heap.size_push ..
  show _ ∧ _
  rw [size]
  have made : IsEnum ((s.heap.push o).push { cls := .type "enumerate", data := .fields #[.none, .bool false, .ref s.heap.objs.size, rawInt 0, .none, .none] }) (s.heap.objs.size + 1) s.heap.objs.size 0 .none := by
    have z := Heap.get?_push_size (s.heap.push o) (o := { cls := .type "enumerate", data := .fields #[.none, .bool false, .ref s.heap.objs.size, rawInt 0, .none, .none] }) rfl
    rw [size] at z
    exact z
  exact ⟨⟨_, made, rfl⟩, h _ made (Heap.get?_push_of_some _ (Heap.get?_push_size _ B.free)) (by rw [Heap.size_push, size]) fun b u z => Heap.get?_push_of_some _ (Heap.get?_push_of_some _ z)⟩
end
end PySem.W
namespace Kz
open PySem PySem.Spec PyProof.Rows L2
/-- the tuple at a at each turn, each item in a new pair -/
def IteT (K : PySem.W.Frag) (a : Addr) : It :=
  ⟨fun i H => ∃ (xs : List V) (x : V), SqT K H a xs ∧ xs[i]? = some x, fun i H v H' => ∃ T x, v = .ref T ∧ H T = none ∧ H' = upd H T (.tup [.int (i : Nat), x]) ∧ ∀ xs, SqT K H a xs → xs[i]? = some x, fun i H => ∃ xs : List V, SqT K H a xs ∧ xs.length = i⟩
theorem tuple_inj {X : Cx} {pins : List (Addr × Obj)} {σ : L2.St} {H : Hp} {s : Shared} {a : Addr} {xs ys : List V} (I : Inv X pins σ H s) (hx : SqT X.K H a xs) (hy : SqT X.K H a ys) : xs = ys := by
  obtain ⟨its, r, ⟨o, ho, hc, n, hd⟩, _⟩ := I.tuple hx
  obtain ⟨its', r', ⟨o', ho', hc', n', hd'⟩, _⟩ := I.tuple hy
  rw [ho] at ho'
  cases ho'
  rw [hd] at hd'
  have : its = its' := by
    have z := (Data.seq.inj hd').1
    simpa using congrArg Array.toList z
  subst this
  exact Vals.inj r r'
theorem turn_enumT {P : Program} {w : World} {K : PySem.W.Frag} {elts : List Expr} {kk : Nat} {tpos : Pos} (a e it : Addr) :
    Turn P w K (.Tuple elts kk tpos) (IteT K a) [e, it] e (fun i h => (∃ old, IsEnum h e it ((i : Nat) : Int) old) ∧ h.IsTupleIter it a i ∧ e ≠ it ∧ a ≠ it ∧ a ≠ e) where
  mem := by simp
  obj := fun i h st b hb => by
    obtain ⟨⟨old, he⟩, ⟨o, ho, hc, hd⟩, _⟩ := st
    rcases (show b = e ∨ b = it by simpa using hb) with z | z
    · rw [z]
      exact ⟨_, he, fun v q => nomatch q⟩
    · rw [z]
      exact ⟨o, ho, fun v q => by rw [hd] at q; cases q⟩
  keep := fun i h h' st k => by
    obtain ⟨⟨old, he⟩, hi, r⟩ := st
    exact ⟨⟨old, k e (by simp) _ he⟩, hi.at fun o q => k it (by simp) o q, r⟩
  item := by
    intro X hP hw hK hc i pins s σ H E I hf st hg
    subst hP hw hK
    obtain ⟨⟨old, he⟩, hit, hne, ha, hae⟩ := st
    obtain ⟨xs, x, hq, hx⟩ := hg
    obtain ⟨its, rv, p, hz⟩ := I.tuple hq
    obtain ⟨u, hu, ru⟩ := rv.get hx
    have hel : e < s.heap.objs.size := Heap.lt_size he
    have hil : it < s.heap.objs.size := by
      obtain ⟨_, q, _⟩ := hit
      exact Heap.lt_size q
    have isT : s.heap.IsTuple a its.toArray := p
    have lt : i < its.toArray.size := by
      have := (List.getElem?_eq_some_iff.mp hu).1
      simpa using this
    have hef : a ∉ ([] : List Addr) := by simp
    refine wpAny_pyNext_enum_itemD (Draws.tuple (prog := X.prog) (w := X.w) (A := X.A.in1) (I.ok.hd hc) it a ha its.toArray) he ⟨hit, isT⟩ lt hne (fun m => by rcases List.mem_cons.mp m with z | z; exact hne z; exact hae.symm (by simpa using z)) fun u' h' tk eu ho st' hT hsz hk => ?_
    have eq : u' = u := by
      have z : its.toArray[i]? = some u := by simpa using hu
      rw [z] at eu
      exact (Option.some.inj eu).symm
    subst eq
    refine ⟨_, rfl, wpAny_letOwnedTupleGo_enum (s := { s with heap := h', toks := tk + 1 }) ho fun h'' he' sb => ?_⟩
    have hT2 : h''.get? s.heap.objs.size = some { cls := .type "tuple", data := .seq #[.int i tk, u'] } := (sb.2 _ (Nat.ne_of_gt hel)).trans hT
    have new : ObjOk X.prog X.w (upd H s.heap.objs.size (.tup [.int (i : Nat), x])) h'' s.heap.objs.size (.tup [.int (i : Nat), x]) :=
      ⟨by show 2 ≤ sizeLine; decide, [.int i tk, u'], .cons ⟨_, rfl⟩ (.cons ru .nil), ⟨_, hT2, rfl, _, rfl⟩⟩
    have I1 : Inv X pins σ (upd H s.heap.objs.size (.tup [.int (i : Nat), x])) { s with heap := h'', toks := tk + 1 } :=
      I.turnedNew (ch := [e, it]) (fun b ob hb q => (sb.2 b (fun z => hb (by simp [z]))).trans (hk b ob (fun z => hb (by simp [z])) (fun z => hb (by simp [z])) q)) hf (Nat.le_refl _) new
    refine ⟨.ref s.heap.objs.size, _, I1, rfl, ⟨_, x, rfl, I.hok.fresh (Nat.le_refl _), rfl, fun ys hy => by rw [tuple_inj I hy hq]; exact hx⟩, ⟨⟨u', ?_⟩, st'.1.at fun o q => (sb.2 it (Ne.symm hne)).trans q, hne, ha, hae⟩, fun b hb => ?_⟩
    · have e1 : ((i + 1 : Nat) : Int) = (i : Int) + 1 := by omega
      rw [e1]
      exact he'
    · have hb' : b < s.heap.objs.size := by
        rcases (show b = e ∨ b = it by simpa using hb) with z | z
        · rw [z]
          exact hel
        · rw [z]
          exact hil
      rw [upd_ne (Nat.ne_of_lt hb')]
      exact (hf b hb).1
  done := by
    intro X hP hw hK hc i pins s σ H E I hf st hg
    subst hP hw hK
    obtain ⟨⟨old, he⟩, hit, hne, ha, hae⟩ := st
    obtain ⟨xs, hq, hx⟩ := hg
    obtain ⟨its, rv, p, hz⟩ := I.tuple hq
    obtain ⟨f0, f1, f2, f3, f4, f5⟩ := hf it (by simp)
    have len := rv.length
    have isT : s.heap.IsTuple a its.toArray := p
    have ei : i = its.toArray.size := by
      rw [List.size_toArray]
      omega
    subst ei
    exact wpAny_pyNext_enum_endD (Draws.tuple (prog := X.prog) (w := X.w) (A := X.A.in1) (I.ok.hd hc) it a ha its.toArray) he ⟨hit, isT⟩ fun h' eb => ⟨rfl, I.turned (t' := s.toks) (fun b o hb q => eb b o hb q) f0 f1 f3 f4 f5⟩
  self := fun A i s Q E st h => let ⟨⟨_, he⟩, _⟩ := st; wpAny_pyIter_enum he h
def iEnumT (K : PySem.W.Frag) (ta : TA) : TI := fun σ H R => ta σ H fun vs H1 => ∃ a xs, vs = [.ref a] ∧ SqT K H1 a xs ∧ R (IteT K a) H1
theorem pi_enumT {X : Cx} {e : Expr} {ta : TA} {p pos tpos : Pos} {elts : List Expr} {kk : Nat} (hg : Gl X "enumerate") (hm : X.mg "enumerate" = none) (ha : PA X [e] ta) (hs : starEach [e] X.env = [(false, eval e X.env)] := by rfl) :
    PI X (.Tuple elts kk tpos) (.Call (.Name "enumerate" p) [e] [] pos) (iEnumT X.K ta) := by
  refine ⟨fun pins s σ H R I h => ?_⟩
  refine Call_ (ld_blt I hg hm boot_enumerate (PyProof.Rows.callWith_type1 (thn (ha.run pos pins s σ H _ I h) fun us s1 ⟨vs, H1, I1, r1, q1⟩ => ?_) hs rfl))
  obtain ⟨a, xs, ex, hq, q⟩ := q1
  subst ex
  obtain ⟨u, rfl, r⟩ := Vals.one r1
  cases (show u = Value.ref a from r)
  obtain ⟨its, rv, p', hz⟩ := I1.tuple hq
  have isT : s1.heap.IsTuple a its.toArray := p'
  have la : a < s1.heap.objs.size := by
    obtain ⟨o, ho, _⟩ := isT
    exact Heap.lt_size ho
  refine PySem.W.kz_enum (begins_tuple a its.toArray) isT fun h' he hit hsz hk => wpAny_pyIter_enum he ?_
  have I2 : Inv X pins σ H1 { s1 with heap := h' } := I1.kept (t' := s1.toks) hk
  refine ⟨s1.heap.objs.size + 1, [s1.heap.objs.size + 1, s1.heap.objs.size], _, _, H1, rfl, I2, turn_enumT a (s1.heap.objs.size + 1) s1.heap.objs.size, ⟨⟨.none, he⟩, ⟨_, hit, rfl, rfl⟩, Nat.succ_ne_self _, Nat.ne_of_lt la, Nat.ne_of_lt (Nat.lt_succ_of_lt la)⟩, fun b hb => ?_, q⟩
  have hle : s1.heap.objs.size ≤ b := by
    rcases (show b = s1.heap.objs.size + 1 ∨ b = s1.heap.objs.size by simpa using hb) with z | z
    · rw [z]
      exact Nat.le_add_right _ _
    · rw [z]
      exact Nat.le_refl _
  exact I1.fpOk hle (I1.hok.fresh hle)
end Kz
set_option linter.all false
set_option maxRecDepth 100000
set_option maxHeartbeats 4000000
namespace Kz
open PySem PySem.Spec PyProof.Rows L2
theorem cut_drop {vs : List V} : cutV vs (some 1) none = vs.drop 1 := by
  unfold cutV
  rw [HT.sIx_none]
  have e : HT.sIx vs.length 0 (some 1) = min 1 vs.length := rfl
  rw [e]
  rcases Nat.eq_zero_or_pos vs.length with z | z
  · have : vs = [] := List.length_eq_zero_iff.mp z
    subst this
    rfl
  · rw [Nat.min_eq_left z]
    exact List.take_of_length_le (by rw [List.length_drop]; exact Nat.le_refl _)
theorem Al.drop {K : PySem.W.Frag} {H : Hp} {vs : List V} {qs : List Rat} (h : Al K H vs qs) (k : Nat) : Al K H (vs.drop k) (qs.drop k) := by
  refine ⟨by simp [h.1], fun i v' q' a b => ?_⟩
  rw [List.getElem?_drop] at a b
  exact h.2 _ _ _ a b
section
variable {P : Program} {w : World} {K : PySem.W.Frag} {mg : Str → Option Value} {base : Heap}
end
end Kz
set_option linter.all false
set_option maxRecDepth 100000
set_option maxHeartbeats 4000000
namespace Kz
open PySem PySem.Spec PyProof.Rows L2
theorem eqv_pdQ (a b : Rat) : PyData.eqv (pdQ a) (pdQ b) = decide (a = b) := by
  have e : PyData.eqv (pdQ a) (pdQ b) = ((a.num == b.num) && (((a.den : Int) == (b.den : Int)) && true)) := by
    simp [pdQ, PyData.eqv, PyData.eqvAll]
  rw [e, Bool.and_true, Bool.eq_iff_iff, Bool.and_eq_true, beq_iff_eq, beq_iff_eq, decide_eq_true_iff]
  exact ⟨fun h => Rat.ext h.1 (Int.ofNat.inj h.2), fun h => by rw [h]; exact ⟨rfl, rfl⟩⟩
section
variable {P : Program} {w : World} {K : PySem.W.Frag} {mg : Str → Option Value} {base : Heap}
end
end Kz
set_option linter.all false
set_option maxRecDepth 100000
set_option maxHeartbeats 4000000
namespace Kz
open PySem PySem.Spec PyProof.Rows L2
section
variable {X : Cx} {P : Program} {w : World} {K : PySem.W.Frag} {mg : Str → Option Value} {base : Heap} {k : Nat} {q : Str} {stt : Stmt} {sp : Sp}
end
section
variable {X : Cx} {P : Program} {w : World} {K : PySem.W.Frag} {mg : Str → Option Value} {base : Heap}
end
end Kz
set_option linter.all false
set_option maxRecDepth 100000
set_option maxHeartbeats 4000000
namespace Kz
open PySem PySem.Spec PyProof.Rows L2
/-- .. and all the law's other defs -/
structure Tu (P : Program) (K : PySem.W.Frag) (mg : Str → Option Value) extends Tv P K mg where
  l_pen : Df K mg "_law_pen" (top 63) ["_law_script"]
  l_draw : Df K mg "_law_draw" (top 64) ["_law_pen_here", "_law_many"]
  l_pick : Df K mg "_law_pick" (top 65) ["_law_pen_here", "_law_some"]
  nbN : cN ≠ B
  nbR : cR ≠ B
  neRN : cR ≠ cN

/-! ### what a draw leaves as it is -/
section
variable {K : PySem.W.Frag} {H H' : Hp} {p c : Addr} {n : Nat}
theorem Pen.seqT {a : Addr} {xs : List V} (b : But p H H') (pen : Pen H p c n) (h : SqT K H a xs) : SqT K H' a xs := by
  obtain ⟨ns, i, d, m, f, e1, _⟩ := pen
  rcases h with (h | ⟨o, h⟩) | h
  · exact .inl (.inl (b _ _ h (ne_of h e1 (fun z => nomatch z))))
  · exact .inl (.inr ⟨o, b _ _ h (ne_of h e1 (fun z => nomatch z))⟩)
  · exact .inr h
theorem Pen.seqL {a : Addr} {xs : List V} (b : But p H H') (pen : Pen H p c n) (h : SqL K H a xs) : SqL K H' a xs := by
  obtain ⟨ns, i, d, m, f, e1, _⟩ := pen
  rcases h with (h | ⟨o, h⟩) | h
  · exact .inl (.inl (b _ _ h (ne_of h e1 (fun z => nomatch z))))
  · exact .inl (.inr ⟨o, b _ _ h (ne_of h e1 (fun z => nomatch z))⟩)
  · exact .inr h
theorem Pen.sq {a : Addr} {xs : List V} (b : But p H H') (pen : Pen H p c n) (h : Sq K H a xs) : Sq K H' a xs := h.elim (fun h => .inl (pen.seqL b h)) fun h => .inr (pen.seqT b h)
theorem Pen.lst {a : Addr} {xs : List V} (b : But p H H') (pen : Pen H p c n) (h : H a = some (.lst xs)) : H' a = some (.lst xs) := by
  obtain ⟨ns, i, d, m, f, e1, _⟩ := pen
  exact b _ _ h (ne_of h e1 (fun z => nomatch z))
theorem Pen.rv {v : V} {q : Rat} (b : But p H H') (pen : Pen H p c n) (h : RV K H v q) : RV K H' v q := by
  obtain ⟨t, e, h⟩ := h
  exact ⟨t, e, pen.seqT b h⟩
theorem Pen.arg {v : V} {x y : Int} (b : But p H H') (pen : Pen H p c n) (h : Arg K H v x y) : Arg K H' v x y := by
  cases h with
  | int => exact .int
  | two h z => exact .two (pen.sq b h) z
theorem Pen.argQ {v : V} {x y : Nat} {q : Rat} (b : But p H H') (pen : Pen H p c n) (h : ArgQ K H v x y q) : ArgQ K H' v x y q := by
  obtain ⟨s, t, h, r⟩ := h
  exact ⟨s, t, pen.arg b h, r⟩
theorem Pen.al {vs : List V} {qs : List Rat} (b : But p H H') (pen : Pen H p c n) (h : Al K H vs qs) : Al K H' vs qs := ⟨h.1, fun i v q e1 e2 => pen.rv b (h.2 i v q e1 e2)⟩
theorem Pen.alA {vs : List V} {x y : Nat} {qs : List Rat} (b : But p H H') (pen : Pen H p c n) (h : AlA K H vs x y qs) : AlA K H' vs x y qs := ⟨h.1, fun i v q e1 e2 => pen.argQ b (h.2 i v q e1 e2)⟩
theorem Pen.lr {v : V} {qs : List Rat} (b : But p H H') (pen : Pen H p c n) (h : LR K H v qs) : LR K H' v qs := by
  obtain ⟨l, vs, e, hl, al⟩ := h
  exact ⟨l, vs, e, pen.lst b hl, pen.al b al⟩
theorem Pen.poly {cP : Addr} {v : V} {qs : List Rat} (b : But p H H') (pen : Pen H p c n) (h : PolyAt K cP H v qs) : PolyAt K cP H' v qs := by
  obtain ⟨a, dx, t, ws, e, ha, ht, al, tr⟩ := h
  have ea : H' a = some (.ins cP dx [("numbers", .ref t)]) := by
    obtain ⟨ns, i, d, m, f, e1, _⟩ := pen
    exact b _ _ ha (ne_of ha e1 (fun z => nomatch z))
  exact ⟨a, dx, t, ws, e, ea, pen.seqT b ht, pen.al b al, tr⟩
/-- all stands as before but what is at p and the tables of code objects -/
def ButN (p : Addr) (H H' : Hp) : Prop := ∀ b o, H b = some o → b ≠ p → (∀ ps, o ≠ .tbl ps) → H' b = some o
theorem But.toN (b : But p H H') : ButN p H H' := fun a o e n _ => b a o e n
theorem ButN.trans {H1 H2 H3 : Hp} {p : Addr} (a : ButN p H1 H2) (b : ButN p H2 H3) : ButN p H1 H3 := fun c o e n t => b c o (a c o e n t) n t
/-- the heap without what is at p, and without tables -/
def cl (p : Addr) (H : Hp) : Hp := fun b => if b = p then none else match H b with
  | some (.tbl _) => none
  | o => o
theorem cl_some {b : Addr} {o : HO} (e : cl p H b = some o) : b ≠ p ∧ H b = some o ∧ ∀ ps, o ≠ .tbl ps := by
  unfold cl at e
  by_cases n : b = p
  · rw [if_pos n] at e
    cases e
  · rw [if_neg n] at e
    cases h : H b with
    | none =>
      rw [h] at e
      cases e
    | some u =>
      rw [h] at e
      cases u with
      | tbl ps => cases e
      | _ =>
        cases e
        exact ⟨n, rfl, fun ps z => nomatch z⟩
theorem cl_at {b : Addr} {o : HO} (n : b ≠ p) (e : H b = some o) (t : ∀ ps, o ≠ .tbl ps) : cl p H b = some o := by
  unfold cl
  rw [if_neg n, e]
  cases o with
  | tbl ps => exact absurd rfl (t ps)
  | _ => rfl
theorem ButN.cl (b : ButN p H H') : Same (cl p H) (cl p H') := fun a o e => by
  obtain ⟨n, e, t⟩ := cl_some e
  exact cl_at n (b a o e n t) t
theorem But.cl (b : But p H H') : Same (cl p H) (cl p H') := b.toN.cl
theorem cl_sub : Same (Kz.cl p H) H := fun _ _ e => (cl_some e).2.1
/-- what is told of the heap, without p and tables -/
theorem Pen.cT {a : Addr} {xs : List V} (pen : Pen H p c n) (h : SqT K H a xs) : SqT K (Kz.cl p H) a xs := by
  obtain ⟨ns, i, d, m, f, e1, _⟩ := pen
  rcases h with (h | ⟨o, h⟩) | h
  · exact .inl (.inl (cl_at (ne_of h e1 (fun z => nomatch z)) h fun _ z => nomatch z))
  · exact .inl (.inr ⟨o, cl_at (ne_of h e1 (fun z => nomatch z)) h fun _ z => nomatch z⟩)
  · exact .inr h
theorem Pen.cL {a : Addr} {xs : List V} (pen : Pen H p c n) (h : SqL K H a xs) : SqL K (Kz.cl p H) a xs := by
  obtain ⟨ns, i, d, m, f, e1, _⟩ := pen
  rcases h with (h | ⟨o, h⟩) | h
  · exact .inl (.inl (cl_at (ne_of h e1 (fun z => nomatch z)) h fun _ z => nomatch z))
  · exact .inl (.inr ⟨o, cl_at (ne_of h e1 (fun z => nomatch z)) h fun _ z => nomatch z⟩)
  · exact .inr h
theorem Pen.cS {a : Addr} {xs : List V} (pen : Pen H p c n) (h : Sq K H a xs) : Sq K (Kz.cl p H) a xs := h.elim (fun h => .inl (pen.cL h)) fun h => .inr (pen.cT h)
theorem Pen.cRv {v : V} {q : Rat} (pen : Pen H p c n) (h : RV K H v q) : RV K (Kz.cl p H) v q := by
  obtain ⟨t, e, h⟩ := h
  exact ⟨t, e, pen.cT h⟩
theorem Pen.cAl {vs : List V} {qs : List Rat} (pen : Pen H p c n) (h : Al K H vs qs) : Al K (Kz.cl p H) vs qs := ⟨h.1, fun i v q e1 e2 => pen.cRv (h.2 i v q e1 e2)⟩
theorem Pen.cHas {a : Addr} {o : HO} (pen : Pen H p c n) (h : H a = some o) (nd : ∀ kvs, o ≠ .dK kvs) (nt : ∀ ps, o ≠ .tbl ps) : Kz.cl p H a = some o := by
  obtain ⟨ns, i, d, m, f, e1, _⟩ := pen
  exact cl_at (ne_of h e1 (nd _)) h nt
theorem Pen.cLr {v : V} {qs : List Rat} (pen : Pen H p c n) (h : LR K H v qs) : LR K (Kz.cl p H) v qs := by
  obtain ⟨l, vs, e, hl, al⟩ := h
  exact ⟨l, vs, e, pen.cHas hl (fun _ z => nomatch z) (fun _ z => nomatch z), pen.cAl al⟩
theorem Pen.cPoly {cP : Addr} {v : V} {qs : List Rat} (pen : Pen H p c n) (h : PolyAt K cP H v qs) : PolyAt K cP (Kz.cl p H) v qs := by
  obtain ⟨a, dx, t, ws, e, ha, ht, al, tr⟩ := h
  exact ⟨a, dx, t, ws, e, pen.cHas ha (fun _ z => nomatch z) (fun _ z => nomatch z), pen.cT ht, pen.cAl al, tr⟩
theorem Pen.extN (b : ∀ a o, H a = some o → (∀ ps, o ≠ .tbl ps) → H' a = some o) (pen : Pen H p c n) : Pen H' p c n := by
  obtain ⟨ns, i, d, m, f, e1, e2, r⟩ := pen
  exact ⟨ns, i, d, m, f, b _ _ e1 (fun _ z => nomatch z), b _ _ e2 (fun _ z => nomatch z), r⟩
theorem But.ofSame (s : Same H H') : But p H H' := fun b o e _ => s b o e
theorem But.del (b : But p H H') : Same (del H p) (del H' p) := fun a o e => by
  by_cases n : a = p
  · rw [n, del_same] at e
    cases e
  · rw [del_ne n] at e ⊢
    exact b a o e n
end
section
variable {P : Program} {w : World} {K : PySem.W.Frag} {mg : Str → Option Value} {base : Heap}
theorem ok_lpen (T : Tu P K mg) : FnOk P w K mg base CX0 1 T.l_pen.f T.l_pen.fd ["_law_script"] (spPen K) := ok_pen T.l_pen.fn T.blt
theorem ok_lpick (T : Tu P K mg) : FnOk P w K mg base CX0 2 T.l_pick.f T.l_pick.fd ["_law_pen_here", "_law_some"] spPick := ok_pick T.l_pick.fn T.blt T.l_draw.fn T.l_draw.g T.l_draw.b
end
end Kz
set_option linter.all false
set_option maxRecDepth 100000
set_option maxHeartbeats 4000000
namespace Kz
open PySem PySem.Spec PyProof.Rows L2
section
variable {P : Program} {w : World} {K : PySem.W.Frag} {mg : Str → Option Value} {base : Heap}
abbrev nPa : List Str := ["_law_pen_here", "_law_ratio_here", "_law_by"]
/-- a ratio of a small bottom -/
def Rsm (m : Nat) (q : Rat) : Prop := q.den ≤ 99 ∧ q.num.natAbs ≤ m * q.den
theorem Rsm.sz {m : Nat} {q : Rat} (h : Rsm m q) (hm : m ≤ 9) : Sz 10 7 q := by
  have e1 : (2 : Nat) ^ 10 = 1024 := by decide
  have e2 : (2 : Nat) ^ 7 = 128 := by decide
  have : m * q.den ≤ 9 * 99 := Nat.mul_le_mul hm h.1
  have h1 := h.1
  have h2 := h.2
  constructor <;> omega
end
end Kz
set_option linter.all false
set_option maxRecDepth 100000
set_option maxHeartbeats 4000000
namespace Kz
open PySem PySem.Spec PyProof.Rows L2
/-! ### a comprehension that draws -/
section
variable {K : PySem.W.Frag} {a : Addr} {xs : List V} {g : TG} {te : TE} {vs : List Nat} {σ : L2.St} {H1 : Hp} {D p c : Addr} {n0 : Nat} {Qd : Hp → Prop}
end
/-- a pen bears a row that grows -/
theorem bear_pen {D p c : Addr} {n : Nat} {H H' : Hp} (l : ∀ o, H D = some o → ∃ us, o = .lst us) (nc : D ≠ c) (b : But D H H') (h : Pen H p c n) : Pen H' p c n := by
  obtain ⟨ns, i, d, m, f, e1, e2, r⟩ := h
  have np : p ≠ D := fun z => by
    rw [z] at e1
    obtain ⟨us, e⟩ := l _ e1
    cases e
  exact ⟨ns, i, d, m, f, b _ _ e1 np, b _ _ e2 nc.symm, r⟩
theorem bear_rv {K : PySem.W.Frag} {D : Addr} {H H' : Hp} {v : V} {q : Rat} (l : ∀ o, H D = some o → ∃ us, o = .lst us) (b : But D H H') (h : RV K H v q) : RV K H' v q := by
  obtain ⟨t, e, r⟩ := h
  refine ⟨t, e, ?_⟩
  have ne : ∀ {o : HO}, H t = some o → (∀ us, o ≠ .lst us) → t ≠ D := fun {o} e n z => by
    rw [z] at e
    obtain ⟨us, e'⟩ := l _ e
    exact n us e'
  rcases r with (r | ⟨o, r⟩) | r
  · exact .inl (.inl (b _ _ r (ne r (fun us z => nomatch z))))
  · exact .inl (.inr ⟨o, b _ _ r (ne r (fun us z => nomatch z))⟩)
  · exact .inr r
theorem bear_argQ {K : PySem.W.Frag} {D : Addr} {H H' : Hp} {v : V} {x y : Nat} {q : Rat} (l : ∀ o, H D = some o → ∃ us, o = .lst us) (nd : v ≠ .ref D) (b : But D H H') (h : ArgQ K H v x y q) : ArgQ K H' v x y q := by
  obtain ⟨s, t, h, r⟩ := h
  refine ⟨s, t, ?_, r⟩
  cases h with
  | int => exact .int
  | @two a _ _ h z =>
    have na : a ≠ D := fun z => nd (by rw [z])
    refine .two ?_ z
    rcases h with ((h | ⟨o, h⟩) | h) | ((h | ⟨o, h⟩) | h)
    · exact .inl (.inl (.inl (b _ _ h na)))
    · exact .inl (.inl (.inr ⟨o, b _ _ h na⟩))
    · exact .inl (.inr h)
    · exact .inr (.inl (.inl (b _ _ h na)))
    · exact .inr (.inl (.inr ⟨o, b _ _ h na⟩))
    · exact .inr (.inr h)
theorem Rsm.zero {m : Nat} : Rsm m 0 := ⟨by decide, Nat.zero_le _⟩
theorem Al.rows {K : PySem.W.Frag} {H : Hp} {vs : List V} {qs : List Rat} {v : V} {q : Rat} (h : Al K H vs qs) (r : RV K H v q) : Al K H (vs ++ [v]) (qs ++ [q]) := h.snoc r
theorem AlA.snoc {K : PySem.W.Frag} {H : Hp} {vs : List V} {qs : List Rat} {x y : Nat} {v : V} {q : Rat} (h : AlA K H vs x y qs) (r : ArgQ K H v x y q) : AlA K H (vs ++ [v]) x y (qs ++ [q]) := by
  refine ⟨by rw [List.length_append, List.length_append, h.1]; rfl, fun i u t e1 e2 => ?_⟩
  rcases Nat.lt_or_ge i vs.length with lt | ge
  · rw [List.getElem?_append_left lt] at e1
    rw [List.getElem?_append_left (by rw [← h.1]; exact lt)] at e2
    exact h.2 i u t e1 e2
  · have l := (List.getElem?_eq_some_iff.mp e1).1
    rw [List.length_append] at l
    have ei : i = vs.length := by
      have : [v].length = 1 := rfl
      omega
    subst ei
    rw [List.getElem?_append_right (Nat.le_refl _), Nat.sub_self] at e1
    rw [h.1, List.getElem?_append_right (Nat.le_refl _), Nat.sub_self] at e2
    cases e1
    cases e2
    exact r
theorem AlA.nil {K : PySem.W.Frag} {H : Hp} {x y : Nat} : AlA K H [] x y [] := ⟨rfl, fun i u q e _ => by cases e⟩
section
variable {P : Program} {w : World} {K : PySem.W.Frag} {mg : Str → Option Value} {base : Heap}
end
end Kz
set_option linter.all false
set_option maxRecDepth 100000
set_option maxHeartbeats 4000000
namespace Kz
open PySem PySem.Spec PyProof.Rows L2
section
variable {P : Program} {w : World} {K : PySem.W.Frag} {mg : Str → Option Value} {base : Heap}
end
end Kz
set_option linter.all false
set_option maxRecDepth 100000
set_option maxHeartbeats 4000000
namespace Kz
open PySem PySem.Spec PyProof.Rows L2
/-! ### several except clauses, all with one name -/
abbrev Cl := Value × (Addr → Value → Option Addr → TS)
def endN (D : Ends) (i : Nat) : Ends := { nx := fun ρ G => D.nx (ρ.set i none) G, rt := D.rt, bk := fun ρ G => D.bk (ρ.set i none) G, ct := fun ρ G => D.ct (ρ.set i none) G }
def wNm (K : PySem.W.Frag) (Wout : WX) (D : Ends) (i : Nat) : List Cl → WX
  | [] => Wout
  | p :: r => fun cls d ρ G => ∃ b, PySem.W.exmOne K cls p.1 = some b ∧ (b = true → i < ρ.length → ∀ a, G a = none → p.2 a cls d (endN D i) (ρ.set i (some (.ref a))) G) ∧ (b = false → wNm K Wout D i r cls d ρ G)
inductive HdN (X : Cx) (n : Str) : List ExceptHandler → List Cl → Prop
  | nil : HdN X n [] []
  | cons {x : Str} {c : Value} {ts : Addr → Value → Option Addr → TS} {b : Stmt} {bs : List Stmt} {p q : Pos} {hds : List ExceptHandler} {l : List Cl} (nm : Names X x c)
      (su : ∀ (a : Addr) (oe : Obj) (cls : Value) (d : Option Addr) (pn : List (Addr × Obj)), Zc cls d oe → (∃ vs, oe.data = .fields vs) → PSs (X.suite a ((a, oe) :: pn)) (b :: bs) (ts a cls d)) (r : HdN X n hds l) :
      HdN X n (.ExceptHandler (some (.Name x p)) (some n) (b :: bs) q :: hds) ((c, ts) :: l)
section
variable {X : Cx} {body : List Stmt} {h0 : ExceptHandler} {hds : List ExceptHandler} {l : List Cl} {pos : Pos} {tb : WX → TS} {Wout : WX} {i : Nat} {n : Str}
theorem ps_try_named (st : X.stack = X.env :: X.outer) (fr : X.env.frame = some X.env.locals) (nd : X.N.Nodup) (hi : X.N[i]? = some n) (ln : X.env.kindOf n = some .local) (tk : Takes X Wout)
    (hb : ∀ (W : WX) (pn : List (Addr × Obj)) (xe : Value → Shared → Prop), Takes (X.tr pn xe) W → PassesOwn (model X.prog X.w) X.A X.env xe → PSs (X.tr pn xe) body (tb W)) (hh : HdN X n (h0 :: hds) l) :
    PS X (.Try body (h0 :: hds) [] [] pos) (fun D ρ G => tb (wNm X.K Wout D i l) D ρ G) := by
  constructor
  intro pins s ρ G D I want
  have ok := I.ok
  have frames : X.A.frames = some (X.env :: X.outer) := by rw [ok.frames, st]
  refine wpAny_Try_except (wpAny_mono ((hb (wNm X.K Wout D i l) (X.pn ++ pins) (fun e t1 => wpAny (model X.prog X.w) X.A (noteFrame e X.env) (fun _ t2 => wpAny (model X.prog X.w) X.A (setFlight e none) (fun _ t3 => wpAny (model X.prog X.w) X.A (handleBy e X.env (h0 :: hds)) (SP X pins D) X.xe t3) X.xe t2) X.xe t1)
    (fun u s' xx => ?_) PassesOwn.looking).run [] s ρ G D (I.toTry _) want) (fun f s1 done => ?_) fun e s1 he => he)
  · obtain ⟨a, B, sB, pB, ρ', G', cls, d, rfl, JB, nb, up, sky, na, os, ag, wish⟩ := xx
    have J : Inv X pins ρ' G' sB := JB.ofTry ok
    have sky2 : Sky B (X.env :: X.outer) a (Zc cls d) X.env.locals s'.heap := by rw [← st]; exact sky
    show wpAny (model X.prog X.w) X.A (noteFrame (.ref a) X.env) _ _ _
    refine Sky.land Zc.steady frames fr sky2 fun g1 fl up1 => ?_
    have J1 : Inv X pins ρ' G' { s' with heap := g1 } := J.landed nb fl.1 (up.trans up1) os ag
    obtain ⟨o1, v1, at1, z1, d1⟩ := fl.there
    have out : a ∉ frs (X.env :: X.outer) := by
      intro mem
      obtain ⟨_, o2, at2, no⟩ := (fl.2.2.1).mem mem
      rw [at1] at at2
      cases at2
      exact no _ d1
    have aL : a ≠ X.env.locals := by
      intro z
      exact out (List.mem_filterMap.mpr ⟨X.env, List.mem_cons_self, by rw [fr, z]⟩)
    have aF : a ∉ X.fs := by
      intro mem
      obtain ⟨e, me, q⟩ := List.mem_filterMap.mp mem
      exact out (List.mem_filterMap.mpr ⟨e, List.mem_cons_of_mem _ me, q⟩)
    have S1 := J1.suite at1 d1 na aL aF
    have LT : PySem.W.Looks (model X.prog X.w) g1 (typeOf (.ref a)) cls := fun A Q E s k q => wpAny_typeOf_ref (k _ _ at1) (by rw [z1.1]; exact q)
    have all : ∀ {hs' : List ExceptHandler} {l' : List Cl}, HdN X n hs' l' → wNm X.K Wout D i l' cls d ρ' G' → wpAny (model X.prog X.w) X.A (handleBy (.ref a) X.env hs') (SP X pins D) X.xe { s' with heap := g1 } := by
      intro hs' l' hk
      induction hk with
      | nil =>
        intro wish
        refine wpAny_handleBy_nil ?_
        obtain ⟨_, _, _, oe, vs, T, oT, ts', e1, _, e2, e3, _⟩ := id fl
        unfold PySem.passOn
        refine wpAny_bind (wpAny_field e1 e2 e3 ?_)
        rw [if_neg (show ¬ ((Value.ref T == Value.none) = true) by simp)]
        have last : wpAny (model X.prog X.w) X.A (setFlight (.ref a) X.env.frame) (fun _ t4 => wpAny (model X.prog X.w) X.A (throw (.ref a) : Sem Flow) (SP X pins D) X.xe t4) X.xe { s' with heap := g1 } := by
          rw [fr]
          refine HandSPX.setFlight_upZ fl fun g2 fl2 up2 => wpAny_throw (tk _ _ ?_)
          exact ⟨a, B, sB, pins, ρ', G', cls, d, rfl, J, nb, (up.trans up1).trans up2, .inr (.inr (by rw [st]; exact fl2)), na, os, ag, wish⟩
        first | exact wpAny_bind (wpAny_pure (wpAny_bind last)) | exact wpAny_bind last
      | @cons x c ts b bs p q hds2 l2 nm su r ih =>
        intro wish
        obtain ⟨t, ht, yes, no⟩ := wish
        refine wpAny_handleBy_cons (codeAny_handlers_test ?_) (by intro q; cases q)
        have LM := PySem.W.exm_one (M := model X.prog X.w) J1.kIn LT ht
        have load : ∀ {Q E : Value → Shared → Prop}, Q c { s' with heap := g1 } → wpAny (model X.prog X.w) (X.A.mark (some (.ref a))) (eval (.Name x p) X.env) Q E { s' with heap := g1 } := by
          intro Q E q
          obtain ⟨hg, hdb, hm | ⟨hm, hv, hnn⟩⟩ := nm
          · exact ld_glob (X := X.suite a ((a, o1) :: (X.pn ++ pins))) S1 hg hm q hdb
          · exact ld_blt (X := X.suite a ((a, o1) :: (X.pn ++ pins))) S1 hg hm hv q hnn hdb
        refine load (LM.here ?_)
        cases t with
        | false =>
          show wpAny _ X.A (handleBy (.ref a) X.env hds2) _ _ _
          exact ih (no rfl)
        | true =>
          refine codeAny_handlers_suite_as (HandSPX.lands_againZ fl fun g2 fl2 up2 => ?_)
          have J2 : Inv X pins ρ' G' { s' with heap := g2 } := J.landed nb fl2.1 ((up.trans up1).trans up2) os ag
          obtain ⟨o2, v2, at2, z2, d2⟩ := fl2.there
          refine store_ok (X := X.suite a ((a, o2) :: (X.pn ++ pins))) (v := .ref a) (J2.suite at2 d2 na aL aF) nd hi (.inl ln) rfl (fun s5 S5 => ?_) (.inr ln)
          refine wpAny_mono ((su a o2 cls d (X.pn ++ pins) z2 ⟨_, d2⟩).run [] s5 _ G' _ S5 (yes rfl (by rw [J2.len]; exact (List.getElem?_eq_some_iff.mp hi).1) a na)) (fun f s6 done => ?_) fun _ _ z => False.elim z
          have fin : ∀ {ρ6 : L2.St} {G6 : Hp} {Q : Shared → Prop}, Inv (X.suite a ((a, o2) :: (X.pn ++ pins))) [] ρ6 G6 s6 → (∀ s7, Inv X pins (ρ6.set i none) G6 s7 → Q s7) → wpAny (model X.prog X.w) X.A (do bindName X.env n .none; unbindBehindTheSuite X.env n q) (fun _ s7 => Q s7) X.xe s6 :=
            fun S6 hq => gone_ok (S6.unsuite ok) nd hi ln hq
          cases f with
          | ret u =>
            obtain ⟨v6, ρ6, G6, S6, r6, q6⟩ := done
            exact fin S6 fun s7 J7 => ⟨v6, _, G6, J7, r6, q6⟩
          | next =>
            obtain ⟨ρ6, G6, S6, q6⟩ := done
            exact fin S6 fun s7 J7 => ⟨_, G6, J7, q6⟩
          | brk =>
            obtain ⟨ρ6, G6, S6, q6⟩ := done
            exact fin S6 fun s7 J7 => ⟨_, G6, J7, q6⟩
          | cont =>
            obtain ⟨ρ6, G6, S6, q6⟩ := done
            exact fin S6 fun s7 J7 => ⟨_, G6, J7, q6⟩
    exact all hh wish
  · cases f with
    | ret u =>
      obtain ⟨v, ρ1, G1, J1, r, q⟩ := done
      exact ⟨v, ρ1, G1, J1.ofTry ok, r, q⟩
    | next =>
      obtain ⟨ρ1, G1, J1, q⟩ := done
      exact wpAny_execs_nil ⟨ρ1, G1, J1.ofTry ok, q⟩
    | brk =>
      obtain ⟨ρ1, G1, J1, q⟩ := done
      exact ⟨ρ1, G1, J1.ofTry ok, q⟩
    | cont =>
      obtain ⟨ρ1, G1, J1, q⟩ := done
      exact ⟨ρ1, G1, J1.ofTry ok, q⟩
end
/-- a suite that is never reached -/
theorem pss_void {X : Cx} {b : Stmt} {bs : List Stmt} : PSs X (b :: bs) (fun _ _ _ => False) := ⟨fun _ _ _ _ _ _ h => h.elim⟩
/-- repr(x), x any data -/
def rReprA (K : PySem.W.Frag) : List V → Hp → VK → Prop := fun xs H Q => ∃ (v : V) (d : PyData), xs = [v] ∧ Dq K H v d ∧ d.showable = true ∧ d.depth ≤ 60 ∧ d.shown.length ≤ sizeLine ∧ Q (.str d.shown) H
theorem call_reprA {X : Cx} (hg : X.A.guards = some []) (hu : X.A.units + 64 < cLine) : CallR X (.builtin "repr") (rReprA X.K) := by
  intro pins s σ H xs us Q I r h
  obtain ⟨v, d, rfl, hd, hs, hdp, hz, q⟩ := h
  cases v with
  | ref a => exact call_repr hg hu pins s σ H _ us Q I r ⟨a, d, rfl, hd, hs, hdp, hz, q⟩
  | non =>
    cases hd
    obtain ⟨u, rfl, ru⟩ := vals1 r
    cases (show u = Value.none from ru)
    exact PySem.P.repr_of_none ⟨.str "None", H, I.tok _, ⟨_, rfl⟩, q⟩
  | bl b =>
    cases hd
    obtain ⟨u, rfl, ru⟩ := vals1 r
    cases (show u = Value.bool b from ru)
    refine PySem.P.repr_of_bool ⟨.str (if b then "True" else "False"), H, I.tok _, ⟨_, rfl⟩, ?_⟩
    cases b with
    | true => exact q
    | false => exact q
  | int z =>
    cases hd
    obtain ⟨u, rfl, ru⟩ := vals1 r
    obtain ⟨t, rfl⟩ := ru
    have lg : z.natAbs.log2 < 1920 := by
      simp only [PyData.showable] at hs
      exact of_decide_eq_true hs
    exact PySem.P.repr_of_int lg ⟨.str (PyData.int z).shown, H, I.tok _, ⟨_, rfl⟩, q⟩
  | str x =>
    cases hd
    obtain ⟨u, rfl, ru⟩ := vals1 r
    obtain ⟨t, rfl⟩ := ru
    exact PySem.P.repr_of_str ⟨.str (PyData.str x).shown, H, I.tok _, ⟨_, rfl⟩, q⟩ hz
  | flt b => cases hd
  | byt b => cases hd
  | ty b => cases hd
/-- data, or a list of data that stands anywhere -/
def DqT (K : PySem.W.Frag) (H : Hp) (v : V) (d : PyData) : Prop := Dq K H v d ∨ ∃ (a : Addr) (ys : List V) (ds : List PyData), v = .ref a ∧ H a = some (.lst ys) ∧ DqAll K H ys ds ∧ d = .list ds
theorem DqT.same {K : PySem.W.Frag} {H H' : Hp} {v : V} {d : PyData} (s : Same H H') (h : DqT K H v d) : DqT K H' v d := by
  rcases h with h | ⟨a, ys, ds, e, ha, hd, ed⟩
  · exact .inl (h.same s)
  · exact .inr ⟨a, ys, ds, e, s _ _ ha, hd.same s, ed⟩
def rReprT (K : PySem.W.Frag) : List V → Hp → VK → Prop := fun xs H Q => ∃ (v : V) (d : PyData), xs = [v] ∧ DqT K H v d ∧ d.showable = true ∧ d.depth ≤ 60 ∧ d.shown.length ≤ sizeLine ∧ Q (.str d.shown) H
theorem call_reprT {X : Cx} (hg : X.A.guards = some []) (hu : X.A.units + 64 < cLine) : CallR X (.builtin "repr") (rReprT X.K) := by
  intro pins s σ H xs us Q I r h
  obtain ⟨v, d, rfl, hd, hs, hdp, hz, q⟩ := h
  rcases hd with hd | ⟨a, ys, ds, rfl, ha, hds, rfl⟩
  · exact call_reprA hg hu pins s σ H _ us Q I r ⟨v, d, rfl, hd, hs, hdp, hz, q⟩
  · obtain ⟨u, rfl, ru⟩ := vals1 r
    cases (show u = Value.ref a from ru)
    obtain ⟨_, its, n, rv, ho⟩ := (show ObjOk X.prog X.w H s.heap a (.lst _) from I.hok a _ ha)
    obtain ⟨as, rd, hn⟩ := DqAll.reads I hds rv
    have whole : Reads s.heap (.ref a) (.list ds) (a :: as) := .list ho rfl rfl rd
    have hz' : (listText (PyData.shownAll ds)).length ≤ sizeLine := by simpa only [PyData.shown] using hz
    have sa : PyData.showableAll ds = true := by simpa only [PyData.showable] using hs
    obtain ⟨bs, hb, hk⟩ := ReprAllK.of_readsAll (prog := X.prog) (w := X.w) rd sa (fun _ => hn) (fun t ht => Nat.le_trans (listText_mem_le ht) hz')
    have dp : (PyData.list ds).depth = PyData.depthAll ds + 1 := by simp only [PyData.depth]
    have hna : a ∉ bs := not_mem_of_deeper whole (by rw [dp]; omega) hb
    have fin : ∀ (h' : Heap) (t tk : Nat), (∀ b o, s.heap.get? b = some o → h'.get? b = some o) → EP X pins σ Q (.str (PyData.list ds).shown t) { s with heap := h', toks := tk } :=
      fun h' t tk keep => ⟨.str (PyData.list ds).shown, H, I.kept (t' := tk) keep, ⟨t, rfl⟩, q⟩
    refine call_repr_slot (by omega) ⟨_, ho, rfl⟩ F.slot_list_repr.toG ?_
    cases its with
    | nil =>
      cases rd
      refine call_list_repr_empty ⟨_, ho, rfl⟩ ho rfl ⟨_, _, rfl, ?_⟩
      exact fin s.heap _ _ fun _ _ e => e
    | cons x l =>
      refine call_list_reprK ho rfl rfl hna (by simpa using hk.length_eq) (fun i y e => hk.item i y (by simpa using e)) hg (fun b _ => Clear.nil b) (by show X.A.units + 1 + (PyData.depthAll ds + 1) < cLine; omega) (fun _ _ e => e) (fun h' t tk keep => ⟨_, _, rfl, ?_⟩) hz'
      have e : listText (PyData.shownAll ds) = (PyData.list ds).shown := by simp only [PyData.shown]
      rw [e]
      exact fin h' t tk keep
section
variable {K : PySem.W.Frag} {mg : Str → Option Value}
/-- which clause takes an error of an own class -/
theorem ErrT.exm {x y : Str} {B C D : Addr} (T : ErrT K mg x B C) (U : ErrT K mg y B D) (nb : D ≠ B) : PySem.W.exmOne K (.ref C) (.ref D) = some (decide (C = D)) := by
  obtain ⟨cd, e1, e2⟩ := T.mro
  obtain ⟨cd', e1', _⟩ := U.mro
  have m : PySem.W.mroIn K C (.ref D) = some (decide (C = D)) := by
    unfold PySem.W.mroIn
    rw [e1, Option.bind_some, e2]
    by_cases h : C = D
    · subst h
      simp
    · have n2 : ¬ (D = C) := fun z => h z.symm
      simp [n2, nb, h]
  have mD : PySem.W.subIn K (.ref D) (.type "BaseException") = some true := U.xf.exC
  unfold PySem.W.exmOne
  rw [mD]
  have ok : ((PySem.W.clsIn K D).isSome && PySem.W.typeIn K (.ref D) == some (.type "type")) = true := by
    rw [e1', U.o.tyC]
    rfl
  show (if (some true == some true) = true then (if ((PySem.W.clsIn K D).isSome && PySem.W.typeIn K (.ref D) == some (.type "type")) = true then PySem.W.mroIn K C (.ref D) else none) else none) = _
  rw [if_pos (show (some true == some true) = true from rfl), if_pos ok]
  exact m
end
end Kz
set_option linter.all false
set_option maxRecDepth 100000
set_option maxHeartbeats 4000000
namespace Kz
open PySem PySem.Spec PyProof.Rows L2
/-! ### why a call raises, told by the law's own def -/
theorem boot_repr' : bootBuiltins "repr" = some (.builtin "repr") := by decide +kernel
theorem call_reprTK {X : Cx} {K : PySem.W.Frag} (e : X.K = K) (hg : X.A.guards = some []) (hu : X.A.units + 64 < cLine) : CallR X (.builtin "repr") (rReprT K) := e ▸ call_reprT hg hu
theorem k1 : ((("what" : Str)) == (("number" : Str))) = false := by decide +kernel
theorem look1 {x : Str} {v : V} {r : List (Str × V)} : ((x, v) :: r).lookup x = some v := by simp [List.lookup]
theorem look2 {v u : V} : ([(("number" : Str), v), (("what" : Str), u)] : List (Str × V)).lookup ("what" : Str) = some u := by simp [List.lookup, k1]
end Kz
set_option linter.all false
set_option maxRecDepth 100000
set_option maxHeartbeats 4000000
namespace Kz
open PySem PySem.Spec PyProof.Rows L2
/-! ### the law's own broken functions -/
structure Tk (P : Program) (K : PySem.W.Frag) (mg : Str → Option Value) extends Tu P K mg where

/-! ### a comprehension with a test -/
section
variable {K : PySem.W.Frag} {a : Addr} {xs : List V} {g : TG} {tt : TT} {te : TE} {vs : List Nat} {σ : L2.St} {H1 : Hp} {D : Addr} {Qd : Hp → Prop}
end
/-! ### small rows -/
def half : Rat := Rat.divInt 1 2
def mid (q r : Rat) : Rat := (q + r) * half
/-- two pairs told are equal just if the ratios are -/
theorem pdQ_eqv (q r : Rat) : PyData.eqv (pdQ q) (pdQ r) = decide (q = r) := by
  by_cases h : q = r
  · subst h
    rw [decide_eq_true rfl]
    unfold pdQ
    simp [PyData.eqv, PyData.eqvAll]
  · rw [decide_eq_false h]
    unfold pdQ
    have : ¬ (q.num = r.num ∧ q.den = r.den) := fun ⟨a, b⟩ => h (Rat.ext a b)
    simp [PyData.eqv, PyData.eqvAll]
    intro a b
    exact this ⟨a, Int.ofNat_inj.mp b⟩
theorem pdQ_shaped (q : Rat) : SeqAt.shaped (pdQ q) = true := by
  unfold SeqAt.shaped pdQ
  rfl
section
variable {P : Program} {w : World} {K : PySem.W.Frag} {mg : Str → Option Value} {base : Heap}
end
end Kz
set_option linter.all false
set_option maxRecDepth 100000
set_option maxHeartbeats 4000000
namespace Kz
open PySem PySem.Spec PyProof.Rows L2
section
variable {P : Program} {w : World} {K : PySem.W.Frag} {mg : Str → Option Value} {base : Heap}
theorem LR.lst {H : Hp} {v : V} {qs : List Rat} (h : LR K H v qs) : ∃ l vs, v = .ref l ∧ H l = some (.lst vs) ∧ Al K H vs qs := h
theorem cf_mem {qs : List Rat} {i : Nat} (h : i < qs.length) : cf qs i ∈ qs := List.mem_of_getElem? (at_cf h)
end
end Kz
set_option linter.all false
set_option maxRecDepth 100000
set_option maxHeartbeats 4000000
namespace Kz
open PySem PySem.Spec PyProof.Rows L2
/-- ascending, no two alike -/
def Asc (qs : List Rat) : Prop := qs.Pairwise (· < ·)
theorem RV.bear {K : PySem.W.Frag} {D : Addr} {H H' : Hp} {v : V} {q : Rat} {us : List V} (hD : H D = some (.lst us)) (b : But D H H') (h : RV K H v q) : RV K H' v q := (Al.bear hD b (Al.snoc Al.nil h)).2 0 v q rfl rfl
section
variable {P : Program} {w : World} {K : PySem.W.Frag} {mg : Str → Option Value} {base : Heap}
theorem op_neDK {X : Cx} {K' : PySem.W.Frag} (hu : X.A.units + 64 < cLine) (e : X.K = K' := by rfl) : OpR X (compareOp .NotEq) (rNeD K') := by
  subst e
  exact op_neD hu
end
end Kz
set_option linter.all false
set_option maxRecDepth 100000
set_option maxHeartbeats 4000000
namespace Kz
open PySem PySem.Spec PyProof.Rows L2
/-! ### sizes by magnitude -/
/-- below 2 ^ a, with a bottom below 2 ^ m -/
def Mz (a m : Nat) (q : Rat) : Prop := q.num.natAbs < 2 ^ a * q.den ∧ q.den < 2 ^ m
theorem Mz.sz {a m : Nat} {q : Rat} (h : Mz a m q) : Sz (a + m) m q := by
  refine ⟨Nat.lt_trans h.1 ?_, h.2⟩
  rw [Nat.pow_add]
  exact Nat.mul_lt_mul_of_pos_left h.2 (Nat.two_pow_pos a)
theorem mz_divInt {a m : Nat} {t b : Int} (b0 : 0 < b) (h : t.natAbs < 2 ^ a * b.natAbs) (hb : b.natAbs < 2 ^ m) : Mz a m (Rat.divInt t b) := by
  have g0 : 0 < Nat.gcd t.natAbs b.natAbs := Nat.gcd_pos_of_pos_right _ (by omega)
  have e1 := low_num (a := t) b0
  have e2 := low_den (a := t) b0
  have d1 : ((Nat.gcd t.natAbs b.natAbs : Nat) : Int) ∣ t := Int.ofNat_dvd_left.mpr (Nat.gcd_dvd_left _ _)
  have d2 : ((Nat.gcd t.natAbs b.natAbs : Nat) : Int) ∣ b := Int.ofNat_dvd_left.mpr (Nat.gcd_dvd_right _ _)
  rw [Int.fdiv_eq_ediv_of_nonneg _ (Int.natCast_nonneg _)] at e1 e2
  have f1 := Int.ediv_mul_cancel d1
  have f2 := Int.ediv_mul_cancel d2
  rw [e1] at f1
  rw [e2] at f2
  generalize Nat.gcd t.natAbs b.natAbs = g at g0 f1 f2
  generalize Rat.divInt t b = q at f1 f2
  have h1 : t.natAbs = q.num.natAbs * g := by
    rw [← f1, Int.natAbs_mul]
    rfl
  have h2 : b.natAbs = q.den * g := by
    rw [← f2, Int.natAbs_mul]
    rfl
  rw [h1, h2, ← Nat.mul_assoc] at h
  refine ⟨Nat.lt_of_mul_lt_mul_right h, ?_⟩
  have : q.den * 1 ≤ q.den * g := Nat.mul_le_mul_left _ g0
  omega
theorem Mz.up {a m a' m' : Nat} {q : Rat} (h : Mz a m q) (h1 : a ≤ a') (h2 : m ≤ m') : Mz a' m' q :=
  ⟨Nat.lt_of_lt_of_le h.1 (Nat.mul_le_mul_right _ (pow_up h1)), Nat.lt_of_lt_of_le h.2 (pow_up h2)⟩
theorem add_mz {a m a' m' : Nat} {q r : Rat} (x : Mz a m q) (y : Mz a' m' r) : Mz (max a a' + 1) (m + m') (q + r) := by
  have x' := x.up (a' := max a a') (m' := m) (by omega) (Nat.le_refl _)
  have y' := y.up (a' := max a a') (m' := m') (by omega) (Nat.le_refl _)
  rw [← rat_add q r]
  have d1 := den_pos' q
  have d2 := den_pos' r
  refine mz_divInt (Int.mul_pos d1 d2) ?_ (wide_lt (by simpa using x.2) (by simpa using y.2))
  generalize max a a' = A at x' y'
  have e1 : (q.num * (r.den : Int)).natAbs = q.num.natAbs * r.den := by rw [Int.natAbs_mul]; rfl
  have e2 : (r.num * (q.den : Int)).natAbs = r.num.natAbs * q.den := by rw [Int.natAbs_mul]; rfl
  have e3 : ((q.den : Int) * (r.den : Int)).natAbs = q.den * r.den := by rw [Int.natAbs_mul]; rfl
  have q0 : 0 < q.den := by omega
  have r0 : 0 < r.den := by omega
  have l1 : q.num.natAbs * r.den < 2 ^ A * q.den * r.den := Nat.mul_lt_mul_of_pos_right x'.1 r0
  have l2 : r.num.natAbs * q.den < 2 ^ A * r.den * q.den := Nat.mul_lt_mul_of_pos_right y'.1 q0
  rw [Nat.mul_assoc, Nat.mul_comm r.den q.den] at l2
  rw [Nat.mul_assoc] at l1
  rw [e3, Nat.pow_succ, Nat.mul_comm (2 ^ A) 2, Nat.mul_assoc 2]
  generalize 2 ^ A * (q.den * r.den) = Z at l1 l2
  have tri := Int.natAbs_add_le (q.num * (r.den : Int)) (r.num * (q.den : Int))
  omega
theorem mul_mz {a m a' m' : Nat} {q r : Rat} (x : Mz a m q) (y : Mz a' m' r) : Mz (a + a') (m + m') (q * r) := by
  rw [← rat_mul q r]
  refine mz_divInt (Int.mul_pos (den_pos' q) (den_pos' r)) ?_ (wide_lt (by simpa using x.2) (by simpa using y.2))
  rw [Int.natAbs_mul, Int.natAbs_mul, Nat.pow_add]
  have h : q.num.natAbs * r.num.natAbs < (2 ^ a * q.den) * (2 ^ a' * r.den) := Nat.mul_lt_mul'' x.1 y.1
  have e : (2 ^ a * q.den) * (2 ^ a' * r.den) = 2 ^ a * 2 ^ a' * (q.den * r.den) := by
    rw [Nat.mul_assoc, Nat.mul_left_comm q.den, ← Nat.mul_assoc, ← Nat.mul_assoc (2 ^ a * 2 ^ a')]
  rw [e] at h
  exact h
theorem mz_zero {a m : Nat} (hm : 0 < m) : Mz a m 0 := ⟨Nat.mul_pos (Nat.two_pow_pos a) Nat.one_pos, Nat.one_lt_two_pow (by omega)⟩
/-- a polynomial whose numbers but the first are small, at a place -/
theorem hn_mz {f : Nat → Rat} {N : Nat} {x : Rat} {α β a m a0 m0 : Nat} (zx : Mz α β x) (zf : ∀ i, Mz a m (f (i + 1))) (z0 : Mz a0 m0 (f 0)) (ha : a ≤ α) (b0 : a ≤ a0) (h : 0 < N) :
    ∀ j, (j < N → Mz (j * (α + 1)) (1 + j * (β + m)) (hn f N x j)) ∧ (j + 1 = N → Mz (max (j * (α + 1) + α) a0 + 1) (1 + j * (β + m) + β + m0) (hn f N x N))
  | 0 => ⟨fun _ => mz_zero (by omega), fun e => by
      subst e
      have : hn f 1 x 1 = f 0 := by
        show (0 : Rat) * x + f 0 = f 0
        rw [Rat.zero_mul, Rat.zero_add]
      rw [this]
      exact z0.up (by omega) (by omega)⟩
  | j + 1 => by
    have ih := hn_mz (N := N) zx zf z0 ha b0 h j
    refine ⟨fun lt => ?_, fun e => ?_⟩
    · have z := ih.1 (by omega)
      show Mz _ _ (hn f N x j * x + f (N - 1 - j))
      obtain ⟨i, e⟩ : ∃ i, N - 1 - j = i + 1 := ⟨N - 1 - j - 1, by omega⟩
      rw [e]
      refine (add_mz (mul_mz z zx) (zf i)).up ?_ ?_
      · rw [Nat.succ_mul]
        omega
      · rw [Nat.succ_mul]
        omega
    · have z : Mz ((j + 1) * (α + 1)) (1 + (j + 1) * (β + m)) (hn f N x (j + 1)) := by
        have z := ih.1 (by omega)
        show Mz _ _ (hn f N x j * x + f (N - 1 - j))
        obtain ⟨i, e⟩ : ∃ i, N - 1 - j = i + 1 := ⟨N - 1 - j - 1, by omega⟩
        rw [e]
        refine (add_mz (mul_mz z zx) (zf i)).up ?_ ?_
        · rw [Nat.succ_mul]
          omega
        · rw [Nat.succ_mul]
          omega
      subst e
      show Mz _ _ (hn f (j + 1 + 1) x (j + 1) * x + f (j + 1 + 1 - 1 - (j + 1)))
      rw [show j + 1 + 1 - 1 - (j + 1) = 0 by omega]
      exact (add_mz (mul_mz z zx) z0).up (by omega) (by omega)
end Kz
set_option linter.all false
set_option maxRecDepth 100000
set_option maxHeartbeats 4000000
namespace Kz
open PySem PySem.Spec PyProof.Rows L2
/-! ### functions, as the law has them -/
/-- a list of rows -/
def LRR (K : PySem.W.Frag) (H : Hp) (v : V) (ps : List (List Rat)) : Prop := ∃ l vs, v = .ref l ∧ H l = some (.lst vs) ∧ vs.length = ps.length ∧ ∀ (i : Nat) (u : V) (p : List Rat), vs[i]? = some u → ps[i]? = some p → LR K H u p
theorem LRR.same {K : PySem.W.Frag} {H H' : Hp} {v : V} {ps : List (List Rat)} (s : Same H H') (h : LRR K H v ps) : LRR K H' v ps := by
  obtain ⟨l, vs, e, hl, n, al⟩ := h
  exact ⟨l, vs, e, s _ _ hl, n, fun i u p a b => (al i u p a b).same s⟩
/-- a function: its knots, its pieces, its numbers -/
def FnV (K : PySem.W.Frag) (H : Hp) (v : V) (ks : List Rat) (ps : List (List Rat)) (as : List Rat) : Prop := ∃ t a b c, v = .ref t ∧ SqT K H t [a, b, c] ∧ LR K H a ks ∧ LRR K H b ps ∧ LR K H c as
theorem FnV.same {K : PySem.W.Frag} {H H' : Hp} {v : V} {ks as : List Rat} {ps : List (List Rat)} (s : Same H H') (h : FnV K H v ks ps as) : FnV K H' v ks ps as := by
  obtain ⟨t, a, b, c, e, ht, h1, h2, h3⟩ := h
  exact ⟨t, a, b, c, e, Kz.Same.seqT s ht, h1.same s, h2.same s, h3.same s⟩
/-- sizes -/
structure Fsz (ks : List Rat) (ps : List (List Rat)) : Prop where
  len : ks.length = ps.length + 1
  few : ps.length ≤ 8
  one : 0 < ps.length
  asc : Asc ks
  zk : ∀ q ∈ ks, Mz 20 40 q
  zp : ∀ p ∈ ps, (∀ i, Mz 4 12 (cf p (i + 1))) ∧ Mz 60 900 (cf p 0) ∧ Tr p ∧ p.length ≤ 6
/-- x lies strictly within the piece k -/
def Within (ks : List Rat) (x : Rat) (k : Nat) : Prop := cf ks k < x ∧ x < cf ks (k + 1)
instance {ks : List Rat} {x : Rat} {k : Nat} : Decidable (Within ks x k) := by unfold Within; infer_instance
def pv' (ps : List (List Rat)) (k : Nat) : List Rat := ps.getD k []
theorem pv_at {ps : List (List Rat)} {k : Nat} (h : k < ps.length) : ps[k]? = some (pv' ps k) := by
  unfold pv'
  rw [List.getD_eq_getElem?_getD, List.getElem?_eq_getElem h]
  rfl
theorem pv_mem {ps : List (List Rat)} {k : Nat} (h : k < ps.length) : pv' ps k ∈ ps := List.mem_of_getElem? (pv_at h)
/-- the value of a row at a place -/
def ev (p : List Rat) (x : Rat) : Rat := hn (cf p) p.length x p.length
section
variable {P : Program} {w : World} {K : PySem.W.Frag} {mg : Str → Option Value} {base : Heap}
theorem LRR.len {H : Hp} {v : V} {ps : List (List Rat)} (h : LRR K H v ps) : ∃ l vs, v = .ref l ∧ H l = some (.lst vs) ∧ vs.length = ps.length := by
  obtain ⟨l, vs, e, hl, n, _⟩ := h
  exact ⟨l, vs, e, hl, n⟩
theorem Fsz.all {ks : List Rat} {ps : List (List Rat)} (F : Fsz ks ps) {p : List Rat} (h : p ∈ ps) : ∀ i, Mz 60 900 (cf p i)
  | 0 => (F.zp p h).2.1
  | i + 1 => ((F.zp p h).1 i).up (by decide) (by decide)
theorem Fsz.kz {ks : List Rat} {ps : List (List Rat)} (F : Fsz ks ps) {i : Nat} (h : i < ks.length) : Sz 60 40 (cf ks i) := (F.zk _ (cf_mem h)).sz
end
end Kz
set_option linter.all false
set_option maxRecDepth 100000
set_option maxHeartbeats 4000000
namespace Kz
open PySem PySem.Spec PyProof.Rows L2
/-- y is the value at x -/
def Vat (ks : List Rat) (ps : List (List Rat)) (as : List Rat) (x y : Rat) : Prop := (∃ k, k < ps.length ∧ Within ks x k ∧ y = ev (pv' ps k) x) ∨ (∃ k, k < ks.length ∧ cf ks k = x ∧ y = cf as k)
theorem asc_lt {ks : List Rat} (h : Asc ks) {i j : Nat} (ij : i < j) (hj : j < ks.length) : cf ks i < cf ks j := by
  have z := (List.pairwise_iff_getElem.mp h) i j (by omega) hj ij
  rw [cf_at (List.getElem?_eq_getElem (show i < ks.length by omega)), cf_at (List.getElem?_eq_getElem hj)]
  exact z
theorem asc_inj {ks : List Rat} (h : Asc ks) {i j : Nat} (hi : i < ks.length) (hj : j < ks.length) (e : cf ks i = cf ks j) : i = j := by
  rcases Nat.lt_trichotomy i j with c | c | c
  · have := asc_lt h c hj
    rw [e] at this
    exact absurd this (Rat.lt_irrefl)
  · exact c
  · have := asc_lt h c hi
    rw [e] at this
    exact absurd this (Rat.lt_irrefl)
section
variable {P : Program} {w : World} {K : PySem.W.Frag} {mg : Str → Option Value} {base : Heap}
theorem Fsz.pz {ks : List Rat} {ps : List (List Rat)} (F : Fsz ks ps) {k : Nat} (h : k < ps.length) : SzA 960 900 (pv' ps k) ∧ Tr (pv' ps k) ∧ (pv' ps k).length ≤ 6 := by
  obtain ⟨_, _, b, c⟩ := F.zp _ (pv_mem h)
  exact ⟨fun i _ => (F.all (pv_mem h) i).sz, b, c⟩
theorem pdQ_at {ks : List Rat} {k : Nat} (h : k < ks.length) : (ks.map pdQ)[k]? = some (pdQ (cf ks k)) := by
  rw [List.getElem?_map, at_cf h]
  rfl
end
end Kz
set_option linter.all false
set_option maxRecDepth 100000
set_option maxHeartbeats 4000000
namespace Kz
open PySem PySem.Spec PyProof.Rows L2
/-- the limits at a knot -/
def limL (ks : List Rat) (ps : List (List Rat)) (k : Nat) : List Rat := if 0 < k then [ev (pv' ps (k - 1)) (cf ks k)] else []
def limR (ks : List Rat) (ps : List (List Rat)) (k : Nat) : List Rat := if k < ps.length then [ev (pv' ps k) (cf ks k)] else []
def lims (ks : List Rat) (ps : List (List Rat)) (k : Nat) : List Rat := limL ks ps k ++ limR ks ps k
section
variable {P : Program} {w : World} {K : PySem.W.Frag} {mg : Str → Option Value} {base : Heap}
end
end Kz
set_option linter.all false
set_option maxRecDepth 100000
set_option maxHeartbeats 4000000
namespace Kz
open PySem PySem.Spec PyProof.Rows L2
theorem lims_mem {ks : List Rat} {ps : List (List Rat)} {k : Nat} {q : Rat} (h : q ∈ lims ks ps k) (l : ks.length = ps.length + 1) (hk : k < ks.length) : ∃ j, j < ps.length ∧ q = ev (pv' ps j) (cf ks k) := by
  rcases List.mem_append.mp h with h | h
  · unfold limL at h
    by_cases c : 0 < k
    · rw [if_pos c, List.mem_singleton] at h
      exact ⟨k - 1, by omega, h⟩
    · rw [if_neg c] at h
      cases h
  · unfold limR at h
    by_cases c : k < ps.length
    · rw [if_pos c, List.mem_singleton] at h
      exact ⟨k, c, h⟩
    · rw [if_neg c] at h
      cases h
theorem ev_mz2 {p : List Rat} {x : Rat} {α β : Nat} (zx : Mz α β x) (ha : 4 ≤ α) (zp : ∀ i, Mz 4 12 (cf p (i + 1))) (z0 : Mz 60 900 (cf p 0)) (l : p.length ≤ 6) : Mz (6 * (α + 1) + 60) (1 + 5 * (β + 12) + β + 900) (ev p x) := by
  unfold ev
  rcases Nat.eq_zero_or_pos p.length with e | h
  · rw [e]
    exact mz_zero (by omega)
  · have z := (hn_mz (N := p.length) zx zp z0 ha (by decide) h (p.length - 1)).2 (by omega)
    have l1 : (p.length - 1) * (α + 1) ≤ 5 * (α + 1) := Nat.mul_le_mul_right _ (by omega)
    have l2 : (p.length - 1) * (β + 12) ≤ 5 * (β + 12) := Nat.mul_le_mul_right _ (by omega)
    exact z.up (by omega) (by omega)
theorem Fsz.lim {ks : List Rat} {ps : List (List Rat)} (F : Fsz ks ps) {k : Nat} (hk : k < ks.length) {q : Rat} (h : q ∈ lims ks ps k) : Mz 186 1201 q := by
  obtain ⟨j, hj, rfl⟩ := lims_mem h F.len hk
  obtain ⟨a, b, _, c⟩ := F.zp _ (pv_mem hj)
  exact (ev_mz2 (F.zk _ (cf_mem hk)) (by decide) a b c).up (by decide) (by decide)
theorem lims_len {ks : List Rat} {ps : List (List Rat)} {k : Nat} : (lims ks ps k).length ≤ 2 := by
  unfold lims limL limR
  rw [List.length_append]
  by_cases c : 0 < k <;> by_cases d : k < ps.length <;> simp [c, d]
/-- whether some limit is above, below the number at its knot -/
def abv (ks : List Rat) (ps : List (List Rat)) (as : List Rat) (n : Nat) : Bool := (List.range n).any fun k => (lims ks ps k).any fun q => decide (cf as k < q)
def blw (ks : List Rat) (ps : List (List Rat)) (as : List Rat) (n : Nat) : Bool := (List.range n).any fun k => (lims ks ps k).any fun q => decide (q < cf as k)
section
variable {P : Program} {w : World} {K : PySem.W.Frag} {mg : Str → Option Value} {base : Heap}
end
end Kz
set_option linter.all false
set_option maxRecDepth 100000
set_option maxHeartbeats 4000000
namespace Kz
open PySem PySem.Spec PyProof.Rows L2
section
variable {P : Program} {w : World} {K : PySem.W.Frag} {mg : Str → Option Value} {base : Heap}
end
end Kz
set_option linter.all false
set_option maxRecDepth 100000
set_option maxHeartbeats 4000000
namespace Kz
open PySem PySem.Spec PyProof.Rows L2
/-- a function cut at more knots -/
structure CutOf (ks : List Rat) (ps : List (List Rat)) (as qs : List Rat) (ps' : List (List Rat)) (as' : List Rat) : Prop where
  len : qs.length = ps'.length + 1
  lat : as'.length = qs.length
  pc : ∀ i, i < ps'.length → ∃ k, k < ps.length ∧ Within ks (mid (cf qs i) (cf qs (i + 1))) k ∧ pv' ps' i = pv' ps k
  at_ : ∀ i, i < qs.length → Vat ks ps as (cf qs i) (cf as' i)
theorem LRR.snoc {K : PySem.W.Frag} {H : Hp} {l : Addr} {vs : List V} {ps : List (List Rat)} {u : V} {p : List Rat} (n : vs.length = ps.length) (al : ∀ (i : Nat) (u : V) (p : List Rat), vs[i]? = some u → ps[i]? = some p → LR K H u p) (h : LR K H u p) :
    (vs ++ [u]).length = (ps ++ [p]).length ∧ ∀ (i : Nat) (u' : V) (p' : List Rat), (vs ++ [u])[i]? = some u' → (ps ++ [p])[i]? = some p' → LR K H u' p' := by
  refine ⟨by simp [n], fun i u' p' e1 e2 => ?_⟩
  rcases Nat.lt_or_ge i vs.length with c | c
  · rw [List.getElem?_append_left c] at e1
    rw [List.getElem?_append_left (by omega)] at e2
    exact al i u' p' e1 e2
  · rw [List.getElem?_append_right c] at e1
    rw [List.getElem?_append_right (by omega)] at e2
    rw [n] at e1
    cases hj : i - ps.length with
    | zero =>
      rw [hj] at e1 e2
      cases e1
      cases e2
      exact h
    | succ j =>
      rw [hj] at e1
      cases e1
theorem LR.bear {K : PySem.W.Frag} {D : Addr} {H H' : Hp} {v : V} {qs : List Rat} {us : List V} (hD : H D = some (.lst us)) (b : But D H H') (h : LR K H v qs) (nD : v ≠ .ref D) : LR K H' v qs := by
  obtain ⟨l, vs, e, hl, al⟩ := h
  exact ⟨l, vs, e, b _ _ hl (fun z => nD (by rw [e, z])), Al.bear hD b al⟩
section
variable {P : Program} {w : World} {K : PySem.W.Frag} {mg : Str → Option Value} {base : Heap}
end
end Kz
set_option linter.all false
set_option maxRecDepth 100000
set_option maxHeartbeats 4000000
namespace Kz
open PySem PySem.Spec PyProof.Rows L2
/-- a stretch, and the places on it -/
structure Iv (x wd : Rat) : Prop where
  pos : 0 < wd
  zx : Mz 4 7 x
  zw : Mz 5 14 wd
  zh : Mz 5 10 (x + wd)
  zt : ∀ t b : Int, 0 ≤ t → t ≤ b → 0 < b → b ≤ 24 → Mz 8 19 (x + wd * Rat.divInt t b)
section
variable {P : Program} {w : World} {K : PySem.W.Frag} {mg : Str → Option Value} {base : Heap}
/-- a twelfth of the stretch, some times, from x on -/
def Twf (x wd q : Rat) : Prop := ∃ j : Nat, q = x + wd * Rat.divInt (j : Int) 12
/-- knots that are drawn: ascending, from low to high, both among them -/
structure Kn (x wd : Rat) (m : Nat) (rs : List Rat) : Prop where
  asc : Asc rs
  lo : x ∈ rs
  hi : x + wd ∈ rs
  in_ : ∀ q ∈ rs, x ≤ q ∧ q ≤ x + wd ∧ Mz 8 19 q
  two : 2 ≤ rs.length
  few : rs.length ≤ m + 2
  frm : ∀ q ∈ rs, Twf x wd q
end
end Kz
set_option linter.all false
set_option maxRecDepth 100000
set_option maxHeartbeats 4000000
namespace Kz
open PySem PySem.Spec PyProof.Rows L2
/-- all but the pen and one list stay -/
def B2 (p g : Addr) (H H' : Hp) : Prop := ∀ c o, H c = some o → c ≠ p → c ≠ g → H' c = some o
theorem B2.refl {p g : Addr} {H : Hp} : B2 p g H H := fun _ _ e _ _ => e
theorem B2.trans {p g : Addr} {H H1 H2 : Hp} (a : B2 p g H H1) (b : B2 p g H1 H2) : B2 p g H H2 := fun c o e n1 n2 => b c o (a c o e n1 n2) n1 n2
theorem B2.but {p g : Addr} {H H1 H2 : Hp} (a : B2 p g H H1) (b : But p H1 H2) : B2 p g H H2 := fun c o e n1 n2 => b c o (a c o e n1 n2) n1
theorem B2.set {p g : Addr} {H H1 : Hp} {o : HO} (a : B2 p g H H1) : B2 p g H (upd H1 g o) := fun c u e n1 n2 => by
  rw [upd_ne n2]
  exact a c u e n1 n2
section
variable {K : PySem.W.Frag} {H H' : Hp} {p g c : Addr} {n : Nat} {us : List V}
theorem B2.rv {v : V} {q : Rat} (pen : Pen H p c n) (hg : H g = some (.lst us)) (b : B2 p g H H') (h : RV K H v q) : RV K H' v q := by
  obtain ⟨t, e, r⟩ := h
  obtain ⟨ns, i, d, m, f, e1, _⟩ := pen
  refine ⟨t, e, ?_⟩
  have np : ∀ {o : HO}, H t = some o → (∀ kvs, o ≠ .dK kvs) → t ≠ p := fun {o} e u z => by
    rw [z, e1] at e
    exact u _ (Option.some.inj e).symm
  have ng : ∀ {o : HO}, H t = some o → (∀ us, o ≠ .lst us) → t ≠ g := fun {o} e u z => by
    rw [z, hg] at e
    exact u _ (Option.some.inj e).symm
  rcases r with (r | ⟨o, r⟩) | r
  · exact .inl (.inl (b _ _ r (np r fun _ z => nomatch z) (ng r fun _ z => nomatch z)))
  · exact .inl (.inr ⟨o, b _ _ r (np r fun _ z => nomatch z) (ng r fun _ z => nomatch z)⟩)
  · exact .inr r
theorem B2.al {vs : List V} {qs : List Rat} (pen : Pen H p c n) (hg : H g = some (.lst us)) (b : B2 p g H H') (h : Al K H vs qs) : Al K H' vs qs := ⟨h.1, fun i v q e1 e2 => b.rv pen hg (h.2 i v q e1 e2)⟩
theorem B2.lr {v : V} {qs : List Rat} (pen : Pen H p c n) (hg : H g = some (.lst us)) (b : B2 p g H H') (h : LR K H v qs) (nv : v ≠ .ref g) : LR K H' v qs := by
  obtain ⟨l, vs, e, hl, al⟩ := h
  exact ⟨l, vs, e, b _ _ hl (pen.off hl fun _ z => nomatch z) (fun z => nv (by rw [e, z])), b.al pen hg al⟩
/-- rows, none of which is at g -/
def Rows (K : PySem.W.Frag) (g : Addr) (H : Hp) (vs : List V) (ps : List (List Rat)) : Prop := vs.length = ps.length ∧ ∀ (i : Nat) (u : V) (p : List Rat), vs[i]? = some u → ps[i]? = some p → LR K H u p ∧ u ≠ .ref g
theorem Rows.nil {H : Hp} : Rows K g H [] [] := ⟨rfl, fun _ _ _ e => by cases e⟩
theorem Rows.same {vs : List V} {ps : List (List Rat)} (s : Same H H') (h : Rows K g H vs ps) : Rows K g H' vs ps := ⟨h.1, fun i u p a b => ⟨(h.2 i u p a b).1.same s, (h.2 i u p a b).2⟩⟩
theorem Rows.b2 {vs : List V} {ps : List (List Rat)} (pen : Pen H p c n) (hg : H g = some (.lst us)) (b : B2 p g H H') (h : Rows K g H vs ps) : Rows K g H' vs ps := ⟨h.1, fun i u p a d => ⟨b.lr pen hg (h.2 i u p a d).1 (h.2 i u p a d).2, (h.2 i u p a d).2⟩⟩
theorem Rows.snoc {vs : List V} {ps : List (List Rat)} {u : V} {p : List Rat} (h : Rows K g H vs ps) (r : LR K H u p) (nu : u ≠ .ref g) : Rows K g H (vs ++ [u]) (ps ++ [p]) := by
  have n := h.1
  refine ⟨by simp [n], fun i u' p' e1 e2 => ?_⟩
  rcases Nat.lt_or_ge i vs.length with c | c
  · rw [List.getElem?_append_left c] at e1
    rw [List.getElem?_append_left (by omega)] at e2
    exact h.2 i u' p' e1 e2
  · rw [List.getElem?_append_right c] at e1
    rw [List.getElem?_append_right (by omega)] at e2
    rw [n] at e1
    cases hj : i - ps.length with
    | zero =>
      rw [hj] at e1 e2
      cases e1
      cases e2
      exact ⟨r, nu⟩
    | succ j =>
      rw [hj] at e1
      cases e1
theorem Rows.lrr {vs : List V} {ps : List (List Rat)} {l : Addr} (h : Rows K g H vs ps) (hl : H l = some (.lst vs)) : LRR K H (.ref l) ps := ⟨l, vs, rfl, hl, h.1, fun i u p a b => (h.2 i u p a b).1⟩
end
end Kz
set_option linter.all false
set_option maxRecDepth 100000
set_option maxHeartbeats 4000000
namespace Kz
open PySem PySem.Spec PyProof.Rows L2
/-! ### rows that the law's own functions make are new -/
section
variable {P : Program} {w : World} {K : PySem.W.Frag} {mg : Str → Option Value} {base : Heap}
end
end Kz
set_option linter.all false
set_option maxRecDepth 100000
set_option maxHeartbeats 4000000
namespace Kz
open PySem PySem.Spec PyProof.Rows L2
section
variable {P : Program} {w : World} {K : PySem.W.Frag} {mg : Str → Option Value} {base : Heap}
end
end Kz
set_option linter.all false
set_option maxRecDepth 100000
set_option maxHeartbeats 4000000
namespace Kz
open PySem PySem.Spec PyProof.Rows L2
/-- what is told besides at a knot -/
def More (q : Rat) : Prop := 0 ≤ q ∧ Mz 3 2 q
/-- the i-th piece that is drawn -/
def Pz (i : Nat) (p : List Rat) : Prop := (∀ j, Mz 3 7 (cf p (j + 1))) ∧ Mz (44 + 3 * i) (7 + 210 * i) (cf p 0) ∧ Tr p ∧ p.length ≤ 4
theorem Pz.all {i : Nat} {p : List Rat} (h : Pz i p) : ∀ j, Mz (44 + 3 * i) (7 + 210 * i) (cf p j)
  | 0 => h.2.1
  | j + 1 => (h.1 j).up (by omega) (by omega)
theorem Pz.ev {i : Nat} {p : List Rat} (h : Pz i p) {x : Rat} (zx : Mz 8 19 x) : Mz (45 + 3 * i) (105 + 210 * i) (ev p x) := by
  unfold Kz.ev
  rcases Nat.eq_zero_or_pos p.length with e | l
  · rw [e]
    exact mz_zero (by omega)
  · have z := (hn_mz (N := p.length) zx h.1 h.2.1 (by decide) (by omega) l (p.length - 1)).2 (by omega)
    have l1 : (p.length - 1) * (8 + 1) ≤ 3 * (8 + 1) := Nat.mul_le_mul_right _ (by have := h.2.2.2; omega)
    have l2 : (p.length - 1) * (19 + 7) ≤ 3 * (19 + 7) := Nat.mul_le_mul_right _ (by have := h.2.2.2; omega)
    exact z.up (by omega) (by omega)
/-- the value of a polynomial, from its lowest number on -/
def pe (f : Nat → Rat) (x : Rat) : Nat → Rat
  | 0 => 0
  | N + 1 => f 0 + x * pe (fun i => f (i + 1)) x N
/-- the number at a knot, by the kind -/
structure KdAt (kd : Str) (ls : List Rat) (a : Rat) : Prop where
  lo : kd = "lower" → ∀ q ∈ ls, a ≤ q
  up : kd = "upper" → ∀ q ∈ ls, q ≤ a
  pl : kd = "plain" → ∀ q ∈ ls, q = a
section
variable {P : Program} {w : World} {K : PySem.W.Frag} {mg : Str → Option Value} {base : Heap}
end
end Kz
set_option linter.all false
set_option maxRecDepth 100000
set_option maxHeartbeats 4000000
namespace Kz
open PySem PySem.Spec PyProof.Rows L2
/-- a function that is drawn, all of it -/
structure Fok (x wd : Rat) (ks : List Rat) (ps : List (List Rat)) (as : List Rat) : Prop where
  F : Fsz ks ps
  la : as.length = ks.length
  za : ∀ q ∈ as, Mz 190 1600 q
  lo : cf ks 0 = x
  hi : cf ks ps.length = x + wd
  zk : ∀ q ∈ ks, Mz 8 20 q
  few : ps.length ≤ 5
  zs : ∀ q ∈ ps, ∀ j, Mz 3 7 (cf q (j + 1))
  frm : ∀ q ∈ ks, Twf x wd q
end Kz
set_option linter.all false
set_option maxRecDepth 100000
set_option maxHeartbeats 4000000
namespace Kz
open PySem PySem.Spec PyProof.Rows L2
section
variable {P : Program} {w : World} {K : PySem.W.Frag} {mg : Str → Option Value} {base : Heap}
theorem Pen.lrr {H H' : Hp} {p c : Addr} {n : Nat} {v : V} {ps : List (List Rat)} (b : But p H H') (pen : Pen H p c n) (h : LRR K H v ps) : LRR K H' v ps := by
  obtain ⟨l, vs, e, hl, m, al⟩ := h
  exact ⟨l, vs, e, pen.lst b hl, m, fun i u q a d => pen.lr b (al i u q a d)⟩
theorem Pen.fnv {H H' : Hp} {p c : Addr} {n : Nat} {v : V} {ks as : List Rat} {ps : List (List Rat)} (b : But p H H') (pen : Pen H p c n) (h : FnV K H v ks ps as) : FnV K H' v ks ps as := by
  obtain ⟨t, x, y, z, e, ht, h1, h2, h3⟩ := h
  exact ⟨t, x, y, z, e, pen.seqT b ht, pen.lr b h1, pen.lrr b h2, pen.lr b h3⟩
end
end Kz
set_option linter.all false
set_option maxRecDepth 100000
set_option maxHeartbeats 4000000
namespace Kz
open PySem PySem.Spec PyProof.Rows L2
/-- the two limits at a place, None for one that is none -/
def Due (K : PySem.W.Frag) (H : Hp) (ks : List Rat) (ps : List (List Rat)) (as : List Rat) (x : Rat) (l r : V) : Prop :=
  (∃ k, k < ps.length ∧ Within ks x k ∧ RV K H l (ev (pv' ps k) x) ∧ RV K H r (ev (pv' ps k) x)) ∨
  (∃ k, k < ks.length ∧ cf ks k = x ∧ (k = 0 → l = .non) ∧ (0 < k → RV K H l (ev (pv' ps (k - 1)) x)) ∧ (k = ps.length → r = .non) ∧ (k < ps.length → RV K H r (ev (pv' ps k) x)))
theorem Due.same {K : PySem.W.Frag} {H H' : Hp} {ks as : List Rat} {ps : List (List Rat)} {x : Rat} {l r : V} (s : Same H H') (h : Due K H ks ps as x l r) : Due K H' ks ps as x l r := by
  rcases h with ⟨k, a, b, c, d⟩ | ⟨k, a, b, c, d, e, f⟩
  · exact .inl ⟨k, a, b, c.same s, d.same s⟩
  · exact .inr ⟨k, a, b, c, fun h => (d h).same s, e, fun h => (f h).same s⟩
section
variable {P : Program} {w : World} {K : PySem.W.Frag} {mg : Str → Option Value} {base : Heap}
end
end Kz
set_option linter.all false
set_option maxRecDepth 100000
set_option maxHeartbeats 4000000
namespace Kz
open PySem PySem.Spec PyProof.Rows L2
abbrev sB (i : Nat) : Stmt := inClass (top 36) i
/-! ### the program's broken functions -/
structure Tb (P : Program) (K : PySem.W.Frag) (mg : Str → Option Value) extends Tk P K mg where
  mAny : mg "any" = none
  ascends : Df K mg "ascends" (top 20) ["row"]
  told_row : Df K mg "told_row" (top 21) ["row"]
  is_rowp : Df K mg "is_row_of_polys" (top 37) ["value"]
  place_in : Df K mg "place_in" (top 38) ["f", "x"]
  piece_from : Df K mg "piece_from" (top 39) ["f", "place"]
  klimits : Df K mg "knot_limits" (top 40) ["f", "index"]
  nlims : Df K mg "numbers_and_limits" (top 41) ["f"]
  cB : Addr
  mgB : mg "Broken" = some (.ref cB)
  clB : Cls K cB
  nB1 : NoAttr K cB "knots"
  nB2 : NoAttr K cB "polys"
  nB3 : NoAttr K cB "at"
  b_init : Dm K cB "__init__" "Broken.__init__" (sB 0) ["self", "knots", "polys", "at"]
  mkB : Mk K cB b_init.f
  b_eq : Dm K cB "__eq__" "Broken.__eq__" (sB 1) ["self", "other"]
  b_value : Dm K cB "value" "Broken.value" (sB 2) ["self", "x"]
  b_limits : Dm K cB "limits" "Broken.limits" (sB 3) ["self", "x"]
  b_upper : Dm K cB "is_upper" "Broken.is_upper" (sB 5) ["self"]
  b_lower : Dm K cB "is_lower" "Broken.is_lower" (sB 6) ["self"]
/-- a comprehension over two lists, the second one the shorter -/
theorem lc_mapU {K : PySem.W.Frag} {a b : Addr} {xs ys : List V} {g : TG} {te : TE} {vs : List Nat} {σ : L2.St} {H1 : Hp} {D : Addr} {Qd : Hp → Prop} (hx : SqL K H1 a xs) (hy : SqL K H1 b ys) (le : ys.length ≤ xs.length) (len : xs.length ≤ 1000) (hD : H1 D = none)
    (R : Nat → List V → Hp → Prop) (br : Bears D R) (h0 : R 0 [] H1)
    (step : ∀ (i : Nat) (x y : V), xs[i]? = some x → ys[i]? = some y → ∀ (acc : List V) (H' : Hp) (Qk : VK) (Z : Hp → Prop) (T : Addr), acc.length = i → R i acc H' → Same H1 H' → H' T = none → (∀ u H4, Same H' H4 → R (i + 1) (acc ++ [u]) H4 → Qk u H4) →
      g (.ref T) (wipe σ vs) (upd H' T (.tup [x, y])) fun σ2 H2 => wipe σ2 vs = wipe σ vs ∧ tYes σ2 H2 fun b H3 => if b = true then te σ2 H3 Qk else Z H3)
    (fin : ∀ acc H', H' D = some (.lst acc) → acc.length = ys.length → R ys.length acc H' → Same H1 H' → Qd H') : ∃ W : Nat → Nat → Hp → Prop, (∃ m, W 0 m (upd H1 D (.lst []))) ∧ ∀ i m H, W i m H →
      ((Itz K a b).stop i H ∧ Qd H) ∨ ((Itz K a b).go i H ∧ ∃ Nx : Hp → Prop, (∀ H', Nx H' → ∃ m', m' < m ∧ W (i + 1) m' H') ∧ ∀ x H', (Itz K a b).yld i H x H' → g x (wipe σ vs) H' fun σ2 H2 => wipe σ2 vs = wipe σ vs ∧ tYes σ2 H2 fun b H3 =>
        if b = true then te σ2 H3 fun y H4 => ∃ acc, H4 D = some (.lst acc) ∧ acc.length < sizeLine ∧ Nx (upd H4 D (.lst (acc ++ [y]))) else Nx H3) := by
  refine ⟨fun i m H => m = ys.length - i ∧ i ≤ ys.length ∧ ∃ acc, H D = some (.lst acc) ∧ acc.length = i ∧ R i acc H ∧ Same H1 H, ⟨_, rfl, Nat.zero_le _, [], upd_same, rfl, br _ _ _ _ (fun o e => by rw [hD] at e; cases e) But.refl.set h0, Same.new hD⟩, ?_⟩
  rintro i m H ⟨rfl, hi, acc, e, l, r, s⟩
  have sx := Same.seq s hx
  have sy := Same.seq s hy
  rcases Nat.lt_or_ge i ys.length with lty | ge
  · right
    have lt : i < xs.length := by omega
    refine ⟨⟨xs, ys, _, _, sx, sy, List.getElem?_eq_getElem lt, List.getElem?_eq_getElem lty⟩, fun H' => i + 1 ≤ ys.length ∧ ∃ acc, H' D = some (.lst acc) ∧ acc.length = i + 1 ∧ R (i + 1) acc H' ∧ Same H1 H', fun H' p => ⟨_, by omega, rfl, p⟩, ?_⟩
    rintro v H' ⟨T, x, y, rfl, nT, rfl, fx, fy⟩
    refine step i x y (fx xs sx) (fy ys sy) acc H _ _ T l r s nT fun u H4 s4 r4 => ⟨acc, s4 _ _ e, le1000 (by omega), lty, acc ++ [u], upd_same, by simp [l], br _ _ _ _ (fun o e4 => ?_) But.refl.set r4, fun c o ec => ?_⟩
    · rw [s4 _ _ e] at e4
      cases e4
      exact ⟨_, rfl⟩
    · rw [upd_ne (ne_of_none ec hD)]
      exact s4 _ _ (s _ _ ec)
  · left
    have ei : i = ys.length := by omega
    subst ei
    exact ⟨⟨xs, ys, sx, sy, .inr (Nat.le_refl _)⟩, fin acc H e l r s⟩
/-- whether a row ascends -/
def ascB (qs : List Rat) : Bool := (List.range (qs.length - 1)).all fun i => decide (cf qs i < cf qs (i + 1))
theorem asc_step {qs : List Rat} (h : ∀ i, i + 1 < qs.length → cf qs i < cf qs (i + 1)) : ∀ j i, i < j → j < qs.length → cf qs i < cf qs j
  | 0, _, l, _ => absurd l (Nat.not_lt_zero _)
  | j + 1, i, l, hj => by
    rcases Nat.lt_or_ge i j with c | c
    · exact Std.lt_trans (asc_step h j i c (by omega)) (h j hj)
    · rw [show i = j by omega]
      exact h j hj
theorem ascB_true {qs : List Rat} : ascB qs = true ↔ Asc qs := by
  unfold ascB
  rw [List.all_eq_true]
  constructor
  · intro h
    have h' : ∀ i, i + 1 < qs.length → cf qs i < cf qs (i + 1) := fun i hi => of_decide_eq_true (h i (List.mem_range.mpr (by omega)))
    unfold Asc
    rw [List.pairwise_iff_getElem]
    intro i j hi hj l
    have z := asc_step h' j i l hj
    rw [cf_at (List.getElem?_eq_getElem hi), cf_at (List.getElem?_eq_getElem hj)] at z
    exact z
  · intro h i hi
    exact decide_eq_true (asc_lt h (Nat.lt_succ_self i) (by have := List.mem_range.mp hi; omega))
section
variable {P : Program} {w : World} {K : PySem.W.Frag} {mg : Str → Option Value} {base : Heap}
abbrev nAs : List Str := ["row", "one", "other"]
theorem sc19k : FnScope nAs ["row"] (defScope (top 20)) := ⟨rfl, rfl, rfl, by decide +kernel, rfl, by decide +kernel, by decide +kernel⟩
abbrev nTr : List Str := ["row", "number"]
theorem sc20k : FnScope nTr ["row"] (defScope (top 21)) := ⟨rfl, rfl, rfl, by decide +kernel, rfl, by decide +kernel, by decide +kernel⟩
end
end Kz
set_option linter.all false
set_option maxRecDepth 100000
set_option maxHeartbeats 4000000
namespace Kz
open PySem PySem.Spec PyProof.Rows L2
/-! ### the program's functions as objects -/
abbrev bF (x y z : V) : List (Str × V) := [("knots", x), ("polys", y), ("at", z)]
theorem lkB1 {x y z : V} : (bF x y z).lookup ("knots" : Str) = some x := by simp [List.lookup]
theorem lkB2 {x y z : V} : (bF x y z).lookup ("polys" : Str) = some y := by
  have h1 : (("polys" : Str) == "knots") = false := by decide +kernel
  simp [List.lookup, h1]
theorem lkB3 {x y z : V} : (bF x y z).lookup ("at" : Str) = some z := by
  have h1 : (("at" : Str) == "knots") = false := by decide +kernel
  have h2 : (("at" : Str) == "polys") = false := by decide +kernel
  simp [List.lookup, h1, h2]
def PLs (K : PySem.W.Frag) (cP : Addr) (H : Hp) (us : List V) (ps : List (List Rat)) : Prop := us.length = ps.length ∧ ∀ (i : Nat) (u : V) (p : List Rat), us[i]? = some u → ps[i]? = some p → PolyAt K cP H u p
theorem PLs.same {K : PySem.W.Frag} {cP : Addr} {H H' : Hp} {us : List V} {ps : List (List Rat)} (s : Same H H') (h : PLs K cP H us ps) : PLs K cP H' us ps := ⟨h.1, fun i u p a b => (h.2 i u p a b).same s⟩
def BrkAt (K : PySem.W.Frag) (cB cP : Addr) (H : Hp) (v : V) (ks : List Rat) (ps : List (List Rat)) (as : List Rat) : Prop := ∃ a dx t1 t2 t3 w1 us w3, v = .ref a ∧ H a = some (.ins cB dx (bF (.ref t1) (.ref t2) (.ref t3))) ∧ SqT K H t1 w1 ∧ Al K H w1 ks ∧ SqT K H t2 us ∧ PLs K cP H us ps ∧ SqT K H t3 w3 ∧ Al K H w3 as
theorem BrkAt.same {K : PySem.W.Frag} {cB cP : Addr} {H H' : Hp} {v : V} {ks as : List Rat} {ps : List (List Rat)} (s : Same H H') (h : BrkAt K cB cP H v ks ps as) : BrkAt K cB cP H' v ks ps as := by
  obtain ⟨a, dx, t1, t2, t3, w1, us, w3, e, ha, h1, a1, h2, p2, h3, a3⟩ := h
  exact ⟨a, dx, t1, t2, t3, w1, us, w3, e, s _ _ ha, Kz.Same.seqT s h1, a1.same s, Kz.Same.seqT s h2, p2.same s, Kz.Same.seqT s h3, a3.same s⟩
def rIsiQ (K : PySem.W.Frag) : List V → Hp → VK → Prop := rIsi K
theorem call_isiK {X : Cx} {K' : PySem.W.Frag} (e : X.K = K' := by rfl) : CallR X (.builtin "isinstance") (rIsiQ K') := by
  subst e
  exact call_isi
/-- whether a value is a Poly -/
def PB (K : PySem.W.Frag) (cP : Addr) (H : Hp) (u : V) (b : Bool) : Prop := (b = true ∧ ∃ qs, PolyAt K cP H u qs) ∨ (b = false ∧ ∃ t, TyN K H u t)
theorem PB.same {K : PySem.W.Frag} {cP : Addr} {H H' : Hp} {u : V} {b : Bool} (s : Same H H') (h : PB K cP H u b) : PB K cP H' u b := by
  rcases h with ⟨e, qs, p⟩ | ⟨e, t, ty⟩
  · exact .inl ⟨e, qs, p.same s⟩
  · exact .inr ⟨e, t, ty.same s⟩
section
variable {P : Program} {w : World} {K : PySem.W.Frag} {mg : Str → Option Value} {base : Heap}
def spRowp (K : PySem.W.Frag) (cP : Addr) : Sp := fun vs H Q _ => ∃ v, vs = [v] ∧ ((∃ t, TyN K H v t ∧ (t == "tuple") = false ∧ (t == "list") = false ∧ ∀ H', Same H H' → Q (.bl false) H') ∨
  (∃ (a : Addr) (us : List V) (bs : List Bool), v = .ref a ∧ SqL K H a us ∧ us.length ≤ 1000 ∧ (bs.length = us.length ∧ ∀ (i : Nat) (u : V) (b : Bool), us[i]? = some u → bs[i]? = some b → PB K cP H u b) ∧ ∀ H', Same H H' → Q (.bl (bs.all id)) H'))
abbrev nRp : List Str := ["value", "poly"]
theorem sc31k : FnScope nRp ["value"] (defScope (top 37)) := ⟨rfl, rfl, rfl, by decide +kernel, rfl, by decide +kernel, by decide +kernel⟩
end
end Kz
set_option linter.all false
set_option maxRecDepth 100000
set_option maxHeartbeats 4000000
namespace Kz
open PySem PySem.Spec PyProof.Rows L2
section
variable {P : Program} {w : World} {K : PySem.W.Frag} {mg : Str → Option Value} {base : Heap}
/-- what is no place of the stretch -/
def NoPl (K : PySem.W.Frag) (H : Hp) (v : V) (ks : List Rat) : Prop := Odd K H v ∨ ∃ q n m, ArgQ K H v n m q ∧ n ≤ 4000 ∧ m ≤ 4000 ∧ (q < cf ks 0 ∨ cf ks (ks.length - 1) < q)
theorem NoPl.same {H H' : Hp} {v : V} {ks : List Rat} (s : Same H H') (h : NoPl K H v ks) : NoPl K H' v ks := by
  rcases h with h | ⟨q, n, m, h, r⟩
  · exact .inl (h.same s)
  · exact .inr ⟨q, n, m, h.same s, r⟩
def spPlace (K : PySem.W.Frag) (cB cP cN : Addr) : Sp := fun vs H Q E => ∃ f v ks ps as, vs = [f, v] ∧ BrkAt K cB cP H f ks ps as ∧ Fsz ks ps ∧
  ((∃ q n m, ArgQ K H v n m q ∧ n ≤ 4000 ∧ m ≤ 4000 ∧ cf ks 0 ≤ q ∧ q ≤ cf ks (ks.length - 1) ∧ ∀ u H', Same H H' → RV K H' u q → Q u H') ∨ (NoPl K H v ks ∧ ErN cN H E "x" v))
abbrev nPl' : List Str := ["f", "x"]
theorem sc32k : FnScope nPl' ["f", "x"] (defScope (top 38)) := ⟨rfl, rfl, rfl, by decide +kernel, rfl, by decide +kernel, by decide +kernel⟩
theorem ok_place (T : Tb P K mg) : FnOk P w K mg base (CX P w) 6 T.place_in.f T.place_in.fd ["f", "x"] (spPlace K T.cB T.cP T.cN) := by
  have G1 : FnOk P w K mg base CX0 3 T.is_ratio.f T.is_ratio.fd ["value"] (spRatio K) := ok_ratio T.toTx
  have G2 : FnOk P w K mg base (CX P w) 5 T.lower.f T.lower.fd ["one", "other"] (spTwo K T.cN cBin (fun _ v q r => v = .bl (decide (q < r)))) := ok_lower T.toTx
  have G3 : FnOk P w K mg base (CX P w) 4 T.told.f T.told.fd ["value", "what"] (spTold K T.cN) := ok_told T.toTx
  refine T.place_in.fn.okX sc32k (fun vs H Q E h => ?_) (fun cdv A outer s H vs Q E hr h => ?_)
  · obtain ⟨f, v, ks, ps, as, rfl, _⟩ := h
    rfl
  · obtain ⟨f, v, ks, ps, as, rfl, ⟨a, dx, t1, t2, t3, w1, us, w3, rfl, ha, h1, a1, h2, p2, h3, a3⟩, F, h⟩ := h
    have hr3 : Room 3 _ := hr.mono (by decide)
    have hr4 : Room 4 _ := hr.mono (by decide)
    have tk := takes_of (X := cxOf (CX P w) P w K mg base nPl' "place_in" (defScope (top 38)) T.place_in.f cdv A outer s H E) (E := E) rfl rfl rfl rfl
    refine ⟨_, pss_cons (ps_if (PW.pt (pw_or (pt_not (pt_val (T.is_ratio.c0 G1 hr3 (pa_cons (pv 1) pa_nil))))
          (pw_or (pt_val (T.lower.cX G2 hr (pa_cons (pv 1) (pa_cons (pe_ix ix_tup (pe_fld (pv 0) (by rfl)) pe_int (fun _ _ => rfl)) pa_nil))))
            (pw_or1 (pt_val (T.lower.cX G2 hr (pa_cons (pe_ix ix_tup (pe_fld (pv 0) (by rfl)) (pe_un un_neg pe_int) (fun _ _ => rfl)) (pa_cons (pv 1) pa_nil))))))))
        (pss_one (ps_raise rfl tk (pmk_oex (CX := CX0) T.eN.o T.iN.i T.iN.t (ok_i3 T.iN.fn) (hr.mono (by decide)) T.bN .nil pass0 rfl T.eN.g (pa_cons pe_str (pa_cons (pv 1) pa_nil))))) pss_nil)
      (pss_one (ps_ret (T.told.cS G3 hr4 tk (pa_cons (pv 1) (pa_cons pe_str pa_nil))))), ?_⟩
    have lk := F.len
    have l1 := a1.1
    have len0 : 0 < ks.length := by omega
    obtain ⟨v0, e0, r0⟩ := a1.get (i := 0) len0
    obtain ⟨vl, el, rl⟩ := a1.get (i := ks.length - 1) (by omega)
    have z0 := F.kz (i := 0) len0
    have zl := F.kz (i := ks.length - 1) (by omega)
    have refuse : ∀ (H1 : Hp), Same H H1 → ErN T.cN H E "x" v → _ := fun H1 s1 er => raised2 (H := H1) (v := .str "x") (u := v) (Q := E) T.eN.o T.nN1 T.nN2 fun d H' s' e => er d H' (s1.trans s') e
    -- a ratio: how it stands to both ends
    rcases h with ⟨q, n, m, aq, n4, m4, lo, hi, k⟩ | ⟨od | ⟨q, n, m, aq, n4, m4, out⟩, er⟩
    · obtain ⟨tt, b, ty, pr, eb⟩ := aq.rb
      refine ⟨_, rfl, v, tt, b, rfl, ty, pr, fun H1 s1 => ?_⟩
      rw [← eb]
      refine ⟨_, rfl, iteF ⟨_, rfl, _, rfl, a, T.cB, dx, _, _, rfl, s1 _ _ ha, T.clB, T.nB1, lkB1, t1, w1, _, _, rfl, rfl, Kz.Same.seqT s1 h1, atI_nat (j := 0) e0, ?_⟩⟩
      refine ⟨v, v0, rfl, .inl ⟨q, cf ks 0, n, m, 60, 40, aq.same s1, (r0.same s1).arg z0, by omega, by decide, ⟨by omega, by omega⟩, fun b1 H2 s2 eb1 => ?_⟩⟩
      subst eb1
      have s12 := s1.trans s2
      have n1 : ¬ (q < cf ks 0) := Rat.not_lt.mpr lo
      have n2 : ¬ (cf ks (ks.length - 1) < q) := Rat.not_lt.mpr hi
      rw [decide_eq_false n1]
      refine ⟨_, rfl, iteF ⟨_, rfl, a, T.cB, dx, _, _, rfl, s12 _ _ ha, T.clB, T.nB1, lkB1, _, rfl, t1, w1, _, _, rfl, rfl, Kz.Same.seqT s12 h1, atI_last (by rw [l1]; exact el), _, rfl, ?_⟩⟩
      refine ⟨vl, v, rfl, .inl ⟨_, q, 60, 40, n, m, (rl.same s12).arg zl, aq.same s12, by decide, by omega, ⟨by omega, by omega⟩, fun b2 H3 s3 eb2 => ?_⟩⟩
      subst eb2
      rw [decide_eq_false n2]
      have s13 := s12.trans s3
      exact ⟨_, rfl, iteF ⟨_, rfl, _, _, rfl, .inl ⟨q, n, m, aq.same s13, by omega, fun u H4 s4 ru => k u H4 (s13.trans s4) ru⟩⟩⟩
    · obtain ⟨tt, b, ty, pr, eb⟩ := od.rb
      refine ⟨_, rfl, v, tt, b, rfl, ty, pr, fun H1 s1 => ?_⟩
      rw [← eb]
      exact ⟨_, rfl, iteT (iteT ⟨_, rfl, refuse H1 s1 er⟩)⟩
    · obtain ⟨tt, b, ty, pr, eb⟩ := aq.rb
      refine ⟨_, rfl, v, tt, b, rfl, ty, pr, fun H1 s1 => ?_⟩
      rw [← eb]
      refine ⟨_, rfl, iteF ⟨_, rfl, _, rfl, a, T.cB, dx, _, _, rfl, s1 _ _ ha, T.clB, T.nB1, lkB1, t1, w1, _, _, rfl, rfl, Kz.Same.seqT s1 h1, atI_nat (j := 0) e0, ?_⟩⟩
      refine ⟨v, v0, rfl, .inl ⟨q, cf ks 0, n, m, 60, 40, aq.same s1, (r0.same s1).arg z0, by omega, by decide, ⟨by omega, by omega⟩, fun b1 H2 s2 eb1 => ?_⟩⟩
      subst eb1
      have s12 := s1.trans s2
      by_cases c1 : q < cf ks 0
      · rw [decide_eq_true c1]
        exact ⟨_, rfl, iteT (iteT ⟨_, rfl, refuse H2 s12 er⟩)⟩
      · rw [decide_eq_false c1]
        have c2 := out.resolve_left c1
        refine ⟨_, rfl, iteF ⟨_, rfl, a, T.cB, dx, _, _, rfl, s12 _ _ ha, T.clB, T.nB1, lkB1, _, rfl, t1, w1, _, _, rfl, rfl, Kz.Same.seqT s12 h1, atI_last (by rw [l1]; exact el), _, rfl, ?_⟩⟩
        refine ⟨vl, v, rfl, .inl ⟨_, q, 60, 40, n, m, (rl.same s12).arg zl, aq.same s12, by decide, by omega, ⟨by omega, by omega⟩, fun b2 H3 s3 eb2 => ?_⟩⟩
        subst eb2
        rw [decide_eq_true c2]
        exact ⟨_, rfl, iteT ⟨_, rfl, refuse H3 (s12.trans s3) er⟩⟩
/-- the index of the piece that goes on from a place -/
def spFrom (K : PySem.W.Frag) (cB cP : Addr) : Sp := fun vs H Q _ => ∃ f v ks ps as q n m, vs = [f, v] ∧ BrkAt K cB cP H f ks ps as ∧ Fsz ks ps ∧ RV K H v q ∧ Sz n m q ∧ n ≤ 4000 ∧ m ≤ 4000 ∧ q < cf ks ps.length ∧
  ∀ (i : Nat) H', Same H H' → i < ps.length → q < cf ks (i + 1) → (∀ j, j < i → cf ks (j + 1) ≤ q) → Q (.int (i : Nat)) H'
abbrev nPf : List Str := ["f", "place", "index"]
theorem sc33k : FnScope nPf ["f", "place"] (defScope (top 39)) := ⟨rfl, rfl, rfl, by decide +kernel, rfl, by decide +kernel, by decide +kernel⟩
theorem ok_from (T : Tb P K mg) : FnOk P w K mg base CX0 6 T.piece_from.f T.piece_from.fd ["f", "place"] (spFrom K T.cB T.cP) := by
  have G2 : FnOk P w K mg base (CX P w) 5 T.lower.f T.lower.fd ["one", "other"] (spTwo K T.cN cBin (fun _ v q r => v = .bl (decide (q < r)))) := ok_lower T.toTx
  refine T.piece_from.fn.ok sc33k (fun vs H Q E h => ?_) (fun cdv A outer s H vs Q E hr h => ?_)
  · obtain ⟨f, v, ks, ps, as, q, n, m, rfl, _⟩ := h
    rfl
  · obtain ⟨f, v, ks, ps, as, q, n, m, rfl, ⟨a, dx, t1, t2, t3, w1, us, w3, rfl, ha, h1, a1, h2, p2, h3, a3⟩, F, rq, zq, n4, m4, hi, k⟩ := h
    refine ⟨_, pss_cons (ps_set (i := 2) sc33k.nd rfl (.inl rfl) pe_int)
      (pss_cons (ps_while PassesOwn.never (pt_not (pt_val (T.lower.cX G2 hr (pa_cons (pv 1) (pa_cons (pe_ix ix_tup (pe_fld (pv 0) (by rfl)) (pe_op op_add (pv 2) pe_int) (fun _ _ => rfl)) pa_nil)))))
        (pss_one (ps_set (i := 2) sc33k.nd rfl (.inl rfl) (pe_op op_add (pv 2) pe_int))))
      (pss_one (ps_ret (pv 2)))), ?_⟩
    have lk := F.len
    have l1 := a1.1
    have f1 := F.one
    refine while_by (fun σ H' => Same H H' ∧ ∃ i : Nat, σ = [some (.ref a), some v, some (.int (i : Nat))] ∧ i < ps.length ∧ ∀ j, j < i → cf ks (j + 1) ≤ q)
      (fun σ _ => match σ with | [_, _, some (.int i)] => ps.length - i.toNat | _ => 0) ⟨Same.refl _, 0, rfl, f1, fun j h => absurd h (Nat.not_lt_zero _)⟩ ?_ ?_
    · rintro σ H1 ⟨s1, i, rfl, hi', no⟩
      obtain ⟨v1, e1, r1⟩ := a1.get (i := i + 1) (by omega)
      have z1 := F.kz (i := i + 1) (by omega)
      refine ⟨_, rfl, _, rfl, a, T.cB, dx, _, _, rfl, s1 _ _ ha, T.clB, T.nB1, lkB1, _, rfl, _, _, rfl, rfl, t1, w1, _, _, rfl, rfl, Kz.Same.seqT s1 h1, atI_nat (j := i + 1) e1, ?_⟩
      refine ⟨v, v1, rfl, .inl ⟨q, cf ks (i + 1), n, m, 60, 40, (rq.same s1).arg zq, (r1.same s1).arg z1, by omega, by decide, ⟨by omega, by omega⟩, fun b1 H2 s2 eb1 => ?_⟩⟩
      subst eb1
      by_cases c : q < cf ks (i + 1)
      · rw [decide_eq_true c]
        exact ⟨_, rfl, iteF ⟨_, rfl, k i H2 (s1.trans s2) hi' c no⟩⟩
      · rw [decide_eq_false c]
        have ge : cf ks (i + 1) ≤ q := Rat.not_lt.mp c
        have i2 : i + 1 < ps.length := by
          rcases Nat.lt_or_ge (i + 1) ps.length with l | l
          · exact l
          · have : i + 1 = ps.length := by omega
            rw [this] at ge
            exact absurd (Std.lt_of_lt_of_le hi ge) Rat.lt_irrefl
        refine ⟨_, rfl, iteT ⟨_, rfl, _, _, rfl, rfl, ⟨s1.trans s2, i + 1, rfl, i2, fun j hj => ?_⟩, ?_⟩⟩
        · rcases Nat.lt_or_ge j i with l | l
          · exact no j l
          · rw [show j = i by omega]
            exact ge
        · show ps.length - (((i : Nat) : Int) + 1).toNat < ps.length - (((i : Nat) : Int)).toNat
          omega
    · intro σ H Q Q' imp h
      obtain ⟨v1, e1, v0, e0, a, C, dx, fs, x, ex, ea, c1, c2, lk, v2, e2, i, j, ei, ej, t, xs, i', y, et, ei', ht, hat, u1, u2, eu, h⟩ := h
      refine ⟨v1, e1, v0, e0, a, C, dx, fs, x, ex, ea, c1, c2, lk, v2, e2, i, j, ei, ej, t, xs, i', y, et, ei', ht, hat, u1, u2, eu, ?_⟩
      rcases h with ⟨q, r, n, m, n', m', k1, k2, k3, k4, k5, k6⟩ | h
      · exact .inl ⟨q, r, n, m, n', m', k1, k2, k3, k4, k5, fun v' H' s r => let ⟨d, ed, hd⟩ := k6 v' H' s r; ⟨d, ed, imp _ _ hd⟩⟩
      · exact .inr h
end
end Kz
set_option linter.all false
set_option maxRecDepth 100000
set_option maxHeartbeats 4000000
namespace Kz
open PySem PySem.Spec PyProof.Rows L2
theorem lkPat {v : V} : ([(("numbers" : Str), v)] : List (Str × V)).lookup ("at" : Str) = none := by
  have e : ((("at" : Str)) == (("numbers" : Str))) = false := by decide +kernel
  simp [List.lookup, e]
/-- the limits at the knot i -/
def KL (K : PySem.W.Frag) (H : Hp) (ks : List Rat) (ps : List (List Rat)) (i : Nat) (l r : V) : Prop :=
  (i = 0 → l = .non) ∧ (0 < i → RV K H l (ev (pv' ps (i - 1)) (cf ks i))) ∧ (i = ps.length → r = .non) ∧ (i < ps.length → RV K H r (ev (pv' ps i) (cf ks i)))
theorem KL.same {K : PySem.W.Frag} {H H' : Hp} {ks : List Rat} {ps : List (List Rat)} {i : Nat} {l r : V} (s : Same H H') (h : KL K H ks ps i l r) : KL K H' ks ps i l r := ⟨h.1, fun z => (h.2.1 z).same s, h.2.2.1, fun z => (h.2.2.2 z).same s⟩
section
variable {P : Program} {w : World} {K : PySem.W.Frag} {mg : Str → Option Value} {base : Heap}
/-- Poly.at at a ratio, as it is used here -/
theorem at_reads {cP cN : Addr} {H : Hp} {Q : VK} {E : XK} {p v : V} {qs : List Rat} {x : Rat} {α β : Nat} (hp : PolyAt K cP H p qs) (z : SzA 960 900 qs) (l : qs.length ≤ 6) (rx : RV K H v x) (zx : Sz α β x) (a0 : 0 < α) (a1 : α ≤ 1000) (b : β ≤ 400)
    (k : ∀ u H', Same H H' → RV K H' u (ev qs x) → Q u H') : spAt K cP cN [p, v] H Q E := by
  have m1 : 900 * qs.length ≤ 900 * 6 := Nat.mul_le_mul_left _ l
  have m2 : β * qs.length ≤ 400 * 6 := Nat.mul_le_mul b l
  exact ⟨p, v, qs, 960, 900, rfl, hp, z, by decide, by decide, by omega, by omega, .inl ⟨x, α, β, rx.arg zx, a0, a1, by omega, k⟩⟩
def spKlim (K : PySem.W.Frag) (cB cP : Addr) : Sp := fun vs H Q _ => ∃ f ks ps as, ∃ i : Nat, vs = [f, .int (i : Nat)] ∧ BrkAt K cB cP H f ks ps as ∧ Fsz ks ps ∧ i < ks.length ∧ ∀ t H' l r, Same H H' → SqT K H' t [l, r] → KL K H' ks ps i l r → Q (.ref t) H'
abbrev nKl : List Str := ["f", "index", "left", "right"]
theorem sc34k : FnScope nKl ["f", "index"] (defScope (top 40)) := ⟨rfl, rfl, rfl, by decide +kernel, rfl, by decide +kernel, by decide +kernel⟩
theorem ok_klim (T : Tb P K mg) : FnOk P w K mg base CX0 6 T.klimits.f T.klimits.fd ["f", "index"] (spKlim K T.cB T.cP) := by
  have Gat : FnOk P w K mg base (CX P w) 5 T.p_at.f T.p_at.fd ["self", "place"] (spAt K T.cP T.cN) := ok_at T.toTz
  refine T.klimits.fn.ok sc34k (fun vs H Q E h => ?_) (fun cdv A outer s H vs Q E hr h => ?_)
  · obtain ⟨f, ks, ps, as, i, rfl, _⟩ := h
    rfl
  · obtain ⟨f, ks, ps, as, i, rfl, ⟨a, dx, t1, t2, t3, w1, us, w3, rfl, ha, h1, a1, h2, ⟨lu, p2⟩, h3, a3⟩, F, hi, k⟩ := h
    refine ⟨_, pss_cons (ps_set (i := 2) sc34k.nd rfl (.inl rfl) pe_non) (pss_cons (ps_set (i := 3) sc34k.nd rfl (.inl rfl) pe_non)
      (C8.pss_cut (ps_if (pt_cmpR op_gt (pv 1) pe_int (nomark _)) (pss_one (ps_set (i := 2) sc34k.nd rfl (.inl rfl) (pe_meth (pe_ix ix_tup (pe_fld (pv 0) (by rfl)) (pe_op op_sub (pv 1) pe_int) (fun _ _ => rfl)) T.clP T.p_at.me Gat hr T.p_at.b .nil passL
          (pa_cons (pe_ix ix_tup (pe_fld (pv 0) (by rfl)) (pv 1) (fun _ _ => rfl)) pa_nil)))) pss_nil)
      (C8.pss_cut (ps_if (pt_cmpR op_lt (pv 1) (pe_callB call_len_seq (by rfl) T.blt.len PySem.boot_len (pa_cons (pe_fld (pv 0) (by rfl)) pa_nil)) (nomark _)) (pss_one (ps_set (i := 3) sc34k.nd rfl (.inl rfl) (pe_meth (pe_ix ix_tup (pe_fld (pv 0) (by rfl)) (pv 1) (fun _ _ => rfl)) T.clP T.p_at.me Gat hr T.p_at.b .nil passL
          (pa_cons (pe_ix ix_tup (pe_fld (pv 0) (by rfl)) (pv 1) (fun _ _ => rfl)) pa_nil)))) pss_nil)
      (pss_one (ps_ret (pe_tup (pa_cons (pv 2) (pa_cons (pv 3) pa_nil)))))))), ?_⟩
    have lk := F.len
    have l1 := a1.1
    obtain ⟨x, ex, rx⟩ := a1.get (i := i) hi
    have zx := F.kz hi
    refine ⟨fun σ H' => ∃ l, σ = [some (.ref a), some (.int (i : Nat)), some l, some .non] ∧ Same H H' ∧ (i = 0 → l = .non) ∧ (0 < i → RV K H' l (ev (pv' ps (i - 1)) (cf ks i))), ?_, ?_⟩
    · refine ⟨_, rfl, _, _, rfl, rfl, _, rfl, ite2 (fun lt => ?_) fun ge => ?_⟩
      · have lt' : 0 < i := by
          have := of_decide_eq_true lt
          omega
        obtain ⟨up, eup⟩ : ∃ up, us[i - 1]? = some up := ⟨_, List.getElem?_eq_getElem (by omega)⟩
        have pp := p2 (i - 1) up _ eup (pv_at (by omega))
        obtain ⟨zp, tp, lp⟩ := F.pz (k := i - 1) (by omega)
        obtain ⟨ap, dp, tp', wp, rfl, hap, rp⟩ := id pp
        refine ⟨_, rfl, a, T.cB, dx, _, _, rfl, ha, T.clB, T.nB2, lkB2, _, rfl, _, _, rfl, rfl, t2, us, _, _, rfl, rfl, h2, by rw [show ((i : Nat) : Int) - 1 = ((i - 1 : Nat) : Int) by omega]; exact atI_nat eup,
          ap, dp, _, rfl, hap, lkPat, _, rfl, a, T.cB, dx, _, _, rfl, ha, T.clB, T.nB1, lkB1, _, rfl, t1, w1, _, _, rfl, rfl, h1, atI_nat ex, ?_⟩
        exact at_reads pp zp lp rx zx (by decide) (by decide) (by decide) fun u H1 s1 ru => ⟨u, rfl, s1, fun z => by omega, fun _ => ru⟩
      · have ge' : ¬ (0 < i) := fun z => ge (decide_eq_true (by omega))
        exact ⟨.non, rfl, Same.refl _, fun _ => rfl, fun z => absurd z ge'⟩
    · rintro σ H1 ⟨l, rfl, s1, l0, lr⟩
      refine ⟨fun σ H' => ∃ r, σ = [some (.ref a), some (.int (i : Nat)), some l, some r] ∧ Same H1 H' ∧ (i = ps.length → r = .non) ∧ (i < ps.length → RV K H' r (ev (pv' ps i) (cf ks i))), ?_, ?_⟩
      · refine ⟨_, rfl, _, rfl, a, T.cB, dx, _, _, rfl, s1 _ _ ha, T.clB, T.nB2, lkB2, t2, us, rfl, .inr (Kz.Same.seqT s1 h2), _, _, rfl, rfl, _, rfl, ite2 (fun lt => ?_) fun ge => ?_⟩
        · have lt' : i < ps.length := by
            have := of_decide_eq_true lt
            omega
          obtain ⟨up, eup⟩ : ∃ up, us[i]? = some up := ⟨_, List.getElem?_eq_getElem (by omega)⟩
          have pp := (p2 i up _ eup (pv_at lt')).same s1
          obtain ⟨zp, tp, lp⟩ := F.pz (k := i) lt'
          obtain ⟨ap, dp, tp', wp, rfl, hap, rp⟩ := id pp
          refine ⟨_, rfl, a, T.cB, dx, _, _, rfl, s1 _ _ ha, T.clB, T.nB2, lkB2, _, rfl, t2, us, _, _, rfl, rfl, Kz.Same.seqT s1 h2, atI_nat eup,
            ap, dp, _, rfl, hap, lkPat, _, rfl, a, T.cB, dx, _, _, rfl, s1 _ _ ha, T.clB, T.nB1, lkB1, _, rfl, t1, w1, _, _, rfl, rfl, Kz.Same.seqT s1 h1, atI_nat ex, ?_⟩
          exact at_reads pp zp lp (rx.same s1) zx (by decide) (by decide) (by decide) fun u H2 s2 ru => ⟨u, rfl, s2, fun z => by omega, fun _ => ru⟩
        · have ge' : ¬ (i < ps.length) := fun z => ge (decide_eq_true (by omega))
          exact ⟨.non, rfl, Same.refl _, fun _ => rfl, fun z => absurd z ge'⟩
      · rintro σ H2 ⟨r, rfl, s2, r0, rr⟩
        refine ⟨_, rfl, _, rfl, (by show 2 ≤ sizeLine; decide), fun tt nt => ?_⟩
        have s3 := Same.new (o := .tup [l, r]) nt
        exact k tt _ l r ((s1.trans s2).trans s3) (SqT.of upd_same) ⟨l0, fun z => ((lr z).same s2).same s3, r0, fun z => (rr z).same s3⟩
end
end Kz
set_option linter.all false
set_option maxRecDepth 100000
set_option maxHeartbeats 4000000
namespace Kz
open PySem PySem.Spec PyProof.Rows L2
/-! ### `in` and `.index` of a tuple of data -/
section
variable {X : Cx}
def rInDT (K : PySem.W.Frag) : R2 := fun x y H Q => ∃ d ds, Dp K H x d ∧ Dp K H y (.tuple ds) ∧ SeqAt.shaped d = true ∧ SeqAt.shaped (.tuple ds) = true ∧ Q (.bl (ds.any fun z => PyData.eqv z d)) H
theorem op_inDT (hu : X.A.units + 65 < cLine) : OpR X (compareOp .In) (rInDT X.K) := by
  intro pins s σ H x y v u Q I rx ry h
  obtain ⟨d, ds, hd, he, sd, se, q⟩ := h
  obtain ⟨as, r1⟩ := Dp.reads I d x v hd rx
  obtain ⟨bs, r2⟩ := Dp.reads I (.tuple ds) y u he ry
  exact SeqAt.in_tuple_reads r2 r1 (SeqAt.canLay_of_shaped se) (SeqAt.canLay_of_shaped sd) (room_in_shaped sd hu) ⟨.bl _, H, I, rfl, q⟩
def rIndexDT (K : PySem.W.Frag) : V → List V → Hp → VK → Prop := fun x xs H Q => ∃ (a : Addr) (y : V) (d : PyData) (ds : List PyData) (j : Nat) (z : PyData), x = V.ref a ∧ xs = [y] ∧ Dp K H (V.ref a) (.tuple ds) ∧ Dp K H y d ∧
  SeqAt.shaped (.tuple ds) = true ∧ SeqAt.shaped d = true ∧ ds[j]? = some z ∧ PyData.eqv z d = true ∧ (∀ (m : Nat) (z' : PyData), m < j → ds[m]? = some z' → PyData.eqv z' d = false) ∧ Q (.int (j : Nat)) H
theorem mt_indexDT (hu : X.A.units + 65 < cLine) : MtR X "tuple.index" (rIndexDT X.K) := by
  intro pins s σ H x xs v us Q I rx rxs h
  obtain ⟨a, y, d, ds, j, z, rfl, rfl, hl, hy, sl, sd, hz, hzj, hno, q⟩ := h
  cases rx
  cases rxs with
  | cons ry rt =>
    rename_i uy ut
    cases rt
    obtain ⟨bs, r1⟩ := Dp.reads I d y uy hy ry
    have hxs : PyData.canLayAll0 ds = true := SeqAt.canLay_of_shaped sl
    have hroom : X.A.units + 1 + min (PyData.depthAll ds) d.depth < cLine := room_in_shaped sd hu
    cases hl with
    | tup hs ha =>
      obtain ⟨its, rv, pl, hlen⟩ := I.tuple hs
      obtain ⟨⟨cls, dd, data, sls⟩, ho, hc, n, hdt⟩ := pl
      simp only at hc hdt
      subst hc hdt
      obtain ⟨as, h4⟩ := Dp.readsAll I ds _ its ha rv
      have hn : its.length = ds.length := SeqAt.ReadsAll.length ds its as h4
      have hmap : its.map (SeqAt.readOf s.heap) = ds := SeqAt.readsAll_map ds its as hxs h4
      obtain ⟨hjd, _⟩ := List.getElem?_eq_some_iff.mp hz
      have hjl : j < its.length := by omega
      have hj : j < its.toArray.size := by simpa using hjl
      have at_ : ∀ (m : Nat) (hm : m < its.toArray.size) (z' : PyData), ds[m]? = some z' → SeqAt.readOf s.heap its.toArray[m] = z' := by
        intro m hm z' hz'
        have hml : m < its.length := by simpa using hm
        rw [← hmap, List.getElem?_map, List.getElem?_eq_getElem hml] at hz'
        have e1 : SeqAt.readOf s.heap its[m] = z' := Option.some.inj (show some (SeqAt.readOf s.heap its[m]) = some z' from hz')
        simpa using e1
      refine call_meets PySem.F.slot_tuple_index ⟨_, ho, rfl⟩ PySem.F.entry_tuple_index (PySem.F.args_tuple_index_2 _ _)
        (TI.tuple_indexAt a its.toArray n dd sls uy (fun u => PyData.eqv (SeqAt.readOf s.heap u) d) j hj ?_ ?_) ⟨ho, SeqAt.items_eqAt (vs := its.toArray) (show ReadsAll s.heap its.toArray.toList ds as from h4) r1 hxs (SeqAt.canLay_of_shaped sd) hroom, ?_⟩
      · show PyData.eqv (SeqAt.readOf s.heap its.toArray[j]) d = true
        rw [at_ j hj z hz]
        exact hzj
      · intro m hm hmj
        have hmd : m < ds.length := by omega
        have hz' : ds[m]? = some ds[m] := List.getElem?_eq_getElem hmd
        show PyData.eqv (SeqAt.readOf s.heap its.toArray[m]) d = false
        rw [at_ m hm _ hz']
        exact hno m _ hmj hz'
      · exact ⟨.int (j : Nat), H, I.tok _, ⟨_, rfl⟩, q⟩
end
theorem pdT_shaped (qs : List Rat) : SeqAt.shaped (.tuple (qs.map pdQ)) = true := by
  obtain ⟨h1, h2⟩ := pdQ_lay qs
  unfold SeqAt.shaped
  simp only [PyData.canLay0, PyData.depth, h1, Bool.true_and]
  exact decide_eq_true (by omega)
/-- whether a place is a knot -/
def atKn (ks : List Rat) (q : Rat) : Bool := decide (q ∈ ks)
theorem pdQ_any {ks : List Rat} {q : Rat} : ((ks.map pdQ).any fun z => PyData.eqv z (pdQ q)) = atKn ks q := by
  unfold atKn
  rw [Bool.eq_iff_iff, List.any_eq_true, decide_eq_true_iff]
  constructor
  · rintro ⟨z, hz, e⟩
    obtain ⟨r, hr, rfl⟩ := List.mem_map.mp hz
    rw [pdQ_eqv] at e
    rw [← of_decide_eq_true e]
    exact hr
  · intro h
    exact ⟨pdQ q, List.mem_map_of_mem h, by rw [pdQ_eqv]; exact decide_eq_true rfl⟩
theorem in_kn {K : PySem.W.Frag} {H : Hp} {t : Addr} {ws : List V} {ks : List Rat} {v : V} {q : Rat} {Q : VK} (ht : SqT K H t ws) (al : Al K H ws ks) (rv : RV K H v q) (k : Q (.bl (atKn ks q)) H) : rInDT K v (.ref t) H Q :=
  ⟨pdQ q, ks.map pdQ, rv.dp, .tup ht al.dp, pdQ_shaped q, pdT_shaped ks, by rw [pdQ_any]; exact k⟩
theorem index_kn {K : PySem.W.Frag} {H : Hp} {t : Addr} {ws : List V} {ks : List Rat} {v : V} {q : Rat} {Q : VK} {j : Nat} (ht : SqT K H t ws) (al : Al K H ws ks) (rv : RV K H v q) (asc : Asc ks) (hj : j < ks.length) (e : cf ks j = q) (k : Q (.int (j : Nat)) H) :
    rIndexDT K (.ref t) [v] H Q := by
  refine ⟨t, v, pdQ q, ks.map pdQ, j, pdQ (cf ks j), rfl, rfl, .tup ht al.dp, rv.dp, pdT_shaped ks, pdQ_shaped q, pdQ_at hj, by rw [pdQ_eqv, decide_eq_true e], fun m z' hm hz => ?_, k⟩
  rw [pdQ_at (by omega)] at hz
  cases hz
  rw [pdQ_eqv]
  refine decide_eq_false fun e' => ?_
  have := asc_inj asc (by omega) hj (e'.trans e.symm)
  omega
end Kz
set_option linter.all false
set_option maxRecDepth 100000
set_option maxHeartbeats 4000000
namespace Kz
open PySem PySem.Spec PyProof.Rows L2
theorem for_enumT {K : PySem.W.Frag} {a : Addr} {xs : List V} {g : TG} {tb : TS} {D : Ends} {σ : L2.St} {H : Hp} (Pv : Nat → L2.St → Hp → Prop) (h0 : Pv 0 σ H) (hq : ∀ i σ H, Pv i σ H → SqT K H a xs)
    (hs : ∀ (i : Nat) (x : V) (T : Addr) (σ : L2.St) (H : Hp), xs[i]? = some x → Pv i σ H → H T = none → g (.ref T) σ (upd H T (.tup [.int (i : Nat), x])) fun σ2 H2 => tb { D with nx := Pv (i + 1), ct := Pv (i + 1), bk := D.nx } σ2 H2)
    (hd : ∀ σ H, Pv xs.length σ H → D.nx σ H) : ∃ W : Nat → Nat → L2.St → Hp → Prop, (∃ m, W 0 m σ H) ∧ ∀ i m σ H, W i m σ H →
      ((IteT K a).stop i H ∧ D.nx σ H) ∨ ((IteT K a).go i H ∧ ∃ N : L2.St → Hp → Prop, (∀ σ' H', N σ' H' → ∃ m', m' < m ∧ W (i + 1) m' σ' H') ∧ ∀ v H', (IteT K a).yld i H v H' → g v σ H' fun σ2 H2 => tb { D with nx := N, ct := N, bk := D.nx } σ2 H2) := by
  refine ⟨fun i m σ H => m = xs.length - i ∧ i ≤ xs.length ∧ Pv i σ H, ⟨_, rfl, Nat.zero_le _, h0⟩, ?_⟩
  rintro i m σ H ⟨rfl, le, p⟩
  rcases Nat.lt_or_ge i xs.length with lt | ge
  · right
    refine ⟨⟨xs, _, hq i σ H p, List.getElem?_eq_getElem lt⟩, Pv (i + 1), ?_, ?_⟩
    · intro σ' H' p'
      exact ⟨xs.length - (i + 1), by omega, rfl, lt, p'⟩
    · rintro v H' ⟨T, x, rfl, hT, rfl, f⟩
      exact hs i x T σ H (f xs (hq i σ H p)) p hT
  · left
    have e : i = xs.length := by omega
    subst e
    exact ⟨⟨xs, hq _ σ H p, rfl⟩, hd σ H p⟩
/-- a pair of ratios -/
def PRt (K : PySem.W.Frag) (H : Hp) (u : V) (p : Rat × Rat) : Prop := ∃ t v1 v2, u = .ref t ∧ SqT K H t [v1, v2] ∧ RV K H v1 p.1 ∧ RV K H v2 p.2
theorem PRt.same {K : PySem.W.Frag} {H H' : Hp} {u : V} {p : Rat × Rat} (s : Same H H') (h : PRt K H u p) : PRt K H' u p := by
  obtain ⟨t, v1, v2, e, a, b, c⟩ := h
  exact ⟨t, v1, v2, e, Kz.Same.seqT s a, b.same s, c.same s⟩
theorem bearT {K : PySem.W.Frag} {D t : Addr} {xs : List V} {H H' : Hp} (l : ∀ o, H D = some o → ∃ us, o = .lst us) (b : But D H H') (r : SqT K H t xs) : SqT K H' t xs := by
  rcases r with (r | ⟨o', r⟩) | r
  · exact .inl (.inl (b _ _ r (fun e => by obtain ⟨us, eu⟩ := l _ (e ▸ r); cases eu)))
  · exact .inl (.inr ⟨o', b _ _ r (fun e => by obtain ⟨us, eu⟩ := l _ (e ▸ r); cases eu)⟩)
  · exact .inr r
theorem PRt.bear {K : PySem.W.Frag} {D : Addr} {H H' : Hp} {u : V} {p : Rat × Rat} (l : ∀ o, H D = some o → ∃ us, o = .lst us) (b : But D H H') (h : PRt K H u p) : PRt K H' u p := by
  obtain ⟨t, v1, v2, e, a, b1, c⟩ := h
  exact ⟨t, v1, v2, e, bearT l b a, bear_rv l b b1, bear_rv l b c⟩
def PrL (K : PySem.W.Frag) (H : Hp) (us : List V) (ps : List (Rat × Rat)) : Prop := us.length = ps.length ∧ ∀ (i : Nat) (u : V) (p : Rat × Rat), us[i]? = some u → ps[i]? = some p → PRt K H u p
theorem PrL.nil {K : PySem.W.Frag} {H : Hp} : PrL K H [] [] := ⟨rfl, fun i u p h => by simp at h⟩
theorem PrL.same {K : PySem.W.Frag} {H H' : Hp} {us : List V} {ps : List (Rat × Rat)} (s : Same H H') (h : PrL K H us ps) : PrL K H' us ps := ⟨h.1, fun i u p a b => (h.2 i u p a b).same s⟩
theorem PrL.bear {K : PySem.W.Frag} {D : Addr} {H H' : Hp} {us : List V} {ps : List (Rat × Rat)} (l : ∀ o, H D = some o → ∃ us, o = .lst us) (b : But D H H') (h : PrL K H us ps) : PrL K H' us ps := ⟨h.1, fun i u p a c => (h.2 i u p a c).bear l b⟩
theorem PrL.snoc {K : PySem.W.Frag} {H : Hp} {us : List V} {ps : List (Rat × Rat)} {u : V} {p : Rat × Rat} (h : PrL K H us ps) (r : PRt K H u p) : PrL K H (us ++ [u]) (ps ++ [p]) := by
  refine ⟨by simp [h.1], fun i v' q' a b => ?_⟩
  rcases Nat.lt_or_ge i us.length with lt | ge
  · rw [List.getElem?_append_left lt] at a
    rw [List.getElem?_append_left (by rw [← h.1]; exact lt)] at b
    exact h.2 i _ _ a b
  · rw [List.getElem?_append_right ge] at a
    rw [List.getElem?_append_right (by rw [← h.1]; exact ge), ← h.1] at b
    cases z : i - us.length with
    | zero =>
      rw [z] at a b
      cases a
      cases b
      exact r
    | succ k =>
      rw [z] at a
      cases a
/-- the number at a knot with each limit there -/
def prK (ks : List Rat) (ps : List (List Rat)) (as : List Rat) (i : Nat) : List (Rat × Rat) := (lims ks ps i).map fun q => (cf as i, q)
def prsOf (ks : List Rat) (ps : List (List Rat)) (as : List Rat) (n : Nat) : List (Rat × Rat) := (List.range n).flatMap (prK ks ps as)
theorem prsOf_snoc {ks : List Rat} {ps : List (List Rat)} {as : List Rat} {i : Nat} : prsOf ks ps as (i + 1) = prsOf ks ps as i ++ prK ks ps as i := by
  unfold prsOf
  rw [List.range_succ, List.flatMap_append]
  simp
theorem prsOf_len {ks : List Rat} {ps : List (List Rat)} {as : List Rat} : ∀ {n : Nat}, (prsOf ks ps as n).length ≤ 2 * n
  | 0 => Nat.le_refl _
  | n + 1 => by
    rw [prsOf_snoc, List.length_append]
    have := prsOf_len (ks := ks) (ps := ps) (as := as) (n := n)
    have z : (prK ks ps as n).length ≤ 2 := by
      unfold prK
      rw [List.length_map]
      exact lims_len
    omega
theorem prs_above {ks : List Rat} {ps : List (List Rat)} {as : List Rat} {n : Nat} : (prsOf ks ps as n).any (fun p => decide (p.1 < p.2)) = abv ks ps as n := by
  unfold prsOf abv prK
  rw [List.any_flatMap]
  congr 1
  funext i
  rw [List.any_map]
  rfl
theorem prs_below {ks : List Rat} {ps : List (List Rat)} {as : List Rat} {n : Nat} : (prsOf ks ps as n).any (fun p => decide (p.2 < p.1)) = blw ks ps as n := by
  unfold prsOf blw prK
  rw [List.any_flatMap]
  congr 1
  funext i
  rw [List.any_map]
  rfl
/-- what stands behind a knot's first j limits, None among them -/
def prJ (ks : List Rat) (ps : List (List Rat)) (as : List Rat) (i : Nat) : Nat → List (Rat × Rat)
  | 0 => []
  | 1 => (limL ks ps i).map fun q => (cf as i, q)
  | _ => prK ks ps as i
section
variable {P : Program} {w : World} {K : PySem.W.Frag} {mg : Str → Option Value} {base : Heap}
def spNlims (K : PySem.W.Frag) (cB cP : Addr) : Sp := fun vs H Q _ => ∃ f ks ps as, vs = [f] ∧ BrkAt K cB cP H f ks ps as ∧ Fsz ks ps ∧ as.length = ks.length ∧ ∀ l us H', Same H H' → H' l = some (.lst us) → PrL K H' us (prsOf ks ps as ks.length) → Q (.ref l) H'
abbrev nNl : List Str := ["f", "found", "index", "number", "limit"]
theorem sc35k : FnScope nNl ["f"] (defScope (top 41)) := ⟨rfl, rfl, rfl, by decide +kernel, rfl, by decide +kernel, by decide +kernel⟩
theorem ok_nlims (T : Tb P K mg) : FnOk P w K mg base CX0 7 T.nlims.f T.nlims.fd ["f"] (spNlims K T.cB T.cP) := by
  have G : FnOk P w K mg base CX0 6 T.klimits.f T.klimits.fd ["f", "index"] (spKlim K T.cB T.cP) := ok_klim T
  refine T.nlims.fn.ok sc35k (fun vs H Q E h => ?_) (fun cdv A outer s H vs Q E hr h => ?_)
  · obtain ⟨f, ks, ps, as, rfl, _⟩ := h
    rfl
  · obtain ⟨f, ks, ps, as, rfl, hB, F, las, k⟩ := h
    have hB0 := hB
    obtain ⟨a, dx, t1, t2, t3, w1, us, w3, rfl, ha, h1, a1, h2, p2, h3, a3⟩ := hB
    refine ⟨_, pss_cons (ps_set (i := 1) sc35k.nd rfl (.inl rfl) (pe_lst pa_nil))
      (pss_cons (ps_for PassesOwn.never rfl (pi_enumT (by rfl) T.mEnum (pa_cons (pe_fld (pv 0) (by rfl)) pa_nil)) (pg_tup (by rfl) (pgs_cons (pg_name (i := 2) sc35k.nd rfl (.inl rfl)) (pgs_cons (pg_name (i := 3) sc35k.nd rfl (.inl rfl)) pgs_nil)))
        (pss_one (ps_for PassesOwn.never rfl (pi_tup (T.klimits.c0 G hr (pa_cons (pv 0) (pa_cons (pv 2) pa_nil)))) (pg_name (i := 4) sc35k.nd rfl (.inl rfl))
          (pss_one (ps_if (pt_cmpR op_notN (pv 4) pe_non (nomark _))
            (pss_one (ps_expr (pe_bm PySem.F.plainAttrs_list PySem.F.slot_list_append PySem.F.type_list_append mt_append (pv 1) (pa_cons (pe_tup (pa_cons (pv 3) (pa_cons (pv 4) pa_nil))) pa_nil)))) pss_nil)))))
      (pss_one (ps_ret (pv 1)))), ?_⟩
    have few := F.few
    have lk0 := F.len
    have l1 := a3.1
    refine ⟨(by show 0 ≤ sizeLine; decide), fun g ng => ?_⟩
    have s1 := Same.new (o := .lst []) ng
    have e1 : upd H g (.lst []) g = some (.lst []) := upd_same
    have gH : ∀ c u, H c = some u → c ≠ g := fun c u e => ne_of_none e ng
    generalize upd H g (.lst []) = H1 at s1 e1
    refine ⟨_, rfl, a, T.cB, dx, _, _, rfl, s1 _ _ ha, T.clB, T.nB3, lkB3, t3, w3, rfl, Kz.Same.seqT s1 h3, ?_⟩
    refine for_enumT (K := K) (a := t3) (xs := w3) (fun i σ H' => i ≤ ks.length ∧ ∃ v2 v3 v4 vs, σ = [some (.ref a), some (.ref g), v2, v3, v4] ∧ H' g = some (.lst vs) ∧ PrL K H' vs (prsOf ks ps as i) ∧ Same H H')
      ⟨Nat.zero_le _, none, none, none, [], rfl, e1, PrL.nil, s1⟩ (fun i σ H' ⟨_, _, _, _, _, _, _, _, s⟩ => Kz.Same.seqT s h3) ?_ ?_
    · rintro i x tt σ H2 hx ⟨_, v2, v3, v4, vs, rfl, hg, pr, s2⟩ ntt
      have hi : i < ks.length := by
        have := (List.getElem?_eq_some_iff.mp hx).1
        omega
      have s3 := Same.new (o := .tup [.int (i : Nat), x]) ntt
      have et : SqT K (upd H2 tt (.tup [.int (i : Nat), x])) tt [.int (i : Nat), x] := SqT.of upd_same
      have rx := ((a3.2 i x _ hx (at_cf (by omega))).same s2).same s3
      have hg3 := s3 _ _ hg
      have pr3 := pr.same s3
      have s23 := s2.trans s3
      generalize upd H2 tt (.tup [.int (i : Nat), x]) = H3 at s3 et rx hg3 pr3 s23
      refine ⟨tt, _, rfl, et, rfl, _, _, rfl, _, _, rfl, rfl, ?_⟩
      refine ⟨_, rfl, _, rfl, _, ks, ps, as, i, rfl, hB0.same s23, F, hi, fun t H4 l r s4 hl kl => ?_⟩
      have s14 := s23.trans s4
      have hg4 := s4 _ _ hg3
      have gt : ∀ c, SqT K H4 c [l, r] → SqT K H4 c [l, r] := fun c h => h
      refine ⟨t, rfl, ⟨_, hl⟩, for_tup (K := K) (a := t) (xs := [l, r]) (fun j σ H' => j ≤ 2 ∧ ∃ v4 us, σ = [some (.ref a), some (.ref g), some (.int (i : Nat)), some x, v4] ∧ H' g = some (.lst us) ∧ PrL K H' us (prsOf ks ps as i ++ prJ ks ps as i j) ∧ Same H H' ∧ But g H4 H')
        ⟨Nat.zero_le _, v4, vs, rfl, hg4, by rw [show prJ ks ps as i 0 = [] from rfl, List.append_nil]; exact pr3.same s4, s14, But.refl⟩ (fun j σ H' _ ⟨_, _, _, _, _, _, _, b⟩ => bearT (fun o e => by rw [hg4] at e; cases e; exact ⟨_, rfl⟩) b hl) ?_ ?_⟩
      · rintro j y σ H5 hy ⟨_, v4, us, rfl, hg5, pr5, s5, b5⟩
        have lu5 : us.length ≤ 990 := by
          have h0 := pr5.1
          rw [List.length_append] at h0
          have h9 := prsOf_len (ks := ks) (ps := ps) (as := as) (n := i)
          have h8 : (prJ ks ps as i j).length ≤ 2 := by
            unfold prJ
            split
            · exact Nat.zero_le _
            · rw [List.length_map]
              unfold limL
              split <;> simp
            · unfold prK
              rw [List.length_map]
              exact lims_len
          omega
        have lst5 : ∀ o, H4 g = some o → ∃ us, o = .lst us := fun o e => by rw [hg4] at e; cases e; exact ⟨_, rfl⟩
        have key : j + 1 ≤ 2 ∧ ((y = .non ∧ prJ ks ps as i (j + 1) = prJ ks ps as i j) ∨ ∃ q, RV K H5 y q ∧ prJ ks ps as i (j + 1) = prJ ks ps as i j ++ [(cf as i, q)]) := by
          obtain ⟨k1, k2, k3, k4⟩ := kl
          match j, hy with
          | 0, hy =>
            cases hy
            refine ⟨by decide, ?_⟩
            by_cases c : 0 < i
            · refine .inr ⟨_, bear_rv lst5 b5 (k2 c), ?_⟩
              show (limL ks ps i).map _ = [] ++ _
              unfold limL
              rw [if_pos c]
              rfl
            · refine .inl ⟨k1 (by omega), ?_⟩
              show (limL ks ps i).map _ = []
              unfold limL
              rw [if_neg c]
              rfl
          | 1, hy =>
            cases hy
            refine ⟨by decide, ?_⟩
            have lk := F.len
            by_cases c : i < ps.length
            · refine .inr ⟨_, bear_rv lst5 b5 (k4 c), ?_⟩
              show (limL ks ps i ++ limR ks ps i).map _ = (limL ks ps i).map _ ++ _
              unfold limR
              rw [if_pos c, List.map_append]
              rfl
            · refine .inl ⟨k3 (by omega), ?_⟩
              show (limL ks ps i ++ limR ks ps i).map _ = (limL ks ps i).map _
              unfold limR
              rw [if_neg c, List.append_nil]
          | j + 2, hy => exact absurd hy (by simp)
        obtain ⟨j2, ⟨rfl, eq⟩ | ⟨q, rq, eq⟩⟩ := key
        · refine ⟨_, rfl, rfl, _, rfl, ite2 (fun z => by cases z) fun _ => ?_⟩
          refine ⟨j2, _, us, rfl, hg5, ?_, s5, b5⟩
          rw [eq]
          exact pr5
        · refine ⟨_, rfl, rfl, _, rfl, ite2 (fun _ => ?_) fun z => ?_⟩
          · refine ⟨_, rfl, .inl ⟨rfl, _, SqL.of hg5⟩, _, rfl, _, rfl, (by show 2 ≤ sizeLine; decide), fun z nz => ?_⟩
            have s6 := Same.new (o := .tup [x, y]) nz
            have hz : SqT K (upd H5 z (.tup [x, y])) z [x, y] := SqT.of upd_same
            have hg6 := s6 _ _ hg5
            have pr6 := pr5.same s6
            have rx6 := ((bear_rv lst5 b5 (rx.same s4)).same s6)
            have rq6 := rq.same s6
            have s06 := s5.trans s6
            have b46 : But g H4 (upd H5 z (.tup [x, y])) := fun c o e n => s6 _ _ (b5 c o e n)
            generalize upd H5 z (.tup [x, y]) = H6 at s6 hz hg6 pr6 rx6 rq6 s06 b46
            have b6 : But g H6 (upd H6 g (.lst (us ++ [.ref z]))) := But.refl.set
            have l6 : ∀ o, H6 g = some o → ∃ us, o = .lst us := fun o e => by rw [hg6] at e; cases e; exact ⟨_, rfl⟩
            refine ⟨g, us, _, rfl, rfl, hg6, le1000 (by omega), j2, _, _, rfl, upd_same, ?_, fun c o e => b6 _ _ (s06 _ _ e) (gH c o e), fun c o e n => b6 _ _ (b46 c o e n) n⟩
            rw [eq, ← List.append_assoc]
            exact (pr6.bear l6 b6).snoc ⟨z, x, y, rfl, bearT l6 b6 hz, bear_rv l6 b6 rx6, bear_rv l6 b6 rq6⟩
          · obtain ⟨t', rfl, _⟩ := rq
            exact absurd rfl z
      · rintro σ H5 ⟨_, v4, us, rfl, hg5, pr5, s5, b5⟩
        refine ⟨hi, _, _, _, us, rfl, hg5, ?_, s5⟩
        rw [prsOf_snoc]
        exact pr5
    · rintro σ H2 ⟨_, v2, v3, v4, vs, rfl, hg, pr, s2⟩
      rw [l1, las] at pr
      exact ⟨_, rfl, k g vs H2 s2 hg pr⟩
end
end Kz
set_option linter.all false
set_option maxRecDepth 100000
set_option maxHeartbeats 4000000
namespace Kz
open PySem PySem.Spec PyProof.Rows L2
/-! ### a tuple whose object is known: its methods may be called -/
def TpN (H : Hp) (t : Addr) (xs : List V) : Prop := ∃ o : Obj, H t = some (.frz o (.tup xs)) ∧ o.dict = none
theorem TpN.seqT {K : PySem.W.Frag} {H : Hp} {t : Addr} {xs : List V} (h : TpN H t xs) : SqT K H t xs := by
  obtain ⟨o, e, _⟩ := h
  exact .inl (.inr ⟨o, e⟩)
theorem TpN.same {H H' : Hp} {t : Addr} {xs : List V} (s : Same H H') (h : TpN H t xs) : TpN H' t xs := by
  obtain ⟨o, e, d⟩ := h
  exact ⟨o, s _ _ e, d⟩
section
variable {X : Cx}
/-- tuple(l), the new tuple's object being known -/
theorem call_tuple_ofN : CallR X (.type "tuple") (fun xs H Q => ∃ p ys, xs = [.ref p] ∧ SqL X.K H p ys ∧ ∀ l H', H l = none → Same H H' → TpN H' l ys → Q (.ref l) H') := by
  intro pins s σ H xs us Q I r h
  obtain ⟨p, ys, rfl, hq, q⟩ := h
  obtain ⟨u, rfl, t, rest⟩ := vals1 r
  obtain ⟨its, r', pl, hz⟩ := I.list hq
  have hlen := r'.length
  refine call_tuple_list pl.isList (fun h' kp => ?_) (by simp only [List.size_toArray] <;> omega)
  have I1 : Inv X pins σ H { s with heap := h' } := I.kept (t' := s.toks) kp
  have new : (h'.push { cls := .type "tuple", data := .seq its.toArray }).get? h'.objs.size = some { cls := .type "tuple", data := .seq its.toArray } := Heap.get?_push_size h' (o := { cls := .type "tuple", data := .seq its.toArray }) rfl
  have I2 : Inv X pins σ (upd H h'.objs.size (.frz { cls := .type "tuple", data := .seq its.toArray } (.tup ys))) { s with heap := h'.push { cls := .type "tuple", data := .seq its.toArray } } :=
    I1.laid (t' := s.toks) (fun b o e => Heap.get?_push_of_some _ e) (Nat.le_refl _) (show ObjOk X.prog X.w _ _ _ (.frz _ (.tup ys)) from ⟨new, hz, its, r', IsTup.new _ _⟩)
  have fr : H h'.objs.size = none := I1.hok.fresh (Nat.le_refl _)
  exact ⟨.ref h'.objs.size, _, I2, rfl, q _ _ fr (Same.new fr) ⟨_, upd_same, rfl⟩⟩
/-- t.m(x), t a tuple whose object is known -/
def tBMT (r : V → List V → Hp → VK → Prop) (to : TE) (t : TA) : TE := fun σ H Q => to σ H fun x H1 => (∃ p xs, x = .ref p ∧ TpN H1 p xs) ∧ t σ H1 fun xs H2 => r x xs H2 Q
variable {o e : Expr} {es : List Expr} {to : TE} {t : TA} {name : Str} {apos cpos : Pos} {id : String} {r : V → List V → Hp → VK → Prop}
theorem pe_bmT (pa : PlainAttrs "tuple") (slot : Slot "tuple" name id) (hty : typeOf (.builtin id) = pure (.type "method_descriptor")) (hm : MtR X id r) (ho : PE X o to) (ha : PA X (e :: es) t)
    (hbase : attributeBase o name X.env (eval o X.env) = eval o X.env := by rfl)
    (hfew : ((backTo cpos (starEach (e :: es) X.env)).all (fun x => !x.1) && (backToKw cpos (keywordEach [] X.env)).all (fun x => x.1.isSome)
      && decide ((e :: es).length + ([] : List Keyword).length + (if ([] : List Keyword).isEmpty then 0 else 1) < 30)) = true := by rfl)
    (hline : (apos.endLine == cpos.line) = true := by rfl) (hs : starEach (e :: es) X.env = (false, eval e X.env) :: starEach es X.env := by rfl) (hplain : (backTo cpos (starEach es X.env)).any (·.1) = false := by rfl) :
    PE X (.Call (.Attribute o name apos) (e :: es) [] cpos) (tBMT r to t) := by
  refine ⟨fun pins s σ H Q I h => ?_⟩
  refine wpAny_Call_method_late hbase hfew hline rfl (thn (ho.run pins s σ H _ I h) fun v s1 ⟨x, H1, I1, r1, ty, q1⟩ => ?_)
  obtain ⟨p, xs, rfl, ob, ep, dn⟩ := ty
  cases r1
  obtain ⟨eo, _, its, _, ⟨o', ho', hc, hn⟩⟩ := I1.hok p _ ep
  have ee : o' = ob := by
    rw [eo] at ho'
    exact (Option.some.inj ho').symm
  subst ee
  refine ⟨"tuple", id, pa, slot, hty, ⟨o', ho', hc⟩, fun a e => by cases e; exact ⟨o', ho', dn⟩, ?_⟩
  have hA := ha.run cpos pins s1 σ H1 _ I1 q1
  rw [hs] at hA ⊢
  refine Calls.callWith_builtin (by show (false || (backTo cpos (starEach es X.env)).any (·.1)) = false; rw [hplain] <;> rfl) (Calls.evalArgs_plain ?_)
  exact thn hA fun us s2 ⟨vs, H2, I2, r2, q2⟩ => hm pins s2 σ H2 (.ref p) vs (.ref p) us Q I2 rfl r2 q2
end
/-- the knots of a function, as a tuple whose object is known -/
def KnF (H : Hp) (v : V) : Prop := ∃ a C dx t1 y z w, v = .ref a ∧ H a = some (.ins C dx (bF (.ref t1) y z)) ∧ TpN H t1 w
theorem KnF.same {H H' : Hp} {v : V} (s : Same H H') (h : KnF H v) : KnF H' v := by
  obtain ⟨a, C, dx, t1, y, z, w, e, ha, ht⟩ := h
  exact ⟨a, C, dx, t1, y, z, w, e, s _ _ ha, ht.same s⟩
theorem KnF.at {H : Hp} {a C dx t1 : Addr} {y z : V} (h : KnF H (.ref a)) (ha : H a = some (.ins C dx (bF (.ref t1) y z))) : ∃ w, TpN H t1 w := by
  obtain ⟨a', C', dx', t1', y', z', w, e, ha', ht⟩ := h
  cases e
  rw [ha] at ha'
  cases ha'
  exact ⟨w, ht⟩
section
variable {P : Program} {w : World} {K : PySem.W.Frag} {mg : Str → Option Value} {base : Heap}
/-- a row, told, as a tuple whose object is known -/
def spTrowN (K : PySem.W.Frag) : Sp := fun vs H Q _ => ∃ a us n m qs, vs = [.ref a] ∧ (SqL K H a us ∨ SqT K H a us) ∧ AlA K H us n m qs ∧ m ≤ 9000 ∧ us.length ≤ 1000 ∧ ∀ t H' ws, Same H H' → TpN H' t ws → Al K H' ws qs → Q (.ref t) H'
theorem ok_trowN (T : Tb P K mg) : FnOk P w K mg base CX0 5 T.told_row.f T.told_row.fd ["row"] (spTrowN K) := by
  have G : FnOk P w K mg base (CX P w) 4 T.told.f T.told.fd ["value", "what"] (spTold K T.cN) := ok_told T.toTx
  refine T.told_row.fn.ok sc20k (fun vs H Q E h => ?_) (fun cdv A outer s H vs Q E hr h => ?_)
  · obtain ⟨a, us, n, m, qs, rfl, _⟩ := h
    rfl
  · obtain ⟨a, us, n, m, qs, rfl, hs, al, m4, len, k⟩ := h
    refine ⟨_, pss_one (ps_ret (pe_callTy call_tuple_ofN (by rfl) T.mTuple boot_ttuple (pa_cons (pe_lc (own := [("number", 1)]) (g := gName 1) (tt := tYes) rfl sc20k.nd (pi_or (pi_list (pv 0)) (pi_tup (pv 0))) (blkOk_by (own := [("number", 1)]) (N := nTr) (sc := defScope (top 21)) (by decide +kernel))
        (fun _ _ _ _ _ => pg_name (i := 1) sc20k.nd rfl (Or.inl rfl)) (fun _ _ _ _ _ => pts_nil) (fun _ _ _ _ _ => T.told.cX G hr (pa_cons (pv 1) (pa_cons pe_str pa_nil)))) pa_nil))), ?_⟩
    have lu := al.1
    have step : ∀ (i : Nat) (x : V), us[i]? = some x → ∀ (acc : List V) (H' : Hp) (Qk : VK), Al K H' acc (qs.take i) → Same H H' → (∀ v' H4, Same H' H4 → Al K H4 (acc ++ [v']) (qs.take (i + 1)) → Qk v' H4) →
        spTold K T.cN [x, .str "number"] H' Qk (fun _ _ _ => False) := by
      intro i x hx acc H' Qk r s1 kk
      have lt : i < qs.length := by
        have := (List.getElem?_eq_some_iff.mp hx).1
        omega
      refine ⟨_, _, rfl, .inl ⟨_, n, m, (al.2 i x _ hx (at_cf lt)).same s1, m4, fun v' H4 s4 rv => kk _ _ s4 ?_⟩⟩
      rw [take_snoc (at_cf lt)]
      exact (Al.same s4 r).snoc rv
    have fin : ∀ (D : Addr) acc H2, H2 D = some (.lst acc) → Al K H2 acc (qs.take us.length) → Same H H2 → ∃ p ys, [V.ref D] = [V.ref p] ∧ SqL K H2 p ys ∧ ∀ l H', H2 l = none → Same H2 H' → TpN H' l ys → Q (.ref l) H' := by
      intro D acc H2 hacc r s2
      rw [lu, List.take_length] at r
      exact ⟨D, acc, rfl, SqL.of hacc, fun t H' nt s3 tn => k t H' acc (s2.trans s3) tn (r.same s3)⟩
    rcases hs with hs | hs
    · refine .inl ⟨_, rfl, a, rfl, ⟨_, hs⟩, fun D hD => ?_⟩
      refine lc_mapL hs len hD (fun i acc H' => Al K H' acc (qs.take i)) bears_al Al.nil ?_ ?_
      · rintro i x hx acc H' Qk Z la r s1 kk
        refine ⟨rfl, ?_⟩
        dsimp only [tYes]
        exact iteT ⟨_, rfl, step i x hx acc H' Qk r s1 kk⟩
      · rintro acc H2 hacc lacc r s2
        exact fin D acc H2 hacc r s2
    · refine .inr ⟨_, rfl, a, rfl, ⟨_, hs⟩, fun D hD => ?_⟩
      refine lc_mapT hs len hD (fun i acc H' => Al K H' acc (qs.take i)) bears_al Al.nil ?_ ?_
      · rintro i x hx acc H' Qk Z la r s1 kk
        refine ⟨rfl, ?_⟩
        dsimp only [tYes]
        exact iteT ⟨_, rfl, step i x hx acc H' Qk r s1 kk⟩
      · rintro acc H2 hacc lacc r s2
        exact fin D acc H2 hacc r s2
end
end Kz
set_option linter.all false
set_option maxRecDepth 100000
set_option maxHeartbeats 4000000
namespace Kz
open PySem PySem.Spec PyProof.Rows L2
theorem atKn_true {ks : List Rat} {q : Rat} (h : atKn ks q = true) : ∃ j, j < ks.length ∧ cf ks j = q := by
  have m : q ∈ ks := of_decide_eq_true h
  obtain ⟨j, hj, e⟩ := List.getElem_of_mem m
  exact ⟨j, hj, by rw [cf_at (List.getElem?_eq_getElem hj)]; exact e⟩
theorem atKn_false {ks : List Rat} {q : Rat} (h : atKn ks q = false) {j : Nat} (hj : j < ks.length) : cf ks j ≠ q := fun e => of_decide_eq_false h (e ▸ cf_mem hj)
theorem from_within {ks : List Rat} {ps : List (List Rat)} {q : Rat} {i : Nat} (F : Fsz ks ps) (lo : cf ks 0 ≤ q) (no : atKn ks q = false) (hi : i < ps.length) (a : q < cf ks (i + 1)) (b : ∀ j, j < i → cf ks (j + 1) ≤ q) : Within ks q i := by
  have lk := F.len
  refine ⟨?_, a⟩
  have ne := atKn_false no (j := i) (by omega)
  have le : cf ks i ≤ q := by
    cases i with
    | zero => exact lo
    | succ i => exact b i (Nat.lt_succ_self i)
  exact Rat.lt_of_le_of_ne le ne
section
variable {P : Program} {w : World} {K : PySem.W.Frag} {mg : Str → Option Value} {base : Heap}
theorem Room.u65 {n : Nat} {A : Around} (h : Room n A) : A.units + 65 < cLine := by
  have := h.un
  omega
/-- where a place may be asked for -/
def PlQ (K : PySem.W.Frag) (H : Hp) (v : V) (ks : List Rat) (q : Rat) : Prop := ∃ n m, ArgQ K H v n m q ∧ Sz n m q ∧ 0 < n ∧ n ≤ 1000 ∧ m ≤ 400 ∧ cf ks 0 ≤ q ∧ q ≤ cf ks (ks.length - 1)
def spBval (K : PySem.W.Frag) (cB cP cN : Addr) : Sp := fun vs H Q E => ∃ f v ks ps as, vs = [f, v] ∧ BrkAt K cB cP H f ks ps as ∧ KnF H f ∧ Fsz ks ps ∧ as.length = ks.length ∧
  ((∃ q, PlQ K H v ks q ∧ ∀ u H' r, Same H H' → RV K H' u r → Vat ks ps as q r → Q u H') ∨ (NoPl K H v ks ∧ ErN cN H E "x" v))
abbrev nBv : List Str := ["self", "x", "place"]
theorem scB2 : FnScope nBv ["self", "x"] (defScope (sB 2)) := ⟨rfl, rfl, rfl, by decide +kernel, rfl, by decide +kernel, by decide +kernel⟩
theorem ok_bval (T : Tb P K mg) : FnOk P w K mg base (CX P w) 7 T.b_value.f T.b_value.fd ["self", "x"] (spBval K T.cB T.cP T.cN) := by
  have G1 : FnOk P w K mg base (CX P w) 6 T.place_in.f T.place_in.fd ["f", "x"] (spPlace K T.cB T.cP T.cN) := ok_place T
  have G2 : FnOk P w K mg base CX0 6 T.piece_from.f T.piece_from.fd ["f", "place"] (spFrom K T.cB T.cP) := ok_from T
  have Gat : FnOk P w K mg base (CX P w) 5 T.p_at.f T.p_at.fd ["self", "place"] (spAt K T.cP T.cN) := ok_at T.toTz
  refine T.b_value.fn.okX scB2 (fun vs H Q E h => ?_) (fun cdv A outer s H vs Q E hr h => ?_)
  · obtain ⟨f, v, ks, ps, as, rfl, _⟩ := h
    rfl
  · obtain ⟨f, v, ks, ps, as, rfl, hB, kn, F, las, h⟩ := h
    have hB0 := hB
    obtain ⟨a, dx, t1, t2, t3, w1, us, w3, rfl, ha, h1, a1, h2, ⟨lu, p2⟩, h3, a3⟩ := hB
    have hu := Room.u65 hr
    have hr5 : Room 5 _ := hr.mono (by decide)
    have tk := takes_of (X := cxOf (CX P w) P w K mg base nBv "Broken.value" (defScope (sB 2)) T.b_value.f cdv A outer s H E) (E := E) rfl rfl rfl rfl
    refine ⟨_, pss_cons (ps_set (i := 2) scB2.nd rfl (.inl rfl) (T.place_in.cS G1 hr tk (pa_cons (pv 0) (pa_cons (pv 1) pa_nil))))
      (pss_cons (ps_if (pt_cmpR (op_inDT hu) (pv 2) (pe_fld (pv 0) (by rfl)) (by rfl))
        (pss_one (ps_ret (pe_ix ix_tup (pe_fld (pv 0) (by rfl)) (pe_bmT PySem.F.plainAttrs_tuple PySem.F.slot_tuple_index PySem.F.type_tuple_index (mt_indexDT hu) (pe_fld (pv 0) (by rfl)) (pa_cons (pv 2) pa_nil)) (fun _ _ => rfl)))) pss_nil)
      (pss_one (ps_ret (pe_meth (pe_ix ix_tup (pe_fld (pv 0) (by rfl)) (T.piece_from.c0 G2 hr (pa_cons (pv 0) (pa_cons (pv 2) pa_nil))) (fun _ _ => rfl)) T.clP T.p_at.me Gat hr5 T.p_at.b .nil passL (pa_cons (pv 2) pa_nil))))), ?_⟩
    have lk := F.len
    have l1 := a1.1
    have l3 := a3.1
    obtain ⟨wk, htk⟩ := kn.at ha
    rcases h with ⟨q, ⟨n, m, aq, zq, n0, n1, m1, lo, hi⟩, k⟩ | ⟨no, er⟩
    · refine ⟨_, rfl, _, rfl, .ref a, v, ks, ps, as, rfl, hB0, F, .inl ⟨q, n, m, aq, by omega, by omega, lo, hi, fun u H1 s1 ru => ?_⟩⟩
      refine ⟨_, rfl, _, rfl, a, T.cB, dx, _, _, rfl, s1 _ _ ha, T.clB, T.nB1, lkB1, in_kn (Kz.Same.seqT s1 h1) (a1.same s1) ru ?_⟩
      cases e : atKn ks q with
      | true =>
        obtain ⟨j, hj, ej⟩ := atKn_true e
        obtain ⟨uc, euc⟩ : ∃ uc, w3[j]? = some uc := ⟨_, List.getElem?_eq_getElem (by omega)⟩
        refine ⟨_, rfl, iteT ⟨_, rfl, a, T.cB, dx, _, _, rfl, s1 _ _ ha, T.clB, T.nB3, lkB3, _, rfl, a, T.cB, dx, _, _, rfl, s1 _ _ ha, T.clB, T.nB1, lkB1, ⟨t1, wk, rfl, htk.same s1⟩, _, rfl, ?_⟩⟩
        dsimp only [tNil]
        refine index_kn (Kz.Same.seqT s1 h1) (a1.same s1) ru F.asc hj ej ?_
        refine ⟨t3, w3, _, _, rfl, rfl, Kz.Same.seqT s1 h3, atI_nat euc, ?_⟩
        exact k uc H1 _ s1 ((a3.2 j uc _ euc (at_cf (by omega))).same s1) (.inr ⟨j, hj, ej, rfl⟩)
      | false =>
        have hi' : q < cf ks ps.length := by
          rw [show ps.length = ks.length - 1 by omega]
          exact Rat.lt_of_le_of_ne hi fun z => atKn_false e (j := ks.length - 1) (by omega) z.symm
        refine ⟨_, rfl, iteF ⟨_, rfl, a, T.cB, dx, _, _, rfl, s1 _ _ ha, T.clB, T.nB2, lkB2, _, rfl, _, rfl, .ref a, u, ks, ps, as, q, n, m, rfl, hB0.same s1, F, ru, zq, by omega, by omega, hi', fun i H2 s2 hi2 ub lb => ?_⟩⟩
        have s12 := s1.trans s2
        obtain ⟨up, eup⟩ : ∃ up, us[i]? = some up := ⟨_, List.getElem?_eq_getElem (by omega)⟩
        have pp := (p2 i up _ eup (pv_at hi2)).same s12
        obtain ⟨zp, tp, lp⟩ := F.pz (k := i) hi2
        obtain ⟨ap, dp, tp', wp, rfl, hap, rp⟩ := id pp
        refine ⟨t2, us, _, _, rfl, rfl, Kz.Same.seqT s12 h2, atI_nat eup, ap, dp, _, rfl, hap, lkPat, _, rfl, ?_⟩
        exact at_reads pp zp lp (ru.same s2) zq n0 n1 m1 fun y H3 s3 ry => k y H3 _ (s12.trans s3) ry (.inl ⟨i, hi2, from_within F lo e hi2 ub lb, rfl⟩)
    · exact ⟨_, rfl, _, rfl, .ref a, v, ks, ps, as, rfl, hB0, F, .inr ⟨no, er⟩⟩
end
end Kz
set_option linter.all false
set_option maxRecDepth 100000
set_option maxHeartbeats 4000000
namespace Kz
open PySem PySem.Spec PyProof.Rows L2
theorem boot_any : bootBuiltins "any" = some (.builtin "any") := by decide +kernel
theorem prs_at {ks : List Rat} {ps : List (List Rat)} {as : List Rat} {n i : Nat} {p : Rat × Rat} (h : (prsOf ks ps as n)[i]? = some p) : ∃ k, k < n ∧ p.1 = cf as k ∧ p.2 ∈ lims ks ps k := by
  have m := List.mem_of_getElem? h
  obtain ⟨k, hk, hp⟩ := List.mem_flatMap.mp m
  obtain ⟨q, hq, rfl⟩ := List.mem_map.mp hp
  exact ⟨k, List.mem_range.mp hk, rfl, hq⟩
section
variable {P : Program} {w : World} {K : PySem.W.Frag} {mg : Str → Option Value} {base : Heap}
/-- a function as its kinds ask of it -/
def BrkZ (K : PySem.W.Frag) (cB cP : Addr) (H : Hp) (f : V) (ks : List Rat) (ps : List (List Rat)) (as : List Rat) : Prop := BrkAt K cB cP H f ks ps as ∧ Fsz ks ps ∧ as.length = ks.length ∧ ∀ q ∈ as, Mz 190 1600 q
theorem BrkZ.same {cB cP : Addr} {H H' : Hp} {f : V} {ks as : List Rat} {ps : List (List Rat)} (s : Same H H') (h : BrkZ K cB cP H f ks ps as) : BrkZ K cB cP H' f ks ps as := ⟨h.1.same s, h.2⟩
def spBkind (K : PySem.W.Frag) (cB cP : Addr) (r : List Rat → List (List Rat) → List Rat → Bool) : Sp := fun vs H Q _ => ∃ f ks ps as, vs = [f] ∧ BrkZ K cB cP H f ks ps as ∧ ∀ H', Same H H' → Q (.bl (r ks ps as)) H'
abbrev nBu : List Str := ["self", "number", "limit"]
theorem scB5 : FnScope nBu ["self"] (defScope (sB 5)) := ⟨rfl, rfl, rfl, by decide +kernel, rfl, by decide +kernel, by decide +kernel⟩
theorem ok_bupper (T : Tb P K mg) : FnOk P w K mg base CX0 8 T.b_upper.f T.b_upper.fd ["self"] (spBkind K T.cB T.cP fun ks ps as => !abv ks ps as ks.length) := by
  have G1 : FnOk P w K mg base CX0 7 T.nlims.f T.nlims.fd ["f"] (spNlims K T.cB T.cP) := ok_nlims T
  have G2 : FnOk P w K mg base (CX P w) 5 T.lower.f T.lower.fd ["one", "other"] (spTwo K T.cN cBin (fun _ v q r => v = .bl (decide (q < r)))) := ok_lower T.toTx
  refine T.b_upper.fn.ok scB5 (fun vs H Q E h => ?_) (fun cdv A outer s H vs Q E hr h => ?_)
  · obtain ⟨f, ks, ps, as, rfl, _⟩ := h
    rfl
  · obtain ⟨f, ks, ps, as, rfl, ⟨hB, F, las, za⟩, k⟩ := h
    have hr5 : Room 5 _ := hr.mono (by decide)
    refine ⟨_, pss_one (ps_ret (pe_not (pe_callB (cr_any rfl) (by rfl) T.mAny boot_any (pa_cons (pe_lc (own := [("number", 1), ("limit", 2)]) (g := gTup K 2 (gCons (gName 1) (gCons (gName 2) gNil))) (tt := tYes) rfl scB5.nd (pi_list (T.nlims.c0 G1 hr (pa_cons (pv 0) pa_nil)))
        (blkOk_by (own := [("number", 1), ("limit", 2)]) (N := nBu) (sc := defScope (sB 5)) (by decide +kernel))
        (fun _ _ _ _ _ => pg_tup (by rfl) (pgs_cons (pg_name (i := 1) scB5.nd rfl (Or.inl rfl)) (pgs_cons (pg_name (i := 2) scB5.nd rfl (Or.inl rfl)) pgs_nil))) (fun _ _ _ _ _ => pts_nil) (fun _ _ _ _ _ => T.lower.cX G2 hr5 (pa_cons (pv 1) (pa_cons (pv 2) pa_nil)))) pa_nil)))), ?_⟩
    refine ⟨_, rfl, f, ks, ps, as, rfl, hB, F, las, fun l us H1 s1 hl pr => ⟨l, rfl, ⟨_, SqL.of hl⟩, fun D hD => ?_⟩⟩
    have lk := F.len
    have few := F.few
    have len := prsOf_len (ks := ks) (ps := ps) (as := as) (n := ks.length)
    have lp := pr.1
    refine lc_mapL (SqL.of hl) (by omega) hD (fun i acc _ => acc = ((prsOf ks ps as ks.length).take i).map fun p => V.bl (decide (p.1 < p.2))) (fun _ _ _ _ _ _ h => h) rfl ?_ ?_
    · rintro i x hx acc H' Qk Z la r s2 kk
      have lt : i < (prsOf ks ps as ks.length).length := by
        have := (List.getElem?_eq_some_iff.mp hx).1
        omega
      have ep := List.getElem?_eq_getElem lt
      obtain ⟨k', hk', e1, e2⟩ := prs_at ep
      obtain ⟨t, v1, v2, rfl, ht, r1, r2⟩ := (pr.2 i x _ hx ep).same s2
      have z1 : Sz 1790 1600 ((prsOf ks ps as ks.length)[i]).1 := by
        rw [e1]
        exact (za _ (cf_mem (by omega))).sz
      have z2 : Sz 1400 1210 ((prsOf ks ps as ks.length)[i]).2 := ((F.lim hk' e2).up (by decide) (by decide) : Mz 190 1210 _).sz
      refine ⟨t, _, rfl, ht, rfl, _, _, rfl, _, _, rfl, rfl, rfl, ?_⟩
      dsimp only [tYes]
      refine iteT ⟨_, rfl, _, rfl, v1, v2, rfl, .inl ⟨_, _, 1790, 1600, 1400, 1210, r1.arg z1, r2.arg z2, by decide, by decide, ⟨by decide, by decide⟩, fun v H4 s4 ev => ?_⟩⟩
      subst ev
      refine kk _ _ s4 ?_
      show acc ++ [_] = ((prsOf ks ps as ks.length).take (i + 1)).map _
      rw [take_snoc ep, List.map_append, r]
      rfl
    · rintro acc H2 hacc lacc r s2
      have r' : acc = ((prsOf ks ps as ks.length).take us.length).map fun p => V.bl (decide (p.1 < p.2)) := r
      rw [lp, List.take_length] at r'
      refine ⟨D, (prsOf ks ps as ks.length).map fun p => decide (p.1 < p.2), rfl, ?_, _, rfl, ?_⟩
      · rw [List.map_map]
        exact r' ▸ SqL.of hacc
      · rw [show ((prsOf ks ps as ks.length).map fun p => decide (p.1 < p.2)).any id = abv ks ps as ks.length by rw [List.any_map]; exact prs_above]
        exact k H2 (s1.trans s2)
end
end Kz
set_option linter.all false
set_option maxRecDepth 100000
set_option maxHeartbeats 4000000
namespace Kz
open PySem PySem.Spec PyProof.Rows L2
theorem lkBup {x y z : V} : (bF x y z).lookup ("is_upper" : Str) = none := by
  have h1 : (("is_upper" : Str) == "knots") = false := by decide +kernel
  have h2 : (("is_upper" : Str) == "polys") = false := by decide +kernel
  have h3 : (("is_upper" : Str) == "at") = false := by decide +kernel
  simp [List.lookup, h1, h2, h3]
theorem lkBlo {x y z : V} : (bF x y z).lookup ("is_lower" : Str) = none := by
  have h1 : (("is_lower" : Str) == "knots") = false := by decide +kernel
  have h2 : (("is_lower" : Str) == "polys") = false := by decide +kernel
  have h3 : (("is_lower" : Str) == "at") = false := by decide +kernel
  simp [List.lookup, h1, h2, h3]
section
variable {P : Program} {w : World} {K : PySem.W.Frag} {mg : Str → Option Value} {base : Heap}
abbrev nBo : List Str := ["self", "number", "limit"]
theorem scB6 : FnScope nBo ["self"] (defScope (sB 6)) := ⟨rfl, rfl, rfl, by decide +kernel, rfl, by decide +kernel, by decide +kernel⟩
theorem ok_blower (T : Tb P K mg) : FnOk P w K mg base CX0 8 T.b_lower.f T.b_lower.fd ["self"] (spBkind K T.cB T.cP fun ks ps as => !blw ks ps as ks.length) := by
  have G1 : FnOk P w K mg base CX0 7 T.nlims.f T.nlims.fd ["f"] (spNlims K T.cB T.cP) := ok_nlims T
  have G2 : FnOk P w K mg base (CX P w) 5 T.lower.f T.lower.fd ["one", "other"] (spTwo K T.cN cBin (fun _ v q r => v = .bl (decide (q < r)))) := ok_lower T.toTx
  refine T.b_lower.fn.ok scB6 (fun vs H Q E h => ?_) (fun cdv A outer s H vs Q E hr h => ?_)
  · obtain ⟨f, ks, ps, as, rfl, _⟩ := h
    rfl
  · obtain ⟨f, ks, ps, as, rfl, ⟨hB, F, las, za⟩, k⟩ := h
    have hr5 : Room 5 _ := hr.mono (by decide)
    refine ⟨_, pss_one (ps_ret (pe_not (pe_callB (cr_any rfl) (by rfl) T.mAny boot_any (pa_cons (pe_lc (own := [("number", 1), ("limit", 2)]) (g := gTup K 2 (gCons (gName 1) (gCons (gName 2) gNil))) (tt := tYes) rfl scB6.nd (pi_list (T.nlims.c0 G1 hr (pa_cons (pv 0) pa_nil)))
        (blkOk_by (own := [("number", 1), ("limit", 2)]) (N := nBo) (sc := defScope (sB 6)) (by decide +kernel))
        (fun _ _ _ _ _ => pg_tup (by rfl) (pgs_cons (pg_name (i := 1) scB6.nd rfl (Or.inl rfl)) (pgs_cons (pg_name (i := 2) scB6.nd rfl (Or.inl rfl)) pgs_nil))) (fun _ _ _ _ _ => pts_nil) (fun _ _ _ _ _ => T.lower.cX G2 hr5 (pa_cons (pv 2) (pa_cons (pv 1) pa_nil)))) pa_nil)))), ?_⟩
    refine ⟨_, rfl, f, ks, ps, as, rfl, hB, F, las, fun l us H1 s1 hl pr => ⟨l, rfl, ⟨_, SqL.of hl⟩, fun D hD => ?_⟩⟩
    have lk := F.len
    have few := F.few
    have len := prsOf_len (ks := ks) (ps := ps) (as := as) (n := ks.length)
    have lp := pr.1
    refine lc_mapL (SqL.of hl) (by omega) hD (fun i acc _ => acc = ((prsOf ks ps as ks.length).take i).map fun p => V.bl (decide (p.2 < p.1))) (fun _ _ _ _ _ _ h => h) rfl ?_ ?_
    · rintro i x hx acc H' Qk Z la r s2 kk
      have lt : i < (prsOf ks ps as ks.length).length := by
        have := (List.getElem?_eq_some_iff.mp hx).1
        omega
      have ep := List.getElem?_eq_getElem lt
      obtain ⟨k', hk', e1, e2⟩ := prs_at ep
      obtain ⟨t, v1, v2, rfl, ht, r1, r2⟩ := (pr.2 i x _ hx ep).same s2
      have z1 : Sz 1790 1600 ((prsOf ks ps as ks.length)[i]).1 := by
        rw [e1]
        exact (za _ (cf_mem (by omega))).sz
      have z2 : Sz 1400 1210 ((prsOf ks ps as ks.length)[i]).2 := ((F.lim hk' e2).up (by decide) (by decide) : Mz 190 1210 _).sz
      refine ⟨t, _, rfl, ht, rfl, _, _, rfl, _, _, rfl, rfl, rfl, ?_⟩
      dsimp only [tYes]
      refine iteT ⟨_, rfl, _, rfl, v2, v1, rfl, .inl ⟨_, _, 1400, 1210, 1790, 1600, r2.arg z2, r1.arg z1, by decide, by decide, ⟨by decide, by decide⟩, fun v H4 s4 ev => ?_⟩⟩
      subst ev
      refine kk _ _ s4 ?_
      show acc ++ [_] = ((prsOf ks ps as ks.length).take (i + 1)).map _
      rw [take_snoc ep, List.map_append, r]
      rfl
    · rintro acc H2 hacc lacc r s2
      have r' : acc = ((prsOf ks ps as ks.length).take us.length).map fun p => V.bl (decide (p.2 < p.1)) := r
      rw [lp, List.take_length] at r'
      refine ⟨D, (prsOf ks ps as ks.length).map fun p => decide (p.2 < p.1), rfl, ?_, _, rfl, ?_⟩
      · rw [List.map_map]
        exact r' ▸ SqL.of hacc
      · rw [show ((prsOf ks ps as ks.length).map fun p => decide (p.2 < p.1)).any id = blw ks ps as ks.length by rw [List.any_map]; exact prs_below]
        exact k H2 (s1.trans s2)
end
end Kz
set_option linter.all false
set_option maxRecDepth 100000
set_option maxHeartbeats 4000000
namespace Kz
open PySem PySem.Spec PyProof.Rows L2
theorem TpN.off {H H' : Hp} {x a C dx : Addr} {fs : List (Str × V)} {xs : List V} (hx : H x = some (.ins C dx fs)) (b : But x H H') (h : TpN H a xs) : TpN H' a xs := by
  obtain ⟨o, e, d⟩ := h
  exact ⟨o, b _ _ e (ne_of e hx (fun z => nomatch z)), d⟩
theorem But.trans' {x : Addr} {H H1 H2 : Hp} (a : But x H H1) (b : But x H1 H2) : But x H H2 := fun c o e n => b c o (a c o e n) n
theorem sameOff {x : Addr} {H0 H H' : Hp} (s : Same H0 H) (n : H0 x = none) (b : But x H H') : Same H0 H' := fun c o e => b c o (s _ _ e) (ne_of_none e n)
/-- a list of ratios, passed -/
def KnOk (K : PySem.W.Frag) (H : Hp) (v : V) (qs : List Rat) : Prop := ∃ a us n m, v = .ref a ∧ SqL K H a us ∧ AlA K H us n m qs ∧ n ≤ 100000 ∧ m ≤ 4000 ∧ us.length ≤ 1000
theorem KnOk.same {K : PySem.W.Frag} {H H' : Hp} {v : V} {qs : List Rat} (s : Same H H') (h : KnOk K H v qs) : KnOk K H' v qs := by
  obtain ⟨a, us, n, m, e, hs, al, r⟩ := h
  exact ⟨a, us, n, m, e, Same.seq s hs, al.same s, r⟩
theorem KnOk.row {K : PySem.W.Frag} {H : Hp} {v : V} {qs : List Rat} {Q : VK} {E : XK} (h : KnOk K H v qs) (k : ∀ H', Same H H' → Q (.bl true) H') : spRow K [v] H Q E := by
  obtain ⟨a, us, n, m, rfl, hs, al, n4, m4, len⟩ := h
  have rbs : RBs K H us (List.replicate us.length true) := ⟨List.length_replicate, fun i u b e1 e2 => by
    have lt : i < us.length := (List.getElem?_eq_some_iff.mp e1).1
    rw [List.getElem?_replicate, if_pos lt] at e2
    cases e2
    exact (al.2 i u _ e1 (at_cf (by rw [← al.1]; exact lt))).rb⟩
  have all1 : (List.replicate us.length true).all id = true := by simp
  exact ⟨.ref a, rfl, .inr ⟨a, us, _, rfl, .inl hs, len, rbs, fun H' s => by rw [all1]; exact k H' s⟩⟩
theorem NotRow.row {K : PySem.W.Frag} {H : Hp} {v : V} {Q : VK} {E : XK} (h : NotRow K H v) (k : ∀ H', Same H H' → Q (.bl false) H') : spRow K [v] H Q E := by
  rcases h with ⟨t, ty, n1, n2⟩ | ⟨a, us, bs, rfl, hs, len, rb, f⟩
  · exact ⟨v, rfl, .inl ⟨t, ty, n1, n2, k⟩⟩
  · exact ⟨_, rfl, .inr ⟨a, us, bs, rfl, hs, len, rb, fun H' s => by rw [f]; exact k H' s⟩⟩
theorem KnOk.len {K : PySem.W.Frag} {H : Hp} {v : V} {qs : List Rat} (h : KnOk K H v qs) : ∃ a us, v = .ref a ∧ SqL K H a us ∧ us.length = qs.length ∧ us.length ≤ 1000 := by
  obtain ⟨a, us, n, m, rfl, hs, al, n4, m4, len⟩ := h
  exact ⟨a, us, rfl, hs, al.1, len⟩
theorem KnOk.told {K : PySem.W.Frag} {H : Hp} {v : V} {qs : List Rat} {Q : VK} {E : XK} (h : KnOk K H v qs) (k : ∀ t H' ws, Same H H' → TpN H' t ws → Al K H' ws qs → Q (.ref t) H') : spTrowN K [v] H Q E := by
  obtain ⟨a, us, n, m, rfl, hs, al, n4, m4, len⟩ := h
  exact ⟨a, us, n, m, qs, rfl, .inl hs, al, by omega, len, k⟩
/-- a list, each item of it a Poly or not -/
def PlL (K : PySem.W.Frag) (cP : Addr) (H : Hp) (v : V) (us : List V) (bs : List Bool) : Prop := ∃ a, v = .ref a ∧ SqL K H a us ∧ us.length ≤ 1000 ∧ bs.length = us.length ∧ ∀ (i : Nat) (u : V) (b : Bool), us[i]? = some u → bs[i]? = some b → PB K cP H u b
theorem PlL.same {K : PySem.W.Frag} {cP : Addr} {H H' : Hp} {v : V} {us : List V} {bs : List Bool} (s : Same H H') (h : PlL K cP H v us bs) : PlL K cP H' v us bs := by
  obtain ⟨a, e, hs, l, lb, r⟩ := h
  exact ⟨a, e, Same.seq s hs, l, lb, fun i u b x y => (r i u b x y).same s⟩
theorem PlL.row {K : PySem.W.Frag} {cP : Addr} {H : Hp} {v : V} {us : List V} {bs : List Bool} {Q : VK} {E : XK} (h : PlL K cP H v us bs) (k : ∀ H', Same H H' → Q (.bl (bs.all id)) H') : spRowp K cP [v] H Q E := by
  obtain ⟨a, rfl, hs, l, lb, r⟩ := h
  exact ⟨.ref a, rfl, .inr ⟨a, us, bs, rfl, hs, l, ⟨lb, r⟩, k⟩⟩
/-- a list of Polys -/
theorem PLs.all {K : PySem.W.Frag} {cP : Addr} {H : Hp} {us : List V} {ps : List (List Rat)} {a : Addr} (h : PLs K cP H us ps) (hs : SqL K H a us) (l : us.length ≤ 1000) : PlL K cP H (.ref a) us (List.replicate us.length true) := by
  refine ⟨a, rfl, hs, l, List.length_replicate, fun i u b e1 e2 => ?_⟩
  have lt : i < us.length := (List.getElem?_eq_some_iff.mp e1).1
  rw [List.getElem?_replicate, if_pos lt] at e2
  cases e2
  obtain ⟨p, ep⟩ : ∃ p, ps[i]? = some p := ⟨_, List.getElem?_eq_getElem (by rw [← h.1]; exact lt)⟩
  exact .inl ⟨rfl, p, h.2 i u p e1 ep⟩
section
variable {P : Program} {w : World} {K : PySem.W.Frag} {mg : Str → Option Value} {base : Heap}
abbrev nB0 : List Str := ["self", "knots", "polys", "at"]
theorem scB0 : FnScope nB0 ["self", "knots", "polys", "at"] (defScope (sB 0)) := ⟨rfl, rfl, rfl, by decide +kernel, rfl, by decide +kernel, by decide +kernel⟩
theorem neF {i j : Int} (h : i = j) : (!decide (V.int i = V.int j)) = false := by
  rw [dec_int]
  simp [h]
theorem putB2 {x y : V} : putF "polys" y [(("knots" : Str), x)] = [(("knots" : Str), x), (("polys" : Str), y)] := by
  unfold putF
  rw [if_neg (by decide +kernel)]
  rfl
theorem putB3 {x y z : V} : putF "at" z [(("knots" : Str), x), (("polys" : Str), y)] = bF x y z := by
  unfold putF
  rw [if_neg (by decide +kernel)]
  unfold putF
  rw [if_neg (by decide +kernel)]
  rfl
end
end Kz
set_option linter.all false
set_option maxRecDepth 100000
set_option maxHeartbeats 4000000
/-! == of two tuples of Polys, equal or not. -/
namespace GQ
open PySem PySem.SeqAt
open AutoSeq1 (wpAny_loadPart')
open MeetsSeq MeetsSeq2 MeetsSeq3 SeqRoads2
section
variable {prog : Program} {w : World} {A : Around} {R : Result → Shared → Prop}
end
section
variable {prog : Program} {w : World} {A : Around} {E : Value → Shared → Prop} {s : Shared}
end
end GQ
set_option linter.all false
set_option maxRecDepth 100000
set_option maxHeartbeats 4000000
namespace Kz
open PySem PySem.Spec PyProof.Rows L2
section
variable {X : Cx} {P : Program} {w : World} {K : PySem.W.Frag} {mg : Str → Option Value} {base : Heap}
end
end Kz
set_option linter.all false
set_option maxRecDepth 100000
set_option maxHeartbeats 4000000
namespace Kz
open PySem PySem.Spec PyProof.Rows L2
structure Tc (P : Program) (K : PySem.W.Frag) (mg : Str → Option Value) extends Tb P K mg where
  iB : PySem.W.findIn K (.ref cB) "__class__" = some (some (.builtin "object.__class__"))
  oB : PySem.W.mroIn K cB (.type "object") = some true
  notB : ∀ t ∈ tyNames, PySem.W.kitOne K (.type t) (.ref cB) = some false
  nIB : PySem.W.subIn K (.type "int") (.ref cB) = some false
  nTB : PySem.W.subIn K (.type "tuple") (.ref cB) = some false
section
variable {P : Program} {w : World} {K : PySem.W.Frag} {mg : Str → Option Value} {base : Heap}
theorem brk_ty (T : Tc P K mg) {H : Hp} {a dx : Addr} {fs : List (Str × V)} (h : H a = some (.ins T.cB dx fs)) : TyX K H (.ref a) (.ref T.cB) := .base (.ins h T.clB T.iB T.gP T.tP T.oB)
end
end Kz
set_option linter.all false
set_option maxRecDepth 100000
set_option maxHeartbeats 4000000
namespace Kz
open PySem PySem.Spec PyProof.Rows L2
section
variable {P : Program} {w : World} {K : PySem.W.Frag} {mg : Str → Option Value} {base : Heap}
end
end Kz
set_option linter.all false
set_option maxRecDepth 100000
set_option maxHeartbeats 4000000
namespace Kz
open PySem PySem.Spec PyProof.Rows L2
/-! ### a comprehension whose test never holds -/
section
variable {K : PySem.W.Frag} {a : Addr} {xs : List V} {g : TG} {tt : TT} {te : TE} {vs : List Nat} {σ : L2.St} {H1 : Hp} {D : Addr} {Qd : Hp → Prop}
abbrev StepNo (g : TG) (tt : TT) (te : TE) (vs : List Nat) (σ : L2.St) (H1 : Hp) (x : V) : Prop :=
  ∀ (H' : Hp) (Qk : VK) (Z : Hp → Prop), Same H1 H' → (∀ H4, Same H' H4 → Z H4) → g x (wipe σ vs) H' fun σ2 H2 => wipe σ2 vs = wipe σ vs ∧ tt σ2 H2 fun b H3 => if b = true then te σ2 H3 Qk else Z H3
theorem lc_noL (hl : SqL K H1 a xs) (hD : H1 D = none) (step : ∀ (i : Nat) (x : V), xs[i]? = some x → StepNo g tt te vs σ H1 x) (fin : ∀ H', H' D = some (.lst []) → Same H1 H' → Qd H') : ∃ W : Nat → Nat → Hp → Prop, (∃ m, W 0 m (upd H1 D (.lst []))) ∧ ∀ i m H, W i m H →
      ((Itl K a).stop i H ∧ Qd H) ∨ ((Itl K a).go i H ∧ ∃ Nx : Hp → Prop, (∀ H', Nx H' → ∃ m', m' < m ∧ W (i + 1) m' H') ∧ ∀ x H', (Itl K a).yld i H x H' → g x (wipe σ vs) H' fun σ2 H2 => wipe σ2 vs = wipe σ vs ∧ tt σ2 H2 fun b H3 =>
        if b = true then te σ2 H3 fun y H4 => ∃ acc, H4 D = some (.lst acc) ∧ acc.length < sizeLine ∧ Nx (upd H4 D (.lst (acc ++ [y]))) else Nx H3) := by
  refine lc_list (fun i H' => H' D = some (.lst []) ∧ Same H1 H') ⟨upd_same, Same.new hD⟩ (fun i H' _ ⟨_, s⟩ => Same.seq s hl) ?_ fun H' ⟨e, s⟩ => fin H' e s
  rintro i x H' hx ⟨e, s⟩
  exact step i x hx H' _ _ s fun H4 s4 => ⟨s4 _ _ e, s.trans s4⟩
end
section
variable {P : Program} {w : World} {K : PySem.W.Frag} {mg : Str → Option Value} {base : Heap}
/-- a row that is new -/
def LRn (K : PySem.W.Frag) (H H' : Hp) (v : V) (qs : List Rat) : Prop := ∃ l ws, v = .ref l ∧ H l = none ∧ H' l = some (.lst ws) ∧ Al K H' ws qs
theorem LRn.lr {H H' : Hp} {v : V} {qs : List Rat} (h : LRn K H H' v qs) : LR K H' v qs := by
  obtain ⟨l, ws, e, _, hl, al⟩ := h
  exact ⟨l, ws, e, hl, al⟩
end
end Kz
set_option linter.all false
set_option maxRecDepth 100000
set_option maxHeartbeats 4000000
namespace Kz
open PySem PySem.Spec PyProof.Rows L2
/-- rows made so far, none of them at D -/
def RwD (K : PySem.W.Frag) (D : Addr) (ps : List (List Rat)) (i : Nat) (acc : List V) (H : Hp) : Prop := acc.length = i ∧ ∀ (j : Nat) (v : V) (p : List Rat), acc[j]? = some v → ps[j]? = some p → ∃ l ws, v = .ref l ∧ l ≠ D ∧ H l = some (.lst ws) ∧ Al K H ws p
theorem RwD.bears {K : PySem.W.Frag} {D : Addr} {ps : List (List Rat)} : Bears D (RwD K D ps) := fun i acc H H' l b h => ⟨h.1, fun j v p e1 e2 => by
  obtain ⟨a, ws, e, n, ha, al⟩ := h.2 j v p e1 e2
  refine ⟨a, ws, e, n, b _ _ ha n, al.1, fun k u q x y => ?_⟩
  exact bear_rv l b (al.2 k u q x y)⟩
theorem RwD.same {K : PySem.W.Frag} {D : Addr} {ps : List (List Rat)} {i : Nat} {acc : List V} {H H' : Hp} (s : Same H H') (h : RwD K D ps i acc H) : RwD K D ps i acc H' := ⟨h.1, fun j v p e1 e2 => by
  obtain ⟨a, ws, e, n, ha, al⟩ := h.2 j v p e1 e2
  exact ⟨a, ws, e, n, s _ _ ha, al.same s⟩⟩
theorem RwD.snoc {K : PySem.W.Frag} {D l : Addr} {ps : List (List Rat)} {i : Nat} {acc ws : List V} {H : Hp} {p : List Rat} (h : RwD K D ps i acc H) (hp : ps[i]? = some p) (n : l ≠ D) (hl : H l = some (.lst ws)) (al : Al K H ws p) : RwD K D ps (i + 1) (acc ++ [.ref l]) H := by
  refine ⟨by rw [List.length_append, h.1]; rfl, fun j v q e1 e2 => ?_⟩
  rcases Nat.lt_or_ge j acc.length with lt | ge
  · rw [List.getElem?_append_left lt] at e1
    exact h.2 j v q e1 e2
  · have z := (List.getElem?_eq_some_iff.mp e1).1
    rw [List.length_append] at z
    have ej : j = acc.length := by
      have : [V.ref l].length = 1 := rfl
      omega
    subst ej
    rw [List.getElem?_append_right (Nat.le_refl _), Nat.sub_self] at e1
    cases e1
    rw [h.1, hp] at e2
    cases e2
    exact ⟨l, ws, rfl, n, hl, al⟩
section
variable {K : PySem.W.Frag} {a : Addr} {xs : List V} {g : TG} {te : TE} {vs : List Nat} {σ : L2.St} {H1 : Hp} {D : Addr} {Qd : Hp → Prop}
end
section
variable {P : Program} {w : World} {K : PySem.W.Frag} {mg : Str → Option Value} {base : Heap}
end
end Kz
set_option linter.all false
set_option maxRecDepth 100000
set_option maxHeartbeats 4000000
namespace Kz
open PySem PySem.Spec PyProof.Rows L2
section
variable {P : Program} {w : World} {K : PySem.W.Frag} {mg : Str → Option Value} {base : Heap}
/-- ratios that were passed so far -/
def PassR (K : PySem.W.Frag) (p c D : Addr) (m α β : Nat) (qs : List Rat) (i : Nat) (acc : List V) (H : Hp) : Prop := Pen H p c (m + 3 * i) ∧ AlA K H acc (α + 2) (β + 2) (qs.take i) ∧ ∀ u ∈ acc, u ≠ .ref D
theorem PassR.bears {p c D : Addr} {m α β : Nat} {qs : List Rat} (nc : D ≠ c) : Bears D (PassR K p c D m α β qs) := fun i acc H H' l b ⟨pn, aa, hq⟩ =>
  ⟨bear_pen l nc b pn, ⟨aa.1, fun x v q e1 e2 => bear_argQ l (hq v (List.mem_of_getElem? e1)) b (aa.2 x v q e1 e2)⟩, hq⟩
theorem bear_poly {cP D : Addr} {H H' : Hp} {v : V} {q : List Rat} (l : ∀ o, H D = some o → ∃ us, o = .lst us) (b : But D H H') (h : PolyAt K cP H v q) : PolyAt K cP H' v q := by
  obtain ⟨a, dx, t, ws, e, ha, ht, al, tr⟩ := h
  refine ⟨a, dx, t, ws, e, b _ _ ha (fun z => ?_), bearT l b ht, ⟨al.1, fun i v q x y => bear_rv l b (al.2 i v q x y)⟩, tr⟩
  obtain ⟨us, eu⟩ := l _ (z ▸ ha)
  cases eu
/-- Polys made so far -/
def PolR (K : PySem.W.Frag) (cP p c : Addr) (m : Nat) (ps : List (List Rat)) (i : Nat) (acc : List V) (H : Hp) : Prop := Pen H p c (m + 24 * i) ∧ PLs K cP H acc (ps.take i)
theorem PolR.bears {cP p c D : Addr} {m : Nat} {ps : List (List Rat)} (nc : D ≠ c) : Bears D (PolR K cP p c m ps) := fun i acc H H' l b ⟨pn, aa⟩ =>
  ⟨bear_pen l nc b pn, aa.1, fun j u q x y => bear_poly l b (aa.2 j u q x y)⟩
theorem PLs.snoc {cP : Addr} {H : Hp} {us : List V} {ps : List (List Rat)} {u : V} {p : List Rat} (h : PLs K cP H us ps) (r : PolyAt K cP H u p) : PLs K cP H (us ++ [u]) (ps ++ [p]) := by
  refine ⟨by simp [h.1], fun i v' q' a b => ?_⟩
  rcases Nat.lt_or_ge i us.length with lt | ge
  · rw [List.getElem?_append_left lt] at a
    rw [List.getElem?_append_left (by rw [← h.1]; exact lt)] at b
    exact h.2 i _ _ a b
  · rw [List.getElem?_append_right ge] at a
    rw [List.getElem?_append_right (by rw [← h.1]; exact ge), ← h.1] at b
    cases z : i - us.length with
    | zero =>
      rw [z] at a b
      cases a
      cases b
      exact r
    | succ k =>
      rw [z] at a
      cases a
end
end Kz
set_option linter.all false
set_option maxRecDepth 100000
set_option maxHeartbeats 4000000
namespace Kz
open PySem PySem.Spec PyProof.Rows L2
theorem subU {G H : Hp} {R : Addr} {o : HO} (g : Same G H) (n : G R = none) : Same G (upd H R o) := fun b u e => by
  rw [upd_ne (ne_of_none e n)]
  exact g b u e
theorem cl_nt {p b : Addr} {H : Hp} {o : HO} (e : Kz.cl p H b = some o) : ∀ ps, o ≠ .tbl ps := (cl_some e).2.2
def fnD (ks : List Rat) (ps : List (List Rat)) (as : List Rat) : PyData := .tuple [pdR ks, .list (ps.map pdR), pdR as]
theorem LRR.dpAll {K : PySem.W.Frag} {H : Hp} : ∀ {vs : List V} {ps : List (List Rat)}, vs.length = ps.length → (∀ (i : Nat) (u : V) (p : List Rat), vs[i]? = some u → ps[i]? = some p → LR K H u p) → DpAll K H vs (ps.map pdR)
  | [], [], _, _ => .nil
  | [], _ :: _, e, _ => by cases e
  | _ :: _, [], e, _ => by cases e
  | v :: vs, p :: ps, e, h => by
    obtain ⟨l, ws, rfl, hl, al⟩ := h 0 v p rfl rfl
    exact .cons (.lst (SqL.of hl) al.dp) (LRR.dpAll (Nat.succ.inj e) fun i u q a b => h (i + 1) u q a b)
theorem FnV.dp {K : PySem.W.Frag} {H : Hp} {v : V} {ks as : List Rat} {ps : List (List Rat)} (h : FnV K H v ks ps as) : Dp K H v (fnD ks ps as) := by
  obtain ⟨t, a, b, c, rfl, ht, ⟨la, wa, rfl, ha, ala⟩, ⟨lb, wb, rfl, hb, lnb, alb⟩, ⟨lc, wc, rfl, hc, alc⟩⟩ := h
  exact .tup ht (.cons (.lst (SqL.of ha) ala.dp) (.cons (.lst (SqL.of hb) (LRR.dpAll lnb alb)) (.cons (.lst (SqL.of hc) alc.dp) .nil)))
section
variable {K : PySem.W.Frag} {p c : Addr} {n : Nat} {H : Hp}
theorem Pen.cLrr {v : V} {ps : List (List Rat)} (pen : Pen H p c n) (h : LRR K H v ps) : LRR K (Kz.cl p H) v ps := by
  obtain ⟨l, vs, e, hl, m, al⟩ := h
  exact ⟨l, vs, e, pen.cHas hl (fun _ z => nomatch z) (fun _ z => nomatch z), m, fun i u q a d => pen.cLr (al i u q a d)⟩
theorem Pen.cFnv {v : V} {ks as : List Rat} {ps : List (List Rat)} (pen : Pen H p c n) (h : FnV K H v ks ps as) : FnV K (Kz.cl p H) v ks ps as := by
  obtain ⟨t, x, y, z, e, ht, h1, h2, h3⟩ := h
  exact ⟨t, x, y, z, e, pen.cT ht, pen.cLr h1, pen.cLrr h2, pen.cLr h3⟩
end
theorem PlQ.same {K : PySem.W.Frag} {H H' : Hp} {v : V} {ks : List Rat} {q : Rat} (s : Same H H') (h : PlQ K H v ks q) : PlQ K H' v ks q := by
  obtain ⟨n, m, a, r⟩ := h
  exact ⟨n, m, a.same s, r⟩
end Kz
set_option linter.all false
set_option maxRecDepth 100000
set_option maxHeartbeats 4000000
namespace Kz
open PySem PySem.Spec PyProof.Rows L2
abbrev sS (i : Nat) : Stmt := inClass (top 43) i
abbrev sT (i : Nat) : Stmt := inClass (top 44) i
/-! ### shares and told means -/
structure Tg (P : Program) (K : PySem.W.Frag) (mg : Str → Option Value) extends Tc P K mg where
  mSum : mg "sum" = none
  gap_of : Df K mg "gap_of" (top 17) ["bits"]
  sum_of : Df K mg "sum_of" (top 22) ["row"]
  whole_parts : Df K mg "are_whole_parts" (top 23) ["row"]
  jsums : Df K mg "joint_sums" (top 26) ["rows", "amounts"]
  jsum : Df K mg "joint_sum" (top 27) ["row", "amounts"]
  fU : Addr
  dU : FuncData
  iU : InitT K P "Unlike.__init__" sI6 cU fU dU
  bU : Binds K dU ["self", "what"] []
  nU1 : PySem.W.findIn K (.ref cU) "what" = some none
  ft : Addr
  ftd : FuncData
  ftF : FunD K "fits" "fits" (defArgs (top 61)) (defBody (top 61)) (defScope (top 61)) [V.non] [] ft ftd
  mgF : mg "fits" = some (.ref ft)
  cS : Addr
  mgS : mg "Share" = some (.ref cS)
  clS : Cls K cS
  nSh1 : NoAttr K cS "places"
  nSh2 : NoAttr K cS "parts"
  s_init : Dm K cS "__init__" "Share.__init__" (sS 0) ["self", "places", "parts"]
  mkS : Mk K cS s_init.f
  cT : Addr
  mgT : mg "Told" = some (.ref cT)
  clT : Cls K cT
  nTo1 : NoAttr K cT "function"
  nTo2 : NoAttr K cT "least"
  nTo3 : NoAttr K cT "most"
  t_init : Dm K cT "__init__" "Told.__init__" (sT 0) ["self", "function", "least", "most"]
  mkT : Mk K cT t_init.f
  are_parts : Df K mg "are_parts" (top 45) ["value", "many"]
  is_bk : Df K mg "is_bounded_kind" (top 46) ["function"]
  is_within : Df K mg "is_within" (top 47) ["share", "low", "high"]
  means_of : Df K mg "means_of" (top 48) ["share", "functions"]
  check_st : Df K mg "check_one_stretch" (top 56) ["functions"]
  funcs_of : Df K mg "functions_of" (top 57) ["rows"]
  gap_missed : Df K mg "gap_missed" (top 58) ["found", "rows"]
  check_pl : Df K mg "check_places" (top 59) ["share", "rows"]
  missed : Df K mg "missed" (top 60) ["share", "rows"]
theorem boot_sumK : bootBuiltins "sum" = some (.builtin "sum") := by decide +kernel
def sumR : List Rat → Rat
  | [] => 0
  | q :: qs => q + sumR qs
theorem sum_tops {L : Nat} : ∀ {qs : List Rat}, (∀ q ∈ qs, q.den ∣ L) → (((qs.map (topOf L)).sum : Int) : Rat) = sumR qs * (L : Rat)
  | [], _ => by show ((0 : Int) : Rat) = 0 * (L : Rat); rw [Rat.zero_mul]; rfl
  | q :: qs, h => by
    show ((topOf L q + (qs.map (topOf L)).sum : Int) : Rat) = (q + sumR qs) * (L : Rat)
    rw [Rat.intCast_add, topOf_eq (h q List.mem_cons_self), sum_tops fun r hr => h r (List.mem_cons_of_mem _ hr), Rat.add_mul]
theorem divInt_of {z : Int} {L : Nat} {q : Rat} (L0 : 0 < L) (h : (z : Rat) = q * (L : Rat)) : Rat.divInt z ((L : Nat) : Int) = q := by
  rw [Rat.divInt_eq_div, h, Rat.intCast_natCast]
  have n0 : (L : Rat) ≠ 0 := fun z => by have := Rat.natCast_eq_zero_iff.mp z; omega
  rw [Rat.div_def, Rat.mul_assoc, Rat.mul_inv_cancel _ n0, Rat.mul_one]
section
variable {P : Program} {w : World} {K : PySem.W.Frag} {mg : Str → Option Value} {base : Heap}
def spSumOf (K : PySem.W.Frag) : Sp := fun vs H Q _ => ∃ a us n m qs, vs = [.ref a] ∧ (SqL K H a us ∨ SqT K H a us) ∧ AlA K H us n m qs ∧ m ≤ 1000 ∧ n ≤ 100000 ∧ us.length ≤ 100 ∧ m * us.length + 2 ≤ 8000 ∧
  ∀ v H', Same H H' → RV K H' v (sumR qs) → Q v H'
abbrev nSog : List Str := ["row", "tops", "bottom"]
theorem sc21g : FnScope nSog ["row"] (defScope (top 22)) := ⟨rfl, rfl, rfl, by decide +kernel, rfl, by decide +kernel, by decide +kernel⟩
theorem ok_sumof (T : Tg P K mg) : FnOk P w K mg base CX0 6 T.sum_of.f T.sum_of.fd ["row"] (spSumOf K) := by
  have G1 : FnOk P w K mg base CX0 5 T.told_row.f T.told_row.fd ["row"] (spTrowN K) := ok_trowN T.toTb
  have G2 : FnOk P w K mg base CX0 1 T.over_one.f T.over_one.fd ["pairs"] (spOver K) := ok_over T.toTz
  have G3 : FnOk P w K mg base CX0 1 T.lowest.f T.lowest.fd ["top", "bottom"] (spLow K) := ok_low T.toTx
  refine T.sum_of.fn.ok sc21g (fun vs H Q E h => ?_) (fun cdv A outer s H vs Q E hr h => ?_)
  · obtain ⟨a, us, n, m, qs, rfl, _⟩ := h
    rfl
  · obtain ⟨a, us, n, m, qs, rfl, hs, al, m1, n1, len, ml, k⟩ := h
    have hr1 : Room 1 _ := hr.mono (by decide)
    refine ⟨_, pss_cons (ps_asg (T.over_one.c0 G2 hr1 (pa_cons (T.told_row.c0 G1 hr (pa_cons (pv 0) pa_nil)) pa_nil)) (pg_tup (by rfl) (pgs_cons (pg_name (i := 1) sc21g.nd rfl (.inl rfl)) (pgs_cons (pg_name (i := 2) sc21g.nd rfl (.inl rfl)) pgs_nil))))
      (pss_one (ps_ret (T.lowest.c0 G3 hr1 (pa_cons (pe_callB (cr_sum rfl) (by rfl) T.mSum boot_sumK (pa_cons (pv 1) pa_nil)) (pa_cons (pv 2) pa_nil))))), ?_⟩
    have lu := al.1
    have zq : SzA n m qs := fun i hi => (al.2 i _ _ (List.getElem?_eq_getElem (by omega)) (at_cf hi)).sz
    refine ⟨_, rfl, a, us, n, m, qs, rfl, hs, al, by omega, by omega, fun t H1 ws s1 ht aw => ?_⟩
    refine ⟨t, ws, qs, n, m, rfl, ht.seqT, aw, zq, by omega, by omega, by rw [← lu]; omega, by omega, fun p l H2 s2 hp hl _ => ?_⟩
    refine ⟨p, _, rfl, hp, rfl, _, _, rfl, _, _, rfl, rfl, ?_⟩
    have L0 := lcs_pos qs
    have Lb : lcs qs < 2 ^ 9000 := Nat.lt_of_lt_of_le (lcs_lt qs zq.mem) (pow_up (by rw [← lu]; omega))
    refine ⟨_, rfl, l, _, rfl, SqL.of hl, _, rfl, _, _, rfl, by exact_mod_cast L0, by simpa using Lb, fun v H3 s3 rv => ?_⟩
    have e : Rat.divInt (topsOf qs).sum ((lcs qs : Nat) : Int) = sumR qs := divInt_of L0 (sum_tops (lcs_dvd qs))
    rw [e] at rv
    exact k v H3 ((s1.trans s2).trans s3) rv
end
end Kz
set_option linter.all false
set_option maxRecDepth 100000
set_option maxHeartbeats 4000000
namespace Kz
open PySem PySem.Spec PyProof.Rows L2
def dotR : List Rat → List Rat → Rat
  | v :: vs, p :: ps => v * p + dotR vs ps
  | _, _ => 0
def tw (L M : Nat) (vs ps : List Rat) : List Int := List.zipWith (fun v p => topOf L v * topOf M p) vs ps
theorem sum_tw {L M : Nat} : ∀ {vs ps : List Rat}, (∀ q ∈ vs, q.den ∣ L) → (∀ q ∈ ps, q.den ∣ M) → (((tw L M vs ps).sum : Int) : Rat) = dotR vs ps * ((L * M : Nat) : Rat)
  | [], _, _, _ => by
    show ((0 : Int) : Rat) = (0 : Rat) * _
    rw [Rat.zero_mul]
    rfl
  | _ :: _, [], _, _ => by
    show ((0 : Int) : Rat) = (0 : Rat) * _
    rw [Rat.zero_mul]
    rfl
  | v :: vs, p :: ps, h, g => by
    show ((topOf L v * topOf M p + (tw L M vs ps).sum : Int) : Rat) = (v * p + dotR vs ps) * ((L * M : Nat) : Rat)
    rw [Rat.intCast_add, Rat.intCast_mul, topOf_eq (h v List.mem_cons_self), topOf_eq (g p List.mem_cons_self), sum_tw (fun r hr => h r (List.mem_cons_of_mem _ hr)) (fun r hr => g r (List.mem_cons_of_mem _ hr)), Rat.natCast_mul, Rat.add_mul]
    congr 1
    grind
theorem tw_len {L M : Nat} {vs ps : List Rat} (h : vs.length = ps.length) : (tw L M vs ps).length = vs.length := by
  unfold tw
  rw [List.length_zipWith]
  omega
theorem tw_at {L M : Nat} {vs ps : List Rat} {i : Nat} (h : i < vs.length) (g : i < ps.length) : (tw L M vs ps)[i]? = some (topOf L (cf vs i) * topOf M (cf ps i)) := by
  unfold tw
  rw [List.getElem?_zipWith, at_cf h, at_cf g]
theorem topOf_lt {n m k L : Nat} {q : Rat} (z : Sz n m q) (h : L < 2 ^ k) : (topOf L q).natAbs < 2 ^ (n + k) := by
  unfold topOf
  exact wide_lt z.1 (by
    have : (((L / q.den : Nat) : Int)).natAbs = L / q.den := rfl
    rw [this]
    exact Nat.lt_of_le_of_lt (Nat.div_le_self _ _) h)
section
variable {P : Program} {w : World} {K : PySem.W.Frag} {mg : Str → Option Value} {base : Heap}
def spOverL (K : PySem.W.Frag) : Sp := fun vs H Q _ => ∃ t ws qs n m, vs = [.ref t] ∧ SqL K H t ws ∧ Al K H ws qs ∧ SzA n m qs ∧ m ≤ 9000 ∧ qs.length ≤ 1000 ∧ m * qs.length + 2 ≤ 13000 ∧ n ≤ 400000 ∧
  ∀ p l H', Same H H' → SqT K H' p [.ref l, .int ((lcs qs : Nat) : Int)] → H' l = some (.lst ((topsOf qs).map V.int)) → H l = none → Q (.ref p) H'
theorem ok_overL (T : Tz P K mg) : FnOk P w K mg base CX0 1 T.over_one.f T.over_one.fd ["pairs"] (spOverL K) := by
  refine T.over_one.fn.ok sc28 (fun vs H Q E h => ?_) (fun cdv A outer s H vs Q E hr h => ?_)
  · obtain ⟨t, ws, qs, n, m, rfl, _⟩ := h
    rfl
  · obtain ⟨t, ws, qs, n, m, rfl, ht, al, zq, m9, len, lm, nn, q⟩ := h
    refine ⟨_, pss_cons (ps_set (i := 1) sc28.nd rfl (.inr rfl) pe_int)
      (pss_cons (ps_for PassesOwn.never rfl (pi_list (pv 0)) (pg_tup (by rfl) (pgs_cons (pg_name (i := 2) sc28.nd rfl (.inl rfl)) (pgs_cons (pg_name (i := 3) sc28.nd rfl (.inl rfl)) pgs_nil)))
        (pss_one (ps_set (i := 1) sc28.nd rfl (.inr rfl) (pe_callBfun cr_lcm (by rfl) T.mLcm (pa_cons (pv 1) (pa_cons (pv 3) pa_nil))))))
      (pss_one (ps_ret (pe_tup (pa_cons (pe_lc (own := [("top", 4), ("bottom", 3)]) (g := gTup K 2 (gCons (gName 4) (gCons (gName 3) gNil))) (tt := tYes) rfl sc28.nd (pi_list (pv 0)) (blkOk_by (own := [("top", 4), ("bottom", 3)]) (N := nOv) (sc := defScope (top 24)) (by decide +kernel))
        (fun _ _ _ _ _ => pg_tup (by rfl) (pgs_cons (pg_name (i := 4) sc28.nd rfl (Or.inl rfl)) (pgs_cons (pg_name (i := 3) sc28.nd rfl (Or.inl rfl)) pgs_nil))) (fun _ _ _ _ _ => pts_nil) (fun _ _ _ _ _ => pe_op op_mulW (pv 4) (pe_op op_fdivF (pv 1) (pv 3)))) (pa_cons (pv 1) pa_nil)))))), ?_⟩
    have lt2 : ∀ i, i ≤ qs.length → lcs (qs.take i) < 2 ^ 12999 := fun i hi => by
      have z : ∀ q ∈ qs.take i, Sz n m q := fun q hq => zq.mem q (List.mem_of_mem_take hq)
      refine Nat.lt_of_lt_of_le (lcs_lt _ z) (pow_up ?_)
      have : (qs.take i).length ≤ qs.length := by rw [List.length_take]; omega
      have := Nat.mul_le_mul_left m this
      omega
    refine ⟨_, rfl, t, rfl, ⟨_, ht⟩, for_list (K := K) (a := t) (xs := ws) (fun i σ H' => H' = H ∧ i ≤ ws.length ∧ ∃ v v', σ = [some (.ref t), some (.int ((lcs (qs.take i) : Nat) : Int)), v, v', none]) ⟨rfl, Nat.zero_le _, none, none, rfl⟩ (fun i σ H' _ ⟨e, _⟩ => e ▸ ht) ?_ ?_⟩
    · rintro i x σ H' hx ⟨rfl, le, v, v', rfl⟩
      have lt : i < ws.length := (List.getElem?_eq_some_iff.mp hx).1
      have ltq : i < qs.length := by rw [← al.1]; exact lt
      obtain ⟨t', rfl, ht'⟩ := al.2 i x _ hx (at_cf ltq)
      refine ⟨t', _, rfl, ht', rfl, _, _, rfl, _, _, rfl, rfl, ?_⟩
      have zi := (zq i ltq).2
      refine ⟨_, rfl, _, rfl, _, _, rfl, ?_, ?_, rfl, lt, some (.int (cf qs i).num), some (.int ((cf qs i).den : Int)), ?_⟩
      · exact Nat.lt_of_lt_of_le (lt2 i (by omega)) (pow_up (by decide))
      · exact Nat.lt_of_lt_of_le zi (pow_up (by omega))
      · rw [take_snoc (at_cf ltq), lcs_snoc]
        rfl
    · rintro σ H' ⟨rfl, _, v, v', rfl⟩
      rw [al.1, List.take_length]
      refine ⟨_, rfl, t, rfl, ⟨_, ht⟩, fun D hD => ?_⟩
      refine lc_mapL ht (by rw [al.1]; exact len) hD (fun i acc _ => acc = ((topsOf qs).take i).map V.int) bears_pure rfl ?_ ?_
      · intro i x hx acc H2 Qk Z l r s k
        have lt : i < ws.length := (List.getElem?_eq_some_iff.mp hx).1
        have ltq : i < qs.length := by rw [← al.1]; exact lt
        obtain ⟨t', rfl, ht'⟩ := (al.2 i x _ hx (at_cf ltq)).same s
        refine ⟨t', _, rfl, ht', rfl, _, _, rfl, _, _, rfl, rfl, rfl, ?_⟩
        dsimp only [tYes]
        have zi := zq i ltq
        have dv : (((lcs qs : Nat) : Int)).fdiv (((cf qs i).den : Nat) : Int) = ((lcs qs / (cf qs i).den : Nat) : Int) := by
          rw [Int.fdiv_eq_ediv_of_nonneg _ (Int.natCast_nonneg _), ← Int.natCast_ediv]
        have lL := lt2 qs.length (Nat.le_refl _)
        rw [List.take_length] at lL
        refine iteT ⟨_, rfl, _, rfl, _, rfl, _, _, rfl, rfl, cdivF (Int.ne_of_gt (den_pos' _)) (up_lt (den_abs zi) m9), _, _, rfl, rfl, ?_, k _ _ (Same.refl _) ?_⟩
        · rw [dv]
          refine cmulW zi.1 (b := 13000) ?_ (by omega)
          refine Nat.lt_of_le_of_lt (Nat.div_le_self _ _) (Nat.lt_of_lt_of_le lL (pow_up (by decide)))
        · show acc ++ [V.int ((cf qs i).num * _)] = ((topsOf qs).take (i + 1)).map V.int
          rw [dv, take_snoc (tops_get ltq), List.map_append, r]
          rfl
      · intro acc H2 hacc lacc r s
        have r' : acc = ((topsOf qs).take ws.length).map V.int := r
        have ln : (topsOf qs).length = qs.length := List.length_map _
        rw [al.1, ← ln, List.take_length] at r'
        subst r'
        refine ⟨_, rfl, (by show 2 ≤ sizeLine; decide), fun p hp => ?_⟩
        refine q p D _ (s.trans (Same.new hp)) (SqT.of upd_same) ?_ hD
        rw [upd_ne (ne_of_none hacc hp)]
        exact hacc

def spJs (K : PySem.W.Frag) : Sp := fun vs H Q _ => ∃ r l t us vals ws parts n m n' m', vs = [.ref r, .ref t] ∧ SqL K H r [.ref l] ∧ SqL K H l us ∧ Al K H us vals ∧ SzA n m vals ∧ SqT K H t ws ∧ Al K H ws parts ∧ SzA n' m' parts ∧ vals.length = parts.length ∧ vals.length ≤ 20 ∧
  m ≤ 1000 ∧ m' ≤ 1000 ∧ n ≤ 100000 ∧ n' ≤ 100000 ∧ m * vals.length + m' * vals.length + 2 ≤ 8000 ∧ ∀ p v H', Same H H' → H' p = some (.lst [v]) → RV K H' v (dotR vals parts) → Q (.ref p) H'
abbrev nJs : List Str := ["rows", "amounts", "factors", "below", "found", "row", "tops", "bottom", "top", "factor"]
theorem sc24g : FnScope nJs ["rows", "amounts"] (defScope (top 26)) := ⟨rfl, rfl, rfl, by decide +kernel, rfl, by decide +kernel, by decide +kernel⟩
theorem ok_jsums (T : Tg P K mg) : FnOk P w K mg base CX0 2 T.jsums.f T.jsums.fd ["rows", "amounts"] (spJs K) := by
  have G1 : FnOk P w K mg base CX0 1 T.over_one.f T.over_one.fd ["pairs"] (spOver K) := ok_over T.toTz
  have G2 : FnOk P w K mg base CX0 1 T.over_one.f T.over_one.fd ["pairs"] (spOverL K) := ok_overL T.toTz
  have G3 : FnOk P w K mg base CX0 1 T.lowest.f T.lowest.fd ["top", "bottom"] (spLow K) := ok_low T.toTx
  refine T.jsums.fn.ok sc24g (fun vs H Q E h => ?_) (fun cdv A outer s H vs Q E hr h => ?_)
  · obtain ⟨r, l, t, us, vals, ws, parts, n, m, n', m', rfl, _⟩ := h
    rfl
  · obtain ⟨r, l, t, us, vals, ws, parts, n, m, n', m', rfl, hr0, hl, al, zv, ht, aw, zp, len, l20, m1, m2, n1, n2, mm, k⟩ := h
    refine ⟨_, pss_cons (ps_asg (T.over_one.c0 G1 hr (pa_cons (pv 1) pa_nil)) (pg_tup (by rfl) (pgs_cons (pg_name (i := 2) sc24g.nd rfl (.inl rfl)) (pgs_cons (pg_name (i := 3) sc24g.nd rfl (.inl rfl)) pgs_nil))))
      (pss_cons (ps_set (i := 4) sc24g.nd rfl (.inl rfl) (pe_lst pa_nil))
      (pss_cons (ps_for PassesOwn.never rfl (pi_list (pv 0)) (pg_name (i := 5) sc24g.nd rfl (.inl rfl))
        (pss_cons (ps_asg (T.over_one.c0 G2 hr (pa_cons (pv 5) pa_nil)) (pg_tup (by rfl) (pgs_cons (pg_name (i := 6) sc24g.nd rfl (.inl rfl)) (pgs_cons (pg_name (i := 7) sc24g.nd rfl (.inl rfl)) pgs_nil))))
        (pss_one (ps_expr (pe_bm PySem.F.plainAttrs_list PySem.F.slot_list_append PySem.F.type_list_append mt_append (pv 4) (pa_cons (T.lowest.c0 G3 hr (pa_cons (pe_callB (cr_sum rfl) (by rfl) T.mSum boot_sumK (pa_cons
          (pe_lc (own := [("top", 8), ("factor", 9)]) (g := gTup K 2 (gCons (gName 8) (gCons (gName 9) gNil))) (tt := tYes) rfl sc24g.nd (pi_zip (by rfl) T.mZip (pa_cons (pv 6) (pa_cons (pv 2) pa_nil))) (blkOk_by (own := [("top", 8), ("factor", 9)]) (N := nJs) (sc := defScope (top 26)) (by decide +kernel))
            (fun _ _ _ _ _ => pg_tup (by rfl) (pgs_cons (pg_name (i := 8) sc24g.nd rfl (Or.inl rfl)) (pgs_cons (pg_name (i := 9) sc24g.nd rfl (Or.inl rfl)) pgs_nil))) (fun _ _ _ _ _ => pts_nil) (fun _ _ _ _ _ => pe_op op_mulW (pv 8) (pv 9))) pa_nil))
          (pa_cons (pe_op op_mulW (pv 7) (pv 3)) pa_nil))) pa_nil))))))
      (pss_one (ps_ret (pv 4))))), ?_⟩
    have Lp := lcs_pos parts
    have Lv := lcs_pos vals
    have bp : lcs parts < 2 ^ (m' * parts.length + 1) := lcs_lt parts zp.mem
    have bv : lcs vals < 2 ^ (m * vals.length + 1) := lcs_lt vals zv.mem
    refine ⟨_, rfl, t, ws, parts, n', m', rfl, ht, aw, zp, by omega, by omega, by rw [← len]; omega, by omega, fun p1 l1 H1 s1 hp1 hl1 _ => ?_⟩
    refine ⟨p1, _, rfl, hp1, rfl, _, _, rfl, _, _, rfl, rfl, ?_⟩
    refine ⟨(by show 0 ≤ sizeLine; decide), fun g ng => ?_⟩
    have s2 := Same.new (o := (HO.lst [])) ng
    have e2 : upd H1 g (HO.lst []) g = some (HO.lst []) := upd_same
    generalize upd H1 g (HO.lst []) = H2 at s2 e2 ⊢
    have s02 := s1.trans s2
    have hl1' := s2 _ _ hl1
    have nl1 := ne_of_none hl1 ng
    refine ⟨_, rfl, r, rfl, ⟨_, Same.seq s02 hr0⟩, ?_⟩
    refine for_list (K := K) (a := r) (xs := [.ref l]) (fun j σ H' => ∃ v5 v6 v7, σ = [some (.ref r), some (.ref t), some (.ref l1), some (.int ((lcs parts : Nat) : Int)), some (.ref g), v5, v6, v7, none, none] ∧ Same H H' ∧
        ((j = 0 ∧ H' g = some (.lst []) ∧ Same H1 H') ∨ (0 < j ∧ ∃ v, H' g = some (.lst [v]) ∧ RV K H' v (dotR vals parts)))) ⟨_, _, _, rfl, s02, .inl ⟨rfl, e2, s2⟩⟩ (fun j σ H' _ ⟨_, _, _, _, s, _⟩ => Same.seq s hr0) ?_ ?_
    · rintro j x σ H3 hx ⟨v5, v6, v7, rfl, s3, hj⟩
      match j, hx, hj with
      | j + 1, hx, _ => cases hx
      | 0, hx, .inr ⟨z, _⟩ => exact absurd z (Nat.lt_irrefl 0)
      | 0, hx, .inl ⟨_, hg, s13⟩ =>
        cases hx
        refine ⟨_, rfl, l, us, vals, n, m, rfl, Same.seq s3 hl, al.same s3, zv, by omega, by omega, by omega, by omega, fun p4 l4 H4 s4 hp4 hl4 _ => ?_⟩
        refine ⟨p4, _, rfl, hp4, rfl, _, _, rfl, _, _, rfl, rfl, ?_⟩
        have s04 := s3.trans s4
        have hl14 := (s13.trans s4) _ _ hl1
        refine ⟨_, rfl, .inl ⟨rfl, _, SqL.of (s4 _ _ hg)⟩, _, rfl, _, rfl, ?_⟩
        have lt1 : (topsOf vals).length = vals.length := List.length_map _
        have lt2 : (topsOf parts).length = parts.length := List.length_map _
        refine ⟨l4, l1, _, _, rfl, SqL.of hl4, SqL.of hl14, fun D hD => ?_⟩
        refine lc_mapZ (SqL.of hl4) (SqL.of hl14) (by rw [List.length_map, List.length_map, lt1, lt2, len]) (by rw [List.length_map, lt1]; omega) hD (fun i acc _ => acc = ((tw (lcs vals) (lcs parts) vals parts).take i).map V.int) bears_pure rfl ?_ ?_
        · rintro i x y hx hy acc H5 Qk Z tt lac eacc s5 ntt kk
          have li : i < vals.length := by
            have := (List.getElem?_eq_some_iff.mp hx).1
            rw [List.length_map, lt1] at this
            exact this
          have lj : i < parts.length := by omega
          rw [List.getElem?_map, tops_get li] at hx
          rw [List.getElem?_map, tops_get lj] at hy
          cases hx
          cases hy
          have s6 := Same.new (o := .tup [.int (topOf (lcs vals) (cf vals i)), .int (topOf (lcs parts) (cf parts i))]) ntt
          refine ⟨tt, _, rfl, SqT.of upd_same, rfl, _, _, rfl, _, _, rfl, rfl, rfl, ?_⟩
          dsimp only [tYes]
          refine iteT ⟨_, rfl, _, rfl, _, _, rfl, rfl, cmulW (topOf_lt (zv i li) bv) (topOf_lt (zp i lj) bp) (by rw [← len]; omega), kk _ _ s6 ?_⟩
          show acc ++ [V.int (topOf (lcs vals) (cf vals i) * topOf (lcs parts) (cf parts i))] = ((tw (lcs vals) (lcs parts) vals parts).take (i + 1)).map V.int
          rw [take_snoc (tw_at li lj), List.map_append, eacc]
          rfl
        · rintro acc H5 hacc lacc eacc s5
          have eacc : acc = ((tw (lcs vals) (lcs parts) vals parts).take ((topsOf vals).map V.int).length).map V.int := eacc
          rw [List.length_map, lt1, ← tw_len (L := lcs vals) (M := lcs parts) len, List.take_length] at eacc
          subst eacc
          refine ⟨D, _, rfl, SqL.of hacc, _, rfl, _, rfl, _, _, rfl, rfl, cmulW (by simpa using bv) (by simpa using bp) (by rw [← len]; omega), _, _, rfl, by exact_mod_cast Nat.mul_pos Lv Lp, ?_, fun v H6 s6 rv => ?_⟩
          · have := wide_lt (i := ((lcs vals : Nat) : Int)) (j := ((lcs parts : Nat) : Int)) (by simpa using bv) (by simpa using bp)
            exact Nat.lt_of_lt_of_le this (pow_up (by rw [← len]; omega))
          have e : Rat.divInt (tw (lcs vals) (lcs parts) vals parts).sum (((lcs vals : Nat) : Int) * ((lcs parts : Nat) : Int)) = dotR vals parts := by
            have := divInt_of (Nat.mul_pos Lv Lp) (sum_tw (lcs_dvd vals) (lcs_dvd parts))
            exact this
          rw [e] at rv
          have hg6 := (s4.trans (s5.trans s6)) _ _ hg
          have bg : But g H6 (upd H6 g (.lst ([] ++ [v]))) := But.refl.set
          refine ⟨g, [], v, rfl, rfl, hg6, (by show 0 < sizeLine; decide), _, _, _, rfl, fun c o e => ?_, .inr ⟨Nat.one_pos, v, upd_same, RV.bear hg6 bg rv⟩⟩
          exact bg _ _ ((s04.trans (s5.trans s6)) _ _ e) (ne_of_none (s1 _ _ e) ng)
    · rintro σ H3 ⟨v5, v6, v7, rfl, s3, hj⟩
      rcases hj with ⟨z, _⟩ | ⟨_, v, hg, rv⟩
      · cases z
      · exact ⟨_, rfl, k g v H3 s3 hg rv⟩
end
end Kz
set_option linter.all false
set_option maxRecDepth 100000
set_option maxHeartbeats 4000000
namespace Kz
open PySem PySem.Spec PyProof.Rows L2
/-! ### zip of a list with a tuple -/
def ItzM (K : PySem.W.Frag) (a b : Addr) : It where
  go i H := ∃ (xs ys : List V) (x y : V), SqL K H a xs ∧ SqT K H b ys ∧ xs[i]? = some x ∧ ys[i]? = some y
  yld i H v H' := ∃ (p : Addr) (x y : V), v = .ref p ∧ H p = none ∧ H' = upd H p (.tup [x, y]) ∧ (∀ xs, SqL K H a xs → xs[i]? = some x) ∧ ∀ ys, SqT K H b ys → ys[i]? = some y
  stop i H := ∃ xs ys : List V, SqL K H a xs ∧ SqT K H b ys ∧ xs.length = i ∧ ys.length = i
def TnM (z TI TO i1 i2 a b : Addr) (i : Nat) (h : Heap) : Prop := IsZip h z TI TO .none ∧ IsTupOf2 h TI (.ref i1) (.ref i2) ∧ (∃ x y, IsTupOf2 h TO x y) ∧ h.IsListIter i1 a i ∧ h.IsTupleIter i2 b i
theorem TnM.lt {z TI TO i1 i2 a b c : Addr} {i : Nat} {h : Heap} (t : TnM z TI TO i1 i2 a b i h) (m : c ∈ [z, TI, TO, i1, i2]) : ∃ o, h.get? c = some o ∧ ∀ v, o.data ≠ .cell v := by
  obtain ⟨q1, q2, ⟨x, y, q3⟩, ⟨o4, q4, _, d4⟩, ⟨o5, q5, _, d5⟩⟩ := t
  simp only [List.mem_cons, List.not_mem_nil, or_false] at m
  rcases m with e | e | e | e | e
  · exact ⟨_, e ▸ q1, fun v n => by cases n⟩
  · exact ⟨_, e ▸ q2, fun v n => by cases n⟩
  · exact ⟨_, e ▸ q3, fun v n => by cases n⟩
  · exact ⟨o4, e ▸ q4, fun v n => by rw [d4] at n; cases n⟩
  · exact ⟨o5, e ▸ q5, fun v n => by rw [d5] at n; cases n⟩
theorem wr_sub {z TI TO i1 i2 c : Addr} (m : c ∈ [z, TO, i1, i2]) : c ∈ [z, TI, TO, i1, i2] := by
  simp only [List.mem_cons, List.not_mem_nil, or_false] at m ⊢
  rcases m with e | e | e | e
  · exact .inl e
  · exact .inr (.inr (.inl e))
  · exact .inr (.inr (.inr (.inl e)))
  · exact .inr (.inr (.inr (.inr e)))
theorem turn_zipM {P : Program} {w : World} {K : PySem.W.Frag} {elts : List Expr} {kk : Nat} {tpos : Pos} {a b z TI TO i1 i2 : Addr} (S : ZipSep2 z TI TO i1 i2 [i1, a] [i2, b]) (na : a ≠ i1) (nb : b ≠ i2) :
    Turn P w K (.Tuple elts kk tpos) (ItzM K a b) [z, TI, TO, i1, i2] z (TnM z TI TO i1 i2 a b) where
  mem := List.mem_cons_self
  obj _ _ t _ m := t.lt m
  keep i h h' t k := by
    obtain ⟨q1, q2, ⟨x, y, q3⟩, q4, q5⟩ := t
    exact ⟨k z (by simp) _ q1, k TI (by simp) _ q2, ⟨x, y, k TO (by simp) _ q3⟩, q4.at (k i1 (by simp)), q5.at (k i2 (by simp))⟩
  self A i s Q E t h := wpAny_pyIter_zip t.1 h
  item := by
    intro X hP hw hK hc i pins s σ H E I hf t g
    cases hP
    cases hw
    cases hK
    obtain ⟨xs, ys, x, y, qa, qb, ex, ey⟩ := g
    obtain ⟨us, ra, pa', _⟩ := I.list qa
    obtain ⟨vs, rb, pb, _⟩ := I.tuple qb
    obtain ⟨u, eu, ru⟩ := ra.get ex
    obtain ⟨v, ev, rv⟩ := rb.get ey
    have hd : X.A.handled = none := I.ok.hd hc
    have W := WalksT.zipD2 (prog := X.prog) (w := X.w) (A := X.A) S (Draws.list (A := X.A.in1) hd i1 a na us.toArray) (Draws.tuple (A := X.A.in1) hd i2 b nb vs.toArray)
    have lu : i < us.toArray.size := by have := (List.getElem?_eq_some_iff.mp eu).1; simpa using this
    have lv : i < vs.toArray.size := by have := (List.getElem?_eq_some_iff.mp ev).1; simpa using this
    refine W.item i s _ _ (Nat.lt_min.mpr ⟨lu, lv⟩) ⟨t.1, t.2.1, t.2.2.1, ⟨t.2.2.2.1, pa'.isList⟩, ⟨t.2.2.2.2, pb⟩⟩ fun T vals h' tk hp new hT mid k' => ?_
    obtain ⟨x1, x2, e1, e2, rfl⟩ := hp
    have f1 : x1 = u := by
      have : us[i]? = some x1 := by simpa using e1
      rw [eu] at this
      exact (Option.some.inj this).symm
    have f2 : x2 = v := by
      have : vs[i]? = some x2 := by simpa using e2
      rw [ev] at this
      exact (Option.some.inj this).symm
    subst f1 f2
    refine ⟨.ref T, rfl, W.go elts kk tpos i T { s with heap := h', toks := tk } _ _ mid fun h2 st2 k2 => ?_⟩
    have hT2 : h2.IsTuple T #[x1, x2] := hT.at (k2 T · (W.apart i T h' mid))
    have hn : H T = none := I.hok.fresh new
    have lt : ∀ c ∈ [z, TI, TO, i1, i2], c ≠ T := fun c m => by
      obtain ⟨o, e, _⟩ := t.lt m
      exact Nat.ne_of_lt (Nat.lt_of_lt_of_le (Heap.lt_size e) new)
    obtain ⟨oT, eT, cT, nT, dT⟩ := hT2
    refine ⟨.ref T, upd H T (.tup [x, y]), I.turnedNew (ch := [z, TI, TO, i1, i2]) (fun c o m e => k2 c o (fun r => m (wr_sub r)) (k' c o (fun r => m (wr_sub r)) e)) hf new ⟨(by show 2 ≤ sizeLine; decide), [x1, x2], .cons ru (.cons rv .nil), ⟨oT, eT, cT, nT, dT⟩⟩, rfl,
      ⟨T, x, y, rfl, hn, rfl, fun l q => by rw [I.list_inj q qa]; exact ex, fun l q => by rw [I.tuple_inj q qb]; exact ey⟩, ⟨st2.1, st2.2.1, st2.2.2.1, st2.2.2.2.1.1, st2.2.2.2.2.1⟩, fun c m => ?_⟩
    rw [upd_ne (lt c m)]
    exact (hf c m).1
  done := by
    intro X hP hw hK hc i pins s σ H E I hf t g
    cases hP
    cases hw
    cases hK
    obtain ⟨xs, ys, qa, qb, l1, l2⟩ := g
    obtain ⟨us, ra, pa', _⟩ := I.list qa
    obtain ⟨vs, rb, pb, _⟩ := I.tuple qb
    have hd : X.A.handled = none := I.ok.hd hc
    have m1 : us.toArray.size = i := by have := ra.length; simp only [List.size_toArray]; omega
    have m2 : vs.toArray.size = i := by have := rb.length; simp only [List.size_toArray]; omega
    obtain ⟨x, y, q3⟩ := t.2.2.1
    refine wpAny_pyNext_zipD2_end S (Draws.list (A := X.A.in1) hd i1 a na us.toArray) (Draws.tuple (A := X.A.in1) hd i2 b nb vs.toArray) t.1 t.2.1 q3 ⟨t.2.2.2.1, pa'.isList⟩ ⟨t.2.2.2.2, pb⟩ (Nat.le_of_eq m1.symm) (Nat.le_of_eq m2.symm) (.inl m1.symm) fun h' tk k' => ?_
    exact ⟨rfl, I.turnedL (ch := [z, TI, TO, i1, i2]) (fun c o m e => k' c o (fun r => m (by rw [r]; simp)) (fun r => m (by rw [r]; simp)) (fun r => m (by rw [r]; simp)) (fun r => m (by rw [r]; simp)) e) hf⟩
def iZipM (K : PySem.W.Frag) (ta : TA) : TI := fun σ H R => ta σ H fun vs H1 => ∃ a b xs ys, vs = [.ref a, .ref b] ∧ SqL K H1 a xs ∧ ((SqL K H1 b ys ∧ R (Itz K a b) H1) ∨ (SqT K H1 b ys ∧ R (ItzM K a b) H1))
theorem zfive {N c : Nat} (m : c ∈ [N + 4, N + 2, N + 3, N, N + 1]) : N ≤ c := by
  simp only [List.mem_cons, List.not_mem_nil, or_false] at m
  omega
theorem pi_zipM {X : Cx} {e e2 : Expr} {ta : TA} {p pos tpos : Pos} {elts : List Expr} {kk : Nat} (hg : Gl X "zip") (hm : X.mg "zip" = none) (ha : PA X [e, e2] ta)
    (hs : starEach [e, e2] X.env = (false, eval e X.env) :: starEach [e2] X.env := by rfl) (hpl : (backTo pos (starEach [e2] X.env)).any (·.1) = false := by rfl) :
    PI X (.Tuple elts kk tpos) (.Call (.Name "zip" p) [e, e2] [] pos) (iZipM X.K ta) where
  run pins s σ H R I h := by
    refine Call_ (ld_blt I hg hm PyProof.Rows.boot_zip (PyProof.Rows.callWith_type1 (thn (ha.run pos pins s σ H _ I h) ?_) hs hpl))
    rintro us s1 ⟨_, H1, I1, r1, a, b, xs, ys, rfl, qa, q⟩
    match us, r1 with
    | [_, _], .cons ra (.cons rb .nil) =>
      cases ra
      cases rb
      obtain ⟨ia, va, pa', _⟩ := I1.list qa
      have fr : ∀ c ∈ [s1.heap.objs.size + 4, s1.heap.objs.size + 2, s1.heap.objs.size + 3, s1.heap.objs.size, s1.heap.objs.size + 1], FpOk X pins H1 c := fun c m => I1.fpOk (zfive m) (I1.hok.fresh (zfive m))
      rcases q with ⟨qb, k⟩ | ⟨qb, k⟩
      · obtain ⟨ib, vb, pb, _⟩ := I1.list qb
        refine call_zip_2 pa'.isList pb.isList fun h' z1 z2 z3 z4 z5 _ hk => wpAny_pyIter_zip z1 ?_
        exact ⟨_, _, _, _, H1, rfl, I1.kept (t' := s1.toks) hk, turn_zip (PySem.W.ktu_apart s1.heap.objs.size a b pa'.lt pb.lt), ⟨z1, z2, ⟨_, _, z3⟩, z4, z5⟩, fr, k⟩
      · obtain ⟨ib, vb, pb, _⟩ := I1.tuple qb
        obtain ⟨ob, eb, _⟩ := id pb
        have lb : b < s1.heap.objs.size := Heap.lt_size eb
        refine zip_begins2 (begins_list a ia.toArray) (begins_tuple b ib.toArray) pa'.isList pb fun h' z1 z2 z3 z4 z5 _ hk => wpAny_pyIter_zip z1 ?_
        have S := zip_sep2 (N := s1.heap.objs.size) (fp1 := [a]) (fp2 := [b]) (fun c m => by rw [List.mem_singleton.mp m]; exact pa'.lt) (fun c m => by rw [List.mem_singleton.mp m]; exact lb)
        exact ⟨_, _, _, _, H1, rfl, I1.kept (t' := s1.toks) hk, turn_zipM S (Nat.ne_of_lt pa'.lt) (Nat.ne_of_lt (Nat.lt_succ_of_lt lb)), ⟨z1, z2, ⟨_, _, z3⟩, ⟨_, z4, rfl, rfl⟩, ⟨_, z5, rfl, rfl⟩⟩, fr, k⟩
/-- a loop over zip of a list and of a list or a tuple, both of one length -/
theorem for_zipM {K : PySem.W.Frag} {a b : Addr} {xs ys : List V} {g : TG} {tb : TS} {D : Ends} {σ : L2.St} {H : Hp} (hl : xs.length = ys.length) (Pv : Nat → L2.St → Hp → Prop) (h0 : Pv 0 σ H) (hq : ∀ i σ H, Pv i σ H → SqL K H a xs ∧ SqT K H b ys)
    (hs : ∀ (i : Nat) (x y : V) (p : Addr) (σ : L2.St) (H : Hp), xs[i]? = some x → ys[i]? = some y → Pv i σ H → H p = none → g (.ref p) σ (upd H p (.tup [x, y])) fun σ2 H2 => tb { D with nx := Pv (i + 1), ct := Pv (i + 1), bk := D.nx } σ2 H2) (hd : ∀ σ H, Pv xs.length σ H → D.nx σ H) :
    ∃ W : Nat → Nat → L2.St → Hp → Prop, (∃ m, W 0 m σ H) ∧ ∀ i m σ H, W i m σ H →
      ((ItzM K a b).stop i H ∧ D.nx σ H) ∨ ((ItzM K a b).go i H ∧ ∃ N : L2.St → Hp → Prop, (∀ σ' H', N σ' H' → ∃ m', m' < m ∧ W (i + 1) m' σ' H') ∧ ∀ v H', (ItzM K a b).yld i H v H' → g v σ H' fun σ2 H2 => tb { D with nx := N, ct := N, bk := D.nx } σ2 H2) := by
  refine ⟨fun i m σ H => m + i = xs.length ∧ Pv i σ H, ⟨xs.length, rfl, h0⟩, ?_⟩
  intro i m σ H ⟨em, p⟩
  have q := hq i σ H p
  match m, em with
  | 0, em =>
    have e : xs.length = i := by omega
    exact .inl ⟨⟨xs, ys, q.1, q.2, e, by omega⟩, hd σ H (e.symm ▸ p)⟩
  | m + 1, em =>
    have lx : i < xs.length := by omega
    have ly : i < ys.length := by omega
    refine .inr ⟨⟨xs, ys, _, _, q.1, q.2, List.getElem?_eq_getElem lx, List.getElem?_eq_getElem ly⟩, Pv (i + 1), fun σ' H' p' => ⟨m, Nat.lt_succ_self m, by omega, p'⟩, ?_⟩
    rintro v H' ⟨c, x, y, rfl, n, rfl, f1, f2⟩
    exact hs i x y c σ H (f1 _ q.1) (f2 _ q.2) p n
end Kz
set_option linter.all false
set_option maxRecDepth 100000
set_option maxHeartbeats 4000000
namespace Kz
open PySem PySem.Spec PyProof.Rows L2
/-- a comprehension over two tuples, the second one the shorter -/
theorem lc_mapV {K : PySem.W.Frag} {a b : Addr} {xs ys : List V} {g : TG} {te : TE} {vs : List Nat} {σ : L2.St} {H1 : Hp} {D : Addr} {Qd : Hp → Prop} (hx : SqT K H1 a xs) (hy : SqT K H1 b ys) (le : ys.length ≤ xs.length) (len : xs.length ≤ 1000) (hD : H1 D = none)
    (R : Nat → List V → Hp → Prop) (br : Bears D R) (h0 : R 0 [] H1)
    (step : ∀ (i : Nat) (x y : V), xs[i]? = some x → ys[i]? = some y → ∀ (acc : List V) (H' : Hp) (Qk : VK) (Z : Hp → Prop) (T : Addr), acc.length = i → R i acc H' → Same H1 H' → H' T = none → (∀ u H4, Same H' H4 → R (i + 1) (acc ++ [u]) H4 → Qk u H4) →
      g (.ref T) (wipe σ vs) (upd H' T (.tup [x, y])) fun σ2 H2 => wipe σ2 vs = wipe σ vs ∧ tYes σ2 H2 fun b H3 => if b = true then te σ2 H3 Qk else Z H3)
    (fin : ∀ acc H', H' D = some (.lst acc) → acc.length = ys.length → R ys.length acc H' → Same H1 H' → Qd H') : ∃ W : Nat → Nat → Hp → Prop, (∃ m, W 0 m (upd H1 D (.lst []))) ∧ ∀ i m H, W i m H →
      ((RZ.ItzT K a b).stop i H ∧ Qd H) ∨ ((RZ.ItzT K a b).go i H ∧ ∃ Nx : Hp → Prop, (∀ H', Nx H' → ∃ m', m' < m ∧ W (i + 1) m' H') ∧ ∀ x H', (RZ.ItzT K a b).yld i H x H' → g x (wipe σ vs) H' fun σ2 H2 => wipe σ2 vs = wipe σ vs ∧ tYes σ2 H2 fun b H3 =>
        if b = true then te σ2 H3 fun y H4 => ∃ acc, H4 D = some (.lst acc) ∧ acc.length < sizeLine ∧ Nx (upd H4 D (.lst (acc ++ [y]))) else Nx H3) := by
  refine ⟨fun i m H => m = ys.length - i ∧ i ≤ ys.length ∧ ∃ acc, H D = some (.lst acc) ∧ acc.length = i ∧ R i acc H ∧ Same H1 H, ⟨_, rfl, Nat.zero_le _, [], upd_same, rfl, br _ _ _ _ (fun o e => by rw [hD] at e; cases e) But.refl.set h0, Same.new hD⟩, ?_⟩
  rintro i m H ⟨rfl, hi, acc, e, l, r, s⟩
  have sx := Kz.Same.seqT s hx
  have sy := Kz.Same.seqT s hy
  rcases Nat.lt_or_ge i ys.length with lty | ge
  · right
    have lt : i < xs.length := by omega
    refine ⟨⟨xs, ys, _, _, sx, sy, List.getElem?_eq_getElem lt, List.getElem?_eq_getElem lty⟩, fun H' => i + 1 ≤ ys.length ∧ ∃ acc, H' D = some (.lst acc) ∧ acc.length = i + 1 ∧ R (i + 1) acc H' ∧ Same H1 H', fun H' p => ⟨_, by omega, rfl, p⟩, ?_⟩
    rintro v H' ⟨T, x, y, rfl, nT, rfl, fx, fy⟩
    refine step i x y (fx xs sx) (fy ys sy) acc H _ _ T l r s nT fun u H4 s4 r4 => ⟨acc, s4 _ _ e, le1000 (by omega), lty, acc ++ [u], upd_same, by simp [l], br _ _ _ _ (fun o e4 => ?_) But.refl.set r4, fun c o ec => ?_⟩
    · rw [s4 _ _ e] at e4
      cases e4
      exact ⟨_, rfl⟩
    · rw [upd_ne (ne_of_none ec hD)]
      exact s4 _ _ (s _ _ ec)
  · left
    have ei : i = ys.length := by omega
    subst ei
    exact ⟨⟨xs, ys, sx, sy, .inr (Nat.le_refl _)⟩, fin acc H e l r s⟩
/-- a list or a tuple of ratios, passed -/
def Rw (K : PySem.W.Frag) (H : Hp) (v : V) (qs : List Rat) : Prop := ∃ a us n m, v = .ref a ∧ (SqL K H a us ∨ SqT K H a us) ∧ AlA K H us n m qs ∧ n ≤ 2000 ∧ m ≤ 200 ∧ us.length ≤ 20
theorem Sq.same2 {K : PySem.W.Frag} {H H' : Hp} {a : Addr} {us : List V} (s : Same H H') (h : SqL K H a us ∨ SqT K H a us) : SqL K H' a us ∨ SqT K H' a us := h.imp (Same.seq s) (Kz.Same.seqT s)
theorem Rw.same {K : PySem.W.Frag} {H H' : Hp} {v : V} {qs : List Rat} (s : Same H H') (h : Rw K H v qs) : Rw K H' v qs := by
  obtain ⟨a, us, n, m, e, hs, al, r⟩ := h
  exact ⟨a, us, n, m, e, Sq.same2 s hs, al.same s, r⟩
theorem Rw.row {K : PySem.W.Frag} {H : Hp} {v : V} {qs : List Rat} {Q : VK} {E : XK} (h : Rw K H v qs) (k : ∀ H', Same H H' → Q (.bl true) H') : spRow K [v] H Q E := by
  obtain ⟨a, us, n, m, rfl, hs, al, n4, m4, len⟩ := h
  have rbs : RBs K H us (List.replicate us.length true) := ⟨List.length_replicate, fun i u b e1 e2 => by
    have lt : i < us.length := (List.getElem?_eq_some_iff.mp e1).1
    rw [List.getElem?_replicate, if_pos lt] at e2
    cases e2
    exact (al.2 i u _ e1 (at_cf (by rw [← al.1]; exact lt))).rb⟩
  have all1 : (List.replicate us.length true).all id = true := by simp
  exact ⟨.ref a, rfl, .inr ⟨a, us, _, rfl, hs, by omega, rbs, fun H' s => by rw [all1]; exact k H' s⟩⟩
theorem Rw.len {K : PySem.W.Frag} {H : Hp} {v : V} {qs : List Rat} (h : Rw K H v qs) : ∃ a us, v = .ref a ∧ (SqL K H a us ∨ SqT K H a us) ∧ us.length = qs.length ∧ us.length ≤ 20 := by
  obtain ⟨a, us, n, m, rfl, hs, al, n4, m4, len⟩ := h
  exact ⟨a, us, rfl, hs, al.1, len⟩
theorem Rw.told {K : PySem.W.Frag} {H : Hp} {v : V} {qs : List Rat} {Q : VK} {E : XK} (h : Rw K H v qs) (k : ∀ t H' ws, Same H H' → TpN H' t ws → Al K H' ws qs → Q (.ref t) H') : spTrowN K [v] H Q E := by
  obtain ⟨a, us, n, m, rfl, hs, al, n4, m4, len⟩ := h
  exact ⟨a, us, n, m, qs, rfl, hs, al, by omega, by omega, k⟩
theorem Rw.sum {K : PySem.W.Frag} {H : Hp} {v : V} {qs : List Rat} {Q : VK} {E : XK} (h : Rw K H v qs) (k : ∀ v' H', Same H H' → RV K H' v' (sumR qs) → Q v' H') : spSumOf K [v] H Q E := by
  obtain ⟨a, us, n, m, rfl, hs, al, n4, m4, len⟩ := h
  refine ⟨a, us, n, m, qs, rfl, hs, al, by omega, by omega, by omega, ?_, k⟩
  have := Nat.mul_le_mul m4 len
  omega
section
variable {P : Program} {w : World} {K : PySem.W.Frag} {mg : Str → Option Value} {base : Heap}
def spAscR (K : PySem.W.Frag) : Sp := fun vs H Q _ => ∃ v qs, vs = [v] ∧ Rw K H v qs ∧ 0 < qs.length ∧ ∀ H', Same H H' → Q (.bl (ascB qs)) H'
theorem ok_ascR (T : Tb P K mg) : FnOk P w K mg base CX0 6 T.ascends.f T.ascends.fd ["row"] (spAscR K) := by
  have G : FnOk P w K mg base (CX P w) 5 T.lower.f T.lower.fd ["one", "other"] (spTwo K T.cN cBin (fun _ v q r => v = .bl (decide (q < r)))) := ok_lower T.toTx
  refine T.ascends.fn.ok sc19k (fun vs H Q E h => ?_) (fun cdv A outer s H vs Q E hr h => ?_)
  · obtain ⟨v, qs, rfl, _⟩ := h
    rfl
  · obtain ⟨v, qs, rfl, ⟨a, us, n, m, rfl, hs, al, n4, m4, len⟩, pos, k⟩ := h
    refine ⟨_, pss_one (ps_ret (pe_callB (cr_all rfl) (by rfl) T.mAll boot_all (pa_cons (pe_lc (own := [("one", 1), ("other", 2)]) (g := gTup K 2 (gCons (gName 1) (gCons (gName 2) gNil))) (tt := tYes) rfl sc19k.nd (pi_or (pi_zip (by rfl) T.mZip (pa_cons (pv 0) (pa_cons (pe_slice sl_list (pv 0) (po_some pe_int) po_none) pa_nil)))
          (RZ.pi_zipA (by rfl) T.mZip (pa_cons (pv 0) (pa_cons (pe_slice sl_tupA (pv 0) (po_some pe_int) po_none) pa_nil))))
        (blkOk_by (own := [("one", 1), ("other", 2)]) (N := nAs) (sc := defScope (top 20)) (by decide +kernel))
        (fun _ _ _ _ _ => pg_tup (by rfl) (pgs_cons (pg_name (i := 1) sc19k.nd rfl (Or.inl rfl)) (pgs_cons (pg_name (i := 2) sc19k.nd rfl (Or.inl rfl)) pgs_nil))) (fun _ _ _ _ _ => pts_nil) (fun _ _ _ _ _ => T.lower.cX G hr (pa_cons (pv 1) (pa_cons (pv 2) pa_nil)))) pa_nil))), ?_⟩
    have lu := al.1
    have step : ∀ (H1 : Hp) (p : Addr), Same H H1 → ∀ (i : Nat) (x y : V), us[i]? = some x → (us.drop 1)[i]? = some y → ∀ (acc : List V) (H' : Hp) (Qk : VK) (Z : Hp → Prop) (tt : Addr), acc = ((List.range i).map fun j => decide (cf qs j < cf qs (j + 1))).map V.bl → Same H1 H' → H' tt = none →
        (∀ u H4, Same H' H4 → (acc ++ [u]) = ((List.range (i + 1)).map fun j => decide (cf qs j < cf qs (j + 1))).map V.bl → Qk u H4) →
        ∃ w1 w2, Same H' (upd H' tt (.tup [x, y])) ∧ SqT K (upd H' tt (.tup [x, y])) tt [x, y] ∧ w1 = x ∧ w2 = y ∧ spTwo K T.cN cBin (fun _ v q r => v = .bl (decide (q < r))) [x, y] (upd H' tt (.tup [x, y])) Qk (fun _ _ _ => False) := by
      intro H1 p s1 i x y hx hy acc H' Qk Z tt eacc s2 ntt kk
      rw [List.getElem?_drop, Nat.add_comm] at hy
      have lt : i + 1 < qs.length := by
        have := (List.getElem?_eq_some_iff.mp hy).1
        omega
      have s3 := Same.new (o := .tup [x, y]) ntt
      have rx := (((al.2 i x _ hx (at_cf (by omega))).same s1).same s2).same s3
      have ry := (((al.2 (i + 1) y _ hy (at_cf lt)).same s1).same s2).same s3
      refine ⟨x, y, s3, SqT.of upd_same, rfl, rfl, x, y, rfl, .inl ⟨_, _, n, m, n, m, rx, ry, by omega, by omega, ⟨by omega, by omega⟩, fun v H4 s4 ev => ?_⟩⟩
      subst ev
      refine kk _ _ (s3.trans s4) ?_
      subst eacc
      show _ ++ [_] = _
      rw [List.range_succ, List.map_append, List.map_append]
      rfl
    have fin : ∀ (D : Addr) (H1 : Hp), Same H H1 → ∀ acc H2, H2 D = some (.lst acc) → acc = ((List.range (us.drop 1).length).map fun j => decide (cf qs j < cf qs (j + 1))).map V.bl → Same H1 H2 → ∃ (a : Addr) (bs : List Bool), [V.ref D] = [V.ref a] ∧ SqL K H2 a (bs.map V.bl) ∧ Q (.bl (bs.all id)) H2 := by
      intro D H1 s1 acc H2 hacc eacc s2
      refine ⟨D, (List.range (us.drop 1).length).map fun j => decide (cf qs j < cf qs (j + 1)), rfl, ?_, ?_⟩
      · rw [← eacc]
        exact SqL.of hacc
      · have e : ((List.range (us.drop 1).length).map fun j => decide (cf qs j < cf qs (j + 1))).all id = ascB qs := by
          unfold ascB
          rw [List.length_drop, lu, List.all_map]
          rfl
        rw [e]
        exact k H2 (s1.trans s2)
    rcases hs with hs | hs
    · refine .inl ⟨_, rfl, _, rfl, _, rfl, a, us, rfl, hs, fun p np => ?_⟩
      rw [cut_drop]
      have s1 := Same.new (o := .lst (us.drop 1)) np
      have ep : upd H p (.lst (us.drop 1)) p = some (.lst (us.drop 1)) := upd_same
      have hs1 := Same.seq s1 hs
      generalize upd H p (.lst (us.drop 1)) = H1 at s1 ep hs1
      refine ⟨a, p, us, us.drop 1, rfl, hs1, SqL.of ep, fun D hD => ?_⟩
      refine lc_mapU hs1 (SqL.of ep) (by rw [List.length_drop]; omega) (by omega) hD (fun i acc _ => acc = ((List.range i).map fun j => decide (cf qs j < cf qs (j + 1))).map V.bl) (fun _ _ _ _ _ _ h => h) rfl ?_ ?_
      · rintro i x y hx hy acc H' Qk Z tt lac eacc s2 ntt kk
        obtain ⟨_, _, s3, st, _, _, g⟩ := step H1 p s1 i x y hx hy acc H' Qk Z tt eacc s2 ntt kk
        refine ⟨tt, _, rfl, st, rfl, _, _, rfl, _, _, rfl, rfl, rfl, ?_⟩
        dsimp only [tYes]
        exact iteT ⟨_, rfl, _, rfl, g⟩
      · rintro acc H2 hacc lacc eacc s2
        exact fin D H1 s1 acc H2 hacc eacc s2
    · have h1 : HT.sIx us.length 0 (some 1) = 1 := by
        show (if (1 : Int) < 0 then ((1 : Int) + (us.length : Int)).toNat else min (1 : Int).toNat us.length) = 1
        rw [if_neg (by decide)]
        show min 1 us.length = 1
        omega
      refine .inr ⟨_, rfl, _, rfl, _, rfl, a, us, rfl, hs, (fun z => by rw [h1] at z; cases z.1), fun _ p np => ?_⟩
      rw [cut_drop]
      have s1 := Same.new (o := .tup (us.drop 1)) np
      have ep : upd H p (.tup (us.drop 1)) p = some (.tup (us.drop 1)) := upd_same
      have hs1 := Kz.Same.seqT s1 hs
      generalize upd H p (.tup (us.drop 1)) = H1 at s1 ep hs1
      refine ⟨a, p, us, us.drop 1, rfl, .inr ⟨hs1, SqT.of ep, fun D hD => ?_⟩⟩
      refine lc_mapV hs1 (SqT.of ep) (by rw [List.length_drop]; omega) (by omega) hD (fun i acc _ => acc = ((List.range i).map fun j => decide (cf qs j < cf qs (j + 1))).map V.bl) (fun _ _ _ _ _ _ h => h) rfl ?_ ?_
      · rintro i x y hx hy acc H' Qk Z tt lac eacc s2 ntt kk
        obtain ⟨_, _, s3, st, _, _, g⟩ := step H1 p s1 i x y hx hy acc H' Qk Z tt eacc s2 ntt kk
        refine ⟨tt, _, rfl, st, rfl, _, _, rfl, _, _, rfl, rfl, rfl, ?_⟩
        dsimp only [tYes]
        exact iteT ⟨_, rfl, _, rfl, g⟩
      · rintro acc H2 hacc lacc eacc s2
        exact fin D H1 s1 acc H2 hacc eacc s2
/-- the sum of one row's items times amounts -/
def spJ1 (K : PySem.W.Frag) : Sp := fun vs H Q _ => ∃ l t us vals ws parts n m n' m', vs = [.ref l, .ref t] ∧ SqL K H l us ∧ Al K H us vals ∧ SzA n m vals ∧ SqT K H t ws ∧ Al K H ws parts ∧ SzA n' m' parts ∧ vals.length = parts.length ∧ vals.length ≤ 20 ∧
  m ≤ 1000 ∧ m' ≤ 1000 ∧ n ≤ 100000 ∧ n' ≤ 100000 ∧ m * vals.length + m' * vals.length + 2 ≤ 8000 ∧ ∀ v H', Same H H' → RV K H' v (dotR vals parts) → Q v H'
theorem sc25g : FnScope ["row", "amounts"] ["row", "amounts"] (defScope (top 27)) := ⟨rfl, rfl, rfl, by decide +kernel, rfl, by decide +kernel, by decide +kernel⟩
theorem ok_j1 (T : Tg P K mg) : FnOk P w K mg base CX0 3 T.jsum.f T.jsum.fd ["row", "amounts"] (spJ1 K) := by
  have G : FnOk P w K mg base CX0 2 T.jsums.f T.jsums.fd ["rows", "amounts"] (spJs K) := ok_jsums T
  refine T.jsum.fn.ok sc25g (fun vs H Q E h => ?_) (fun cdv A outer s H vs Q E hr h => ?_)
  · obtain ⟨l, t, us, vals, ws, parts, n, m, n', m', rfl, _⟩ := h
    rfl
  · obtain ⟨l, t, us, vals, ws, parts, n, m, n', m', rfl, hl, al, zv, ht, aw, zp, len, l20, m1, m2, n1, n2, mm, k⟩ := h
    refine ⟨_, pss_one (ps_ret (pe_ix ix_list (T.jsums.c0 G hr (pa_cons (pe_lst (pa_cons (pv 0) pa_nil)) (pa_cons (pv 1) pa_nil))) pe_int (fun _ _ => rfl))), ?_⟩
    refine ⟨_, rfl, (by show 1 ≤ sizeLine; decide), fun r nr => ?_⟩
    have s1 := Same.new (o := .lst [V.ref l]) nr
    have e1 : upd H r (.lst [V.ref l]) r = some (.lst [V.ref l]) := upd_same
    generalize upd H r (.lst [V.ref l]) = H1 at s1 e1 ⊢
    refine ⟨_, rfl, r, l, t, us, vals, ws, parts, n, m, n', m', rfl, SqL.of e1, Same.seq s1 hl, al.same s1, zv, Kz.Same.seqT s1 ht, aw.same s1, zp, len, l20, m1, m2, n1, n2, mm, fun p v H2 s2 hp rv => ?_⟩
    exact ⟨p, _, _, _, rfl, rfl, SqL.of hp, rfl, k v H2 (s1.trans s2) rv⟩
/-- whether parts are above 0 and add up to 1 -/
def wpB (qs : List Rat) : Bool := (qs.map fun q => decide (0 < q)).all id && decide (sumR qs = 1)
def spWp (K : PySem.W.Frag) : Sp := fun vs H Q _ => ∃ v qs, vs = [v] ∧ Rw K H v qs ∧ ∀ H', Same H H' → Q (.bl (wpB qs)) H'
abbrev nWp : List Str := ["row", "part"]
theorem sc22g : FnScope nWp ["row"] (defScope (top 23)) := ⟨rfl, rfl, rfl, by decide +kernel, rfl, by decide +kernel, by decide +kernel⟩
theorem ok_wp (T : Tg P K mg) : FnOk P w K mg base CX0 7 T.whole_parts.f T.whole_parts.fd ["row"] (spWp K) := by
  have G : FnOk P w K mg base (CX P w) 5 T.lower.f T.lower.fd ["one", "other"] (spTwo K T.cN cBin (fun _ v q r => v = .bl (decide (q < r)))) := ok_lower T.toTx
  have G2 : FnOk P w K mg base CX0 6 T.sum_of.f T.sum_of.fd ["row"] (spSumOf K) := ok_sumof T
  refine T.whole_parts.fn.ok sc22g (fun vs H Q E h => ?_) (fun cdv A outer s H vs Q E hr h => ?_)
  · obtain ⟨v, qs, rfl, _⟩ := h
    rfl
  · obtain ⟨v, qs, rfl, hv, k⟩ := h
    have hu := hr.units
    have hr5 : Room 5 _ := hr.mono (by decide)
    refine ⟨_, pss_one (ps_ret (pe_and (pe_callB (cr_all rfl) (by rfl) T.mAll boot_all (pa_cons (pe_lc (own := [("part", 1)]) (g := gName 1) (tt := tYes) rfl sc22g.nd (pi_or (pi_list (pv 0)) (pi_tup (pv 0)))
        (blkOk_by (own := [("part", 1)]) (N := nWp) (sc := defScope (top 23)) (by decide +kernel))
        (fun _ _ _ _ _ => pg_name (i := 1) sc22g.nd rfl (Or.inl rfl)) (fun _ _ _ _ _ => pts_nil) (fun _ _ _ _ _ => T.lower.cX G hr5 (pa_cons pe_int (pa_cons (pv 1) pa_nil)))) pa_nil))
      (pe_one (pe_cmpR (op_eqD hu) (T.sum_of.c0 G2 hr (pa_cons (pv 0) pa_nil)) (pe_tup (pa_cons pe_int (pa_cons pe_int pa_nil))) (nomark _))))), ?_⟩
    have hv' := hv
    have key : ∀ D acc H2, H2 D = some (.lst acc) → acc = (qs.map fun q => decide (0 < q)).map V.bl → Same H H2 → ∃ (a : Addr) (bs : List Bool), [V.ref D] = [V.ref a] ∧ SqL K H2 a (bs.map V.bl) ∧ ∃ c, V.bl (bs.all id) = .bl c ∧ (if c = true then tOp (rEqD K) (tCall (spSumOf K) [] (fun _ _ _ => False) (tCons (tVar 0) tNil)) (tTup (tCons (tC (V.int 1)) (tCons (tC (V.int 1)) tNil))) (L2.start nWp [v]) H2 Q else Q (.bl false) H2) := by
      intro D acc H2 hacc eacc s2
      refine ⟨D, _, rfl, by rw [← eacc]; exact SqL.of hacc, _, rfl, ?_⟩
      cases c : ((qs.map fun q => decide (0 < q)).all id) with
      | false =>
        have e : wpB qs = false := by unfold wpB; rw [c]; rfl
        rw [e] at k
        exact iteF (k H2 s2)
      | true =>
        have e : wpB qs = decide (sumR qs = 1) := by unfold wpB; rw [c]; rfl
        rw [e] at k
        refine iteT ⟨_, rfl, ?_⟩
        dsimp only [tNil]
        refine (hv.same s2).sum fun v' H3 s3 rv => ?_
        refine ⟨(by show 2 ≤ sizeLine; decide), fun p np => ?_⟩
        have s4 := Same.new (o := .tup [V.int 1, V.int 1]) np
        have e4 : upd H3 p (.tup [V.int 1, V.int 1]) p = some (.tup [V.int 1, V.int 1]) := upd_same
        generalize upd H3 p (.tup [V.int 1, V.int 1]) = H4 at s4 e4 ⊢
        have one : RV K H4 (.ref p) 1 := ⟨p, rfl, SqT.of e4⟩
        refine ⟨_, _, (rv.same s4).dp, one.dp, pdQ_shaped _, pdQ_shaped _, ?_⟩
        rw [eqv_pdQ]
        exact k H4 ((s2.trans s3).trans s4)
    obtain ⟨a, us, n, m, rfl, hs, al, n4, m4, len⟩ := hv'
    have lu := al.1
    have step : ∀ (i : Nat) (x : V), us[i]? = some x → ∀ (acc : List V) (H' : Hp) (Qk : VK), acc = ((qs.take i).map fun q => decide (0 < q)).map V.bl → Same H H' → (∀ v' H4, Same H' H4 → (acc ++ [v']) = ((qs.take (i + 1)).map fun q => decide (0 < q)).map V.bl → Qk v' H4) →
        spTwo K T.cN cBin (fun _ v q r => v = .bl (decide (q < r))) [.int 0, x] H' Qk (fun _ _ _ => False) := by
      intro i x hx acc H' Qk r s1 kk
      have lt : i < qs.length := by
        have := (List.getElem?_eq_some_iff.mp hx).1
        omega
      refine ⟨_, _, rfl, .inl ⟨0, _, 1, 1, n, m, (arg_int (i := 0) (by decide) (by decide)), (al.2 i x _ hx (at_cf lt)).same s1, by omega, by omega, ⟨by omega, by omega⟩, fun v' H4 s4 ev => kk _ _ s4 ?_⟩⟩
      subst ev
      rw [take_snoc (at_cf lt), r, List.map_append, List.map_append]
      rfl
    rcases hs with hs | hs
    · refine .inl ⟨_, rfl, a, rfl, ⟨_, hs⟩, fun D hD => ?_⟩
      refine lc_mapL hs (by omega) hD (fun i acc _ => acc = ((qs.take i).map fun q => decide (0 < q)).map V.bl) bears_pure rfl ?_ ?_
      · rintro i x hx acc H' Qk Z la r s1 kk
        refine ⟨rfl, ?_⟩
        dsimp only [tYes]
        exact iteT ⟨_, rfl, step i x hx acc H' Qk r s1 kk⟩
      · rintro acc H2 hacc lacc r s2
        refine key D acc H2 hacc ?_ s2
        have r' : acc = ((qs.take us.length).map fun q => decide (0 < q)).map V.bl := r
        rw [lu, List.take_length] at r'
        exact r'
    · refine .inr ⟨_, rfl, a, rfl, ⟨_, hs⟩, fun D hD => ?_⟩
      refine lc_mapT hs (by omega) hD (fun i acc _ => acc = ((qs.take i).map fun q => decide (0 < q)).map V.bl) bears_pure rfl ?_ ?_
      · rintro i x hx acc H' Qk Z la r s1 kk
        refine ⟨rfl, ?_⟩
        dsimp only [tYes]
        exact iteT ⟨_, rfl, step i x hx acc H' Qk r s1 kk⟩
      · rintro acc H2 hacc lacc r s2
        refine key D acc H2 hacc ?_ s2
        have r' : acc = ((qs.take us.length).map fun q => decide (0 < q)).map V.bl := r
        rw [lu, List.take_length] at r'
        exact r'
end
end Kz
set_option linter.all false
set_option maxRecDepth 100000
set_option maxHeartbeats 4000000
namespace Kz
open PySem PySem.Spec PyProof.Rows L2
/-- the fields of a Share -/
def shF (x y : V) : List (Str × V) := [(("places" : Str), x), (("parts" : Str), y)]
theorem putS2 {x y : V} : putF "parts" y [(("places" : Str), x)] = shF x y := by
  unfold putF
  rw [if_neg (by decide +kernel)]
  rfl
theorem lkS1 {x y : V} : (shF x y).lookup ("places" : Str) = some x := by
  simp [shF, List.lookup]
theorem lkS2 {x y : V} : (shF x y).lookup ("parts" : Str) = some y := by
  have h1 : (("parts" : Str) == ("places" : Str)) = false := by decide +kernel
  simp [shF, List.lookup, h1]
def ShAt (K : PySem.W.Frag) (cS : Addr) (H : Hp) (v : V) (xs ps : List Rat) : Prop := ∃ a dx t1 t2 w1 w2, v = .ref a ∧ H a = some (.ins cS dx (shF (.ref t1) (.ref t2))) ∧ SqT K H t1 w1 ∧ Al K H w1 xs ∧ SqT K H t2 w2 ∧ Al K H w2 ps
theorem ShAt.same {K : PySem.W.Frag} {cS : Addr} {H H' : Hp} {v : V} {xs ps : List Rat} (s : Same H H') (h : ShAt K cS H v xs ps) : ShAt K cS H' v xs ps := by
  obtain ⟨a, dx, t1, t2, w1, w2, e, ha, h1, a1, h2, a2⟩ := h
  exact ⟨a, dx, t1, t2, w1, w2, e, s _ _ ha, Kz.Same.seqT s h1, a1.same s, Kz.Same.seqT s h2, a2.same s⟩
theorem beqT {i j : Int} (h : i = j) : (i == j) = true := by simp [h]
theorem beqF {i j : Int} (h : i ≠ j) : (i == j) = false := by simp [h]
section
variable {P : Program} {w : World} {K : PySem.W.Frag} {mg : Str → Option Value} {base : Heap}
def spParts (K : PySem.W.Frag) : Sp := fun vs H Q _ => ∃ v qs, ∃ many : Nat, vs = [v, .int (many : Nat)] ∧ Rw K H v qs ∧ qs.length = many ∧ ∀ H', Same H H' → Q (.bl (wpB qs)) H'
theorem sc43g : FnScope ["value", "many"] ["value", "many"] (defScope (top 45)) := ⟨rfl, rfl, rfl, by decide +kernel, rfl, by decide +kernel, by decide +kernel⟩
theorem ok_parts (T : Tg P K mg) : FnOk P w K mg base CX0 8 T.are_parts.f T.are_parts.fd ["value", "many"] (spParts K) := by
  have G1 : FnOk P w K mg base CX0 4 T.is_row.f T.is_row.fd ["value"] (spRow K) := ok_row T.toTz
  have G2 : FnOk P w K mg base CX0 7 T.whole_parts.f T.whole_parts.fd ["row"] (spWp K) := ok_wp T
  refine T.are_parts.fn.ok sc43g (fun vs H Q E h => ?_) (fun cdv A outer s H vs Q E hr h => ?_)
  · obtain ⟨v, qs, many, rfl, _⟩ := h
    rfl
  · obtain ⟨v, qs, many, rfl, hv, len, k⟩ := h
    have hr4 : Room 4 _ := hr.mono (by decide)
    refine ⟨_, pss_one (ps_ret (pe_and (T.is_row.c0 G1 hr4 (pa_cons (pv 0) pa_nil)) (pe_and (pe_cmpR op_eq (pe_callB call_len_seq (by rfl) T.blt.len PySem.boot_len (pa_cons (pv 0) pa_nil)) (pv 1) (nomark _))
      (pe_one (T.whole_parts.c0 G2 hr (pa_cons (pv 0) pa_nil)))))), ?_⟩
    refine ⟨_, rfl, ?_⟩
    dsimp only [tNil]
    refine hv.row fun H1 s1 => ?_
    refine ⟨_, rfl, iteT ?_⟩
    obtain ⟨a, us, rfl, hs, lu, _⟩ := (hv.same s1).len
    refine ⟨_, rfl, a, us, rfl, hs, _, rfl, rfl, _, rfl, ?_⟩
    rw [dec_int, beqT (show ((us.length : Nat) : Int) = ((many : Nat) : Int) by omega)]
    exact iteT ⟨_, rfl, _, qs, rfl, hv.same s1, fun H2 s2 => k H2 (s1.trans s2)⟩
def spSinit (K : PySem.W.Frag) (cS : Addr) : Sp := fun vs H Q _ => ∃ x dx xv pv H0 xs ps, vs = [.ref x, xv, pv] ∧ H x = some (.ins cS dx []) ∧ Same H0 H ∧ H0 x = none ∧ Rw K H0 xv xs ∧ 0 < xs.length ∧ ascB xs = true ∧ Rw K H0 pv ps ∧ ps.length = xs.length ∧ wpB ps = true ∧
  ∀ H' t1 t2 w1 w2, But x H H' → H' x = some (.ins cS dx (shF (.ref t1) (.ref t2))) → SqT K H' t1 w1 → Al K H' w1 xs → SqT K H' t2 w2 → Al K H' w2 ps → Q .non H'
abbrev nS0 : List Str := ["self", "places", "parts"]
theorem scS0 : FnScope nS0 ["self", "places", "parts"] (defScope (sS 0)) := ⟨rfl, rfl, rfl, by decide +kernel, rfl, by decide +kernel, by decide +kernel⟩
theorem ok_sinit (T : Tg P K mg) : FnOk P w K mg base (CX P w) 9 T.s_init.f T.s_init.fd ["self", "places", "parts"] (spSinit K T.cS) := by
  have G1 : FnOk P w K mg base CX0 4 T.is_row.f T.is_row.fd ["value"] (spRow K) := ok_row T.toTz
  have G2 : FnOk P w K mg base CX0 6 T.ascends.f T.ascends.fd ["row"] (spAscR K) := ok_ascR T.toTb
  have G3 : FnOk P w K mg base CX0 8 T.are_parts.f T.are_parts.fd ["value", "many"] (spParts K) := ok_parts T
  have G4 : FnOk P w K mg base CX0 5 T.told_row.f T.told_row.fd ["row"] (spTrowN K) := ok_trowN T.toTb
  refine T.s_init.fn.okX scS0 (fun vs H Q E h => ?_) (fun cdv A outer s H vs Q E hr h => ?_)
  · obtain ⟨x, dx, xv, pv', H0, xs, ps, rfl, _⟩ := h
    rfl
  · obtain ⟨x, dx, xv, pv', H0, xs, ps, rfl, hx, s0, n0, hv, pos, asc, hp, lp, wp, k⟩ := h
    have hr4 : Room 4 _ := hr.mono (by decide)
    have hr5 : Room 5 _ := hr.mono (by decide)
    have hr6 : Room 6 _ := hr.mono (by decide)
    have tk := takes_of (X := cxOf (CX P w) P w K mg base nS0 "Share.__init__" (defScope (sS 0)) T.s_init.f cdv A outer s H E) (E := E) rfl rfl rfl rfl
    refine ⟨_, pss_cons (ps_if (PW.pt (pw_or (pt_not (pt_val (T.is_row.c0 G1 hr4 (pa_cons (pv 1) pa_nil))))
          (pw_or (pt_cmpR op_eq (pe_callB call_len_seq (by rfl) T.blt.len PySem.boot_len (pa_cons (pv 1) pa_nil)) pe_int (nomark _))
            (pw_or1 (pt_not (pt_val (T.ascends.c0 G2 hr6 (pa_cons (pv 1) pa_nil))))))))
        (pss_one (ps_raise rfl tk (pmk_oex (CX := CX0) T.eR.o T.iR.i T.iR.t (ok_i4 T.iR.fn) (hr.mono (by decide)) T.bR .nil pass0 rfl T.eR.g (pa_cons (pv 1) pa_nil)))) pss_nil)
      (pss_cons (ps_if (pt_not (pt_val (T.are_parts.c0 G3 hr (pa_cons (pv 2) (pa_cons (pe_callB call_len_seq (by rfl) T.blt.len PySem.boot_len (pa_cons (pv 1) pa_nil)) pa_nil)))))
        (pss_one (ps_raise rfl tk (pmk_oex (CX := CX0) T.eR.o T.iR.i T.iR.t (ok_i4 T.iR.fn) (hr.mono (by decide)) T.bR .nil pass0 rfl T.eR.g (pa_cons (pv 2) pa_nil)))) pss_nil)
      (pss_cons (ps_fld (pv 0) (T.told_row.c0 G4 hr5 (pa_cons (pv 1) pa_nil)) (by rfl))
      (pss_one (ps_fld (pv 0) (T.told_row.c0 G4 hr5 (pa_cons (pv 2) pa_nil)) (by rfl))))), ?_⟩
    refine ⟨_, rfl, ?_⟩
    dsimp only [tNil]
    refine (hv.same s0).row fun H1 s1 => ?_
    refine ⟨_, rfl, iteF ?_⟩
    have s01 := s0.trans s1
    obtain ⟨a, us, rfl, hs, lu, _⟩ := (hv.same s01).len
    refine ⟨_, rfl, a, us, rfl, hs, rfl, _, rfl, ?_⟩
    rw [dec_int, beqF (show ((us.length : Nat) : Int) ≠ 0 by omega)]
    refine iteF ⟨_, rfl, _, xs, rfl, hv.same s01, pos, fun H2 s2 => ?_⟩
    rw [asc]
    refine ⟨_, rfl, iteF ?_⟩
    have s02 := s01.trans s2
    refine ⟨_, rfl, _, rfl, a, us, rfl, Sq.same2 s2 hs, ?_⟩
    refine ⟨_, ps, us.length, rfl, hp.same s02, by omega, fun H3 s3 => ?_⟩
    rw [wp]
    refine ⟨_, rfl, iteF ?_⟩
    have s03 := s02.trans s3
    refine ⟨_, rfl, ?_⟩
    dsimp only [tNil]
    refine (hv.same s03).told fun t1 H4 w1 s4 ht1 al1 => ?_
    have s04 := s03.trans s4
    have x4 := (((s1.trans s2).trans s3).trans s4) _ _ hx
    refine ⟨_, rfl, x, T.cS, dx, [], rfl, x4, T.clS, T.nSh1, by decide, ?_⟩
    have b5 : But x H4 (upd H4 x (.ins T.cS dx (putF "places" (.ref t1) []))) := But.refl.set
    have b05 : But x H (upd H4 x (.ins T.cS dx (putF "places" (.ref t1) []))) := fun c o e n => b5 c o ((((s1.trans s2).trans s3).trans s4) _ _ e) n
    have s05 := sameOff s04 n0 b5
    have ht5 := ht1.off x4 b5
    have al5 := al1.off x4 b5
    have x5 : upd H4 x (.ins T.cS dx (putF "places" (.ref t1) [])) x = some (.ins T.cS dx [(("places" : Str), .ref t1)]) := upd_same
    generalize upd H4 x (.ins T.cS dx (putF "places" (.ref t1) [])) = H5 at b05 s05 ht5 al5 x5 ⊢
    refine ⟨_, rfl, ?_⟩
    dsimp only [tNil]
    refine (hp.same s05).told fun t2 H6 w2 s6 ht2 al2 => ?_
    have x6 := s6 _ _ x5
    refine ⟨_, rfl, x, T.cS, dx, _, rfl, x6, T.clS, T.nSh2, (by show 1 < 1000; decide), ?_⟩
    rw [putS2]
    have b7 : But x H6 (upd H6 x (.ins T.cS dx (shF (.ref t1) (.ref t2)))) := But.refl.set
    exact k _ t1 t2 w1 w2 (fun c o e n => b7 c o (s6 _ _ (b05 c o e n)) n) upd_same ((ht5.same s6).off x6 b7).seqT ((al5.same s6).off x6 b7) (ht2.off x6 b7).seqT (al2.off x6 b7)
end
end Kz
set_option linter.all false
set_option maxRecDepth 100000
set_option maxHeartbeats 4000000
set_option pp.maxSteps 400
namespace Kz
open PySem PySem.Spec PyProof.Rows L2
theorem via {t : TT} {σ : L2.St} {H : Hp} {Q : Bool → Hp → Prop} (h : ∀ Q' : Bool → Hp → Prop, (∀ H', Same H H' → Q' false H') → t σ H Q') (k : ∀ H', Same H H' → Q false H') : t σ H Q := h Q k
theorem viaE {t : TE} {σ : L2.St} {H : Hp} {Q : VK} {R : V → Hp → Prop} (h : ∀ Q' : VK, (∀ v H', Same H H' → R v H' → Q' v H') → t σ H Q') (k : ∀ v H', Same H H' → R v H' → Q v H') : t σ H Q := h Q k
theorem nonT {v : V} (h : v = .non) : decide (v = V.non) = true := decide_eq_true h
theorem nonF {v : V} (h : v ≠ .non) : decide (v = V.non) = false := decide_eq_false h
/-- the fields of a Told -/
def toF (x y z : V) : List (Str × V) := [(("function" : Str), x), (("least" : Str), y), (("most" : Str), z)]
theorem putT2 {x y : V} : putF "least" y [(("function" : Str), x)] = [(("function" : Str), x), (("least" : Str), y)] := by
  unfold putF
  rw [if_neg (by decide +kernel)]
  rfl
theorem putT3 {x y z : V} : putF "most" z [(("function" : Str), x), (("least" : Str), y)] = toF x y z := by
  unfold putF
  rw [if_neg (by decide +kernel)]
  unfold putF
  rw [if_neg (by decide +kernel)]
  rfl
theorem lkT1 {x y z : V} : (toF x y z).lookup ("function" : Str) = some x := by
  simp [toF, List.lookup]
theorem lkT2 {x y z : V} : (toF x y z).lookup ("least" : Str) = some y := by
  have h1 : (("least" : Str) == ("function" : Str)) = false := by decide +kernel
  simp [toF, List.lookup, h1]
theorem lkT3 {x y z : V} : (toF x y z).lookup ("most" : Str) = some z := by
  have h1 : (("most" : Str) == ("function" : Str)) = false := by decide +kernel
  have h2 : (("most" : Str) == ("least" : Str)) = false := by decide +kernel
  simp [toF, List.lookup, h1, h2]
/-- a bound, or none -/
def OR (K : PySem.W.Frag) (H : Hp) (v : V) (o : Option Rat) : Prop := (v = .non ∧ o = none) ∨ ∃ q, o = some q ∧ RV K H v q
theorem OR.same {K : PySem.W.Frag} {H H' : Hp} {v : V} {o : Option Rat} (s : Same H H') (h : OR K H v o) : OR K H' v o := h.imp id fun ⟨q, e, r⟩ => ⟨q, e, r.same s⟩
def OA (K : PySem.W.Frag) (H : Hp) (v : V) (o : Option Rat) : Prop := (v = .non ∧ o = none) ∨ ∃ q n, o = some q ∧ ArgQ K H v n 4500 q ∧ n ≤ 10000
theorem OA.same {K : PySem.W.Frag} {H H' : Hp} {v : V} {o : Option Rat} (s : Same H H') (h : OA K H v o) : OA K H' v o := h.imp id fun ⟨q, n, e, r, l⟩ => ⟨q, n, e, r.same s, l⟩
theorem ArgQ.nn {K : PySem.W.Frag} {H : Hp} {v : V} {n m : Nat} {q : Rat} (h : ArgQ K H v n m q) : v ≠ .non := by
  obtain ⟨a, b, h, _⟩ := h
  intro e
  subst e
  cases h
theorem RV.nn {K : PySem.W.Frag} {H : Hp} {v : V} {q : Rat} (h : RV K H v q) : v ≠ .non := by
  obtain ⟨t, rfl, _⟩ := h
  exact V.noConfusion
theorem OR.off {K : PySem.W.Frag} {H H' : Hp} {x C dx : Addr} {fs : List (Str × V)} {v : V} {o : Option Rat} (hx : H x = some (.ins C dx fs)) (b : But x H H') (h : OR K H v o) : OR K H' v o := h.imp id fun ⟨q, e, t, e2, r⟩ => ⟨q, e, t, e2, Kz.SqT.off hx b r⟩
/-- whether a row of bounds is one for a function -/
structure Bds (ks : List Rat) (ps : List (List Rat)) (as : List Rat) (lo hi : Option Rat) : Prop where
  kd : abv ks ps as ks.length = false ∨ blw ks ps as ks.length = false
  up : lo ≠ none → abv ks ps as ks.length = false
  dn : hi ≠ none → blw ks ps as ks.length = false
  le : ∀ a b, lo = some a → hi = some b → ¬ b < a
  so : lo ≠ none ∨ hi ≠ none
def ToAt (K : PySem.W.Frag) (cT cB cP : Addr) (H : Hp) (v : V) (ks : List Rat) (ps : List (List Rat)) (as : List Rat) (lo hi : Option Rat) : Prop := ∃ a dx f l m, v = .ref a ∧ H a = some (.ins cT dx (toF f l m)) ∧ BrkAt K cB cP H f ks ps as ∧ KnF H f ∧ OR K H l lo ∧ OR K H m hi
theorem ToAt.same {K : PySem.W.Frag} {cT cB cP : Addr} {H H' : Hp} {v : V} {ks as : List Rat} {ps : List (List Rat)} {lo hi : Option Rat} (s : Same H H') (h : ToAt K cT cB cP H v ks ps as lo hi) : ToAt K cT cB cP H' v ks ps as lo hi := by
  obtain ⟨a, dx, f, l, m, e, ha, h1, h2, h3, h4⟩ := h
  exact ⟨a, dx, f, l, m, e, s _ _ ha, h1.same s, h2.same s, h3.same s, h4.same s⟩
section
variable {P : Program} {w : World} {K : PySem.W.Frag} {mg : Str → Option Value} {base : Heap}
def spBk (K : PySem.W.Frag) (cB cP : Addr) : Sp := fun vs H Q _ => ∃ f ks ps as, vs = [f] ∧ BrkZ K cB cP H f ks ps as ∧ (abv ks ps as ks.length = false ∨ blw ks ps as ks.length = false) ∧ ∀ H', Same H H' → Q (.bl true) H'
theorem sc44g : FnScope ["function"] ["function"] (defScope (top 46)) := ⟨rfl, rfl, rfl, by decide +kernel, rfl, by decide +kernel, by decide +kernel⟩
theorem ok_bk (T : Tg P K mg) : FnOk P w K mg base CX0 9 T.is_bk.f T.is_bk.fd ["function"] (spBk K T.cB T.cP) := by
  have G1 : FnOk P w K mg base CX0 8 T.b_upper.f T.b_upper.fd ["self"] (spBkind K T.cB T.cP fun ks ps as => !abv ks ps as ks.length) := ok_bupper T.toTb
  have G2 : FnOk P w K mg base CX0 8 T.b_lower.f T.b_lower.fd ["self"] (spBkind K T.cB T.cP fun ks ps as => !blw ks ps as ks.length) := ok_blower T.toTb
  refine T.is_bk.fn.ok sc44g (fun vs H Q E h => ?_) (fun cdv A outer s H vs Q E hr h => ?_)
  · obtain ⟨f, ks, ps, as, rfl, _⟩ := h
    rfl
  · obtain ⟨f, ks, ps, as, rfl, hf, kd, k⟩ := h
    refine ⟨_, pss_one (ps_ret (pe_and (pe_callB (call_isiK (K' := K)) (by rfl) T.mIsi boot_isi (pa_cons (pv 0) (pa_cons (pe_glob (v := .ref T.cB) rfl T.mgB rfl) pa_nil)))
      (pe_one (pe_or (pe_meth0 (pv 0) T.clB T.b_upper.me G1 hr T.b_upper.b .nil pass0) (pe_one (pe_meth0 (pv 0) T.clB T.b_lower.me G2 hr T.b_lower.b .nil pass0)))))), ?_⟩
    obtain ⟨⟨a, dx, t1, t2, t3, w1, us, w3, rfl, ha, _⟩, _⟩ := id hf
    refine ⟨_, rfl, _, _, _, _, true, rfl, .own _, brk_ty T.toTc ha, kit_self, _, rfl, ?_⟩
    refine iteT ⟨_, rfl, a, dx, _, rfl, ha, lkBup, .ref a, ks, ps, as, rfl, hf, fun H1 s1 => ?_⟩
    dsimp only
    cases c : abv ks ps as ks.length with
    | false => exact ⟨_, rfl, iteT (k H1 s1)⟩
    | true =>
      have c2 := kd.resolve_left (by rw [c]; exact Bool.noConfusion)
      refine ⟨_, rfl, iteF ⟨_, rfl, a, dx, _, rfl, s1 _ _ ha, lkBlo, .ref a, ks, ps, as, rfl, hf.same s1, fun H2 s2 => ?_⟩⟩
      dsimp only
      rw [c2]
      exact k H2 (s1.trans s2)
def spTinit (K : PySem.W.Frag) (cT cB cP : Addr) : Sp := fun vs H Q _ => ∃ x dx f lv mv H0 ks ps as lo hi, vs = [.ref x, f, lv, mv] ∧ H x = some (.ins cT dx []) ∧ Same H0 H ∧ H0 x = none ∧ BrkZ K cB cP H0 f ks ps as ∧ KnF H0 f ∧ OA K H0 lv lo ∧ OA K H0 mv hi ∧ Bds ks ps as lo hi ∧
  ∀ H' l m, But x H H' → H' x = some (.ins cT dx (toF f l m)) → OR K H' l lo → OR K H' m hi → Q .non H'
abbrev nT0 : List Str := ["self", "function", "least", "most"]
theorem scT0 : FnScope nT0 ["self", "function", "least", "most"] (defScope (sT 0)) := ⟨rfl, rfl, rfl, by decide +kernel, rfl, by decide +kernel, by decide +kernel⟩
theorem ok_tinit (T : Tg P K mg) : FnOk P w K mg base (CX P w) 10 T.t_init.f T.t_init.fd ["self", "function", "least", "most"] (spTinit K T.cT T.cB T.cP) := by
  have G1 : FnOk P w K mg base CX0 9 T.is_bk.f T.is_bk.fd ["function"] (spBk K T.cB T.cP) := ok_bk T
  have G2 : FnOk P w K mg base CX0 3 T.is_ratio.f T.is_ratio.fd ["value"] (spRatio K) := ok_ratio T.toTx
  have G3 : FnOk P w K mg base CX0 8 T.b_upper.f T.b_upper.fd ["self"] (spBkind K T.cB T.cP fun ks ps as => !abv ks ps as ks.length) := ok_bupper T.toTb
  have G4 : FnOk P w K mg base CX0 8 T.b_lower.f T.b_lower.fd ["self"] (spBkind K T.cB T.cP fun ks ps as => !blw ks ps as ks.length) := ok_blower T.toTb
  have G5 : FnOk P w K mg base (CX P w) 5 T.lower.f T.lower.fd ["one", "other"] (spTwo K T.cN cBin (fun _ v q r => v = .bl (decide (q < r)))) := ok_lower T.toTx
  have G6 : FnOk P w K mg base (CX P w) 4 T.told.f T.told.fd ["value", "what"] (spTold K T.cN) := ok_told T.toTx
  refine T.t_init.fn.okX scT0 (fun vs H Q E h => ?_) (fun cdv A outer s H vs Q E hr h => ?_)
  · obtain ⟨x, dx, f, lv, mv, H0, ks, ps, as, lo, hi, rfl, _⟩ := h
    rfl
  · obtain ⟨x, dx, f, lv, mv, H0, ks, ps, as, lo, hi, rfl, hx, s0, n0, hf, kn, hl, hm, bd, k⟩ := h
    have hr3 : Room 3 _ := hr.mono (by decide)
    have hr4 : Room 4 _ := hr.mono (by decide)
    have hr5 : Room 5 _ := hr.mono (by decide)
    have hr8 : Room 8 _ := hr.mono (by decide)
    have tk := takes_of (X := cxOf (CX P w) P w K mg base nT0 "Told.__init__" (defScope (sT 0)) T.t_init.f cdv A outer s H E) (E := E) rfl rfl rfl rfl
    refine ⟨_, pss_cons (ps_if (pt_not (pt_val (T.is_bk.c0 G1 hr (pa_cons (pv 1) pa_nil))))
        (pss_one (ps_raise rfl tk (pmk_oex (CX := CX0) T.eU.o T.iU.i T.iU.t (ok_i6 T.iU.fn) (hr.mono (by decide)) T.bU .nil pass0 rfl T.eU.g (pa_cons pe_str pa_nil)))) pss_nil)
      (pss_cons (ps_if (PW.pt (pw_and (pt_cmpR op_notN (pv 2) pe_non (nomark _)) (pw_and1 (pt_not (PW.pt (pw_and (pt_val (T.is_ratio.c0 G2 hr3 (pa_cons (pv 2) pa_nil))) (pw_and1 (pt_val (pe_meth0 (pv 1) T.clB T.b_upper.me G3 hr8 T.b_upper.b .nil pass0)))))))))
        (pss_one (ps_raise rfl tk (pmk_oex (CX := CX0) T.eN.o T.iN.i T.iN.t (ok_i3 T.iN.fn) (hr.mono (by decide)) T.bN .nil pass0 rfl T.eN.g (pa_cons pe_str (pa_cons (pv 2) pa_nil))))) pss_nil)
      (pss_cons (ps_if (PW.pt (pw_and (pt_cmpR op_notN (pv 3) pe_non (nomark _)) (pw_and1 (pt_not (PW.pt (pw_and (pt_val (T.is_ratio.c0 G2 hr3 (pa_cons (pv 3) pa_nil))) (pw_and1 (pt_val (pe_meth0 (pv 1) T.clB T.b_lower.me G4 hr8 T.b_lower.b .nil pass0)))))))))
        (pss_one (ps_raise rfl tk (pmk_oex (CX := CX0) T.eN.o T.iN.i T.iN.t (ok_i3 T.iN.fn) (hr.mono (by decide)) T.bN .nil pass0 rfl T.eN.g (pa_cons pe_str (pa_cons (pv 3) pa_nil))))) pss_nil)
      (pss_cons (ps_if (PW.pt (pw_and (pt_cmpR op_notN (pv 2) pe_non (nomark _)) (pw_and (pt_cmpR op_notN (pv 3) pe_non (nomark _)) (pw_and1 (pt_val (T.lower.cX G5 hr5 (pa_cons (pv 3) (pa_cons (pv 2) pa_nil))))))))
        (pss_one (ps_raise rfl tk (pmk_oex (CX := CX0) T.eN.o T.iN.i T.iN.t (ok_i3 T.iN.fn) (hr.mono (by decide)) T.bN .nil pass0 rfl T.eN.g (pa_cons pe_str (pa_cons (pv 3) pa_nil))))) pss_nil)
      (pss_cons (ps_if (PW.pt (pw_and (pt_cmpR op_isN (pv 2) pe_non (nomark _)) (pw_and1 (pt_cmpR op_isN (pv 3) pe_non (nomark _)))))
        (pss_one (ps_raise rfl tk (pmk_oex (CX := CX0) T.eU.o T.iU.i T.iU.t (ok_i6 T.iU.fn) (hr.mono (by decide)) T.bU .nil pass0 rfl T.eU.g (pa_cons pe_str pa_nil)))) pss_nil)
      (pss_cons (ps_fld (pv 0) (pv 1) (by rfl))
      (pss_cons (ps_fld (pv 0) (pe_ifExp (pt_cmpR op_isN (pv 2) pe_non (nomark _)) pe_non (T.told.cX G6 hr4 (pa_cons (pv 2) (pa_cons pe_str pa_nil)))) (by rfl))
      (pss_one (ps_fld (pv 0) (pe_ifExp (pt_cmpR op_isN (pv 3) pe_non (nomark _)) pe_non (T.told.cX G6 hr4 (pa_cons (pv 3) (pa_cons pe_str pa_nil)))) (by rfl))))))))), ?_⟩
    obtain ⟨⟨a, fx, t1, t2, t3, w1, us, w3, rfl, ha, _⟩, _⟩ := id hf
    refine ⟨_, rfl, _, ks, ps, as, rfl, hf.same s0, bd.kd, fun H1 s1 => ⟨_, rfl, iteF ?_⟩⟩
    have s01 := s0.trans s1
    dsimp only [tNext, tSeq, tIfS]
    refine via (t := tAnd _ _) (fun Q' k' => ?_) (fun H2 s2 => iteF ?_)
    · rcases hl with ⟨rfl, e⟩ | ⟨q, n, e, aq, nn⟩
      · refine ⟨_, rfl, rfl, _, rfl, ?_⟩
        rw [nonT rfl]
        exact iteF (k' H1 (Same.refl _))
      · refine ⟨_, rfl, rfl, _, rfl, ?_⟩
        rw [nonF aq.nn]
        obtain ⟨tt, b, ty, pr, eb⟩ := (aq.same s01).rb
        refine iteT ⟨_, rfl, lv, tt, b, rfl, ty, pr, fun H2 s2 => ?_⟩
        rw [← eb]
        refine ⟨_, rfl, iteT ⟨_, rfl, a, fx, _, rfl, (s01.trans s2) _ _ ha, lkBup, _, ks, ps, as, rfl, hf.same (s01.trans s2), fun H3 s3 => ?_⟩⟩
        dsimp only
        rw [bd.up (by rw [e]; exact Option.some_ne_none _)]
        exact ⟨_, rfl, k' H3 (s2.trans s3)⟩
    have s02 := s01.trans s2
    refine via (t := tAnd _ _) (fun Q' k' => ?_) (fun H3 s3 => iteF ?_)
    · rcases hm with ⟨rfl, e⟩ | ⟨q, n, e, aq, nn⟩
      · refine ⟨_, rfl, rfl, _, rfl, ?_⟩
        rw [nonT rfl]
        exact iteF (k' H2 (Same.refl _))
      · refine ⟨_, rfl, rfl, _, rfl, ?_⟩
        rw [nonF aq.nn]
        obtain ⟨tt, b, ty, pr, eb⟩ := (aq.same s02).rb
        refine iteT ⟨_, rfl, mv, tt, b, rfl, ty, pr, fun H3 s3 => ?_⟩
        rw [← eb]
        refine ⟨_, rfl, iteT ⟨_, rfl, a, fx, _, rfl, (s02.trans s3) _ _ ha, lkBlo, _, ks, ps, as, rfl, hf.same (s02.trans s3), fun H4 s4 => ?_⟩⟩
        dsimp only
        rw [bd.dn (by rw [e]; exact Option.some_ne_none _)]
        exact ⟨_, rfl, k' H4 (s3.trans s4)⟩
    have s03 := s02.trans s3
    refine via (t := tAnd _ _) (fun Q' k' => ?_) (fun H4 s4 => iteF ?_)
    · rcases hl with ⟨rfl, e⟩ | ⟨q, n, e, aq, nn⟩
      · refine ⟨_, rfl, rfl, _, rfl, ?_⟩
        rw [nonT rfl]
        exact iteF (k' H3 (Same.refl _))
      · refine ⟨_, rfl, rfl, _, rfl, ?_⟩
        rw [nonF aq.nn]
        refine iteT ?_
        rcases hm with ⟨rfl, e'⟩ | ⟨r, n', e', ar, nn'⟩
        · refine ⟨_, rfl, rfl, _, rfl, ?_⟩
          rw [nonT rfl]
          exact iteF (k' H3 (Same.refl _))
        · refine ⟨_, rfl, rfl, _, rfl, ?_⟩
          rw [nonF ar.nn]
          refine iteT ⟨_, rfl, _, rfl, mv, lv, rfl, .inl ⟨r, q, n', 4500, n, 4500, ar.same s03, aq.same s03, by decide, by decide, ⟨by omega, by decide⟩, fun v' H4 s4 ev => ?_⟩⟩
          subst ev
          rw [decide_eq_false (bd.le q r e e')]
          exact ⟨_, rfl, k' H4 s4⟩
    have s04 := s03.trans s4
    refine via (t := tAnd _ _) (fun Q' k' => ?_) (fun H5 s5 => iteF ?_)
    · rcases hl with ⟨rfl, e⟩ | ⟨q, n, e, aq, nn⟩
      · refine ⟨_, rfl, rfl, _, rfl, ?_⟩
        rw [nonT rfl]
        refine iteT ?_
        rcases hm with ⟨rfl, e'⟩ | ⟨r, n', e', ar, nn'⟩
        · rcases bd.so with z | z
          · exact absurd e z
          · exact absurd e' z
        · refine ⟨_, rfl, rfl, _, rfl, ?_⟩
          rw [nonF ar.nn]
          exact k' H4 (Same.refl _)
      · refine ⟨_, rfl, rfl, _, rfl, ?_⟩
        rw [nonF aq.nn]
        exact iteF (k' H4 (Same.refl _))
    have s05 := s04.trans s5
    have h05 := (((s1.trans s2).trans s3).trans s4).trans s5
    have x5 := h05 _ _ hx
    refine ⟨_, rfl, _, rfl, x, T.cT, dx, [], rfl, x5, T.clT, T.nTo1, by decide, ?_⟩
    have b6 : But x H5 (upd H5 x (.ins T.cT dx (putF "function" (.ref a) []))) := But.refl.set
    have b06 : But x H (upd H5 x (.ins T.cT dx (putF "function" (.ref a) []))) := fun c o e n => b6 c o (h05 _ _ e) n
    have s06 := sameOff s05 n0 b6
    have x6 : upd H5 x (.ins T.cT dx (putF "function" (.ref a) [])) x = some (.ins T.cT dx [(("function" : Str), .ref a)]) := upd_same
    generalize upd H5 x (.ins T.cT dx (putF "function" (.ref a) [])) = H6 at b06 s06 x6 ⊢
    dsimp only [tFld]
    refine viaE (t := tIf _ _ _) (R := fun v H' => OR K H' v lo) (fun Q' k' => ?_) (fun l H7 s7 ol => ?_)
    · rcases hl with ⟨rfl, e⟩ | ⟨q, n, e, aq, nn⟩
      · refine ⟨_, rfl, rfl, _, rfl, ?_⟩
        rw [nonT rfl]
        exact iteT (k' _ H6 (Same.refl _) (.inl ⟨rfl, e⟩))
      · refine ⟨_, rfl, rfl, _, rfl, ?_⟩
        rw [nonF aq.nn]
        exact iteF ⟨_, rfl, lv, _, rfl, .inl ⟨q, n, 4500, aq.same s06, by decide, fun v' H7 s7 rv => k' v' H7 s7 (.inr ⟨q, e, rv⟩)⟩⟩
    have s07 := s06.trans s7
    have x7 := s7 _ _ x6
    refine ⟨_, rfl, x, T.cT, dx, _, rfl, x7, T.clT, T.nTo2, (by show 1 < 1000; decide), ?_⟩
    rw [putT2]
    have b8 : But x H7 (upd H7 x (.ins T.cT dx [(("function" : Str), .ref a), (("least" : Str), l)])) := But.refl.set
    have b08 : But x H (upd H7 x (.ins T.cT dx [(("function" : Str), .ref a), (("least" : Str), l)])) := fun c o e n => b8 c o (s7 _ _ (b06 c o e n)) n
    have s08 := sameOff s07 n0 b8
    have ol8 := ol.off x7 b8
    have x8 : upd H7 x (.ins T.cT dx [(("function" : Str), .ref a), (("least" : Str), l)]) x = some (.ins T.cT dx [(("function" : Str), .ref a), (("least" : Str), l)]) := upd_same
    generalize upd H7 x (.ins T.cT dx [(("function" : Str), .ref a), (("least" : Str), l)]) = H8 at b08 s08 x8 ol8 ⊢
    dsimp only [sFld]
    refine viaE (t := tIf _ _ _) (R := fun v H' => OR K H' v hi) (fun Q' k' => ?_) (fun m H9 s9 om => ?_)
    · rcases hm with ⟨rfl, e⟩ | ⟨q, n, e, aq, nn⟩
      · refine ⟨_, rfl, rfl, _, rfl, ?_⟩
        rw [nonT rfl]
        exact iteT (k' _ H8 (Same.refl _) (.inl ⟨rfl, e⟩))
      · refine ⟨_, rfl, rfl, _, rfl, ?_⟩
        rw [nonF aq.nn]
        exact iteF ⟨_, rfl, mv, _, rfl, .inl ⟨q, n, 4500, aq.same s08, by decide, fun v' H9 s9 rv => k' v' H9 s9 (.inr ⟨q, e, rv⟩)⟩⟩
    have x9 := s9 _ _ x8
    refine ⟨_, rfl, x, T.cT, dx, _, rfl, x9, T.clT, T.nTo3, (by show 2 < 1000; decide), ?_⟩
    rw [putT3]
    have b10 : But x H9 (upd H9 x (.ins T.cT dx (toF (.ref a) l m))) := But.refl.set
    exact k _ l m (fun c o e n => b10 c o (s9 _ _ (b08 c o e n)) n) upd_same ((ol8.same s9).off x9 b10) (om.off x9 b10)
end
end Kz
set_option linter.all false
set_option maxRecDepth 100000
set_option maxHeartbeats 4000000
set_option pp.maxSteps 400
namespace Kz
open PySem PySem.Spec PyProof.Rows L2
theorem pe_fldK {X : Cx} {K' : PySem.W.Frag} {e : Expr} {ta : TE} {f : Str} {pos : Pos} (he : PE X e ta) (hb : attributeBase e f X.env (eval e X.env) = eval e X.env) (ek : X.K = K' := by rfl) : PE X (.Attribute e f pos) (tFld K' ta f) := by
  subst ek
  exact pe_fld he hb
/-- a told mean, as numbers -/
structure Rm where
  ps : List (List Rat)
  as : List Rat
  lo : Option Rat
  hi : Option Rat
def TRs (K : PySem.W.Frag) (cT cB cP : Addr) (H : Hp) (us : List V) (ks : List Rat) (ms : List Rm) : Prop := us.length = ms.length ∧ ∀ (i : Nat) (u : V) (m : Rm), us[i]? = some u → ms[i]? = some m → ToAt K cT cB cP H u ks m.ps m.as m.lo m.hi
theorem TRs.same {K : PySem.W.Frag} {cT cB cP : Addr} {H H' : Hp} {us : List V} {ks : List Rat} {ms : List Rm} (s : Same H H') (h : TRs K cT cB cP H us ks ms) : TRs K cT cB cP H' us ks ms := ⟨h.1, fun i u m a b => (h.2 i u m a b).same s⟩
def FRs (K : PySem.W.Frag) (cB cP : Addr) (H : Hp) (fs : List V) (ks : List Rat) (ms : List Rm) : Prop := fs.length = ms.length ∧ ∀ (i : Nat) (f : V) (m : Rm), fs[i]? = some f → ms[i]? = some m → BrkAt K cB cP H f ks m.ps m.as ∧ KnF H f
theorem FRs.same {K : PySem.W.Frag} {cB cP : Addr} {H H' : Hp} {fs : List V} {ks : List Rat} {ms : List Rm} (s : Same H H') (h : FRs K cB cP H fs ks ms) : FRs K cB cP H' fs ks ms := ⟨h.1, fun i u m a b => ⟨(h.2 i u m a b).1.same s, (h.2 i u m a b).2.same s⟩⟩
theorem FRs.nil {K : PySem.W.Frag} {cB cP : Addr} {H : Hp} {ks : List Rat} : FRs K cB cP H [] ks [] := ⟨rfl, fun i u m a _ => by cases a⟩
theorem FRs.snoc {K : PySem.W.Frag} {cB cP : Addr} {H : Hp} {fs : List V} {ks : List Rat} {ms : List Rm} {f : V} {m : Rm} (h : FRs K cB cP H fs ks ms) (b : BrkAt K cB cP H f ks m.ps m.as) (n : KnF H f) : FRs K cB cP H (fs ++ [f]) ks (ms ++ [m]) := by
  refine ⟨by rw [List.length_append, List.length_append, h.1]; rfl, fun i g r a c => ?_⟩
  rcases Nat.lt_or_ge i fs.length with lt | ge
  · rw [List.getElem?_append_left lt] at a
    rw [List.getElem?_append_left (by rw [← h.1]; exact lt)] at c
    exact h.2 i g r a c
  · rw [List.getElem?_append_right ge] at a
    rw [List.getElem?_append_right (by rw [← h.1]; exact ge), ← h.1] at c
    match e : i - fs.length, a, c with
    | 0, a, c =>
      cases a
      cases c
      exact ⟨b, n⟩
    | k + 1, a, c =>
      cases a
section
variable {P : Program} {w : World} {K : PySem.W.Frag} {mg : Str → Option Value} {base : Heap}
abbrev nFo : List Str := ["rows", "row"]
theorem sc48g : FnScope nFo ["rows"] (defScope (top 57)) := ⟨rfl, rfl, rfl, by decide +kernel, rfl, by decide +kernel, by decide +kernel⟩
/-- functions on one stretch -/
def spSt (K : PySem.W.Frag) (cB cP : Addr) : Sp := fun vs H Q _ => ∃ a fs ks ms, vs = [.ref a] ∧ SqL K H a fs ∧ FRs K cB cP H fs ks ms ∧ 0 < ks.length ∧ Q .non H
abbrev nSt : List Str := ["functions", "f"]
theorem sc47g : FnScope nSt ["functions"] (defScope (top 56)) := ⟨rfl, rfl, rfl, by decide +kernel, rfl, by decide +kernel, by decide +kernel⟩
theorem ok_st (T : Tg P K mg) : FnOk P w K mg base (CX P w) 4 T.check_st.f T.check_st.fd ["functions"] (spSt K T.cB T.cP) := by
  refine T.check_st.fn.okX sc47g (fun vs H Q E h => ?_) (fun cdv A outer s H vs Q E hr h => ?_)
  · obtain ⟨a, fs, ks, ms, rfl, _⟩ := h
    rfl
  · obtain ⟨a, fs, ks, ms, rfl, hs, fr, kp, k⟩ := h
    have hu := hr.units
    have tk := takes_of (X := cxOf (CX P w) P w K mg base nSt "check_one_stretch" (defScope (top 56)) T.check_st.f cdv A outer s H E) (E := E) rfl rfl rfl rfl
    refine ⟨_, pss_one (ps_for (passes_of rfl) rfl (pi_list (pv 0)) (pg_name (i := 1) sc47g.nd rfl (.inl rfl))
      (pss_one (ps_if (PW.pt (pw_or (pt_cmpR (op_neDK (K' := K) hu) (pe_ix ix_tup (pe_fld (pv 1) (by rfl)) pe_int (fun _ _ => rfl)) (pe_ix ix_tup (pe_fld (pe_ix ix_list (pv 0) pe_int (fun _ _ => rfl)) (by rfl)) pe_int (fun _ _ => rfl)) (nomark _))
          (pw_or1 (pt_cmpR (op_neDK (K' := K) hu) (pe_ix ix_tup (pe_fld (pv 1) (by rfl)) (pe_un un_neg pe_int) (fun _ _ => rfl)) (pe_ix ix_tup (pe_fld (pe_ix ix_list (pv 0) pe_int (fun _ _ => rfl)) (by rfl)) (pe_un un_neg pe_int) (fun _ _ => rfl)) (nomark _)))))
        (pss_one (ps_raise rfl tk (pmk_oex (CX := CX0) T.eU.o T.iU.i T.iU.t (ok_i6 T.iU.fn) (hr.mono (by decide)) T.bU .nil pass0 rfl T.eU.g (pa_cons pe_str pa_nil)))) pss_nil))), ?_⟩
    refine ⟨_, rfl, a, rfl, ⟨_, hs⟩, for_list (K := K) (a := a) (xs := fs) (fun i σ H' => H' = H ∧ ∃ v, σ = [some (.ref a), v]) ⟨rfl, _, rfl⟩ (fun i σ H' _ ⟨e, _⟩ => e ▸ hs) ?_ ?_⟩
    · rintro i f σ H' hf ⟨rfl, v, rfl⟩
      have lt : i < ms.length := by
        have := (List.getElem?_eq_some_iff.mp hf).1
        have := fr.1
        omega
      obtain ⟨f0, e0⟩ : ∃ f0, fs[0]? = some f0 := ⟨_, List.getElem?_eq_getElem (by have := fr.1; omega)⟩
      obtain ⟨⟨b, dx, t1, t2, t3, w1, us, w3, rfl, hb, h1, a1, _⟩, _⟩ := fr.2 i f _ hf (List.getElem?_eq_getElem lt)
      obtain ⟨⟨b', dx', t1', t2', t3', w1', us', w3', rfl, hb', h1', a1', _⟩, _⟩ := fr.2 0 f0 _ e0 (List.getElem?_eq_getElem (by omega))
      have l1 := a1.1
      have l1' := a1'.1
      obtain ⟨v0, ev0, r0⟩ := a1.get (i := 0) kp
      obtain ⟨u0, eu0, q0⟩ := a1'.get (i := 0) kp
      obtain ⟨vl, evl, rl⟩ := a1.get (i := ks.length - 1) (by omega)
      obtain ⟨ul, eul, ql⟩ := a1'.get (i := ks.length - 1) (by omega)
      refine ⟨_, rfl, b, T.cB, dx, _, _, rfl, hb, T.clB, T.nB1, lkB1, t1, w1, _, _, rfl, rfl, h1, atI_nat (j := 0) ev0, ?_⟩
      refine ⟨_, rfl, a, fs, _, _, rfl, rfl, hs, atI_nat (j := 0) e0, b', T.cB, dx', _, _, rfl, hb', T.clB, T.nB1, lkB1, t1', w1', _, _, rfl, rfl, h1', atI_nat (j := 0) eu0, ?_⟩
      refine ⟨_, _, r0.dp, q0.dp, pdQ_shaped _, pdQ_shaped _, ?_⟩
      rw [eqv_pdQ, decide_eq_true rfl]
      refine ⟨_, rfl, iteF ?_⟩
      refine ⟨_, rfl, b, T.cB, dx, _, _, rfl, hb, T.clB, T.nB1, lkB1, _, rfl, t1, w1, _, _, rfl, rfl, h1, atI_last (by rw [l1]; exact evl), ?_⟩
      refine ⟨_, rfl, a, fs, _, _, rfl, rfl, hs, atI_nat (j := 0) e0, b', T.cB, dx', _, _, rfl, hb', T.clB, T.nB1, lkB1, _, rfl, t1', w1', _, _, rfl, rfl, h1', atI_last (by rw [l1']; exact eul), ?_⟩
      refine ⟨_, _, rl.dp, ql.dp, pdQ_shaped _, pdQ_shaped _, ?_⟩
      rw [eqv_pdQ, decide_eq_true rfl]
      exact ⟨_, rfl, iteF ⟨rfl, _, rfl⟩⟩
    · rintro σ H' ⟨rfl, v, rfl⟩
      exact k
theorem sc45g : FnScope ["share", "low", "high"] ["share", "low", "high"] (defScope (top 47)) := ⟨rfl, rfl, rfl, by decide +kernel, rfl, by decide +kernel, by decide +kernel⟩
end
end Kz
set_option linter.all false
set_option maxRecDepth 100000
set_option maxHeartbeats 4000000
set_option pp.maxSteps 400
namespace Kz
open PySem PySem.Spec PyProof.Rows L2
theorem pi_tupK {X : Cx} {K' : PySem.W.Frag} {tg e : Expr} {ta : TE} (he : PE X e ta) (ek : X.K = K' := by rfl) : PI X tg e (iTup K' ta) := by
  subst ek
  exact pi_tup he
open Classical in
/-- the value at a place -/
noncomputable def vq (ks : List Rat) (ps : List (List Rat)) (as : List Rat) (x : Rat) : Rat := if h : ∃ y, Vat ks ps as x y then Classical.choose h else 0
/-- the share, as numbers -/
structure ShOk (xs parts : List Rat) : Prop where
  pos : 0 < xs.length
  few : xs.length ≤ 6
  len : parts.length = xs.length
  zx : ∀ x ∈ xs, Mz 8 19 x
  zp : ∀ p ∈ parts, Mz 1 6 p
structure RmOk (ks xs : List Rat) (m : Rm) : Prop where
  F : Fsz ks m.ps
  kf : ks.length ≤ 5
  la : m.as.length = ks.length
  za : ∀ q ∈ m.as, Mz 55 737 q
  pz : ∀ j, j < m.ps.length → Pz j (pv' m.ps j)
  rg : ∀ x ∈ xs, cf ks 0 ≤ x ∧ x ≤ cf ks (ks.length - 1)
noncomputable def mnQ (ks xs parts : List Rat) (m : Rm) : Rat := dotR (xs.map (vq ks m.ps m.as)) parts
section
variable {P : Program} {w : World} {K : PySem.W.Frag} {mg : Str → Option Value} {base : Heap}
abbrev nMn : List Str := ["share", "functions", "f", "place"]
def scMo : Scope := { kind := ScopeKind.function, names := [((".0" : Str), .local), ("f", .cell), ("joint_sum", .globalImplicit), ("share", .free)], isGenerator := false, isCoroutine := false }
theorem sc46g : FnScope nMn ["share", "functions"] (defScope (top 48)) := ⟨rfl, rfl, rfl, by decide +kernel, rfl, by decide +kernel, by decide +kernel⟩
end
end Kz
set_option linter.all false
set_option maxRecDepth 100000
set_option maxHeartbeats 4000000
set_option pp.maxSteps 400
namespace Kz
open PySem PySem.Spec PyProof.Rows L2
theorem viaS {t : TS} {D : Ends} {σ : L2.St} {H : Hp} (R : L2.St → Hp → Prop) (h : ∀ D' : Ends, (∀ σ' H', Same H H' → R σ' H' → D'.nx σ' H') → t D' σ H) (k : ∀ σ' H', Same H H' → R σ' H' → D.nx σ' H') : t D σ H := h D k
/-- by how much a number is missed, at least g -/
def up1 (g x : Rat) : Rat := if g < x then x else g
def gs (g q : Rat) (m : Rm) : Rat :=
  let g1 := match m.lo with
    | none => g
    | some b => up1 g (b - q)
  match m.hi with
  | none => g1
  | some b => up1 g1 (q - b)
def gapT (qs : List Rat) (ms : List Rm) (i : Nat) : Rat := ((qs.zip ms).take i).foldl (fun g p => gs g p.1 p.2) 0
theorem gapT_snoc {qs : List Rat} {ms : List Rm} {i : Nat} {q : Rat} {m : Rm} (hq : qs[i]? = some q) (hm : ms[i]? = some m) : gapT qs ms (i + 1) = gs (gapT qs ms i) q m := by
  have e : (qs.zip ms)[i]? = some (q, m) := by
    rw [List.getElem?_zip_eq_some]
    exact ⟨hq, hm⟩
  unfold gapT
  rw [take_snoc e, List.foldl_append]
  rfl
/-- the sizes of what is compared -/
structure Gsz (q : Rat) (m : Rm) : Prop where
  zq : Mz 64 4459 q
  zl : ∀ b, m.lo = some b → Sz 10000 4500 b ∧ Mz 60 60 (b - q)
  zh : ∀ b, m.hi = some b → Sz 10000 4500 b ∧ Mz 60 60 (q - b)
theorem up1_mz {a m : Nat} {g x : Rat} (h : Mz a m g) (h' : Mz a m x) : Mz a m (up1 g x) := by
  unfold up1
  by_cases c : g < x
  · rw [if_pos c]; exact h'
  · rw [if_neg c]; exact h
section
variable {P : Program} {w : World} {K : PySem.W.Frag} {mg : Str → Option Value} {base : Heap}
def spGm (K : PySem.W.Frag) (cT cB cP : Addr) : Sp := fun vs H Q _ => ∃ l a nums us qs ks ms, vs = [.ref l, .ref a] ∧ SqL K H l nums ∧ Al K H nums qs ∧ (SqL K H a us ∨ SqT K H a us) ∧ TRs K cT cB cP H us ks ms ∧ qs.length = ms.length ∧
  (∀ (i : Nat) (q : Rat) (m : Rm), qs[i]? = some q → ms[i]? = some m → Gsz q m) ∧ ∀ v H', Same H H' → RV K H' v (gapT qs ms ms.length) → Q v H'
abbrev nGm : List Str := ["found", "rows", "most", "number", "row"]
theorem sc49g : FnScope nGm ["found", "rows"] (defScope (top 58)) := ⟨rfl, rfl, rfl, by decide +kernel, rfl, by decide +kernel, by decide +kernel⟩
theorem ok_gm (T : Tg P K mg) : FnOk P w K mg base CX0 6 T.gap_missed.f T.gap_missed.fd ["found", "rows"] (spGm K T.cT T.cB T.cP) := by
  have G1 : FnOk P w K mg base (CX P w) 5 T.lower.f T.lower.fd ["one", "other"] (spTwo K T.cN cBin (fun _ v q r => v = .bl (decide (q < r)))) := ok_lower T.toTx
  have G2 : FnOk P w K mg base (CX P w) 5 T.minus.f T.minus.fd ["one", "other"] (spTwo K T.cN cBin (fun H v q r => RV K H v (q - r))) := ok_minus T.toTx
  refine T.gap_missed.fn.ok sc49g (fun vs H Q E h => ?_) (fun cdv A outer s H vs Q E hr h => ?_)
  · obtain ⟨l, a, nums, us, qs, ks, ms, rfl, _⟩ := h
    rfl
  · obtain ⟨l, a, nums, us, qs, ks, ms, rfl, hl, al, hs, tr, len, gz, k⟩ := h
    refine ⟨_, pss_cons (ps_set (i := 2) sc49g.nd rfl (.inl rfl) (pe_tup (pa_cons pe_int (pa_cons pe_int pa_nil))))
      (pss_cons (ps_for PassesOwn.never rfl (pi_zipM (by rfl) T.mZip (pa_cons (pv 0) (pa_cons (pv 1) pa_nil))) (pg_tup (by rfl) (pgs_cons (pg_name (i := 3) sc49g.nd rfl (.inl rfl)) (pgs_cons (pg_name (i := 4) sc49g.nd rfl (.inl rfl)) pgs_nil)))
        (pss_cons (ps_if (PW.pt (pw_and (pt_cmpR op_notN (pe_fld (pv 4) (by rfl)) pe_non (nomark _)) (pw_and1 (pt_val (T.lower.cX G1 hr (pa_cons (pv 2) (pa_cons (T.minus.cX G2 hr (pa_cons (pe_fld (pv 4) (by rfl)) (pa_cons (pv 3) pa_nil))) pa_nil)))))))
            (pss_one (ps_set (i := 2) sc49g.nd rfl (.inl rfl) (T.minus.cX G2 hr (pa_cons (pe_fld (pv 4) (by rfl)) (pa_cons (pv 3) pa_nil))))) pss_nil)
        (pss_one (ps_if (PW.pt (pw_and (pt_cmpR op_notN (pe_fld (pv 4) (by rfl)) pe_non (nomark _)) (pw_and1 (pt_val (T.lower.cX G1 hr (pa_cons (pv 2) (pa_cons (T.minus.cX G2 hr (pa_cons (pv 3) (pa_cons (pe_fld (pv 4) (by rfl)) pa_nil))) pa_nil)))))))
            (pss_one (ps_set (i := 2) sc49g.nd rfl (.inl rfl) (T.minus.cX G2 hr (pa_cons (pv 3) (pa_cons (pe_fld (pv 4) (by rfl)) pa_nil))))) pss_nil))))
      (pss_one (ps_ret (pv 2)))), ?_⟩
    refine ⟨(by show 2 ≤ sizeLine; decide), fun p0 n0 => ?_⟩
    have s1 := Same.new (o := .tup [V.int 0, V.int 1]) n0
    have e1 : upd H p0 (.tup [V.int 0, V.int 1]) p0 = some (.tup [V.int 0, V.int 1]) := upd_same
    generalize upd H p0 (.tup [V.int 0, V.int 1]) = H1 at s1 e1 ⊢
    have r0 : RV K H1 (.ref p0) 0 := ⟨p0, rfl, SqT.of e1⟩
    have ln : nums.length = us.length := by have := al.1; have := tr.1; omega
    have zG : ∀ i, i ≤ ms.length → Mz 60 60 (gapT qs ms i) := by
      intro i
      induction i with
      | zero => exact fun _ => mz_zero (by decide)
      | succ i ih =>
        intro hi
        have eq := at_cf (qs := qs) (i := i) (by omega)
        have em : ms[i]? = some ms[i] := List.getElem?_eq_getElem (by omega)
        have z := gz i _ _ eq em
        rw [gapT_snoc eq em]
        unfold gs
        cases el : (ms[i]).lo with
        | none =>
          cases eh : (ms[i]).hi with
          | none => exact ih (by omega)
          | some b => exact up1_mz (ih (by omega)) (z.zh b eh).2
        | some b =>
          cases eh : (ms[i]).hi with
          | none => exact up1_mz (ih (by omega)) (z.zl b el).2
          | some c => exact up1_mz (up1_mz (ih (by omega)) (z.zl b el).2) (z.zh c eh).2
    refine ⟨_, rfl, _, rfl, l, a, nums, us, rfl, Same.seq s1 hl, ?_⟩
    rcases hs with hs | hs
    · refine .inl ⟨Same.seq s1 hs, RZ.for_zipL (K := K) (a := l) (b := a) (xs := nums) (ys := us) ln (fun i σ H' => ∃ mv n3 n4, σ = [some (.ref l), some (.ref a), some mv, n3, n4] ∧ Same H H' ∧ RV K H' mv (gapT qs ms i)) ⟨_, _, _, rfl, s1, r0⟩ (fun i σ H' ⟨_, _, _, _, s, _⟩ => ⟨Same.seq s hl, Same.seq s hs⟩) ?_ ?_⟩
      · rintro i x y p σ H2 hx hy ⟨mv, n3, n4, rfl, s2, rm⟩ np
        have s3 := Same.new (o := .tup [x, y]) np
        have ep : upd H2 p (.tup [x, y]) p = some (.tup [x, y]) := upd_same
        have ly : i < ms.length := by
          have := (List.getElem?_eq_some_iff.mp hy).1
          have := tr.1
          omega
        have eq := at_cf (qs := qs) (i := i) (by omega)
        have em : ms[i]? = some ms[i] := List.getElem?_eq_getElem ly
        have z := gz i _ _ eq em
        have s23 := s2.trans s3
        have rx := (al.2 i x _ hx eq).same s23
        obtain ⟨ta, tx, f, lv, hv, rfl, hta, _, _, ol, oh⟩ := (tr.2 i y _ hy em).same s23
        have gi := zG i (by omega)
        have rm' := rm.same s3
        have gn := gapT_snoc eq em
        refine ⟨p, _, rfl, SqT.of upd_same, rfl, _, _, rfl, _, _, rfl, rfl, ?_⟩
        generalize upd H2 p (.tup [x, V.ref ta]) = H3 at s3 ep s23 rx hta ol oh rm' ⊢
        generalize ms[i] = m at *
        generalize cf qs i = q at *
        have zq := z.zq.sz
        dsimp only [tSeq]
        refine viaS (t := tIfS _ _ _) (R := fun σ' H' => ∃ mv', σ' = [some (.ref l), some (.ref a), some mv', some x, some (.ref ta)] ∧ RV K H' mv' (match m.lo with | none => gapT qs ms i | some b => up1 (gapT qs ms i) (b - q))) (fun D' k' => ?_) ?_
        · rcases ol with ⟨rfl, e⟩ | ⟨b, e, rb⟩
          · rw [e] at k'
            refine ⟨_, rfl, ta, T.cT, tx, _, _, rfl, hta, T.clT, T.nTo2, lkT2, rfl, _, rfl, ?_⟩
            rw [nonT rfl]
            exact iteF (iteF (k' _ _ (Same.refl _) ⟨mv, rfl, rm'⟩))
          · rw [e] at k'
            obtain ⟨zb, zd⟩ := z.zl b e
            refine ⟨_, rfl, ta, T.cT, tx, _, _, rfl, hta, T.clT, T.nTo2, lkT2, rfl, _, rfl, ?_⟩
            rw [nonF rb.nn]
            refine iteT ⟨_, rfl, _, rfl, ta, T.cT, tx, _, _, rfl, hta, T.clT, T.nTo2, lkT2, _, rfl, lv, x, rfl, .inl ⟨b, q, 10000, 4500, 64 + 4459, 4459, rb.arg zb, rx.arg zq, by decide, by decide, ⟨by decide, by decide⟩, fun v' H4 s4 rv => ?_⟩⟩
            refine ⟨mv, v', rfl, .inl ⟨gapT qs ms i, b - q, 120, 60, 120, 60, (rm'.same s4).arg gi.sz, rv.arg zd.sz, by decide, by decide, ⟨by decide, by decide⟩, fun v2 H5 s5 e2 => ?_⟩⟩
            subst e2
            have s35 := s4.trans s5
            refine ⟨_, rfl, ?_⟩
            by_cases c : gapT qs ms i < b - q
            · rw [decide_eq_true c]
              refine iteT ⟨_, rfl, ta, T.cT, tx, _, _, rfl, s35 _ _ hta, T.clT, T.nTo2, lkT2, _, rfl, lv, x, rfl, .inl ⟨b, q, 10000, 4500, 64 + 4459, 4459, (rb.same s35).arg zb, (rx.same s35).arg zq, by decide, by decide, ⟨by decide, by decide⟩, fun v3 H6 s6 rv3 => ?_⟩⟩
              refine k' _ _ (s35.trans s6) ⟨v3, rfl, ?_⟩
              show RV K H6 v3 (up1 _ _)
              unfold up1
              rw [if_pos c]
              exact rv3
            · rw [decide_eq_false c]
              refine iteF (k' _ _ s35 ⟨mv, rfl, ?_⟩)
              show RV K H5 mv (up1 _ _)
              unfold up1
              rw [if_neg c]
              exact rm'.same s35
        · rintro σ' H4 s4 ⟨mw, rfl, rw1⟩
          have g1 : Mz 60 60 (match m.lo with | none => gapT qs ms i | some b => up1 (gapT qs ms i) (b - q)) := by
            cases e : m.lo with
            | none => exact gi
            | some b => exact up1_mz gi (z.zl b e).2
          have gn' : gapT qs ms (i + 1) = match m.hi with | none => (match m.lo with | none => gapT qs ms i | some b => up1 (gapT qs ms i) (b - q)) | some c => up1 (match m.lo with | none => gapT qs ms i | some b => up1 (gapT qs ms i) (b - q)) (q - c) := gn
          generalize (match m.lo with | none => gapT qs ms i | some b => up1 (gapT qs ms i) (b - q)) = gg at g1 rw1 gn'
          have hta4 := s4 _ _ hta
          have rx4 := rx.same s4
          have oh4 := oh.same s4
          have s24 := s23.trans s4
          rcases oh4 with ⟨rfl, e⟩ | ⟨b, e, rb⟩
          · rw [e] at gn'
            refine ⟨_, rfl, ta, T.cT, tx, _, _, rfl, hta4, T.clT, T.nTo3, lkT3, rfl, _, rfl, ?_⟩
            rw [nonT rfl]
            exact iteF (iteF ⟨mw, _, _, rfl, s24, by rw [gn']; exact rw1⟩)
          · rw [e] at gn'
            obtain ⟨zb, zd⟩ := z.zh b e
            refine ⟨_, rfl, ta, T.cT, tx, _, _, rfl, hta4, T.clT, T.nTo3, lkT3, rfl, _, rfl, ?_⟩
            rw [nonF rb.nn]
            refine iteT ⟨_, rfl, _, rfl, _, rfl, ta, T.cT, tx, _, _, rfl, hta4, T.clT, T.nTo3, lkT3, x, hv, rfl, .inl ⟨q, b, 64 + 4459, 4459, 10000, 4500, rx4.arg zq, rb.arg zb, by decide, by decide, ⟨by decide, by decide⟩, fun v' H5 s5 rv => ?_⟩⟩
            refine ⟨mw, v', rfl, .inl ⟨gg, q - b, 120, 60, 120, 60, (rw1.same s5).arg g1.sz, rv.arg zd.sz, by decide, by decide, ⟨by decide, by decide⟩, fun v2 H6 s6 e2 => ?_⟩⟩
            subst e2
            have s46 := s5.trans s6
            refine ⟨_, rfl, ?_⟩
            by_cases c : gg < q - b
            · rw [decide_eq_true c]
              refine iteT ⟨_, rfl, _, rfl, ta, T.cT, tx, _, _, rfl, s46 _ _ hta4, T.clT, T.nTo3, lkT3, x, hv, rfl, .inl ⟨q, b, 64 + 4459, 4459, 10000, 4500, (rx4.same s46).arg zq, (rb.same s46).arg zb, by decide, by decide, ⟨by decide, by decide⟩, fun v3 H7 s7 rv3 => ?_⟩⟩
              refine ⟨v3, _, _, rfl, (s24.trans s46).trans s7, ?_⟩
              rw [gn']
              show RV K H7 v3 (up1 _ _)
              unfold up1
              rw [if_pos c]
              exact rv3
            · rw [decide_eq_false c]
              refine iteF ⟨mw, _, _, rfl, s24.trans s46, ?_⟩
              rw [gn']
              show RV K H6 mw (up1 _ _)
              unfold up1
              rw [if_neg c]
              exact rw1.same s46
      · rintro σ H2 ⟨mv, n3, n4, rfl, s2, rm⟩
        rw [show nums.length = ms.length by have := al.1; omega] at rm
        exact ⟨_, rfl, k mv H2 s2 rm⟩
    · refine .inr ⟨Kz.Same.seqT s1 hs, for_zipM (K := K) (a := l) (b := a) (xs := nums) (ys := us) ln (fun i σ H' => ∃ mv n3 n4, σ = [some (.ref l), some (.ref a), some mv, n3, n4] ∧ Same H H' ∧ RV K H' mv (gapT qs ms i)) ⟨_, _, _, rfl, s1, r0⟩ (fun i σ H' ⟨_, _, _, _, s, _⟩ => ⟨Same.seq s hl, Kz.Same.seqT s hs⟩) ?_ ?_⟩
      · rintro i x y p σ H2 hx hy ⟨mv, n3, n4, rfl, s2, rm⟩ np
        have s3 := Same.new (o := .tup [x, y]) np
        have ep : upd H2 p (.tup [x, y]) p = some (.tup [x, y]) := upd_same
        have ly : i < ms.length := by
          have := (List.getElem?_eq_some_iff.mp hy).1
          have := tr.1
          omega
        have eq := at_cf (qs := qs) (i := i) (by omega)
        have em : ms[i]? = some ms[i] := List.getElem?_eq_getElem ly
        have z := gz i _ _ eq em
        have s23 := s2.trans s3
        have rx := (al.2 i x _ hx eq).same s23
        obtain ⟨ta, tx, f, lv, hv, rfl, hta, _, _, ol, oh⟩ := (tr.2 i y _ hy em).same s23
        have gi := zG i (by omega)
        have rm' := rm.same s3
        have gn := gapT_snoc eq em
        refine ⟨p, _, rfl, SqT.of upd_same, rfl, _, _, rfl, _, _, rfl, rfl, ?_⟩
        generalize upd H2 p (.tup [x, V.ref ta]) = H3 at s3 ep s23 rx hta ol oh rm' ⊢
        generalize ms[i] = m at *
        generalize cf qs i = q at *
        have zq := z.zq.sz
        dsimp only [tSeq]
        refine viaS (t := tIfS _ _ _) (R := fun σ' H' => ∃ mv', σ' = [some (.ref l), some (.ref a), some mv', some x, some (.ref ta)] ∧ RV K H' mv' (match m.lo with | none => gapT qs ms i | some b => up1 (gapT qs ms i) (b - q))) (fun D' k' => ?_) ?_
        · rcases ol with ⟨rfl, e⟩ | ⟨b, e, rb⟩
          · rw [e] at k'
            refine ⟨_, rfl, ta, T.cT, tx, _, _, rfl, hta, T.clT, T.nTo2, lkT2, rfl, _, rfl, ?_⟩
            rw [nonT rfl]
            exact iteF (iteF (k' _ _ (Same.refl _) ⟨mv, rfl, rm'⟩))
          · rw [e] at k'
            obtain ⟨zb, zd⟩ := z.zl b e
            refine ⟨_, rfl, ta, T.cT, tx, _, _, rfl, hta, T.clT, T.nTo2, lkT2, rfl, _, rfl, ?_⟩
            rw [nonF rb.nn]
            refine iteT ⟨_, rfl, _, rfl, ta, T.cT, tx, _, _, rfl, hta, T.clT, T.nTo2, lkT2, _, rfl, lv, x, rfl, .inl ⟨b, q, 10000, 4500, 64 + 4459, 4459, rb.arg zb, rx.arg zq, by decide, by decide, ⟨by decide, by decide⟩, fun v' H4 s4 rv => ?_⟩⟩
            refine ⟨mv, v', rfl, .inl ⟨gapT qs ms i, b - q, 120, 60, 120, 60, (rm'.same s4).arg gi.sz, rv.arg zd.sz, by decide, by decide, ⟨by decide, by decide⟩, fun v2 H5 s5 e2 => ?_⟩⟩
            subst e2
            have s35 := s4.trans s5
            refine ⟨_, rfl, ?_⟩
            by_cases c : gapT qs ms i < b - q
            · rw [decide_eq_true c]
              refine iteT ⟨_, rfl, ta, T.cT, tx, _, _, rfl, s35 _ _ hta, T.clT, T.nTo2, lkT2, _, rfl, lv, x, rfl, .inl ⟨b, q, 10000, 4500, 64 + 4459, 4459, (rb.same s35).arg zb, (rx.same s35).arg zq, by decide, by decide, ⟨by decide, by decide⟩, fun v3 H6 s6 rv3 => ?_⟩⟩
              refine k' _ _ (s35.trans s6) ⟨v3, rfl, ?_⟩
              show RV K H6 v3 (up1 _ _)
              unfold up1
              rw [if_pos c]
              exact rv3
            · rw [decide_eq_false c]
              refine iteF (k' _ _ s35 ⟨mv, rfl, ?_⟩)
              show RV K H5 mv (up1 _ _)
              unfold up1
              rw [if_neg c]
              exact rm'.same s35
        · rintro σ' H4 s4 ⟨mw, rfl, rw1⟩
          have g1 : Mz 60 60 (match m.lo with | none => gapT qs ms i | some b => up1 (gapT qs ms i) (b - q)) := by
            cases e : m.lo with
            | none => exact gi
            | some b => exact up1_mz gi (z.zl b e).2
          have gn' : gapT qs ms (i + 1) = match m.hi with | none => (match m.lo with | none => gapT qs ms i | some b => up1 (gapT qs ms i) (b - q)) | some c => up1 (match m.lo with | none => gapT qs ms i | some b => up1 (gapT qs ms i) (b - q)) (q - c) := gn
          generalize (match m.lo with | none => gapT qs ms i | some b => up1 (gapT qs ms i) (b - q)) = gg at g1 rw1 gn'
          have hta4 := s4 _ _ hta
          have rx4 := rx.same s4
          have oh4 := oh.same s4
          have s24 := s23.trans s4
          rcases oh4 with ⟨rfl, e⟩ | ⟨b, e, rb⟩
          · rw [e] at gn'
            refine ⟨_, rfl, ta, T.cT, tx, _, _, rfl, hta4, T.clT, T.nTo3, lkT3, rfl, _, rfl, ?_⟩
            rw [nonT rfl]
            exact iteF (iteF ⟨mw, _, _, rfl, s24, by rw [gn']; exact rw1⟩)
          · rw [e] at gn'
            obtain ⟨zb, zd⟩ := z.zh b e
            refine ⟨_, rfl, ta, T.cT, tx, _, _, rfl, hta4, T.clT, T.nTo3, lkT3, rfl, _, rfl, ?_⟩
            rw [nonF rb.nn]
            refine iteT ⟨_, rfl, _, rfl, _, rfl, ta, T.cT, tx, _, _, rfl, hta4, T.clT, T.nTo3, lkT3, x, hv, rfl, .inl ⟨q, b, 64 + 4459, 4459, 10000, 4500, rx4.arg zq, rb.arg zb, by decide, by decide, ⟨by decide, by decide⟩, fun v' H5 s5 rv => ?_⟩⟩
            refine ⟨mw, v', rfl, .inl ⟨gg, q - b, 120, 60, 120, 60, (rw1.same s5).arg g1.sz, rv.arg zd.sz, by decide, by decide, ⟨by decide, by decide⟩, fun v2 H6 s6 e2 => ?_⟩⟩
            subst e2
            have s46 := s5.trans s6
            refine ⟨_, rfl, ?_⟩
            by_cases c : gg < q - b
            · rw [decide_eq_true c]
              refine iteT ⟨_, rfl, _, rfl, ta, T.cT, tx, _, _, rfl, s46 _ _ hta4, T.clT, T.nTo3, lkT3, x, hv, rfl, .inl ⟨q, b, 64 + 4459, 4459, 10000, 4500, (rx4.same s46).arg zq, (rb.same s46).arg zb, by decide, by decide, ⟨by decide, by decide⟩, fun v3 H7 s7 rv3 => ?_⟩⟩
              refine ⟨v3, _, _, rfl, (s24.trans s46).trans s7, ?_⟩
              rw [gn']
              show RV K H7 v3 (up1 _ _)
              unfold up1
              rw [if_pos c]
              exact rv3
            · rw [decide_eq_false c]
              refine iteF ⟨mw, _, _, rfl, s24.trans s46, ?_⟩
              rw [gn']
              show RV K H6 mw (up1 _ _)
              unfold up1
              rw [if_neg c]
              exact rw1.same s46
      · rintro σ H2 ⟨mv, n3, n4, rfl, s2, rm⟩
        rw [show nums.length = ms.length by have := al.1; omega] at rm
        exact ⟨_, rfl, k mv H2 s2 rm⟩
end
end Kz
set_option linter.all false
set_option maxRecDepth 100000
set_option maxHeartbeats 4000000
set_option pp.maxSteps 400
namespace Kz
open PySem PySem.Spec PyProof.Rows L2
/-- the gap of some bits -/
def gp (k : Nat) : Rat := { num := 1, den := 2 ^ k, den_nz := Nat.ne_of_gt (Nat.two_pow_pos k), reduced := by simp }
theorem gp_rv {K : PySem.W.Frag} {H : Hp} {p : Addr} {k : Nat} (e : H p = some (.tup [.int 1, .int (2 ^ k)])) : RV K H (.ref p) (gp k) := by
  refine ⟨p, rfl, ?_⟩
  have : ((2 ^ k : Nat) : Int) = (2 : Int) ^ k := by simp
  show SqT K H p [.int 1, .int ((2 ^ k : Nat) : Int)]
  rw [this]
  exact SqT.of e
section
variable {P : Program} {w : World} {K : PySem.W.Frag} {mg : Str → Option Value} {base : Heap}
def spGp (K : PySem.W.Frag) : Sp := fun vs H Q _ => ∃ k : Nat, vs = [.int (k : Nat)] ∧ k ≤ 60 ∧ ∀ v H', Same H H' → RV K H' v (gp k) → Q v H'
theorem sc16g : FnScope ["bits"] ["bits"] (defScope (top 17)) := ⟨rfl, rfl, rfl, by decide +kernel, rfl, by decide +kernel, by decide +kernel⟩
theorem ok_gp (T : Tg P K mg) : FnOk P w K mg base (CX P w) 4 T.gap_of.f T.gap_of.fd ["bits"] (spGp K) := by
  have G : FnOk P w K mg base CX0 1 T.is_whole.f T.is_whole.fd ["value"] (spWhole K) := ok_whole T.toTx
  refine T.gap_of.fn.okX sc16g (fun vs H Q E h => ?_) (fun cdv A outer s H vs Q E hr h => ?_)
  · obtain ⟨k, rfl, _⟩ := h
    rfl
  · obtain ⟨k, rfl, k6, q⟩ := h
    have hr1 : Room 1 _ := hr.mono (by decide)
    have tk := takes_of (X := cxOf (CX P w) P w K mg base ["bits"] "gap_of" (defScope (top 17)) T.gap_of.f cdv A outer s H E) (E := E) rfl rfl rfl rfl
    refine ⟨_, pss_cons (ps_if (PW.pt (pw_or (pt_not (pt_val (T.is_whole.c0 G hr1 (pa_cons (pv 0) pa_nil)))) (pw_or (pt_cmpR op_lt (pv 0) pe_int (nomark _)) (pw_or1 (pt_cmpR op_gt (pv 0) pe_int (nomark _))))))
        (pss_one (ps_raise rfl tk (pmk_oex (CX := CX0) T.eN.o T.iN.i T.iN.t (ok_i3 T.iN.fn) (hr.mono (by decide)) T.bN .nil pass0 rfl T.eN.g (pa_cons pe_str (pa_cons (pv 0) pa_nil))))) pss_nil)
      (pss_one (ps_ret (pe_tup (pa_cons pe_int (pa_cons (pe_op op_oneShl pe_int (pv 0)) pa_nil))))), ?_⟩
    refine ⟨_, rfl, _, "int", rfl, ty_int, _, rfl, iteF ⟨_, rfl, _, _, rfl, rfl, _, rfl, ?_⟩⟩
    rw [decide_eq_false (show ¬ ((k : Nat) : Int) < 0 by omega)]
    refine iteF ⟨_, rfl, _, _, rfl, rfl, _, rfl, ?_⟩
    rw [decide_eq_false (show ¬ ((k : Nat) : Int) > 60 by omega)]
    refine iteF ⟨_, rfl, k, rfl, rfl, by omega, (by show 2 ≤ sizeLine; decide), fun p np => ?_⟩
    exact q _ _ (Same.new np) (gp_rv upd_same)
abbrev nCp : List Str := ["share", "rows", "knots"]
theorem sc50g : FnScope nCp ["share", "rows"] (defScope (top 59)) := ⟨rfl, rfl, rfl, by decide +kernel, rfl, by decide +kernel, by decide +kernel⟩
theorem sc51g : FnScope ["share", "rows"] ["share", "rows"] (defScope (top 60)) := ⟨rfl, rfl, rfl, by decide +kernel, rfl, by decide +kernel, by decide +kernel⟩
abbrev nFit : List Str := ["share", "rows", "bits", "gap"]
theorem sc52g : FnScope nFit ["share", "rows", "bits"] (defScope (top 61)) := ⟨rfl, rfl, rfl, by decide +kernel, rfl, by decide +kernel, by decide +kernel⟩
end
end Kz
set_option linter.all false
set_option maxRecDepth 100000
set_option maxHeartbeats 4000000
namespace Kz
open PySem PySem.Spec PyProof.Rows L2
/-! ### why, as this law has it -/
structure Td (P : Program) (K : PySem.W.Frag) (mg : Str → Option Value) extends Tc P K mg where
  cNm : Addr
  cTx : Addr
theorem set_found {ρ : L2.St} {u v : Option V} {x : V} (il : 2 < ρ.length) : (((List.set ρ 2 u).set 1 (some x)).set 2 v)[1]? = some (some x) := by
  rw [List.getElem?_set_ne (by decide), List.getElem?_set_self (by rw [List.length_set]; omega)]
end Kz
set_option linter.all false
set_option maxRecDepth 100000
set_option maxHeartbeats 4000000
namespace Kz
open PySem PySem.Spec PyProof.Rows L2
/-! ### values that are no ratios -/
/-- no ratio, and data, all of it apart from the pen -/
structure OddG (K : PySem.W.Frag) (p : Addr) (H : Hp) (v : V) : Prop where
  o : Odd K (cl p H) v
  g : Good K (cl p H) v
theorem OddG.but {K : PySem.W.Frag} {p : Addr} {H H' : Hp} {v : V} (h : OddG K p H v) (b : But p H H') : OddG K p H' v := ⟨h.o.same b.cl, h.g.same b.cl⟩
def Stock (K : PySem.W.Frag) (p : Addr) (H : Hp) (vs : List V) : Prop := ∀ v ∈ vs, OddG K p H v
theorem Stock.but {K : PySem.W.Frag} {p : Addr} {H H' : Hp} {vs : List V} (h : Stock K p H vs) (b : But p H H') : Stock K p H' vs := fun v m => (h v m).but b
theorem Stock.add {K : PySem.W.Frag} {p : Addr} {H : Hp} {vs : List V} {v : V} (h : Stock K p H vs) (o : OddG K p H v) : Stock K p H (v :: vs) := fun u m => by
  rcases List.mem_cons.mp m with e | m
  · exact e ▸ o
  · exact h u m
/-- one more object, at a new place -/
theorem Stock.new {K : PySem.W.Frag} {p q : Addr} {H : Hp} {vs : List V} {o : HO} (h : Stock K p H vs) (n : H q = none) (ob : ∀ H', cl p H' q = some o → Same (cl p H) (cl p H') → OddG K p H' (.ref q)) (np : q ≠ p) (nt : ∀ ps, o ≠ .tbl ps := by intro _ z; cases z) : Stock K p (upd H q o) (.ref q :: vs) := by
  have b : But p H (upd H q o) := But.refl.new n
  exact (h.but b).add (ob _ (cl_at np upd_same nt) b.cl)
section
variable {K : PySem.W.Frag} {p : Addr} {H : Hp}
end
section
variable {P : Program} {w : World} {K : PySem.W.Frag} {mg : Str → Option Value} {base : Heap}
end
end Kz
set_option linter.all false
set_option maxRecDepth 100000
set_option maxHeartbeats 4000000
namespace Kz
open PySem PySem.Spec PyProof.Rows L2
/-! ### texts -/
section
variable {prog : Program} {w : World} {A : Around} {E : Value → Shared → Prop} {s : Shared}
end

end Kz
set_option linter.all false
set_option maxRecDepth 100000
set_option maxHeartbeats 4000000
namespace Kz
open PySem PySem.Spec PyProof.Rows L2
section
variable {P : Program} {w : World} {K : PySem.W.Frag} {mg : Str → Option Value} {base : Heap}
end
end Kz
set_option linter.all false
set_option maxRecDepth 100000
set_option maxHeartbeats 4000000
namespace Kz
open PySem PySem.Spec PyProof.Rows L2
/-! ### defs that make lambdas -/
structure FunC (K : PySem.W.Frag) (x qual : Str) (st : Stmt) (f : Addr) (fd : FuncData) (c : Addr) : Prop where
  ex : ∃ (oc : Value) (od : Option Addr) (kV doc pm : Value) (an : Option Addr) (ct : Value) (osl : Array (Option Value)),
    fd = PySem.W.fnOf x qual (defArgs st) (defBody st) (defScope st) .none kV doc pm an (.ref c) ct ∧ K.lookup f = some ⟨oc, od, .func fd, osl⟩ ∧ PySem.W.codeIn K (.ref c) qual = true
section
variable {P : Program} {w : World} {K : PySem.W.Frag} {mg : Str → Option Value} {base : Heap} {CX : CXT} {k : Nat} {f c : Addr} {x qual : Str} {st : Stmt} {fd : FuncData} {N ps : List Str} {sp : Sp}
theorem fnGC_of (F : FunC K x qual st f fd c) (S : FnScope N ps (defScope st)) (many : ∀ vs H Q E, sp vs H Q E → vs.length = ps.length)
    (body : ∀ (A : Around) (outer : List Env) (s : Shared) (H : Hp) (vs : List V) (Q : VK) (E : XK), A.guards = some [] → Room k (A.deeper (envOfC qual (defScope st) s.heap.objs.size f (.ref c))) → sp vs H Q E →
      ∃ t, PSs (cxOf CX P w K mg base N qual (defScope st) f (.ref c) A outer s H E) (defBody st) t ∧ t { nx := fun _ H' => Q .non H', rt := Q } (start N vs) H) :
    FnG P w K mg base CX (k + 1) f fd ps sp := by
  obtain ⟨oc, od, kV, doc, pm, an, ct, osl, rfl, lk, hcd⟩ := F.ex
  constructor
  · exact many
  intro A hg room outer s H e0 args us vs hb r Q E want
  have KX : K.In s.heap := e0.mod.kin.keeps fun b o z => (e0.bs b o z).1
  have lim : s.heap.NoLimit := e0.mod.nolimit.keeps fun b o z => (e0.bs b o z).1
  refine codeAny_call_function room.depth (KX _ _ lk) rfl S.co S.gen rfl (PySem.W.codeRec_of KX hcd) (hb _ _ _ _ ?_)
  refine wpAny_newFunctionEnv_cells S.kind ?_ ?_
  · rintro ⟨n, v⟩ mem
    cases S.par n (List.of_mem_zip mem).1 with
    | inl q => exact .inl q
    | inr q => exact .inr ⟨q, PySem.W.cellsFrom_some _ _ _ (.inl q)⟩
  rintro env rfl s1 xs
  refine ⟨lim.keeps xs.toInCall.keep, codeAny_func ?_⟩
  obtain ⟨t, ht, hq⟩ := body A outer s H vs Q E hg (room.deeper _) want
  have I := inv_start (CX := CX) (P := P) (mg := mg) (E := E) S room.hd e0 (many _ _ _ _ want) r xs
  refine wpAny_mono (ht.run [] s1 (start N vs) H _ I hq) ?_ fun _ _ z => z
  intro fl s' hs
  have fin : ∀ {σ' : L2.St} {H' : Hp} {v : V} {u : Value}, Inv (cxOf CX P w K mg base N qual (defScope st) f (.ref c) A outer s H E) [] σ' H' s' → RelV v u → Q v H' → CE outer P w H s Q u s' := by
    intro σ' H' v u J rv q
    exact ⟨v, H', J.os, J.bare, J.base, J.hok, rv, q⟩
  rcases fl with _ | _ | _ | u
  · obtain ⟨σ', H', J, q⟩ := hs
    exact fin (v := V.non) (u := Value.none) J rfl q
  · obtain ⟨_, _, _, q⟩ := hs
    exact q.elim
  · obtain ⟨_, _, _, q⟩ := hs
    exact q.elim
  · obtain ⟨v, σ', H', J, rv, q⟩ := hs
    exact fin J rv q
end
/-- a pen bears what is drawn, the tables too -/
theorem Pen.tabs {H H' : Hp} {p c : Addr} {n : Nat} {Tl : List (Addr × Str)} (pen : Pen H p c n) (b : But p H H') (t : LamX.Tabs Tl H) : LamX.Tabs Tl H' := by
  obtain ⟨ns, i, d, m, f, e1, _⟩ := pen
  intro q hq
  obtain ⟨ps, a1, a2, a3⟩ := t q hq
  refine ⟨ps, b _ _ a1 (ne_of a1 e1 (fun z => nomatch z)), a2, fun pos cv hc => ?_⟩
  obtain ⟨c0, e, h⟩ := a3 pos cv hc
  exact ⟨c0, e, b _ _ h (ne_of h e1 (fun z => by unfold LamX.CodeO at z; cases z))⟩
theorem Same.tabs {H H' : Hp} {Tl : List (Addr × Str)} (s : Same H H') (t : LamX.Tabs Tl H) : LamX.Tabs Tl H' := t.ext s
section
variable {X : Cx} {P : Program} {w : World} {K : PySem.W.Frag} {mg : Str → Option Value} {base : Heap}
end
/-! ### the way out, told by why -/
section
variable {K : PySem.W.Frag} {cN cR : Addr} {H : Hp} {Q : VK} {v : V} {d : PyData}
/-- what repr asks of data -/
structure Shows (d : PyData) : Prop where
  sh : d.showable = true
  dp : d.depth ≤ 60
  ln : d.shown.length ≤ sizeLine
theorem Small.shows {d : PyData} (h : Small d) : Shows d := by
  refine ⟨h.sh, by have := h.dp; omega, ?_⟩
  have l := PyData.shown_le_bulk 1921 (by decide) d h.lv
  have b := h.bk
  rw [sizeLine_eq]
  omega
end
/-! ### rows of texts that are the same, compared -/
section
variable {X : Cx}
def rSameT (K : PySem.W.Frag) (r : Bool) : R2 := fun x y H Q => ∃ (a b : Addr) (l : List Str), x = .ref a ∧ y = .ref b ∧ SqT K H a (l.map V.str) ∧ SqT K H b (l.map V.str) ∧ Q (.bl r) H
theorem strs_at {l : List Str} {its its2 : List Value} {A : Around} {s : Shared} (r1 : Vals (l.map V.str) its) (r2 : Vals (l.map V.str) its2) : ∀ j (h1 : j < its.toArray.size) (h2 : j < its2.toArray.size), SeqAt.EqAt A s its.toArray[j] its2.toArray[j] true := by
  intro j h1 h2
  have hj : j < l.length := by
    have := r1.length
    rw [List.length_map] at this
    rw [List.size_toArray] at h1
    omega
  have ex : (l.map V.str)[j]? = some (.str l[j]) := by
    rw [List.getElem?_map, List.getElem?_eq_getElem hj]
    rfl
  obtain ⟨u, eu, t, ru⟩ := r1.get ex
  obtain ⟨u', eu', t', ru'⟩ := r2.get ex
  have e1 : its.toArray[j] = .str l[j] t := by
    have h : its.toArray[j]? = some u := by simpa using eu
    rw [Array.getElem?_eq_getElem h1] at h
    rw [Option.some.inj h, ru]
  have e2 : its2.toArray[j] = .str l[j] t' := by
    have h : its2.toArray[j]? = some u' := by simpa using eu'
    rw [Array.getElem?_eq_getElem h2] at h
    rw [Option.some.inj h, ru']
  rw [e1, e2]
  have := SeqAt.EqAt.str_str (A := A) (s := s) l[j] t l[j] t'
  rwa [beq_self_eq_true] at this
theorem all_same {n m : Nat} (h : n = m) : ((List.range (min n m)).all (fun _ => true) && n == m) = true := by
  subst h
  simp
theorem op_neT (hu : X.A.units + 64 < cLine) : OpR X (compareOp .NotEq) (rSameT X.K false) := by
  intro pins s σ H x y v u Q I rx ry h
  obtain ⟨a, b, l, rfl, rfl, ha, hb, q⟩ := h
  cases rx
  cases ry
  obtain ⟨its, r1, p1, _⟩ := I.tuple ha
  obtain ⟨its2, r2, p2, _⟩ := I.tuple hb
  have sz : its.toArray.size = its2.toArray.size := by
    rw [List.size_toArray, List.size_toArray, ← r1.length, ← r2.length]
  have R := SeqAt.RcNeAt.tuples (A := X.A) (s := s) (e := fun _ => true) p1 p2 (by omega) (strs_at r1 r2)
  rw [all_same sz] at R
  exact R X.prog X.w X.xe (EP X pins σ Q) ⟨.bl false, H, I, rfl, q⟩
end
end Kz
set_option linter.all false
set_option maxRecDepth 100000
set_option maxHeartbeats 4000000
namespace Kz
open PySem PySem.Spec PyProof.Rows L2
section
variable {P : Program} {w : World} {K : PySem.W.Frag} {mg : Str → Option Value} {base : Heap}
/-! ### data of ratios, for repr -/
theorem RV.dq {H : Hp} {v : V} {q : Rat} (h : RV K H v q) : Dq K H v (pdQ q) := by
  obtain ⟨t, rfl, ht⟩ := h
  exact .tup ht (.cons (.int _) (.cons (.int _) .nil))
theorem Al.dq {H : Hp} : ∀ {vs : List V} {qs : List Rat}, Al K H vs qs → DqAll K H vs (qs.map pdQ)
  | [], [], _ => .nil
  | [], _ :: _, h => by cases h.1
  | _ :: _, [], h => by cases h.1
  | v :: vs, q :: qs, h => .cons (h.2 0 v q rfl rfl).dq (Al.dq ⟨Nat.succ.inj h.1, fun i u r e1 e2 => h.2 (i + 1) u r e1 e2⟩)
end
end Kz
set_option linter.all false
set_option maxRecDepth 100000
set_option maxHeartbeats 4000000
namespace Kz
open PySem PySem.Spec PyProof.Rows L2
section
variable {X : Cx} {P : Program} {w : World} {K : PySem.W.Frag} {mg : Str → Option Value} {base : Heap}
end
/-! ### the way out, told by why -/
section
variable {K : PySem.W.Frag} {cN cR : Addr} {H : Hp} {Q : VK} {v : V} {d : PyData}
end
end Kz
set_option linter.all false
set_option maxRecDepth 100000
set_option maxHeartbeats 4000000
set_option pp.maxSteps 60
namespace Kz
open PySem PySem.Spec PyProof.Rows L2 Vl
/-! ### shares refused: what this law adds -/
structure Tj (P : Program) (K : PySem.W.Frag) (mg : Str → Option Value) extends Tg P K mg where
  nbU : cU ≠ B
  neUN : cU ≠ cN
  neUR : cU ≠ cR
  in_order : Df K mg "in_order" (top 25) ["row"]
  mean : Df K mg "mean" (top 49) ["share", "function"]
  check_ends : Df K mg "check_ends" (top 50) ["low", "high"]
  chance : Df K mg "chance" (top 51) ["share", "low", "high"]
  chance_b : Df K mg "chance_between" (top 52) ["share", "low", "high"]
  gathered : Df K mg "gathered" (top 53) ["places", "parts"]
  mixed : Df K mg "mixed" (top 54) ["shares", "parts"]
  moved : Df K mg "moved" (top 55) ["share", "factor", "shift"]
  l_fault : Df K mg "_law_fault" (top 66) ["_law_call"]
  l_nfault : Df K mg "_law_number_fault" (top 67) ["_law_what", "_law_number"]
  l_allr : Df K mg "_law_all_right" (top 68) ["_law_tries"]
/-- what an error tells, as _law_fault has it -/
def EFault (K : PySem.W.Frag) (cN cR cU : Addr) (Q : VK) : XK := fun cls d H' => ∃ (dd : Addr) (v : V), d = some dd ∧
  ((∃ what dt, cls = .ref cN ∧ DqT K H' v dt ∧ dt.showable = true ∧ dt.depth ≤ 60 ∧ dt.shown.length ≤ sizeLine ∧ H' dd = some (.xd [("number", v), ("what", .str what)]) ∧ ∀ t, H' t = none → Q (.ref t) (upd H' t (.tup [.str "number", .str what, .str dt.shown]))) ∨
   (∃ dt, cls = .ref cR ∧ DqT K H' v dt ∧ dt.showable = true ∧ dt.depth ≤ 60 ∧ dt.shown.length ≤ sizeLine ∧ H' dd = some (.xd [("row", v)]) ∧ ∀ t, H' t = none → Q (.ref t) (upd H' t (.tup [.str "row", .str dt.shown]))) ∨
   (cls = .ref cU ∧ H' dd = some (.xd [("what", v)]) ∧ ∀ t, H' t = none → Q (.ref t) (upd H' t (.tup [.str "unlike", v]))))
/-- one lambda and what it does -/
structure LamF (P : Program) (w : World) (K : PySem.W.Frag) (mg : Str → Option Value) (base : Heap) (kk : Nat) (X : Cx) (σ : L2.St) (S : Addr → Option Obj) (pa : Arguments) (bo : Expr) (sc : Scope) (tb : XK → TE) : Prop where
  of : P = X.prog ∧ w = X.w ∧ K = X.K ∧ mg = X.mg ∧ base = X.base
  kt : Kept X σ S
  L : LamX.LamS X.env.scope sc
  bind : ∀ (q : Str) (cl : List (Str × Addr)) (pm cv ctv : Value), bindArgs (PySem.W.kla_fn "<lambda>" q pa bo sc cl pm cv ctv) ⟨[], []⟩ = pure []
  body : ∀ (E : XK) (A : Around) (outer : List Env) (s : Shared) (H : Hp) (f c' : Addr), Room kk (A.deeper (LamX.lamEnv X sc s.heap.objs.size f c')) → PE (LamX.lamCx X A outer s H E sc f c') bo (tb E)
def spFault (P : Program) (w : World) (K : PySem.W.Frag) (mg : Str → Option Value) (base : Heap) (kk : Nat) (cN cR cU : Addr) : Sp := fun vs H Q _ => ∃ (X : Cx) (σ : L2.St) (S : Addr → Option Obj) (pa : Arguments) (bo : Expr) (sc : Scope) (tb : XK → TE) (v : V), vs = [v] ∧ LamF P w K mg base kk X σ S pa bo sc tb ∧ LamAt X S pa bo sc H v ∧
  ∀ t0, H t0 = none → tb (fun cls d H' => Off S H' → EFault K cN cR cU Q cls d (gv S H')) σ (tk S (upd H t0 (.tup [.str "none"]))) fun _ H' => Off S H' → ∃ u : V, some (some (V.ref t0)) = some (some u) ∧ Q u (gv S H')
section
variable {P : Program} {w : World} {K : PySem.W.Frag} {mg : Str → Option Value} {base : Heap} {kk : Nat}
abbrev nFj : List Str := ["_law_call", "_law_found", "error"]
theorem sc66f : FnScope nFj ["_law_call"] (defScope (top 66)) := ⟨rfl, rfl, rfl, by decide +kernel, rfl, by decide +kernel, by decide +kernel⟩
theorem lamAt_new {X : Cx} {S : Addr → Option Obj} {pa : Arguments} {bo : Expr} {sc : Scope} {H : Hp} {v : V} {t : Addr} {o : HO} (h : LamAt X S pa bo sc H v) (n : H t = none) : LamAt X S pa bo sc (upd H t o) v := by
  obtain ⟨f, c', pm, ctv, e, h1, h2, h3⟩ := h
  refine ⟨f, c', pm, ctv, e, ?_, ?_, fun b ob r => ?_⟩
  · rw [upd_ne (ne_of_none h1 n)]
    exact h1
  · rw [upd_ne (ne_of_none h2 n)]
    exact h2
  · rw [upd_ne (ne_of_none (h3 b ob r) n)]
    exact h3 b ob r
theorem ok_fault (T : Tj P K mg) : FnG P w K mg base CX0 (kk + 2) T.l_fault.f T.l_fault.fd ["_law_call"] (spFault P w K mg base kk T.cN T.cR T.cU) := by
  refine fnG_of T.l_fault.fn sc66f (fun vs H Q E h => ?_) (fun cdv A outer s H vs Q E hg hr h => ?_)
  · obtain ⟨_, _, _, _, _, _, _, v, rfl, _⟩ := h
    rfl
  obtain ⟨X, σ, S, pa, bo, sc, tb, v, rfl, F, at0, want⟩ := h
  obtain ⟨o1, o2, o3, o4, o5⟩ := F.of
  have hu := hr.units
  suffices z : ∃ t, PSs (cxOf CX0 P w K mg base nFj "_law_fault" (defScope (top 66)) T.l_fault.f cdv A outer s H E).nox (defBody (top 66)) t ∧ t { nx := fun _ H' => Q .non H', rt := Q } (start nFj [v]) H by
    obtain ⟨t, ht, hq⟩ := z
    exact ⟨t, PSs.nox ht, hq⟩
  refine ⟨_, pss_cons (ps_set (i := 1) sc66f.nd rfl (.inl rfl) (pe_tup (pa_cons pe_str pa_nil))) (pss_cons (ps_try_named (X := (cxOf CX0 P w K mg base nFj "_law_fault" (defScope (top 66)) T.l_fault.f cdv A outer s H E).nox) (i := 2) (n := "error")
      (tb := fun W D ρ G => ∃ Ech : XK, (∀ cls d ρ' G', Ech cls d G' → Off S G' → W cls d ρ' (gv S G')) ∧ ρ[0]? = some (some v) ∧ LamAt X S pa bo sc G v ∧ tb Ech σ (tk S G) fun _ G' => Off S G' → D.nx ρ (gv S G'))
      rfl rfl sc66f.nd rfl rfl LamX.takes0 (fun W pn xe tks _ => ?_)
      (.cons (c := .ref T.cN) ⟨rfl, by decide, .inl T.eN.g⟩ (fun a oe cls d pn hz hf => pss_one (ps_set (i := 1) sc66f.nd rfl (.inl rfl) (pe_tup (pa_cons pe_str (pa_cons (pe_xf T.eN.xf T.nN1 hz hf (pv 2)) (pa_cons (pe_callB (call_reprTK (K := K) (X := ((cxOf CX0 P w K mg base nFj "_law_fault" (defScope (top 66)) T.l_fault.f cdv A outer s H E).nox).suite a ((a, oe) :: pn)) rfl hg hu) (by rfl) T.mRepr boot_repr' (pa_cons (pe_xf T.eN.xf T.nN2 hz hf (pv 2)) pa_nil)) pa_nil))))))
      (.cons (c := .ref T.cR) ⟨rfl, by decide, .inl T.eR.g⟩ (fun a oe cls d pn hz hf => pss_one (ps_set (i := 1) sc66f.nd rfl (.inl rfl) (pe_tup (pa_cons pe_str (pa_cons (pe_callB (call_reprTK (K := K) (X := ((cxOf CX0 P w K mg base nFj "_law_fault" (defScope (top 66)) T.l_fault.f cdv A outer s H E).nox).suite a ((a, oe) :: pn)) rfl hg hu) (by rfl) T.mRepr boot_repr' (pa_cons (pe_xf T.eR.xf T.nR1 hz hf (pv 2)) pa_nil)) pa_nil)))))
      (.cons (c := .ref T.cU) ⟨rfl, by decide, .inl T.eU.g⟩ (fun a oe cls d pn hz hf => pss_one (ps_set (i := 1) sc66f.nd rfl (.inl rfl) (pe_tup (pa_cons pe_str (pa_cons (pe_xf T.eU.xf T.nU1 hz hf (pv 2)) pa_nil))))) .nil))))
    (pss_one (ps_ret (pv 1)))), ?_⟩
  · refine ⟨fun pins s' ρ G D I h' => ?_⟩
    obtain ⟨Ech, hW, h1, h2, h3⟩ := h'
    exact (pss_one (ps_expr (pe_act2 (X := X) (Y := (cxOf CX0 P w K mg base nFj "_law_fault" (defScope (top 66)) T.l_fault.f cdv A outer s H E).nox.tr pn xe) (i := 0) (a := "_law_call") (E := Ech) ⟨o1, o2, o3, o4, o5⟩ F.kt F.L F.bind tks hW hr (F.body Ech) rfl (.inl rfl)))).run pins s' ρ G D I ⟨v, h1, h2, h3⟩
  · refine ⟨(by show 1 ≤ sizeLine; decide), fun t0 n0 => ?_⟩
    refine ⟨fun cls d H' => Off S H' → EFault K T.cN T.cR T.cU Q cls d (gv S H'), fun cls d ρ' G' hE off => ?_, rfl, lamAt_new at0 n0, ?_⟩
    · have hE2 := hE off
      clear hE
      generalize gv S G' = G at hE2 ⊢
      obtain ⟨dd, u, rfl, hE2⟩ := hE2
      rcases hE2 with ⟨what, dt, rfl, hd, hs, hp, hz, ed, k⟩ | ⟨dt, rfl, hd, hs, hp, hz, ed, k⟩ | ⟨rfl, ed, k⟩
      · refine ⟨true, ?_, fun _ il a na => ?_, fun z => nomatch z⟩
        · have := T.eN.exm T.eN T.nbN
          rwa [decide_eq_true rfl] at this
        · have ix : (List.set ρ' 2 (some (V.ref a)))[2]? = some (some (V.ref a)) := List.getElem?_set_self il
          refine ⟨_, ix, rfl, rfl, dd, _, _, rfl, ed, look2, _, ix, rfl, rfl, dd, _, _, rfl, ed, look1, u, dt, rfl, hd, hs, hp, hz, (by show 3 ≤ sizeLine; decide), fun t nt => ?_⟩
          exact ⟨_, set_found il, k t nt⟩
      · refine ⟨false, ?_, (fun z => nomatch z), fun _ => ⟨true, ?_, fun _ il a na => ?_, fun z => nomatch z⟩⟩
        · have := T.eR.exm T.eN T.nbN
          rwa [decide_eq_false T.neRN] at this
        · have := T.eR.exm T.eR T.nbR
          rwa [decide_eq_true rfl] at this
        · have ix : (List.set ρ' 2 (some (V.ref a)))[2]? = some (some (V.ref a)) := List.getElem?_set_self il
          refine ⟨_, ix, rfl, rfl, dd, _, _, rfl, ed, look1, u, dt, rfl, hd, hs, hp, hz, (by show 2 ≤ sizeLine; decide), fun t nt => ?_⟩
          exact ⟨_, set_found il, k t nt⟩
      · have nx : ∀ {D : Addr} {y : Str}, ErrT K mg y T.B D → D ≠ T.B → T.cU ≠ D → PySem.W.exmOne K (.ref T.cU) (.ref D) = some false := fun {D y} e nb ne => by
          have := T.eU.exm e nb
          rwa [decide_eq_false ne] at this
        refine ⟨false, nx T.eN T.nbN T.neUN, (fun z => nomatch z), fun _ => ⟨false, nx T.eR T.nbR T.neUR, (fun z => nomatch z), fun _ => ⟨true, ?_, fun _ il a na => ?_, fun z => nomatch z⟩⟩⟩
        · have := T.eU.exm T.eU T.nbU
          rwa [decide_eq_true rfl] at this
        · have ix : (List.set ρ' 2 (some (V.ref a)))[2]? = some (some (V.ref a)) := List.getElem?_set_self il
          refine ⟨_, ix, rfl, rfl, dd, _, _, rfl, ed, look1, (by show 2 ≤ sizeLine; decide), fun t nt => ?_⟩
          exact ⟨_, set_found il, k t nt⟩
    · exact want t0 n0
end
end Kz
set_option linter.all false
set_option maxRecDepth 100000
set_option maxHeartbeats 4000000
set_option pp.maxSteps 60
namespace Kz
open PySem PySem.Spec PyProof.Rows L2 Vl
/-- a try: a lambda beside the row that is due -/
def TryAt (P : Program) (w : World) (K : PySem.W.Frag) (mg : Str → Option Value) (base : Heap) (kk : Nat) (cN cR cU : Addr) (H : Hp) (t : V) : Prop :=
  ∃ (a a2 : Addr) (f : V) (ls : List Str) (X : Cx) (σ : L2.St) (S : Addr → Option Obj) (pa : Arguments) (bo : Expr) (sc : Scope) (tb : XK → TE), t = .ref a ∧ SqT K H a [f, .ref a2] ∧ SqT K H a2 (ls.map V.str) ∧
    LamF P w K mg base kk X σ S pa bo sc tb ∧ LamAt X S pa bo sc H f ∧
    ∀ (H' : Hp) (Q : VK), Same H H' → (∀ u H2, Same H' H2 → SqT K H2 u (ls.map V.str) → Q (.ref u) H2) → ∀ t0, H' t0 = none →
      tb (fun cls d G => Off S G → EFault K cN cR cU Q cls d (gv S G)) σ (tk S (upd H' t0 (.tup [.str "none"]))) fun _ G => Off S G → ∃ u : V, some (some (V.ref t0)) = some (some u) ∧ Q u (gv S G)
def spAllr (P : Program) (w : World) (K : PySem.W.Frag) (mg : Str → Option Value) (base : Heap) (kk : Nat) (cN cR cU : Addr) : Sp := fun vs H Q _ => ∃ L ts, vs = [.ref L] ∧ SqL K H L ts ∧ (∀ (i : Nat) (t : V), ts[i]? = some t → TryAt P w K mg base kk cN cR cU H t) ∧ ∀ H', Same H H' → Q (.bl true) H'
theorem lamAt_same {X : Cx} {S : Addr → Option Obj} {pa : Arguments} {bo : Expr} {sc : Scope} {H H' : Hp} {v : V} (s : Same H H') (h : LamAt X S pa bo sc H v) : LamAt X S pa bo sc H' v := by
  obtain ⟨f, c', pm, ctv, e, h1, h2, h3⟩ := h
  exact ⟨f, c', pm, ctv, e, s _ _ h1, s _ _ h2, fun b ob r => s _ _ (h3 b ob r)⟩
theorem op_neTK {X : Cx} {K' : PySem.W.Frag} (hu : X.A.units + 64 < cLine) (e : X.K = K' := by rfl) : OpR X (compareOp .NotEq) (rSameT K' false) := by
  subst e
  exact op_neT hu
section
variable {P : Program} {w : World} {K : PySem.W.Frag} {mg : Str → Option Value} {base : Heap} {kk : Nat}
abbrev nAj : List Str := ["_law_tries", "_law_call", "_law_due"]
theorem sc68f : FnScope nAj ["_law_tries"] (defScope (top 68)) := ⟨rfl, rfl, rfl, by decide +kernel, rfl, by decide +kernel, by decide +kernel⟩
theorem ok_allr (T : Tj P K mg) : FnG P w K mg base CX0 (kk + 3) T.l_allr.f T.l_allr.fd ["_law_tries"] (spAllr P w K mg base kk T.cN T.cR T.cU) := by
  have Gf : FnG P w K mg base CX0 (kk + 2) T.l_fault.f T.l_fault.fd ["_law_call"] (spFault P w K mg base kk T.cN T.cR T.cU) := ok_fault T
  refine fnG_of T.l_allr.fn sc68f (fun vs H Q E h => ?_) (fun cdv A outer s H vs Q E hg hr h => ?_)
  · obtain ⟨_, _, rfl, _⟩ := h
    rfl
  obtain ⟨L, ts, rfl, hL, all, k⟩ := h
  have hu := hr.units
  have hu4 : (A.deeper (envOfC (Str.ofString "_law_all_right") (defScope (top 68)) s.heap.objs.size T.l_allr.f cdv)).units + 64 < cLine := hu
  refine ⟨_, pss_one (ps_ret (pe_cmpR (op_eqD hu) (pe_lc (own := [("_law_call", 1), ("_law_due", 2)]) (g := gTup K 2 (gCons (gName 1) (gCons (gName 2) gNil))) rfl sc68f.nd (pi_list (pv 0)) (blkOk_by (own := [("_law_call", 1), ("_law_due", 2)]) (N := nAj) (sc := defScope (top 68)) (by decide +kernel))
      (fun _ _ _ _ _ => pg_tup (by rfl) (pgs_cons (pg_name (i := 1) sc68f.nd rfl (Or.inl rfl)) (pgs_cons (pg_name (i := 2) sc68f.nd rfl (Or.inl rfl)) pgs_nil)))
      (fun _ _ _ _ _ => pts_one (pt_cmpR (op_neTK (K' := K) hu4) (pe_callG Gf hg hr rfl T.l_fault.g T.l_fault.fn.kp T.l_fault.b pass0 (pa_cons (pv 1) pa_nil)) (pv 2) (nomark _))) (fun _ _ _ _ _ => pe_int)) (pe_lst pa_nil) (nomark _))), ?_⟩
  refine ⟨_, rfl, L, rfl, ⟨_, hL⟩, fun D hD => ?_⟩
  refine lc_noL hL hD ?_ ?_
  · rintro j t ht H4 Qk Z s4 kz
    obtain ⟨a, a2, f, ls, X, σ, S, pa, bo, sc, tb, rfl, ha, ha2, F, at0, want⟩ := all j t ht
    refine ⟨a, _, rfl, Kz.Same.seqT s4 ha, rfl, _, _, rfl, _, _, rfl, rfl, rfl, ?_⟩
    refine ⟨_, rfl, X, σ, S, pa, bo, sc, tb, f, rfl, F, lamAt_same s4 at0, ?_⟩
    refine want H4 _ s4 fun u H5 s5 hu5 => ?_
    exact ⟨_, rfl, u, a2, ls, rfl, rfl, hu5, Kz.Same.seqT (s4.trans s5) ha2, _, rfl, iteF (kz _ s5)⟩
  rintro H5 eD s5
  refine ⟨(by show 0 ≤ sizeLine; decide), fun z nz => ?_⟩
  have s6 := Same.new (o := (HO.lst [])) nz
  have e6 : upd H5 z (HO.lst []) z = some (HO.lst []) := upd_same
  generalize upd H5 z (HO.lst []) = H6 at s6 e6 ⊢
  exact ⟨.list [], .list [], .lst (SqL.of (s6 _ _ eD)) .nil, .lst (SqL.of e6) .nil, rfl, rfl, k H6 (s5.trans s6)⟩
end
end Kz
set_option linter.all false
set_option maxRecDepth 100000
set_option maxHeartbeats 4000000
set_option pp.maxSteps 60
namespace Kz
open PySem PySem.Spec PyProof.Rows L2 Vl
/-! ### shares refused -/
/-- no places of a share -/
def PlcBad (K : PySem.W.Frag) (H : Hp) (v : V) : Prop := NotRow K H v ∨ ∃ qs, Rw K H v qs ∧ (qs.length = 0 ∨ 0 < qs.length ∧ ascB qs = false)
/-- no parts of a share with so many places -/
def PrtBad (K : PySem.W.Frag) (H : Hp) (v : V) (n : Nat) : Prop := NotRow K H v ∨ ∃ qs, Rw K H v qs ∧ (qs.length ≠ n ∨ qs.length = n ∧ wpB qs = false)
theorem PlcBad.same {K : PySem.W.Frag} {H H' : Hp} {v : V} (s : Same H H') (h : PlcBad K H v) : PlcBad K H' v := h.elim (fun h => .inl (h.same s)) fun ⟨qs, h, r⟩ => .inr ⟨qs, h.same s, r⟩
theorem PrtBad.same {K : PySem.W.Frag} {H H' : Hp} {v : V} {n : Nat} (s : Same H H') (h : PrtBad K H v n) : PrtBad K H' v n := h.elim (fun h => .inl (h.same s)) fun ⟨qs, h, r⟩ => .inr ⟨qs, h.same s, r⟩
section
variable {P : Program} {w : World} {K : PySem.W.Frag} {mg : Str → Option Value} {base : Heap}
def spPartsB (K : PySem.W.Frag) : Sp := fun vs H Q _ => ∃ v, ∃ many : Nat, vs = [v, .int (many : Nat)] ∧ PrtBad K H v many ∧ ∀ H', Same H H' → Q (.bl false) H'
theorem ok_partsB (T : Tg P K mg) : FnOk P w K mg base CX0 8 T.are_parts.f T.are_parts.fd ["value", "many"] (spPartsB K) := by
  have G1 : FnOk P w K mg base CX0 4 T.is_row.f T.is_row.fd ["value"] (spRow K) := ok_row T.toTz
  have G2 : FnOk P w K mg base CX0 7 T.whole_parts.f T.whole_parts.fd ["row"] (spWp K) := ok_wp T
  refine T.are_parts.fn.ok sc43g (fun vs H Q E h => ?_) (fun cdv A outer s H vs Q E hr h => ?_)
  · obtain ⟨v, many, rfl, _⟩ := h
    rfl
  · obtain ⟨v, many, rfl, bad, k⟩ := h
    have hr4 : Room 4 _ := hr.mono (by decide)
    refine ⟨_, pss_one (ps_ret (pe_and (T.is_row.c0 G1 hr4 (pa_cons (pv 0) pa_nil)) (pe_and (pe_cmpR op_eq (pe_callB call_len_seq (by rfl) T.blt.len PySem.boot_len (pa_cons (pv 0) pa_nil)) (pv 1) (nomark _))
      (pe_one (T.whole_parts.c0 G2 hr (pa_cons (pv 0) pa_nil)))))), ?_⟩
    refine ⟨_, rfl, ?_⟩
    dsimp only [tNil]
    rcases bad with nr | ⟨qs, hv, bad⟩
    · exact nr.row fun H1 s1 => ⟨_, rfl, iteF (k H1 s1)⟩
    refine hv.row fun H1 s1 => ?_
    refine ⟨_, rfl, iteT ?_⟩
    obtain ⟨a, us, rfl, hs, lu, _⟩ := (hv.same s1).len
    refine ⟨_, rfl, a, us, rfl, hs, _, rfl, rfl, _, rfl, ?_⟩
    rcases bad with ne | ⟨len, wp⟩
    · rw [dec_int, beqF (show ((us.length : Nat) : Int) ≠ ((many : Nat) : Int) by omega)]
      exact iteF (k H1 s1)
    · rw [dec_int, beqT (show ((us.length : Nat) : Int) = ((many : Nat) : Int) by omega)]
      refine iteT ⟨_, rfl, _, qs, rfl, hv.same s1, fun H2 s2 => ?_⟩
      rw [wp]
      exact k H2 (s1.trans s2)
def spSinitB (K : PySem.W.Frag) (cR : Addr) : Sp := fun vs H Q E => ∃ x xv pv H0, vs = [.ref x, xv, pv] ∧ Same H0 H ∧
  ((PlcBad K H0 xv ∧ ErR cR H0 E xv) ∨ (∃ xs, Rw K H0 xv xs ∧ 0 < xs.length ∧ ascB xs = true ∧ PrtBad K H0 pv xs.length ∧ ErR cR H0 E pv))
theorem ok_sinitB (T : Tg P K mg) : FnOk P w K mg base (CX P w) 9 T.s_init.f T.s_init.fd ["self", "places", "parts"] (spSinitB K T.cR) := by
  have G1 : FnOk P w K mg base CX0 4 T.is_row.f T.is_row.fd ["value"] (spRow K) := ok_row T.toTz
  have G2 : FnOk P w K mg base CX0 6 T.ascends.f T.ascends.fd ["row"] (spAscR K) := ok_ascR T.toTb
  have G3 : FnOk P w K mg base CX0 8 T.are_parts.f T.are_parts.fd ["value", "many"] (spPartsB K) := ok_partsB T
  have G4 : FnOk P w K mg base CX0 5 T.told_row.f T.told_row.fd ["row"] (spTrowN K) := ok_trowN T.toTb
  refine T.s_init.fn.okX scS0 (fun vs H Q E h => ?_) (fun cdv A outer s H vs Q E hr h => ?_)
  · obtain ⟨x, xv, pv', H0, rfl, _⟩ := h
    rfl
  · obtain ⟨x, xv, pv', H0, rfl, s0, bad⟩ := h
    have hr4 : Room 4 _ := hr.mono (by decide)
    have hr5 : Room 5 _ := hr.mono (by decide)
    have hr6 : Room 6 _ := hr.mono (by decide)
    have tk := takes_of (X := cxOf (CX P w) P w K mg base nS0 "Share.__init__" (defScope (sS 0)) T.s_init.f cdv A outer s H E) (E := E) rfl rfl rfl rfl
    refine ⟨_, pss_cons (ps_if (PW.pt (pw_or (pt_not (pt_val (T.is_row.c0 G1 hr4 (pa_cons (pv 1) pa_nil))))
          (pw_or (pt_cmpR op_eq (pe_callB call_len_seq (by rfl) T.blt.len PySem.boot_len (pa_cons (pv 1) pa_nil)) pe_int (nomark _))
            (pw_or1 (pt_not (pt_val (T.ascends.c0 G2 hr6 (pa_cons (pv 1) pa_nil))))))))
        (pss_one (ps_raise rfl tk (pmk_oex (CX := CX0) T.eR.o T.iR.i T.iR.t (ok_i4 T.iR.fn) (hr.mono (by decide)) T.bR .nil pass0 rfl T.eR.g (pa_cons (pv 1) pa_nil)))) pss_nil)
      (pss_cons (ps_if (pt_not (pt_val (T.are_parts.c0 G3 hr (pa_cons (pv 2) (pa_cons (pe_callB call_len_seq (by rfl) T.blt.len PySem.boot_len (pa_cons (pv 1) pa_nil)) pa_nil)))))
        (pss_one (ps_raise rfl tk (pmk_oex (CX := CX0) T.eR.o T.iR.i T.iR.t (ok_i4 T.iR.fn) (hr.mono (by decide)) T.bR .nil pass0 rfl T.eR.g (pa_cons (pv 2) pa_nil)))) pss_nil)
      (pss_cons (ps_fld (pv 0) (T.told_row.c0 G4 hr5 (pa_cons (pv 1) pa_nil)) (by rfl))
      (pss_one (ps_fld (pv 0) (T.told_row.c0 G4 hr5 (pa_cons (pv 2) pa_nil)) (by rfl))))), ?_⟩
    refine ⟨_, rfl, ?_⟩
    dsimp only [tNil]
    rcases bad with ⟨bad, er⟩ | ⟨xs, hv, pos, asc, bad, er⟩
    · rcases bad with nr | ⟨qs, hv, bad⟩
      · refine (nr.same s0).row fun H1 s1 => ?_
        exact ⟨_, rfl, iteT (iteT ⟨_, rfl, raised1 T.eR.o T.nR1 fun d H' s' e => er d H' ((s0.trans s1).trans s') e⟩)⟩
      · refine (hv.same s0).row fun H1 s1 => ?_
        refine ⟨_, rfl, iteF ?_⟩
        have s01 := s0.trans s1
        obtain ⟨a, us, rfl, hs, lu, _⟩ := (hv.same s01).len
        refine ⟨_, rfl, a, us, rfl, hs, rfl, _, rfl, ?_⟩
        rcases bad with z | ⟨pos, asc⟩
        · rw [dec_int, beqT (show ((us.length : Nat) : Int) = 0 by omega)]
          exact iteT (iteT ⟨_, rfl, raised1 T.eR.o T.nR1 fun d H' s' e => er d H' (s01.trans s') e⟩)
        · rw [dec_int, beqF (show ((us.length : Nat) : Int) ≠ 0 by omega)]
          refine iteF ⟨_, rfl, _, qs, rfl, hv.same s01, pos, fun H2 s2 => ?_⟩
          rw [asc]
          exact ⟨_, rfl, iteT ⟨_, rfl, raised1 T.eR.o T.nR1 fun d H' s' e => er d H' ((s01.trans s2).trans s') e⟩⟩
    · refine (hv.same s0).row fun H1 s1 => ?_
      refine ⟨_, rfl, iteF ?_⟩
      have s01 := s0.trans s1
      obtain ⟨a, us, rfl, hs, lu, _⟩ := (hv.same s01).len
      refine ⟨_, rfl, a, us, rfl, hs, rfl, _, rfl, ?_⟩
      rw [dec_int, beqF (show ((us.length : Nat) : Int) ≠ 0 by omega)]
      refine iteF ⟨_, rfl, _, xs, rfl, hv.same s01, pos, fun H2 s2 => ?_⟩
      rw [asc]
      refine ⟨_, rfl, iteF ?_⟩
      have s02 := s01.trans s2
      refine ⟨_, rfl, _, rfl, a, us, rfl, Sq.same2 s2 hs, ?_⟩
      refine ⟨_, us.length, rfl, by rw [lu]; exact bad.same s02, fun H3 s3 => ?_⟩
      exact ⟨_, rfl, iteT ⟨_, rfl, raised1 T.eR.o T.nR1 fun d H' s' e => er d H' ((s02.trans s3).trans s') e⟩⟩
end
end Kz
set_option linter.all false
set_option maxRecDepth 100000
set_option maxHeartbeats 4000000
set_option pp.maxSteps 60
namespace Kz
open PySem PySem.Spec PyProof.Rows L2 Vl
section
variable {P : Program} {w : World} {K : PySem.W.Frag} {mg : Str → Option Value} {base : Heap}
/-! ### mixed -/
def spMixedB (K : PySem.W.Frag) (cR : Addr) : Sp := fun vs H _ E => ∃ a u ws, vs = [.ref a, u] ∧ (SqL K H a ws ∨ SqT K H a ws) ∧ PrtBad K H u ws.length ∧ ErR cR H E u
abbrev nMxj : List Str := ["shares", "parts", "places", "found", "share", "by", "place", "part"]
theorem sc54j : FnScope nMxj ["shares", "parts"] (defScope (top 54)) := ⟨rfl, rfl, rfl, by decide +kernel, rfl, by decide +kernel, by decide +kernel⟩
theorem ok_mixedB (T : Tj P K mg) : FnOk P w K mg base (CX P w) 9 T.mixed.f T.mixed.fd ["shares", "parts"] (spMixedB K T.cR) := by
  have G1 : FnOk P w K mg base CX0 8 T.are_parts.f T.are_parts.fd ["value", "many"] (spPartsB K) := ok_partsB T.toTg
  refine T.mixed.fn.okX sc54j (fun vs H Q E h => ?_) (fun cdv A outer s H vs Q E hr h => ?_)
  · obtain ⟨a, u, ws, rfl, _⟩ := h
    rfl
  · obtain ⟨a, u, ws, rfl, ha, bad, er⟩ := h
    have tk := takes_of (X := cxOf (CX P w) P w K mg base nMxj "mixed" (defScope (top 54)) T.mixed.f cdv A outer s H E) (E := E) rfl rfl rfl rfl
    refine ⟨_, pss_cons (ps_if (pt_not (pt_val (T.are_parts.c0 G1 hr (pa_cons (pv 1) (pa_cons (pe_callB call_len_seq (by rfl) T.blt.len PySem.boot_len (pa_cons (pv 0) pa_nil)) pa_nil)))))
      (pss_one (ps_raise rfl tk (pmk_oex (CX := CX0) T.eR.o T.iR.i T.iR.t (ok_i4 T.iR.fn) (hr.mono (by decide)) T.bR .nil pass0 rfl T.eR.g (pa_cons (pv 1) pa_nil)))) pss_nil) pss_void, ?_⟩
    refine ⟨_, rfl, _, rfl, a, ws, rfl, ha, u, ws.length, rfl, bad, fun H1 s1 => ?_⟩
    exact ⟨_, rfl, iteT ⟨_, rfl, raised1 T.eR.o T.nR1 fun d H' s' e => er d H' (s1.trans s') e⟩⟩
/-! ### the ends -/
/-- ends that are refused -/
def EndsBad (K : PySem.W.Frag) (cN : Addr) (H : Hp) (E : XK) (u v : V) : Prop := (Odd K H u ∧ ErN cN H E "low" u) ∨
  ∃ q n m, ArgQ K H u n m q ∧ n ≤ 1000 ∧ m ≤ 1000 ∧ ((Odd K H v ∧ ErN cN H E "high" v) ∨ ∃ r n' m', ArgQ K H v n' m' r ∧ n' ≤ 1000 ∧ m' ≤ 1000 ∧ r < q ∧ ErN cN H E "high" v)
def spEndsB (K : PySem.W.Frag) (cN : Addr) : Sp := fun vs H _ E => ∃ u v, vs = [u, v] ∧ EndsBad K cN H E u v
theorem sc50j : FnScope ["low", "high"] ["low", "high"] (defScope (top 50)) := ⟨rfl, rfl, rfl, by decide +kernel, rfl, by decide +kernel, by decide +kernel⟩
theorem ok_endsB (T : Tj P K mg) : FnOk P w K mg base (CX P w) 6 T.check_ends.f T.check_ends.fd ["low", "high"] (spEndsB K T.cN) := by
  have G1 : FnOk P w K mg base CX0 3 T.is_ratio.f T.is_ratio.fd ["value"] (spRatio K) := ok_ratio T.toTx
  have G2 : FnOk P w K mg base (CX P w) 5 T.lower.f T.lower.fd ["one", "other"] (spTwo K T.cN cBin (fun _ v q r => v = .bl (decide (q < r)))) := ok_lower T.toTx
  refine T.check_ends.fn.okX sc50j (fun vs H Q E h => ?_) (fun cdv A outer s H vs Q E hr h => ?_)
  · obtain ⟨u, v, rfl, _⟩ := h
    rfl
  · obtain ⟨u, v, rfl, h⟩ := h
    have hr3 : Room 3 _ := hr.mono (by decide)
    have tk := takes_of (X := cxOf (CX P w) P w K mg base ["low", "high"] "check_ends" (defScope (top 50)) T.check_ends.f cdv A outer s H E) (E := E) rfl rfl rfl rfl
    refine ⟨_, pss_cons (ps_if (pt_not (pt_val (T.is_ratio.c0 G1 hr3 (pa_cons (pv 0) pa_nil))))
        (pss_one (ps_raise rfl tk (pmk_oex (CX := CX0) T.eN.o T.iN.i T.iN.t (ok_i3 T.iN.fn) (hr.mono (by decide)) T.bN .nil pass0 rfl T.eN.g (pa_cons pe_str (pa_cons (pv 0) pa_nil))))) pss_nil)
      (pss_one (ps_if (PW.pt (pw_or (pt_not (pt_val (T.is_ratio.c0 G1 hr3 (pa_cons (pv 1) pa_nil)))) (pw_or1 (pt_val (T.lower.cX G2 hr (pa_cons (pv 1) (pa_cons (pv 0) pa_nil)))))))
        (pss_one (ps_raise rfl tk (pmk_oex (CX := CX0) T.eN.o T.iN.i T.iN.t (ok_i3 T.iN.fn) (hr.mono (by decide)) T.bN .nil pass0 rfl T.eN.g (pa_cons pe_str (pa_cons (pv 1) pa_nil))))) pss_nil)), ?_⟩
    rcases h with ⟨⟨t, ty, nt, pr⟩, er⟩ | ⟨q, n, m, aq, hn, hm, h⟩
    · refine ⟨_, rfl, u, t, false, rfl, ty, fun _ => pr, fun H1 s1 => ?_⟩
      rw [nt, if_neg (by decide)]
      exact ⟨_, rfl, iteT ⟨_, rfl, raised2 T.eN.o T.nN1 T.nN2 fun d H' s' e => er d H' (s1.trans s') e⟩⟩
    · obtain ⟨tt, b1, ty, pr, eb⟩ := aq.rb
      refine ⟨_, rfl, u, tt, b1, rfl, ty, pr, fun H1 s1 => ?_⟩
      rw [← eb]
      refine ⟨_, rfl, iteF ?_⟩
      rcases h with ⟨od, er⟩ | ⟨r, n', m', ar, hn', hm', lt, er⟩
      · obtain ⟨t, ty2, nt, pr2⟩ := od.same s1
        refine ⟨_, rfl, v, t, false, rfl, ty2, fun _ => pr2, fun H2 s2 => ?_⟩
        rw [nt, if_neg (by decide)]
        exact ⟨_, rfl, iteT (iteT ⟨_, rfl, raised2 T.eN.o T.nN1 T.nN2 fun d H' s' e => er d H' ((s1.trans s2).trans s') e⟩)⟩
      · obtain ⟨t2, b2, ty2, pr2, eb2⟩ := (ar.same s1).rb
        refine ⟨_, rfl, v, t2, b2, rfl, ty2, pr2, fun H3 s3 => ?_⟩
        rw [← eb2]
        have s13 := s1.trans s3
        refine ⟨_, rfl, iteF ⟨_, rfl, _, rfl, v, u, rfl, .inl ⟨_, _, n', m', n, m, ar.same s13, aq.same s13, by omega, by omega, ⟨by omega, by omega⟩, fun v2 H4 s4 e2 => ?_⟩⟩⟩
        have e2 : v2 = V.bl (decide (r < q)) := e2
        rw [decide_eq_true lt] at e2
        subst e2
        exact ⟨_, rfl, iteT ⟨_, rfl, raised2 T.eN.o T.nN1 T.nN2 fun d H' s' e => er d H' ((s13.trans s4).trans s') e⟩⟩
def spChB (K : PySem.W.Frag) (cN : Addr) : Sp := fun vs H _ E => ∃ f u v, vs = [f, u, v] ∧ EndsBad K cN H E u v
abbrev nChj : List Str := ["share", "low", "high", "found", "place", "part"]
theorem sc51j : FnScope nChj ["share", "low", "high"] (defScope (top 51)) := ⟨rfl, rfl, rfl, by decide +kernel, rfl, by decide +kernel, by decide +kernel⟩
theorem sc52j : FnScope nChj ["share", "low", "high"] (defScope (top 52)) := ⟨rfl, rfl, rfl, by decide +kernel, rfl, by decide +kernel, by decide +kernel⟩
theorem ok_chB (T : Tj P K mg) : FnOk P w K mg base (CX P w) 7 T.chance.f T.chance.fd ["share", "low", "high"] (spChB K T.cN) := by
  have G : FnOk P w K mg base (CX P w) 6 T.check_ends.f T.check_ends.fd ["low", "high"] (spEndsB K T.cN) := ok_endsB T
  refine T.chance.fn.okX sc51j (fun vs H Q E h => ?_) (fun cdv A outer s H vs Q E hr h => ?_)
  · obtain ⟨f, u, v, rfl, _⟩ := h
    rfl
  · obtain ⟨f, u, v, rfl, bad⟩ := h
    have tk := takes_of (X := cxOf (CX P w) P w K mg base nChj "chance" (defScope (top 51)) T.chance.f cdv A outer s H E) (E := E) rfl rfl rfl rfl
    exact ⟨_, pss_cons (ps_expr (T.check_ends.cS G hr tk (pa_cons (pv 1) (pa_cons (pv 2) pa_nil)))) pss_void, _, rfl, _, rfl, u, v, rfl, bad⟩
theorem ok_chbB (T : Tj P K mg) : FnOk P w K mg base (CX P w) 7 T.chance_b.f T.chance_b.fd ["share", "low", "high"] (spChB K T.cN) := by
  have G : FnOk P w K mg base (CX P w) 6 T.check_ends.f T.check_ends.fd ["low", "high"] (spEndsB K T.cN) := ok_endsB T
  refine T.chance_b.fn.okX sc52j (fun vs H Q E h => ?_) (fun cdv A outer s H vs Q E hr h => ?_)
  · obtain ⟨f, u, v, rfl, _⟩ := h
    rfl
  · obtain ⟨f, u, v, rfl, bad⟩ := h
    have tk := takes_of (X := cxOf (CX P w) P w K mg base nChj "chance_between" (defScope (top 52)) T.chance_b.f cdv A outer s H E) (E := E) rfl rfl rfl rfl
    exact ⟨_, pss_cons (ps_expr (T.check_ends.cS G hr tk (pa_cons (pv 1) (pa_cons (pv 2) pa_nil)))) pss_void, _, rfl, _, rfl, u, v, rfl, bad⟩
/-! ### moved -/
def spMovedB (K : PySem.W.Frag) (cN : Addr) : Sp := fun vs H _ E => ∃ f u v, vs = [f, u, v] ∧ ((Odd K H u ∧ ErN cN H E "factor" u) ∨ ∃ q n m, ArgQ K H u n m q ∧ m ≤ 9000 ∧ Odd K H v ∧ ErN cN H E "shift" v)
abbrev nMvj : List Str := ["share", "factor", "shift", "by", "start", "place"]
theorem sc55j : FnScope nMvj ["share", "factor", "shift"] (defScope (top 55)) := ⟨rfl, rfl, rfl, by decide +kernel, rfl, by decide +kernel, by decide +kernel⟩
theorem ok_movedB (T : Tj P K mg) : FnOk P w K mg base (CX P w) 5 T.moved.f T.moved.fd ["share", "factor", "shift"] (spMovedB K T.cN) := by
  have G : FnOk P w K mg base (CX P w) 4 T.told.f T.told.fd ["value", "what"] (spTold K T.cN) := ok_told T.toTx
  refine T.moved.fn.okX sc55j (fun vs H Q E h => ?_) (fun cdv A outer s H vs Q E hr h => ?_)
  · obtain ⟨f, u, v, rfl, _⟩ := h
    rfl
  · obtain ⟨f, u, v, rfl, bad⟩ := h
    have tk := takes_of (X := cxOf (CX P w) P w K mg base nMvj "moved" (defScope (top 55)) T.moved.f cdv A outer s H E) (E := E) rfl rfl rfl rfl
    refine ⟨_, pss_cons (ps_set (i := 3) sc55j.nd rfl (.inr rfl) (T.told.cS G hr tk (pa_cons (pv 1) (pa_cons pe_str pa_nil))))
      (pss_cons (ps_set (i := 4) sc55j.nd rfl (.inr rfl) (T.told.cS G hr tk (pa_cons (pv 2) (pa_cons pe_str pa_nil)))) pss_void), ?_⟩
    rcases bad with ⟨od, er⟩ | ⟨q, n, m, aq, hm, od, er⟩
    · exact ⟨_, rfl, u, _, rfl, .inr ⟨od, er⟩⟩
    · exact ⟨_, rfl, u, _, rfl, .inl ⟨q, n, m, aq, hm, fun u1 H1 s1 _ => ⟨_, rfl, v, _, rfl, .inr ⟨od.same s1, er.after s1⟩⟩⟩⟩
end
end Kz
set_option linter.all false
set_option maxRecDepth 100000
set_option maxHeartbeats 4000000
set_option pp.maxSteps 60
namespace Kz
open PySem PySem.Spec PyProof.Rows L2 Vl
def ErUj (cU : Addr) (H : Hp) (E : XK) (what : Str) : Prop := ∀ (d : Addr) (H' : Hp), Same H H' → H' d = some (.xd [("what", .str what)]) → E (.ref cU) (some d) H'
theorem ErUj.after {cU : Addr} {H H1 : Hp} {E : XK} {what : Str} (s : Same H H1) (h : ErUj cU H E what) : ErUj cU H1 E what := fun d H' s' => h d H' (s.trans s')
section
variable {P : Program} {w : World} {K : PySem.W.Frag} {mg : Str → Option Value} {base : Heap}
/-! ### whether a function is of a bounded kind, either way -/
def spBkG (K : PySem.W.Frag) (cB cP : Addr) : Sp := fun vs H Q _ => ∃ f ks ps as, vs = [f] ∧ BrkZ K cB cP H f ks ps as ∧ ∀ H', Same H H' → Q (.bl (!abv ks ps as ks.length || !blw ks ps as ks.length)) H'
theorem ok_bkG (T : Tg P K mg) : FnOk P w K mg base CX0 9 T.is_bk.f T.is_bk.fd ["function"] (spBkG K T.cB T.cP) := by
  have G1 : FnOk P w K mg base CX0 8 T.b_upper.f T.b_upper.fd ["self"] (spBkind K T.cB T.cP fun ks ps as => !abv ks ps as ks.length) := ok_bupper T.toTb
  have G2 : FnOk P w K mg base CX0 8 T.b_lower.f T.b_lower.fd ["self"] (spBkind K T.cB T.cP fun ks ps as => !blw ks ps as ks.length) := ok_blower T.toTb
  refine T.is_bk.fn.ok sc44g (fun vs H Q E h => ?_) (fun cdv A outer s H vs Q E hr h => ?_)
  · obtain ⟨f, ks, ps, as, rfl, _⟩ := h
    rfl
  · obtain ⟨f, ks, ps, as, rfl, hf, k⟩ := h
    refine ⟨_, pss_one (ps_ret (pe_and (pe_callB (call_isiK (K' := K)) (by rfl) T.mIsi boot_isi (pa_cons (pv 0) (pa_cons (pe_glob (v := .ref T.cB) rfl T.mgB rfl) pa_nil)))
      (pe_one (pe_or (pe_meth0 (pv 0) T.clB T.b_upper.me G1 hr T.b_upper.b .nil pass0) (pe_one (pe_meth0 (pv 0) T.clB T.b_lower.me G2 hr T.b_lower.b .nil pass0)))))), ?_⟩
    obtain ⟨⟨a, dx, t1, t2, t3, w1, us, w3, rfl, ha, _⟩, _⟩ := id hf
    refine ⟨_, rfl, _, _, _, _, true, rfl, .own _, brk_ty T.toTc ha, kit_self, _, rfl, ?_⟩
    refine iteT ⟨_, rfl, a, dx, _, rfl, ha, lkBup, .ref a, ks, ps, as, rfl, hf, fun H1 s1 => ?_⟩
    dsimp only
    cases c : abv ks ps as ks.length with
    | false =>
      refine ⟨_, rfl, iteT ?_⟩
      have := k H1 s1
      rw [c] at this
      exact this
    | true =>
      refine ⟨_, rfl, iteF ⟨_, rfl, a, dx, _, rfl, s1 _ _ ha, lkBlo, .ref a, ks, ps, as, rfl, hf.same s1, fun H2 s2 => ?_⟩⟩
      have := k H2 (s1.trans s2)
      rw [c] at this
      exact this
/-- a Told that is refused -/
def TBad (K : PySem.W.Frag) (cN cU cB cP : Addr) (H : Hp) (E : XK) (f lv mv : V) (ks : List Rat) (ps : List (List Rat)) (as : List Rat) : Prop :=
  (abv ks ps as ks.length = true ∧ blw ks ps as ks.length = true ∧ ErUj cU H E "kind") ∨
  ((abv ks ps as ks.length = false ∨ blw ks ps as ks.length = false) ∧
    ((lv ≠ .non ∧ (Odd K H lv ∨ (∃ q n, ArgQ K H lv n 4500 q) ∧ abv ks ps as ks.length = true) ∧ ErN cN H E "least" lv) ∨
     ∃ lo, OA K H lv lo ∧ (lo ≠ none → abv ks ps as ks.length = false) ∧
      ((mv ≠ .non ∧ (Odd K H mv ∨ (∃ q n, ArgQ K H mv n 4500 q) ∧ blw ks ps as ks.length = true) ∧ ErN cN H E "most" mv) ∨
       ∃ hi, OA K H mv hi ∧ (hi ≠ none → blw ks ps as ks.length = false) ∧
        ((∃ q r, lo = some q ∧ hi = some r ∧ r < q ∧ ErN cN H E "most" mv) ∨ (lo = none ∧ hi = none ∧ ErUj cU H E "bounds")))))
def spTinitB (K : PySem.W.Frag) (cN cU cB cP : Addr) : Sp := fun vs H _ E => ∃ x f lv mv H0 ks ps as, vs = [.ref x, f, lv, mv] ∧ Same H0 H ∧ BrkZ K cB cP H0 f ks ps as ∧ TBad K cN cU cB cP H0 E f lv mv ks ps as
theorem ok_tinitB (T : Tg P K mg) : FnOk P w K mg base (CX P w) 10 T.t_init.f T.t_init.fd ["self", "function", "least", "most"] (spTinitB K T.cN T.cU T.cB T.cP) := by
  have G1 : FnOk P w K mg base CX0 9 T.is_bk.f T.is_bk.fd ["function"] (spBkG K T.cB T.cP) := ok_bkG T
  have G2 : FnOk P w K mg base CX0 3 T.is_ratio.f T.is_ratio.fd ["value"] (spRatio K) := ok_ratio T.toTx
  have G3 : FnOk P w K mg base CX0 8 T.b_upper.f T.b_upper.fd ["self"] (spBkind K T.cB T.cP fun ks ps as => !abv ks ps as ks.length) := ok_bupper T.toTb
  have G4 : FnOk P w K mg base CX0 8 T.b_lower.f T.b_lower.fd ["self"] (spBkind K T.cB T.cP fun ks ps as => !blw ks ps as ks.length) := ok_blower T.toTb
  have G5 : FnOk P w K mg base (CX P w) 5 T.lower.f T.lower.fd ["one", "other"] (spTwo K T.cN cBin (fun _ v q r => v = .bl (decide (q < r)))) := ok_lower T.toTx
  refine T.t_init.fn.okX scT0 (fun vs H Q E h => ?_) (fun cdv A outer s H vs Q E hr h => ?_)
  · obtain ⟨x, f, lv, mv, H0, ks, ps, as, rfl, _⟩ := h
    rfl
  · obtain ⟨x, f, lv, mv, H0, ks, ps, as, rfl, s0, hf, bad⟩ := h
    have hr3 : Room 3 _ := hr.mono (by decide)
    have hr4 : Room 4 _ := hr.mono (by decide)
    have hr5 : Room 5 _ := hr.mono (by decide)
    have hr8 : Room 8 _ := hr.mono (by decide)
    have tk := takes_of (X := cxOf (CX P w) P w K mg base nT0 "Told.__init__" (defScope (sT 0)) T.t_init.f cdv A outer s H E) (E := E) rfl rfl rfl rfl
    refine ⟨_, pss_cons (ps_if (pt_not (pt_val (T.is_bk.c0 G1 hr (pa_cons (pv 1) pa_nil))))
        (pss_one (ps_raise rfl tk (pmk_oex (CX := CX0) T.eU.o T.iU.i T.iU.t (ok_i6 T.iU.fn) (hr.mono (by decide)) T.bU .nil pass0 rfl T.eU.g (pa_cons pe_str pa_nil)))) pss_nil)
      (pss_cons (ps_if (PW.pt (pw_and (pt_cmpR op_notN (pv 2) pe_non (nomark _)) (pw_and1 (pt_not (PW.pt (pw_and (pt_val (T.is_ratio.c0 G2 hr3 (pa_cons (pv 2) pa_nil))) (pw_and1 (pt_val (pe_meth0 (pv 1) T.clB T.b_upper.me G3 hr8 T.b_upper.b .nil pass0)))))))))
        (pss_one (ps_raise rfl tk (pmk_oex (CX := CX0) T.eN.o T.iN.i T.iN.t (ok_i3 T.iN.fn) (hr.mono (by decide)) T.bN .nil pass0 rfl T.eN.g (pa_cons pe_str (pa_cons (pv 2) pa_nil))))) pss_nil)
      (pss_cons (ps_if (PW.pt (pw_and (pt_cmpR op_notN (pv 3) pe_non (nomark _)) (pw_and1 (pt_not (PW.pt (pw_and (pt_val (T.is_ratio.c0 G2 hr3 (pa_cons (pv 3) pa_nil))) (pw_and1 (pt_val (pe_meth0 (pv 1) T.clB T.b_lower.me G4 hr8 T.b_lower.b .nil pass0)))))))))
        (pss_one (ps_raise rfl tk (pmk_oex (CX := CX0) T.eN.o T.iN.i T.iN.t (ok_i3 T.iN.fn) (hr.mono (by decide)) T.bN .nil pass0 rfl T.eN.g (pa_cons pe_str (pa_cons (pv 3) pa_nil))))) pss_nil)
      (pss_cons (ps_if (PW.pt (pw_and (pt_cmpR op_notN (pv 2) pe_non (nomark _)) (pw_and (pt_cmpR op_notN (pv 3) pe_non (nomark _)) (pw_and1 (pt_val (T.lower.cX G5 hr5 (pa_cons (pv 3) (pa_cons (pv 2) pa_nil))))))))
        (pss_one (ps_raise rfl tk (pmk_oex (CX := CX0) T.eN.o T.iN.i T.iN.t (ok_i3 T.iN.fn) (hr.mono (by decide)) T.bN .nil pass0 rfl T.eN.g (pa_cons pe_str (pa_cons (pv 3) pa_nil))))) pss_nil)
      (pss_cons (ps_if (PW.pt (pw_and (pt_cmpR op_isN (pv 2) pe_non (nomark _)) (pw_and1 (pt_cmpR op_isN (pv 3) pe_non (nomark _)))))
        (pss_one (ps_raise rfl tk (pmk_oex (CX := CX0) T.eU.o T.iU.i T.iU.t (ok_i6 T.iU.fn) (hr.mono (by decide)) T.bU .nil pass0 rfl T.eU.g (pa_cons pe_str pa_nil)))) pss_nil) pss_void)))), ?_⟩
    obtain ⟨⟨a, fx, t1, t2, t3, w1, us, w3, rfl, ha, _⟩, _⟩ := id hf
    refine ⟨_, rfl, _, ks, ps, as, rfl, hf.same s0, fun H1 s1 => ?_⟩
    have s01 := s0.trans s1
    rcases bad with ⟨c1, c2, er⟩ | ⟨kd, bad⟩
    · rw [c1, c2]
      exact ⟨_, rfl, iteT (raised1 T.eU.o T.nU1 fun d H' s' e => er d H' (s01.trans s') e)⟩
    have kd2 : (!abv ks ps as ks.length || !blw ks ps as ks.length) = true := by
      rcases kd with z | z <;> rw [z]
      · rfl
      · exact Bool.or_true _
    rw [kd2]
    refine ⟨_, rfl, iteF ?_⟩
    dsimp only [tNext, tSeq, tIfS]
    -- least
    rcases bad with ⟨nn, bad, er⟩ | ⟨lo, hl, up, bad⟩
    · refine ⟨_, rfl, rfl, _, rfl, ?_⟩
      rw [nonF nn]
      rcases bad with ⟨t, ty, nt, pr⟩ | ⟨⟨q, n, aq⟩, c1⟩
      · refine iteT ⟨_, rfl, lv, t, false, rfl, ty.same s01, fun _ => pr.same s01, fun H2 s2 => ?_⟩
        rw [nt, if_neg (by decide)]
        exact ⟨_, rfl, iteF (iteT ⟨_, rfl, raised2 T.eN.o T.nN1 T.nN2 fun d H' s' e => er d H' ((s01.trans s2).trans s') e⟩)⟩
      · obtain ⟨tt, b, ty, pr, eb⟩ := (aq.same s01).rb
        refine iteT ⟨_, rfl, lv, tt, b, rfl, ty, pr, fun H2 s2 => ?_⟩
        rw [← eb]
        refine ⟨_, rfl, iteT ⟨_, rfl, a, fx, _, rfl, (s01.trans s2) _ _ ha, lkBup, _, ks, ps, as, rfl, hf.same (s01.trans s2), fun H3 s3 => ?_⟩⟩
        dsimp only
        rw [c1]
        exact ⟨_, rfl, iteT ⟨_, rfl, raised2 T.eN.o T.nN1 T.nN2 fun d H' s' e => er d H' (((s01.trans s2).trans s3).trans s') e⟩⟩
    refine via (t := tAnd _ _) (fun Q' k' => ?_) (fun H2 s2 => iteF ?_)
    · rcases hl with ⟨rfl, e⟩ | ⟨q, n, e, aq, nn⟩
      · refine ⟨_, rfl, rfl, _, rfl, ?_⟩
        rw [nonT rfl]
        exact iteF (k' H1 (Same.refl _))
      · refine ⟨_, rfl, rfl, _, rfl, ?_⟩
        rw [nonF aq.nn]
        obtain ⟨tt, b, ty, pr, eb⟩ := (aq.same s01).rb
        refine iteT ⟨_, rfl, lv, tt, b, rfl, ty, pr, fun H2 s2 => ?_⟩
        rw [← eb]
        refine ⟨_, rfl, iteT ⟨_, rfl, a, fx, _, rfl, (s01.trans s2) _ _ ha, lkBup, _, ks, ps, as, rfl, hf.same (s01.trans s2), fun H3 s3 => ?_⟩⟩
        dsimp only
        rw [up (by rw [e]; exact Option.some_ne_none _)]
        exact ⟨_, rfl, k' H3 (s2.trans s3)⟩
    have s02 := s01.trans s2
    -- most
    rcases bad with ⟨nn, bad, er⟩ | ⟨hi, hm, dn, bad⟩
    · refine ⟨_, rfl, rfl, _, rfl, ?_⟩
      rw [nonF nn]
      rcases bad with ⟨t, ty, nt, pr⟩ | ⟨⟨q, n, aq⟩, c1⟩
      · refine iteT ⟨_, rfl, mv, t, false, rfl, ty.same s02, fun _ => pr.same s02, fun H3 s3 => ?_⟩
        rw [nt, if_neg (by decide)]
        exact ⟨_, rfl, iteF (iteT ⟨_, rfl, raised2 T.eN.o T.nN1 T.nN2 fun d H' s' e => er d H' ((s02.trans s3).trans s') e⟩)⟩
      · obtain ⟨tt, b, ty, pr, eb⟩ := (aq.same s02).rb
        refine iteT ⟨_, rfl, mv, tt, b, rfl, ty, pr, fun H3 s3 => ?_⟩
        rw [← eb]
        refine ⟨_, rfl, iteT ⟨_, rfl, a, fx, _, rfl, (s02.trans s3) _ _ ha, lkBlo, _, ks, ps, as, rfl, hf.same (s02.trans s3), fun H4 s4 => ?_⟩⟩
        dsimp only
        rw [c1]
        exact ⟨_, rfl, iteT ⟨_, rfl, raised2 T.eN.o T.nN1 T.nN2 fun d H' s' e => er d H' (((s02.trans s3).trans s4).trans s') e⟩⟩
    refine via (t := tAnd _ _) (fun Q' k' => ?_) (fun H3 s3 => iteF ?_)
    · rcases hm with ⟨rfl, e⟩ | ⟨q, n, e, aq, nn⟩
      · refine ⟨_, rfl, rfl, _, rfl, ?_⟩
        rw [nonT rfl]
        exact iteF (k' H2 (Same.refl _))
      · refine ⟨_, rfl, rfl, _, rfl, ?_⟩
        rw [nonF aq.nn]
        obtain ⟨tt, b, ty, pr, eb⟩ := (aq.same s02).rb
        refine iteT ⟨_, rfl, mv, tt, b, rfl, ty, pr, fun H3 s3 => ?_⟩
        rw [← eb]
        refine ⟨_, rfl, iteT ⟨_, rfl, a, fx, _, rfl, (s02.trans s3) _ _ ha, lkBlo, _, ks, ps, as, rfl, hf.same (s02.trans s3), fun H4 s4 => ?_⟩⟩
        dsimp only
        rw [dn (by rw [e]; exact Option.some_ne_none _)]
        exact ⟨_, rfl, k' H4 (s3.trans s4)⟩
    have s03 := s02.trans s3
    -- both
    rcases bad with ⟨q, r, e1, e2, lt, er⟩ | ⟨e1, e2, er⟩
    · rcases hl with ⟨_, z⟩ | ⟨q', n, z, aq, nn⟩
      · rw [e1] at z
        cases z
      rw [e1] at z
      cases z
      rcases hm with ⟨_, z⟩ | ⟨r', n', z, ar, nn'⟩
      · rw [e2] at z
        cases z
      rw [e2] at z
      cases z
      refine ⟨_, rfl, rfl, _, rfl, ?_⟩
      rw [nonF aq.nn]
      refine iteT ⟨_, rfl, rfl, _, rfl, ?_⟩
      rw [nonF ar.nn]
      refine iteT ⟨_, rfl, _, rfl, mv, lv, rfl, .inl ⟨r, q, n', 4500, n, 4500, ar.same s03, aq.same s03, by decide, by decide, ⟨by omega, by decide⟩, fun v' H4 s4 ev => ?_⟩⟩
      subst ev
      rw [decide_eq_true lt]
      exact ⟨_, rfl, iteT ⟨_, rfl, raised2 T.eN.o T.nN1 T.nN2 fun d H' s' e => er d H' ((s03.trans s4).trans s') e⟩⟩
    · have l0 : lv = .non := by
        rcases hl with ⟨z, _⟩ | ⟨q, n, z, _⟩
        · exact z
        · rw [e1] at z
          cases z
      have m0 : mv = .non := by
        rcases hm with ⟨z, _⟩ | ⟨q, n, z, _⟩
        · exact z
        · rw [e2] at z
          cases z
      refine ⟨_, rfl, rfl, _, rfl, ?_⟩
      rw [nonT l0]
      refine iteF (iteF ⟨_, rfl, rfl, _, rfl, ?_⟩)
      rw [nonT l0]
      refine iteT ⟨_, rfl, rfl, _, rfl, ?_⟩
      rw [nonT m0]
      exact iteT (raised1 T.eU.o T.nU1 fun d H' s' e => er d H' (s03.trans s') e)
end
end Kz
set_option linter.all false
set_option maxRecDepth 100000
set_option maxHeartbeats 4000000
set_option pp.maxSteps 60
namespace Kz
open PySem PySem.Spec PyProof.Rows L2 Vl
/-- rows of told means with their functions -/
def TFs (cT : Addr) (H : Hp) (us fs : List V) : Prop := us.length = fs.length ∧ ∀ (i : Nat) (u f : V), us[i]? = some u → fs[i]? = some f → ∃ a dx l m, u = .ref a ∧ H a = some (.ins cT dx (toF f l m))
theorem TFs.same {cT : Addr} {H H' : Hp} {us fs : List V} (s : Same H H') (h : TFs cT H us fs) : TFs cT H' us fs := ⟨h.1, fun i u f a b => by
  obtain ⟨x, dx, l, m, e, g⟩ := h.2 i u f a b
  exact ⟨x, dx, l, m, e, s _ _ g⟩⟩
section
variable {P : Program} {w : World} {K : PySem.W.Frag} {mg : Str → Option Value} {base : Heap}
/-! ### is_within, either way -/
def inB (xs : List Rat) (l h : Rat) : Bool := !decide (cf xs 0 < l) && !decide (h < cf xs (xs.length - 1))
def spWi (K : PySem.W.Frag) (cS : Addr) : Sp := fun vs H Q _ => ∃ sv u v xs parts l h, vs = [sv, u, v] ∧ ShAt K cS H sv xs parts ∧ 0 < xs.length ∧ (∀ x ∈ xs, Mz 8 40 x) ∧ RV K H u l ∧ RV K H v h ∧ Mz 20 40 l ∧ Mz 20 40 h ∧ ∀ H', Same H H' → Q (.bl (inB xs l h)) H'
theorem ok_wi (T : Tg P K mg) : FnOk P w K mg base CX0 6 T.is_within.f T.is_within.fd ["share", "low", "high"] (spWi K T.cS) := by
  have G : FnOk P w K mg base (CX P w) 5 T.lower.f T.lower.fd ["one", "other"] (spTwo K T.cN cBin (fun _ v q r => v = .bl (decide (q < r)))) := ok_lower T.toTx
  refine T.is_within.fn.ok sc45g (fun vs H Q E h => ?_) (fun cdv A outer s H vs Q E hr h => ?_)
  · obtain ⟨sv, u, v, xs, parts, l, h, rfl, _⟩ := h
    rfl
  · obtain ⟨sv, u, v, xs, parts, lo, hi, rfl, ⟨a, dx, t1, t2, w1, w2, rfl, ha, h1, a1, h2, a2⟩, pos, zx, ru, rv, zl, zh, k⟩ := h
    refine ⟨_, pss_one (ps_ret (pe_and (pe_not (T.lower.cX G hr (pa_cons (pe_ix ix_tup (pe_fld (pv 0) (by rfl)) pe_int (fun _ _ => rfl)) (pa_cons (pv 1) pa_nil))))
      (pe_one (pe_not (T.lower.cX G hr (pa_cons (pv 2) (pa_cons (pe_ix ix_tup (pe_fld (pv 0) (by rfl)) (pe_un un_neg pe_int) (fun _ _ => rfl)) pa_nil))))))), ?_⟩
    have l1 := a1.1
    obtain ⟨v0, ev0, r0⟩ := a1.get (i := 0) pos
    obtain ⟨vl, evl, rl⟩ := a1.get (i := xs.length - 1) (by omega)
    have m0 : cf xs 0 ∈ xs := cf_mem pos
    have ml : cf xs (xs.length - 1) ∈ xs := cf_mem (by omega)
    refine ⟨_, rfl, a, T.cS, dx, _, _, rfl, ha, T.clS, T.nSh1, lkS1, t1, w1, _, _, rfl, rfl, h1, atI_nat (j := 0) ev0, ?_⟩
    refine ⟨_, rfl, v0, u, rfl, .inl ⟨_, _, 48, 40, 60, 40, r0.arg (zx _ m0).sz, ru.arg zl.sz, by decide, by decide, ⟨by decide, by decide⟩, fun b1 H1 s1 e1 => ?_⟩⟩
    subst e1
    unfold inB at k
    by_cases c : cf xs 0 < lo
    · rw [decide_eq_true c] at k ⊢
      exact ⟨_, rfl, _, rfl, iteF (k H1 s1)⟩
    rw [decide_eq_false c] at k ⊢
    refine ⟨_, rfl, _, rfl, iteT ⟨_, rfl, _, rfl, a, T.cS, dx, _, _, rfl, s1 _ _ ha, T.clS, T.nSh1, lkS1, _, rfl, t1, w1, _, _, rfl, rfl, Kz.Same.seqT s1 h1, atI_last (by rw [l1]; exact evl), ?_⟩⟩
    refine ⟨v, vl, rfl, .inl ⟨_, _, 60, 40, 48, 40, (rv.same s1).arg zh.sz, (rl.same s1).arg (zx _ ml).sz, by decide, by decide, ⟨by decide, by decide⟩, fun b2 H2 s2 e2 => ?_⟩⟩
    subst e2
    exact ⟨_, rfl, k H2 (s1.trans s2)⟩
/-- a share with a place off a function's stretch -/
def FarS (K : PySem.W.Frag) (cS : Addr) (H : Hp) (sv : V) (ks : List Rat) : Prop := ∃ xs parts, ShAt K cS H sv xs parts ∧ 0 < xs.length ∧ (∀ x ∈ xs, Mz 8 40 x) ∧ inB xs (cf ks 0) (cf ks (ks.length - 1)) = false
theorem FarS.same {cS : Addr} {H H' : Hp} {sv : V} {ks : List Rat} (s : Same H H') (h : FarS K cS H sv ks) : FarS K cS H' sv ks := by
  obtain ⟨xs, parts, a, r⟩ := h
  exact ⟨xs, parts, a.same s, r⟩
/-- knots that may be compared -/
def KsZ (ks : List Rat) : Prop := 0 < ks.length ∧ ∀ q ∈ ks, Mz 20 40 q
/-! ### the mean of a far share -/
def spMeanB (K : PySem.W.Frag) (cS cU cB cP : Addr) : Sp := fun vs H _ E => ∃ sv f ks ps as, vs = [sv, f] ∧ BrkAt K cB cP H f ks ps as ∧ KsZ ks ∧ FarS K cS H sv ks ∧ ErUj cU H E "place"
theorem sc49j : FnScope ["share", "function"] ["share", "function"] (defScope (top 49)) := ⟨rfl, rfl, rfl, by decide +kernel, rfl, by decide +kernel, by decide +kernel⟩
theorem ok_meanB (T : Tj P K mg) : FnOk P w K mg base (CX P w) 7 T.mean.f T.mean.fd ["share", "function"] (spMeanB K T.cS T.cU T.cB T.cP) := by
  have G : FnOk P w K mg base CX0 6 T.is_within.f T.is_within.fd ["share", "low", "high"] (spWi K T.cS) := ok_wi T.toTg
  refine T.mean.fn.okX sc49j (fun vs H Q E h => ?_) (fun cdv A outer s H vs Q E hr h => ?_)
  · obtain ⟨sv, f, ks, ps, as, rfl, _⟩ := h
    rfl
  · obtain ⟨sv, f, ks, ps, as, rfl, ⟨b, dx, t1, t2, t3, w1, us, w3, rfl, hb, h1, a1, _⟩, ⟨kp, kz⟩, ⟨xs, parts, sh, pos, zx, out⟩, er⟩ := h
    have tk := takes_of (X := cxOf (CX P w) P w K mg base ["share", "function"] "mean" (defScope (top 49)) T.mean.f cdv A outer s H E) (E := E) rfl rfl rfl rfl
    refine ⟨_, pss_cons (ps_if (pt_not (pt_val (T.is_within.c0 G hr (pa_cons (pv 0) (pa_cons (pe_ix ix_tup (pe_fld (pv 1) (by rfl)) pe_int (fun _ _ => rfl)) (pa_cons (pe_ix ix_tup (pe_fld (pv 1) (by rfl)) (pe_un un_neg pe_int) (fun _ _ => rfl)) pa_nil))))))
      (pss_one (ps_raise rfl tk (pmk_oex (CX := CX0) T.eU.o T.iU.i T.iU.t (ok_i6 T.iU.fn) (hr.mono (by decide)) T.bU .nil pass0 rfl T.eU.g (pa_cons pe_str pa_nil)))) pss_nil) pss_void, ?_⟩
    have l1 := a1.1
    obtain ⟨v0, ev0, r0⟩ := a1.get (i := 0) kp
    obtain ⟨vl, evl, rl⟩ := a1.get (i := ks.length - 1) (by omega)
    refine ⟨_, rfl, _, rfl, b, T.cB, dx, _, _, rfl, hb, T.clB, T.nB1, lkB1, t1, w1, _, _, rfl, rfl, h1, atI_nat (j := 0) ev0, ?_⟩
    refine ⟨_, rfl, b, T.cB, dx, _, _, rfl, hb, T.clB, T.nB1, lkB1, _, rfl, t1, w1, _, _, rfl, rfl, h1, atI_last (by rw [l1]; exact evl), ?_⟩
    refine ⟨sv, v0, vl, xs, parts, _, _, rfl, sh, pos, zx, r0, rl, kz _ (cf_mem kp), kz _ (cf_mem (by omega)), fun H1 s1 => ?_⟩
    rw [out]
    exact ⟨_, rfl, iteT (raised1 T.eU.o T.nU1 fun d H' s' e => er d H' (s1.trans s') e)⟩
/-! ### the functions of a row -/
def spFog (K : PySem.W.Frag) (cT : Addr) : Sp := fun vs H Q _ => ∃ a us fs, vs = [.ref a] ∧ (SqL K H a us ∨ SqT K H a us) ∧ TFs cT H us fs ∧ us.length ≤ 20 ∧ ∀ l H', Same H H' → SqL K H' l fs → Q (.ref l) H'
theorem ok_fog (T : Tg P K mg) : FnOk P w K mg base CX0 1 T.funcs_of.f T.funcs_of.fd ["rows"] (spFog K T.cT) := by
  refine T.funcs_of.fn.ok sc48g (fun vs H Q E h => ?_) (fun cdv A outer s H vs Q E hr h => ?_)
  · obtain ⟨a, us, fs, rfl, _⟩ := h
    rfl
  · obtain ⟨a, us, fs, rfl, hs, tr, len, k⟩ := h
    refine ⟨_, pss_one (ps_ret (pe_lc (own := [("row", 1)]) (g := gName 1) (tt := tYes) rfl sc48g.nd (pi_or (pi_list (pv 0)) (pi_tup (pv 0))) (blkOk_by (own := [("row", 1)]) (N := nFo) (sc := defScope (top 57)) (by decide +kernel))
        (fun _ _ _ _ _ => pg_name (i := 1) sc48g.nd rfl (Or.inl rfl)) (fun _ _ _ _ _ => pts_nil) (fun _ _ _ _ _ => pe_fldK (K' := K) (pv 1) (by rfl)))), ?_⟩
    have step : ∀ (i : Nat) (x : V), us[i]? = some x → ∀ (acc : List V) (H' : Hp) (Qk : VK), acc = fs.take i → Same H H' → (∀ v' H4, Same H' H4 → acc ++ [v'] = fs.take (i + 1) → Qk v' H4) →
        ∃ (a : Addr) (C dx : Addr) (gs : List (Str × V)) (v : V), x = .ref a ∧ H' a = some (.ins C dx gs) ∧ Cls K C ∧ NoAttr K C "function" ∧ gs.lookup ("function" : Str) = some v ∧ Qk v H' := by
      intro i x hx acc H' Qk r s1 kk
      have lt : i < fs.length := by
        have := (List.getElem?_eq_some_iff.mp hx).1
        have := tr.1
        omega
      obtain ⟨a', dx, l, m, rfl, ha⟩ := tr.2 i x _ hx (List.getElem?_eq_getElem lt)
      refine ⟨a', T.cT, dx, _, _, rfl, s1 _ _ ha, T.clT, T.nTo1, lkT1, kk _ H' (Same.refl _) ?_⟩
      rw [take_snoc (List.getElem?_eq_getElem lt), r]
    have fin : ∀ (D : Addr) acc H2, H2 D = some (.lst acc) → acc = fs.take us.length → Same H H2 → Q (.ref D) H2 := by
      intro D acc H2 hacc r s2
      rw [tr.1, List.take_length] at r
      exact k D H2 s2 (SqL.of (r ▸ hacc))
    rcases hs with hs | hs
    · refine .inl ⟨_, rfl, a, rfl, ⟨_, hs⟩, fun D hD => ?_⟩
      refine lc_mapL hs (by omega) hD (fun i acc _ => acc = fs.take i) bears_pure rfl ?_ ?_
      · rintro i x hx acc H' Qk Z la r s1 kk
        refine ⟨rfl, ?_⟩
        dsimp only [tYes]
        exact iteT ⟨_, rfl, step i x hx acc H' Qk r s1 kk⟩
      · rintro acc H2 hacc lacc r s2
        exact fin D acc H2 hacc r s2
    · refine .inr ⟨_, rfl, a, rfl, ⟨_, hs⟩, fun D hD => ?_⟩
      refine lc_mapT hs (by omega) hD (fun i acc _ => acc = fs.take i) bears_pure rfl ?_ ?_
      · rintro i x hx acc H' Qk Z la r s1 kk
        refine ⟨rfl, ?_⟩
        dsimp only [tYes]
        exact iteT ⟨_, rfl, step i x hx acc H' Qk r s1 kk⟩
      · rintro acc H2 hacc lacc r s2
        exact fin D acc H2 hacc r s2
end
end Kz
set_option linter.all false
set_option maxRecDepth 100000
set_option maxHeartbeats 4000000
set_option pp.maxSteps 400
namespace Kz
open PySem PySem.Spec PyProof.Rows L2
section
variable {P : Program} {w : World} {K : PySem.W.Frag} {mg : Str → Option Value} {base : Heap}
end
section
variable {P : Program} {w : World} {K : PySem.W.Frag} {mg : Str → Option Value} {base : Heap}
end
end Kz
set_option linter.all false
set_option maxRecDepth 100000
set_option maxHeartbeats 4000000
set_option pp.maxSteps 400
namespace Kz
open PySem PySem.Spec PyProof.Rows L2
section
variable {P : Program} {w : World} {K : PySem.W.Frag} {mg : Str → Option Value} {base : Heap}
/-- a share as it is drawn -/
structure DrS (x wd : Rat) (xs parts : List Rat) : Prop where
  so : ShOk xs parts
  asc : Asc xs
  inn : ∀ q ∈ xs, x ≤ q ∧ q ≤ x + wd
  wp : wpB parts = true
end
end Kz
set_option linter.all false
set_option maxRecDepth 100000
set_option maxHeartbeats 4000000
set_option pp.maxSteps 400
namespace Kz
open PySem PySem.Spec PyProof.Rows L2
section
variable {P : Program} {w : World} {K : PySem.W.Frag} {mg : Str → Option Value} {base : Heap}
end
end Kz
set_option linter.all false
set_option maxRecDepth 100000
set_option maxHeartbeats 4000000
set_option pp.maxSteps 400
namespace Kz
open PySem PySem.Spec PyProof.Rows L2
theorem Sq.off2 {K : PySem.W.Frag} {p c a : Addr} {n : Nat} {H H' : Hp} {us : List V} (b : But p H H') (pen : Pen H p c n) (h : SqL K H a us ∨ SqT K H a us) : SqL K H' a us ∨ SqT K H' a us := h.imp (pen.seqL b) (pen.seqT b)
theorem Rw.pen {K : PySem.W.Frag} {p c : Addr} {n : Nat} {H H' : Hp} {v : V} {qs : List Rat} (b : But p H H') (pen : Pen H p c n) (h : Rw K H v qs) : Rw K H' v qs := by
  obtain ⟨a, us, n', m, e, hs, al, r⟩ := h
  exact ⟨a, us, n', m, e, Sq.off2 b pen hs, pen.alA b al, r⟩
section
variable {P : Program} {w : World} {K : PySem.W.Frag} {mg : Str → Option Value} {base : Heap}
end
end Kz
set_option linter.all false
set_option maxRecDepth 100000
set_option maxHeartbeats 4000000
set_option pp.maxSteps 400
namespace Kz
open PySem PySem.Spec PyProof.Rows L2
section
variable {K : PySem.W.Frag} {a : Addr} {xs : List V} {g : TG} {te : TE} {vs : List Nat} {σ : L2.St} {H1 : Hp} {D p c : Addr} {n0 : Nat} {Qd : Hp → Prop}
end
/-- bounds passed so far -/
def BdR (K : PySem.W.Frag) (p c D : Addr) (n : Nat) (os : List (Option Rat)) (i : Nat) (acc : List V) (H : Hp) : Prop := Pen H p c (n + 3 * i) ∧ acc.length = i ∧ ∀ (j : Nat) (v : V) (o : Option Rat), acc[j]? = some v → os[j]? = some o → OA K H v o ∧ v ≠ .ref D
theorem BdR.bears {K : PySem.W.Frag} {p c D : Addr} {n : Nat} {os : List (Option Rat)} (nc : D ≠ c) : Bears D (BdR K p c D n os) := fun i acc H H' l b ⟨pn, la, h⟩ =>
  ⟨bear_pen l nc b pn, la, fun j v o e1 e2 => ⟨(h j v o e1 e2).1.imp id fun ⟨q, m, e, r, z⟩ => ⟨q, m, e, bear_argQ l (h j v o e1 e2).2 b r, z⟩, (h j v o e1 e2).2⟩⟩
theorem OA.pen {K : PySem.W.Frag} {p c : Addr} {n : Nat} {H H' : Hp} {v : V} {o : Option Rat} (b : But p H H') (pen : Pen H p c n) (h : OA K H v o) : OA K H' v o := h.imp id fun ⟨q, m, e, r, z⟩ => ⟨q, m, e, pen.argQ b r, z⟩
theorem OR.pen {K : PySem.W.Frag} {p c : Addr} {n : Nat} {H H' : Hp} {v : V} {o : Option Rat} (b : But p H H') (pen : Pen H p c n) (h : OR K H v o) : OR K H' v o := h.imp id fun ⟨q, e, r⟩ => ⟨q, e, pen.rv b r⟩
section
variable {P : Program} {w : World} {K : PySem.W.Frag} {mg : Str → Option Value} {base : Heap}
end
end Kz
set_option linter.all false
set_option maxRecDepth 100000
set_option maxHeartbeats 4000000
set_option pp.maxSteps 400
namespace Kz
open PySem PySem.Spec PyProof.Rows L2
/-- the bounds of a row about h -/
structure Bc (h d u : Rat) (lo hi : Option Rat) : Prop where
  l : lo = none ∨ lo = some (h + d)
  h : hi = none ∨ hi = some (h - u)
  so : lo ≠ none ∨ hi ≠ none
  le : ∀ a b, lo = some a → hi = some b → ¬ b < a
structure RowOk (ks xs parts : List Rat) (m : Rm) : Prop where
  rk : RmOk ks xs m
  bd : Bds ks m.ps m.as m.lo m.hi
  zl : ∀ q, m.lo = some q → Sz 9000 4498 q
  zh : ∀ q, m.hi = some q → Sz 9000 4498 q
  gz : Gsz (mnQ ks xs parts m) m
def GapV (K : PySem.W.Frag) (H : Hp) (v : V) : Prop := ∃ d, RV K H v d ∧ Mz 3 40 d
theorem GapV.same {K : PySem.W.Frag} {H H' : Hp} {v : V} (s : Same H H') (h : GapV K H v) : GapV K H' v := by
  obtain ⟨d, r, z⟩ := h
  exact ⟨d, r.same s, z⟩
theorem gap_of {K : PySem.W.Frag} {H : Hp} {a : Addr} {x : Int} {y : Nat} (q : Rat) (h : H a = some (.tup [.int x, .int (y : Int)])) (e1 : q.num = x) (e2 : q.den = y) (z : Mz 3 40 q) : GapV K H (.ref a) := by
  refine ⟨q, ⟨a, rfl, ?_⟩, z⟩
  rw [e1, e2]
  exact SqT.of h
section
variable {P : Program} {w : World} {K : PySem.W.Frag} {mg : Str → Option Value} {base : Heap}
end
end Kz
set_option linter.all false
set_option maxRecDepth 100000
set_option maxHeartbeats 4000000
set_option pp.maxSteps 400
namespace Kz
open PySem PySem.Spec PyProof.Rows L2
/-! ### the gap, as the law has it -/
section
variable {P : Program} {w : World} {K : PySem.W.Frag} {mg : Str → Option Value}
theorem fits_b3 (T : Tg P K mg) : Binds K T.ftd ["share", "rows", "bits"] [] := by
  obtain ⟨ds, hv, hb⟩ := T.ftF.binds1 (ps := ["share", "rows", "bits"]) 3 1 (by simp) rfl (fun Ta kV doc pm an cdv ct us its l1 l2 => by
    match us, l1, its, l2 with
    | [a, b, c], _, [d], _ => exact ⟨_, rfl, rfl⟩)
  cases hv
  exact hb
theorem fits_b2 (T : Tg P K mg) : ∃ ds, Vals [V.non] ds ∧ Binds K T.ftd ["share", "rows", "bits"] ds :=
  T.ftF.binds1 (ps := ["share", "rows", "bits"]) 2 0 (by simp) rfl (fun Ta kV doc pm an cdv ct us its l1 l2 => by
    match us, l1, its, l2 with
    | [a, b], _, [d], _ => exact ⟨_, rfl, rfl⟩)
end
end Kz
set_option linter.all false
set_option maxRecDepth 100000
set_option maxHeartbeats 4000000
set_option pp.maxSteps 60
namespace Kz
open PySem PySem.Spec PyProof.Rows L2 Vl
section
variable {P : Program} {w : World} {K : PySem.W.Frag} {mg : Str → Option Value} {base : Heap}
/-! ### unlike stretches -/
/-- two functions with other ends -/
def UnSt (K : PySem.W.Frag) (cB cP : Addr) (H : Hp) (f g : V) : Prop := ∃ ks ps as ks' ps' as', BrkAt K cB cP H f ks ps as ∧ BrkAt K cB cP H g ks' ps' as' ∧ 0 < ks.length ∧ 0 < ks'.length ∧ (cf ks' 0 ≠ cf ks 0 ∨ cf ks' (ks'.length - 1) ≠ cf ks (ks.length - 1))
theorem UnSt.same {cB cP : Addr} {H H' : Hp} {f g : V} (s : Same H H') (h : UnSt K cB cP H f g) : UnSt K cB cP H' f g := by
  obtain ⟨ks, ps, as, ks', ps', as', a, b, r⟩ := h
  exact ⟨ks, ps, as, ks', ps', as', a.same s, b.same s, r⟩
def spStB (K : PySem.W.Frag) (cU cB cP : Addr) : Sp := fun vs H _ E => ∃ a f g, vs = [.ref a] ∧ SqL K H a [f, g] ∧ UnSt K cB cP H f g ∧ ErUj cU H E "stretch"
theorem ok_stB (T : Tg P K mg) : FnOk P w K mg base (CX P w) 4 T.check_st.f T.check_st.fd ["functions"] (spStB K T.cU T.cB T.cP) := by
  refine T.check_st.fn.okX sc47g (fun vs H Q E h => ?_) (fun cdv A outer s H vs Q E hr h => ?_)
  · obtain ⟨a, f, g, rfl, _⟩ := h
    rfl
  · obtain ⟨a, f0, f1, rfl, hs, ⟨ks, ps, as, ks', ps', as', b0, b1, kp, kp', dif⟩, er⟩ := h
    have hu := hr.units
    have tk := takes_of (X := cxOf (CX P w) P w K mg base nSt "check_one_stretch" (defScope (top 56)) T.check_st.f cdv A outer s H E) (E := E) rfl rfl rfl rfl
    refine ⟨_, pss_one (ps_for (passes_of rfl) rfl (pi_list (pv 0)) (pg_name (i := 1) sc47g.nd rfl (.inl rfl))
      (pss_one (ps_if (PW.pt (pw_or (pt_cmpR (op_neDK (K' := K) hu) (pe_ix ix_tup (pe_fld (pv 1) (by rfl)) pe_int (fun _ _ => rfl)) (pe_ix ix_tup (pe_fld (pe_ix ix_list (pv 0) pe_int (fun _ _ => rfl)) (by rfl)) pe_int (fun _ _ => rfl)) (nomark _))
          (pw_or1 (pt_cmpR (op_neDK (K' := K) hu) (pe_ix ix_tup (pe_fld (pv 1) (by rfl)) (pe_un un_neg pe_int) (fun _ _ => rfl)) (pe_ix ix_tup (pe_fld (pe_ix ix_list (pv 0) pe_int (fun _ _ => rfl)) (by rfl)) (pe_un un_neg pe_int) (fun _ _ => rfl)) (nomark _)))))
        (pss_one (ps_raise rfl tk (pmk_oex (CX := CX0) T.eU.o T.iU.i T.iU.t (ok_i6 T.iU.fn) (hr.mono (by decide)) T.bU .nil pass0 rfl T.eU.g (pa_cons pe_str pa_nil)))) pss_nil))), ?_⟩
    obtain ⟨x0, dx, t1, t2, t3, w1, us, w3, rfl, hb, h1, a1, _⟩ := b0
    obtain ⟨x1, dx', t1', t2', t3', w1', us', w3', rfl, hb', h1', a1', _⟩ := b1
    have l1 := a1.1
    have l1' := a1'.1
    obtain ⟨v0, ev0, r0⟩ := a1.get (i := 0) kp
    obtain ⟨u0, eu0, q0⟩ := a1'.get (i := 0) kp'
    obtain ⟨vl, evl, rl⟩ := a1.get (i := ks.length - 1) (by omega)
    obtain ⟨ul, eul, ql⟩ := a1'.get (i := ks'.length - 1) (by omega)
    refine ⟨_, rfl, a, rfl, ⟨_, hs⟩, for_list (K := K) (a := a) (xs := [.ref x0, .ref x1]) (fun i σ H' => i < 2 ∧ H' = H ∧ ∃ v, σ = [some (.ref a), v]) ⟨by decide, rfl, _, rfl⟩ (fun i σ H' _ ⟨_, e, _⟩ => e ▸ hs) ?_ ?_⟩
    · rintro i f σ H' hf ⟨i2, rfl, v, rfl⟩
      match i, i2, hf with
      | 0, _, hf =>
        cases hf
        refine ⟨_, rfl, x0, T.cB, dx, _, _, rfl, hb, T.clB, T.nB1, lkB1, t1, w1, _, _, rfl, rfl, h1, atI_nat (j := 0) ev0, ?_⟩
        refine ⟨_, rfl, a, _, _, _, rfl, rfl, hs, atI_nat (j := 0) rfl, x0, T.cB, dx, _, _, rfl, hb, T.clB, T.nB1, lkB1, t1, w1, _, _, rfl, rfl, h1, atI_nat (j := 0) ev0, ?_⟩
        refine ⟨_, _, r0.dp, r0.dp, pdQ_shaped _, pdQ_shaped _, ?_⟩
        rw [eqv_pdQ, decide_eq_true rfl]
        refine ⟨_, rfl, iteF ?_⟩
        refine ⟨_, rfl, x0, T.cB, dx, _, _, rfl, hb, T.clB, T.nB1, lkB1, _, rfl, t1, w1, _, _, rfl, rfl, h1, atI_last (by rw [l1]; exact evl), ?_⟩
        refine ⟨_, rfl, a, _, _, _, rfl, rfl, hs, atI_nat (j := 0) rfl, x0, T.cB, dx, _, _, rfl, hb, T.clB, T.nB1, lkB1, _, rfl, t1, w1, _, _, rfl, rfl, h1, atI_last (by rw [l1]; exact evl), ?_⟩
        refine ⟨_, _, rl.dp, rl.dp, pdQ_shaped _, pdQ_shaped _, ?_⟩
        rw [eqv_pdQ, decide_eq_true rfl]
        exact ⟨_, rfl, iteF ⟨by decide, rfl, _, rfl⟩⟩
      | 1, _, hf =>
        cases hf
        refine ⟨_, rfl, x1, T.cB, dx', _, _, rfl, hb', T.clB, T.nB1, lkB1, t1', w1', _, _, rfl, rfl, h1', atI_nat (j := 0) eu0, ?_⟩
        refine ⟨_, rfl, a, _, _, _, rfl, rfl, hs, atI_nat (j := 0) rfl, x0, T.cB, dx, _, _, rfl, hb, T.clB, T.nB1, lkB1, t1, w1, _, _, rfl, rfl, h1, atI_nat (j := 0) ev0, ?_⟩
        refine ⟨_, _, q0.dp, r0.dp, pdQ_shaped _, pdQ_shaped _, ?_⟩
        rw [eqv_pdQ]
        by_cases c : cf ks' 0 = cf ks 0
        · rw [decide_eq_true c]
          refine ⟨_, rfl, iteF ?_⟩
          refine ⟨_, rfl, x1, T.cB, dx', _, _, rfl, hb', T.clB, T.nB1, lkB1, _, rfl, t1', w1', _, _, rfl, rfl, h1', atI_last (by rw [l1']; exact eul), ?_⟩
          refine ⟨_, rfl, a, _, _, _, rfl, rfl, hs, atI_nat (j := 0) rfl, x0, T.cB, dx, _, _, rfl, hb, T.clB, T.nB1, lkB1, _, rfl, t1, w1, _, _, rfl, rfl, h1, atI_last (by rw [l1]; exact evl), ?_⟩
          refine ⟨_, _, ql.dp, rl.dp, pdQ_shaped _, pdQ_shaped _, ?_⟩
          rw [eqv_pdQ, decide_eq_false (dif.resolve_left fun z => z c)]
          exact ⟨_, rfl, iteT (raised1 T.eU.o T.nU1 fun d H' s' e => er d H' s' e)⟩
        · rw [decide_eq_false c]
          exact ⟨_, rfl, iteT (iteT (raised1 T.eU.o T.nU1 fun d H' s' e => er d H' s' e))⟩
    · rintro σ H' ⟨i2, _⟩
      exact absurd i2 (Nat.lt_irrefl 2)
/-! ### places beyond -/
/-- a row's first told mean, with a share off its stretch -/
def spCpB (K : PySem.W.Frag) (cS cT cU cB cP : Addr) : Sp := fun vs H _ E => ∃ sv a u us ks ps as lo hi, vs = [sv, .ref a] ∧ (SqL K H a (u :: us) ∨ SqT K H a (u :: us)) ∧ ToAt K cT cB cP H u ks ps as lo hi ∧ KsZ ks ∧ FarS K cS H sv ks ∧ ErUj cU H E "place"
theorem ok_cpB (T : Tg P K mg) : FnOk P w K mg base (CX P w) 7 T.check_pl.f T.check_pl.fd ["share", "rows"] (spCpB K T.cS T.cT T.cU T.cB T.cP) := by
  have G : FnOk P w K mg base CX0 6 T.is_within.f T.is_within.fd ["share", "low", "high"] (spWi K T.cS) := ok_wi T
  refine T.check_pl.fn.okX sc50g (fun vs H Q E h => ?_) (fun cdv A outer s H vs Q E hr h => ?_)
  · obtain ⟨sv, a, u, us, ks, ps, as, lo, hi, rfl, _⟩ := h
    rfl
  · obtain ⟨sv, a, u, us, ks, ps, as, lo, hi, rfl, hs, ⟨ta, tx, f, lv, hv, rfl, hta, ⟨b, dx, t1, t2, t3, w1, vs2, w3, rfl, hbb, h1, a1, _⟩, _⟩, ⟨kp, kz⟩, ⟨xs, parts, sh, pos, zx, out⟩, er⟩ := h
    have tk := takes_of (X := cxOf (CX P w) P w K mg base nCp "check_places" (defScope (top 59)) T.check_pl.f cdv A outer s H E) (E := E) rfl rfl rfl rfl
    refine ⟨_, pss_one (ps_if (pt_cmpR op_gt (pe_callB call_len_seq (by rfl) T.blt.len PySem.boot_len (pa_cons (pv 1) pa_nil)) pe_int (nomark _))
        (pss_cons (ps_set (i := 2) sc50g.nd rfl (.inl rfl) (pe_fld (pe_fld (pe_ix ix_seq (pv 1) pe_int (fun _ _ => rfl)) (by rfl)) (by rfl)))
        (pss_one (ps_if (pt_not (pt_val (T.is_within.c0 G hr (pa_cons (pv 0) (pa_cons (pe_ix ix_tup (pv 2) pe_int (fun _ _ => rfl)) (pa_cons (pe_ix ix_tup (pv 2) (pe_un un_neg pe_int) (fun _ _ => rfl)) pa_nil))))))
          (pss_one (ps_raise rfl tk (pmk_oex (CX := CX0) T.eU.o T.iU.i T.iU.t (ok_i6 T.iU.fn) (hr.mono (by decide)) T.bU .nil pass0 rfl T.eU.g (pa_cons pe_str pa_nil)))) pss_nil))) pss_nil), ?_⟩
    have l1 := a1.1
    obtain ⟨v0, ev0, r0⟩ := a1.get (i := 0) kp
    obtain ⟨vl, evl, rl⟩ := a1.get (i := ks.length - 1) (by omega)
    refine ⟨_, rfl, a, _, rfl, hs, _, _, rfl, rfl, _, rfl, ?_⟩
    rw [decide_eq_true (show (((V.ref ta :: us).length : Nat) : Int) > 0 by rw [List.length_cons]; omega)]
    refine iteT ⟨_, rfl, Sq.ix hs (atI_nat (j := 0) rfl) ?_⟩
    refine ⟨ta, T.cT, tx, _, _, rfl, hta, T.clT, T.nTo1, lkT1, b, T.cB, dx, _, _, rfl, hbb, T.clB, T.nB1, lkB1, ?_⟩
    refine ⟨_, rfl, _, rfl, t1, w1, _, _, rfl, rfl, h1, atI_nat (j := 0) ev0, _, rfl, _, rfl, t1, w1, _, _, rfl, rfl, h1, atI_last (by rw [l1]; exact evl), ?_⟩
    refine ⟨sv, v0, vl, xs, parts, _, _, rfl, sh, pos, zx, r0, rl, kz _ (cf_mem kp), kz _ (cf_mem (by omega)), fun H1 s1 => ?_⟩
    rw [out]
    exact ⟨_, rfl, iteT (raised1 T.eU.o T.nU1 fun d H' s' e => er d H' (s1.trans s') e)⟩
/-- no rows, no error -/
def spCp0 (K : PySem.W.Frag) : Sp := fun vs H Q _ => ∃ sv a, vs = [sv, .ref a] ∧ (SqL K H a [] ∨ SqT K H a []) ∧ Q .non H
theorem ok_cp0 (T : Tg P K mg) : FnOk P w K mg base (CX P w) 7 T.check_pl.f T.check_pl.fd ["share", "rows"] (spCp0 K) := by
  have G : FnOk P w K mg base CX0 6 T.is_within.f T.is_within.fd ["share", "low", "high"] (spWi K T.cS) := ok_wi T
  refine T.check_pl.fn.okX sc50g (fun vs H Q E h => ?_) (fun cdv A outer s H vs Q E hr h => ?_)
  · obtain ⟨sv, a, rfl, _⟩ := h
    rfl
  · obtain ⟨sv, a, rfl, hs, k⟩ := h
    have tk := takes_of (X := cxOf (CX P w) P w K mg base nCp "check_places" (defScope (top 59)) T.check_pl.f cdv A outer s H E) (E := E) rfl rfl rfl rfl
    refine ⟨_, pss_one (ps_if (pt_cmpR op_gt (pe_callB call_len_seq (by rfl) T.blt.len PySem.boot_len (pa_cons (pv 1) pa_nil)) pe_int (nomark _))
        (pss_cons (ps_set (i := 2) sc50g.nd rfl (.inl rfl) (pe_fld (pe_fld (pe_ix ix_seq (pv 1) pe_int (fun _ _ => rfl)) (by rfl)) (by rfl)))
        (pss_one (ps_if (pt_not (pt_val (T.is_within.c0 G hr (pa_cons (pv 0) (pa_cons (pe_ix ix_tup (pv 2) pe_int (fun _ _ => rfl)) (pa_cons (pe_ix ix_tup (pv 2) (pe_un un_neg pe_int) (fun _ _ => rfl)) pa_nil))))))
          (pss_one (ps_raise rfl tk (pmk_oex (CX := CX0) T.eU.o T.iU.i T.iU.t (ok_i6 T.iU.fn) (hr.mono (by decide)) T.bU .nil pass0 rfl T.eU.g (pa_cons pe_str pa_nil)))) pss_nil))) pss_nil), ?_⟩
    refine ⟨_, rfl, a, _, rfl, hs, _, _, rfl, rfl, _, rfl, ?_⟩
    exact iteF k
/-! ### wrong bits -/
def BitBad (K : PySem.W.Frag) (H : Hp) (v : V) : Prop := (∃ t, TyN K H v t ∧ (t == "int") = false) ∨ ∃ i : Int, v = .int i ∧ (i < 0 ∨ 60 < i)
theorem BitBad.same {H H' : Hp} {v : V} (s : Same H H') (h : BitBad K H v) : BitBad K H' v := h.imp (fun ⟨t, a, b⟩ => ⟨t, a.same s, b⟩) id
def spGpB (K : PySem.W.Frag) (cN : Addr) : Sp := fun vs H _ E => ∃ v, vs = [v] ∧ BitBad K H v ∧ ErN cN H E "bits" v
theorem ok_gpB (T : Tg P K mg) : FnOk P w K mg base (CX P w) 4 T.gap_of.f T.gap_of.fd ["bits"] (spGpB K T.cN) := by
  have G : FnOk P w K mg base CX0 1 T.is_whole.f T.is_whole.fd ["value"] (spWhole K) := ok_whole T.toTx
  refine T.gap_of.fn.okX sc16g (fun vs H Q E h => ?_) (fun cdv A outer s H vs Q E hr h => ?_)
  · obtain ⟨v, rfl, _⟩ := h
    rfl
  · obtain ⟨v, rfl, bad, er⟩ := h
    have hr1 : Room 1 _ := hr.mono (by decide)
    have tk := takes_of (X := cxOf (CX P w) P w K mg base ["bits"] "gap_of" (defScope (top 17)) T.gap_of.f cdv A outer s H E) (E := E) rfl rfl rfl rfl
    refine ⟨_, pss_cons (ps_if (PW.pt (pw_or (pt_not (pt_val (T.is_whole.c0 G hr1 (pa_cons (pv 0) pa_nil)))) (pw_or (pt_cmpR op_lt (pv 0) pe_int (nomark _)) (pw_or1 (pt_cmpR op_gt (pv 0) pe_int (nomark _))))))
        (pss_one (ps_raise rfl tk (pmk_oex (CX := CX0) T.eN.o T.iN.i T.iN.t (ok_i3 T.iN.fn) (hr.mono (by decide)) T.bN .nil pass0 rfl T.eN.g (pa_cons pe_str (pa_cons (pv 0) pa_nil))))) pss_nil) pss_void, ?_⟩
    rcases bad with ⟨t, ty, nt⟩ | ⟨i, rfl, out⟩
    · refine ⟨_, rfl, v, t, rfl, ty, ?_⟩
      rw [nt]
      exact ⟨_, rfl, iteT (iteT ⟨_, rfl, raised2 T.eN.o T.nN1 T.nN2 fun d H' s' e => er d H' s' e⟩)⟩
    · refine ⟨_, rfl, _, "int", rfl, ty_int, _, rfl, iteF ⟨_, rfl, _, _, rfl, rfl, _, rfl, ?_⟩⟩
      by_cases c : i < 0
      · rw [decide_eq_true c]
        exact iteT (iteT ⟨_, rfl, raised2 T.eN.o T.nN1 T.nN2 fun d H' s' e => er d H' s' e⟩)
      · rw [decide_eq_false c]
        refine iteF ⟨_, rfl, _, _, rfl, rfl, _, rfl, ?_⟩
        rw [decide_eq_true (show i > 60 by omega)]
        exact iteT ⟨_, rfl, raised2 T.eN.o T.nN1 T.nN2 fun d H' s' e => er d H' s' e⟩
end
end Kz
set_option linter.all false
set_option maxRecDepth 100000
set_option maxHeartbeats 4000000
set_option pp.maxSteps 60
namespace Kz
open PySem PySem.Spec PyProof.Rows L2 Vl
theorem TFs.nil {cT : Addr} {H : Hp} : TFs cT H [] [] := ⟨rfl, fun i u f a _ => by cases a⟩
theorem ToAt.tf {K : PySem.W.Frag} {cT cB cP : Addr} {H : Hp} {u : V} {ks as : List Rat} {ps : List (List Rat)} {lo hi : Option Rat} (h : ToAt K cT cB cP H u ks ps as lo hi) : ∃ f, TFs cT H [u] [f] ∧ BrkAt K cB cP H f ks ps as ∧ KnF H f := by
  obtain ⟨a, dx, f, l, m, rfl, ha, hb, hn, _⟩ := h
  refine ⟨f, ⟨rfl, fun i u g e1 e2 => ?_⟩, hb, hn⟩
  match i, e1, e2 with
  | 0, e1, e2 =>
    cases e1
    cases e2
    exact ⟨a, dx, l, m, rfl, ha⟩
  | i + 1, e1, e2 => cases e1
section
variable {P : Program} {w : World} {K : PySem.W.Frag} {mg : Str → Option Value} {base : Heap}
/-! ### the means of no functions -/
def spMo0 (K : PySem.W.Frag) : Sp := fun vs H Q _ => ∃ sv a, vs = [sv, .ref a] ∧ SqL K H a [] ∧ ∀ l H', Same H H' → SqL K H' l [] → Q (.ref l) H'
theorem ok_mo0 (T : Tg P K mg) : FnOk P w K mg base CX0 9 T.means_of.f T.means_of.fd ["share", "functions"] (spMo0 K) := by
  have Gv : FnOk P w K mg base (CX P w) 7 T.b_value.f T.b_value.fd ["self", "x"] (spBval K T.cB T.cP T.cN) := ok_bval T.toTb
  have Gj : FnOk P w K mg base CX0 3 T.jsum.f T.jsum.fd ["row", "amounts"] (spJ1 K) := ok_j1 T
  refine T.means_of.fn.ok sc46g (fun vs H Q E h => ?_) (fun cdv A outer s H vs Q E hr h => ?_)
  · obtain ⟨sv, a, rfl, _⟩ := h
    rfl
  · obtain ⟨sv, a, rfl, hs, k⟩ := h
    have hr7 : Room 7 _ := hr.mono (by decide)
    have hr3 : Room 3 _ := hr.mono (by decide)
    refine ⟨_, pss_one (ps_ret (pe_lc (own := [("f", 2)]) (g := gName 2) (tt := tYes) rfl sc46g.nd (pi_list (pv 1)) (blkOk_by (own := [("f", 2)]) (N := nMn) (sc := defScope (top 48)) (by decide +kernel))
        (fun _ _ _ _ _ => pg_name (i := 2) sc46g.nd rfl (Or.inr rfl)) (fun _ _ _ _ _ => pts_nil)
        (fun _ _ _ _ _ => T.jsum.c0 Gj hr3 (pa_cons (pe_lc (own := [("place", 3)]) (g := gName 3) (tt := tYes) rfl sc46g.nd (pi_tupK (K' := K) (pe_fldK (K' := K) (pv 0) (by rfl))) (blkOk_by (own := [("place", 3)]) (N := nMn) (sc := relS scMo (defScope (top 48))) (by decide +kernel))
            (fun _ _ _ _ _ => pg_name (i := 3) sc46g.nd rfl (Or.inl rfl)) (fun _ _ _ _ _ => pts_nil)
            (fun _ _ _ _ _ => pe_meth (pv 2) T.clB T.b_value.me Gv hr7 T.b_value.b .nil passL (pa_cons (pv 3) pa_nil)))
          (pa_cons (pe_fldK (K' := K) (pv 0) (by rfl)) pa_nil))))), ?_⟩
    refine ⟨_, rfl, a, rfl, ⟨_, hs⟩, fun D hD => ?_⟩
    refine lc_mapL hs (by decide) hD (fun i acc _ => True) bears_pure trivial ?_ ?_
    · rintro i x hx
      cases hx
    · rintro acc H2 hacc lacc _ s2
      have e : acc = [] := List.eq_nil_of_length_eq_zero lacc
      subst e
      exact k D H2 s2 (SqL.of hacc)
/-! ### missed: the three ways -/
/-- the first told mean of a row, and what becomes of it -/
def spMiS (K : PySem.W.Frag) (cT cU cB cP : Addr) : Sp := fun vs H _ E => ∃ sv a u v f g, vs = [sv, .ref a] ∧ (SqL K H a [u, v] ∨ SqT K H a [u, v]) ∧ TFs cT H [u, v] [f, g] ∧ UnSt K cB cP H f g ∧ ErUj cU H E "stretch"
theorem ok_miS (T : Tg P K mg) : FnOk P w K mg base (CX P w) 8 T.missed.f T.missed.fd ["share", "rows"] (spMiS K T.cT T.cU T.cB T.cP) := by
  have G1 : FnOk P w K mg base CX0 1 T.funcs_of.f T.funcs_of.fd ["rows"] (spFog K T.cT) := ok_fog T
  have G2 : FnOk P w K mg base (CX P w) 4 T.check_st.f T.check_st.fd ["functions"] (spStB K T.cU T.cB T.cP) := ok_stB T
  refine T.missed.fn.okX sc51g (fun vs H Q E h => ?_) (fun cdv A outer s H vs Q E hr h => ?_)
  · obtain ⟨sv, a, u, v, f, g, rfl, _⟩ := h
    rfl
  · obtain ⟨sv, a, u, v, f, g, rfl, hs, tf, un, er⟩ := h
    have hr1 : Room 1 _ := hr.mono (by decide)
    have hr4 : Room 4 _ := hr.mono (by decide)
    have tk := takes_of (X := cxOf (CX P w) P w K mg base ["share", "rows"] "missed" (defScope (top 60)) T.missed.f cdv A outer s H E) (E := E) rfl rfl rfl rfl
    refine ⟨_, pss_cons (ps_expr (T.check_st.cS G2 hr4 tk (pa_cons (T.funcs_of.c0 G1 hr1 (pa_cons (pv 1) pa_nil)) pa_nil))) pss_void, ?_⟩
    exact ⟨_, rfl, a, _, _, rfl, hs, tf, by show 2 ≤ 20; decide, fun l H1 s1 hl => ⟨l, f, g, rfl, hl, un.same s1, er.after s1⟩⟩
/-- one told mean, and a share off its stretch -/
def spMiP (K : PySem.W.Frag) (cS cT cU cB cP : Addr) : Sp := fun vs H _ E => ∃ sv a u ks ps as lo hi, vs = [sv, .ref a] ∧ (SqL K H a [u] ∨ SqT K H a [u]) ∧ ToAt K cT cB cP H u ks ps as lo hi ∧ KsZ ks ∧ FarS K cS H sv ks ∧ ErUj cU H E "place"
theorem ok_miP (T : Tg P K mg) : FnOk P w K mg base (CX P w) 8 T.missed.f T.missed.fd ["share", "rows"] (spMiP K T.cS T.cT T.cU T.cB T.cP) := by
  have G1 : FnOk P w K mg base CX0 1 T.funcs_of.f T.funcs_of.fd ["rows"] (spFog K T.cT) := ok_fog T
  have G2 : FnOk P w K mg base (CX P w) 4 T.check_st.f T.check_st.fd ["functions"] (spSt K T.cB T.cP) := ok_st T
  have G3 : FnOk P w K mg base (CX P w) 7 T.check_pl.f T.check_pl.fd ["share", "rows"] (spCpB K T.cS T.cT T.cU T.cB T.cP) := ok_cpB T
  refine T.missed.fn.okX sc51g (fun vs H Q E h => ?_) (fun cdv A outer s H vs Q E hr h => ?_)
  · obtain ⟨sv, a, u, ks, ps, as, lo, hi, rfl, _⟩ := h
    rfl
  · obtain ⟨sv, a, u, ks, ps, as, lo, hi, rfl, hs, to, kz, far, er⟩ := h
    have hr1 : Room 1 _ := hr.mono (by decide)
    have hr4 : Room 4 _ := hr.mono (by decide)
    have tk := takes_of (X := cxOf (CX P w) P w K mg base ["share", "rows"] "missed" (defScope (top 60)) T.missed.f cdv A outer s H E) (E := E) rfl rfl rfl rfl
    refine ⟨_, pss_cons (ps_expr (T.check_st.cX G2 hr4 (pa_cons (T.funcs_of.c0 G1 hr1 (pa_cons (pv 1) pa_nil)) pa_nil)))
      (pss_cons (ps_expr (T.check_pl.cS G3 hr tk (pa_cons (pv 0) (pa_cons (pv 1) pa_nil)))) pss_void), ?_⟩
    obtain ⟨f, tf, hb, hn⟩ := to.tf
    refine ⟨_, rfl, a, _, _, rfl, hs, tf, by show 1 ≤ 20; decide, fun l H1 s1 hl => ?_⟩
    refine ⟨l, [f], ks, [⟨ps, as, lo, hi⟩], rfl, hl, FRs.nil.snoc (m := ⟨ps, as, lo, hi⟩) (hb.same s1) (hn.same s1), kz.1, ?_⟩
    exact ⟨_, rfl, _, rfl, sv, a, u, [], ks, ps, as, lo, hi, rfl, Sq.same2 s1 hs, to.same s1, kz, far.same s1, er.after s1⟩
/-- no rows -/
def spMi0 (K : PySem.W.Frag) : Sp := fun vs H Q _ => ∃ sv a, vs = [sv, .ref a] ∧ (SqL K H a [] ∨ SqT K H a []) ∧ ∀ v H', Same H H' → RV K H' v 0 → Q v H'
theorem ok_mi0 (T : Tg P K mg) : FnOk P w K mg base CX0 10 T.missed.f T.missed.fd ["share", "rows"] (spMi0 K) := by
  have G1 : FnOk P w K mg base CX0 1 T.funcs_of.f T.funcs_of.fd ["rows"] (spFog K T.cT) := ok_fog T
  have G2 : FnOk P w K mg base (CX P w) 4 T.check_st.f T.check_st.fd ["functions"] (spSt K T.cB T.cP) := ok_st T
  have G3 : FnOk P w K mg base (CX P w) 7 T.check_pl.f T.check_pl.fd ["share", "rows"] (spCp0 K) := ok_cp0 T
  have G4 : FnOk P w K mg base CX0 9 T.means_of.f T.means_of.fd ["share", "functions"] (spMo0 K) := ok_mo0 T
  have G5 : FnOk P w K mg base CX0 6 T.gap_missed.f T.gap_missed.fd ["found", "rows"] (spGm K T.cT T.cB T.cP) := ok_gm T
  refine T.missed.fn.ok sc51g (fun vs H Q E h => ?_) (fun cdv A outer s H vs Q E hr h => ?_)
  · obtain ⟨sv, a, rfl, _⟩ := h
    rfl
  · obtain ⟨sv, a, rfl, hs, k⟩ := h
    have hr1 : Room 1 _ := hr.mono (by decide)
    have hr4 : Room 4 _ := hr.mono (by decide)
    have hr6 : Room 6 _ := hr.mono (by decide)
    have hr7 : Room 7 _ := hr.mono (by decide)
    refine ⟨_, pss_cons (ps_expr (T.check_st.cX G2 hr4 (pa_cons (T.funcs_of.c0 G1 hr1 (pa_cons (pv 1) pa_nil)) pa_nil)))
      (pss_cons (ps_expr (T.check_pl.cX G3 hr7 (pa_cons (pv 0) (pa_cons (pv 1) pa_nil))))
      (pss_one (ps_ret (T.gap_missed.c0 G5 hr6 (pa_cons (T.means_of.c0 G4 hr (pa_cons (pv 0) (pa_cons (T.funcs_of.c0 G1 hr1 (pa_cons (pv 1) pa_nil)) pa_nil))) (pa_cons (pv 1) pa_nil)))))), ?_⟩
    refine ⟨_, rfl, a, _, _, rfl, hs, TFs.nil, by decide, fun l H1 s1 hl1 => ?_⟩
    refine ⟨l, [], [0], [], rfl, hl1, FRs.nil, by decide, ?_⟩
    refine ⟨_, rfl, _, rfl, sv, a, rfl, Sq.same2 s1 hs, ?_⟩
    refine ⟨_, rfl, _, rfl, a, _, _, rfl, Sq.same2 s1 hs, TFs.nil, by decide, fun l2 H3 s3 hl3 => ?_⟩
    have s13 := s1.trans s3
    refine ⟨sv, l2, rfl, hl3, fun l4 H4 s4 hl4 => ?_⟩
    have s14 := s13.trans s4
    exact ⟨_, rfl, l4, a, [], [], [], [0], [], rfl, hl4, Al.nil, Sq.same2 s14 hs, ⟨rfl, fun i u m e _ => by cases e⟩, rfl, fun i q m e _ => (by cases e), fun v H5 s5 rv => k v H5 (s14.trans s5) rv⟩
end
end Kz
set_option linter.all false
set_option maxRecDepth 100000
set_option maxHeartbeats 4000000
set_option pp.maxSteps 60
namespace Kz
open PySem PySem.Spec PyProof.Rows L2 Vl
section
variable {P : Program} {w : World} {K : PySem.W.Frag} {mg : Str → Option Value} {base : Heap}
/-! ### fits: the four ways -/
def spFiS (K : PySem.W.Frag) (cT cU cB cP : Addr) : Sp := fun vs H _ E => ∃ sv a u v f g b, vs = [sv, .ref a, b] ∧ (SqL K H a [u, v] ∨ SqT K H a [u, v]) ∧ TFs cT H [u, v] [f, g] ∧ UnSt K cB cP H f g ∧ ErUj cU H E "stretch"
theorem ok_fiS (T : Tg P K mg) : FnOk P w K mg base (CX P w) 8 T.ft T.ftd ["share", "rows", "bits"] (spFiS K T.cT T.cU T.cB T.cP) := by
  have G1 : FnOk P w K mg base CX0 1 T.funcs_of.f T.funcs_of.fd ["rows"] (spFog K T.cT) := ok_fog T
  have G2 : FnOk P w K mg base (CX P w) 4 T.check_st.f T.check_st.fd ["functions"] (spStB K T.cU T.cB T.cP) := ok_stB T
  refine T.ftF.ok sc52g (fun vs H Q E h => ?_) (fun cdv A outer s H vs Q E hr h => ?_)
  · obtain ⟨sv, a, u, v, f, g, b, rfl, _⟩ := h
    rfl
  · obtain ⟨sv, a, u, v, f, g, b, rfl, hs, tf, un, er⟩ := h
    have hr1 : Room 1 _ := hr.mono (by decide)
    have hr4 : Room 4 _ := hr.mono (by decide)
    have tk := takes_of (X := cxOf (CX P w) P w K mg base nFit "fits" (defScope (top 61)) T.ft cdv A outer s H E) (E := E) rfl rfl rfl rfl
    refine ⟨_, pss_cons (ps_expr (T.check_st.cS G2 hr4 tk (pa_cons (T.funcs_of.c0 G1 hr1 (pa_cons (pv 1) pa_nil)) pa_nil))) pss_void, ?_⟩
    exact ⟨_, rfl, a, _, _, rfl, hs, tf, by show 2 ≤ 20; decide, fun l H1 s1 hl => ⟨l, f, g, rfl, hl, un.same s1, er.after s1⟩⟩
def spFiB (K : PySem.W.Frag) (cN cT cB cP : Addr) : Sp := fun vs H _ E => ∃ sv a u ks ps as lo hi b, vs = [sv, .ref a, b] ∧ (SqL K H a [u] ∨ SqT K H a [u]) ∧ ToAt K cT cB cP H u ks ps as lo hi ∧ 0 < ks.length ∧ b ≠ .non ∧ BitBad K H b ∧ ErN cN H E "bits" b
theorem ok_fiB (T : Tg P K mg) : FnOk P w K mg base (CX P w) 8 T.ft T.ftd ["share", "rows", "bits"] (spFiB K T.cN T.cT T.cB T.cP) := by
  have G1 : FnOk P w K mg base CX0 1 T.funcs_of.f T.funcs_of.fd ["rows"] (spFog K T.cT) := ok_fog T
  have G2 : FnOk P w K mg base (CX P w) 4 T.check_st.f T.check_st.fd ["functions"] (spSt K T.cB T.cP) := ok_st T
  have G6 : FnOk P w K mg base (CX P w) 4 T.gap_of.f T.gap_of.fd ["bits"] (spGpB K T.cN) := ok_gpB T
  refine T.ftF.ok sc52g (fun vs H Q E h => ?_) (fun cdv A outer s H vs Q E hr h => ?_)
  · obtain ⟨sv, a, u, ks, ps, as, lo, hi, b, rfl, _⟩ := h
    rfl
  · obtain ⟨sv, a, u, ks, ps, as, lo, hi, b, rfl, hs, to, kp, nb, bad, er⟩ := h
    have hr1 : Room 1 _ := hr.mono (by decide)
    have hr4 : Room 4 _ := hr.mono (by decide)
    have tk := takes_of (X := cxOf (CX P w) P w K mg base nFit "fits" (defScope (top 61)) T.ft cdv A outer s H E) (E := E) rfl rfl rfl rfl
    refine ⟨_, pss_cons (ps_expr (T.check_st.cX G2 hr4 (pa_cons (T.funcs_of.c0 G1 hr1 (pa_cons (pv 1) pa_nil)) pa_nil)))
      (pss_cons (ps_set (i := 3) sc52g.nd rfl (.inl rfl) (pe_ifExp (pt_cmpR op_isN (pv 2) pe_non (nomark _)) (pe_tup (pa_cons pe_int (pa_cons pe_int pa_nil))) (T.gap_of.cS G6 hr4 tk (pa_cons (pv 2) pa_nil)))) pss_void), ?_⟩
    obtain ⟨f, tf, hb, hn⟩ := to.tf
    refine ⟨_, rfl, a, _, _, rfl, hs, tf, by show 1 ≤ 20; decide, fun l H1 s1 hl => ?_⟩
    refine ⟨l, [f], ks, [⟨ps, as, lo, hi⟩], rfl, hl, FRs.nil.snoc (m := ⟨ps, as, lo, hi⟩) (hb.same s1) (hn.same s1), kp, ?_⟩
    refine ⟨_, rfl, rfl, _, rfl, ?_⟩
    rw [nonF nb]
    exact iteF ⟨_, rfl, b, rfl, bad.same s1, er.after s1⟩
def spFiP (K : PySem.W.Frag) (cS cT cU cB cP : Addr) : Sp := fun vs H _ E => ∃ sv a u ks ps as lo hi, ∃ j : Nat, vs = [sv, .ref a, .int (j : Nat)] ∧ j ≤ 60 ∧ (SqL K H a [u] ∨ SqT K H a [u]) ∧ ToAt K cT cB cP H u ks ps as lo hi ∧ KsZ ks ∧ FarS K cS H sv ks ∧ ErUj cU H E "place"
theorem ok_fiP (T : Tg P K mg) : FnOk P w K mg base (CX P w) 8 T.ft T.ftd ["share", "rows", "bits"] (spFiP K T.cS T.cT T.cU T.cB T.cP) := by
  have G1 : FnOk P w K mg base CX0 1 T.funcs_of.f T.funcs_of.fd ["rows"] (spFog K T.cT) := ok_fog T
  have G2 : FnOk P w K mg base (CX P w) 4 T.check_st.f T.check_st.fd ["functions"] (spSt K T.cB T.cP) := ok_st T
  have G3 : FnOk P w K mg base (CX P w) 7 T.check_pl.f T.check_pl.fd ["share", "rows"] (spCpB K T.cS T.cT T.cU T.cB T.cP) := ok_cpB T
  have G6 : FnOk P w K mg base (CX P w) 4 T.gap_of.f T.gap_of.fd ["bits"] (spGp K) := ok_gp T
  refine T.ftF.ok sc52g (fun vs H Q E h => ?_) (fun cdv A outer s H vs Q E hr h => ?_)
  · obtain ⟨sv, a, u, ks, ps, as, lo, hi, j, rfl, _⟩ := h
    rfl
  · obtain ⟨sv, a, u, ks, ps, as, lo, hi, j, rfl, j6, hs, to, kz, far, er⟩ := h
    have hr1 : Room 1 _ := hr.mono (by decide)
    have hr4 : Room 4 _ := hr.mono (by decide)
    have tk := takes_of (X := cxOf (CX P w) P w K mg base nFit "fits" (defScope (top 61)) T.ft cdv A outer s H E) (E := E) rfl rfl rfl rfl
    refine ⟨_, pss_cons (ps_expr (T.check_st.cX G2 hr4 (pa_cons (T.funcs_of.c0 G1 hr1 (pa_cons (pv 1) pa_nil)) pa_nil)))
      (pss_cons (ps_set (i := 3) sc52g.nd rfl (.inl rfl) (pe_ifExp (pt_cmpR op_isN (pv 2) pe_non (nomark _)) (pe_tup (pa_cons pe_int (pa_cons pe_int pa_nil))) (T.gap_of.cX G6 hr4 (pa_cons (pv 2) pa_nil))))
      (pss_cons (ps_expr (T.check_pl.cS G3 hr tk (pa_cons (pv 0) (pa_cons (pv 1) pa_nil)))) pss_void)), ?_⟩
    obtain ⟨f, tf, hb, hn⟩ := to.tf
    refine ⟨_, rfl, a, _, _, rfl, hs, tf, by show 1 ≤ 20; decide, fun l H1 s1 hl => ?_⟩
    refine ⟨l, [f], ks, [⟨ps, as, lo, hi⟩], rfl, hl, FRs.nil.snoc (m := ⟨ps, as, lo, hi⟩) (hb.same s1) (hn.same s1), kz.1, ?_⟩
    refine ⟨_, rfl, rfl, _, rfl, ?_⟩
    rw [nonF V.noConfusion]
    refine iteF ⟨_, rfl, j, rfl, j6, fun v H2 s2 _ => ?_⟩
    have s12 := s1.trans s2
    exact ⟨_, rfl, _, rfl, sv, a, u, [], ks, ps, as, lo, hi, rfl, Sq.same2 s12 hs, to.same s12, kz, far.same s12, er.after s12⟩
def spFi0 (K : PySem.W.Frag) : Sp := fun vs H Q _ => ∃ sv a, vs = [sv, .ref a, .non] ∧ (SqL K H a [] ∨ SqT K H a []) ∧ ∀ H', Same H H' → Q (.bl true) H'
theorem ok_fi0 (T : Tg P K mg) : FnOk P w K mg base CX0 10 T.ft T.ftd ["share", "rows", "bits"] (spFi0 K) := by
  have G1 : FnOk P w K mg base CX0 1 T.funcs_of.f T.funcs_of.fd ["rows"] (spFog K T.cT) := ok_fog T
  have G2 : FnOk P w K mg base (CX P w) 4 T.check_st.f T.check_st.fd ["functions"] (spSt K T.cB T.cP) := ok_st T
  have G3 : FnOk P w K mg base (CX P w) 7 T.check_pl.f T.check_pl.fd ["share", "rows"] (spCp0 K) := ok_cp0 T
  have G4 : FnOk P w K mg base CX0 9 T.means_of.f T.means_of.fd ["share", "functions"] (spMo0 K) := ok_mo0 T
  have G5 : FnOk P w K mg base CX0 6 T.gap_missed.f T.gap_missed.fd ["found", "rows"] (spGm K T.cT T.cB T.cP) := ok_gm T
  have G6 : FnOk P w K mg base (CX P w) 4 T.gap_of.f T.gap_of.fd ["bits"] (spGp K) := ok_gp T
  have G7 : FnOk P w K mg base (CX P w) 5 T.lower.f T.lower.fd ["one", "other"] (spTwo K T.cN cBin (fun _ v q r => v = .bl (decide (q < r)))) := ok_lower T.toTx
  refine T.ftF.ok sc52g (fun vs H Q E h => ?_) (fun cdv A outer s H vs Q E hr h => ?_)
  · obtain ⟨sv, a, rfl, _⟩ := h
    rfl
  · obtain ⟨sv, a, rfl, hs, k⟩ := h
    have hr1 : Room 1 _ := hr.mono (by decide)
    have hr4 : Room 4 _ := hr.mono (by decide)
    have hr5 : Room 5 _ := hr.mono (by decide)
    have hr6 : Room 6 _ := hr.mono (by decide)
    have hr7 : Room 7 _ := hr.mono (by decide)
    refine ⟨_, pss_cons (ps_expr (T.check_st.cX G2 hr4 (pa_cons (T.funcs_of.c0 G1 hr1 (pa_cons (pv 1) pa_nil)) pa_nil)))
      (pss_cons (ps_set (i := 3) sc52g.nd rfl (.inl rfl) (pe_ifExp (pt_cmpR op_isN (pv 2) pe_non (nomark _)) (pe_tup (pa_cons pe_int (pa_cons pe_int pa_nil))) (T.gap_of.cX G6 hr4 (pa_cons (pv 2) pa_nil))))
      (pss_cons (ps_expr (T.check_pl.cX G3 hr7 (pa_cons (pv 0) (pa_cons (pv 1) pa_nil))))
      (pss_one (ps_ret (pe_not (T.lower.cX G7 hr5 (pa_cons (pv 3) (pa_cons (T.gap_missed.c0 G5 hr6 (pa_cons (T.means_of.c0 G4 hr (pa_cons (pv 0) (pa_cons (T.funcs_of.c0 G1 hr1 (pa_cons (pv 1) pa_nil)) pa_nil))) (pa_cons (pv 1) pa_nil))) pa_nil)))))))), ?_⟩
    refine ⟨_, rfl, a, _, _, rfl, hs, TFs.nil, by decide, fun l H1 s1 hl1 => ?_⟩
    refine ⟨l, [], [0], [], rfl, hl1, FRs.nil, by decide, ?_⟩
    refine ⟨_, rfl, rfl, _, rfl, ?_⟩
    rw [nonT rfl]
    refine iteT ⟨(by show 2 ≤ sizeLine; decide), fun p np => ?_⟩
    have sp := Same.new (o := .tup [V.int 0, V.int 1]) np
    have rp : RV K (upd H1 p (.tup [V.int 0, V.int 1])) (.ref p) 0 := ⟨p, rfl, SqT.of upd_same⟩
    generalize upd H1 p (.tup [V.int 0, V.int 1]) = H2 at sp rp ⊢
    have s12 := s1.trans sp
    refine ⟨_, rfl, _, rfl, sv, a, rfl, Sq.same2 s12 hs, ?_⟩
    refine ⟨_, rfl, _, rfl, _, rfl, a, _, _, rfl, Sq.same2 s12 hs, TFs.nil, by decide, fun l2 H3 s3 hl3 => ?_⟩
    refine ⟨sv, l2, rfl, hl3, fun l4 H4 s4 hl4 => ?_⟩
    have s24 := s3.trans s4
    have s14 := s12.trans s24
    refine ⟨_, rfl, l4, a, [], [], [], [0], [], rfl, hl4, Al.nil, Sq.same2 s14 hs, ⟨rfl, fun i u m e _ => by cases e⟩, rfl, fun i q m e _ => (by cases e), fun v H5 s5 rv => ?_⟩
    have z0 : Sz 2 2 (0 : Rat) := ⟨by decide, by decide⟩
    refine ⟨.ref p, v, rfl, .inl ⟨0, 0, 2, 2, 2, 2, ((rp.same s24).same s5).arg z0, RV.arg rv z0, by decide, by decide, ⟨by decide, by decide⟩, fun v2 H7 s7 e2 => ?_⟩⟩
    subst e2
    exact ⟨_, rfl, k H7 ((s14.trans s5).trans s7)⟩
end
end Kz
set_option linter.all false
set_option maxRecDepth 100000
set_option maxHeartbeats 4000000
set_option pp.maxSteps 300
namespace Kz
open PySem PySem.Spec PyProof.Rows L2 Vl
def AQ (K : PySem.W.Frag) (H : Hp) (v : V) (q : Rat) : Prop := ∃ n m, ArgQ K H v n m q ∧ n ≤ 2000 ∧ m ≤ 1000
theorem AQ.same {K : PySem.W.Frag} {H H' : Hp} {v : V} {q : Rat} (s : Same H H') (h : AQ K H v q) : AQ K H' v q := by
  obtain ⟨n, m, h, r⟩ := h
  exact ⟨n, m, h.same s, r⟩
theorem RV.aq {K : PySem.W.Frag} {H : Hp} {v : V} {q : Rat} {a m : Nat} (h : RV K H v q) (z : Mz a m q) (ha : a + m ≤ 2000) (hm : m ≤ 1000) : AQ K H v q := ⟨_, _, h.arg z.sz, ha, hm⟩
/-- an answer of plus, minus, times, lower for ratios passed in any way -/
theorem two_aq {K : PySem.W.Frag} {cN : Addr} {H : Hp} {v u : V} {q r : Rat} {R : Hp → V → Rat → Rat → Prop} {Q : VK} {E : XK} (h : AQ K H v q) (g : AQ K H u r) (k : ∀ v' H', Same H H' → R H' v' q r → Q v' H') : spTwo K cN cBin R [v, u] H Q E := by
  obtain ⟨n, m, a, n4, m4⟩ := h
  obtain ⟨n', m', b, n5, m5⟩ := g
  exact ⟨v, u, rfl, .inl ⟨q, r, n, m, n', m', a, b, by omega, by omega, ⟨by omega, by omega⟩, k⟩⟩
section
variable {P : Program} {w : World} {K : PySem.W.Frag} {mg : Str → Option Value} {base : Heap}
/-! ### the ends of a stretch -/
def spCheckE (K : PySem.W.Frag) : Sp := fun vs H Q _ => ∃ c d a b, vs = [c, d] ∧ AQ K H c a ∧ AQ K H d b ∧ a ≤ b ∧ ∀ H', Same H H' → Q .non H'
theorem sc50e : FnScope ["low", "high"] ["low", "high"] (defScope (top 50)) := ⟨rfl, rfl, rfl, by decide +kernel, rfl, by decide +kernel, by decide +kernel⟩
theorem ok_checke (T : Tj P K mg) : FnOk P w K mg base (CX P w) 6 T.check_ends.f T.check_ends.fd ["low", "high"] (spCheckE K) := by
  have G1 : FnOk P w K mg base CX0 3 T.is_ratio.f T.is_ratio.fd ["value"] (spRatio K) := ok_ratio T.toTx
  have G2 : FnOk P w K mg base (CX P w) 5 T.lower.f T.lower.fd ["one", "other"] (spTwo K T.cN cBin (fun _ v q r => v = .bl (decide (q < r)))) := ok_lower T.toTx
  refine T.check_ends.fn.okX sc50e (fun vs H Q E h => ?_) (fun cdv A outer s H vs Q E hr h => ?_)
  · obtain ⟨c, d, a, b, rfl, _⟩ := h
    rfl
  · obtain ⟨c, d, a, b, rfl, ac, ad, le, k⟩ := h
    have hr3 : Room 3 _ := hr.mono (by decide)
    have tk := takes_of (X := cxOf (CX P w) P w K mg base ["low", "high"] "check_ends" (defScope (top 50)) T.check_ends.f cdv A outer s H E) (E := E) rfl rfl rfl rfl
    refine ⟨_, pss_cons (ps_if (pt_not (pt_val (T.is_ratio.c0 G1 hr3 (pa_cons (pv 0) pa_nil))))
        (pss_one (ps_raise rfl tk (pmk_oex (CX := CX0) T.eN.o T.iN.i T.iN.t (ok_i3 T.iN.fn) (hr.mono (by decide)) T.bN .nil pass0 rfl T.eN.g (pa_cons pe_str (pa_cons (pv 0) pa_nil))))) pss_nil)
      (pss_one (ps_if (PW.pt (pw_or (pt_not (pt_val (T.is_ratio.c0 G1 hr3 (pa_cons (pv 1) pa_nil)))) (pw_or1 (pt_val (T.lower.cX G2 hr (pa_cons (pv 1) (pa_cons (pv 0) pa_nil)))))))
        (pss_one (ps_raise rfl tk (pmk_oex (CX := CX0) T.eN.o T.iN.i T.iN.t (ok_i3 T.iN.fn) (hr.mono (by decide)) T.bN .nil pass0 rfl T.eN.g (pa_cons pe_str (pa_cons (pv 1) pa_nil))))) pss_nil)), ?_⟩
    obtain ⟨_, _, ac', _⟩ := id ac
    obtain ⟨tt, b1, ty, pr, eb⟩ := ac'.rb
    refine ⟨_, rfl, c, tt, b1, rfl, ty, pr, fun H1 s1 => ?_⟩
    rw [← eb]
    refine ⟨_, rfl, iteF ?_⟩
    obtain ⟨_, _, ad', _⟩ := id (ad.same s1)
    obtain ⟨t2, b2, ty2, pr2, eb2⟩ := ad'.rb
    refine ⟨_, rfl, d, t2, b2, rfl, ty2, pr2, fun H3 s3 => ?_⟩
    rw [← eb2]
    have s13 := s1.trans s3
    refine ⟨_, rfl, iteF ⟨_, rfl, _, rfl, two_aq (ad.same s13) (ac.same s13) fun v2 H4 s4 e2 => ?_⟩⟩
    rw [decide_eq_false (Rat.not_lt.mpr le)] at e2
    subst e2
    exact ⟨_, rfl, iteF (k _ (s13.trans s4))⟩
end
/-- the parts whose places are told by f -/
def fil (f : Rat → Bool) : List Rat → List Rat → List Rat
  | x :: xs, p :: ps => if f x then p :: fil f xs ps else fil f xs ps
  | _, _ => []
theorem fil_snoc {f : Rat → Bool} {x p : Rat} : ∀ {xs ps : List Rat}, xs.length = ps.length → fil f (xs ++ [x]) (ps ++ [p]) = fil f xs ps ++ (if f x then [p] else [])
  | [], [], _ => by
    show (if f x then [p] else []) = [] ++ _
    rw [List.nil_append]
  | [], _ :: _, h => by cases h
  | _ :: _, [], h => by cases h
  | y :: xs, q :: ps, h => by
    show (if f y then q :: fil f (xs ++ [x]) (ps ++ [p]) else fil f (xs ++ [x]) (ps ++ [p])) = (if f y then q :: fil f xs ps else fil f xs ps) ++ _
    rw [fil_snoc (Nat.succ.inj h)]
    split <;> simp
theorem fil_mem {f : Rat → Bool} {q : Rat} : ∀ {xs ps : List Rat}, q ∈ fil f xs ps → q ∈ ps
  | [], _, h => by cases h
  | _ :: _, [], h => by cases h
  | x :: xs, p :: ps, h => by
    have h : q ∈ if f x then p :: fil f xs ps else fil f xs ps := h
    split at h
    · rcases List.mem_cons.mp h with rfl | h
      · exact List.mem_cons_self
      · exact List.mem_cons_of_mem _ (fil_mem h)
    · exact List.mem_cons_of_mem _ (fil_mem h)
theorem fil_len {f : Rat → Bool} : ∀ {xs ps : List Rat}, (fil f xs ps).length ≤ ps.length
  | [], _ => Nat.zero_le _
  | _ :: _, [] => Nat.zero_le _
  | x :: xs, p :: ps => by
    show (if f x then p :: fil f xs ps else fil f xs ps).length ≤ _
    have := fil_len (f := f) (xs := xs) (ps := ps)
    split
    · simp only [List.length_cons]
      omega
    · simp only [List.length_cons]
      omega
def inC (lo hi x : Rat) : Bool := decide (¬ x < lo) && decide (¬ hi < x)
def inO (lo hi x : Rat) : Bool := decide (lo < x) && decide (x < hi)
section
variable {P : Program} {w : World} {K : PySem.W.Frag} {mg : Str → Option Value} {base : Heap}
def spCh (K : PySem.W.Frag) (cS : Addr) (f : Rat → Rat → Rat → Bool) : Sp := fun vs H Q _ => ∃ sh c d xs ps a b, vs = [sh, c, d] ∧ ShAt K cS H sh xs ps ∧ ps.length = xs.length ∧ ps.length ≤ 40 ∧ (∀ x ∈ xs, Mz 60 100 x) ∧ (∀ p ∈ ps, Mz 1 100 p) ∧ AQ K H c a ∧ AQ K H d b ∧ a ≤ b ∧
  ∀ v H', Same H H' → RV K H' v (sumR (fil (f a b) xs ps)) → Q v H'
abbrev nCh : List Str := ["share", "low", "high", "found", "place", "part"]
theorem sc51c : FnScope nCh ["share", "low", "high"] (defScope (top 51)) := ⟨rfl, rfl, rfl, by decide +kernel, rfl, by decide +kernel, by decide +kernel⟩
theorem ok_ch (T : Tj P K mg) : FnOk P w K mg base CX0 7 T.chance.f T.chance.fd ["share", "low", "high"] (spCh K T.cS inC) := by
  have G1 : FnOk P w K mg base (CX P w) 6 T.check_ends.f T.check_ends.fd ["low", "high"] (spCheckE K) := ok_checke T
  have G2 : FnOk P w K mg base (CX P w) 5 T.lower.f T.lower.fd ["one", "other"] (spTwo K T.cN cBin (fun _ v q r => v = .bl (decide (q < r)))) := ok_lower T.toTx
  have G3 : FnOk P w K mg base CX0 6 T.sum_of.f T.sum_of.fd ["row"] (spSumOf K) := ok_sumof T.toTg
  refine T.chance.fn.ok sc51c (fun vs H Q E h => ?_) (fun cdv A outer s H vs Q E hr h => ?_)
  · obtain ⟨sh, c, d, xs, ps, a, b, rfl, _⟩ := h
    rfl
  · obtain ⟨sh, c, d, xs, ps, a, b, rfl, hsh, len, few, zx, zp, ac, ad, le, k⟩ := h
    have hr5 : Room 5 _ := hr.mono (by decide)
    have hr6 : Room 6 _ := hr.mono (by decide)
    refine ⟨_, pss_cons (ps_expr (T.check_ends.cX G1 hr6 (pa_cons (pv 1) (pa_cons (pv 2) pa_nil))))
      (pss_cons (ps_set (i := 3) sc51c.nd rfl (.inl rfl) (pe_lst pa_nil))
      (pss_cons (ps_for PassesOwn.never rfl (RZ.pi_zipA (by rfl) T.mZip (pa_cons (pe_fld (pv 0) (by rfl)) (pa_cons (pe_fld (pv 0) (by rfl)) pa_nil))) (pg_tup (by rfl) (pgs_cons (pg_name (i := 4) sc51c.nd rfl (.inl rfl)) (pgs_cons (pg_name (i := 5) sc51c.nd rfl (.inl rfl)) pgs_nil)))
        (pss_one (ps_if (PW.pt (pw_and (pt_not (pt_val (T.lower.cX G2 hr5 (pa_cons (pv 4) (pa_cons (pv 1) pa_nil))))) (pw_and1 (pt_not (pt_val (T.lower.cX G2 hr5 (pa_cons (pv 2) (pa_cons (pv 4) pa_nil))))))))
          (pss_one (ps_expr (pe_bm PySem.F.plainAttrs_list PySem.F.slot_list_append PySem.F.type_list_append mt_append (pv 3) (pa_cons (pv 5) pa_nil)))) pss_nil)))
      (pss_one (ps_ret (T.sum_of.c0 G3 hr6 (pa_cons (pv 3) pa_nil)))))), ?_⟩
    refine ⟨_, rfl, _, rfl, c, d, a, b, rfl, ac, ad, le, fun H1 s1 => ?_⟩
    refine ⟨(by show 0 ≤ sizeLine; decide), fun g ng => ?_⟩
    have s2 := s1.trans (Same.new (o := .lst []) ng)
    have e2 : upd H1 g (.lst []) g = some (.lst []) := upd_same
    have gH : ∀ c u, H c = some u → c ≠ g := fun c u e => ne_of_none (s1 _ _ e) ng
    generalize upd H1 g (.lst []) = H2 at s2 e2 ⊢
    obtain ⟨sa, sx, t1, t2, w1, w2, rfl, hsa, h1, a1, h2, a2⟩ := id hsh
    have l1 := a1.1
    have l2 := a2.1
    refine ⟨_, rfl, sa, T.cS, sx, _, _, rfl, s2 _ _ hsa, T.clS, T.nSh1, lkS1, _, rfl, sa, T.cS, sx, _, _, rfl, s2 _ _ hsa, T.clS, T.nSh2, lkS2, ?_⟩
    refine ⟨t1, t2, w1, w2, rfl, .inr ⟨Kz.Same.seqT s2 h1, Kz.Same.seqT s2 h2, RZ.for_zipT (K := K) (a := t1) (b := t2) (xs := w1) (ys := w2) (by omega) (fun i σ H' => ∃ n4 n5 acc, σ = [some (.ref sa), some c, some d, some (.ref g), n4, n5] ∧ Same H H' ∧ H' g = some (.lst acc) ∧ Al K H acc (fil (inC a b) (xs.take i) (ps.take i)))
      ⟨_, _, [], rfl, s2, e2, Al.nil⟩ (fun i σ H' ⟨_, _, _, _, s, _, _⟩ => ⟨Kz.Same.seqT s h1, Kz.Same.seqT s h2⟩) ?_ ?_⟩⟩
    · rintro i x y p σ H3 hx hy ⟨n4, n5, acc, rfl, s3, eg, al⟩ np
      have lt : i < xs.length := by
        have := (List.getElem?_eq_some_iff.mp hx).1
        omega
      have s34 := s3.trans (Same.new (o := .tup [x, y]) np)
      have eg4 := Same.new (o := .tup [x, y]) np _ _ eg
      have rx := a1.2 i x _ hx (at_cf lt)
      have ry := a2.2 i y _ hy (at_cf (by omega))
      have zxi := zx _ (cf_mem lt)
      have aqx : AQ K H x (cf xs i) := rx.aq zxi (by decide) (by decide)
      have fs : fil (inC a b) (xs.take (i + 1)) (ps.take (i + 1)) = fil (inC a b) (xs.take i) (ps.take i) ++ (if inC a b (cf xs i) then [cf ps i] else []) := by
        rw [take_snoc (at_cf lt), take_snoc (at_cf (qs := ps) (i := i) (by omega)), fil_snoc (by rw [List.length_take, List.length_take, len])]
      refine ⟨p, _, rfl, SqT.of upd_same, rfl, _, _, rfl, _, _, rfl, rfl, ?_⟩
      generalize upd H3 p (.tup [x, y]) = H4 at s34 eg4 ⊢
      have la : acc.length < 1000 := by
        have := al.1
        have := fil_len (f := inC a b) (xs := xs.take i) (ps := ps.take i)
        rw [List.length_take] at this
        omega
      refine ⟨_, rfl, _, rfl, two_aq (aqx.same s34) (ac.same s34) fun v5 H5 s5 e5 => ?_⟩
      have s35 := s34.trans s5
      have eg5 := s5 _ _ eg4
      by_cases c1 : cf xs i < a
      · rw [decide_eq_true c1] at e5
        subst e5
        have ef : inC a b (cf xs i) = false := by simp [inC, c1]
        exact ⟨_, rfl, iteF (iteF ⟨_, _, acc, rfl, s35, eg5, by rw [fs, ef]; simpa using al⟩)⟩
      · rw [decide_eq_false c1] at e5
        subst e5
        refine ⟨_, rfl, iteT ?_⟩
        refine ⟨_, rfl, _, rfl, two_aq (ad.same s35) (aqx.same s35) fun v6 H6 s6 e6 => ?_⟩
        have s36 := s35.trans s6
        have eg6 := s6 _ _ eg5
        by_cases c2 : b < cf xs i
        · rw [decide_eq_true c2] at e6
          subst e6
          have ef : inC a b (cf xs i) = false := by simp [inC, c2]
          exact ⟨_, rfl, iteF ⟨_, _, acc, rfl, s36, eg6, by rw [fs, ef]; simpa using al⟩⟩
        · rw [decide_eq_false c2] at e6
          subst e6
          have ef : inC a b (cf xs i) = true := by simp only [inC, Bool.and_eq_true, decide_eq_true_eq]; exact ⟨c1, c2⟩
          exact ⟨_, rfl, iteT ⟨_, rfl, .inl ⟨rfl, _, SqL.of eg6⟩, _, rfl, g, acc, y, rfl, rfl, eg6, le1000 (by omega), _, _, acc ++ [y], rfl, fun c' o e => by rw [upd_ne (gH _ _ e)]; exact s36 _ _ e, upd_same, by rw [fs, ef]; exact al.snoc ry⟩⟩
    · rintro σ H3 ⟨n4, n5, acc, rfl, s3, eg, al⟩
      rw [l1, List.take_length, show xs.length = ps.length from len.symm, List.take_length] at al
      have fl := fil_len (f := inC a b) (xs := xs) (ps := ps)
      have la := al.1
      refine ⟨_, rfl, g, acc, 101, 100, fil (inC a b) xs ps, rfl, .inl (SqL.of eg), (al.same s3).arg fun i hi => (zp _ (fil_mem (cf_mem hi))).sz, by decide, by decide, by omega, by omega, fun v H4 s4 rv => k v H4 (s3.trans s4) rv⟩
theorem sc52c : FnScope nCh ["share", "low", "high"] (defScope (top 52)) := ⟨rfl, rfl, rfl, by decide +kernel, rfl, by decide +kernel, by decide +kernel⟩
theorem ok_chb (T : Tj P K mg) : FnOk P w K mg base CX0 7 T.chance_b.f T.chance_b.fd ["share", "low", "high"] (spCh K T.cS inO) := by
  have G1 : FnOk P w K mg base (CX P w) 6 T.check_ends.f T.check_ends.fd ["low", "high"] (spCheckE K) := ok_checke T
  have G2 : FnOk P w K mg base (CX P w) 5 T.lower.f T.lower.fd ["one", "other"] (spTwo K T.cN cBin (fun _ v q r => v = .bl (decide (q < r)))) := ok_lower T.toTx
  have G3 : FnOk P w K mg base CX0 6 T.sum_of.f T.sum_of.fd ["row"] (spSumOf K) := ok_sumof T.toTg
  refine T.chance_b.fn.ok sc52c (fun vs H Q E h => ?_) (fun cdv A outer s H vs Q E hr h => ?_)
  · obtain ⟨sh, c, d, xs, ps, a, b, rfl, _⟩ := h
    rfl
  · obtain ⟨sh, c, d, xs, ps, a, b, rfl, hsh, len, few, zx, zp, ac, ad, le, k⟩ := h
    have hr5 : Room 5 _ := hr.mono (by decide)
    have hr6 : Room 6 _ := hr.mono (by decide)
    refine ⟨_, pss_cons (ps_expr (T.check_ends.cX G1 hr6 (pa_cons (pv 1) (pa_cons (pv 2) pa_nil))))
      (pss_cons (ps_set (i := 3) sc52c.nd rfl (.inl rfl) (pe_lst pa_nil))
      (pss_cons (ps_for PassesOwn.never rfl (RZ.pi_zipA (by rfl) T.mZip (pa_cons (pe_fld (pv 0) (by rfl)) (pa_cons (pe_fld (pv 0) (by rfl)) pa_nil))) (pg_tup (by rfl) (pgs_cons (pg_name (i := 4) sc52c.nd rfl (.inl rfl)) (pgs_cons (pg_name (i := 5) sc52c.nd rfl (.inl rfl)) pgs_nil)))
        (pss_one (ps_if (PW.pt (pw_and (pt_val (T.lower.cX G2 hr5 (pa_cons (pv 1) (pa_cons (pv 4) pa_nil)))) (pw_and1 (pt_val (T.lower.cX G2 hr5 (pa_cons (pv 4) (pa_cons (pv 2) pa_nil)))))))
          (pss_one (ps_expr (pe_bm PySem.F.plainAttrs_list PySem.F.slot_list_append PySem.F.type_list_append mt_append (pv 3) (pa_cons (pv 5) pa_nil)))) pss_nil)))
      (pss_one (ps_ret (T.sum_of.c0 G3 hr6 (pa_cons (pv 3) pa_nil)))))), ?_⟩
    refine ⟨_, rfl, _, rfl, c, d, a, b, rfl, ac, ad, le, fun H1 s1 => ?_⟩
    refine ⟨(by show 0 ≤ sizeLine; decide), fun g ng => ?_⟩
    have s2 := s1.trans (Same.new (o := .lst []) ng)
    have e2 : upd H1 g (.lst []) g = some (.lst []) := upd_same
    have gH : ∀ c u, H c = some u → c ≠ g := fun c u e => ne_of_none (s1 _ _ e) ng
    generalize upd H1 g (.lst []) = H2 at s2 e2 ⊢
    obtain ⟨sa, sx, t1, t2, w1, w2, rfl, hsa, h1, a1, h2, a2⟩ := id hsh
    have l1 := a1.1
    have l2 := a2.1
    refine ⟨_, rfl, sa, T.cS, sx, _, _, rfl, s2 _ _ hsa, T.clS, T.nSh1, lkS1, _, rfl, sa, T.cS, sx, _, _, rfl, s2 _ _ hsa, T.clS, T.nSh2, lkS2, ?_⟩
    refine ⟨t1, t2, w1, w2, rfl, .inr ⟨Kz.Same.seqT s2 h1, Kz.Same.seqT s2 h2, RZ.for_zipT (K := K) (a := t1) (b := t2) (xs := w1) (ys := w2) (by omega) (fun i σ H' => ∃ n4 n5 acc, σ = [some (.ref sa), some c, some d, some (.ref g), n4, n5] ∧ Same H H' ∧ H' g = some (.lst acc) ∧ Al K H acc (fil (inO a b) (xs.take i) (ps.take i)))
      ⟨_, _, [], rfl, s2, e2, Al.nil⟩ (fun i σ H' ⟨_, _, _, _, s, _, _⟩ => ⟨Kz.Same.seqT s h1, Kz.Same.seqT s h2⟩) ?_ ?_⟩⟩
    · rintro i x y p σ H3 hx hy ⟨n4, n5, acc, rfl, s3, eg, al⟩ np
      have lt : i < xs.length := by
        have := (List.getElem?_eq_some_iff.mp hx).1
        omega
      have s34 := s3.trans (Same.new (o := .tup [x, y]) np)
      have eg4 := Same.new (o := .tup [x, y]) np _ _ eg
      have rx := a1.2 i x _ hx (at_cf lt)
      have ry := a2.2 i y _ hy (at_cf (by omega))
      have zxi := zx _ (cf_mem lt)
      have aqx : AQ K H x (cf xs i) := rx.aq zxi (by decide) (by decide)
      have fs : fil (inO a b) (xs.take (i + 1)) (ps.take (i + 1)) = fil (inO a b) (xs.take i) (ps.take i) ++ (if inO a b (cf xs i) then [cf ps i] else []) := by
        rw [take_snoc (at_cf lt), take_snoc (at_cf (qs := ps) (i := i) (by omega)), fil_snoc (by rw [List.length_take, List.length_take, len])]
      refine ⟨p, _, rfl, SqT.of upd_same, rfl, _, _, rfl, _, _, rfl, rfl, ?_⟩
      generalize upd H3 p (.tup [x, y]) = H4 at s34 eg4 ⊢
      have la : acc.length < 1000 := by
        have := al.1
        have := fil_len (f := inO a b) (xs := xs.take i) (ps := ps.take i)
        rw [List.length_take] at this
        omega
      refine ⟨_, rfl, _, rfl, two_aq (ac.same s34) (aqx.same s34) fun v5 H5 s5 e5 => ?_⟩
      have s35 := s34.trans s5
      have eg5 := s5 _ _ eg4
      by_cases c1 : a < cf xs i
      · rw [decide_eq_true c1] at e5
        subst e5
        refine ⟨_, rfl, iteT ?_⟩
        refine ⟨_, rfl, _, rfl, two_aq (aqx.same s35) (ad.same s35) fun v6 H6 s6 e6 => ?_⟩
        have s36 := s35.trans s6
        have eg6 := s6 _ _ eg5
        by_cases c2 : cf xs i < b
        · rw [decide_eq_true c2] at e6
          subst e6
          have ef : inO a b (cf xs i) = true := by simp only [inO, Bool.and_eq_true, decide_eq_true_eq]; exact ⟨c1, c2⟩
          exact ⟨_, rfl, iteT ⟨_, rfl, .inl ⟨rfl, _, SqL.of eg6⟩, _, rfl, g, acc, y, rfl, rfl, eg6, le1000 (by omega), _, _, acc ++ [y], rfl, fun c' o e => by rw [upd_ne (gH _ _ e)]; exact s36 _ _ e, upd_same, by rw [fs, ef]; exact al.snoc ry⟩⟩
        · rw [decide_eq_false c2] at e6
          subst e6
          have ef : inO a b (cf xs i) = false := by simp [inO, c2]
          exact ⟨_, rfl, iteF ⟨_, _, acc, rfl, s36, eg6, by rw [fs, ef]; simpa using al⟩⟩
      · rw [decide_eq_false c1] at e5
        subst e5
        have ef : inO a b (cf xs i) = false := by simp [inO, c1]
        exact ⟨_, rfl, iteF (iteF ⟨_, _, acc, rfl, s35, eg5, by rw [fs, ef]; simpa using al⟩)⟩
    · rintro σ H3 ⟨n4, n5, acc, rfl, s3, eg, al⟩
      rw [l1, List.take_length, show xs.length = ps.length from len.symm, List.take_length] at al
      have fl := fil_len (f := inO a b) (xs := xs) (ps := ps)
      have la := al.1
      refine ⟨_, rfl, g, acc, 101, 100, fil (inO a b) xs ps, rfl, .inl (SqL.of eg), (al.same s3).arg fun i hi => (zp _ (fil_mem (cf_mem hi))).sz, by decide, by decide, by omega, by omega, fun v H4 s4 rv => k v H4 (s3.trans s4) rv⟩

end
end Kz
set_option linter.all false
set_option maxRecDepth 100000
set_option maxHeartbeats 4000000
set_option pp.maxSteps 300
namespace Kz
open PySem PySem.Spec PyProof.Rows PySem.SeqAt L2 Vl
/-! ### == of two instances without an own __eq__ -/
section
variable {prog : Program} {w : World} {A : Around} {E : Value → Shared → Prop} {s : Shared} {K : PySem.W.Frag} {x y C : Addr} {ox oy : Obj} {od oe : Option Obj}
theorem rc_other {Q : Value → Shared → Prop} (hu : A.units < cLine) (X : K.In s.heap) (I : PySem.W.InstAt s.heap x ox C od) (J : PySem.W.InstAt s.heap y oy C oe) (hx : s.heap.get? x = some ox) (hy : s.heap.get? y = some oy) (cx : ox.cls ≠ .type "tuple") (cy : oy.cls ≠ .type "tuple") (ne : x ≠ y) (hm : PySem.W.mroIn K C (.type "object") = some true) (hs : PySem.W.findIn K (.ref C) "__eq__" = some (some (.builtin "object.__eq__")))
    (h : Q (.bool false) s) : wpAny (model prog w) A (richCompare .Eq (.ref x) (.ref y)) Q E s := by
  have side : ∀ {a b : Addr} {oa ob : Obj} {oc : Option Obj}, PySem.W.InstAt s.heap a oa C oc → s.heap.get? a = some oa → s.heap.get? b = some ob → oa.cls ≠ .type "tuple" → a ≠ b → wpAny (model prog w) A (tryCompare (.ref a) "__eq__" (.ref b)) (fun r s' => r = none ∧ s' = s) E s := by
    intro a b oa ob oc I ha hb ca n
    unfold tryCompare
    refine wpAny_bind (HN.ifBound_objEq X I hs (wpAny_call (codeAny_call_builtin F.cmp_object.eq.plain F.cmpEntry_eq (PySem.W.check_slot F.cmpKind_eq F.cmpSplit_eq (I.type.andThen (PySem.W.looks_mroIn X hm)) (F.cmpArgs_eq _ _) (objEq_entry_other n ha hb ca (wpAny_pure ⟨rfl, rfl⟩))))))
  simp only [richCompare, cmpInfo_Eq, oneThing_ref]
  refine wpAny_holding (wpAny_bind (wpAny_cRoomFor hu ?_))
  refine wpAny_bind (I.type.here ?_)
  refine wpAny_bind (J.type.here ?_)
  split
  · rename_i q
    exact absurd q (by simp)
  · refine wpAny_bind (wpAny_pure ?_)
    simp only [Bool.false_eq_true, if_false, Bool.not_false, if_true]
    refine wpAny_bind (m := tryCompare (.ref x) _ (.ref y)) (wpAny_mono (side I hx hy cx ne) (fun r s1 z => ?_) fun _ _ e => e)
    obtain ⟨z1, z2⟩ := z
    subst z1
    subst z2
    refine wpAny_bind (m := tryCompare (.ref y) _ (.ref x)) (wpAny_mono (side J hy hx cy ne.symm) (fun r s2 z => ?_) fun _ _ e => e)
    obtain ⟨z1, z2⟩ := z
    subst z1
    subst z2
    exact wpAny_bind (wpAny_rule (wpAny_bind (wpAny_isSame_ref_other ne hx hy cx (wpAny_pure h))))
end
section
variable {X : Cx} {P : Program} {w : World} {K : PySem.W.Frag} {mg : Str → Option Value} {base : Heap}
theorem op_id {C : Addr} {k : Nat} (hr : Room k X.A) (hm : PySem.W.mroIn X.K C (.type "object") = some true) (hs : PySem.W.findIn X.K (.ref C) "__eq__" = some (some (.builtin "object.__eq__"))) :
    OpR X (compareOp .Eq) (fun x y H Q => ∃ a b dx dy fs gs, x = .ref a ∧ y = .ref b ∧ a ≠ b ∧ H a = some (.ins C dx fs) ∧ H b = some (.ins C dy gs) ∧ Q (.bl false) H) := by
  intro pins s σ H x y v u Q I rx ry h
  obtain ⟨a, b, dx, dy, fs, gs, rfl, rfl, ne, ha, hb, q⟩ := h
  cases (show v = Value.ref a from rx)
  cases (show u = Value.ref b from ry)
  obtain ⟨mA, O, _⟩ := ins_get I.hok ha
  obtain ⟨mB, O', _⟩ := ins_get I.hok hb
  obtain ⟨od, J, _⟩ := O.look
  obtain ⟨oe, J', _⟩ := O'.look
  show wpAny (model X.prog X.w) X.A (richCompare .Eq (.ref a) (.ref b)) (EP X pins σ Q) X.xe s
  refine rc_other hr.units0 I.kIn J J' J.at_ J'.at_ (fun z => ?_) (fun z => ?_) ne hm hs ⟨.bl false, H, I, rfl, q⟩
  · rw [J.cls] at z
    cases z
  · rw [J'.cls] at z
    cases z
end
end Kz
set_option linter.all false
set_option maxRecDepth 100000
set_option maxHeartbeats 4000000
set_option pp.maxSteps 100
namespace Kz
open PySem PySem.Spec PyProof.Rows L2 Vl
section
variable {P : Program} {w : World} {K : PySem.W.Frag} {mg : Str → Option Value} {base : Heap}
/-! ### Broken of tuples -/
def spRowpT (K : PySem.W.Frag) (cP : Addr) : Sp := fun vs H Q _ => ∃ (a : Addr) (us : List V) (ps : List (List Rat)), vs = [.ref a] ∧ SqT K H a us ∧ us.length ≤ 1000 ∧ PLs K cP H us ps ∧ ∀ H', Same H H' → Q (.bl true) H'
theorem ok_rowpT (T : Tb P K mg) : FnOk P w K mg base CX0 1 T.is_rowp.f T.is_rowp.fd ["value"] (spRowpT K T.cP) := by
  refine T.is_rowp.fn.ok sc31k (fun vs H Q E h => ?_) (fun cdv A outer s H vs Q E hr h => ?_)
  · obtain ⟨a, us, ps, rfl, _⟩ := h
    rfl
  · obtain ⟨a, us, ps, rfl, hs, len, pl, q⟩ := h
    refine ⟨_, pss_one (ps_ret (pe_and (pe_callB call_isiT (by rfl) T.mIsi boot_isi (pa_cons (pv 0) (pa_cons (pe_tup (pa_cons (pe_bltn (v := .ty "tuple") (by rfl) T.mTuple boot_ttuple rfl) (pa_cons (pe_bltn (v := .ty "list") (by rfl) T.blt.list boot_tlist rfl) pa_nil))) pa_nil)))
      (pe_one (pe_callB (cr_all rfl) (by rfl) T.mAll boot_all (pa_cons (pe_lc (own := [("poly", 1)]) (g := gName 1) (tt := tYes) rfl sc31k.nd (pi_tup (pv 0)) (blkOk_by (own := [("poly", 1)]) (N := nRp) (sc := defScope (top 37)) (by decide +kernel))
        (fun _ _ _ _ _ => pg_name (i := 1) sc31k.nd rfl (Or.inl rfl)) (fun _ _ _ _ _ => pts_nil) (fun _ _ _ _ _ => pe_callB (call_isiK (K' := K)) (by rfl) T.mIsi boot_isi (pa_cons (pv 1) (pa_cons (pe_glob (v := .ref T.cP) rfl T.mgP rfl) pa_nil)))) pa_nil))))), ?_⟩
    refine ⟨.ref a, rfl, ?_⟩
    refine ⟨(by show 2 ≤ sizeLine; decide), fun p hp => ?_⟩
    have s1 : Same H (upd H p (.tup [.ty "tuple", .ty "list"])) := Same.new hp
    have hp1 : upd H p (.tup [.ty "tuple", .ty "list"]) p = some (.tup [.ty "tuple", .ty "list"]) := upd_same
    generalize upd H p (.tup [.ty "tuple", .ty "list"]) = H1 at s1 hp1
    have hs1 := Kz.Same.seqT s1 hs
    obtain ⟨t, ty, e1, e2⟩ := (show Sq K H1 a us from .inr hs1).ty
    refine ⟨_, p, _, _, _, _, rfl, hp1, clsTL, ty.1, kit_tl ty.2, _, rfl, ?_⟩
    rw [e1]
    refine iteT ⟨_, rfl, a, rfl, ⟨_, hs1⟩, fun D hD => ?_⟩
    refine lc_mapT hs1 len hD (fun i acc _ => acc = (List.replicate i true).map V.bl) (fun _ _ _ _ _ _ h => h) rfl ?_ ?_
    · rintro i x hx acc H' Qk Z la r s2 kk
      have lt : i < ps.length := by
        have := (List.getElem?_eq_some_iff.mp hx).1
        have := pl.1
        omega
      obtain ⟨a1, dx, t1, ws, rfl, ha, r2⟩ := ((pl.2 i x _ hx (List.getElem?_eq_getElem lt)).same s1).same s2
      refine ⟨rfl, ?_⟩
      dsimp only [tYes]
      refine iteT ⟨_, rfl, _, _, _, _, true, rfl, .own _, poly_ty T.toTz ha, kit_self, kk _ _ (Same.refl _) ?_⟩
      show acc ++ [V.bl true] = (List.replicate (i + 1) true).map V.bl
      have r' : acc = (List.replicate i true).map V.bl := r
      rw [List.replicate_succ', List.map_append, ← r']
      rfl
    · rintro acc H2 hacc lacc r s2
      refine ⟨D, List.replicate us.length true, rfl, ?_, ?_⟩
      · have r' : acc = (List.replicate us.length true).map V.bl := r
        rw [← r']
        exact SqL.of hacc
      · rw [show (List.replicate us.length true).all id = true by simp]
        exact q H2 (s1.trans s2)
def spBinitT (K : PySem.W.Frag) (cB cP : Addr) : Sp := fun vs H Q _ => ∃ x dx kv b av H0 ks us ps as, vs = [.ref x, kv, .ref b, av] ∧ H x = some (.ins cB dx []) ∧ Same H0 H ∧ H0 x = none ∧
  Rw K H0 kv ks ∧ 2 ≤ ks.length ∧ ascB ks = true ∧ SqT K H0 b us ∧ PLs K cP H0 us ps ∧ us.length + 1 = ks.length ∧ Rw K H0 av as ∧ as.length = ks.length ∧
        ∀ H' t1 t2 t3 w1 w3, But x H H' → H' x = some (.ins cB dx (bF (.ref t1) (.ref t2) (.ref t3))) → TpN H' t1 w1 → Al K H' w1 ks → SqT K H' t2 us → PLs K cP H' us ps → TpN H' t3 w3 → Al K H' w3 as → Q .non H'
theorem ok_binitT (T : Tb P K mg) : FnOk P w K mg base (CX P w) 7 T.b_init.f T.b_init.fd ["self", "knots", "polys", "at"] (spBinitT K T.cB T.cP) := by
  have G1 : FnOk P w K mg base CX0 4 T.is_row.f T.is_row.fd ["value"] (spRow K) := ok_row T.toTz
  have G2 : FnOk P w K mg base CX0 6 T.ascends.f T.ascends.fd ["row"] (spAscR K) := ok_ascR T
  have G3 : FnOk P w K mg base CX0 1 T.is_rowp.f T.is_rowp.fd ["value"] (spRowpT K T.cP) := ok_rowpT T
  have G4 : FnOk P w K mg base CX0 5 T.told_row.f T.told_row.fd ["row"] (spTrowN K) := ok_trowN T
  refine T.b_init.fn.okX scB0 (fun vs H Q E h => ?_) (fun cdv A outer s H vs Q E hr h => ?_)
  · obtain ⟨x, dx, kv, b, av, H0, ks, us, ps, as, rfl, _⟩ := h
    rfl
  · obtain ⟨x, dx, kv, b, av, H0, ks, us, ps, as, rfl, hx, s0, n0, hk, k2, asc, hb, hp, lp, ha, las, k⟩ := h
    have hr4 : Room 4 _ := hr.mono (by decide)
    have hr5 : Room 5 _ := hr.mono (by decide)
    have hr1 : Room 1 _ := hr.mono (by decide)
    have tk := takes_of (X := cxOf (CX P w) P w K mg base nB0 "Broken.__init__" (defScope (sB 0)) T.b_init.f cdv A outer s H E) (E := E) rfl rfl rfl rfl
    refine ⟨_, pss_cons (ps_if (PW.pt (pw_or (pt_not (pt_val (T.is_row.c0 G1 hr4 (pa_cons (pv 1) pa_nil))))
          (pw_or (pt_cmpR op_lt (pe_callB call_len_seq (by rfl) T.blt.len PySem.boot_len (pa_cons (pv 1) pa_nil)) pe_int (nomark _))
            (pw_or1 (pt_not (pt_val (T.ascends.c0 G2 hr (pa_cons (pv 1) pa_nil))))))))
        (pss_one (ps_raise rfl tk (pmk_oex (CX := CX0) T.eR.o T.iR.i T.iR.t (ok_i4 T.iR.fn) (hr.mono (by decide)) T.bR .nil pass0 rfl T.eR.g (pa_cons (pv 1) pa_nil)))) pss_nil)
      (pss_cons (ps_if (PW.pt (pw_or (pt_not (pt_val (T.is_rowp.c0 G3 hr1 (pa_cons (pv 2) pa_nil))))
          (pw_or1 (pt_cmpR op_ne (pe_callB call_len_seq (by rfl) T.blt.len PySem.boot_len (pa_cons (pv 2) pa_nil)) (pe_op op_sub (pe_callB call_len_seq (by rfl) T.blt.len PySem.boot_len (pa_cons (pv 1) pa_nil)) pe_int) (nomark _)))))
        (pss_one (ps_raise rfl tk (pmk_oex (CX := CX0) T.eR.o T.iR.i T.iR.t (ok_i4 T.iR.fn) (hr.mono (by decide)) T.bR .nil pass0 rfl T.eR.g (pa_cons (pv 2) pa_nil)))) pss_nil)
      (pss_cons (ps_if (PW.pt (pw_or (pt_not (pt_val (T.is_row.c0 G1 hr4 (pa_cons (pv 3) pa_nil))))
          (pw_or1 (pt_cmpR op_ne (pe_callB call_len_seq (by rfl) T.blt.len PySem.boot_len (pa_cons (pv 3) pa_nil)) (pe_callB call_len_seq (by rfl) T.blt.len PySem.boot_len (pa_cons (pv 1) pa_nil)) (nomark _)))))
        (pss_one (ps_raise rfl tk (pmk_oex (CX := CX0) T.eR.o T.iR.i T.iR.t (ok_i4 T.iR.fn) (hr.mono (by decide)) T.bR .nil pass0 rfl T.eR.g (pa_cons (pv 3) pa_nil)))) pss_nil)
      (pss_cons (ps_fld (pv 0) (T.told_row.c0 G4 hr5 (pa_cons (pv 1) pa_nil)) (by rfl))
      (pss_cons (ps_fld (pv 0) (pe_callTy call_tuple_of (by rfl) T.mTuple boot_ttuple (pa_cons (pv 2) pa_nil)) (by rfl))
      (pss_one (ps_fld (pv 0) (T.told_row.c0 G4 hr5 (pa_cons (pv 3) pa_nil)) (by rfl))))))), ?_⟩
    refine ⟨_, rfl, ?_⟩
    dsimp only [tNil]
    refine (hk.same s0).row fun H1 s1 => ?_
    refine ⟨_, rfl, iteF ?_⟩
    have s01 := s0.trans s1
    obtain ⟨a, us1, rfl, hs, lu, l20⟩ := (hk.same s01).len
    refine ⟨_, rfl, a, us1, rfl, hs, _, _, rfl, rfl, _, rfl, ?_⟩
    rw [decide_eq_false (show ¬ ((us1.length : Nat) : Int) < 2 by omega)]
    refine iteF ⟨_, rfl, _, ks, rfl, hk.same s01, by omega, fun H2 s2 => ?_⟩
    rw [asc]
    refine ⟨_, rfl, iteF ?_⟩
    have s12 := s1.trans s2
    have s02 := s01.trans s2
    have hs2 := Sq.same2 s2 hs
    have lp' := hp.1
    refine ⟨_, rfl, b, us, ps, rfl, Kz.Same.seqT s02 hb, by omega, hp.same s02, fun H3 s3 => ?_⟩
    have s13 := s12.trans s3
    have s03 := s02.trans s3
    refine ⟨_, rfl, iteF ?_⟩
    refine ⟨_, rfl, b, us, rfl, .inr (Kz.Same.seqT s03 hb), _, rfl, a, us1, rfl, Sq.same2 s3 hs2, _, _, rfl, rfl, rfl, _, rfl, ?_⟩
    rw [neF (show ((us.length : Nat) : Int) = ((us1.length : Nat) : Int) - 1 by omega)]
    refine iteF ⟨_, rfl, ?_⟩
    dsimp only [tNil]
    refine (ha.same s03).row fun H4 s4 => ?_
    have s14 := s13.trans s4
    have s04 := s03.trans s4
    obtain ⟨c, us4, rfl, hc, lc, _⟩ := (ha.same s04).len
    refine ⟨_, rfl, iteF ⟨_, rfl, c, us4, rfl, hc, _, rfl, a, us1, rfl, Sq.same2 s4 (Sq.same2 s3 hs2), rfl, _, rfl, ?_⟩⟩
    rw [neF (show ((us4.length : Nat) : Int) = ((us1.length : Nat) : Int) by omega)]
    refine iteF ⟨_, rfl, ?_⟩
    dsimp only [tNil]
    refine (hk.same s04).told fun t1 H5 w1 s5 ht1 al1 => ?_
    have hx5 := (s14.trans s5) _ _ hx
    have s05 := s04.trans s5
    refine ⟨_, rfl, x, T.cB, dx, [], rfl, hx5, T.clB, T.nB1, by decide, ?_⟩
    have b5 : But x H5 (upd H5 x (.ins T.cB dx (putF "knots" (.ref t1) []))) := But.refl.set
    have b05 : But x H (upd H5 x (.ins T.cB dx (putF "knots" (.ref t1) []))) := fun c o e n => b5 c o ((s14.trans s5) _ _ e) n
    have s06 : Same H0 _ := sameOff s05 n0 b5
    have ht6 := ht1.off hx5 b5
    have al6 := al1.off hx5 b5
    have hx6 : upd H5 x (.ins T.cB dx (putF "knots" (.ref t1) [])) x = some (.ins T.cB dx [(("knots" : Str), .ref t1)]) := upd_same
    generalize upd H5 x (.ins T.cB dx (putF "knots" (.ref t1) [])) = H6 at b05 s06 ht6 al6 hx6
    refine ⟨_, rfl, b, us, rfl, .inr ⟨Kz.Same.seqT s06 hb, ?_⟩⟩
    refine ⟨_, rfl, x, T.cB, dx, _, rfl, hx6, T.clB, T.nB2, (by show 1 < 1000; decide), ?_⟩
    rw [putB2]
    have b8 : But x H6 (upd H6 x (.ins T.cB dx [(("knots" : Str), .ref t1), (("polys" : Str), .ref b)])) := But.refl.set
    have b08 := But.trans' b05 b8
    have s08 := sameOff s06 n0 b8
    have ht8 := ht6.off hx6 b8
    have al8 := al6.off hx6 b8
    have hx8 : upd H6 x (.ins T.cB dx [(("knots" : Str), .ref t1), (("polys" : Str), .ref b)]) x = some (.ins T.cB dx [(("knots" : Str), .ref t1), (("polys" : Str), .ref b)]) := upd_same
    generalize upd H6 x (.ins T.cB dx [(("knots" : Str), .ref t1), (("polys" : Str), .ref b)]) = H8 at b08 s08 ht8 al8 hx8
    refine ⟨_, rfl, ?_⟩
    dsimp only [tNil]
    refine (ha.same s08).told fun t3 H9 w3 s9 ht3 al3 => ?_
    have hx9 := s9 _ _ hx8
    refine ⟨_, rfl, x, T.cB, dx, _, rfl, hx9, T.clB, T.nB3, (by show 2 < 1000; decide), ?_⟩
    rw [putB3]
    have b10 : But x H9 (upd H9 x (.ins T.cB dx (bF (.ref t1) (.ref b) (.ref t3)))) := But.refl.set
    have s10 := sameOff (s08.trans s9) n0 b10
    exact k _ t1 b t3 w1 w3 (fun c o e n => b10 c o (s9 _ _ (b08 c o e n)) n) upd_same ((ht8.same s9).off hx9 b10) ((al8.same s9).off hx9 b10) (Kz.Same.seqT s10 hb) (hp.same s10) (ht3.off hx9 b10) (al3.off hx9 b10)
end
end Kz
set_option linter.all false
set_option maxRecDepth 100000
set_option maxHeartbeats 4000000
set_option pp.maxSteps 100
namespace Kz
open PySem PySem.Spec PyProof.Rows L2 Vl
/-- the name of a def's lambdas -/
def qnL (x : Str) : Str := (envOfC x (defScope (top 69)) 0 0 .none).qual ++ "<lambda>"
/-- the three defs that make lambdas, with their tables -/
structure Tlm (P : Program) (K : PySem.W.Frag) (mg : Str → Option Value) extends Tj P K mg where
  l_shr : Df K mg "_law_shares_refused" (top 69) ["_law_pen_here"]
  l_tor : Df K mg "_law_told_refused" (top 70) ["_law_pen_here"]
  law : Df K mg "law" (top 71) ["_law_script"]
  c69 : Addr
  c70 : Addr
  c71 : Addr
  P69 : Addr
  P70 : Addr
  P71 : Addr
  f69 : FunC K "_law_shares_refused" "_law_shares_refused" (top 69) l_shr.f l_shr.fd c69
  f70 : FunC K "_law_told_refused" "_law_told_refused" (top 70) l_tor.f l_tor.fd c70
  f71 : FunC K "law" "law" (top 71) law.f law.fd c71
  nPa : P69 ≠ P70
  nPb : P69 ≠ P71
  nPc : P70 ≠ P71
  moT : PySem.W.mroIn K cT (.type "object") = some true
  eqT : PySem.W.findIn K (.ref cT) "__eq__" = some (some (.builtin "object.__eq__"))
theorem subN {G H H1 : Hp} (g : Same G H) (nt : ∀ b o, G b = some o → ∀ ps, o ≠ .tbl ps) (x : LamX.ExtN H H1) : Same G H1 := fun b o e => x b o (g b o e) (nt b o e)
theorem mk_same {H : Hp} {x dx C : Addr} (nx : H x = none) (ndx : H dx = none) : Same H (upd (upd H dx (.own x)) x (.ins C dx [])) := fun z u e => by
  rw [upd_ne (ne_of_none e nx), upd_ne (ne_of_none e ndx)]
  exact e
section
variable {P : Program} {w : World} {K : PySem.W.Frag} {mg : Str → Option Value} {base : Heap}
def Tlm.Tl (T : Tlm P K mg) : List (Addr × Str) := [(T.P69, qnL "_law_shares_refused"), (T.P70, qnL "_law_told_refused"), (T.P71, qnL "law")]
theorem Tlm.h69 (T : Tlm P K mg) : ∀ p ∈ T.Tl, p.1 = T.P69 → p.2 = qnL "_law_shares_refused" := by
  intro p hp e
  unfold Tlm.Tl at hp
  simp only [List.mem_cons, List.not_mem_nil, or_false] at hp
  rcases hp with rfl | rfl | rfl
  · rfl
  · exact absurd e.symm T.nPa
  · exact absurd e.symm T.nPb
theorem Tlm.h70 (T : Tlm P K mg) : ∀ p ∈ T.Tl, p.1 = T.P70 → p.2 = qnL "_law_told_refused" := by
  intro p hp e
  unfold Tlm.Tl at hp
  simp only [List.mem_cons, List.not_mem_nil, or_false] at hp
  rcases hp with rfl | rfl | rfl
  · exact absurd e T.nPa
  · rfl
  · exact absurd e.symm T.nPc
theorem Tlm.h71 (T : Tlm P K mg) : ∀ p ∈ T.Tl, p.1 = T.P71 → p.2 = qnL "law" := by
  intro p hp e
  unfold Tlm.Tl at hp
  simp only [List.mem_cons, List.not_mem_nil, or_false] at hp
  rcases hp with rfl | rfl | rfl
  · exact absurd e T.nPb
  · exact absurd e T.nPc
  · rfl
theorem Tlm.m69 (T : Tlm P K mg) : (T.P69, qnL "_law_shares_refused") ∈ T.Tl := by simp [Tlm.Tl]
theorem Tlm.m70 (T : Tlm P K mg) : (T.P70, qnL "_law_told_refused") ∈ T.Tl := by simp [Tlm.Tl]
theorem Tlm.m71 (T : Tlm P K mg) : (T.P71, qnL "law") ∈ T.Tl := by simp [Tlm.Tl]
theorem fnGC0 {k : Nat} {f c : Addr} {x qual : Str} {st : Stmt} {fd : FuncData} {N ps : List Str} {sp : Sp} (F : FunC K x qual st f fd c) (S : FnScope N ps (defScope st)) (many : ∀ vs H Q E, sp vs H Q E → vs.length = ps.length)
    (body : ∀ (A : Around) (outer : List Env) (s : Shared) (H : Hp) (vs : List V) (Q : VK) (E : XK), A.guards = some [] → Room k (A.deeper (envOfC qual (defScope st) s.heap.objs.size f (.ref c))) → sp vs H Q E →
      ∃ t, PSs (cxOf CX0 P w K mg base N qual (defScope st) f (.ref c) A outer s H E).nox (defBody st) t ∧ t { nx := fun _ H' => Q .non H', rt := Q } (start N vs) H) :
    FnG P w K mg base CX0 (k + 1) f fd ps sp :=
  fnGC_of F S many fun A outer s H vs Q E hg hr h => by
    obtain ⟨t, ht, hq⟩ := body A outer s H vs Q E hg hr h
    exact ⟨t, PSs.nox ht, hq⟩
/-! ### things made -/
section
variable {X : Cx} {p pos : Pos} {e e2 e3 : Expr} {t : TA} {E : XK}
theorem Tg.cShr (T : Tg P K mg) (hr : Room 10 X.A) (ha : PA X [e, e2] t) (of : Of X P w K mg base := by exact ⟨rfl, rfl, rfl, rfl, rfl⟩) (hg : Gl X "Share" := by rfl)
    (st : starEach [e, e2] X.env = (false, eval e X.env) :: starEach [e2] X.env := by rfl) (nost : (backTo pos (starEach [e2] X.env)).any (·.1) = false := by rfl) :
    PE X (.Call (.Name "Share" p) [e, e2] [] pos) (tMake T.cS (spSinit K T.cS) [] (fun _ _ _ => False) t) := by
  obtain ⟨rfl, rfl, rfl, rfl, rfl⟩ := of
  exact pe_make T.mkS (ok_sinit T) hr hg T.mgS T.s_init.b .nil passL ha (by decide) st nost
theorem Tg.cShrE (T : Tg P K mg) (tk : Takes X fun cls d _ H => E cls d H) (hr : Room 10 X.A) (ha : PA X [e, e2] t) (of : Of X P w K mg base := by exact ⟨rfl, rfl, rfl, rfl, rfl⟩) (hg : Gl X "Share" := by rfl)
    (st : starEach [e, e2] X.env = (false, eval e X.env) :: starEach [e2] X.env := by rfl) (nost : (backTo pos (starEach [e2] X.env)).any (·.1) = false := by rfl) :
    PE X (.Call (.Name "Share" p) [e, e2] [] pos) (tMake T.cS (spSinitB K T.cR) [] E t) := by
  obtain ⟨rfl, rfl, rfl, rfl, rfl⟩ := of
  exact pe_make T.mkS (ok_sinitB T) hr hg T.mgS T.s_init.b .nil (passes_call tk fun _ _ _ _ h => h) ha (by decide) st nost
theorem Tg.cTol (T : Tg P K mg) (hr : Room 11 X.A) (ha : PA X [e, e2, e3] t) (of : Of X P w K mg base := by exact ⟨rfl, rfl, rfl, rfl, rfl⟩) (hg : Gl X "Told" := by rfl)
    (st : starEach [e, e2, e3] X.env = (false, eval e X.env) :: starEach [e2, e3] X.env := by rfl) (nost : (backTo pos (starEach [e2, e3] X.env)).any (·.1) = false := by rfl) :
    PE X (.Call (.Name "Told" p) [e, e2, e3] [] pos) (tMake T.cT (spTinit K T.cT T.cB T.cP) [] (fun _ _ _ => False) t) := by
  obtain ⟨rfl, rfl, rfl, rfl, rfl⟩ := of
  exact pe_make T.mkT (ok_tinit T) hr hg T.mgT T.t_init.b .nil passL ha (by decide) st nost
theorem Tg.cTolE (T : Tg P K mg) (tk : Takes X fun cls d _ H => E cls d H) (hr : Room 11 X.A) (ha : PA X [e, e2, e3] t) (of : Of X P w K mg base := by exact ⟨rfl, rfl, rfl, rfl, rfl⟩) (hg : Gl X "Told" := by rfl)
    (st : starEach [e, e2, e3] X.env = (false, eval e X.env) :: starEach [e2, e3] X.env := by rfl) (nost : (backTo pos (starEach [e2, e3] X.env)).any (·.1) = false := by rfl) :
    PE X (.Call (.Name "Told" p) [e, e2, e3] [] pos) (tMake T.cT (spTinitB K T.cN T.cU T.cB T.cP) [] E t) := by
  obtain ⟨rfl, rfl, rfl, rfl, rfl⟩ := of
  exact pe_make T.mkT (ok_tinitB T) hr hg T.mgT T.t_init.b .nil (passes_call tk fun _ _ _ _ h => h) ha (by decide) st nost
theorem Tb.cBrkT (T : Tb P K mg) (hr : Room 8 X.A) (ha : PA X [e, e2, e3] t) (of : Of X P w K mg base := by exact ⟨rfl, rfl, rfl, rfl, rfl⟩) (hg : Gl X "Broken" := by rfl)
    (st : starEach [e, e2, e3] X.env = (false, eval e X.env) :: starEach [e2, e3] X.env := by rfl) (nost : (backTo pos (starEach [e2, e3] X.env)).any (·.1) = false := by rfl) :
    PE X (.Call (.Name "Broken" p) [e, e2, e3] [] pos) (tMake T.cB (spBinitT K T.cB T.cP) [] (fun _ _ _ => False) t) := by
  obtain ⟨rfl, rfl, rfl, rfl, rfl⟩ := of
  exact pe_make T.mkB (ok_binitT T) hr hg T.mgB T.b_init.b .nil passL ha (by decide) st nost
end
theorem share_made {cS : Addr} {H : Hp} {u v : V} {xs ps : List Rat} {Q : Addr → Hp → Prop} {E : XK} (hx : Rw K H u xs) (pos : 0 < xs.length) (asc : ascB xs = true) (hp : Rw K H v ps) (len : ps.length = xs.length) (wp : wpB ps = true)
    (k : ∀ (y : Addr) (H' : Hp), Same H H' → ShAt K cS H' (.ref y) xs ps → Q y H') :
    ∀ x dx, H x = none → H dx = none → dx ≠ x → spSinit K cS (.ref x :: ([u, v] ++ [])) (upd (upd H dx (.own x)) x (.ins cS dx [])) (fun v H2 => v = .non ∧ Q x H2) E := fun x dx nx ndx ne => by
  have s4 := mk_same (C := cS) nx ndx
  refine ⟨x, dx, u, v, H, xs, ps, rfl, upd_same, s4, nx, hx, pos, asc, hp, len, wp, fun H5 t1 t2 w1 w2 b5 hx5 h1 a1 h2 a2 => ⟨rfl, ?_⟩⟩
  exact k x H5 (sameOff s4 nx b5) ⟨x, dx, t1, t2, w1, w2, rfl, hx5, h1, a1, h2, a2⟩
theorem brk_made {cB cP : Addr} {H : Hp} {kv av : V} {b : Addr} {us : List V} {ks as : List Rat} {ps : List (List Rat)} {Q : Addr → Hp → Prop} {E : XK} (hk : Rw K H kv ks) (two : 2 ≤ ks.length) (asc : ascB ks = true) (hb : SqT K H b us) (hp : PLs K cP H us ps) (lp : us.length + 1 = ks.length) (ha : Rw K H av as) (la : as.length = ks.length)
    (k : ∀ (y : Addr) (H' : Hp), Same H H' → BrkAt K cB cP H' (.ref y) ks ps as → KnF H' (.ref y) → Q y H') :
    ∀ x dx, H x = none → H dx = none → dx ≠ x → spBinitT K cB cP (.ref x :: ([kv, .ref b, av] ++ [])) (upd (upd H dx (.own x)) x (.ins cB dx [])) (fun v H2 => v = .non ∧ Q x H2) E := fun x dx nx ndx ne => by
  have s4 := mk_same (C := cB) nx ndx
  refine ⟨x, dx, kv, b, av, H, ks, us, ps, as, rfl, upd_same, s4, nx, hk, two, asc, hb, hp, lp, ha, la, fun H5 t1 t2 t3 w1 w3 b5 hx5 h1 a1 h2 p2 h3 a3 => ⟨rfl, ?_⟩⟩
  exact k x H5 (sameOff s4 nx b5) ⟨x, dx, t1, t2, t3, w1, us, w3, rfl, hx5, h1.seqT, a1, h2, p2, h3.seqT, a3⟩ ⟨x, cB, dx, t1, _, _, w1, rfl, hx5, h1⟩
theorem told_made {cT cB cP : Addr} {H : Hp} {f lv mv : V} {ks as : List Rat} {ps : List (List Rat)} {lo hi : Option Rat} {Q : Addr → Hp → Prop} {E : XK} (hf : BrkZ K cB cP H f ks ps as) (hn : KnF H f) (ol : OA K H lv lo) (om : OA K H mv hi) (bd : Bds ks ps as lo hi)
    (k : ∀ (y : Addr) (H' : Hp), Same H H' → H y = none → ToAt K cT cB cP H' (.ref y) ks ps as lo hi → Q y H') :
    ∀ x dx, H x = none → H dx = none → dx ≠ x → spTinit K cT cB cP (.ref x :: ([f, lv, mv] ++ [])) (upd (upd H dx (.own x)) x (.ins cT dx [])) (fun v H2 => v = .non ∧ Q x H2) E := fun x dx nx ndx ne => by
  have s4 := mk_same (C := cT) nx ndx
  refine ⟨x, dx, f, lv, mv, H, ks, ps, as, lo, hi, rfl, upd_same, s4, nx, hf, hn, ol, om, bd, fun H5 l m b5 hx5 o1 o2 => ⟨rfl, ?_⟩⟩
  have s5 := sameOff s4 nx b5
  exact k x H5 s5 nx ⟨x, dx, f, l, m, rfl, hx5, hf.1.same s5, hn.same s5, o1, o2⟩
theorem share_bad {cS cR : Addr} {H : Hp} {u v : V} {Q : Addr → VK} {E : XK} (h : (PlcBad K H u ∧ ErR cR H E u) ∨ (∃ xs, Rw K H u xs ∧ 0 < xs.length ∧ ascB xs = true ∧ PrtBad K H v xs.length ∧ ErR cR H E v)) :
    ∀ x dx, H x = none → H dx = none → dx ≠ x → spSinitB K cR (.ref x :: ([u, v] ++ [])) (upd (upd H dx (.own x)) x (.ins cS dx [])) (Q x) E := fun x dx nx ndx ne =>
  ⟨x, u, v, H, rfl, mk_same nx ndx, h⟩
theorem told_bad {cT cN cU cB cP : Addr} {H : Hp} {f lv mv : V} {ks as : List Rat} {ps : List (List Rat)} {Q : Addr → VK} {E : XK} (hf : BrkZ K cB cP H f ks ps as) (h : TBad K cN cU cB cP H E f lv mv ks ps as) :
    ∀ x dx, H x = none → H dx = none → dx ≠ x → spTinitB K cN cU cB cP (.ref x :: ([f, lv, mv] ++ [])) (upd (upd H dx (.own x)) x (.ins cT dx [])) (Q x) E := fun x dx nx ndx ne =>
  ⟨x, f, lv, mv, H, ks, ps, as, rfl, mk_same nx ndx, hf, h⟩
end
end Kz
set_option linter.all false
set_option maxRecDepth 100000
set_option maxHeartbeats 4000000
set_option pp.maxSteps 100
namespace Kz
open PySem PySem.Spec PyProof.Rows L2 Vl
theorem SqT.extN {K : PySem.W.Frag} {H H' : Hp} {a : Addr} {xs : List V} (g : LamX.ExtN H H') (h : SqT K H a xs) : SqT K H' a xs := by
  rcases h with (h | ⟨o, h⟩) | h
  · exact .inl (.inl (g _ _ h (fun _ z => nomatch z)))
  · exact .inl (.inr ⟨o, g _ _ h (fun _ z => nomatch z)⟩)
  · exact .inr h
theorem Same.extN {H H' : Hp} (s : Same H H') : LamX.ExtN H H' := fun b o e _ => s b o e
/-- a try as it stands -/
def TryRow (K : PySem.W.Frag) (X : Cx) (pa : Arguments) (bo : Expr) (sc : Scope) (H : Hp) (t : V) (ls : List Str) : Prop :=
  ∃ (a a2 f c' : Addr) (pm ctv : Value), t = .ref a ∧ SqT K H a [.ref f, .ref a2] ∧ SqT K H a2 (ls.map V.str) ∧ H f = some (Fz f (lmO X pa bo sc pm c' ctv)) ∧ H c' = some (LamX.CodeO c' (lmN X))
theorem TryRow.extN {K : PySem.W.Frag} {X : Cx} {pa : Arguments} {bo : Expr} {sc : Scope} {H H' : Hp} {t : V} {ls : List Str} (x : LamX.ExtN H H') (h : TryRow K X pa bo sc H t ls) : TryRow K X pa bo sc H' t ls := by
  obtain ⟨a, a2, f, c', pm, ctv, e, h1, h2, h3, h4⟩ := h
  exact ⟨a, a2, f, c', pm, ctv, e, Kz.SqT.extN x h1, Kz.SqT.extN x h2, x _ _ h3 (fun ps z => fz_ne_tbl z), x _ _ h4 LamX.codeO_ne⟩
section
variable {S : Addr → Option Obj} {B H1 H' G : Hp} {t0 : Addr} {o : HO}
theorem tk_sub (sub : Same B H1) (off : Off S H1) (s : Same (gv S H1) H') (n : H' t0 = none) : Same B (tk S (upd H' t0 o)) := fun b u e => by
  have e1 := sub b u e
  have r : S b = none := by
    cases z : S b with
    | none => rfl
    | some ob =>
      rw [off b ob z] at e1
      cases e1
  have e2 := s b u (by rw [gv_out r]; exact e1)
  rw [tk_out r, upd_ne (ne_of_none e2 n)]
  exact e2
theorem tk_back (hS : ∀ b ob, S b = some ob → H' b = some (Fz b ob)) (n : H' t0 = none) (s : Same (tk S (upd H' t0 o)) G) : Same H' (gv S G) := fun b u e => by
  cases z : S b with
  | some ob =>
    rw [gv_in z, ← hS b ob z]
    exact e
  | none =>
    rw [gv_out z]
    refine s b u ?_
    rw [tk_out z, upd_ne (ne_of_none e n)]
    exact e
end
section
variable {P : Program} {w : World} {K : PySem.W.Frag} {mg : Str → Option Value} {base : Heap} {kk : Nat} {cN cR cU : Addr} {X : Cx} {σ : L2.St} {S : Addr → Option Obj} {pa : Arguments} {bo : Expr} {sc : Scope} {tb : XK → TE} {B H1 : Hp} {t : V}
theorem try_num {what : Str} {v : V} {dt : PyData} (off : Off S H1) (sub : Same B H1) (r : TryRow K X pa bo sc H1 t ["number", what, dt.shown]) (hd : DqT K B v dt) (z : Shows dt) (F : LamF P w K mg base kk X σ S pa bo sc tb)
    (go : ∀ (D : Hp) (E : XK) (Qn : VK), Same B D → ErN cN D E what v → tb E σ D Qn) : TryAt P w K mg base kk cN cR cU (gv S H1) t := by
  obtain ⟨a, a2, f, c', pm, ctv, rfl, h1, h2, h3, h4⟩ := r
  have up : Same H1 (gv S H1) := off_same off
  refine ⟨a, a2, .ref f, _, X, σ, S, pa, bo, sc, tb, rfl, Kz.Same.seqT up h1, Kz.Same.seqT up h2, F, ⟨f, c', pm, ctv, rfl, up _ _ h3, up _ _ h4, fun b ob e => gv_in e⟩, fun H' Q s k t0 n0 => go _ _ _ (tk_sub sub off s n0) fun d G sG eG offG => ?_⟩
  have hS : ∀ b ob, S b = some ob → H' b = some (Fz b ob) := fun b ob e => s _ _ (gv_in e)
  have sB : Same B (gv S G) := ((tk_sub sub off s n0).trans sG).trans (off_same offG)
  refine ⟨d, v, rfl, .inl ⟨what, dt, rfl, hd.same sB, z.sh, z.dp, z.ln, off_same offG _ _ eG, fun t nt => ?_⟩⟩
  exact k t _ ((tk_back hS n0 sG).trans (Same.new nt)) (SqT.of upd_same)
theorem try_row {v : V} {dt : PyData} (off : Off S H1) (sub : Same B H1) (r : TryRow K X pa bo sc H1 t ["row", dt.shown]) (hd : DqT K B v dt) (z : Shows dt) (F : LamF P w K mg base kk X σ S pa bo sc tb)
    (go : ∀ (D : Hp) (E : XK) (Qn : VK), Same B D → ErR cR D E v → tb E σ D Qn) : TryAt P w K mg base kk cN cR cU (gv S H1) t := by
  obtain ⟨a, a2, f, c', pm, ctv, rfl, h1, h2, h3, h4⟩ := r
  have up : Same H1 (gv S H1) := off_same off
  refine ⟨a, a2, .ref f, _, X, σ, S, pa, bo, sc, tb, rfl, Kz.Same.seqT up h1, Kz.Same.seqT up h2, F, ⟨f, c', pm, ctv, rfl, up _ _ h3, up _ _ h4, fun b ob e => gv_in e⟩, fun H' Q s k t0 n0 => go _ _ _ (tk_sub sub off s n0) fun d G sG eG offG => ?_⟩
  have hS : ∀ b ob, S b = some ob → H' b = some (Fz b ob) := fun b ob e => s _ _ (gv_in e)
  have sB : Same B (gv S G) := ((tk_sub sub off s n0).trans sG).trans (off_same offG)
  refine ⟨d, v, rfl, .inr (.inl ⟨dt, rfl, hd.same sB, z.sh, z.dp, z.ln, off_same offG _ _ eG, fun t nt => ?_⟩)⟩
  exact k t _ ((tk_back hS n0 sG).trans (Same.new nt)) (SqT.of upd_same)
theorem try_unl {what : Str} (off : Off S H1) (sub : Same B H1) (r : TryRow K X pa bo sc H1 t ["unlike", what]) (F : LamF P w K mg base kk X σ S pa bo sc tb)
    (go : ∀ (D : Hp) (E : XK) (Qn : VK), Same B D → ErUj cU D E what → tb E σ D Qn) : TryAt P w K mg base kk cN cR cU (gv S H1) t := by
  obtain ⟨a, a2, f, c', pm, ctv, rfl, h1, h2, h3, h4⟩ := r
  have up : Same H1 (gv S H1) := off_same off
  refine ⟨a, a2, .ref f, _, X, σ, S, pa, bo, sc, tb, rfl, Kz.Same.seqT up h1, Kz.Same.seqT up h2, F, ⟨f, c', pm, ctv, rfl, up _ _ h3, up _ _ h4, fun b ob e => gv_in e⟩, fun H' Q s k t0 n0 => go _ _ _ (tk_sub sub off s n0) fun d G sG eG offG => ?_⟩
  have hS : ∀ b ob, S b = some ob → H' b = some (Fz b ob) := fun b ob e => s _ _ (gv_in e)
  refine ⟨d, .str what, rfl, .inr (.inr ⟨rfl, off_same offG _ _ eG, fun t nt => ?_⟩)⟩
  exact k t _ ((tk_back hS n0 sG).trans (Same.new nt)) (SqT.of upd_same)
theorem try_none (off : Off S H1) (sub : Same B H1) (r : TryRow K X pa bo sc H1 t ["none"]) (F : LamF P w K mg base kk X σ S pa bo sc tb)
    (go : ∀ (D : Hp) (E : XK) (Qn : VK), Same B D → (∀ u G, Same D G → Qn u G) → tb E σ D Qn) : TryAt P w K mg base kk cN cR cU (gv S H1) t := by
  obtain ⟨a, a2, f, c', pm, ctv, rfl, h1, h2, h3, h4⟩ := r
  have up : Same H1 (gv S H1) := off_same off
  refine ⟨a, a2, .ref f, _, X, σ, S, pa, bo, sc, tb, rfl, Kz.Same.seqT up h1, Kz.Same.seqT up h2, F, ⟨f, c', pm, ctv, rfl, up _ _ h3, up _ _ h4, fun b ob e => gv_in e⟩, fun H' Q s k t0 n0 => go _ _ _ (tk_sub sub off s n0) fun u G sG offG => ?_⟩
  have hS : ∀ b ob, S b = some ob → H' b = some (Fz b ob) := fun b ob e => s _ _ (gv_in e)
  have n0S : S t0 = none := by
    cases e : S t0 with
    | none => rfl
    | some ob =>
      rw [hS t0 ob e] at n0
      cases n0
  refine ⟨.ref t0, rfl, k t0 _ (tk_back hS n0 sG) ?_⟩
  refine SqT.of (off_same offG _ _ (sG _ _ ?_))
  rw [tk_out n0S]
  exact upd_same
end
/-! ### the rows as they are written -/
section
variable {P : Program} {w : World} {K : PySem.W.Frag} {mg : Str → Option Value} {base : Heap}
def spNf (K : PySem.W.Frag) : Sp := fun vs H Q _ => ∃ what v dt, vs = [.str what, v] ∧ DqT K H v dt ∧ Shows dt ∧ ∀ t H', Same H H' → SqT K H' t [.str "number", .str what, .str dt.shown] → Q (.ref t) H'
theorem sc67f : FnScope ["_law_what", "_law_number"] ["_law_what", "_law_number"] (defScope (top 67)) := ⟨rfl, rfl, rfl, by decide +kernel, rfl, by decide +kernel, by decide +kernel⟩
theorem ok_nf (T : Tj P K mg) : FnG P w K mg base CX0 1 T.l_nfault.f T.l_nfault.fd ["_law_what", "_law_number"] (spNf K) := by
  refine fnG_of T.l_nfault.fn sc67f (fun vs H Q E h => ?_) (fun cdv A outer s H vs Q E hg hr h => ?_)
  · obtain ⟨what, v, dt, rfl, _⟩ := h
    rfl
  obtain ⟨what, v, dt, rfl, hd, z, k⟩ := h
  have hu := hr.units
  refine ⟨_, pss_one (ps_ret (pe_tup (pa_cons pe_str (pa_cons (pv 0) (pa_cons (pe_callB (call_reprTK (K := K) rfl hg hu) (by rfl) T.mRepr boot_repr' (pa_cons (pv 1) pa_nil)) pa_nil))))), ?_⟩
  exact ⟨_, rfl, _, rfl, v, dt, rfl, hd, z.sh, z.dp, z.ln, (by show 3 ≤ sizeLine; decide), fun t nt => k t _ (Same.new nt) (SqT.of upd_same)⟩
section
variable {X : Cx} {Tl : List (Addr × Str)} {pa : Arguments} {bo : Expr} {sc : Scope} {B H : Hp} {σ : L2.St} {Q : VK}
/-- the lambda and the tuple about it -/
theorem el_of {ls : List Str} {t2 : TE} (tabs : LamX.Tabs Tl H)
    (h2 : ∀ (H1 : Hp) (Q2 : VK), LamX.ExtN H H1 → LamX.Tabs Tl H1 → (∀ a2 H2, Same H1 H2 → SqT K H2 a2 (ls.map V.str) → Q2 (.ref a2) H2) → t2 σ H1 Q2)
    (k : ∀ t H', LamX.ExtN H H' → LamX.Tabs Tl H' → TryRow K X pa bo sc H' t ls → Q t H') :
    tTup (tCons (tLamV Tl (lmN X) (lmO X pa bo sc)) (tCons t2 tNil)) σ H Q := by
  refine ⟨tabs, fun f c' pm ctv H1 x1 tb1 nf hc => ?_⟩
  have sf := Same.new (o := Fz f (lmO X pa bo sc pm c' ctv)) nf
  have ef : upd H1 f (Fz f (lmO X pa bo sc pm c' ctv)) f = some (Fz f (lmO X pa bo sc pm c' ctv)) := upd_same
  have hc2 := sf _ _ hc
  have x2 := x1.trans (Kz.Same.extN sf)
  have tb2 := Kz.Same.tabs sf tb1
  generalize upd H1 f (Fz f (lmO X pa bo sc pm c' ctv)) = H2 at sf ef hc2 x2 tb2 ⊢
  refine h2 H2 _ x2 tb2 fun a2 H3 s3 ha2 => ?_
  refine ⟨(by show 2 ≤ sizeLine; decide), fun a na => ?_⟩
  have s4 := Same.new (o := .tup [.ref f, .ref a2]) na
  have s34 := s3.trans s4
  exact k _ _ (x2.trans (Kz.Same.extN s34)) (Kz.Same.tabs s34 tb2) ⟨a, a2, f, c', pm, ctv, rfl, SqT.of upd_same, Kz.Same.seqT s4 ha2, s34 _ _ ef, s34 _ _ hc2⟩
theorem el_row {i : Nat} {v : V} {dt : PyData} (nt : ∀ b o, B b = some o → ∀ ps, o ≠ .tbl ps) (sub : Same B H) (tabs : LamX.Tabs Tl H) (hi : σ[i]? = some (some v)) (hd : DqT K B v dt) (z : Shows dt)
    (k : ∀ t H', LamX.ExtN H H' → LamX.Tabs Tl H' → TryRow K X pa bo sc H' t ["row", dt.shown] → Q t H') :
    tTup (tCons (tLamV Tl (lmN X) (lmO X pa bo sc)) (tCons (tTup (tCons (tC (.str "row")) (tCons (tCB (rReprT K) (tCons (tVar i) tNil)) tNil))) tNil)) σ H Q :=
  el_of tabs (fun H1 Q2 x tb1 k2 => ⟨v, hi, v, dt, rfl, hd.same (subN sub nt x), z.sh, z.dp, z.ln, (by show 2 ≤ sizeLine; decide), fun t n => k2 t _ (Same.new n) (SqT.of upd_same)⟩) k
theorem el_two {a b : Str} (tabs : LamX.Tabs Tl H) (k : ∀ t H', LamX.ExtN H H' → LamX.Tabs Tl H' → TryRow K X pa bo sc H' t [a, b] → Q t H') :
    tTup (tCons (tLamV Tl (lmN X) (lmO X pa bo sc)) (tCons (tTup (tCons (tC (.str a)) (tCons (tC (.str b)) tNil))) tNil)) σ H Q :=
  el_of tabs (fun H1 Q2 x tb1 k2 => ⟨(by show 2 ≤ sizeLine; decide), fun t n => k2 t _ (Same.new n) (SqT.of upd_same)⟩) k
theorem el_one {a : Str} (tabs : LamX.Tabs Tl H) (k : ∀ t H', LamX.ExtN H H' → LamX.Tabs Tl H' → TryRow K X pa bo sc H' t [a] → Q t H') :
    tTup (tCons (tLamV Tl (lmN X) (lmO X pa bo sc)) (tCons (tTup (tCons (tC (.str a)) tNil)) tNil)) σ H Q :=
  el_of tabs (fun H1 Q2 x tb1 k2 => ⟨(by show 1 ≤ sizeLine; decide), fun t n => k2 t _ (Same.new n) (SqT.of upd_same)⟩) k
theorem el_num {what : Str} {tn : TE} {E : XK} {dt : PyData} (nt : ∀ b o, B b = some o → ∀ ps, o ≠ .tbl ps) (sub : Same B H) (tabs : LamX.Tabs Tl H) (z : Shows dt)
    (hn : ∀ (H1 : Hp) (Qv : VK), Same B H1 → (∀ v H2, Same H1 H2 → DqT K H2 v dt → Qv v H2) → tn σ H1 Qv)
    (k : ∀ t H', LamX.ExtN H H' → LamX.Tabs Tl H' → TryRow K X pa bo sc H' t ["number", what, dt.shown] → Q t H') :
    tTup (tCons (tLamV Tl (lmN X) (lmO X pa bo sc)) (tCons (tCall (spNf K) [] E (tCons (tC (.str what)) (tCons tn tNil))) tNil)) σ H Q :=
  el_of tabs (fun H1 Q2 x tb1 k2 => hn H1 _ (subN sub nt x) fun v H2 s2 hd => ⟨what, v, dt, rfl, hd, z, fun t H3 s3 ht => k2 t H3 (s2.trans s3) ht⟩) k
theorem nv_var {i : Nat} {v : V} {dt : PyData} (hi : σ[i]? = some (some v)) (hd : DqT K B v dt) : ∀ (H1 : Hp) (Qv : VK), Same B H1 → (∀ v H2, Same H1 H2 → DqT K H2 v dt → Qv v H2) → tVar i σ H1 Qv := fun H1 Qv s k => ⟨v, hi, k v H1 (Same.refl _) (hd.same s)⟩
end
end
end Kz
set_option linter.all false
set_option maxRecDepth 100000
set_option maxHeartbeats 4000000
set_option pp.maxSteps 100
namespace Kz
open PySem PySem.Spec PyProof.Rows L2 Vl
theorem AlA.cons {K : PySem.W.Frag} {H : Hp} {u : V} {us : List V} {n m : Nat} {q : Rat} {qs : List Rat} (a : ArgQ K H u n m q) (h : AlA K H us n m qs) : AlA K H (u :: us) n m (q :: qs) := by
  refine ⟨congrArg (· + 1) h.1, fun i v r e1 e2 => ?_⟩
  match i, e1, e2 with
  | 0, e1, e2 =>
    cases e1
    cases e2
    exact a
  | i + 1, e1, e2 => exact h.2 i v r e1 e2
theorem RBs.nil {K : PySem.W.Frag} {H : Hp} : RBs K H [] [] := ⟨rfl, fun i u b e _ => by cases e⟩
theorem RBs.cons {K : PySem.W.Frag} {H : Hp} {u : V} {us : List V} {b : Bool} {bs : List Bool} (a : RB K H u b) (h : RBs K H us bs) : RBs K H (u :: us) (b :: bs) := by
  refine ⟨congrArg (· + 1) h.1, fun i v r e1 e2 => ?_⟩
  match i, e1, e2 with
  | 0, e1, e2 =>
    cases e1
    cases e2
    exact a
  | i + 1, e1, e2 => exact h.2 i v r e1 e2
section
variable {K : PySem.W.Frag} {H : Hp} {a b : Addr} {x y : V} {i j : Int}
theorem rb_int : RB K H (.int i) true := ⟨"int", true, ty_int, (fun e => by cases e), rfl⟩
theorem rb_odd {v : V} (h : Odd K H v) : RB K H v false := by
  obtain ⟨t, ty, n, p⟩ := h
  exact ⟨t, false, ty, fun _ => p, by rw [n]; rfl⟩
theorem jodd_non : Odd K H .non := ⟨_, ty_non, by decide, .no ty_non (by decide) (by decide)⟩
theorem jodd_bl {c : Bool} : Odd K H (.bl c) := ⟨_, ty_bl, by decide, .no ty_bl (by decide) (by decide)⟩
theorem jodd_str {s : Str} : Odd K H (.str s) := ⟨_, ty_str, by decide, .no ty_str (by decide) (by decide)⟩
theorem jodd_dic {kvs : List (Key × V)} (h : H a = some (.dK kvs)) : Odd K H (.ref a) := ⟨_, ty_dic h, by decide, .no (ty_dic h) (by decide) (by decide)⟩
theorem jodd_two (h : Sq K H a [.int i, .int j]) (n : ¬ j > 0) : Odd K H (.ref a) := by
  have p := Pr.two h
  rw [decide_eq_false n] at p
  obtain ⟨t, ty, e1, e2⟩ := h.ty
  rcases h with h | h
  · exact ⟨_, ty_lst h, by decide, p⟩
  · exact ⟨_, ty_tup h, by decide, p⟩
theorem jodd_len {us : List V} (h : Sq K H a us) (n : us.length ≠ 2) : Odd K H (.ref a) := by
  rcases h with h | h
  · exact ⟨_, ty_lst h, by decide, .len (.inl h) n⟩
  · exact ⟨_, ty_tup h, by decide, .len (.inr h) n⟩
theorem notRow_odd {t : String} (h : TyN K H x t) (e1 : (t == "tuple") = false) (e2 : (t == "list") = false) : NotRow K H x := .inl ⟨t, h, e1, e2⟩
theorem notRow_two {c d : Bool} (h : Sq K H a [x, y]) (r1 : RB K H x c) (r2 : RB K H y d) (f : ([c, d] : List Bool).all id = false) : NotRow K H (.ref a) := .inr ⟨a, _, _, rfl, h, by show 2 ≤ 1000; decide, .cons r1 (.cons r2 .nil), f⟩
theorem notRow_one (h : Sq K H a [x]) (r1 : RB K H x false) : NotRow K H (.ref a) := .inr ⟨a, _, _, rfl, h, by show 1 ≤ 1000; decide, .cons r1 .nil, rfl⟩
theorem arg_i {n m : Nat} (h : i.natAbs < 2 ^ n) (hm : 0 < m) : ArgQ K H (.int i) n m (i : Rat) := arg_int h hm
theorem arg_p {n m : Nat} (h : Sq K H a [.int i, .int j]) (p : 0 < j) (hi : i.natAbs < 2 ^ n) (hj : j.natAbs < 2 ^ m) : ArgQ K H (.ref a) n m (Rat.divInt i j) := ⟨i, j, .two h p, rfl, hi, hj⟩
theorem rw_of {us : List V} {qs : List Rat} {n m : Nat} (h : Sq K H a us) (al : AlA K H us n m qs) (hn : n ≤ 2000) (hm : m ≤ 200) (l : us.length ≤ 20) : Rw K H (.ref a) qs := ⟨a, us, n, m, rfl, h, al, hn, hm, l⟩
theorem dqT_dic (h : H a = some (.dK [])) : DqT K H (.ref a) (.dict []) := .inl (.dic h .nil)
theorem dqT_lst {ys : List V} {ds : List PyData} (h : H a = some (.lst ys)) (d : DqAll K H ys ds) : DqT K H (.ref a) (.list ds) := .inr ⟨a, ys, ds, rfl, h, d, rfl⟩
theorem dqT_tup {ys : List V} {ds : List PyData} (h : SqT K H a ys) (d : DqAll K H ys ds) : DqT K H (.ref a) (.tuple ds) := .inl (.tup h d)
theorem dq_ii (h : SqT K H a [.int i, .int j]) : Dq K H (.ref a) (.tuple [.int i, .int j]) := .tup h (.cons (.int _) (.cons (.int _) .nil))
end
theorem smS {d : PyData} (h1 : d.showable = true) (h2 : d.depth ≤ 5) (h3 : d.leavesShort 1921 = true) (h4 : d.bulk ≤ 2000) : Shows d := (⟨h1, h2, h3, h4⟩ : Small d).shows
theorem sh_non : Shows .none := smS (by decide +kernel) (by decide +kernel) (by decide +kernel) (by decide +kernel)
theorem sh_bl {b : Bool} : Shows (.bool b) := by cases b <;> exact smS (by decide +kernel) (by decide +kernel) (by decide +kernel) (by decide +kernel)
/-- bad rows of places -/
def BadP (K : PySem.W.Frag) (B : Hp) (v : V) : Prop := PlcBad K B v ∧ ∃ dt, DqT K B v dt ∧ Shows dt
/-- bad rows of two parts -/
def BadQ (K : PySem.W.Frag) (B : Hp) (v : V) : Prop := PrtBad K B v 2 ∧ ∃ dt, DqT K B v dt ∧ Shows dt
section
variable {K : PySem.W.Frag} {B : Hp} {v : V} {e a1 a2 c1 c2 c a3 a4 a5 a6 a7 a8 : Addr}
theorem bad_places (m : v ∈ [V.non, .int 5, .ref e, .str "01", .ref a1, .ref a2, .ref c, .ref a3, .ref a4, .ref a5, .ref a6, .ref a7])
    (h0 : B e = some (.tup [])) (h1 : B a1 = some (.tup [.int 1, .int 0])) (h2 : B a2 = some (.tup [.int 0, .int 0])) (hc1 : B c1 = some (.tup [.int 1, .int 2])) (hc2 : B c2 = some (.tup [.int 2, .int 4])) (hc : B c = some (.tup [.ref c1, .ref c2]))
    (h3 : B a3 = some (.lst [.int 0, .non])) (h4 : B a4 = some (.tup [.int 0, .bl true])) (h5 : B a5 = some (.dK [])) (h6 : B a6 = some (.tup [.int 0, .str "1"])) (h8 : B a8 = some (.tup [.int 1, .int 0])) (h7 : B a7 = some (.lst [.ref a8])) : BadP K B v := by
  simp only [List.mem_cons, List.not_mem_nil, or_false] at m
  rcases m with rfl | rfl | rfl | rfl | rfl | rfl | rfl | rfl | rfl | rfl | rfl | rfl
  · exact ⟨.inl (notRow_odd ty_non (by decide) (by decide)), _, .inl .non, sh_non⟩
  · exact ⟨.inl (notRow_odd ty_int (by decide) (by decide)), _, .inl (.int 5), smS (by decide +kernel) (by decide +kernel) (by decide +kernel) (by decide +kernel)⟩
  · exact ⟨.inr ⟨[], rw_of (n := 1) (m := 1) (.inr (SqT.of h0)) .nil (by decide) (by decide) (by decide), .inl rfl⟩, _, dqT_tup (SqT.of h0) .nil, smS (by decide +kernel) (by decide +kernel) (by decide +kernel) (by decide +kernel)⟩
  · exact ⟨.inl (notRow_odd ty_str (by decide) (by decide)), _, .inl (.str _), smS (by decide +kernel) (by decide +kernel) (by decide +kernel) (by decide +kernel)⟩
  · exact ⟨.inr ⟨[((1 : Int) : Rat), ((0 : Int) : Rat)], rw_of (n := 3) (m := 1) (.inr (SqT.of h1)) (.cons (arg_i (by decide) (by decide)) (.cons (arg_i (by decide) (by decide)) .nil)) (by decide) (by decide) (by show 2 ≤ 20; decide), .inr ⟨by decide, by decide +kernel⟩⟩, _, dqT_tup (SqT.of h1) (.cons (.int _) (.cons (.int _) .nil)), smS (by decide +kernel) (by decide +kernel) (by decide +kernel) (by decide +kernel)⟩
  · exact ⟨.inr ⟨[((0 : Int) : Rat), ((0 : Int) : Rat)], rw_of (n := 3) (m := 1) (.inr (SqT.of h2)) (.cons (arg_i (by decide) (by decide)) (.cons (arg_i (by decide) (by decide)) .nil)) (by decide) (by decide) (by show 2 ≤ 20; decide), .inr ⟨by decide, by decide +kernel⟩⟩, _, dqT_tup (SqT.of h2) (.cons (.int _) (.cons (.int _) .nil)), smS (by decide +kernel) (by decide +kernel) (by decide +kernel) (by decide +kernel)⟩
  · exact ⟨.inr ⟨[Rat.divInt 1 2, Rat.divInt 2 4], rw_of (n := 3) (m := 4) (.inr (SqT.of hc)) (.cons (arg_p (.inr (SqT.of hc1)) (by decide) (by decide) (by decide)) (.cons (arg_p (.inr (SqT.of hc2)) (by decide) (by decide) (by decide)) .nil)) (by decide) (by decide) (by show 2 ≤ 20; decide), .inr ⟨by decide, by decide +kernel⟩⟩, _, dqT_tup (SqT.of hc) (.cons (dq_ii (SqT.of hc1)) (.cons (dq_ii (SqT.of hc2)) .nil)), smS (by decide +kernel) (by decide +kernel) (by decide +kernel) (by decide +kernel)⟩
  · exact ⟨.inl (notRow_two (.inl (SqL.of h3)) rb_int (rb_odd jodd_non) rfl), _, dqT_lst h3 (.cons (.int _) (.cons .non .nil)), smS (by decide +kernel) (by decide +kernel) (by decide +kernel) (by decide +kernel)⟩
  · exact ⟨.inl (notRow_two (.inr (SqT.of h4)) rb_int (rb_odd jodd_bl) rfl), _, dqT_tup (SqT.of h4) (.cons (.int _) (.cons (.bl _) .nil)), smS (by decide +kernel) (by decide +kernel) (by decide +kernel) (by decide +kernel)⟩
  · exact ⟨.inl (notRow_odd (ty_dic h5) (by decide) (by decide)), _, dqT_dic h5, smS (by decide +kernel) (by decide +kernel) (by decide +kernel) (by decide +kernel)⟩
  · exact ⟨.inl (notRow_two (.inr (SqT.of h6)) rb_int (rb_odd jodd_str) rfl), _, dqT_tup (SqT.of h6) (.cons (.int _) (.cons (.str _) .nil)), smS (by decide +kernel) (by decide +kernel) (by decide +kernel) (by decide +kernel)⟩
  · exact ⟨.inl (notRow_one (.inl (SqL.of h7)) (rb_odd (jodd_two (.inr (SqT.of h8)) (by decide)))), _, dqT_lst h7 (.cons (dq_ii (SqT.of h8)) .nil), smS (by decide +kernel) (by decide +kernel) (by decide +kernel) (by decide +kernel)⟩
theorem bad_parts (m : v ∈ [V.non, .ref e, .ref a1, .ref c, .ref a2, .ref a3, .str "ab", .ref a4, .ref a5, .ref a6])
    (h0 : B e = some (.tup [])) (h1 : B a1 = some (.tup [.int 1])) (hc1 : B c1 = some (.tup [.int 1, .int 2])) (hc2 : B c2 = some (.tup [.int 1, .int 3])) (hc : B c = some (.tup [.ref c1, .ref c2])) (h2 : B a2 = some (.tup [.int 2, .int (-1)])) (h3 : B a3 = some (.tup [.int 0, .int 1]))
    (h7 : B a7 = some (.tup [.int 1, .int 2])) (h8 : B a8 = some (.tup [.int (10 ^ 30 - 1), .int (2 * 10 ^ 30)])) (h4 : B a4 = some (.tup [.ref a7, .ref a8])) (h5 : B a5 = some (.tup [.int 1, .non])) (h6 : B a6 = some (.tup [.bl true, .int 0])) : BadQ K B v := by
  simp only [List.mem_cons, List.not_mem_nil, or_false] at m
  rcases m with rfl | rfl | rfl | rfl | rfl | rfl | rfl | rfl | rfl | rfl
  · exact ⟨.inl (notRow_odd ty_non (by decide) (by decide)), _, .inl .non, sh_non⟩
  · exact ⟨.inr ⟨[], rw_of (n := 1) (m := 1) (.inr (SqT.of h0)) .nil (by decide) (by decide) (by decide), .inl (by decide)⟩, _, dqT_tup (SqT.of h0) .nil, smS (by decide +kernel) (by decide +kernel) (by decide +kernel) (by decide +kernel)⟩
  · exact ⟨.inr ⟨[((1 : Int) : Rat)], rw_of (n := 3) (m := 1) (.inr (SqT.of h1)) (.cons (arg_i (by decide) (by decide)) .nil) (by decide) (by decide) (by show 1 ≤ 20; decide), .inl (by decide)⟩, _, dqT_tup (SqT.of h1) (.cons (.int _) .nil), smS (by decide +kernel) (by decide +kernel) (by decide +kernel) (by decide +kernel)⟩
  · exact ⟨.inr ⟨[Rat.divInt 1 2, Rat.divInt 1 3], rw_of (n := 3) (m := 4) (.inr (SqT.of hc)) (.cons (arg_p (.inr (SqT.of hc1)) (by decide) (by decide) (by decide)) (.cons (arg_p (.inr (SqT.of hc2)) (by decide) (by decide) (by decide)) .nil)) (by decide) (by decide) (by show 2 ≤ 20; decide), .inr ⟨rfl, by decide +kernel⟩⟩, _, dqT_tup (SqT.of hc) (.cons (dq_ii (SqT.of hc1)) (.cons (dq_ii (SqT.of hc2)) .nil)), smS (by decide +kernel) (by decide +kernel) (by decide +kernel) (by decide +kernel)⟩
  · exact ⟨.inr ⟨[((2 : Int) : Rat), ((-1 : Int) : Rat)], rw_of (n := 3) (m := 1) (.inr (SqT.of h2)) (.cons (arg_i (by decide) (by decide)) (.cons (arg_i (by decide) (by decide)) .nil)) (by decide) (by decide) (by show 2 ≤ 20; decide), .inr ⟨rfl, by decide +kernel⟩⟩, _, dqT_tup (SqT.of h2) (.cons (.int _) (.cons (.int _) .nil)), smS (by decide +kernel) (by decide +kernel) (by decide +kernel) (by decide +kernel)⟩
  · exact ⟨.inr ⟨[((0 : Int) : Rat), ((1 : Int) : Rat)], rw_of (n := 3) (m := 1) (.inr (SqT.of h3)) (.cons (arg_i (by decide) (by decide)) (.cons (arg_i (by decide) (by decide)) .nil)) (by decide) (by decide) (by show 2 ≤ 20; decide), .inr ⟨rfl, by decide +kernel⟩⟩, _, dqT_tup (SqT.of h3) (.cons (.int _) (.cons (.int _) .nil)), smS (by decide +kernel) (by decide +kernel) (by decide +kernel) (by decide +kernel)⟩
  · exact ⟨.inl (notRow_odd ty_str (by decide) (by decide)), _, .inl (.str _), smS (by decide +kernel) (by decide +kernel) (by decide +kernel) (by decide +kernel)⟩
  · exact ⟨.inr ⟨[Rat.divInt 1 2, Rat.divInt (10 ^ 30 - 1) (2 * 10 ^ 30)], rw_of (n := 110) (m := 110) (.inr (SqT.of h4)) (.cons (arg_p (.inr (SqT.of h7)) (by decide) (by decide) (by decide)) (.cons (arg_p (.inr (SqT.of h8)) (by decide) (by decide) (by decide)) .nil)) (by decide) (by decide) (by show 2 ≤ 20; decide), .inr ⟨rfl, by decide +kernel⟩⟩, _, dqT_tup (SqT.of h4) (.cons (dq_ii (SqT.of h7)) (.cons (dq_ii (SqT.of h8)) .nil)), smS (by decide +kernel) (by decide +kernel) (by decide +kernel) (by decide +kernel)⟩
  · exact ⟨.inl (notRow_two (.inr (SqT.of h5)) rb_int (rb_odd jodd_non) rfl), _, dqT_tup (SqT.of h5) (.cons (.int _) (.cons .non .nil)), smS (by decide +kernel) (by decide +kernel) (by decide +kernel) (by decide +kernel)⟩
  · exact ⟨.inl (notRow_two (.inr (SqT.of h6)) (rb_odd jodd_bl) rb_int rfl), _, dqT_tup (SqT.of h6) (.cons (.bl _) (.cons (.int _) .nil)), smS (by decide +kernel) (by decide +kernel) (by decide +kernel) (by decide +kernel)⟩
end
end Kz
set_option linter.all false
set_option maxRecDepth 100000
set_option maxHeartbeats 4000000
set_option pp.maxSteps 100
namespace Kz
open PySem PySem.Spec PyProof.Rows L2 Vl
section
variable {σ : L2.St} {H : Hp} {Q : List V → Hp → Prop} {Q1 : VK} {el : TE} {ts : TA}
theorem lst_in (h : ts σ H fun xs H1 => xs.length ≤ sizeLine ∧ ∀ p, H1 p = none → Q1 (.ref p) (upd H1 p (.lst xs))) : tLst ts σ H Q1 := h
theorem lst_el (h : el σ H fun v H1 => ts σ H1 fun vs H2 => Q (v :: vs) H2) : tCons el ts σ H Q := h
end
theorem tk_fin {S : Addr → Option Obj} {H1 H' : Hp} (off : Off S H1) (s : Same (gv S H1) H') : Same H1 (tk S H') := fun b u e => by
  have r : S b = none := by
    cases z : S b with
    | none => rfl
    | some ob =>
      rw [off b ob z] at e
      cases e
  rw [tk_out r]
  exact s b u (by rw [gv_out r]; exact e)
theorem butN_ext {p : Addr} {H H1 H2 : Hp} (b : ButN p H H1) (x : LamX.ExtN H1 H2) : ButN p H H2 := fun c o e n nt => x c o (b c o e n nt) nt
theorem butN_of {p : Addr} {H H1 : Hp} (b : But p H H1) : ButN p H H1 := fun c o e n _ => b c o e n
theorem pen_ext {p c : Addr} {n : Nat} {H H1 : Hp} (pen : Pen H p c n) (x : LamX.ExtN H H1) : Pen H1 p c n := by
  obtain ⟨ns, i, d, m, f, e1, e2, r⟩ := pen
  exact ⟨ns, i, d, m, f, x _ _ e1 (fun _ z => nomatch z), x _ _ e2 (fun _ z => nomatch z), r⟩
section
variable {P : Program} {w : World} {K : PySem.W.Frag} {mg : Str → Option Value} {base : Heap}
def spShr (Tl : List (Addr × Str)) : Sp := fun vs H Q _ => ∃ (p c : Addr) (n : Nat), vs = [.ref p] ∧ Pen H p c n ∧ n ≤ 100000 ∧ LamX.Tabs Tl H ∧
  ∀ H', Pen H' p c (n + 2) → ButN p H H' → LamX.Tabs Tl H' → Q (.bl true) H'
abbrev nShj : List Str := ["_law_pen_here", "_law_some", "_law_places", "_law_tiny", "_law_parts", "_law_tries"]
theorem sc69l : FnScope nShj ["_law_pen_here"] (defScope (top 69)) := ⟨rfl, rfl, rfl, by decide +kernel, rfl, by decide +kernel, by decide +kernel⟩
theorem ok_shr (T : Tlm P K mg) (TB : LamX.TabB base mg T.c69 T.P69) : FnG P w K mg base CX0 15 T.l_shr.f T.l_shr.fd ["_law_pen_here"] (spShr T.Tl) := by
  have Gpick : FnOk P w K mg base CX0 2 T.l_pick.f T.l_pick.fd ["_law_pen_here", "_law_some"] spPick := ok_lpick T.toTu
  have Gmix : FnOk P w K mg base (CX P w) 9 T.mixed.f T.mixed.fd ["shares", "parts"] (spMixedB K T.cR) := ok_mixedB T.toTj
  refine fnGC0 T.f69 sc69l (fun vs H Q E h => ?_) (fun A outer s H vs Q E hg hr h => ?_)
  · obtain ⟨p, c, n, rfl, _⟩ := h
    rfl
  obtain ⟨p, c, n, rfl, pen, hn, tabs, k⟩ := h
  have hr2 : Room 2 _ := hr.mono (by decide)
  have hu := hr.units
  refine ⟨_, (pss_cons (ps_set (i := 1) sc69l.nd rfl (.inl rfl) (pe_lst (pa_cons pe_non (pa_cons pe_int (pa_cons (pe_tup pa_nil) (pa_cons pe_str (pa_cons (pe_tup (pa_cons pe_int (pa_cons pe_int pa_nil))) (pa_cons (pe_tup (pa_cons pe_int (pa_cons pe_int pa_nil))) (pa_cons (pe_tup (pa_cons (pe_tup (pa_cons pe_int (pa_cons pe_int pa_nil))) (pa_cons (pe_tup (pa_cons pe_int (pa_cons pe_int pa_nil))) pa_nil))) (pa_cons (pe_lst (pa_cons pe_int (pa_cons pe_non pa_nil))) (pa_cons (pe_tup (pa_cons pe_int (pa_cons pe_bl pa_nil))) (pa_cons pe_dnewK (pa_cons (pe_tup (pa_cons pe_int (pa_cons pe_str pa_nil))) (pa_cons (pe_lst (pa_cons (pe_tup (pa_cons pe_int (pa_cons pe_int pa_nil))) pa_nil)) pa_nil))))))))))))))
      (pss_cons (ps_set (i := 2) sc69l.nd rfl (.inr rfl) (T.l_pick.c0 Gpick hr2 (pa_cons (pv 0) (pa_cons (pv 1) pa_nil))))
      (pss_cons (ps_set (i := 3) sc69l.nd rfl (.inl rfl) (pe_tup (pa_cons (pe_op op_sub (pe_op op_pow pe_int pe_int) pe_int) (pa_cons (pe_op op_mul pe_int (pe_op op_pow pe_int pe_int)) pa_nil))))
      (pss_cons (ps_set (i := 1) sc69l.nd rfl (.inl rfl) (pe_lst (pa_cons pe_non (pa_cons (pe_tup pa_nil) (pa_cons (pe_tup (pa_cons pe_int pa_nil)) (pa_cons (pe_tup (pa_cons (pe_tup (pa_cons pe_int (pa_cons pe_int pa_nil))) (pa_cons (pe_tup (pa_cons pe_int (pa_cons pe_int pa_nil))) pa_nil))) (pa_cons (pe_tup (pa_cons pe_int (pa_cons (pe_un un_neg pe_int) pa_nil))) (pa_cons (pe_tup (pa_cons pe_int (pa_cons pe_int pa_nil))) (pa_cons pe_str (pa_cons (pe_tup (pa_cons (pe_tup (pa_cons pe_int (pa_cons pe_int pa_nil))) (pa_cons (pv 3) pa_nil))) (pa_cons (pe_tup (pa_cons pe_int (pa_cons pe_non pa_nil))) (pa_cons (pe_tup (pa_cons pe_bl (pa_cons pe_int pa_nil))) pa_nil))))))))))))
      (pss_cons (ps_set (i := 4) sc69l.nd rfl (.inr rfl) (T.l_pick.c0 Gpick hr2 (pa_cons (pv 0) (pa_cons (pv 1) pa_nil))))
      (pss_cons (ps_set (i := 5) sc69l.nd rfl (.inl rfl) (pe_lst (pa_cons (pe_tup (pa_cons (pe_lamV TB rfl T.m69 T.h69 (LamX.lamS_by (sc := defScope (top 69)) (by decide +kernel))) (pa_cons (pe_tup (pa_cons pe_str (pa_cons (pe_callB (call_reprTK (K := K) rfl hg hu) (by rfl) T.mRepr boot_repr' (pa_cons (pv 2) pa_nil)) pa_nil))) pa_nil))) (pa_cons (pe_tup (pa_cons (pe_lamV TB rfl T.m69 T.h69 (LamX.lamS_by (sc := defScope (top 69)) (by decide +kernel))) (pa_cons (pe_tup (pa_cons pe_str (pa_cons (pe_callB (call_reprTK (K := K) rfl hg hu) (by rfl) T.mRepr boot_repr' (pa_cons (pv 4) pa_nil)) pa_nil))) pa_nil))) (pa_cons (pe_tup (pa_cons (pe_lamV TB rfl T.m69 T.h69 (LamX.lamS_by (sc := defScope (top 69)) (by decide +kernel))) (pa_cons (pe_tup (pa_cons pe_str (pa_cons (pe_callB (call_reprTK (K := K) rfl hg hu) (by rfl) T.mRepr boot_repr' (pa_cons (pv 4) pa_nil)) pa_nil))) pa_nil))) pa_nil)))))
      (pss_one (ps_ret (pe_callV (ok_allr (kk := 11) T.toTj) hg hr rfl T.l_allr.g T.l_allr.fn.kp T.l_allr.b (pa_cons (pv 5) pa_nil) (fun _ => rfl) ⟨rfl, rfl⟩))))))))), ?_⟩
  refine ⟨(by show 0 ≤ sizeLine; decide), fun ze nze => ?_⟩
  have s1 := Same.new (o := (.tup [] : HO)) nze
  have e1 : upd H ze (.tup []) ze = some (.tup []) := upd_same
  generalize upd H ze (.tup []) = H1 at s1 e1 ⊢
  refine ⟨(by show 2 ≤ sizeLine; decide), fun z1 nz1 => ?_⟩
  have s2 := Same.new (o := (.tup [.int 1, .int 0] : HO)) nz1
  have e2 : upd H1 z1 (.tup [.int 1, .int 0]) z1 = some (.tup [.int 1, .int 0]) := upd_same
  generalize upd H1 z1 (.tup [.int 1, .int 0]) = H2 at s2 e2 ⊢
  refine ⟨(by show 2 ≤ sizeLine; decide), fun z2 nz2 => ?_⟩
  have s3 := Same.new (o := (.tup [.int 0, .int 0] : HO)) nz2
  have e3 : upd H2 z2 (.tup [.int 0, .int 0]) z2 = some (.tup [.int 0, .int 0]) := upd_same
  generalize upd H2 z2 (.tup [.int 0, .int 0]) = H3 at s3 e3 ⊢
  refine ⟨(by show 2 ≤ sizeLine; decide), fun zc1 nzc1 => ?_⟩
  have s4 := Same.new (o := (.tup [.int 1, .int 2] : HO)) nzc1
  have e4 : upd H3 zc1 (.tup [.int 1, .int 2]) zc1 = some (.tup [.int 1, .int 2]) := upd_same
  generalize upd H3 zc1 (.tup [.int 1, .int 2]) = H4 at s4 e4 ⊢
  refine ⟨(by show 2 ≤ sizeLine; decide), fun zc2 nzc2 => ?_⟩
  have s5 := Same.new (o := (.tup [.int 2, .int 4] : HO)) nzc2
  have e5 : upd H4 zc2 (.tup [.int 2, .int 4]) zc2 = some (.tup [.int 2, .int 4]) := upd_same
  generalize upd H4 zc2 (.tup [.int 2, .int 4]) = H5 at s5 e5 ⊢
  refine ⟨(by show 2 ≤ sizeLine; decide), fun zc nzc => ?_⟩
  have s6 := Same.new (o := (.tup [.ref zc1, .ref zc2] : HO)) nzc
  have e6 : upd H5 zc (.tup [.ref zc1, .ref zc2]) zc = some (.tup [.ref zc1, .ref zc2]) := upd_same
  generalize upd H5 zc (.tup [.ref zc1, .ref zc2]) = H6 at s6 e6 ⊢
  refine ⟨(by show 2 ≤ sizeLine; decide), fun z3 nz3 => ?_⟩
  have s7 := Same.new (o := (.lst [.int 0, .non] : HO)) nz3
  have e7 : upd H6 z3 (.lst [.int 0, .non]) z3 = some (.lst [.int 0, .non]) := upd_same
  generalize upd H6 z3 (.lst [.int 0, .non]) = H7 at s7 e7 ⊢
  refine ⟨(by show 2 ≤ sizeLine; decide), fun z4 nz4 => ?_⟩
  have s8 := Same.new (o := (.tup [.int 0, .bl true] : HO)) nz4
  have e8 : upd H7 z4 (.tup [.int 0, .bl true]) z4 = some (.tup [.int 0, .bl true]) := upd_same
  generalize upd H7 z4 (.tup [.int 0, .bl true]) = H8 at s8 e8 ⊢
  refine fun z5 nz5 => ?_
  have s9 := Same.new (o := (.dK [] : HO)) nz5
  have e9 : upd H8 z5 (.dK []) z5 = some (.dK []) := upd_same
  generalize upd H8 z5 (.dK []) = H9 at s9 e9 ⊢
  refine ⟨(by show 2 ≤ sizeLine; decide), fun z6 nz6 => ?_⟩
  have s10 := Same.new (o := (.tup [.int 0, .str "1"] : HO)) nz6
  have e10 : upd H9 z6 (.tup [.int 0, .str "1"]) z6 = some (.tup [.int 0, .str "1"]) := upd_same
  generalize upd H9 z6 (.tup [.int 0, .str "1"]) = H10 at s10 e10 ⊢
  refine ⟨(by show 2 ≤ sizeLine; decide), fun z8 nz8 => ?_⟩
  have s11 := Same.new (o := (.tup [.int 1, .int 0] : HO)) nz8
  have e11 : upd H10 z8 (.tup [.int 1, .int 0]) z8 = some (.tup [.int 1, .int 0]) := upd_same
  generalize upd H10 z8 (.tup [.int 1, .int 0]) = H11 at s11 e11 ⊢
  refine ⟨(by show 1 ≤ sizeLine; decide), fun z7 nz7 => ?_⟩
  have s12 := Same.new (o := (.lst [.ref z8] : HO)) nz7
  have e12 : upd H11 z7 (.lst [.ref z8]) z7 = some (.lst [.ref z8]) := upd_same
  generalize upd H11 z7 (.lst [.ref z8]) = H12 at s12 e12 ⊢
  refine ⟨(by show 12 ≤ sizeLine; decide), fun L1 nL1 => ?_⟩
  have s13 := Same.new (o := (.lst [.non, .int 5, .ref ze, .str "01", .ref z1, .ref z2, .ref zc, .ref z3, .ref z4, .ref z5, .ref z6, .ref z7] : HO)) nL1
  have e13 : upd H12 L1 (.lst [.non, .int 5, .ref ze, .str "01", .ref z1, .ref z2, .ref zc, .ref z3, .ref z4, .ref z5, .ref z6, .ref z7]) L1 = some (.lst [.non, .int 5, .ref ze, .str "01", .ref z1, .ref z2, .ref zc, .ref z3, .ref z4, .ref z5, .ref z6, .ref z7]) := upd_same
  generalize upd H12 L1 (.lst [.non, .int 5, .ref ze, .str "01", .ref z1, .ref z2, .ref zc, .ref z3, .ref z4, .ref z5, .ref z6, .ref z7]) = H13 at s13 e13 ⊢
  have c13 : Same H13 H13 := Same.refl _
  have c12 : Same H12 H13 := s13.trans c13
  have c11 : Same H11 H13 := s12.trans c12
  have c10 : Same H10 H13 := s11.trans c11
  have c9 : Same H9 H13 := s10.trans c10
  have c8 : Same H8 H13 := s9.trans c9
  have c7 : Same H7 H13 := s8.trans c8
  have c6 : Same H6 H13 := s7.trans c7
  have c5 : Same H5 H13 := s6.trans c6
  have c4 : Same H4 H13 := s5.trans c5
  have c3 : Same H3 H13 := s4.trans c4
  have c2 : Same H2 H13 := s3.trans c3
  have c1 : Same H1 H13 := s2.trans c2
  have c0 : Same H H13 := s1.trans c1
  have f0 : Same H H := Same.refl _
  have f1 : Same H H1 := f0.trans s1
  have f2 : Same H H2 := f1.trans s2
  have f3 : Same H H3 := f2.trans s3
  have f4 : Same H H4 := f3.trans s4
  have f5 : Same H H5 := f4.trans s5
  have f6 : Same H H6 := f5.trans s6
  have f7 : Same H H7 := f6.trans s7
  have f8 : Same H H8 := f7.trans s8
  have f9 : Same H H9 := f8.trans s9
  have f10 : Same H H10 := f9.trans s10
  have f11 : Same H H11 := f10.trans s11
  have f12 : Same H H12 := f11.trans s12
  have f13 : Same H H13 := f12.trans s13
  have pen13 := pen.same c0
  refine ⟨_, rfl, _, rfl, p, c, L1, n, _, rfl, pen13, by omega, e13, (by show 0 < 12; decide), (by show 12 < 1000000; decide), fun j1 v H14 ej1 pen14 b14 => ?_⟩
  have bad1 : BadP K (Kz.cl p H13) v := bad_places (List.mem_of_getElem? ej1) (cl_at ((pen.same f0).newP nze) (c1 _ _ e1) (fun _ z => nomatch z)) (cl_at ((pen.same f1).newP nz1) (c2 _ _ e2) (fun _ z => nomatch z)) (cl_at ((pen.same f2).newP nz2) (c3 _ _ e3) (fun _ z => nomatch z)) (cl_at ((pen.same f3).newP nzc1) (c4 _ _ e4) (fun _ z => nomatch z)) (cl_at ((pen.same f4).newP nzc2) (c5 _ _ e5) (fun _ z => nomatch z)) (cl_at ((pen.same f5).newP nzc) (c6 _ _ e6) (fun _ z => nomatch z)) (cl_at ((pen.same f6).newP nz3) (c7 _ _ e7) (fun _ z => nomatch z)) (cl_at ((pen.same f7).newP nz4) (c8 _ _ e8) (fun _ z => nomatch z)) (cl_at ((pen.same f8).newP nz5) (c9 _ _ e9) (fun _ z => nomatch z)) (cl_at ((pen.same f9).newP nz6) (c10 _ _ e10) (fun _ z => nomatch z)) (cl_at ((pen.same f10).newP nz8) (c11 _ _ e11) (fun _ z => nomatch z)) (cl_at ((pen.same f11).newP nz7) (c12 _ _ e12) (fun _ z => nomatch z))
  refine ⟨10, 30, rfl, rfl, ⟨by decide, by decide, by decide⟩, _, _, rfl, rfl, 10, 30, rfl, rfl, ⟨by decide, by decide, by decide⟩, _, _, rfl, rfl, .inl ⟨by decide, by decide⟩, (by show 2 ≤ sizeLine; decide), fun zt nzt => ?_⟩
  have s15 := Same.new (o := (.tup [.int ((10 : Int) ^ (30 : Int).toNat - 1), .int (2 * (10 : Int) ^ (30 : Int).toNat)] : HO)) nzt
  have e15 : upd H14 zt (.tup [.int ((10 : Int) ^ (30 : Int).toNat - 1), .int (2 * (10 : Int) ^ (30 : Int).toNat)]) zt = some (.tup [.int ((10 : Int) ^ (30 : Int).toNat - 1), .int (2 * (10 : Int) ^ (30 : Int).toNat)]) := upd_same
  generalize upd H14 zt (.tup [.int ((10 : Int) ^ (30 : Int).toNat - 1), .int (2 * (10 : Int) ^ (30 : Int).toNat)]) = H15 at s15 e15 ⊢
  rw [show (10 : Int) ^ (30 : Int).toNat = 10 ^ 30 from rfl] at e15
  refine ⟨(by show 0 ≤ sizeLine; decide), fun ye nye => ?_⟩
  have s16 := Same.new (o := (.tup [] : HO)) nye
  have e16 : upd H15 ye (.tup []) ye = some (.tup []) := upd_same
  generalize upd H15 ye (.tup []) = H16 at s16 e16 ⊢
  refine ⟨(by show 1 ≤ sizeLine; decide), fun y1 ny1 => ?_⟩
  have s17 := Same.new (o := (.tup [.int 1] : HO)) ny1
  have e17 : upd H16 y1 (.tup [.int 1]) y1 = some (.tup [.int 1]) := upd_same
  generalize upd H16 y1 (.tup [.int 1]) = H17 at s17 e17 ⊢
  refine ⟨(by show 2 ≤ sizeLine; decide), fun yc1 nyc1 => ?_⟩
  have s18 := Same.new (o := (.tup [.int 1, .int 2] : HO)) nyc1
  have e18 : upd H17 yc1 (.tup [.int 1, .int 2]) yc1 = some (.tup [.int 1, .int 2]) := upd_same
  generalize upd H17 yc1 (.tup [.int 1, .int 2]) = H18 at s18 e18 ⊢
  refine ⟨(by show 2 ≤ sizeLine; decide), fun yc2 nyc2 => ?_⟩
  have s19 := Same.new (o := (.tup [.int 1, .int 3] : HO)) nyc2
  have e19 : upd H18 yc2 (.tup [.int 1, .int 3]) yc2 = some (.tup [.int 1, .int 3]) := upd_same
  generalize upd H18 yc2 (.tup [.int 1, .int 3]) = H19 at s19 e19 ⊢
  refine ⟨(by show 2 ≤ sizeLine; decide), fun yc nyc => ?_⟩
  have s20 := Same.new (o := (.tup [.ref yc1, .ref yc2] : HO)) nyc
  have e20 : upd H19 yc (.tup [.ref yc1, .ref yc2]) yc = some (.tup [.ref yc1, .ref yc2]) := upd_same
  generalize upd H19 yc (.tup [.ref yc1, .ref yc2]) = H20 at s20 e20 ⊢
  refine ⟨_, rfl, (by show 2 ≤ sizeLine; decide), fun y2 ny2 => ?_⟩
  have s21 := Same.new (o := (.tup [.int 2, .int (-1)] : HO)) ny2
  have e21 : upd H20 y2 (.tup [.int 2, .int (-1)]) y2 = some (.tup [.int 2, .int (-1)]) := upd_same
  generalize upd H20 y2 (.tup [.int 2, .int (-1)]) = H21 at s21 e21 ⊢
  refine ⟨(by show 2 ≤ sizeLine; decide), fun y3 ny3 => ?_⟩
  have s22 := Same.new (o := (.tup [.int 0, .int 1] : HO)) ny3
  have e22 : upd H21 y3 (.tup [.int 0, .int 1]) y3 = some (.tup [.int 0, .int 1]) := upd_same
  generalize upd H21 y3 (.tup [.int 0, .int 1]) = H22 at s22 e22 ⊢
  refine ⟨(by show 2 ≤ sizeLine; decide), fun y7 ny7 => ?_⟩
  have s23 := Same.new (o := (.tup [.int 1, .int 2] : HO)) ny7
  have e23 : upd H22 y7 (.tup [.int 1, .int 2]) y7 = some (.tup [.int 1, .int 2]) := upd_same
  generalize upd H22 y7 (.tup [.int 1, .int 2]) = H23 at s23 e23 ⊢
  refine ⟨_, rfl, (by show 2 ≤ sizeLine; decide), fun y4 ny4 => ?_⟩
  have s24 := Same.new (o := (.tup [.ref y7, .ref zt] : HO)) ny4
  have e24 : upd H23 y4 (.tup [.ref y7, .ref zt]) y4 = some (.tup [.ref y7, .ref zt]) := upd_same
  generalize upd H23 y4 (.tup [.ref y7, .ref zt]) = H24 at s24 e24 ⊢
  refine ⟨(by show 2 ≤ sizeLine; decide), fun y5 ny5 => ?_⟩
  have s25 := Same.new (o := (.tup [.int 1, .non] : HO)) ny5
  have e25 : upd H24 y5 (.tup [.int 1, .non]) y5 = some (.tup [.int 1, .non]) := upd_same
  generalize upd H24 y5 (.tup [.int 1, .non]) = H25 at s25 e25 ⊢
  refine ⟨(by show 2 ≤ sizeLine; decide), fun y6 ny6 => ?_⟩
  have s26 := Same.new (o := (.tup [.bl true, .int 0] : HO)) ny6
  have e26 : upd H25 y6 (.tup [.bl true, .int 0]) y6 = some (.tup [.bl true, .int 0]) := upd_same
  generalize upd H25 y6 (.tup [.bl true, .int 0]) = H26 at s26 e26 ⊢
  refine ⟨(by show 10 ≤ sizeLine; decide), fun L2 nL2 => ?_⟩
  have s27 := Same.new (o := (.lst [.non, .ref ye, .ref y1, .ref yc, .ref y2, .ref y3, .str "ab", .ref y4, .ref y5, .ref y6] : HO)) nL2
  have e27 : upd H26 L2 (.lst [.non, .ref ye, .ref y1, .ref yc, .ref y2, .ref y3, .str "ab", .ref y4, .ref y5, .ref y6]) L2 = some (.lst [.non, .ref ye, .ref y1, .ref yc, .ref y2, .ref y3, .str "ab", .ref y4, .ref y5, .ref y6]) := upd_same
  generalize upd H26 L2 (.lst [.non, .ref ye, .ref y1, .ref yc, .ref y2, .ref y3, .str "ab", .ref y4, .ref y5, .ref y6]) = H27 at s27 e27 ⊢
  have c27 : Same H27 H27 := Same.refl _
  have c26 : Same H26 H27 := s27.trans c27
  have c25 : Same H25 H27 := s26.trans c26
  have c24 : Same H24 H27 := s25.trans c25
  have c23 : Same H23 H27 := s24.trans c24
  have c22 : Same H22 H27 := s23.trans c23
  have c21 : Same H21 H27 := s22.trans c22
  have c20 : Same H20 H27 := s21.trans c21
  have c19 : Same H19 H27 := s20.trans c20
  have c18 : Same H18 H27 := s19.trans c19
  have c17 : Same H17 H27 := s18.trans c18
  have c16 : Same H16 H27 := s17.trans c17
  have c15 : Same H15 H27 := s16.trans c16
  have c14 : Same H14 H27 := s15.trans c15
  have f14 : Same H14 H14 := Same.refl _
  have f15 : Same H14 H15 := f14.trans s15
  have f16 : Same H14 H16 := f15.trans s16
  have f17 : Same H14 H17 := f16.trans s17
  have f18 : Same H14 H18 := f17.trans s18
  have f19 : Same H14 H19 := f18.trans s19
  have f20 : Same H14 H20 := f19.trans s20
  have f21 : Same H14 H21 := f20.trans s21
  have f22 : Same H14 H22 := f21.trans s22
  have f23 : Same H14 H23 := f22.trans s23
  have f24 : Same H14 H24 := f23.trans s24
  have f25 : Same H14 H25 := f24.trans s25
  have f26 : Same H14 H26 := f25.trans s26
  have f27 : Same H14 H27 := f26.trans s27
  have penL := pen14.same c14
  refine ⟨_, rfl, _, rfl, p, c, L2, n + 1, _, rfl, penL, by omega, e27, (by show 0 < 10; decide), (by show 10 < 1000000; decide), fun j2 v2 H28 ej2 pen2 b2 => ?_⟩
  have bad2 : BadQ K (Kz.cl p H27) v2 := bad_parts (List.mem_of_getElem? ej2) (cl_at ((pen14.same f15).newP nye) (c16 _ _ e16) (fun _ z => nomatch z)) (cl_at ((pen14.same f16).newP ny1) (c17 _ _ e17) (fun _ z => nomatch z)) (cl_at ((pen14.same f17).newP nyc1) (c18 _ _ e18) (fun _ z => nomatch z)) (cl_at ((pen14.same f18).newP nyc2) (c19 _ _ e19) (fun _ z => nomatch z)) (cl_at ((pen14.same f19).newP nyc) (c20 _ _ e20) (fun _ z => nomatch z)) (cl_at ((pen14.same f20).newP ny2) (c21 _ _ e21) (fun _ z => nomatch z)) (cl_at ((pen14.same f21).newP ny3) (c22 _ _ e22) (fun _ z => nomatch z)) (cl_at ((pen14.same f22).newP ny7) (c23 _ _ e23) (fun _ z => nomatch z)) (cl_at ((pen14.same f14).newP nzt) (c15 _ _ e15) (fun _ z => nomatch z)) (cl_at ((pen14.same f23).newP ny4) (c24 _ _ e24) (fun _ z => nomatch z)) (cl_at ((pen14.same f24).newP ny5) (c25 _ _ e25) (fun _ z => nomatch z)) (cl_at ((pen14.same f25).newP ny6) (c26 _ _ e26) (fun _ z => nomatch z))
  have bL : But p H H27 := ((But.ofSame c0).trans b14).trans (But.ofSame c14)
  have sub1 : Same (Kz.cl p H13) (Kz.cl p H27) := (b14.trans (But.ofSame c14)).cl
  have bad1 : BadP K (Kz.cl p H27) v := ⟨bad1.1.same sub1, bad1.2.imp fun dt h => ⟨h.1.same sub1, h.2⟩⟩
  have sub2 : Same (Kz.cl p H27) H28 := b2.cl.trans cl_sub
  have tabs2 : LamX.Tabs T.Tl H28 := pen.tabs (bL.trans b2) tabs
  have bN : ButN p H H28 := butN_of (bL.trans b2)
  have nt2 : ∀ b o, Kz.cl p H27 b = some o → ∀ ps, o ≠ .tbl ps := fun b o e => cl_nt e
  generalize Kz.cl p H27 = B at bad1 bad2 sub2 nt2
  obtain ⟨pb1, d1, hd1, z1⟩ := bad1
  obtain ⟨pb2, d2, hd2, z2⟩ := bad2
  dsimp only [gName, tNext, tSeq, tAsg]
  refine lst_in ?_
  refine lst_el ?_
  refine el_row nt2 sub2 tabs2 rfl hd1 z1 fun t1 G1 x1 tb1 r1 => ?_
  refine lst_el ?_
  refine el_row nt2 (subN sub2 nt2 x1) tb1 rfl hd2 z2 fun t2 G2 x2 tb2 r2 => ?_
  refine lst_el ?_
  refine el_row nt2 (subN (subN sub2 nt2 x1) nt2 x2) tb2 rfl hd2 z2 fun t3 G3 x3 tb3 r3 => ?_
  refine ⟨(by show 3 ≤ sizeLine; decide), fun L3 nL => ?_⟩
  have s4 := Same.new (o := (.lst [t1, t2, t3] : HO)) nL
  have e4 : upd G3 L3 (.lst [t1, t2, t3]) L3 = some (.lst [t1, t2, t3]) := upd_same
  have x4 := Kz.Same.extN s4
  have tb4 := Kz.Same.tabs s4 tb3
  generalize upd G3 L3 (.lst [t1, t2, t3]) = G4 at s4 e4 x4 tb4 ⊢
  have x34 := x3.trans x4
  have x24 := x2.trans x34
  have x14 := x1.trans x24
  have sub4 := subN sub2 nt2 x14
  refine ⟨_, rfl, fun S kt off => ?_⟩
  have up := off_same off
  refine ⟨L3, [t1, t2, t3], rfl, SqL.of (up _ _ e4), fun i t e => ?_, fun H' s => ?_⟩
  · match i, e with
    | 0, e =>
      cases e
      exact try_row off sub4 (r1.extN x24) hd1 z1 ⟨⟨rfl, rfl, rfl, rfl, rfl⟩, kt, LamX.lamS_by (sc := defScope (top 69)) (by decide +kernel), fun q cl pm cv ctv => rfl, fun E A outer s H f c' hr' => T.cShrE (takes_of (E := E) rfl rfl rfl rfl) (hr'.mono (by decide)) (pa_cons (pv 2) (pa_cons pe_non pa_nil))⟩ fun D E Qn sD er => ⟨_, rfl, share_bad (.inl ⟨pb1.same sD, er⟩)⟩
    | 1, e =>
      cases e
      refine try_row off sub4 (r2.extN x34) hd2 z2 ⟨⟨rfl, rfl, rfl, rfl, rfl⟩, kt, LamX.lamS_by (sc := defScope (top 69)) (by decide +kernel), fun q cl pm cv ctv => rfl, fun E A outer s H f c' hr' => T.cShrE (takes_of (E := E) rfl rfl rfl rfl) (hr'.mono (by decide)) (pa_cons (pe_tup (pa_cons pe_int (pa_cons pe_int pa_nil))) (pa_cons (pv 4) pa_nil))⟩ fun D E Qn sD er => ⟨(by show 2 ≤ sizeLine; decide), fun z nz => ⟨_, rfl, ?_⟩⟩
      have sz := Same.new (o := (.tup [.int 0, .int 1] : HO)) nz
      exact share_bad (.inr ⟨[((0 : Int) : Rat), ((1 : Int) : Rat)], rw_of (n := 3) (m := 1) (.inr (SqT.of upd_same)) (.cons (arg_i (by decide) (by decide)) (.cons (arg_i (by decide) (by decide)) .nil)) (by decide) (by decide) (by show 2 ≤ 20; decide), by decide, by decide +kernel, pb2.same (sD.trans sz), er.after sz⟩)
    | 2, e =>
      cases e
      refine try_row off sub4 (r3.extN x4) hd2 z2 ⟨⟨rfl, rfl, rfl, rfl, rfl⟩, kt, LamX.lamS_by (sc := defScope (top 69)) (by decide +kernel), fun q cl pm cv ctv => rfl, fun E A outer s H f c' hr' => T.mixed.cS Gmix (hr'.mono (by decide)) (takes_of (E := E) rfl rfl rfl rfl) (pa_cons (pe_tup (pa_cons (T.cShr (hr'.mono (by decide)) (pa_cons (pe_tup (pa_cons pe_int pa_nil)) (pa_cons (pe_tup (pa_cons pe_int pa_nil)) pa_nil))) (pa_cons (T.cShr (hr'.mono (by decide)) (pa_cons (pe_tup (pa_cons pe_int pa_nil)) (pa_cons (pe_tup (pa_cons pe_int pa_nil)) pa_nil))) pa_nil))) (pa_cons (pv 4) pa_nil))⟩ fun D E Qn sD er => ?_
      have one : ∀ {H : Hp} {a : Addr} {i : Int}, H a = some (.tup [.int i]) → i.natAbs < 8 → Rw K H (.ref a) [(i : Rat)] := fun e h => rw_of (n := 3) (m := 1) (.inr (SqT.of e)) (.cons (arg_i h (by decide)) .nil) (by decide) (by decide) (by show 1 ≤ 20; decide)
      refine ⟨(by show 1 ≤ sizeLine; decide), fun q1 n1 => ⟨(by show 1 ≤ sizeLine; decide), fun q2 n2 => ?_⟩⟩
      have u1 := Same.new (o := (.tup [.int 0] : HO)) n1
      have e1 : upd D q1 (.tup [.int 0]) q1 = some (.tup [.int 0]) := upd_same
      generalize upd D q1 (.tup [.int 0]) = D1 at n2 u1 e1 ⊢
      have u2 := Same.new (o := (.tup [.int 1] : HO)) n2
      have e2 : upd D1 q2 (.tup [.int 1]) q2 = some (.tup [.int 1]) := upd_same
      generalize upd D1 q2 (.tup [.int 1]) = D2 at u2 e2 ⊢
      refine share_made (one (u2 _ _ e1) (by decide)) (by decide) (by decide +kernel) (one e2 (by decide)) (by decide) (by decide +kernel) fun y1 D3 u3 _ => ?_
      refine ⟨(by show 1 ≤ sizeLine; decide), fun q3 n3 => ⟨(by show 1 ≤ sizeLine; decide), fun q4 n4 => ?_⟩⟩
      have u4 := Same.new (o := (.tup [.int 1] : HO)) n3
      have e3 : upd D3 q3 (.tup [.int 1]) q3 = some (.tup [.int 1]) := upd_same
      generalize upd D3 q3 (.tup [.int 1]) = D4 at n4 u4 e3 ⊢
      have u5 := Same.new (o := (.tup [.int 1] : HO)) n4
      have e4 : upd D4 q4 (.tup [.int 1]) q4 = some (.tup [.int 1]) := upd_same
      generalize upd D4 q4 (.tup [.int 1]) = D5 at u5 e4 ⊢
      refine share_made (one (u5 _ _ e3) (by decide)) (by decide) (by decide +kernel) (one e4 (by decide)) (by decide) (by decide +kernel) fun y2 D6 u6 _ => ?_
      refine ⟨(by show 2 ≤ sizeLine; decide), fun q5 n5 => ?_⟩
      have u7 := Same.new (o := (.tup [.ref y1, .ref y2] : HO)) n5
      have u07 : Same D _ := (((((u1.trans u2).trans u3).trans u4).trans u5).trans u6).trans u7
      exact ⟨_, rfl, q5, _, [.ref y1, .ref y2], rfl, .inr (SqT.of upd_same), pb2.same (sD.trans u07), er.after u07⟩
    | j + 3, e => cases e
  · intro _
    have sF := tk_fin off s
    exact k _ ((pen_ext pen2 x14).same sF) (butN_ext bN (x14.trans (Kz.Same.extN sF))) (Kz.Same.tabs sF tb4)
end
end Kz
set_option linter.all false
set_option maxRecDepth 100000
set_option maxHeartbeats 4000000
set_option pp.maxSteps 400
namespace Kz
open PySem PySem.Spec PyProof.Rows L2
/-- all that is no list, no dict and no table stands as it did -/
def NL (H H' : Hp) : Prop := ∀ b o, H b = some o → (∀ us, o ≠ .lst us) → (∀ ks, o ≠ .dK ks) → (∀ ps, o ≠ .tbl ps) → H' b = some o
theorem Same.nl {H H' : Hp} (s : Same H H') : NL H H' := fun b o e _ _ _ => s b o e
theorem NL.penB {p c : Addr} {n : Nat} {H H' : Hp} (pen : Pen H p c n) (b : But p H H') : NL H H' := fun a o e _ d _ => b a o e fun z => by
  obtain ⟨ns, i, x, m, f, e1, _⟩ := pen
  rw [z, e1] at e
  cases e
  exact d _ rfl
theorem NL.cl {p c : Addr} {n : Nat} {H : Hp} (pen : Pen H p c n) : NL H (Kz.cl p H) := fun a o e _ d t => cl_at (fun z => by
  obtain ⟨ns, i, x, m, f, e1, _⟩ := pen
  rw [z, e1] at e
  cases e
  exact d _ rfl) e t
section
variable {K : PySem.W.Frag} {H H' : Hp}
theorem SqT.nl {a : Addr} {xs : List V} (g : NL H H') (h : SqT K H a xs) : SqT K H' a xs := by
  rcases h with (h | ⟨o, h⟩) | h
  · exact .inl (.inl (g _ _ h (fun _ z => nomatch z) (fun _ z => nomatch z) (fun _ z => nomatch z)))
  · exact .inl (.inr ⟨o, g _ _ h (fun _ z => nomatch z) (fun _ z => nomatch z) (fun _ z => nomatch z)⟩)
  · exact .inr h
theorem RV.nl {v : V} {q : Rat} (g : NL H H') (h : RV K H v q) : RV K H' v q := by
  obtain ⟨t, e, h⟩ := h
  exact ⟨t, e, Kz.SqT.nl g h⟩
theorem Al.nl {vs : List V} {qs : List Rat} (g : NL H H') (h : Al K H vs qs) : Al K H' vs qs := ⟨h.1, fun i v q a b => (h.2 i v q a b).nl g⟩
theorem PolyAt.nl {cP : Addr} {v : V} {q : List Rat} (g : NL H H') (h : PolyAt K cP H v q) : PolyAt K cP H' v q := by
  obtain ⟨a, dx, t, ws, e, ha, ht, al, tr⟩ := h
  exact ⟨a, dx, t, ws, e, g _ _ ha (fun _ z => nomatch z) (fun _ z => nomatch z) (fun _ z => nomatch z), Kz.SqT.nl g ht, al.nl g, tr⟩
theorem BrkAt.nl {cB cP : Addr} {v : V} {ks as : List Rat} {ps : List (List Rat)} (g : NL H H') (h : BrkAt K cB cP H v ks ps as) : BrkAt K cB cP H' v ks ps as := by
  obtain ⟨a, dx, t1, t2, t3, w1, us, w3, e, ha, h1, a1, h2, p2, h3, a3⟩ := h
  exact ⟨a, dx, t1, t2, t3, w1, us, w3, e, g _ _ ha (fun _ z => nomatch z) (fun _ z => nomatch z) (fun _ z => nomatch z), Kz.SqT.nl g h1, a1.nl g, Kz.SqT.nl g h2, ⟨p2.1, fun i u q x y => (p2.2 i u q x y).nl g⟩, Kz.SqT.nl g h3, a3.nl g⟩
theorem KnF.nl {v : V} (g : NL H H') (h : KnF H v) : KnF H' v := by
  obtain ⟨a, C, dx, t1, y, z, w, e, ha, o, ho, d⟩ := h
  exact ⟨a, C, dx, t1, y, z, w, e, g _ _ ha (fun _ z => nomatch z) (fun _ z => nomatch z) (fun _ z => nomatch z), o, g _ _ ho (fun _ z => nomatch z) (fun _ z => nomatch z) (fun _ z => nomatch z), d⟩
theorem OR.nl {v : V} {o : Option Rat} (g : NL H H') (h : OR K H v o) : OR K H' v o := h.imp id fun ⟨q, e, r⟩ => ⟨q, e, r.nl g⟩
theorem ToAt.nl {cT cB cP : Addr} {v : V} {ks as : List Rat} {ps : List (List Rat)} {lo hi : Option Rat} (g : NL H H') (h : ToAt K cT cB cP H v ks ps as lo hi) : ToAt K cT cB cP H' v ks ps as lo hi := by
  obtain ⟨a, dx, f, l, m, e, ha, h1, h2, h3, h4⟩ := h
  exact ⟨a, dx, f, l, m, e, g _ _ ha (fun _ z => nomatch z) (fun _ z => nomatch z) (fun _ z => nomatch z), h1.nl g, h2.nl g, h3.nl g, h4.nl g⟩
theorem TRs.nl {cT cB cP : Addr} {us : List V} {ks : List Rat} {ms : List Rm} (g : NL H H') (h : TRs K cT cB cP H us ks ms) : TRs K cT cB cP H' us ks ms := ⟨h.1, fun i u m a b => (h.2 i u m a b).nl g⟩
theorem ShAt.nl {cS : Addr} {v : V} {xs ps : List Rat} (g : NL H H') (h : ShAt K cS H v xs ps) : ShAt K cS H' v xs ps := by
  obtain ⟨a, dx, t1, t2, w1, w2, e, ha, h1, a1, h2, a2⟩ := h
  exact ⟨a, dx, t1, t2, w1, w2, e, g _ _ ha (fun _ z => nomatch z) (fun _ z => nomatch z) (fun _ z => nomatch z), Kz.SqT.nl g h1, a1.nl g, Kz.SqT.nl g h2, a2.nl g⟩
theorem TRs.nil {cT cB cP : Addr} {ks : List Rat} : TRs K cT cB cP H [] ks [] := ⟨rfl, fun i u m a _ => by cases a⟩
theorem TRs.snoc {cT cB cP : Addr} {us : List V} {ks : List Rat} {ms : List Rm} {u : V} {m : Rm} (h : TRs K cT cB cP H us ks ms) (t : ToAt K cT cB cP H u ks m.ps m.as m.lo m.hi) : TRs K cT cB cP H (us ++ [u]) ks (ms ++ [m]) := by
  refine ⟨by rw [List.length_append, List.length_append, h.1]; rfl, fun i g r a c => ?_⟩
  rcases Nat.lt_or_ge i us.length with lt | ge
  · rw [List.getElem?_append_left lt] at a
    rw [List.getElem?_append_left (by rw [← h.1]; exact lt)] at c
    exact h.2 i g r a c
  · rw [List.getElem?_append_right ge] at a
    rw [List.getElem?_append_right (by rw [← h.1]; exact ge), ← h.1] at c
    match e : i - us.length, a, c with
    | 0, a, c =>
      cases a
      cases c
      exact t
    | k + 1, a, c => cases a
/-- a row of the law: a function, and bounds -/
def RwV (K : PySem.W.Frag) (H : Hp) (u : V) (ks : List Rat) (m : Rm) : Prop := ∃ (rt : Addr) (fv lv hv : V), u = .ref rt ∧ SqT K H rt [fv, lv, hv] ∧ FnV K H fv ks m.ps m.as ∧ OR K H lv m.lo ∧ OR K H hv m.hi
theorem RwV.same {u : V} {ks : List Rat} {m : Rm} (s : Same H H') (h : RwV K H u ks m) : RwV K H' u ks m := by
  obtain ⟨rt, fv, lv, hv, e, h1, h2, h3, h4⟩ := h
  exact ⟨rt, fv, lv, hv, e, Kz.Same.seqT s h1, h2.same s, h3.same s, h4.same s⟩
theorem RwV.pen {p c : Addr} {n : Nat} {u : V} {ks : List Rat} {m : Rm} (b : But p H H') (pen : Pen H p c n) (h : RwV K H u ks m) : RwV K H' u ks m := by
  obtain ⟨rt, fv, lv, hv, e, h1, h2, h3, h4⟩ := h
  exact ⟨rt, fv, lv, hv, e, pen.seqT b h1, pen.fnv b h2, h3.pen b pen, h4.pen b pen⟩
theorem RwV.cl {p c : Addr} {n : Nat} {u : V} {ks : List Rat} {m : Rm} (pen : Pen H p c n) (h : RwV K H u ks m) : RwV K (Kz.cl p H) u ks m := by
  obtain ⟨rt, fv, lv, hv, e, h1, h2, h3, h4⟩ := h
  exact ⟨rt, fv, lv, hv, e, pen.cT h1, pen.cFnv h2, h3.nl (NL.cl pen), h4.nl (NL.cl pen)⟩
def RRs (K : PySem.W.Frag) (H : Hp) (us : List V) (ks : List Rat) (ms : List Rm) : Prop := us.length = ms.length ∧ ∀ (i : Nat) (u : V) (m : Rm), us[i]? = some u → ms[i]? = some m → RwV K H u ks m
theorem RRs.same {us : List V} {ks : List Rat} {ms : List Rm} (s : Same H H') (h : RRs K H us ks ms) : RRs K H' us ks ms := ⟨h.1, fun i u m a b => (h.2 i u m a b).same s⟩
theorem RRs.pen {p c : Addr} {n : Nat} {us : List V} {ks : List Rat} {ms : List Rm} (b : But p H H') (pen : Pen H p c n) (h : RRs K H us ks ms) : RRs K H' us ks ms := ⟨h.1, fun i u m x y => (h.2 i u m x y).pen b pen⟩
theorem RRs.cl {p c : Addr} {n : Nat} {us : List V} {ks : List Rat} {ms : List Rm} (pen : Pen H p c n) (h : RRs K H us ks ms) : RRs K (Kz.cl p H) us ks ms := ⟨h.1, fun i u m x y => (h.2 i u m x y).cl pen⟩
theorem RRs.nil {ks : List Rat} : RRs K H [] ks [] := ⟨rfl, fun i u m a _ => by cases a⟩
theorem RRs.snoc {us : List V} {ks : List Rat} {ms : List Rm} {u : V} {m : Rm} (h : RRs K H us ks ms) (t : RwV K H u ks m) : RRs K H (us ++ [u]) ks (ms ++ [m]) := by
  refine ⟨by rw [List.length_append, List.length_append, h.1]; rfl, fun i g r a c => ?_⟩
  rcases Nat.lt_or_ge i us.length with lt | ge
  · rw [List.getElem?_append_left lt] at a
    rw [List.getElem?_append_left (by rw [← h.1]; exact lt)] at c
    exact h.2 i g r a c
  · rw [List.getElem?_append_right ge] at a
    rw [List.getElem?_append_right (by rw [← h.1]; exact ge), ← h.1] at c
    match e : i - us.length, a, c with
    | 0, a, c =>
      cases a
      cases c
      exact t
    | k + 1, a, c => cases a
/-- a bound, as data -/
def pdO : Option Rat → PyData
  | none => .none
  | some q => pdQ q
theorem OR.dp {v : V} {o : Option Rat} (h : OR K H v o) : Dp K H v (pdO o) := by
  rcases h with ⟨rfl, rfl⟩ | ⟨q, rfl, r⟩
  · exact .non
  · exact r.dp
end
end Kz
set_option linter.all false
set_option maxRecDepth 100000
set_option maxHeartbeats 4000000
set_option pp.maxSteps 100
namespace Kz
open PySem PySem.Spec PyProof.Rows L2 Vl
/-! ### the functions of the law -/
abbrev z0 : Rat := ((0 : Int) : Rat)
abbrev z1 : Rat := ((1 : Int) : Rat)
abbrev z2 : Rat := ((2 : Int) : Rat)
abbrev kA : List Rat := [z0, z1]
abbrev kB : List Rat := [z0, z1, z2]
abbrev pA : List (List Rat) := [[z0, z1]]
abbrev pB : List (List Rat) := [[z1], []]
abbrev aU : List Rat := [z1, z1, z0]
abbrev aD : List Rat := [z1, z0, z0]
abbrev aN : List Rat := [z1, Rat.divInt 1 2, z0]
theorem mzz {a m : Nat} {i : Int} (h : i.natAbs < 2 ^ a) (hm : 0 < m) : Mz a m ((i : Int) : Rat) := by
  refine ⟨?_, ?_⟩
  · rw [Rat.num_intCast, Rat.den_intCast, Nat.mul_one]
    exact h
  · rw [Rat.den_intCast]
    exact Nat.one_lt_two_pow (by omega)
theorem kind_line : abv kA pA kA kA.length = false ∧ blw kA pA kA kA.length = false := by decide +kernel
theorem kind_up : abv kB pB aU kB.length = false ∧ blw kB pB aU kB.length = true := by decide +kernel
theorem kind_down : abv kB pB aD kB.length = true ∧ blw kB pB aD kB.length = false := by decide +kernel
theorem kind_no : abv kB pB aN kB.length = true ∧ blw kB pB aN kB.length = true := by decide +kernel
theorem trA : Tr [z0, z1] := fun k e => by
  obtain rfl : k = 1 := by
    have : 2 = k + 1 := e
    omega
  decide +kernel
theorem trB : Tr [z1] := fun k e => by
  obtain rfl : k = 0 := by
    have : 1 = k + 1 := e
    omega
  decide +kernel
theorem trC : Tr [] := fun k e => by cases e
theorem fsz_of {ks : List Rat} (len : ks.length = 2) (asc : Asc ks) (zk : ∀ q ∈ ks, Mz 20 40 q) : Fsz ks pA := by
  refine ⟨len, by decide, by decide, asc, zk, fun p hp => ?_⟩
  rw [List.mem_singleton.mp hp]
  refine ⟨fun i => ?_, mzz (i := 0) (by decide) (by decide), trA, by decide⟩
  match i with
  | 0 => exact mzz (i := 1) (by decide) (by decide)
  | i + 1 => exact mz_zero (by decide)
theorem fszA : Fsz kA pA := fsz_of rfl (ascB_true.mp (by decide +kernel)) fun q hq => by
  simp only [List.mem_cons, List.not_mem_nil, or_false] at hq
  rcases hq with rfl | rfl
  · exact mzz (by decide) (by decide)
  · exact mzz (by decide) (by decide)
theorem fszB : Fsz kB pB := by
  refine ⟨rfl, by decide, by decide, ascB_true.mp (by decide +kernel), fun q hq => ?_, fun p hp => ?_⟩
  · simp only [List.mem_cons, List.not_mem_nil, or_false] at hq
    rcases hq with rfl | rfl | rfl
    · exact mzz (by decide) (by decide)
    · exact mzz (by decide) (by decide)
    · exact mzz (by decide) (by decide)
  · simp only [List.mem_cons, List.not_mem_nil, or_false] at hp
    rcases hp with rfl | rfl
    · refine ⟨fun i => mz_zero (by decide), mzz (i := 1) (by decide) (by decide), trB, by decide⟩
    · exact ⟨fun i => mz_zero (by decide), mz_zero (by decide), trC, by decide⟩
theorem zas {as : List Rat} (h : ∀ q ∈ as, Mz 5 5 q) : ∀ q ∈ as, Mz 190 1600 q := fun q hq => (h q hq).up (by decide) (by decide)
theorem zA : ∀ q ∈ kA, Mz 5 5 q := fun q hq => by
  simp only [List.mem_cons, List.not_mem_nil, or_false] at hq
  rcases hq with rfl | rfl
  · exact mzz (by decide) (by decide)
  · exact mzz (by decide) (by decide)
theorem zU : ∀ q ∈ aU, Mz 5 5 q := fun q hq => by
  simp only [List.mem_cons, List.not_mem_nil, or_false] at hq
  rcases hq with rfl | rfl | rfl <;> exact mzz (by decide) (by decide)
theorem zD : ∀ q ∈ aD, Mz 5 5 q := fun q hq => by
  simp only [List.mem_cons, List.not_mem_nil, or_false] at hq
  rcases hq with rfl | rfl | rfl <;> exact mzz (by decide) (by decide)
theorem zN : ∀ q ∈ aN, Mz 5 5 q := fun q hq => by
  simp only [List.mem_cons, List.not_mem_nil, or_false] at hq
  rcases hq with rfl | rfl | rfl
  · exact mzz (by decide) (by decide)
  · exact mz_divInt (by decide) (by decide) (by decide)
  · exact mzz (by decide) (by decide)
section
variable {K : PySem.W.Frag} {H B : Hp} {a b c d y1 y2 y3 y4 y5 : Addr} {v : V} {i j k : Int}
theorem rw1 (h : H a = some (.tup [.int i])) (hi : i.natAbs < 8) : Rw K H (.ref a) [(i : Rat)] := rw_of (n := 3) (m := 1) (.inr (SqT.of h)) (.cons (arg_i hi (by decide)) .nil) (by decide) (by decide) (by show 1 ≤ 20; decide)
theorem rw2 (h : H a = some (.tup [.int i, .int j])) (hi : i.natAbs < 8) (hj : j.natAbs < 8) : Rw K H (.ref a) [(i : Rat), (j : Rat)] := rw_of (n := 3) (m := 1) (.inr (SqT.of h)) (.cons (arg_i hi (by decide)) (.cons (arg_i hj (by decide)) .nil)) (by decide) (by decide) (by show 2 ≤ 20; decide)
theorem rw3 (h : H a = some (.tup [.int i, .int j, .int k])) (hi : i.natAbs < 8) (hj : j.natAbs < 8) (hk : k.natAbs < 8) : Rw K H (.ref a) [(i : Rat), (j : Rat), (k : Rat)] := rw_of (n := 3) (m := 1) (.inr (SqT.of h)) (.cons (arg_i hi (by decide)) (.cons (arg_i hj (by decide)) (.cons (arg_i hk (by decide)) .nil))) (by decide) (by decide) (by show 3 ≤ 20; decide)
theorem rwN (h : H a = some (.tup [.int 1, .ref b, .int 0])) (hb : H b = some (.tup [.int 1, .int 2])) : Rw K H (.ref a) aN := rw_of (n := 3) (m := 3) (.inr (SqT.of h)) (.cons (arg_i (by decide) (by decide)) (.cons (arg_p (.inr (SqT.of hb)) (by decide) (by decide) (by decide)) (.cons (arg_i (by decide) (by decide)) .nil))) (by decide) (by decide) (by show 3 ≤ 20; decide)
theorem pls1 {cP : Addr} {p : List Rat} {u : V} (h : PolyAt K cP H u p) : PLs K cP H [u] [p] := by
  refine ⟨rfl, fun i x q e1 e2 => ?_⟩
  match i, e1, e2 with
  | 0, e1, e2 =>
    cases e1
    cases e2
    exact h
  | i + 1, e1, e2 => cases e1
theorem pls2 {cP : Addr} {p q : List Rat} {u v : V} (h : PolyAt K cP H u p) (g : PolyAt K cP H v q) : PLs K cP H [u, v] [p, q] := by
  refine ⟨rfl, fun i x r e1 e2 => ?_⟩
  match i, e1, e2 with
  | 0, e1, e2 =>
    cases e1
    cases e2
    exact h
  | 1, e1, e2 =>
    cases e1
    cases e2
    exact g
  | i + 2, e1, e2 => cases e1
/-- what is no number, and how it is shown -/
def OddS (K : PySem.W.Frag) (B : Hp) (v : V) : Prop := Odd K B v ∧ v ≠ .non ∧ ∃ dt, DqT K B v dt ∧ Shows dt
theorem OddS.same {B B' : Hp} (s : Same B B') (h : OddS K B v) : OddS K B' v := ⟨h.1.same s, h.2.1, h.2.2.imp fun dt g => ⟨g.1.same s, g.2⟩⟩
theorem dq3 (h : SqT K H a [.int i, .int j, .int k]) : Dq K H (.ref a) (.tuple [.int i, .int j, .int k]) := .tup h (.cons (.int _) (.cons (.int _) (.cons (.int _) .nil)))
theorem odds6 (m : v ∈ [V.str "1", .ref y1, .bl true, .ref y2, .ref y3, .ref y4]) (h1 : B y1 = some (.tup [.int 1, .int 0])) (h2 : B y2 = some (.tup [.int 1, .int (-2)])) (h3 : B y3 = some (.lst [.int 1])) (h4 : B y4 = some (.dK [])) : OddS K B v := by
  simp only [List.mem_cons, List.not_mem_nil, or_false] at m
  rcases m with rfl | rfl | rfl | rfl | rfl | rfl
  · exact ⟨jodd_str, V.noConfusion, _, .inl (.str _), smS (by decide +kernel) (by decide +kernel) (by decide +kernel) (by decide +kernel)⟩
  · exact ⟨jodd_two (.inr (SqT.of h1)) (by decide), V.noConfusion, _, .inl (dq_ii (SqT.of h1)), smS (by decide +kernel) (by decide +kernel) (by decide +kernel) (by decide +kernel)⟩
  · exact ⟨jodd_bl, V.noConfusion, _, .inl (.bl _), sh_bl⟩
  · exact ⟨jodd_two (.inr (SqT.of h2)) (by decide), V.noConfusion, _, .inl (dq_ii (SqT.of h2)), smS (by decide +kernel) (by decide +kernel) (by decide +kernel) (by decide +kernel)⟩
  · exact ⟨jodd_len (.inl (SqL.of h3)) (by decide), V.noConfusion, _, dqT_lst h3 (.cons (.int _) .nil), smS (by decide +kernel) (by decide +kernel) (by decide +kernel) (by decide +kernel)⟩
  · exact ⟨jodd_dic h4, V.noConfusion, _, dqT_dic h4, smS (by decide +kernel) (by decide +kernel) (by decide +kernel) (by decide +kernel)⟩
theorem odds4 (m : v ∈ [V.str "x", .ref y1, .bl false, .ref y2]) (h1 : B y1 = some (.tup [.int 0, .int 0])) (h2 : B y2 = some (.tup [.int 1, .int 2, .int 3])) : OddS K B v := by
  simp only [List.mem_cons, List.not_mem_nil, or_false] at m
  rcases m with rfl | rfl | rfl | rfl
  · exact ⟨jodd_str, V.noConfusion, _, .inl (.str _), smS (by decide +kernel) (by decide +kernel) (by decide +kernel) (by decide +kernel)⟩
  · exact ⟨jodd_two (.inr (SqT.of h1)) (by decide), V.noConfusion, _, .inl (dq_ii (SqT.of h1)), smS (by decide +kernel) (by decide +kernel) (by decide +kernel) (by decide +kernel)⟩
  · exact ⟨jodd_bl, V.noConfusion, _, .inl (.bl _), sh_bl⟩
  · exact ⟨jodd_len (.inr (SqT.of h2)) (by decide), V.noConfusion, _, .inl (dq3 (SqT.of h2)), smS (by decide +kernel) (by decide +kernel) (by decide +kernel) (by decide +kernel)⟩
/-- a bound below 1 -/
theorem mosts3 (m : v ∈ [V.ref y1, .int (-3), .ref y2]) (h1 : B y1 = some (.tup [.int 0, .int 1])) (h2 : B y2 = some (.tup [.int 9, .int 10])) : (∃ q, ArgQ K B v 5 5 q ∧ q < z1) ∧ ∃ dt, DqT K B v dt ∧ Shows dt := by
  simp only [List.mem_cons, List.not_mem_nil, or_false] at m
  rcases m with rfl | rfl | rfl
  · exact ⟨⟨_, arg_p (.inr (SqT.of h1)) (by decide) (by decide) (by decide), by decide +kernel⟩, _, .inl (dq_ii (SqT.of h1)), smS (by decide +kernel) (by decide +kernel) (by decide +kernel) (by decide +kernel)⟩
  · exact ⟨⟨_, arg_i (by decide) (by decide), by decide +kernel⟩, _, .inl (.int _), smS (by decide +kernel) (by decide +kernel) (by decide +kernel) (by decide +kernel)⟩
  · exact ⟨⟨_, arg_p (.inr (SqT.of h2)) (by decide) (by decide) (by decide), by decide +kernel⟩, _, .inl (dq_ii (SqT.of h2)), smS (by decide +kernel) (by decide +kernel) (by decide +kernel) (by decide +kernel)⟩
end
end Kz
set_option linter.all false
set_option maxRecDepth 100000
set_option maxHeartbeats 4000000
set_option pp.maxSteps 100
namespace Kz
open PySem PySem.Spec PyProof.Rows L2 Vl
theorem or_some {K : PySem.W.Frag} {H : Hp} {v : V} {q : Rat} (h : OR K H v (some q)) : RV K H v q := by
  rcases h with ⟨_, e⟩ | ⟨r, e, h⟩
  · cases e
  · cases e
    exact h
theorem or_none {K : PySem.W.Frag} {H : Hp} {v : V} (h : OR K H v none) : v = .non := by
  rcases h with ⟨e, _⟩ | ⟨r, e, h⟩
  · exact e
  · cases e
theorem cz0 (i : Nat) : cf [z0] i = cf [] i := by
  match i with
  | 0 => rfl
  | i + 1 => rfl
theorem nv_int {B : Hp} {K : PySem.W.Frag} {σ : L2.St} {i : Int} : ∀ (H1 : Hp) (Qv : VK), Same B H1 → (∀ v H2, Same H1 H2 → DqT K H2 v (.int i) → Qv v H2) → tC (.int i) σ H1 Qv := fun H1 Qv s k => k (.int i) H1 (Same.refl _) (.inl (.int i))
theorem sh_int1 : Shows (.int 1) := smS (by decide +kernel) (by decide +kernel) (by decide +kernel) (by decide +kernel)
section
variable {P : Program} {w : World} {K : PySem.W.Frag} {mg : Str → Option Value} {base : Heap}
abbrev nTrj : List Str := ["_law_pen_here", "_law_line", "_law_up", "_law_down", "_law_neither", "_law_odd", "_law_bad", "_law_most", "_law_tries", "_law_one", "_law_two", "_law_three", "_law_bounds"]
theorem sc70l : FnScope nTrj ["_law_pen_here"] (defScope (top 70)) := ⟨rfl, rfl, rfl, by decide +kernel, rfl, by decide +kernel, by decide +kernel⟩
def spTor (Tl : List (Addr × Str)) : Sp := fun vs H Q _ => ∃ (p c : Addr) (n : Nat), vs = [.ref p] ∧ Pen H p c n ∧ n ≤ 100000 ∧ LamX.Tabs Tl H ∧
  ∀ H', Pen H' p c (n + 3) → ButN p H H' → LamX.Tabs Tl H' → Q (.bl true) H'
theorem ok_tor (T : Tlm P K mg) (TB : LamX.TabB base mg T.c70 T.P70) : FnG P w K mg base CX0 15 T.l_tor.f T.l_tor.fd ["_law_pen_here"] (spTor T.Tl) := by
  have Gpick : FnOk P w K mg base CX0 2 T.l_pick.f T.l_pick.fd ["_law_pen_here", "_law_some"] spPick := ok_lpick T.toTu
  have Gnf : FnG P w K mg base CX0 1 T.l_nfault.f T.l_nfault.fd ["_law_what", "_law_number"] (spNf K) := ok_nf T.toTj
  refine fnGC0 T.f70 sc70l (fun vs H Q E h => ?_) (fun A outer s H vs Q E hg hr h => ?_)
  · obtain ⟨p, c, n, rfl, _⟩ := h
    rfl
  obtain ⟨p, c, n, rfl, pen, hn, tabs, k⟩ := h
  have hr1 : Room 1 _ := hr.mono (by decide)
  have hr2 : Room 2 _ := hr.mono (by decide)
  have hr6 : Room 6 _ := hr.mono (by decide)
  have hr8 : Room 8 _ := hr.mono (by decide)
  have hr11 : Room 11 _ := hr.mono (by decide)
  have hu := hr.units
  refine ⟨_, (pss_cons (ps_set (i := 1) sc70l.nd rfl (.inr rfl) (T.cBrkT hr8 (pa_cons (pe_tup (pa_cons pe_int (pa_cons pe_int pa_nil))) (pa_cons (pe_tup (pa_cons (T.cPoly hr6 (pa_cons (pe_tup (pa_cons pe_int (pa_cons pe_int pa_nil))) pa_nil)) pa_nil)) (pa_cons (pe_tup (pa_cons pe_int (pa_cons pe_int pa_nil))) pa_nil)))))
      (pss_cons (ps_set (i := 2) sc70l.nd rfl (.inr rfl) (T.cBrkT hr8 (pa_cons (pe_tup (pa_cons pe_int (pa_cons pe_int (pa_cons pe_int pa_nil)))) (pa_cons (pe_tup (pa_cons (T.cPoly hr6 (pa_cons (pe_tup (pa_cons pe_int pa_nil)) pa_nil)) (pa_cons (T.cPoly hr6 (pa_cons (pe_tup (pa_cons pe_int pa_nil)) pa_nil)) pa_nil))) (pa_cons (pe_tup (pa_cons pe_int (pa_cons pe_int (pa_cons pe_int pa_nil)))) pa_nil)))))
      (pss_cons (ps_set (i := 3) sc70l.nd rfl (.inr rfl) (T.cBrkT hr8 (pa_cons (pe_tup (pa_cons pe_int (pa_cons pe_int (pa_cons pe_int pa_nil)))) (pa_cons (pe_tup (pa_cons (T.cPoly hr6 (pa_cons (pe_tup (pa_cons pe_int pa_nil)) pa_nil)) (pa_cons (T.cPoly hr6 (pa_cons (pe_tup (pa_cons pe_int pa_nil)) pa_nil)) pa_nil))) (pa_cons (pe_tup (pa_cons pe_int (pa_cons pe_int (pa_cons pe_int pa_nil)))) pa_nil)))))
      (pss_cons (ps_set (i := 4) sc70l.nd rfl (.inr rfl) (T.cBrkT hr8 (pa_cons (pe_tup (pa_cons pe_int (pa_cons pe_int (pa_cons pe_int pa_nil)))) (pa_cons (pe_tup (pa_cons (T.cPoly hr6 (pa_cons (pe_tup (pa_cons pe_int pa_nil)) pa_nil)) (pa_cons (T.cPoly hr6 (pa_cons (pe_tup (pa_cons pe_int pa_nil)) pa_nil)) pa_nil))) (pa_cons (pe_tup (pa_cons pe_int (pa_cons (pe_tup (pa_cons pe_int (pa_cons pe_int pa_nil))) (pa_cons pe_int pa_nil)))) pa_nil)))))
      (pss_cons (ps_asg (pe_tup (pa_cons (T.l_pick.c0 Gpick hr2 (pa_cons (pv 0) (pa_cons (pe_lst (pa_cons pe_str (pa_cons (pe_tup (pa_cons pe_int (pa_cons pe_int pa_nil))) (pa_cons pe_bl (pa_cons (pe_tup (pa_cons pe_int (pa_cons (pe_un un_neg pe_int) pa_nil))) (pa_cons (pe_lst (pa_cons pe_int pa_nil)) (pa_cons pe_dnewK pa_nil))))))) pa_nil))) (pa_cons (T.l_pick.c0 Gpick hr2 (pa_cons (pv 0) (pa_cons (pe_lst (pa_cons pe_str (pa_cons (pe_tup (pa_cons pe_int (pa_cons pe_int pa_nil))) (pa_cons pe_bl (pa_cons (pe_tup (pa_cons pe_int (pa_cons pe_int (pa_cons pe_int pa_nil)))) pa_nil))))) pa_nil))) pa_nil))) (pg_tup (by rfl) (pgs_cons (pg_name (i := 5) sc70l.nd rfl (.inr rfl)) (pgs_cons (pg_name (i := 6) sc70l.nd rfl (.inr rfl)) pgs_nil))))
      (pss_cons (ps_set (i := 7) sc70l.nd rfl (.inr rfl) (T.l_pick.c0 Gpick hr2 (pa_cons (pv 0) (pa_cons (pe_lst (pa_cons (pe_tup (pa_cons pe_int (pa_cons pe_int pa_nil))) (pa_cons (pe_un un_neg pe_int) (pa_cons (pe_tup (pa_cons pe_int (pa_cons pe_int pa_nil))) pa_nil)))) pa_nil))))
      (pss_cons (ps_set (i := 8) sc70l.nd rfl (.inl rfl) (pe_lst (pa_cons (pe_tup (pa_cons (pe_lamV TB rfl T.m70 T.h70 (LamX.lamS_by (sc := defScope (top 70)) (by decide +kernel))) (pa_cons (pe_tup (pa_cons pe_str (pa_cons pe_str pa_nil))) pa_nil))) (pa_cons (pe_tup (pa_cons (pe_lamV TB rfl T.m70 T.h70 (LamX.lamS_by (sc := defScope (top 70)) (by decide +kernel))) (pa_cons (pe_callG Gnf hg hr1 rfl T.l_nfault.g T.l_nfault.fn.kp T.l_nfault.b pass0 (pa_cons pe_str (pa_cons (pv 5) pa_nil))) pa_nil))) (pa_cons (pe_tup (pa_cons (pe_lamV TB rfl T.m70 T.h70 (LamX.lamS_by (sc := defScope (top 70)) (by decide +kernel))) (pa_cons (pe_callG Gnf hg hr1 rfl T.l_nfault.g T.l_nfault.fn.kp T.l_nfault.b pass0 (pa_cons pe_str (pa_cons (pv 6) pa_nil))) pa_nil))) (pa_cons (pe_tup (pa_cons (pe_lamV TB rfl T.m70 T.h70 (LamX.lamS_by (sc := defScope (top 70)) (by decide +kernel))) (pa_cons (pe_callG Gnf hg hr1 rfl T.l_nfault.g T.l_nfault.fn.kp T.l_nfault.b pass0 (pa_cons pe_str (pa_cons (pv 7) pa_nil))) pa_nil))) (pa_cons (pe_tup (pa_cons (pe_lamV TB rfl T.m70 T.h70 (LamX.lamS_by (sc := defScope (top 70)) (by decide +kernel))) (pa_cons (pe_tup (pa_cons pe_str (pa_cons pe_str pa_nil))) pa_nil))) (pa_cons (pe_tup (pa_cons (pe_lamV TB rfl T.m70 T.h70 (LamX.lamS_by (sc := defScope (top 70)) (by decide +kernel))) (pa_cons (pe_callG Gnf hg hr1 rfl T.l_nfault.g T.l_nfault.fn.kp T.l_nfault.b pass0 (pa_cons pe_str (pa_cons pe_int pa_nil))) pa_nil))) (pa_cons (pe_tup (pa_cons (pe_lamV TB rfl T.m70 T.h70 (LamX.lamS_by (sc := defScope (top 70)) (by decide +kernel))) (pa_cons (pe_callG Gnf hg hr1 rfl T.l_nfault.g T.l_nfault.fn.kp T.l_nfault.b pass0 (pa_cons pe_str (pa_cons (pv 5) pa_nil))) pa_nil))) (pa_cons (pe_tup (pa_cons (pe_lamV TB rfl T.m70 T.h70 (LamX.lamS_by (sc := defScope (top 70)) (by decide +kernel))) (pa_cons (pe_tup (pa_cons pe_str (pa_cons pe_str pa_nil))) pa_nil))) (pa_cons (pe_tup (pa_cons (pe_lamV TB rfl T.m70 T.h70 (LamX.lamS_by (sc := defScope (top 70)) (by decide +kernel))) (pa_cons (pe_callG Gnf hg hr1 rfl T.l_nfault.g T.l_nfault.fn.kp T.l_nfault.b pass0 (pa_cons pe_str (pa_cons pe_int pa_nil))) pa_nil))) (pa_cons (pe_tup (pa_cons (pe_lamV TB rfl T.m70 T.h70 (LamX.lamS_by (sc := defScope (top 70)) (by decide +kernel))) (pa_cons (pe_callG Gnf hg hr1 rfl T.l_nfault.g T.l_nfault.fn.kp T.l_nfault.b pass0 (pa_cons pe_str (pa_cons (pv 6) pa_nil))) pa_nil))) pa_nil))))))))))))
      (pss_cons (ps_par3 (i := 9) (j := 10) (l := 11) rfl sc70l.nd rfl rfl rfl (by decide) (by decide) (by decide) rfl rfl rfl (pa_cons (T.cTol hr11 (pa_cons (pv 1) (pa_cons pe_int (pa_cons (pe_tup (pa_cons pe_int (pa_cons pe_int pa_nil))) pa_nil)))) (pa_cons (T.cTol hr11 (pa_cons (pv 2) (pa_cons pe_int (pa_cons pe_non pa_nil)))) (pa_cons (T.cTol hr11 (pa_cons (pv 3) (pa_cons pe_non (pa_cons (pe_lst (pa_cons pe_int (pa_cons pe_int pa_nil))) pa_nil)))) pa_nil))) (by rfl))
      (pss_cons (ps_set (i := 12) sc70l.nd rfl (.inl rfl) (pe_tup (pa_cons (pe_fld (pv 9) (by rfl)) (pa_cons (pe_fld (pv 9) (by rfl)) (pa_cons (pe_fld (pv 10) (by rfl)) (pa_cons (pe_fld (pv 10) (by rfl)) (pa_cons (pe_fld (pv 11) (by rfl)) (pa_cons (pe_fld (pv 11) (by rfl)) pa_nil))))))))
      (pss_cons (ps_if (PW.pt (pw_or (pt_cmpR (op_neDK (K' := K) hu) (pv 12) (pe_tup (pa_cons (pe_tup (pa_cons pe_int (pa_cons pe_int pa_nil))) (pa_cons (pe_tup (pa_cons pe_int (pa_cons pe_int pa_nil))) (pa_cons (pe_tup (pa_cons pe_int (pa_cons pe_int pa_nil))) (pa_cons pe_non (pa_cons pe_non (pa_cons (pe_tup (pa_cons pe_int (pa_cons pe_int pa_nil))) pa_nil))))))) (nomark _)) (pw_or1 (pt_cmpR (op_id hr T.moT T.eqT) (pv 9) (T.cTol hr11 (pa_cons (pv 1) (pa_cons pe_int (pa_cons (pe_tup (pa_cons pe_int (pa_cons pe_int pa_nil))) pa_nil)))) (nomark _))))) (pss_one (ps_ret pe_bl)) pss_nil)
      (pss_one (ps_ret (pe_callV (ok_allr (kk := 11) T.toTj) hg hr rfl T.l_allr.g T.l_allr.fn.kp T.l_allr.b (pa_cons (pv 8) pa_nil) (fun _ => rfl) ⟨rfl, rfl⟩))))))))))))), ?_⟩
  refine ⟨(by show 2 ≤ sizeLine; decide), fun zk1 nzk1 => ?_⟩
  have s1 := Same.new (o := (.tup [.int 0, .int 1] : HO)) nzk1
  have e1 : upd H zk1 (.tup [.int 0, .int 1]) zk1 = some (.tup [.int 0, .int 1]) := upd_same
  generalize upd H zk1 (.tup [.int 0, .int 1]) = H1 at s1 e1 ⊢
  refine ⟨(by show 2 ≤ sizeLine; decide), fun zq2 nzq2 => ?_⟩
  have s2 := Same.new (o := (.tup [.int 0, .int 1] : HO)) nzq2
  have e2 : upd H1 zq2 (.tup [.int 0, .int 1]) zq2 = some (.tup [.int 0, .int 1]) := upd_same
  generalize upd H1 zq2 (.tup [.int 0, .int 1]) = H2 at s2 e2 ⊢
  refine poly_made' (qs := [z0, z1]) (.inr (SqT.of e2)) (.cons (arg_i (n := 3) (m := 1) (by decide) (by decide)) (.cons (arg_i (n := 3) (m := 1) (by decide) (by decide)) (.nil))) (by decide) (by show 2 ≤ 1000; decide) fun zp3 H3 rs3 s3 pp3 _ ec3 => ?_
  obtain rfl : rs3 = [z0, z1] := tr_ext pp3.tr trA ec3
  refine ⟨(by show 1 ≤ sizeLine; decide), fun zt4 nzt4 => ?_⟩
  have s4 := Same.new (o := (.tup [.ref zp3] : HO)) nzt4
  have e4 : upd H3 zt4 (.tup [.ref zp3]) zt4 = some (.tup [.ref zp3]) := upd_same
  generalize upd H3 zt4 (.tup [.ref zp3]) = H4 at s4 e4 ⊢
  refine ⟨(by show 2 ≤ sizeLine; decide), fun za5 nza5 => ?_⟩
  have s5 := Same.new (o := (.tup [.int 0, .int 1] : HO)) nza5
  have e5 : upd H4 za5 (.tup [.int 0, .int 1]) za5 = some (.tup [.int 0, .int 1]) := upd_same
  generalize upd H4 za5 (.tup [.int 0, .int 1]) = H5 at s5 e5 ⊢
  have c5 : Same H5 H5 := Same.refl _
  have c4 : Same H4 H5 := s5.trans c5
  have c3 : Same H3 H5 := s4.trans c4
  have c2 : Same H2 H5 := s3.trans c3
  have c1 : Same H1 H5 := s2.trans c2
  have c0 : Same H H5 := s1.trans c1
  refine brk_made (ks := kA) (ps := pA) (as := kA) (rw2 (c1 _ _ e1) (by decide) (by decide)) (by decide) (by decide +kernel) (SqT.of (c4 _ _ e4)) (pls1 (pp3.same c3)) rfl (rw2 (c5 _ _ e5) (by decide) (by decide)) rfl fun fl H6 s6 bfl nfl => ?_
  refine ⟨(by show 3 ≤ sizeLine; decide), fun zk7 nzk7 => ?_⟩
  have s7 := Same.new (o := (.tup [.int 0, .int 1, .int 2] : HO)) nzk7
  have e7 : upd H6 zk7 (.tup [.int 0, .int 1, .int 2]) zk7 = some (.tup [.int 0, .int 1, .int 2]) := upd_same
  generalize upd H6 zk7 (.tup [.int 0, .int 1, .int 2]) = H7 at s7 e7 ⊢
  refine ⟨(by show 1 ≤ sizeLine; decide), fun zq8 nzq8 => ?_⟩
  have s8 := Same.new (o := (.tup [.int 1] : HO)) nzq8
  have e8 : upd H7 zq8 (.tup [.int 1]) zq8 = some (.tup [.int 1]) := upd_same
  generalize upd H7 zq8 (.tup [.int 1]) = H8 at s8 e8 ⊢
  refine poly_made' (qs := [z1]) (.inr (SqT.of e8)) (.cons (arg_i (n := 3) (m := 1) (by decide) (by decide)) (.nil)) (by decide) (by show 1 ≤ 1000; decide) fun zp9 H9 rs9 s9 pp9 _ ec9 => ?_
  obtain rfl : rs9 = [z1] := tr_ext pp9.tr trB ec9
  refine ⟨(by show 1 ≤ sizeLine; decide), fun zq10 nzq10 => ?_⟩
  have s10 := Same.new (o := (.tup [.int 0] : HO)) nzq10
  have e10 : upd H9 zq10 (.tup [.int 0]) zq10 = some (.tup [.int 0]) := upd_same
  generalize upd H9 zq10 (.tup [.int 0]) = H10 at s10 e10 ⊢
  refine poly_made' (qs := [z0]) (.inr (SqT.of e10)) (.cons (arg_i (n := 3) (m := 1) (by decide) (by decide)) (.nil)) (by decide) (by show 1 ≤ 1000; decide) fun zp11 H11 rs11 s11 pp11 _ ec11 => ?_
  obtain rfl : rs11 = [] := tr_ext pp11.tr trC (fun i => (ec11 i).trans (cz0 i))
  refine ⟨(by show 2 ≤ sizeLine; decide), fun zt12 nzt12 => ?_⟩
  have s12 := Same.new (o := (.tup [.ref zp9, .ref zp11] : HO)) nzt12
  have e12 : upd H11 zt12 (.tup [.ref zp9, .ref zp11]) zt12 = some (.tup [.ref zp9, .ref zp11]) := upd_same
  generalize upd H11 zt12 (.tup [.ref zp9, .ref zp11]) = H12 at s12 e12 ⊢
  refine ⟨(by show 3 ≤ sizeLine; decide), fun za13 nza13 => ?_⟩
  have s13 := Same.new (o := (.tup [.int 1, .int 1, .int 0] : HO)) nza13
  have e13 : upd H12 za13 (.tup [.int 1, .int 1, .int 0]) za13 = some (.tup [.int 1, .int 1, .int 0]) := upd_same
  generalize upd H12 za13 (.tup [.int 1, .int 1, .int 0]) = H13 at s13 e13 ⊢
  have c13 : Same H13 H13 := Same.refl _
  have c12 : Same H12 H13 := s13.trans c13
  have c11 : Same H11 H13 := s12.trans c12
  have c10 : Same H10 H13 := s11.trans c11
  have c9 : Same H9 H13 := s10.trans c10
  have c8 : Same H8 H13 := s9.trans c9
  have c7 : Same H7 H13 := s8.trans c8
  have c6 : Same H6 H13 := s7.trans c7
  refine brk_made (ks := kB) (ps := pB) (as := aU) (rw3 (c7 _ _ e7) (by decide) (by decide) (by decide)) (by decide) (by decide +kernel) (SqT.of (c12 _ _ e12)) (pls2 (pp9.same c9) (pp11.same c11)) rfl (rw3 (c13 _ _ e13) (by decide) (by decide) (by decide)) rfl fun fu H14 s14 bfu nfu => ?_
  refine ⟨(by show 3 ≤ sizeLine; decide), fun zk15 nzk15 => ?_⟩
  have s15 := Same.new (o := (.tup [.int 0, .int 1, .int 2] : HO)) nzk15
  have e15 : upd H14 zk15 (.tup [.int 0, .int 1, .int 2]) zk15 = some (.tup [.int 0, .int 1, .int 2]) := upd_same
  generalize upd H14 zk15 (.tup [.int 0, .int 1, .int 2]) = H15 at s15 e15 ⊢
  refine ⟨(by show 1 ≤ sizeLine; decide), fun zq16 nzq16 => ?_⟩
  have s16 := Same.new (o := (.tup [.int 1] : HO)) nzq16
  have e16 : upd H15 zq16 (.tup [.int 1]) zq16 = some (.tup [.int 1]) := upd_same
  generalize upd H15 zq16 (.tup [.int 1]) = H16 at s16 e16 ⊢
  refine poly_made' (qs := [z1]) (.inr (SqT.of e16)) (.cons (arg_i (n := 3) (m := 1) (by decide) (by decide)) (.nil)) (by decide) (by show 1 ≤ 1000; decide) fun zp17 H17 rs17 s17 pp17 _ ec17 => ?_
  obtain rfl : rs17 = [z1] := tr_ext pp17.tr trB ec17
  refine ⟨(by show 1 ≤ sizeLine; decide), fun zq18 nzq18 => ?_⟩
  have s18 := Same.new (o := (.tup [.int 0] : HO)) nzq18
  have e18 : upd H17 zq18 (.tup [.int 0]) zq18 = some (.tup [.int 0]) := upd_same
  generalize upd H17 zq18 (.tup [.int 0]) = H18 at s18 e18 ⊢
  refine poly_made' (qs := [z0]) (.inr (SqT.of e18)) (.cons (arg_i (n := 3) (m := 1) (by decide) (by decide)) (.nil)) (by decide) (by show 1 ≤ 1000; decide) fun zp19 H19 rs19 s19 pp19 _ ec19 => ?_
  obtain rfl : rs19 = [] := tr_ext pp19.tr trC (fun i => (ec19 i).trans (cz0 i))
  refine ⟨(by show 2 ≤ sizeLine; decide), fun zt20 nzt20 => ?_⟩
  have s20 := Same.new (o := (.tup [.ref zp17, .ref zp19] : HO)) nzt20
  have e20 : upd H19 zt20 (.tup [.ref zp17, .ref zp19]) zt20 = some (.tup [.ref zp17, .ref zp19]) := upd_same
  generalize upd H19 zt20 (.tup [.ref zp17, .ref zp19]) = H20 at s20 e20 ⊢
  refine ⟨(by show 3 ≤ sizeLine; decide), fun za21 nza21 => ?_⟩
  have s21 := Same.new (o := (.tup [.int 1, .int 0, .int 0] : HO)) nza21
  have e21 : upd H20 za21 (.tup [.int 1, .int 0, .int 0]) za21 = some (.tup [.int 1, .int 0, .int 0]) := upd_same
  generalize upd H20 za21 (.tup [.int 1, .int 0, .int 0]) = H21 at s21 e21 ⊢
  have c21 : Same H21 H21 := Same.refl _
  have c20 : Same H20 H21 := s21.trans c21
  have c19 : Same H19 H21 := s20.trans c20
  have c18 : Same H18 H21 := s19.trans c19
  have c17 : Same H17 H21 := s18.trans c18
  have c16 : Same H16 H21 := s17.trans c17
  have c15 : Same H15 H21 := s16.trans c16
  have c14 : Same H14 H21 := s15.trans c15
  refine brk_made (ks := kB) (ps := pB) (as := aD) (rw3 (c15 _ _ e15) (by decide) (by decide) (by decide)) (by decide) (by decide +kernel) (SqT.of (c20 _ _ e20)) (pls2 (pp17.same c17) (pp19.same c19)) rfl (rw3 (c21 _ _ e21) (by decide) (by decide) (by decide)) rfl fun fd H22 s22 bfd nfd => ?_
  refine ⟨(by show 3 ≤ sizeLine; decide), fun zk23 nzk23 => ?_⟩
  have s23 := Same.new (o := (.tup [.int 0, .int 1, .int 2] : HO)) nzk23
  have e23 : upd H22 zk23 (.tup [.int 0, .int 1, .int 2]) zk23 = some (.tup [.int 0, .int 1, .int 2]) := upd_same
  generalize upd H22 zk23 (.tup [.int 0, .int 1, .int 2]) = H23 at s23 e23 ⊢
  refine ⟨(by show 1 ≤ sizeLine; decide), fun zq24 nzq24 => ?_⟩
  have s24 := Same.new (o := (.tup [.int 1] : HO)) nzq24
  have e24 : upd H23 zq24 (.tup [.int 1]) zq24 = some (.tup [.int 1]) := upd_same
  generalize upd H23 zq24 (.tup [.int 1]) = H24 at s24 e24 ⊢
  refine poly_made' (qs := [z1]) (.inr (SqT.of e24)) (.cons (arg_i (n := 3) (m := 1) (by decide) (by decide)) (.nil)) (by decide) (by show 1 ≤ 1000; decide) fun zp25 H25 rs25 s25 pp25 _ ec25 => ?_
  obtain rfl : rs25 = [z1] := tr_ext pp25.tr trB ec25
  refine ⟨(by show 1 ≤ sizeLine; decide), fun zq26 nzq26 => ?_⟩
  have s26 := Same.new (o := (.tup [.int 0] : HO)) nzq26
  have e26 : upd H25 zq26 (.tup [.int 0]) zq26 = some (.tup [.int 0]) := upd_same
  generalize upd H25 zq26 (.tup [.int 0]) = H26 at s26 e26 ⊢
  refine poly_made' (qs := [z0]) (.inr (SqT.of e26)) (.cons (arg_i (n := 3) (m := 1) (by decide) (by decide)) (.nil)) (by decide) (by show 1 ≤ 1000; decide) fun zp27 H27 rs27 s27 pp27 _ ec27 => ?_
  obtain rfl : rs27 = [] := tr_ext pp27.tr trC (fun i => (ec27 i).trans (cz0 i))
  refine ⟨(by show 2 ≤ sizeLine; decide), fun zt28 nzt28 => ?_⟩
  have s28 := Same.new (o := (.tup [.ref zp25, .ref zp27] : HO)) nzt28
  have e28 : upd H27 zt28 (.tup [.ref zp25, .ref zp27]) zt28 = some (.tup [.ref zp25, .ref zp27]) := upd_same
  generalize upd H27 zt28 (.tup [.ref zp25, .ref zp27]) = H28 at s28 e28 ⊢
  refine ⟨(by show 2 ≤ sizeLine; decide), fun zh29 nzh29 => ?_⟩
  have s29 := Same.new (o := (.tup [.int 1, .int 2] : HO)) nzh29
  have e29 : upd H28 zh29 (.tup [.int 1, .int 2]) zh29 = some (.tup [.int 1, .int 2]) := upd_same
  generalize upd H28 zh29 (.tup [.int 1, .int 2]) = H29 at s29 e29 ⊢
  refine ⟨(by show 3 ≤ sizeLine; decide), fun za30 nza30 => ?_⟩
  have s30 := Same.new (o := (.tup [.int 1, .ref zh29, .int 0] : HO)) nza30
  have e30 : upd H29 za30 (.tup [.int 1, .ref zh29, .int 0]) za30 = some (.tup [.int 1, .ref zh29, .int 0]) := upd_same
  generalize upd H29 za30 (.tup [.int 1, .ref zh29, .int 0]) = H30 at s30 e30 ⊢
  have c30 : Same H30 H30 := Same.refl _
  have c29 : Same H29 H30 := s30.trans c30
  have c28 : Same H28 H30 := s29.trans c29
  have c27 : Same H27 H30 := s28.trans c28
  have c26 : Same H26 H30 := s27.trans c27
  have c25 : Same H25 H30 := s26.trans c26
  have c24 : Same H24 H30 := s25.trans c25
  have c23 : Same H23 H30 := s24.trans c24
  have c22 : Same H22 H30 := s23.trans c23
  refine brk_made (ks := kB) (ps := pB) (as := aN) (rw3 (c23 _ _ e23) (by decide) (by decide) (by decide)) (by decide) (by decide +kernel) (SqT.of (c28 _ _ e28)) (pls2 (pp25.same c25) (pp27.same c27)) rfl (rwN (c30 _ _ e30) (c29 _ _ e29)) rfl fun fn H31 s31 bfn nfn => ?_
  have c31 : Same H31 H31 := Same.refl _
  have c30 : Same H30 H31 := s31.trans c31
  have c29 : Same H29 H31 := s30.trans c30
  have c28 : Same H28 H31 := s29.trans c29
  have c27 : Same H27 H31 := s28.trans c28
  have c26 : Same H26 H31 := s27.trans c27
  have c25 : Same H25 H31 := s26.trans c26
  have c24 : Same H24 H31 := s25.trans c25
  have c23 : Same H23 H31 := s24.trans c24
  have c22 : Same H22 H31 := s23.trans c23
  have c21 : Same H21 H31 := s22.trans c22
  have c20 : Same H20 H31 := s21.trans c21
  have c19 : Same H19 H31 := s20.trans c20
  have c18 : Same H18 H31 := s19.trans c19
  have c17 : Same H17 H31 := s18.trans c18
  have c16 : Same H16 H31 := s17.trans c17
  have c15 : Same H15 H31 := s16.trans c16
  have c14 : Same H14 H31 := s15.trans c15
  have c13 : Same H13 H31 := s14.trans c14
  have c12 : Same H12 H31 := s13.trans c13
  have c11 : Same H11 H31 := s12.trans c12
  have c10 : Same H10 H31 := s11.trans c11
  have c9 : Same H9 H31 := s10.trans c10
  have c8 : Same H8 H31 := s9.trans c9
  have c7 : Same H7 H31 := s8.trans c8
  have c6 : Same H6 H31 := s7.trans c7
  have c5 : Same H5 H31 := s6.trans c6
  have c4 : Same H4 H31 := s5.trans c5
  have c3 : Same H3 H31 := s4.trans c4
  have c2 : Same H2 H31 := s3.trans c3
  have c1 : Same H1 H31 := s2.trans c2
  have c0 : Same H H31 := s1.trans c1
  have penM := pen.same c0
  have toB := NL.cl (H := H31) penM
  have zL : BrkZ K T.cB T.cP (Kz.cl p H31) (.ref fl) kA pA kA := ⟨(bfl.same c6).nl toB, fszA, rfl, zas zA⟩
  have zU : BrkZ K T.cB T.cP (Kz.cl p H31) (.ref fu) kB pB aU := ⟨(bfu.same c14).nl toB, fszB, rfl, zas zU⟩
  have zD : BrkZ K T.cB T.cP (Kz.cl p H31) (.ref fd) kB pB aD := ⟨(bfd.same c22).nl toB, fszB, rfl, zas zD⟩
  have zN : BrkZ K T.cB T.cP (Kz.cl p H31) (.ref fn) kB pB aN := ⟨bfn.nl toB, fszB, rfl, zas zN⟩
  have nL := (nfl.same c6).nl toB
  have nU := (nfu.same c14).nl toB
  have nD := (nfd.same c22).nl toB
  have bM : But p H H31 := But.ofSame c0
  refine ⟨_, rfl, (by show 2 ≤ sizeLine; decide), fun ya1 nya1 => ?_⟩
  have s32 := Same.new (o := (.tup [.int 1, .int 0] : HO)) nya1
  have e32 : upd H31 ya1 (.tup [.int 1, .int 0]) ya1 = some (.tup [.int 1, .int 0]) := upd_same
  generalize upd H31 ya1 (.tup [.int 1, .int 0]) = H32 at s32 e32 ⊢
  refine ⟨_, rfl, (by show 2 ≤ sizeLine; decide), fun ya2 nya2 => ?_⟩
  have s33 := Same.new (o := (.tup [.int 1, .int (-2)] : HO)) nya2
  have e33 : upd H32 ya2 (.tup [.int 1, .int (-2)]) ya2 = some (.tup [.int 1, .int (-2)]) := upd_same
  generalize upd H32 ya2 (.tup [.int 1, .int (-2)]) = H33 at s33 e33 ⊢
  refine ⟨(by show 1 ≤ sizeLine; decide), fun ya3 nya3 => ?_⟩
  have s34 := Same.new (o := (.lst [.int 1] : HO)) nya3
  have e34 : upd H33 ya3 (.lst [.int 1]) ya3 = some (.lst [.int 1]) := upd_same
  generalize upd H33 ya3 (.lst [.int 1]) = H34 at s34 e34 ⊢
  refine fun ya4 nya4 => ?_
  have s35 := Same.new (o := (.dK [] : HO)) nya4
  have e35 : upd H34 ya4 (.dK []) ya4 = some (.dK []) := upd_same
  generalize upd H34 ya4 (.dK []) = H35 at s35 e35 ⊢
  refine ⟨(by show 6 ≤ sizeLine; decide), fun L1 nL1 => ?_⟩
  have s36 := Same.new (o := (.lst [.str "1", .ref ya1, .bl true, .ref ya2, .ref ya3, .ref ya4] : HO)) nL1
  have e36 : upd H35 L1 (.lst [.str "1", .ref ya1, .bl true, .ref ya2, .ref ya3, .ref ya4]) L1 = some (.lst [.str "1", .ref ya1, .bl true, .ref ya2, .ref ya3, .ref ya4]) := upd_same
  generalize upd H35 L1 (.lst [.str "1", .ref ya1, .bl true, .ref ya2, .ref ya3, .ref ya4]) = H36 at s36 e36 ⊢
  have f31 : Same H31 H31 := Same.refl _
  have f32 : Same H31 H32 := f31.trans s32
  have f33 : Same H31 H33 := f32.trans s33
  have f34 : Same H31 H34 := f33.trans s34
  have f35 : Same H31 H35 := f34.trans s35
  have f36 : Same H31 H36 := f35.trans s36
  have c36 : Same H36 H36 := Same.refl _
  have c35 : Same H35 H36 := s36.trans c36
  have c34 : Same H34 H36 := s35.trans c35
  have c33 : Same H33 H36 := s34.trans c34
  have c32 : Same H32 H36 := s33.trans c33
  have c31 : Same H31 H36 := s32.trans c32
  have pen36 := penM.same c31
  refine ⟨p, c, L1, n, _, rfl, pen36, by omega, e36, (by show 0 < 6; decide), (by show 6 < 1000000; decide), fun j1 vo H37 ej1 pen37 b37 => ?_⟩
  have od : OddS K (Kz.cl p H36) vo := odds6 (List.mem_of_getElem? ej1) (cl_at ((penM.same f31).newP nya1) (c32 _ _ e32) (fun _ z => nomatch z)) (cl_at ((penM.same f32).newP nya2) (c33 _ _ e33) (fun _ z => nomatch z)) (cl_at ((penM.same f33).newP nya3) (c34 _ _ e34) (fun _ z => nomatch z)) (cl_at ((penM.same f34).newP nya4) (c35 _ _ e35) (fun _ z => nomatch z))
  have bL1 : But p H31 H37 := (But.ofSame c31).trans b37
  have bLo : But p H36 H37 := b37
  refine ⟨_, rfl, (by show 2 ≤ sizeLine; decide), fun yb1 nyb1 => ?_⟩
  have s38 := Same.new (o := (.tup [.int 0, .int 0] : HO)) nyb1
  have e38 : upd H37 yb1 (.tup [.int 0, .int 0]) yb1 = some (.tup [.int 0, .int 0]) := upd_same
  generalize upd H37 yb1 (.tup [.int 0, .int 0]) = H38 at s38 e38 ⊢
  refine ⟨(by show 3 ≤ sizeLine; decide), fun yb2 nyb2 => ?_⟩
  have s39 := Same.new (o := (.tup [.int 1, .int 2, .int 3] : HO)) nyb2
  have e39 : upd H38 yb2 (.tup [.int 1, .int 2, .int 3]) yb2 = some (.tup [.int 1, .int 2, .int 3]) := upd_same
  generalize upd H38 yb2 (.tup [.int 1, .int 2, .int 3]) = H39 at s39 e39 ⊢
  refine ⟨(by show 4 ≤ sizeLine; decide), fun L2 nL2 => ?_⟩
  have s40 := Same.new (o := (.lst [.str "x", .ref yb1, .bl false, .ref yb2] : HO)) nL2
  have e40 : upd H39 L2 (.lst [.str "x", .ref yb1, .bl false, .ref yb2]) L2 = some (.lst [.str "x", .ref yb1, .bl false, .ref yb2]) := upd_same
  generalize upd H39 L2 (.lst [.str "x", .ref yb1, .bl false, .ref yb2]) = H40 at s40 e40 ⊢
  have f37 : Same H37 H37 := Same.refl _
  have f38 : Same H37 H38 := f37.trans s38
  have f39 : Same H37 H39 := f38.trans s39
  have f40 : Same H37 H40 := f39.trans s40
  have c40 : Same H40 H40 := Same.refl _
  have c39 : Same H39 H40 := s40.trans c40
  have c38 : Same H38 H40 := s39.trans c39
  have c37 : Same H37 H40 := s38.trans c38
  have pen40 := pen37.same c37
  refine ⟨p, c, L2, n + 1, _, rfl, pen40, by omega, e40, (by show 0 < 4; decide), (by show 4 < 1000000; decide), fun j2 vb H41 ej2 pen41 b41 => ?_⟩
  have bd : OddS K (Kz.cl p H40) vb := odds4 (List.mem_of_getElem? ej2) (cl_at ((pen37.same f37).newP nyb1) (c38 _ _ e38) (fun _ z => nomatch z)) (cl_at ((pen37.same f38).newP nyb2) (c39 _ _ e39) (fun _ z => nomatch z))
  have bL2 : But p H37 H41 := (But.ofSame c37).trans b41
  refine ⟨(by show 2 ≤ sizeLine; decide), fun yt nyt => ?_⟩
  have s42 := Same.new (o := (.tup [vo, vb] : HO)) nyt
  have e42 : upd H41 yt (.tup [vo, vb]) yt = some (.tup [vo, vb]) := upd_same
  generalize upd H41 yt (.tup [vo, vb]) = H42 at s42 e42 ⊢
  refine ⟨yt, _, rfl, SqT.of e42, rfl, _, _, rfl, _, _, rfl, rfl, ?_⟩
  refine ⟨_, rfl, (by show 2 ≤ sizeLine; decide), fun yc1 nyc1 => ?_⟩
  have s43 := Same.new (o := (.tup [.int 0, .int 1] : HO)) nyc1
  have e43 : upd H42 yc1 (.tup [.int 0, .int 1]) yc1 = some (.tup [.int 0, .int 1]) := upd_same
  generalize upd H42 yc1 (.tup [.int 0, .int 1]) = H43 at s43 e43 ⊢
  refine ⟨_, rfl, (by show 2 ≤ sizeLine; decide), fun yc2 nyc2 => ?_⟩
  have s44 := Same.new (o := (.tup [.int 9, .int 10] : HO)) nyc2
  have e44 : upd H43 yc2 (.tup [.int 9, .int 10]) yc2 = some (.tup [.int 9, .int 10]) := upd_same
  generalize upd H43 yc2 (.tup [.int 9, .int 10]) = H44 at s44 e44 ⊢
  refine ⟨(by show 3 ≤ sizeLine; decide), fun L3 nL3 => ?_⟩
  have s45 := Same.new (o := (.lst [.ref yc1, .int (-3), .ref yc2] : HO)) nL3
  have e45 : upd H44 L3 (.lst [.ref yc1, .int (-3), .ref yc2]) L3 = some (.lst [.ref yc1, .int (-3), .ref yc2]) := upd_same
  generalize upd H44 L3 (.lst [.ref yc1, .int (-3), .ref yc2]) = H45 at s45 e45 ⊢
  have f41 : Same H41 H41 := Same.refl _
  have f42 : Same H41 H42 := f41.trans s42
  have f43 : Same H41 H43 := f42.trans s43
  have f44 : Same H41 H44 := f43.trans s44
  have f45 : Same H41 H45 := f44.trans s45
  have c45 : Same H45 H45 := Same.refl _
  have c44 : Same H44 H45 := s45.trans c45
  have c43 : Same H43 H45 := s44.trans c44
  have c42 : Same H42 H45 := s43.trans c43
  have c41 : Same H41 H45 := s42.trans c42
  have pen45 := pen41.same c41
  refine ⟨p, c, L3, n + 1 + 1, _, rfl, pen45, by omega, e45, (by show 0 < 3; decide), (by show 3 < 1000000; decide), fun j3 vm H46 ej3 pen46 b46 => ?_⟩
  have ms : (∃ q, ArgQ K (Kz.cl p H45) vm 5 5 q ∧ q < z1) ∧ ∃ dt, DqT K (Kz.cl p H45) vm dt ∧ Shows dt := mosts3 (List.mem_of_getElem? ej3) (cl_at ((pen41.same f42).newP nyc1) (c43 _ _ e43) (fun _ z => nomatch z)) (cl_at ((pen41.same f43).newP nyc2) (c44 _ _ e44) (fun _ z => nomatch z))
  have bL3 : But p H41 H45 := But.ofSame c41
  have k3 : Same (Kz.cl p H37) (Kz.cl p H45) := (bL2.trans bL3).cl
  have k2 : Same (Kz.cl p H36) (Kz.cl p H45) := ((b37.trans bL2).trans bL3).cl
  have k4 : Same (Kz.cl p H40) (Kz.cl p H45) := (b41.trans bL3).cl
  have k1 : Same (Kz.cl p H31) (Kz.cl p H45) := ((bL1.trans bL2).trans bL3).cl
  have od := od.same k2
  have bd := bd.same k4
  have zL := zL.same k1
  have zU := zU.same k1
  have zD := zD.same k1
  have zN := zN.same k1
  have nL := nL.same k1
  have nU := nU.same k1
  have nD := nD.same k1
  have bAll : But p H H46 := (((bM.trans bL1).trans bL2).trans bL3).trans b46
  have sub : Same (Kz.cl p H45) H46 := b46.cl.trans cl_sub
  have tabsQ : LamX.Tabs T.Tl H46 := pen.tabs bAll tabs
  have bN : ButN p H H46 := butN_of bAll
  have nt : ∀ b o, Kz.cl p H45 b = some o → ∀ ps, o ≠ .tbl ps := fun b o e => cl_nt e
  generalize Kz.cl p H45 = B at od bd ms zL zU zD zN nL nU nD sub nt
  obtain ⟨⟨qm, am, ltm⟩, dm, hdm, sm⟩ := ms
  obtain ⟨oo, no, do_, hdo, so⟩ := od
  obtain ⟨ob, nb, db, hdb, sb⟩ := bd
  dsimp only [gName, tNext, tSeq, tAsg]
  refine lst_in ?_
  have u0 := sub
  have tabs0 := tabsQ
  refine lst_el ?_
  refine el_two (K := K) tabs0 fun t1 G1 x1 tabs1 r1 => ?_
  have u1 := subN u0 nt x1
  refine lst_el ?_
  refine el_num (K := K) nt u1 tabs1 so (nv_var rfl hdo) fun t2 G2 x2 tabs2 r2 => ?_
  have u2 := subN u1 nt x2
  refine lst_el ?_
  refine el_num (K := K) nt u2 tabs2 sb (nv_var rfl hdb) fun t3 G3 x3 tabs3 r3 => ?_
  have u3 := subN u2 nt x3
  refine lst_el ?_
  refine el_num (K := K) nt u3 tabs3 sm (nv_var rfl hdm) fun t4 G4 x4 tabs4 r4 => ?_
  have u4 := subN u3 nt x4
  refine lst_el ?_
  refine el_two (K := K) tabs4 fun t5 G5 x5 tabs5 r5 => ?_
  have u5 := subN u4 nt x5
  refine lst_el ?_
  refine el_num (K := K) nt u5 tabs5 sh_int1 nv_int fun t6 G6 x6 tabs6 r6 => ?_
  have u6 := subN u5 nt x6
  refine lst_el ?_
  refine el_num (K := K) nt u6 tabs6 so (nv_var rfl hdo) fun t7 G7 x7 tabs7 r7 => ?_
  have u7 := subN u6 nt x7
  refine lst_el ?_
  refine el_two (K := K) tabs7 fun t8 G8 x8 tabs8 r8 => ?_
  have u8 := subN u7 nt x8
  refine lst_el ?_
  refine el_num (K := K) nt u8 tabs8 sh_int1 nv_int fun t9 G9 x9 tabs9 r9 => ?_
  have u9 := subN u8 nt x9
  refine lst_el ?_
  refine el_num (K := K) nt u9 tabs9 sb (nv_var rfl hdb) fun t10 G10 x10 tabs10 r10 => ?_
  have u10 := subN u9 nt x10
  refine ⟨(by show 10 ≤ sizeLine; decide), fun L4 nL4 => ?_⟩
  have sA := Same.new (o := (.lst [t1, t2, t3, t4, t5, t6, t7, t8, t9, t10] : HO)) nL4
  have eA : upd G10 L4 (.lst [t1, t2, t3, t4, t5, t6, t7, t8, t9, t10]) L4 = some (.lst [t1, t2, t3, t4, t5, t6, t7, t8, t9, t10]) := upd_same
  generalize upd G10 L4 (.lst [t1, t2, t3, t4, t5, t6, t7, t8, t9, t10]) = A0 at sA eA ⊢
  have uA := u10.trans sA
  refine ⟨_, rfl, ?_⟩
  refine ⟨(by show 2 ≤ sizeLine; decide), fun w1 nw1 => ?_⟩
  have a1 := Same.new (o := (.tup [.int 2, .int 2] : HO)) nw1
  have g1 : upd A0 w1 (.tup [.int 2, .int 2]) w1 = some (.tup [.int 2, .int 2]) := upd_same
  generalize upd A0 w1 (.tup [.int 2, .int 2]) = A1 at a1 g1 ⊢
  have arg1 : ∀ {H : Hp}, OA K H (.int 1) (some z1) := .inr ⟨z1, 5, rfl, arg_i (by decide) (by decide), by decide⟩
  have bdsL : Bds kA pA kA (some z1) (some (Rat.divInt 2 2)) := ⟨.inl kind_line.1, fun _ => kind_line.1, fun _ => kind_line.2, fun a b e1 e2 => by cases e1; cases e2; decide +kernel, .inl (Option.some_ne_none _)⟩
  have bdsU : Bds kB pB aU (some z0) none := ⟨.inl kind_up.1, fun _ => kind_up.1, fun z => absurd rfl z, fun a b e1 e2 => (by cases e2), .inl (Option.some_ne_none _)⟩
  have bdsD : Bds kB pB aD none (some (Rat.divInt 1 3)) := ⟨.inr kind_down.2, fun z => absurd rfl z, fun _ => kind_down.2, fun a b e1 e2 => (by cases e1), .inr (Option.some_ne_none _)⟩
  have uB := uA.trans a1
  refine told_made (zL.same uB) (nL.same uB) arg1 (.inr ⟨Rat.divInt 2 2, 5, rfl, arg_p (.inr (SqT.of g1)) (by decide) (by decide) (by decide), by decide⟩) bdsL fun k1 A2 a2 fk1 tok1 => ?_
  have uC := uB.trans a2
  refine ⟨_, rfl, ?_⟩
  refine told_made (zU.same uC) (nU.same uC) (.inr ⟨z0, 5, rfl, arg_i (by decide) (by decide), by decide⟩) (.inl ⟨rfl, rfl⟩) bdsU fun k2 A3 a3 fk2 tok2 => ?_
  have uD := uC.trans a3
  refine ⟨_, rfl, ?_⟩
  refine ⟨(by show 2 ≤ sizeLine; decide), fun w4 nw4 => ?_⟩
  have a4 := Same.new (o := (.lst [.int 1, .int 3] : HO)) nw4
  have g4 : upd A3 w4 (.lst [.int 1, .int 3]) w4 = some (.lst [.int 1, .int 3]) := upd_same
  generalize upd A3 w4 (.lst [.int 1, .int 3]) = A4 at a4 g4 ⊢
  have uE := uD.trans a4
  refine told_made (zD.same uE) (nD.same uE) (.inl ⟨rfl, rfl⟩) (.inr ⟨Rat.divInt 1 3, 5, rfl, arg_p (.inl (SqL.of g4)) (by decide) (by decide) (by decide), by decide⟩) bdsD fun k3 A5 a5 fk3 tok3 => ?_
  have uF := uE.trans a5
  refine ⟨_, _, _, rfl, ?_⟩
  have a26 : Same A2 A5 := (a3.trans a4).trans a5
  have a36 : Same A3 A5 := a4.trans a5
  obtain ⟨y1, d1, _, l1, m1, ey1, h1, _, _, o1, p1⟩ := tok1.same a26
  obtain ⟨y2, d2, _, l2, m2, ey2, h2, _, _, o2, p2⟩ := tok2.same a36
  obtain ⟨y3, d3, _, l3, m3, ey3, h3, _, _, o3, p3⟩ := tok3
  cases ey1
  cases ey2
  cases ey3
  have uG := uF
  have rl1 := or_some o1
  have rm1 := or_some p1
  have rl2 := or_some o2
  have rm2 := or_none p2
  have rl3 := or_none o3
  have rm3 := or_some p3
  subst rm2
  subst rl3
  refine ⟨_, rfl, k1, T.cT, d1, _, _, rfl, h1, T.clT, T.nTo2, lkT2, _, rfl, k1, T.cT, d1, _, _, rfl, h1, T.clT, T.nTo3, lkT3, _, rfl, k2, T.cT, d2, _, _, rfl, h2, T.clT, T.nTo2, lkT2, _, rfl, k2, T.cT, d2, _, _, rfl, h2, T.clT, T.nTo3, lkT3, _, rfl, k3, T.cT, d3, _, _, rfl, h3, T.clT, T.nTo2, lkT2, _, rfl, k3, T.cT, d3, _, _, rfl, h3, T.clT, T.nTo3, lkT3, ?_⟩
  refine ⟨(by show 6 ≤ sizeLine; decide), fun w7 nw7 => ?_⟩
  have a7 := Same.new (o := (.tup [l1, m1, l2, .non, .non, m3] : HO)) nw7
  have g7 : upd A5 w7 (.tup [l1, m1, l2, .non, .non, m3]) w7 = some (.tup [l1, m1, l2, .non, .non, m3]) := upd_same
  generalize upd A5 w7 (.tup [l1, m1, l2, .non, .non, m3]) = A7 at a7 g7 ⊢
  refine ⟨_, rfl, ?_⟩
  refine ⟨(by show 2 ≤ sizeLine; decide), fun w8 nw8 => ?_⟩
  have a8 := Same.new (o := (.tup [.int 1, .int 1] : HO)) nw8
  have g8 : upd A7 w8 (.tup [.int 1, .int 1]) w8 = some (.tup [.int 1, .int 1]) := upd_same
  generalize upd A7 w8 (.tup [.int 1, .int 1]) = A8 at a8 g8 ⊢
  refine ⟨(by show 2 ≤ sizeLine; decide), fun w9 nw9 => ?_⟩
  have a9 := Same.new (o := (.tup [.int 1, .int 1] : HO)) nw9
  have g9 : upd A8 w9 (.tup [.int 1, .int 1]) w9 = some (.tup [.int 1, .int 1]) := upd_same
  generalize upd A8 w9 (.tup [.int 1, .int 1]) = A9 at a9 g9 ⊢
  refine ⟨(by show 2 ≤ sizeLine; decide), fun w10 nw10 => ?_⟩
  have a10 := Same.new (o := (.tup [.int 0, .int 1] : HO)) nw10
  have g10 : upd A9 w10 (.tup [.int 0, .int 1]) w10 = some (.tup [.int 0, .int 1]) := upd_same
  generalize upd A9 w10 (.tup [.int 0, .int 1]) = A10 at a10 g10 ⊢
  refine ⟨(by show 2 ≤ sizeLine; decide), fun w11 nw11 => ?_⟩
  have a11 := Same.new (o := (.tup [.int 1, .int 3] : HO)) nw11
  have g11 : upd A10 w11 (.tup [.int 1, .int 3]) w11 = some (.tup [.int 1, .int 3]) := upd_same
  generalize upd A10 w11 (.tup [.int 1, .int 3]) = A11 at a11 g11 ⊢
  refine ⟨(by show 6 ≤ sizeLine; decide), fun w12 nw12 => ?_⟩
  have a12 := Same.new (o := (.tup [.ref w8, .ref w9, .ref w10, .non, .non, .ref w11] : HO)) nw12
  have g12 : upd A11 w12 (.tup [.ref w8, .ref w9, .ref w10, .non, .non, .ref w11]) w12 = some (.tup [.ref w8, .ref w9, .ref w10, .non, .non, .ref w11]) := upd_same
  generalize upd A11 w12 (.tup [.ref w8, .ref w9, .ref w10, .non, .non, .ref w11]) = A12 at a12 g12 ⊢
  have b1112 := a12
  have b1012 := a11.trans b1112
  have b912 := a10.trans b1012
  have b812 := a9.trans b912
  have b712 := a8.trans b812
  have b612 := a7.trans b712
  have dI : ∀ {H : Hp} {z : Addr} {i j : Int}, H z = some (.tup [.int i, .int j]) → Dp K H (.ref z) (.tuple [.int i, .int j]) := fun e => .tup (SqT.of e) (.cons (.int _) (.cons (.int _) .nil))
  refine ⟨_, _, .tup (SqT.of (b712 _ _ g7)) (.cons (rl1.same b612).dp (.cons (rm1.same b612).dp (.cons (rl2.same b612).dp (.cons .non (.cons .non (.cons (rm3.same b612).dp .nil)))))), .tup (SqT.of g12) (.cons (dI (b812 _ _ g8)) (.cons (dI (b912 _ _ g9)) (.cons (dI (b1012 _ _ g10)) (.cons .non (.cons .non (.cons (dI (b1112 _ _ g11)) .nil)))))), by decide +kernel, by decide +kernel, ?_⟩
  rw [show PyData.eqv (.tuple [pdQ z1, pdQ (Rat.divInt 2 2), pdQ z0, .none, .none, pdQ (Rat.divInt 1 3)]) (.tuple [.tuple [.int 1, .int 1], .tuple [.int 1, .int 1], .tuple [.int 0, .int 1], .none, .none, .tuple [.int 1, .int 3]]) = true by decide +kernel]
  refine ⟨_, rfl, iteF ⟨_, rfl, _, rfl, ?_⟩⟩
  refine ⟨(by show 2 ≤ sizeLine; decide), fun w13 nw13 => ?_⟩
  have a13 := Same.new (o := (.tup [.int 2, .int 2] : HO)) nw13
  have g13 : upd A12 w13 (.tup [.int 2, .int 2]) w13 = some (.tup [.int 2, .int 2]) := upd_same
  generalize upd A12 w13 (.tup [.int 2, .int 2]) = A13 at a13 g13 ⊢
  have uH := (uG.trans b612).trans a13
  refine told_made (zL.same uH) (nL.same uH) arg1 (.inr ⟨Rat.divInt 2 2, 5, rfl, arg_p (.inr (SqT.of g13)) (by decide) (by decide) (by decide), by decide⟩) bdsL fun k4 A14 a14 fk4 tok4 => ?_
  obtain ⟨y4, d4, _, l4, m4, ey4, h4, _⟩ := tok4
  cases ey4
  have h1' := (b612.trans a13) _ _ h1
  refine ⟨k1, k4, d1, d4, _, _, rfl, rfl, fun z => ?_, a14 _ _ h1', h4, ?_⟩
  · rw [← z, h1'] at fk4
    cases fk4
  refine ⟨_, rfl, iteF ?_⟩
  have a614 := (b612.trans a13).trans a14
  have a014 : Same A0 A14 := (((((a1.trans a2).trans a3).trans a4).trans a5).trans a614)
  have sE : Same G10 A14 := sA.trans a014
  have xE := Kz.Same.extN sE
  have tabsE := Kz.Same.tabs sE tabs10
  have uE := uA.trans a014
  refine ⟨_, rfl, fun S kt off => ?_⟩
  have up := off_same off
  have y10 : LamX.ExtN G10 A14 := xE
  have y9 : LamX.ExtN G9 A14 := x10.trans y10
  have y8 : LamX.ExtN G8 A14 := x9.trans y9
  have y7 : LamX.ExtN G7 A14 := x8.trans y8
  have y6 : LamX.ExtN G6 A14 := x7.trans y7
  have y5 : LamX.ExtN G5 A14 := x6.trans y6
  have y4 : LamX.ExtN G4 A14 := x5.trans y5
  have y3 : LamX.ExtN G3 A14 := x4.trans y4
  have y2 : LamX.ExtN G2 A14 := x3.trans y3
  have y1 : LamX.ExtN G1 A14 := x2.trans y2
  have y0 : LamX.ExtN H46 A14 := x1.trans y1
  refine ⟨L4, [t1, t2, t3, t4, t5, t6, t7, t8, t9, t10], rfl, SqL.of (up _ _ (a014 _ _ eA)), fun i t e => ?_, fun H' s => ?_⟩
  · have amU : ∀ {D : Hp}, Same B D → ArgQ K D vm 5 4500 qm := fun s => by
      obtain ⟨a, b, h, e, ha, hb⟩ := am.same s
      exact ⟨a, b, h, e, ha, Nat.lt_of_lt_of_le hb (Nat.pow_le_pow_right (by decide) (by decide))⟩
    match i, e with
    | 0, e =>
      cases e
      refine try_unl off uE (r1.extN y1) ⟨⟨rfl, rfl, rfl, rfl, rfl⟩, kt, LamX.lamS_by (sc := defScope (top 70)) (by decide +kernel), fun q cl pm cv ctv => rfl, fun E A outer s H f c' hr' => T.cTolE (takes_of (E := E) rfl rfl rfl rfl) hr' (pa_cons (pv 4) (pa_cons (pv 5) (pa_cons (pv 6) pa_nil)))⟩ fun D E Qn sD er => ?_
      refine ⟨_, rfl, _, rfl, _, rfl, ?_⟩
      exact told_bad (zN.same sD) (.inl ⟨kind_no.1, kind_no.2, er⟩)
    | 1, e =>
      cases e
      refine try_num off uE (r2.extN y2) hdo so ⟨⟨rfl, rfl, rfl, rfl, rfl⟩, kt, LamX.lamS_by (sc := defScope (top 70)) (by decide +kernel), fun q cl pm cv ctv => rfl, fun E A outer s H f c' hr' => T.cTolE (takes_of (E := E) rfl rfl rfl rfl) hr' (pa_cons (pv 1) (pa_cons (pv 5) (pa_cons (pv 6) pa_nil)))⟩ fun D E Qn sD er => ?_
      refine ⟨_, rfl, _, rfl, _, rfl, ?_⟩
      exact told_bad (zL.same sD) (.inr ⟨.inl kind_line.1, .inl ⟨no, .inl (oo.same sD), er⟩⟩)
    | 2, e =>
      cases e
      refine try_num off uE (r3.extN y3) hdb sb ⟨⟨rfl, rfl, rfl, rfl, rfl⟩, kt, LamX.lamS_by (sc := defScope (top 70)) (by decide +kernel), fun q cl pm cv ctv => rfl, fun E A outer s H f c' hr' => T.cTolE (takes_of (E := E) rfl rfl rfl rfl) hr' (pa_cons (pv 1) (pa_cons pe_non (pa_cons (pv 6) pa_nil)))⟩ fun D E Qn sD er => ?_
      refine ⟨_, rfl, _, rfl, ?_⟩
      exact told_bad (zL.same sD) (.inr ⟨.inl kind_line.1, .inr ⟨none, .inl ⟨rfl, rfl⟩, fun z => absurd rfl z, .inl ⟨nb, .inl (ob.same sD), er⟩⟩⟩)
    | 3, e =>
      cases e
      refine try_num off uE (r4.extN y4) hdm sm ⟨⟨rfl, rfl, rfl, rfl, rfl⟩, kt, LamX.lamS_by (sc := defScope (top 70)) (by decide +kernel), fun q cl pm cv ctv => rfl, fun E A outer s H f c' hr' => T.cTolE (takes_of (E := E) rfl rfl rfl rfl) hr' (pa_cons (pv 1) (pa_cons pe_int (pa_cons (pv 7) pa_nil)))⟩ fun D E Qn sD er => ?_
      refine ⟨_, rfl, _, rfl, ?_⟩
      exact told_bad (zL.same sD) (.inr ⟨.inl kind_line.1, .inr ⟨some z1, .inr ⟨z1, 5, rfl, arg_i (by decide) (by decide), by decide⟩, fun _ => kind_line.1, .inr ⟨some qm, .inr ⟨qm, 5, rfl, amU sD, by decide⟩, fun _ => kind_line.2, .inl ⟨z1, qm, rfl, rfl, ltm, er⟩⟩⟩⟩)
    | 4, e =>
      cases e
      refine try_unl off uE (r5.extN y5) ⟨⟨rfl, rfl, rfl, rfl, rfl⟩, kt, LamX.lamS_by (sc := defScope (top 70)) (by decide +kernel), fun q cl pm cv ctv => rfl, fun E A outer s H f c' hr' => T.cTolE (takes_of (E := E) rfl rfl rfl rfl) hr' (pa_cons (pv 1) (pa_cons pe_non (pa_cons pe_non pa_nil)))⟩ fun D E Qn sD er => ?_
      refine ⟨_, rfl, ?_⟩
      exact told_bad (zL.same sD) (.inr ⟨.inl kind_line.1, .inr ⟨none, .inl ⟨rfl, rfl⟩, fun z => absurd rfl z, .inr ⟨none, .inl ⟨rfl, rfl⟩, fun z => absurd rfl z, .inr ⟨rfl, rfl, er⟩⟩⟩⟩)
    | 5, e =>
      cases e
      refine try_num off uE (r6.extN y6) (.inl (.int 1)) sh_int1 ⟨⟨rfl, rfl, rfl, rfl, rfl⟩, kt, LamX.lamS_by (sc := defScope (top 70)) (by decide +kernel), fun q cl pm cv ctv => rfl, fun E A outer s H f c' hr' => T.cTolE (takes_of (E := E) rfl rfl rfl rfl) hr' (pa_cons (pv 2) (pa_cons (pe_tup (pa_cons pe_int (pa_cons pe_int pa_nil))) (pa_cons pe_int pa_nil)))⟩ fun D E Qn sD er => ?_
      refine ⟨_, rfl, (by show 2 ≤ sizeLine; decide), fun z nz => ?_⟩
      exact told_bad (zU.same (sD.trans (Same.new nz))) (.inr ⟨.inl kind_up.1, .inr ⟨some (Rat.divInt 1 2), .inr ⟨Rat.divInt 1 2, 5, rfl, arg_p (.inr (SqT.of upd_same)) (by decide) (by decide) (by decide), by decide⟩, fun _ => kind_up.1, .inl ⟨V.noConfusion, .inr ⟨⟨z1, 5, arg_i (by decide) (by decide)⟩, kind_up.2⟩, er.after (Same.new nz)⟩⟩⟩)
    | 6, e =>
      cases e
      refine try_num off uE (r7.extN y7) hdo so ⟨⟨rfl, rfl, rfl, rfl, rfl⟩, kt, LamX.lamS_by (sc := defScope (top 70)) (by decide +kernel), fun q cl pm cv ctv => rfl, fun E A outer s H f c' hr' => T.cTolE (takes_of (E := E) rfl rfl rfl rfl) hr' (pa_cons (pv 2) (pa_cons (pv 5) (pa_cons pe_int pa_nil)))⟩ fun D E Qn sD er => ?_
      refine ⟨_, rfl, _, rfl, ?_⟩
      exact told_bad (zU.same sD) (.inr ⟨.inl kind_up.1, .inl ⟨no, .inl (oo.same sD), er⟩⟩)
    | 7, e =>
      cases e
      refine try_unl off uE (r8.extN y8) ⟨⟨rfl, rfl, rfl, rfl, rfl⟩, kt, LamX.lamS_by (sc := defScope (top 70)) (by decide +kernel), fun q cl pm cv ctv => rfl, fun E A outer s H f c' hr' => T.cTolE (takes_of (E := E) rfl rfl rfl rfl) hr' (pa_cons (pv 2) (pa_cons pe_non (pa_cons pe_non pa_nil)))⟩ fun D E Qn sD er => ?_
      refine ⟨_, rfl, ?_⟩
      exact told_bad (zU.same sD) (.inr ⟨.inl kind_up.1, .inr ⟨none, .inl ⟨rfl, rfl⟩, fun z => absurd rfl z, .inr ⟨none, .inl ⟨rfl, rfl⟩, fun z => absurd rfl z, .inr ⟨rfl, rfl, er⟩⟩⟩⟩)
    | 8, e =>
      cases e
      refine try_num off uE (r9.extN y9) (.inl (.int 1)) sh_int1 ⟨⟨rfl, rfl, rfl, rfl, rfl⟩, kt, LamX.lamS_by (sc := defScope (top 70)) (by decide +kernel), fun q cl pm cv ctv => rfl, fun E A outer s H f c' hr' => T.cTolE (takes_of (E := E) rfl rfl rfl rfl) hr' (pa_cons (pv 3) (pa_cons pe_int (pa_cons (pv 6) pa_nil)))⟩ fun D E Qn sD er => ?_
      refine ⟨_, rfl, _, rfl, ?_⟩
      exact told_bad (zD.same sD) (.inr ⟨.inr kind_down.2, .inl ⟨V.noConfusion, .inr ⟨⟨z1, 5, arg_i (by decide) (by decide)⟩, kind_down.1⟩, er⟩⟩)
    | 9, e =>
      cases e
      refine try_num off uE (r10.extN y10) hdb sb ⟨⟨rfl, rfl, rfl, rfl, rfl⟩, kt, LamX.lamS_by (sc := defScope (top 70)) (by decide +kernel), fun q cl pm cv ctv => rfl, fun E A outer s H f c' hr' => T.cTolE (takes_of (E := E) rfl rfl rfl rfl) hr' (pa_cons (pv 3) (pa_cons pe_non (pa_cons (pv 6) pa_nil)))⟩ fun D E Qn sD er => ?_
      refine ⟨_, rfl, _, rfl, ?_⟩
      exact told_bad (zD.same sD) (.inr ⟨.inr kind_down.2, .inr ⟨none, .inl ⟨rfl, rfl⟩, fun z => absurd rfl z, .inl ⟨nb, .inl (ob.same sD), er⟩⟩⟩)
    | j + 10, e => cases e
  · intro _
    have sF := tk_fin off s
    exact k _ ((pen_ext pen46 y0).same sF) (butN_ext bN (y0.trans (Kz.Same.extN sF))) (Kz.Same.tabs sF tabsE)
end
end Kz
set_option linter.all false
set_option maxRecDepth 100000
set_option maxHeartbeats 4000000
set_option pp.maxSteps 100
namespace Kz
open PySem PySem.Spec PyProof.Rows L2 Vl
theorem NL.trans {H H1 H2 : Hp} (a : NL H H1) (b : NL H1 H2) : NL H H2 := fun c o e x y z => b c o (a c o e x y z) x y z
section
variable {K : PySem.W.Frag} {H B : Hp} {a y1 y2 : Addr} {v : V} {i j : Int}
/-- the ends of the longer line -/
def EndZ (K : PySem.W.Frag) (B : Hp) (v : V) : Prop := ∃ ks : List Rat, Rw K B v ks ∧ ks.length = 2 ∧ ascB ks = true ∧ (∀ q ∈ ks, Mz 5 5 q) ∧ (cf ks 0 ≠ cf kA 0 ∨ cf ks (ks.length - 1) ≠ cf kA (kA.length - 1)) ∧ abv ks pA ks ks.length = false ∧ blw ks pA ks ks.length = false
theorem EndZ.same {B B' : Hp} (s : Same B B') (h : EndZ K B v) : EndZ K B' v := by
  obtain ⟨ks, r, q⟩ := h
  exact ⟨ks, r.same s, q⟩
theorem ends2 (m : v ∈ [V.ref y1, .ref y2]) (h1 : B y1 = some (.tup [.int 0, .int 2])) (h2 : B y2 = some (.tup [.int (-1), .int 1])) : EndZ K B v := by
  simp only [List.mem_cons, List.not_mem_nil, or_false] at m
  rcases m with rfl | rfl
  · refine ⟨_, rw2 h1 (by decide) (by decide), rfl, by decide +kernel, fun q hq => ?_, .inr (by decide +kernel), by decide +kernel, by decide +kernel⟩
    simp only [List.mem_cons, List.not_mem_nil, or_false] at hq
    rcases hq with rfl | rfl <;> exact mzz (by decide) (by decide)
  · refine ⟨_, rw2 h2 (by decide) (by decide), rfl, by decide +kernel, fun q hq => ?_, .inl (by decide +kernel), by decide +kernel, by decide +kernel⟩
    simp only [List.mem_cons, List.not_mem_nil, or_false] at hq
    rcases hq with rfl | rfl <;> exact mzz (by decide) (by decide)
/-- a place off the line -/
def FarZ (K : PySem.W.Frag) (B : Hp) (v : V) : Prop := ∃ x : Rat, ArgQ K B v 40 40 x ∧ Mz 8 40 x ∧ inB [x] z0 z1 = false
theorem FarZ.same {B B' : Hp} (s : Same B B') (h : FarZ K B v) : FarZ K B' v := by
  obtain ⟨x, a, r⟩ := h
  exact ⟨x, a.same s, r⟩
theorem fars3 (m : v ∈ [V.int (-1), .ref y1, .ref y2]) (h1 : B y1 = some (.tup [.int (-1), .int (10 ^ 9)])) (h2 : B y2 = some (.tup [.int 11, .int 10])) : FarZ K B v := by
  simp only [List.mem_cons, List.not_mem_nil, or_false] at m
  rcases m with rfl | rfl | rfl
  · exact ⟨_, arg_i (by decide) (by decide), mzz (by decide) (by decide), by decide +kernel⟩
  · exact ⟨_, arg_p (.inr (SqT.of h1)) (by decide) (by decide) (by decide), mz_divInt (by decide) (by decide) (by decide), by decide +kernel⟩
  · exact ⟨_, arg_p (.inr (SqT.of h2)) (by decide) (by decide) (by decide), mz_divInt (by decide) (by decide) (by decide), by decide +kernel⟩
/-- what is no number, or None -/
def OddN (K : PySem.W.Frag) (B : Hp) (v : V) : Prop := Odd K B v ∧ ∃ dt, DqT K B v dt ∧ Shows dt
theorem OddN.same {B B' : Hp} (s : Same B B') (h : OddN K B v) : OddN K B' v := ⟨h.1.same s, h.2.imp fun dt g => ⟨g.1.same s, g.2⟩⟩
theorem odds5 (m : v ∈ [V.non, .str "1", .ref y1, .bl true, .ref y2]) (h1 : B y1 = some (.tup [.int 1, .int 0])) (h2 : B y2 = some (.tup [.int 1, .int 2, .int 3])) : OddN K B v := by
  simp only [List.mem_cons, List.not_mem_nil, or_false] at m
  rcases m with rfl | rfl | rfl | rfl | rfl
  · exact ⟨jodd_non, _, .inl .non, sh_non⟩
  · exact ⟨jodd_str, _, .inl (.str _), smS (by decide +kernel) (by decide +kernel) (by decide +kernel) (by decide +kernel)⟩
  · exact ⟨jodd_two (.inr (SqT.of h1)) (by decide), _, .inl (dq_ii (SqT.of h1)), smS (by decide +kernel) (by decide +kernel) (by decide +kernel) (by decide +kernel)⟩
  · exact ⟨jodd_bl, _, .inl (.bl _), sh_bl⟩
  · exact ⟨jodd_len (.inr (SqT.of h2)) (by decide), _, .inl (dq3 (SqT.of h2)), smS (by decide +kernel) (by decide +kernel) (by decide +kernel) (by decide +kernel)⟩
/-- no bits -/
def BitS (K : PySem.W.Frag) (B : Hp) (v : V) : Prop := BitBad K B v ∧ v ≠ .non ∧ ∃ dt, DqT K B v dt ∧ Shows dt
theorem bits5 (m : v ∈ [V.int (-1), .int 61, .str "3", .bl true, .ref y1]) (h1 : B y1 = some (.tup [.int 1, .int 1])) : BitS K B v := by
  simp only [List.mem_cons, List.not_mem_nil, or_false] at m
  rcases m with rfl | rfl | rfl | rfl | rfl
  · exact ⟨.inr ⟨_, rfl, .inl (by decide)⟩, V.noConfusion, _, .inl (.int _), smS (by decide +kernel) (by decide +kernel) (by decide +kernel) (by decide +kernel)⟩
  · exact ⟨.inr ⟨_, rfl, .inr (by decide)⟩, V.noConfusion, _, .inl (.int _), smS (by decide +kernel) (by decide +kernel) (by decide +kernel) (by decide +kernel)⟩
  · exact ⟨.inl ⟨_, ty_str, by decide⟩, V.noConfusion, _, .inl (.str _), smS (by decide +kernel) (by decide +kernel) (by decide +kernel) (by decide +kernel)⟩
  · exact ⟨.inl ⟨_, ty_bl, by decide⟩, V.noConfusion, _, .inl (.bl _), sh_bl⟩
  · exact ⟨.inl ⟨_, ty_tup (SqT.of h1), by decide⟩, V.noConfusion, _, .inl (dq_ii (SqT.of h1)), smS (by decide +kernel) (by decide +kernel) (by decide +kernel) (by decide +kernel)⟩
theorem sh_12 : Shows (.tuple [.int 1, .int 2]) := smS (by decide +kernel) (by decide +kernel) (by decide +kernel) (by decide +kernel)
theorem nv_12 {σ : L2.St} : ∀ (H1 : Hp) (Qv : VK), Same B H1 → (∀ v H2, Same H1 H2 → DqT K H2 v (.tuple [.int 1, .int 2]) → Qv v H2) → tTup (tCons (tC (.int 1)) (tCons (tC (.int 2)) tNil)) σ H1 Qv := fun H1 Qv s k => ⟨(by show 2 ≤ sizeLine; decide), fun z nz => k (.ref z) _ (Same.new nz) (.inl (dq_ii (SqT.of upd_same)))⟩
end
section
variable {P : Program} {w : World} {K : PySem.W.Frag} {mg : Str → Option Value} {base : Heap} {kk : Nat} {cN cR cU : Addr} {X : Cx} {σ : L2.St} {S : Addr → Option Obj} {pa : Arguments} {bo : Expr} {sc : Scope} {tb : XK → TE} {B H1 : Hp} {t : V}
theorem try_numG {what : Str} {dt : PyData} (off : Off S H1) (sub : Same B H1) (r : TryRow K X pa bo sc H1 t ["number", what, dt.shown]) (z : Shows dt) (F : LamF P w K mg base kk X σ S pa bo sc tb)
    (go : ∀ (D : Hp) (E : XK) (Qn : VK), Same B D → (∀ D' v, Same D D' → DqT K D' v dt → ErN cN D' E what v) → tb E σ D Qn) : TryAt P w K mg base kk cN cR cU (gv S H1) t := by
  obtain ⟨a, a2, f, c', pm, ctv, rfl, h1, h2, h3, h4⟩ := r
  have up : Same H1 (gv S H1) := off_same off
  refine ⟨a, a2, .ref f, _, X, σ, S, pa, bo, sc, tb, rfl, Kz.Same.seqT up h1, Kz.Same.seqT up h2, F, ⟨f, c', pm, ctv, rfl, up _ _ h3, up _ _ h4, fun b ob e => gv_in e⟩, fun H' Q s k t0 n0 => go _ _ _ (tk_sub sub off s n0) fun D' v sD hd d G sG eG offG => ?_⟩
  have hS : ∀ b ob, S b = some ob → H' b = some (Fz b ob) := fun b ob e => s _ _ (gv_in e)
  refine ⟨d, v, rfl, .inl ⟨what, dt, rfl, hd.same (sG.trans (off_same offG)), z.sh, z.dp, z.ln, off_same offG _ _ eG, fun t nt => ?_⟩⟩
  exact k t _ ((tk_back hS n0 (sD.trans sG)).trans (Same.new nt)) (SqT.of upd_same)
end
end Kz
set_option linter.all false
set_option maxRecDepth 100000
set_option maxHeartbeats 4000000
set_option pp.maxSteps 100
namespace Kz
open PySem PySem.Spec PyProof.Rows L2 Vl
theorem tf2 {K : PySem.W.Frag} {cT cB cP : Addr} {H : Hp} {u v : V} {ks as ks' as' : List Rat} {ps ps' : List (List Rat)} {lo hi lo' hi' : Option Rat} (h : ToAt K cT cB cP H u ks ps as lo hi) (h' : ToAt K cT cB cP H v ks' ps' as' lo' hi') (kp : 0 < ks.length) (kp' : 0 < ks'.length) (d : cf ks' 0 ≠ cf ks 0 ∨ cf ks' (ks'.length - 1) ≠ cf ks (ks.length - 1)) : ∃ f g, TFs cT H [u, v] [f, g] ∧ UnSt K cB cP H f g := by
  obtain ⟨a, dx, f, l, m, rfl, ha, hb, _⟩ := h
  obtain ⟨a', dx', f', l', m', rfl, ha', hb', _⟩ := h'
  refine ⟨f, f', ⟨rfl, fun i u g e1 e2 => ?_⟩, ks, ps, as, ks', ps', as', hb, hb', kp, kp', d⟩
  match i, e1, e2 with
  | 0, e1, e2 =>
    cases e1
    cases e2
    exact ⟨a, dx, l, m, rfl, ha⟩
  | 1, e1, e2 =>
    cases e1
    cases e2
    exact ⟨a', dx', l', m', rfl, ha'⟩
  | i + 2, e1, e2 => cases e1
abbrev pH : List Rat := [Rat.divInt 1 2, Rat.divInt 1 2]
theorem rwH {K : PySem.W.Frag} {H : Hp} {a b c : Addr} (h : H a = some (.tup [.ref b, .ref c])) (hb : H b = some (.tup [.int 1, .int 2])) (hc : H c = some (.tup [.int 1, .int 2])) : Rw K H (.ref a) pH := rw_of (n := 3) (m := 3) (.inr (SqT.of h)) (.cons (arg_p (.inr (SqT.of hb)) (by decide) (by decide) (by decide)) (.cons (arg_p (.inr (SqT.of hc)) (by decide) (by decide) (by decide)) .nil)) (by decide) (by decide) (by show 2 ≤ 20; decide)
theorem zH : ∀ q ∈ pH, Mz 1 100 q := fun q hq => by
  simp only [List.mem_cons, List.not_mem_nil, or_false] at hq
  rcases hq with rfl | rfl <;> exact mz_divInt (by decide) (by decide) (by decide)
theorem kszA : KsZ kA := ⟨by decide, fszA.zk⟩
theorem sumH : PyData.eqv (pdQ (sumR (fil (inC z1 z1) kA pH))) (.tuple [.int 1, .int 2]) = true := by decide +kernel
theorem sumO : PyData.eqv (pdQ (sumR (fil (inO z1 z1) kA pH))) (.tuple [.int 0, .int 1]) = true := by decide +kernel
section
variable {P : Program} {w : World} {K : PySem.W.Frag} {mg : Str → Option Value} {base : Heap}
abbrev nLj : List Str := ["_law_script", "_law_pen_here", "_law_line", "_law_ends", "_law_long", "_law_share", "_law_far", "_law_rows", "_law_both", "_law_odd", "_law_bits", "_law_tries"]
theorem sc71l : FnScope nLj ["_law_script"] (defScope (top 71)) := ⟨rfl, rfl, rfl, by decide +kernel, rfl, by decide +kernel, by decide +kernel⟩
def spLawJ (K : PySem.W.Frag) (Tl : List (Addr × Str)) : Sp := fun vs H Q _ => ∃ (a : Addr) (ns : List Int), vs = [.ref a] ∧ SqL K H a (ns.map V.int) ∧ LamX.Tabs Tl H ∧ ∀ H', Q (.bl true) H'
theorem ok_lawj (T : Tlm P K mg) (TBa : LamX.TabB base mg T.c69 T.P69) (TBb : LamX.TabB base mg T.c70 T.P70) (TB : LamX.TabB base mg T.c71 T.P71) : FnG P w K mg base CX0 16 T.law.f T.law.fd ["_law_script"] (spLawJ K T.Tl) := by
  have Gpen : FnOk P w K mg base CX0 1 T.l_pen.f T.l_pen.fd ["_law_script"] (spPen K) := ok_lpen T.toTu
  have Gpick : FnOk P w K mg base CX0 2 T.l_pick.f T.l_pick.fd ["_law_pen_here", "_law_some"] spPick := ok_lpick T.toTu
  have Gnf : FnG P w K mg base CX0 1 T.l_nfault.f T.l_nfault.fd ["_law_what", "_law_number"] (spNf K) := ok_nf T.toTj
  have Gshr : FnG P w K mg base CX0 15 T.l_shr.f T.l_shr.fd ["_law_pen_here"] (spShr T.Tl) := ok_shr T TBa
  have Gtor : FnG P w K mg base CX0 15 T.l_tor.f T.l_tor.fd ["_law_pen_here"] (spTor T.Tl) := ok_tor T TBb
  have Gc1 : FnOk P w K mg base CX0 7 T.chance.f T.chance.fd ["share", "low", "high"] (spCh K T.cS inC) := ok_ch T.toTj
  have Gc2 : FnOk P w K mg base CX0 7 T.chance_b.f T.chance_b.fd ["share", "low", "high"] (spCh K T.cS inO) := ok_chb T.toTj
  have Gme : FnOk P w K mg base (CX P w) 7 T.mean.f T.mean.fd ["share", "function"] (spMeanB K T.cS T.cU T.cB T.cP) := ok_meanB T.toTj
  have Gch : FnOk P w K mg base (CX P w) 7 T.chance.f T.chance.fd ["share", "low", "high"] (spChB K T.cN) := ok_chB T.toTj
  have Gcb : FnOk P w K mg base (CX P w) 7 T.chance_b.f T.chance_b.fd ["share", "low", "high"] (spChB K T.cN) := ok_chbB T.toTj
  have Gmo : FnOk P w K mg base (CX P w) 5 T.moved.f T.moved.fd ["share", "factor", "shift"] (spMovedB K T.cN) := ok_movedB T.toTj
  have GmS : FnOk P w K mg base (CX P w) 8 T.missed.f T.missed.fd ["share", "rows"] (spMiS K T.cT T.cU T.cB T.cP) := ok_miS T.toTg
  have GmP : FnOk P w K mg base (CX P w) 8 T.missed.f T.missed.fd ["share", "rows"] (spMiP K T.cS T.cT T.cU T.cB T.cP) := ok_miP T.toTg
  have Gm0 : FnOk P w K mg base CX0 10 T.missed.f T.missed.fd ["share", "rows"] (spMi0 K) := ok_mi0 T.toTg
  have GfS : FnOk P w K mg base (CX P w) 8 T.ft T.ftd ["share", "rows", "bits"] (spFiS K T.cT T.cU T.cB T.cP) := ok_fiS T.toTg
  have GfB : FnOk P w K mg base (CX P w) 8 T.ft T.ftd ["share", "rows", "bits"] (spFiB K T.cN T.cT T.cB T.cP) := ok_fiB T.toTg
  have GfP : FnOk P w K mg base (CX P w) 8 T.ft T.ftd ["share", "rows", "bits"] (spFiP K T.cS T.cT T.cU T.cB T.cP) := ok_fiP T.toTg
  have Gf0 : FnOk P w K mg base CX0 10 T.ft T.ftd ["share", "rows", "bits"] (spFi0 K) := ok_fi0 T.toTg
  have b3 := fits_b3 T.toTg
  obtain ⟨ds, hds, b2⟩ := fits_b2 T.toTg
  refine fnGC0 T.f71 sc71l (fun vs H Q E h => ?_) (fun A outer s H vs Q E hg hr h => ?_)
  · obtain ⟨a, ns, rfl, _⟩ := h
    rfl
  obtain ⟨sa, ss, rfl, hS, tabs, k⟩ := h
  have hr1 : Room 1 _ := hr.mono (by decide)
  have hr2 : Room 2 _ := hr.mono (by decide)
  have hr6 : Room 6 _ := hr.mono (by decide)
  have hr7 : Room 7 _ := hr.mono (by decide)
  have hr8 : Room 8 _ := hr.mono (by decide)
  have hr10 : Room 10 _ := hr.mono (by decide)
  have hr11 : Room 11 _ := hr.mono (by decide)
  have hr14 : Room 14 _ := hr.mono (by decide)
  have hu := hr.units
  refine ⟨_, (pss_cons (ps_set (i := 1) sc71l.nd rfl (.inl rfl) (T.l_pen.c0 Gpen hr1 (pa_cons (pv 0) pa_nil)))
      (pss_cons (ps_if (PW.pt (pw_or (pt_not (pt_val (pe_callG Gshr hg hr rfl T.l_shr.g T.l_shr.fn.kp T.l_shr.b pass0 (pa_cons (pv 1) pa_nil)))) (pw_or1 (pt_not (pt_val (pe_callG Gtor hg hr rfl T.l_tor.g T.l_tor.fn.kp T.l_tor.b pass0 (pa_cons (pv 1) pa_nil))))))) (pss_one (ps_ret pe_bl)) pss_nil)
      (pss_cons (ps_asg (pe_tup (pa_cons (T.cBrkT hr8 (pa_cons (pe_tup (pa_cons pe_int (pa_cons pe_int pa_nil))) (pa_cons (pe_tup (pa_cons (T.cPoly hr6 (pa_cons (pe_tup (pa_cons pe_int (pa_cons pe_int pa_nil))) pa_nil)) pa_nil)) (pa_cons (pe_tup (pa_cons pe_int (pa_cons pe_int pa_nil))) pa_nil)))) (pa_cons (T.l_pick.c0 Gpick hr2 (pa_cons (pv 1) (pa_cons (pe_lst (pa_cons (pe_tup (pa_cons pe_int (pa_cons pe_int pa_nil))) (pa_cons (pe_tup (pa_cons (pe_un un_neg pe_int) (pa_cons pe_int pa_nil))) pa_nil))) pa_nil))) pa_nil))) (pg_tup (by rfl) (pgs_cons (pg_name (i := 2) sc71l.nd rfl (.inr rfl)) (pgs_cons (pg_name (i := 3) sc71l.nd rfl (.inl rfl)) pgs_nil))))
      (pss_cons (ps_set (i := 4) sc71l.nd rfl (.inl rfl) (T.cBrkT hr8 (pa_cons (pv 3) (pa_cons (pe_tup (pa_cons (T.cPoly hr6 (pa_cons (pe_tup (pa_cons pe_int (pa_cons pe_int pa_nil))) pa_nil)) pa_nil)) (pa_cons (pv 3) pa_nil)))))
      (pss_cons (ps_asg (pe_tup (pa_cons (T.cShr hr10 (pa_cons (pe_tup (pa_cons pe_int (pa_cons pe_int pa_nil))) (pa_cons (pe_tup (pa_cons (pe_tup (pa_cons pe_int (pa_cons pe_int pa_nil))) (pa_cons (pe_tup (pa_cons pe_int (pa_cons pe_int pa_nil))) pa_nil))) pa_nil))) (pa_cons (T.cShr hr10 (pa_cons (pe_tup (pa_cons (T.l_pick.c0 Gpick hr2 (pa_cons (pv 1) (pa_cons (pe_lst (pa_cons (pe_un un_neg pe_int) (pa_cons (pe_tup (pa_cons (pe_un un_neg pe_int) (pa_cons (pe_op op_pow pe_int pe_int) pa_nil))) (pa_cons (pe_tup (pa_cons pe_int (pa_cons pe_int pa_nil))) pa_nil)))) pa_nil))) pa_nil)) (pa_cons (pe_tup (pa_cons pe_int pa_nil)) pa_nil))) pa_nil))) (pg_tup (by rfl) (pgs_cons (pg_name (i := 5) sc71l.nd rfl (.inr rfl)) (pgs_cons (pg_name (i := 6) sc71l.nd rfl (.inr rfl)) pgs_nil))))
      (pss_cons (ps_asg (pe_tup (pa_cons (pe_tup (pa_cons (T.cTol hr11 (pa_cons (pv 2) (pa_cons pe_int (pa_cons pe_non pa_nil)))) pa_nil)) (pa_cons (pe_lst (pa_cons (T.cTol hr11 (pa_cons (pv 2) (pa_cons pe_int (pa_cons pe_non pa_nil)))) (pa_cons (T.cTol hr11 (pa_cons (pv 4) (pa_cons pe_int (pa_cons pe_non pa_nil)))) pa_nil))) pa_nil))) (pg_tup (by rfl) (pgs_cons (pg_name (i := 7) sc71l.nd rfl (.inr rfl)) (pgs_cons (pg_name (i := 8) sc71l.nd rfl (.inr rfl)) pgs_nil))))
      (pss_cons (ps_asg (pe_tup (pa_cons (T.l_pick.c0 Gpick hr2 (pa_cons (pv 1) (pa_cons (pe_lst (pa_cons pe_non (pa_cons pe_str (pa_cons (pe_tup (pa_cons pe_int (pa_cons pe_int pa_nil))) (pa_cons pe_bl (pa_cons (pe_tup (pa_cons pe_int (pa_cons pe_int (pa_cons pe_int pa_nil)))) pa_nil)))))) pa_nil))) (pa_cons (T.l_pick.c0 Gpick hr2 (pa_cons (pv 1) (pa_cons (pe_lst (pa_cons (pe_un un_neg pe_int) (pa_cons pe_int (pa_cons pe_str (pa_cons pe_bl (pa_cons (pe_tup (pa_cons pe_int (pa_cons pe_int pa_nil))) pa_nil)))))) pa_nil))) pa_nil))) (pg_tup (by rfl) (pgs_cons (pg_name (i := 9) sc71l.nd rfl (.inr rfl)) (pgs_cons (pg_name (i := 10) sc71l.nd rfl (.inr rfl)) pgs_nil))))
      (pss_cons (ps_set (i := 11) sc71l.nd rfl (.inl rfl) (pe_lst (pa_cons (pe_tup (pa_cons (pe_lamV TB rfl T.m71 T.h71 (LamX.lamS_by (sc := defScope (top 71)) (by decide +kernel))) (pa_cons (pe_tup (pa_cons pe_str (pa_cons pe_str pa_nil))) pa_nil))) (pa_cons (pe_tup (pa_cons (pe_lamV TB rfl T.m71 T.h71 (LamX.lamS_by (sc := defScope (top 71)) (by decide +kernel))) (pa_cons (pe_callG Gnf hg hr1 rfl T.l_nfault.g T.l_nfault.fn.kp T.l_nfault.b pass0 (pa_cons pe_str (pa_cons (pv 9) pa_nil))) pa_nil))) (pa_cons (pe_tup (pa_cons (pe_lamV TB rfl T.m71 T.h71 (LamX.lamS_by (sc := defScope (top 71)) (by decide +kernel))) (pa_cons (pe_callG Gnf hg hr1 rfl T.l_nfault.g T.l_nfault.fn.kp T.l_nfault.b pass0 (pa_cons pe_str (pa_cons (pv 9) pa_nil))) pa_nil))) (pa_cons (pe_tup (pa_cons (pe_lamV TB rfl T.m71 T.h71 (LamX.lamS_by (sc := defScope (top 71)) (by decide +kernel))) (pa_cons (pe_callG Gnf hg hr1 rfl T.l_nfault.g T.l_nfault.fn.kp T.l_nfault.b pass0 (pa_cons pe_str (pa_cons (pe_tup (pa_cons pe_int (pa_cons pe_int pa_nil))) pa_nil))) pa_nil))) (pa_cons (pe_tup (pa_cons (pe_lamV TB rfl T.m71 T.h71 (LamX.lamS_by (sc := defScope (top 71)) (by decide +kernel))) (pa_cons (pe_callG Gnf hg hr1 rfl T.l_nfault.g T.l_nfault.fn.kp T.l_nfault.b pass0 (pa_cons pe_str (pa_cons (pe_tup (pa_cons pe_int (pa_cons pe_int pa_nil))) pa_nil))) pa_nil))) (pa_cons (pe_tup (pa_cons (pe_lamV TB rfl T.m71 T.h71 (LamX.lamS_by (sc := defScope (top 71)) (by decide +kernel))) (pa_cons (pe_callG Gnf hg hr1 rfl T.l_nfault.g T.l_nfault.fn.kp T.l_nfault.b pass0 (pa_cons pe_str (pa_cons (pv 9) pa_nil))) pa_nil))) (pa_cons (pe_tup (pa_cons (pe_lamV TB rfl T.m71 T.h71 (LamX.lamS_by (sc := defScope (top 71)) (by decide +kernel))) (pa_cons (pe_callG Gnf hg hr1 rfl T.l_nfault.g T.l_nfault.fn.kp T.l_nfault.b pass0 (pa_cons pe_str (pa_cons (pv 9) pa_nil))) pa_nil))) (pa_cons (pe_tup (pa_cons (pe_lamV TB rfl T.m71 T.h71 (LamX.lamS_by (sc := defScope (top 71)) (by decide +kernel))) (pa_cons (pe_callG Gnf hg hr1 rfl T.l_nfault.g T.l_nfault.fn.kp T.l_nfault.b pass0 (pa_cons pe_str (pa_cons (pv 9) pa_nil))) pa_nil))) (pa_cons (pe_tup (pa_cons (pe_lamV TB rfl T.m71 T.h71 (LamX.lamS_by (sc := defScope (top 71)) (by decide +kernel))) (pa_cons (pe_callG Gnf hg hr1 rfl T.l_nfault.g T.l_nfault.fn.kp T.l_nfault.b pass0 (pa_cons pe_str (pa_cons (pv 9) pa_nil))) pa_nil))) (pa_cons (pe_tup (pa_cons (pe_lamV TB rfl T.m71 T.h71 (LamX.lamS_by (sc := defScope (top 71)) (by decide +kernel))) (pa_cons (pe_tup (pa_cons pe_str (pa_cons pe_str pa_nil))) pa_nil))) (pa_cons (pe_tup (pa_cons (pe_lamV TB rfl T.m71 T.h71 (LamX.lamS_by (sc := defScope (top 71)) (by decide +kernel))) (pa_cons (pe_tup (pa_cons pe_str (pa_cons pe_str pa_nil))) pa_nil))) (pa_cons (pe_tup (pa_cons (pe_lamV TB rfl T.m71 T.h71 (LamX.lamS_by (sc := defScope (top 71)) (by decide +kernel))) (pa_cons (pe_tup (pa_cons pe_str (pa_cons pe_str pa_nil))) pa_nil))) (pa_cons (pe_tup (pa_cons (pe_lamV TB rfl T.m71 T.h71 (LamX.lamS_by (sc := defScope (top 71)) (by decide +kernel))) (pa_cons (pe_callG Gnf hg hr1 rfl T.l_nfault.g T.l_nfault.fn.kp T.l_nfault.b pass0 (pa_cons pe_str (pa_cons (pv 10) pa_nil))) pa_nil))) (pa_cons (pe_tup (pa_cons (pe_lamV TB rfl T.m71 T.h71 (LamX.lamS_by (sc := defScope (top 71)) (by decide +kernel))) (pa_cons (pe_tup (pa_cons pe_str (pa_cons pe_str pa_nil))) pa_nil))) (pa_cons (pe_tup (pa_cons (pe_lamV TB rfl T.m71 T.h71 (LamX.lamS_by (sc := defScope (top 71)) (by decide +kernel))) (pa_cons (pe_tup (pa_cons pe_str pa_nil)) pa_nil))) (pa_cons (pe_tup (pa_cons (pe_lamV TB rfl T.m71 T.h71 (LamX.lamS_by (sc := defScope (top 71)) (by decide +kernel))) (pa_cons (pe_tup (pa_cons pe_str pa_nil)) pa_nil))) pa_nil))))))))))))))))))
      (pss_one (ps_ret (pe_and (pe_callV (ok_allr (kk := 11) T.toTj) hg hr14 rfl T.l_allr.g T.l_allr.fn.kp T.l_allr.b (pa_cons (pv 11) pa_nil) (fun _ => rfl) ⟨rfl, rfl⟩) (pe_and (pe_cmpR (op_eqD hu) (T.chance.c0 Gc1 hr7 (pa_cons (pv 5) (pa_cons pe_int (pa_cons pe_int pa_nil)))) (pe_tup (pa_cons pe_int (pa_cons pe_int pa_nil))) (nomark _)) (pe_one (pe_cmpR (op_eqD hu) (T.chance_b.c0 Gc2 hr7 (pa_cons (pv 5) (pa_cons pe_int (pa_cons pe_int pa_nil)))) (pe_tup (pa_cons pe_int (pa_cons pe_int pa_nil))) (nomark _))))))))))))))), ?_⟩
  refine ⟨_, rfl, sa, ss, rfl, hS, fun p c H1 np s1 pen1 => ?_⟩
  refine ⟨_, rfl, p, c, 0, rfl, pen1, by decide, Kz.Same.tabs s1 tabs, fun H2 pen2 _ tabs2 => ?_⟩
  refine ⟨_, rfl, iteF ⟨_, rfl, p, c, _, rfl, pen2, by decide, tabs2, fun W0 pen0 _ tabsZ => ⟨_, rfl, iteF ?_⟩⟩⟩
  refine ⟨(by show 2 ≤ sizeLine; decide), fun zk1 nzk1 => ?_⟩
  have s1 := Same.new (o := (.tup [.int 0, .int 1] : HO)) nzk1
  have e1 : upd W0 zk1 (.tup [.int 0, .int 1]) zk1 = some (.tup [.int 0, .int 1]) := upd_same
  generalize upd W0 zk1 (.tup [.int 0, .int 1]) = W1 at s1 e1 ⊢
  refine ⟨(by show 2 ≤ sizeLine; decide), fun zq2 nzq2 => ?_⟩
  have s2 := Same.new (o := (.tup [.int 0, .int 1] : HO)) nzq2
  have e2 : upd W1 zq2 (.tup [.int 0, .int 1]) zq2 = some (.tup [.int 0, .int 1]) := upd_same
  generalize upd W1 zq2 (.tup [.int 0, .int 1]) = W2 at s2 e2 ⊢
  refine poly_made' (qs := [z0, z1]) (.inr (SqT.of e2)) (.cons (arg_i (n := 3) (m := 1) (by decide) (by decide)) (.cons (arg_i (n := 3) (m := 1) (by decide) (by decide)) (.nil))) (by decide) (by show 2 ≤ 1000; decide) fun zp3 W3 rs3 s3 pp3 _ ec3 => ?_
  obtain rfl : rs3 = [z0, z1] := tr_ext pp3.tr trA ec3
  refine ⟨(by show 1 ≤ sizeLine; decide), fun zt1 nzt1 => ?_⟩
  have s4 := Same.new (o := (.tup [.ref zp3] : HO)) nzt1
  have e4 : upd W3 zt1 (.tup [.ref zp3]) zt1 = some (.tup [.ref zp3]) := upd_same
  generalize upd W3 zt1 (.tup [.ref zp3]) = W4 at s4 e4 ⊢
  refine ⟨(by show 2 ≤ sizeLine; decide), fun za1 nza1 => ?_⟩
  have s5 := Same.new (o := (.tup [.int 0, .int 1] : HO)) nza1
  have e5 : upd W4 za1 (.tup [.int 0, .int 1]) za1 = some (.tup [.int 0, .int 1]) := upd_same
  generalize upd W4 za1 (.tup [.int 0, .int 1]) = W5 at s5 e5 ⊢
  have c5 : Same W5 W5 := Same.refl _
  have c4 : Same W4 W5 := s5.trans c5
  have c3 : Same W3 W5 := s4.trans c4
  have c2 : Same W2 W5 := s3.trans c3
  have c1 : Same W1 W5 := s2.trans c2
  have c0 : Same W0 W5 := s1.trans c1
  refine brk_made (ks := kA) (ps := pA) (as := kA) (rw2 (c1 _ _ e1) (by decide) (by decide)) (by decide) (by decide +kernel) (SqT.of (c4 _ _ e4)) (pls1 (pp3.same c3)) rfl (rw2 (c5 _ _ e5) (by decide) (by decide)) rfl fun fl W6 s6 bfl nfl => ?_
  have g6 : Same W0 W6 := (c0).trans s6
  have pen6 := pen0.same g6
  refine ⟨_, rfl, (by show 2 ≤ sizeLine; decide), fun ya1 nya1 => ?_⟩
  have s7 := Same.new (o := (.tup [.int 0, .int 2] : HO)) nya1
  have e7 : upd W6 ya1 (.tup [.int 0, .int 2]) ya1 = some (.tup [.int 0, .int 2]) := upd_same
  generalize upd W6 ya1 (.tup [.int 0, .int 2]) = W7 at s7 e7 ⊢
  refine ⟨_, rfl, (by show 2 ≤ sizeLine; decide), fun ya2 nya2 => ?_⟩
  have s8 := Same.new (o := (.tup [.int (-1), .int 1] : HO)) nya2
  have e8 : upd W7 ya2 (.tup [.int (-1), .int 1]) ya2 = some (.tup [.int (-1), .int 1]) := upd_same
  generalize upd W7 ya2 (.tup [.int (-1), .int 1]) = W8 at s8 e8 ⊢
  refine ⟨(by show 2 ≤ sizeLine; decide), fun L1 nL1 => ?_⟩
  have s9 := Same.new (o := (.lst [.ref ya1, .ref ya2] : HO)) nL1
  have e9 : upd W8 L1 (.lst [.ref ya1, .ref ya2]) L1 = some (.lst [.ref ya1, .ref ya2]) := upd_same
  generalize upd W8 L1 (.lst [.ref ya1, .ref ya2]) = W9 at s9 e9 ⊢
  have f6 : Same W6 W6 := Same.refl _
  have f7 : Same W6 W7 := f6.trans s7
  have f8 : Same W6 W8 := f7.trans s8
  have f9 : Same W6 W9 := f8.trans s9
  have c9 : Same W9 W9 := Same.refl _
  have c8 : Same W8 W9 := s9.trans c9
  have c7 : Same W7 W9 := s8.trans c8
  have c6 : Same W6 W9 := s7.trans c7
  have penL9 := pen6.same c6
  refine ⟨p, c, L1, _, _, rfl, penL9, by omega, e9, (by show 0 < 2; decide), (by show 2 < 1000000; decide), fun j1 ve W10 ej1 pen10 b10 => ?_⟩
  have en : EndZ K (Kz.cl p W9) ve := ends2 (List.mem_of_getElem? ej1) (cl_at ((pen6.same f6).newP nya1) (c7 _ _ e7) (fun _ z => nomatch z)) (cl_at ((pen6.same f7).newP nya2) (c8 _ _ e8) (fun _ z => nomatch z))
  refine ⟨(by show 2 ≤ sizeLine; decide), fun yt1 nyt1 => ?_⟩
  have s11 := Same.new (o := (.tup [.ref fl, ve] : HO)) nyt1
  have e11 : upd W10 yt1 (.tup [.ref fl, ve]) yt1 = some (.tup [.ref fl, ve]) := upd_same
  generalize upd W10 yt1 (.tup [.ref fl, ve]) = W11 at s11 e11 ⊢
  refine ⟨yt1, _, rfl, SqT.of e11, rfl, _, _, rfl, _, _, rfl, rfl, ?_⟩
  have enW : EndZ K W11 ve := (en.same (b10.cl.trans cl_sub)).same s11
  obtain ⟨ks, rwk, lk2, asck, zks, difk, abk, bwk⟩ := enW
  refine ⟨_, rfl, (by show 2 ≤ sizeLine; decide), fun zq12 nzq12 => ?_⟩
  have s12 := Same.new (o := (.tup [.int 0, .int 1] : HO)) nzq12
  have e12 : upd W11 zq12 (.tup [.int 0, .int 1]) zq12 = some (.tup [.int 0, .int 1]) := upd_same
  generalize upd W11 zq12 (.tup [.int 0, .int 1]) = W12 at s12 e12 ⊢
  refine poly_made' (qs := [z0, z1]) (.inr (SqT.of e12)) (.cons (arg_i (n := 3) (m := 1) (by decide) (by decide)) (.cons (arg_i (n := 3) (m := 1) (by decide) (by decide)) (.nil))) (by decide) (by show 2 ≤ 1000; decide) fun zp13 W13 rs13 s13 pp13 _ ec13 => ?_
  obtain rfl : rs13 = [z0, z1] := tr_ext pp13.tr trA ec13
  refine ⟨(by show 1 ≤ sizeLine; decide), fun zt2 nzt2 => ?_⟩
  have s14 := Same.new (o := (.tup [.ref zp13] : HO)) nzt2
  have e14 : upd W13 zt2 (.tup [.ref zp13]) zt2 = some (.tup [.ref zp13]) := upd_same
  generalize upd W13 zt2 (.tup [.ref zp13]) = W14 at s14 e14 ⊢
  have c14 : Same W14 W14 := Same.refl _
  have c13 : Same W13 W14 := s14.trans c14
  have c12 : Same W12 W14 := s13.trans c13
  have c11 : Same W11 W14 := s12.trans c12
  refine ⟨_, rfl, ?_⟩
  refine brk_made (ks := ks) (ps := pA) (as := ks) (rwk.same c11) (by omega) asck (SqT.of e14) (pls1 (pp13.same c13)) (by rw [lk2]; rfl) (rwk.same c11) rfl fun flo W15 s15 blo nlo => ?_
  refine ⟨(by show 2 ≤ sizeLine; decide), fun zx1 nzx1 => ?_⟩
  have s16 := Same.new (o := (.tup [.int 0, .int 1] : HO)) nzx1
  have e16 : upd W15 zx1 (.tup [.int 0, .int 1]) zx1 = some (.tup [.int 0, .int 1]) := upd_same
  generalize upd W15 zx1 (.tup [.int 0, .int 1]) = W16 at s16 e16 ⊢
  refine ⟨(by show 2 ≤ sizeLine; decide), fun zh1 nzh1 => ?_⟩
  have s17 := Same.new (o := (.tup [.int 1, .int 2] : HO)) nzh1
  have e17 : upd W16 zh1 (.tup [.int 1, .int 2]) zh1 = some (.tup [.int 1, .int 2]) := upd_same
  generalize upd W16 zh1 (.tup [.int 1, .int 2]) = W17 at s17 e17 ⊢
  refine ⟨(by show 2 ≤ sizeLine; decide), fun zh2 nzh2 => ?_⟩
  have s18 := Same.new (o := (.tup [.int 1, .int 2] : HO)) nzh2
  have e18 : upd W17 zh2 (.tup [.int 1, .int 2]) zh2 = some (.tup [.int 1, .int 2]) := upd_same
  generalize upd W17 zh2 (.tup [.int 1, .int 2]) = W18 at s18 e18 ⊢
  refine ⟨(by show 2 ≤ sizeLine; decide), fun zh3 nzh3 => ?_⟩
  have s19 := Same.new (o := (.tup [.ref zh1, .ref zh2] : HO)) nzh3
  have e19 : upd W18 zh3 (.tup [.ref zh1, .ref zh2]) zh3 = some (.tup [.ref zh1, .ref zh2]) := upd_same
  generalize upd W18 zh3 (.tup [.ref zh1, .ref zh2]) = W19 at s19 e19 ⊢
  have c19 : Same W19 W19 := Same.refl _
  have c18 : Same W18 W19 := s19.trans c19
  have c17 : Same W17 W19 := s18.trans c18
  have c16 : Same W16 W19 := s17.trans c17
  have c15 : Same W15 W19 := s16.trans c16
  refine share_made (xs := kA) (ps := pH) (rw2 (c16 _ _ e16) (by decide) (by decide)) (by decide) (by decide +kernel) (rwH e19 (c17 _ _ e17) (c18 _ _ e18)) rfl (by decide +kernel) fun sh W20 s20 hsh => ?_
  have c20 : Same W20 W20 := Same.refl _
  have c19 : Same W19 W20 := s20.trans c20
  have c18 : Same W18 W20 := s19.trans c19
  have c17 : Same W17 W20 := s18.trans c18
  have c16 : Same W16 W20 := s17.trans c17
  have c15 : Same W15 W20 := s16.trans c16
  have c14 : Same W14 W20 := s15.trans c15
  have c13 : Same W13 W20 := s14.trans c14
  have c12 : Same W12 W20 := s13.trans c13
  have c11 : Same W11 W20 := s12.trans c12
  have c10 : Same W10 W20 := s11.trans c11
  have pen20 := pen10.same c10
  refine ⟨_, rfl, _, rfl, _, rfl, 10, 9, rfl, rfl, ⟨by decide, by decide, by decide⟩, (by show 2 ≤ sizeLine; decide), fun yb1 nyb1 => ?_⟩
  have s21 := Same.new (o := (.tup [.int (-1), .int ((10 : Int) ^ (9 : Int).toNat)] : HO)) nyb1
  have e21 : upd W20 yb1 (.tup [.int (-1), .int ((10 : Int) ^ (9 : Int).toNat)]) yb1 = some (.tup [.int (-1), .int ((10 : Int) ^ (9 : Int).toNat)]) := upd_same
  generalize upd W20 yb1 (.tup [.int (-1), .int ((10 : Int) ^ (9 : Int).toNat)]) = W21 at s21 e21 ⊢
  rw [show (10 : Int) ^ (9 : Int).toNat = 10 ^ 9 from rfl] at e21
  refine ⟨(by show 2 ≤ sizeLine; decide), fun yb2 nyb2 => ?_⟩
  have s22 := Same.new (o := (.tup [.int 11, .int 10] : HO)) nyb2
  have e22 : upd W21 yb2 (.tup [.int 11, .int 10]) yb2 = some (.tup [.int 11, .int 10]) := upd_same
  generalize upd W21 yb2 (.tup [.int 11, .int 10]) = W22 at s22 e22 ⊢
  refine ⟨(by show 3 ≤ sizeLine; decide), fun L2 nL2 => ?_⟩
  have s23 := Same.new (o := (.lst [.int (-1), .ref yb1, .ref yb2] : HO)) nL2
  have e23 : upd W22 L2 (.lst [.int (-1), .ref yb1, .ref yb2]) L2 = some (.lst [.int (-1), .ref yb1, .ref yb2]) := upd_same
  generalize upd W22 L2 (.lst [.int (-1), .ref yb1, .ref yb2]) = W23 at s23 e23 ⊢
  have f20 : Same W20 W20 := Same.refl _
  have f21 : Same W20 W21 := f20.trans s21
  have f22 : Same W20 W22 := f21.trans s22
  have f23 : Same W20 W23 := f22.trans s23
  have c23 : Same W23 W23 := Same.refl _
  have c22 : Same W22 W23 := s23.trans c23
  have c21 : Same W21 W23 := s22.trans c22
  have c20 : Same W20 W23 := s21.trans c21
  have penL23 := pen20.same c20
  refine ⟨p, c, L2, _, _, rfl, penL23, by omega, e23, (by show 0 < 3; decide), (by show 3 < 1000000; decide), fun j2 vf W24 ej2 pen24 b24 => ?_⟩
  have fa : FarZ K (Kz.cl p W23) vf := fars3 (List.mem_of_getElem? ej2) (cl_at ((pen20.same f20).newP nyb1) (c21 _ _ e21) (fun _ z => nomatch z)) (cl_at ((pen20.same f21).newP nyb2) (c22 _ _ e22) (fun _ z => nomatch z))
  refine ⟨(by show 1 ≤ sizeLine; decide), fun zx2 nzx2 => ?_⟩
  have s25 := Same.new (o := (.tup [vf] : HO)) nzx2
  have e25 : upd W24 zx2 (.tup [vf]) zx2 = some (.tup [vf]) := upd_same
  generalize upd W24 zx2 (.tup [vf]) = W25 at s25 e25 ⊢
  refine ⟨(by show 1 ≤ sizeLine; decide), fun zx3 nzx3 => ?_⟩
  have s26 := Same.new (o := (.tup [.int 1] : HO)) nzx3
  have e26 : upd W25 zx3 (.tup [.int 1]) zx3 = some (.tup [.int 1]) := upd_same
  generalize upd W25 zx3 (.tup [.int 1]) = W26 at s26 e26 ⊢
  have c26 : Same W26 W26 := Same.refl _
  have c25 : Same W25 W26 := s26.trans c26
  have c24 : Same W24 W26 := s25.trans c25
  have faW : FarZ K W26 vf := (fa.same (b24.cl.trans cl_sub)).same c24
  obtain ⟨xf, axf, zxf, outf⟩ := faW
  refine share_made (xs := [xf]) (ps := [z1]) (rw_of (n := 40) (m := 40) (.inr (SqT.of (c25 _ _ e25))) (.cons axf .nil) (by decide) (by decide) (by show 1 ≤ 20; decide)) (by show 0 < 1; decide) rfl (rw1 e26 (by decide)) rfl (by decide +kernel) fun sf W27 s27 hsf => ?_
  refine ⟨(by show 2 ≤ sizeLine; decide), fun yt2 nyt2 => ?_⟩
  have s28 := Same.new (o := (.tup [.ref sh, .ref sf] : HO)) nyt2
  have e28 : upd W27 yt2 (.tup [.ref sh, .ref sf]) yt2 = some (.tup [.ref sh, .ref sf]) := upd_same
  generalize upd W27 yt2 (.tup [.ref sh, .ref sf]) = W28 at s28 e28 ⊢
  refine ⟨yt2, _, rfl, SqT.of e28, rfl, _, _, rfl, _, _, rfl, rfl, ?_⟩
  have n28 : NL W28 W28 := Same.nl (Same.refl _)
  have n27 : NL W27 W28 := NL.trans (Same.nl s28) n28
  have n26 : NL W26 W28 := NL.trans (Same.nl s27) n27
  have n25 : NL W25 W28 := NL.trans (Same.nl s26) n26
  have n24 : NL W24 W28 := NL.trans (Same.nl s25) n25
  have n23 : NL W23 W28 := NL.trans (NL.penB penL23 b24) n24
  have n22 : NL W22 W28 := NL.trans (Same.nl s23) n23
  have n21 : NL W21 W28 := NL.trans (Same.nl s22) n22
  have n20 : NL W20 W28 := NL.trans (Same.nl s21) n21
  have n19 : NL W19 W28 := NL.trans (Same.nl s20) n20
  have n18 : NL W18 W28 := NL.trans (Same.nl s19) n19
  have n17 : NL W17 W28 := NL.trans (Same.nl s18) n18
  have n16 : NL W16 W28 := NL.trans (Same.nl s17) n17
  have n15 : NL W15 W28 := NL.trans (Same.nl s16) n16
  have n14 : NL W14 W28 := NL.trans (Same.nl s15) n15
  have n13 : NL W13 W28 := NL.trans (Same.nl s14) n14
  have n12 : NL W12 W28 := NL.trans (Same.nl s13) n13
  have n11 : NL W11 W28 := NL.trans (Same.nl s12) n12
  have n10 : NL W10 W28 := NL.trans (Same.nl s11) n11
  have n9 : NL W9 W28 := NL.trans (NL.penB penL9 b10) n10
  have n8 : NL W8 W28 := NL.trans (Same.nl s9) n9
  have n7 : NL W7 W28 := NL.trans (Same.nl s8) n8
  have n6 : NL W6 W28 := NL.trans (Same.nl s7) n7
  have zL : BrkZ K T.cB T.cP W28 (.ref fl) kA pA kA := ⟨bfl.nl n6, fszA, rfl, zas zA⟩
  have nL := nfl.nl n6
  have zO : BrkZ K T.cB T.cP W28 (.ref flo) ks pA ks := ⟨blo.nl n15, fsz_of lk2 (ascB_true.mp asck) (fun q hq => (zks q hq).up (by decide) (by decide)), rfl, zas zks⟩
  have nO := nlo.nl n15
  have hsh := hsh.nl n20
  have hsf := hsf.nl n27
  have bdsL : Bds kA pA kA (some z0) none := ⟨.inl kind_line.1, fun _ => kind_line.1, fun z => absurd rfl z, fun a b e1 e2 => (by cases e2), .inl (Option.some_ne_none _)⟩
  have bdsO : Bds ks pA ks (some z0) none := ⟨.inl abk, fun _ => abk, fun z => absurd rfl z, fun a b e1 e2 => (by cases e2), .inl (Option.some_ne_none _)⟩
  have arg0 : ∀ {H : Hp}, OA K H (.int 0) (some z0) := .inr ⟨z0, 5, rfl, arg_i (by decide) (by decide), by decide⟩
  refine ⟨_, rfl, ?_⟩
  refine told_made (zL.same (Same.refl _)) (nL.same (Same.refl _)) arg0 (.inl ⟨rfl, rfl⟩) bdsL fun uA W29 s29 fuA touA => ?_
  have m29 : Same W28 W29 := s29
  refine ⟨(by show 1 ≤ sizeLine; decide), fun rt nrt => ?_⟩
  have s30 := Same.new (o := (.tup [.ref uA] : HO)) nrt
  have e30 : upd W29 rt (.tup [.ref uA]) rt = some (.tup [.ref uA]) := upd_same
  generalize upd W29 rt (.tup [.ref uA]) = W30 at s30 e30 ⊢
  have m30 : Same W28 W30 := m29.trans s30
  refine ⟨_, rfl, ?_⟩
  refine told_made (zL.same (m30)) (nL.same (m30)) arg0 (.inl ⟨rfl, rfl⟩) bdsL fun uB W31 s31 fuB touB => ?_
  have m31 : Same W28 W31 := m30.trans s31
  refine ⟨_, rfl, ?_⟩
  refine told_made (zO.same (m31)) (nO.same (m31)) arg0 (.inl ⟨rfl, rfl⟩) bdsO fun uC W32 s32 fuC touC => ?_
  have m32 : Same W28 W32 := m31.trans s32
  refine ⟨(by show 2 ≤ sizeLine; decide), fun bl nbl => ?_⟩
  have s33 := Same.new (o := (.lst [.ref uB, .ref uC] : HO)) nbl
  have e33 : upd W32 bl (.lst [.ref uB, .ref uC]) bl = some (.lst [.ref uB, .ref uC]) := upd_same
  generalize upd W32 bl (.lst [.ref uB, .ref uC]) = W33 at s33 e33 ⊢
  have m33 : Same W28 W33 := m32.trans s33
  refine ⟨(by show 2 ≤ sizeLine; decide), fun yt3 nyt3 => ?_⟩
  have s34 := Same.new (o := (.tup [.ref rt, .ref bl] : HO)) nyt3
  have e34 : upd W33 yt3 (.tup [.ref rt, .ref bl]) yt3 = some (.tup [.ref rt, .ref bl]) := upd_same
  generalize upd W33 yt3 (.tup [.ref rt, .ref bl]) = W34 at s34 e34 ⊢
  have m34 : Same W28 W34 := m33.trans s34
  refine ⟨yt3, _, rfl, SqT.of e34, rfl, _, _, rfl, _, _, rfl, rfl, ?_⟩
  have c34 : Same W34 W34 := Same.refl _
  have c33 : Same W33 W34 := s34.trans c34
  have c32 : Same W32 W34 := s33.trans c33
  have c31 : Same W31 W34 := s32.trans c32
  have c30 : Same W30 W34 := s31.trans c31
  have c29 : Same W29 W34 := s30.trans c30
  have c28 : Same W28 W34 := s29.trans c29
  have c28 : Same W28 W28 := Same.refl _
  have c27 : Same W27 W28 := s28.trans c28
  have c26 : Same W26 W28 := s27.trans c27
  have c25 : Same W25 W28 := s26.trans c26
  have c24 : Same W24 W28 := s25.trans c25
  have penM := (pen24.same c24).same m34
  have toB := NL.cl (H := W34) penM
  have clM : ∀ {x : Addr} {o : HO}, W34 x = some o → (∀ ps, o ≠ .tbl ps) → (∀ ks, o ≠ .dK ks) → Kz.cl p W34 x = some o := fun e nt nd => by
    refine cl_at (fun z => ?_) e nt
    obtain ⟨ns, i, x, m, f, e1, _⟩ := id penM
    rw [z, e1] at e
    cases e
    exact nd _ rfl
  have hL : BrkAt K T.cB T.cP (Kz.cl p W34) (.ref fl) kA pA kA := (zL.1.same m34).nl toB
  have hSh := (hsh.same m34).nl toB
  have hFa : FarS K T.cS (Kz.cl p W34) (.ref sf) kA := ⟨[xf], [z1], (hsf.same m34).nl toB, by show 0 < 1; decide, fun x hx => (by rw [List.mem_singleton.mp hx]; exact zxf), outf⟩
  have hA := (touA.same c29).nl toB
  have hB := (touB.same c31).nl toB
  have hC := (touC.same c32).nl toB
  have hrt : SqT K (Kz.cl p W34) rt [.ref uA] := SqT.of (clM (c30 _ _ e30) (fun _ z => nomatch z) (fun _ z => nomatch z))
  have hbl : SqL K (Kz.cl p W34) bl [.ref uB, .ref uC] := SqL.of (clM (c33 _ _ e33) (fun _ z => nomatch z) (fun _ z => nomatch z))
  obtain ⟨ff, gg, htf, hun⟩ := tf2 hB hC (by decide) (by omega) difk
  refine ⟨_, rfl, (by show 2 ≤ sizeLine; decide), fun yc1 nyc1 => ?_⟩
  have s35 := Same.new (o := (.tup [.int 1, .int 0] : HO)) nyc1
  have e35 : upd W34 yc1 (.tup [.int 1, .int 0]) yc1 = some (.tup [.int 1, .int 0]) := upd_same
  generalize upd W34 yc1 (.tup [.int 1, .int 0]) = W35 at s35 e35 ⊢
  refine ⟨(by show 3 ≤ sizeLine; decide), fun yc2 nyc2 => ?_⟩
  have s36 := Same.new (o := (.tup [.int 1, .int 2, .int 3] : HO)) nyc2
  have e36 : upd W35 yc2 (.tup [.int 1, .int 2, .int 3]) yc2 = some (.tup [.int 1, .int 2, .int 3]) := upd_same
  generalize upd W35 yc2 (.tup [.int 1, .int 2, .int 3]) = W36 at s36 e36 ⊢
  refine ⟨(by show 5 ≤ sizeLine; decide), fun L3 nL3 => ?_⟩
  have s37 := Same.new (o := (.lst [.non, .str "1", .ref yc1, .bl true, .ref yc2] : HO)) nL3
  have e37 : upd W36 L3 (.lst [.non, .str "1", .ref yc1, .bl true, .ref yc2]) L3 = some (.lst [.non, .str "1", .ref yc1, .bl true, .ref yc2]) := upd_same
  generalize upd W36 L3 (.lst [.non, .str "1", .ref yc1, .bl true, .ref yc2]) = W37 at s37 e37 ⊢
  have f34 : Same W34 W34 := Same.refl _
  have f35 : Same W34 W35 := f34.trans s35
  have f36 : Same W34 W36 := f35.trans s36
  have f37 : Same W34 W37 := f36.trans s37
  have c37 : Same W37 W37 := Same.refl _
  have c36 : Same W36 W37 := s37.trans c37
  have c35 : Same W35 W37 := s36.trans c36
  have c34 : Same W34 W37 := s35.trans c35
  have penL37 := penM.same c34
  refine ⟨p, c, L3, _, _, rfl, penL37, by omega, e37, (by show 0 < 5; decide), (by show 5 < 1000000; decide), fun j3 vo W38 ej3 pen38 b38 => ?_⟩
  have od : OddN K (Kz.cl p W37) vo := odds5 (List.mem_of_getElem? ej3) (cl_at ((penM.same f34).newP nyc1) (c35 _ _ e35) (fun _ z => nomatch z)) (cl_at ((penM.same f35).newP nyc2) (c36 _ _ e36) (fun _ z => nomatch z))
  refine ⟨_, rfl, _, rfl, (by show 2 ≤ sizeLine; decide), fun yd1 nyd1 => ?_⟩
  have s39 := Same.new (o := (.tup [.int 1, .int 1] : HO)) nyd1
  have e39 : upd W38 yd1 (.tup [.int 1, .int 1]) yd1 = some (.tup [.int 1, .int 1]) := upd_same
  generalize upd W38 yd1 (.tup [.int 1, .int 1]) = W39 at s39 e39 ⊢
  refine ⟨(by show 5 ≤ sizeLine; decide), fun L4 nL4 => ?_⟩
  have s40 := Same.new (o := (.lst [.int (-1), .int 61, .str "3", .bl true, .ref yd1] : HO)) nL4
  have e40 : upd W39 L4 (.lst [.int (-1), .int 61, .str "3", .bl true, .ref yd1]) L4 = some (.lst [.int (-1), .int 61, .str "3", .bl true, .ref yd1]) := upd_same
  generalize upd W39 L4 (.lst [.int (-1), .int 61, .str "3", .bl true, .ref yd1]) = W40 at s40 e40 ⊢
  have f38 : Same W38 W38 := Same.refl _
  have f39 : Same W38 W39 := f38.trans s39
  have f40 : Same W38 W40 := f39.trans s40
  have c40 : Same W40 W40 := Same.refl _
  have c39 : Same W39 W40 := s40.trans c40
  have c38 : Same W38 W40 := s39.trans c39
  have penL40 := pen38.same c38
  refine ⟨p, c, L4, _, _, rfl, penL40, by omega, e40, (by show 0 < 5; decide), (by show 5 < 1000000; decide), fun j4 vb W41 ej4 pen41 b41 => ?_⟩
  have bt : BitS K (Kz.cl p W40) vb := bits5 (List.mem_of_getElem? ej4) (cl_at ((pen38.same f38).newP nyd1) (c39 _ _ e39) (fun _ z => nomatch z))
  have kM : Same (Kz.cl p W34) (Kz.cl p W40) := ((But.ofSame c34).trans (b38.trans (But.ofSame c38))).cl
  have kO : Same (Kz.cl p W37) (Kz.cl p W40) := (b38.trans (But.ofSame c38)).cl
  have od := od.same kO
  have hL := hL.same kM
  have hSh := hSh.same kM
  have hFa := hFa.same kM
  have hA := hA.same kM
  have hrt := Kz.Same.seqT kM hrt
  have hbl := Same.seq kM hbl
  have htf := htf.same kM
  have hun := hun.same kM
  have sub : Same (Kz.cl p W40) W41 := b41.cl.trans cl_sub
  have h41 : But p W41 W41 := But.ofSame (Same.refl _)
  have h40 : But p W40 W41 := b41.trans h41
  have h39 : But p W39 W41 := (But.ofSame s40).trans h40
  have h38 : But p W38 W41 := (But.ofSame s39).trans h39
  have h37 : But p W37 W41 := b38.trans h38
  have h36 : But p W36 W41 := (But.ofSame s37).trans h37
  have h35 : But p W35 W41 := (But.ofSame s36).trans h36
  have h34 : But p W34 W41 := (But.ofSame s35).trans h35
  have h33 : But p W33 W41 := (But.ofSame s34).trans h34
  have h32 : But p W32 W41 := (But.ofSame s33).trans h33
  have h31 : But p W31 W41 := (But.ofSame s32).trans h32
  have h30 : But p W30 W41 := (But.ofSame s31).trans h31
  have h29 : But p W29 W41 := (But.ofSame s30).trans h30
  have h28 : But p W28 W41 := (But.ofSame s29).trans h29
  have h27 : But p W27 W41 := (But.ofSame s28).trans h28
  have h26 : But p W26 W41 := (But.ofSame s27).trans h27
  have h25 : But p W25 W41 := (But.ofSame s26).trans h26
  have h24 : But p W24 W41 := (But.ofSame s25).trans h25
  have h23 : But p W23 W41 := b24.trans h24
  have h22 : But p W22 W41 := (But.ofSame s23).trans h23
  have h21 : But p W21 W41 := (But.ofSame s22).trans h22
  have h20 : But p W20 W41 := (But.ofSame s21).trans h21
  have h19 : But p W19 W41 := (But.ofSame s20).trans h20
  have h18 : But p W18 W41 := (But.ofSame s19).trans h19
  have h17 : But p W17 W41 := (But.ofSame s18).trans h18
  have h16 : But p W16 W41 := (But.ofSame s17).trans h17
  have h15 : But p W15 W41 := (But.ofSame s16).trans h16
  have h14 : But p W14 W41 := (But.ofSame s15).trans h15
  have h13 : But p W13 W41 := (But.ofSame s14).trans h14
  have h12 : But p W12 W41 := (But.ofSame s13).trans h13
  have h11 : But p W11 W41 := (But.ofSame s12).trans h12
  have h10 : But p W10 W41 := (But.ofSame s11).trans h11
  have h9 : But p W9 W41 := b10.trans h10
  have h8 : But p W8 W41 := (But.ofSame s9).trans h9
  have h7 : But p W7 W41 := (But.ofSame s8).trans h8
  have h6 : But p W6 W41 := (But.ofSame s7).trans h7
  have h5 : But p W5 W41 := (But.ofSame s6).trans h6
  have h4 : But p W4 W41 := (But.ofSame s5).trans h5
  have h3 : But p W3 W41 := (But.ofSame s4).trans h4
  have h2 : But p W2 W41 := (But.ofSame s3).trans h3
  have h1 : But p W1 W41 := (But.ofSame s2).trans h2
  have h0 : But p W0 W41 := (But.ofSame s1).trans h1
  have tabsQ : LamX.Tabs T.Tl W41 := pen0.tabs h0 tabsZ
  have nt : ∀ b o, Kz.cl p W40 b = some o → ∀ ps, o ≠ .tbl ps := fun b o e => cl_nt e
  generalize Kz.cl p W40 = B at od bt hL hSh hFa hA hrt hbl htf hun sub nt
  refine ⟨(by show 2 ≤ sizeLine; decide), fun yt4 nyt4 => ?_⟩
  have s42 := Same.new (o := (.tup [vo, vb] : HO)) nyt4
  have e42 : upd W41 yt4 (.tup [vo, vb]) yt4 = some (.tup [vo, vb]) := upd_same
  generalize upd W41 yt4 (.tup [vo, vb]) = W42 at s42 e42 ⊢
  refine ⟨yt4, _, rfl, SqT.of e42, rfl, _, _, rfl, _, _, rfl, rfl, ?_⟩
  have u0 := sub.trans s42
  have tabs0 := Kz.Same.tabs s42 tabsQ
  obtain ⟨oo, do_, hdo, so⟩ := od
  obtain ⟨ob, nb, db, hdb, sb⟩ := bt
  dsimp only [gName, tNext, tSeq, tAsg]
  refine lst_in ?_
  refine lst_el ?_
  refine el_two (K := K) tabs0 fun t1 G1 x1 tabs1 r1 => ?_
  have u1 := subN u0 nt x1
  refine lst_el ?_
  refine el_num (K := K) nt u1 tabs1 so (nv_var rfl hdo) fun t2 G2 x2 tabs2 r2 => ?_
  have u2 := subN u1 nt x2
  refine lst_el ?_
  refine el_num (K := K) nt u2 tabs2 so (nv_var rfl hdo) fun t3 G3 x3 tabs3 r3 => ?_
  have u3 := subN u2 nt x3
  refine lst_el ?_
  refine el_num (K := K) nt u3 tabs3 sh_12 nv_12 fun t4 G4 x4 tabs4 r4 => ?_
  have u4 := subN u3 nt x4
  refine lst_el ?_
  refine el_num (K := K) nt u4 tabs4 sh_12 nv_12 fun t5 G5 x5 tabs5 r5 => ?_
  have u5 := subN u4 nt x5
  refine lst_el ?_
  refine el_num (K := K) nt u5 tabs5 so (nv_var rfl hdo) fun t6 G6 x6 tabs6 r6 => ?_
  have u6 := subN u5 nt x6
  refine lst_el ?_
  refine el_num (K := K) nt u6 tabs6 so (nv_var rfl hdo) fun t7 G7 x7 tabs7 r7 => ?_
  have u7 := subN u6 nt x7
  refine lst_el ?_
  refine el_num (K := K) nt u7 tabs7 so (nv_var rfl hdo) fun t8 G8 x8 tabs8 r8 => ?_
  have u8 := subN u7 nt x8
  refine lst_el ?_
  refine el_num (K := K) nt u8 tabs8 so (nv_var rfl hdo) fun t9 G9 x9 tabs9 r9 => ?_
  have u9 := subN u8 nt x9
  refine lst_el ?_
  refine el_two (K := K) tabs9 fun t10 G10 x10 tabs10 r10 => ?_
  have u10 := subN u9 nt x10
  refine lst_el ?_
  refine el_two (K := K) tabs10 fun t11 G11 x11 tabs11 r11 => ?_
  have u11 := subN u10 nt x11
  refine lst_el ?_
  refine el_two (K := K) tabs11 fun t12 G12 x12 tabs12 r12 => ?_
  have u12 := subN u11 nt x12
  refine lst_el ?_
  refine el_num (K := K) nt u12 tabs12 sb (nv_var rfl hdb) fun t13 G13 x13 tabs13 r13 => ?_
  have u13 := subN u12 nt x13
  refine lst_el ?_
  refine el_two (K := K) tabs13 fun t14 G14 x14 tabs14 r14 => ?_
  have u14 := subN u13 nt x14
  refine lst_el ?_
  refine el_one (K := K) tabs14 fun t15 G15 x15 tabs15 r15 => ?_
  have u15 := subN u14 nt x15
  refine lst_el ?_
  refine el_one (K := K) tabs15 fun t16 G16 x16 tabs16 r16 => ?_
  have u16 := subN u15 nt x16
  refine ⟨(by show 16 ≤ sizeLine; decide), fun Lt nLt => ?_⟩
  have sA := Same.new (o := (.lst [t1, t2, t3, t4, t5, t6, t7, t8, t9, t10, t11, t12, t13, t14, t15, t16] : HO)) nLt
  have eA : upd G16 Lt (.lst [t1, t2, t3, t4, t5, t6, t7, t8, t9, t10, t11, t12, t13, t14, t15, t16]) Lt = some (.lst [t1, t2, t3, t4, t5, t6, t7, t8, t9, t10, t11, t12, t13, t14, t15, t16]) := upd_same
  generalize upd G16 Lt (.lst [t1, t2, t3, t4, t5, t6, t7, t8, t9, t10, t11, t12, t13, t14, t15, t16]) = A0 at sA eA ⊢
  have uE := u16.trans sA
  refine ⟨_, rfl, fun S kt off => ?_⟩
  have up := off_same off
  have y16 : LamX.ExtN G16 A0 := Kz.Same.extN sA
  have y15 : LamX.ExtN G15 A0 := x16.trans y16
  have y14 : LamX.ExtN G14 A0 := x15.trans y15
  have y13 : LamX.ExtN G13 A0 := x14.trans y14
  have y12 : LamX.ExtN G12 A0 := x13.trans y13
  have y11 : LamX.ExtN G11 A0 := x12.trans y12
  have y10 : LamX.ExtN G10 A0 := x11.trans y11
  have y9 : LamX.ExtN G9 A0 := x10.trans y10
  have y8 : LamX.ExtN G8 A0 := x9.trans y9
  have y7 : LamX.ExtN G7 A0 := x8.trans y8
  have y6 : LamX.ExtN G6 A0 := x7.trans y7
  have y5 : LamX.ExtN G5 A0 := x6.trans y6
  have y4 : LamX.ExtN G4 A0 := x5.trans y5
  have y3 : LamX.ExtN G3 A0 := x4.trans y4
  have y2 : LamX.ExtN G2 A0 := x3.trans y3
  have y1 : LamX.ExtN G1 A0 := x2.trans y2
  refine ⟨Lt, [t1, t2, t3, t4, t5, t6, t7, t8, t9, t10, t11, t12, t13, t14, t15, t16], rfl, SqL.of (up _ _ eA), fun i t e => ?_, fun H' s => ?_⟩
  · match i, e with
    | 0, e =>
      cases e
      refine try_unl off uE (r1.extN y1) ⟨⟨rfl, rfl, rfl, rfl, rfl⟩, kt, LamX.lamS_by (sc := defScope (top 71)) (by decide +kernel), fun q cl pm cv ctv => rfl, fun E A outer s H f c' hr' => T.mean.cS Gme (hr'.mono (by decide)) (takes_of (E := E) rfl rfl rfl rfl) (pa_cons (pv 6) (pa_cons (pv 2) pa_nil))⟩ fun D E Qn sD er => ?_
      exact ⟨_, rfl, _, rfl, _, _, kA, pA, kA, rfl, hL.same sD, kszA, hFa.same sD, er⟩
    | 1, e =>
      cases e
      refine try_num off uE (r2.extN y2) hdo so ⟨⟨rfl, rfl, rfl, rfl, rfl⟩, kt, LamX.lamS_by (sc := defScope (top 71)) (by decide +kernel), fun q cl pm cv ctv => rfl, fun E A outer s H f c' hr' => T.chance.cS Gch (hr'.mono (by decide)) (takes_of (E := E) rfl rfl rfl rfl) (pa_cons (pv 5) (pa_cons (pv 9) (pa_cons (pv 9) pa_nil)))⟩ fun D E Qn sD er => ?_
      exact ⟨_, rfl, _, rfl, _, rfl, _, _, _, rfl, .inl ⟨oo.same sD, er⟩⟩
    | 2, e =>
      cases e
      refine try_num off uE (r3.extN y3) hdo so ⟨⟨rfl, rfl, rfl, rfl, rfl⟩, kt, LamX.lamS_by (sc := defScope (top 71)) (by decide +kernel), fun q cl pm cv ctv => rfl, fun E A outer s H f c' hr' => T.chance.cS Gch (hr'.mono (by decide)) (takes_of (E := E) rfl rfl rfl rfl) (pa_cons (pv 5) (pa_cons pe_int (pa_cons (pv 9) pa_nil)))⟩ fun D E Qn sD er => ?_
      exact ⟨_, rfl, _, rfl, _, _, _, rfl, .inr ⟨z0, 5, 5, arg_i (by decide) (by decide), by decide, by decide, .inl ⟨oo.same sD, er⟩⟩⟩
    | 3, e =>
      cases e
      refine try_numG off uE (r4.extN y4) sh_12 ⟨⟨rfl, rfl, rfl, rfl, rfl⟩, kt, LamX.lamS_by (sc := defScope (top 71)) (by decide +kernel), fun q cl pm cv ctv => rfl, fun E A outer s H f c' hr' => T.chance_b.cS Gcb (hr'.mono (by decide)) (takes_of (E := E) rfl rfl rfl rfl) (pa_cons (pv 5) (pa_cons pe_int (pa_cons (pe_tup (pa_cons pe_int (pa_cons pe_int pa_nil))) pa_nil)))⟩ fun D E Qn sD er => ?_
      exact ⟨_, rfl, (by show 2 ≤ sizeLine; decide), fun z nz => ⟨_, _, _, rfl, .inr ⟨z1, 5, 5, arg_i (by decide) (by decide), by decide, by decide, .inr ⟨Rat.divInt 1 2, 5, 5, arg_p (.inr (SqT.of upd_same)) (by decide) (by decide) (by decide), by decide, by decide, by decide +kernel, er _ _ (Same.new nz) (.inl (dq_ii (SqT.of upd_same)))⟩⟩⟩⟩
    | 4, e =>
      cases e
      refine try_numG off uE (r5.extN y5) sh_12 ⟨⟨rfl, rfl, rfl, rfl, rfl⟩, kt, LamX.lamS_by (sc := defScope (top 71)) (by decide +kernel), fun q cl pm cv ctv => rfl, fun E A outer s H f c' hr' => T.chance.cS Gch (hr'.mono (by decide)) (takes_of (E := E) rfl rfl rfl rfl) (pa_cons (pv 5) (pa_cons pe_int (pa_cons (pe_tup (pa_cons pe_int (pa_cons pe_int pa_nil))) pa_nil)))⟩ fun D E Qn sD er => ?_
      exact ⟨_, rfl, (by show 2 ≤ sizeLine; decide), fun z nz => ⟨_, _, _, rfl, .inr ⟨z1, 5, 5, arg_i (by decide) (by decide), by decide, by decide, .inr ⟨Rat.divInt 1 2, 5, 5, arg_p (.inr (SqT.of upd_same)) (by decide) (by decide) (by decide), by decide, by decide, by decide +kernel, er _ _ (Same.new nz) (.inl (dq_ii (SqT.of upd_same)))⟩⟩⟩⟩
    | 5, e =>
      cases e
      refine try_num off uE (r6.extN y6) hdo so ⟨⟨rfl, rfl, rfl, rfl, rfl⟩, kt, LamX.lamS_by (sc := defScope (top 71)) (by decide +kernel), fun q cl pm cv ctv => rfl, fun E A outer s H f c' hr' => T.chance_b.cS Gcb (hr'.mono (by decide)) (takes_of (E := E) rfl rfl rfl rfl) (pa_cons (pv 5) (pa_cons (pv 9) (pa_cons pe_non pa_nil)))⟩ fun D E Qn sD er => ?_
      exact ⟨_, rfl, _, rfl, _, _, _, rfl, .inl ⟨oo.same sD, er⟩⟩
    | 6, e =>
      cases e
      refine try_num off uE (r7.extN y7) hdo so ⟨⟨rfl, rfl, rfl, rfl, rfl⟩, kt, LamX.lamS_by (sc := defScope (top 71)) (by decide +kernel), fun q cl pm cv ctv => rfl, fun E A outer s H f c' hr' => T.chance_b.cS Gcb (hr'.mono (by decide)) (takes_of (E := E) rfl rfl rfl rfl) (pa_cons (pv 5) (pa_cons pe_int (pa_cons (pv 9) pa_nil)))⟩ fun D E Qn sD er => ?_
      exact ⟨_, rfl, _, rfl, _, _, _, rfl, .inr ⟨z0, 5, 5, arg_i (by decide) (by decide), by decide, by decide, .inl ⟨oo.same sD, er⟩⟩⟩
    | 7, e =>
      cases e
      refine try_num off uE (r8.extN y8) hdo so ⟨⟨rfl, rfl, rfl, rfl, rfl⟩, kt, LamX.lamS_by (sc := defScope (top 71)) (by decide +kernel), fun q cl pm cv ctv => rfl, fun E A outer s H f c' hr' => T.moved.cS Gmo (hr'.mono (by decide)) (takes_of (E := E) rfl rfl rfl rfl) (pa_cons (pv 5) (pa_cons (pv 9) (pa_cons pe_non pa_nil)))⟩ fun D E Qn sD er => ?_
      exact ⟨_, rfl, _, rfl, _, _, _, rfl, .inl ⟨oo.same sD, er⟩⟩
    | 8, e =>
      cases e
      refine try_num off uE (r9.extN y9) hdo so ⟨⟨rfl, rfl, rfl, rfl, rfl⟩, kt, LamX.lamS_by (sc := defScope (top 71)) (by decide +kernel), fun q cl pm cv ctv => rfl, fun E A outer s H f c' hr' => T.moved.cS Gmo (hr'.mono (by decide)) (takes_of (E := E) rfl rfl rfl rfl) (pa_cons (pv 5) (pa_cons pe_int (pa_cons (pv 9) pa_nil)))⟩ fun D E Qn sD er => ?_
      exact ⟨_, rfl, _, rfl, _, _, _, rfl, .inr ⟨z0, 5, 5, arg_i (by decide) (by decide), by decide, oo.same sD, er⟩⟩
    | 9, e =>
      cases e
      refine try_unl off uE (r10.extN y10) ⟨⟨rfl, rfl, rfl, rfl, rfl⟩, kt, LamX.lamS_by (sc := defScope (top 71)) (by decide +kernel), fun q cl pm cv ctv => rfl, fun E A outer s H f c' hr' => T.missed.cS GmS (hr'.mono (by decide)) (takes_of (E := E) rfl rfl rfl rfl) (pa_cons (pv 6) (pa_cons (pv 8) pa_nil))⟩ fun D E Qn sD er => ?_
      exact ⟨_, rfl, _, rfl, _, bl, _, _, ff, gg, rfl, .inl (Same.seq sD hbl), htf.same sD, hun.same sD, er⟩
    | 10, e =>
      cases e
      refine try_unl off uE (r11.extN y11) ⟨⟨rfl, rfl, rfl, rfl, rfl⟩, kt, LamX.lamS_by (sc := defScope (top 71)) (by decide +kernel), fun q cl pm cv ctv => rfl, fun E A outer s H f c' hr' => T.missed.cS GmP (hr'.mono (by decide)) (takes_of (E := E) rfl rfl rfl rfl) (pa_cons (pv 6) (pa_cons (pv 7) pa_nil))⟩ fun D E Qn sD er => ?_
      exact ⟨_, rfl, _, rfl, _, rt, _, kA, pA, kA, _, _, rfl, .inr (Kz.Same.seqT sD hrt), hA.same sD, kszA, hFa.same sD, er⟩
    | 11, e =>
      cases e
      refine try_unl off uE (r12.extN y12) ⟨⟨rfl, rfl, rfl, rfl, rfl⟩, kt, LamX.lamS_by (sc := defScope (top 71)) (by decide +kernel), fun q cl pm cv ctv => rfl, fun E A outer s H f c' hr' => pe_callS GfS (hr'.mono (by decide)) rfl T.mgF T.ftF.kp b3 (fun σ => passAt (takes_of (E := E) rfl rfl rfl rfl) σ) (pa_cons (pv 6) (pa_cons (pv 8) (pa_cons (pv 10) pa_nil)))⟩ fun D E Qn sD er => ?_
      exact ⟨_, rfl, _, rfl, _, rfl, _, bl, _, _, ff, gg, _, rfl, .inl (Same.seq sD hbl), htf.same sD, hun.same sD, er⟩
    | 12, e =>
      cases e
      refine try_num off uE (r13.extN y13) hdb sb ⟨⟨rfl, rfl, rfl, rfl, rfl⟩, kt, LamX.lamS_by (sc := defScope (top 71)) (by decide +kernel), fun q cl pm cv ctv => rfl, fun E A outer s H f c' hr' => pe_callS GfB (hr'.mono (by decide)) rfl T.mgF T.ftF.kp b3 (fun σ => passAt (takes_of (E := E) rfl rfl rfl rfl) σ) (pa_cons (pv 6) (pa_cons (pv 7) (pa_cons (pv 10) pa_nil)))⟩ fun D E Qn sD er => ?_
      exact ⟨_, rfl, _, rfl, _, rfl, _, rt, _, kA, pA, kA, _, _, _, rfl, .inr (Kz.Same.seqT sD hrt), hA.same sD, by decide, nb, ob.same sD, er⟩
    | 13, e =>
      cases e
      refine try_unl off uE (r14.extN y14) ⟨⟨rfl, rfl, rfl, rfl, rfl⟩, kt, LamX.lamS_by (sc := defScope (top 71)) (by decide +kernel), fun q cl pm cv ctv => rfl, fun E A outer s H f c' hr' => pe_callS GfP (hr'.mono (by decide)) rfl T.mgF T.ftF.kp b3 (fun σ => passAt (takes_of (E := E) rfl rfl rfl rfl) σ) (pa_cons (pv 6) (pa_cons (pv 7) (pa_cons pe_int pa_nil)))⟩ fun D E Qn sD er => ?_
      exact ⟨_, rfl, _, rfl, _, rt, _, kA, pA, kA, _, _, 3, rfl, by decide, .inr (Kz.Same.seqT sD hrt), hA.same sD, kszA, hFa.same sD, er⟩
    | 14, e =>
      cases e
      refine try_none off uE (r15.extN y15) ⟨⟨rfl, rfl, rfl, rfl, rfl⟩, kt, LamX.lamS_by (sc := defScope (top 71)) (by decide +kernel), fun q cl pm cv ctv => rfl, fun E A outer s H f c' hr' => pe_call Gf0 (hr'.mono (by decide)) rfl T.mgF T.ftF.kp b2 hds pass0 (pa_cons (pv 6) (pa_cons (pe_tup pa_nil) pa_nil))⟩ fun D E Qn sD er => ?_
      exact ⟨_, rfl, (by show 0 ≤ sizeLine; decide), fun z nz => ⟨_, z, rfl, .inr (SqT.of upd_same), fun H2 s2 => er _ _ ((Same.new nz).trans s2)⟩⟩
    | 15, e =>
      cases e
      refine try_none off uE (r16.extN y16) ⟨⟨rfl, rfl, rfl, rfl, rfl⟩, kt, LamX.lamS_by (sc := defScope (top 71)) (by decide +kernel), fun q cl pm cv ctv => rfl, fun E A outer s H f c' hr' => T.missed.c0 Gm0 (hr'.mono (by decide)) (pa_cons (pv 6) (pa_cons (pe_lst pa_nil) pa_nil))⟩ fun D E Qn sD er => ?_
      exact ⟨_, rfl, (by show 0 ≤ sizeLine; decide), fun z nz => ⟨_, z, rfl, .inl (SqL.of upd_same), fun v H2 s2 _ => er _ _ ((Same.new nz).trans s2)⟩⟩
    | j + 16, e => cases e
  · intro _
    have sF := tk_fin off s
    have uF := uE.trans sF
    have a1 : ∀ {H : Hp}, AQ K H (.int 1) z1 := ⟨5, 5, arg_i (by decide) (by decide), by decide, by decide⟩
    have zk : ∀ x ∈ kA, Mz 60 100 x := fun x hx => (zA x hx).up (by decide) (by decide)
    have dI : ∀ {H : Hp} {z : Addr} {i j : Int}, H z = some (.tup [.int i, .int j]) → Dp K H (.ref z) (.tuple [.int i, .int j]) := fun e => .tup (SqT.of e) (.cons (.int _) (.cons (.int _) .nil))
    refine ⟨true, rfl, iteT ⟨_, rfl, _, _, _, kA, pH, z1, z1, rfl, hSh.same uF, rfl, by decide, zk, zH, a1, a1, Rat.le_refl, fun v1 H5 s5 rv1 => ?_⟩⟩
    refine ⟨(by show 2 ≤ sizeLine; decide), fun z nz => ⟨_, _, (rv1.same (Same.new nz)).dp, dI upd_same, pdQ_shaped _, by decide +kernel, ?_⟩⟩
    rw [sumH]
    have s6 := s5.trans (Same.new (o := (.tup [.int 1, .int 2] : HO)) nz)
    refine ⟨_, rfl, iteT ⟨_, rfl, _, _, _, kA, pH, z1, z1, rfl, (hSh.same uF).same s6, rfl, by decide, zk, zH, a1, a1, Rat.le_refl, fun v2 H7 s7 rv2 => ?_⟩⟩
    refine ⟨(by show 2 ≤ sizeLine; decide), fun z2 nz2 => ⟨_, _, (rv2.same (Same.new nz2)).dp, dI upd_same, pdQ_shaped _, by decide +kernel, ?_⟩⟩
    rw [sumO]
    exact k _
end
end Kz
set_option linter.all false
set_option maxRecDepth 100000
set_option maxHeartbeats 4000000
namespace Kz
open PySem PySem.Spec PyProof.Rows L2
/-! ### the end of a law whose def asks for repr and makes lambdas -/
section
variable {P : Program} {w : World} {K : PySem.W.Frag} {mg mb : Str → Option Value} {a : Addr} {cs : List (Addr × Addr)}
/-- the script at its place, and an empty table for each of the defs that make lambdas -/
def tabH (ts : List Addr) (H : Hp) : Hp := fun b => if b ∈ ts then some (.tbl #[]) else H b
theorem tabH_at {ts : List Addr} {H : Hp} {b : Addr} (m : b ∈ ts) : tabH ts H b = some (.tbl #[]) := if_pos m
theorem tabH_off {ts : List Addr} {H : Hp} {b : Addr} (m : b ∉ ts) : tabH ts H b = H b := if_neg m
theorem side_envT {h : Heap} {H : Hp} {s : Shared} {l : Array Value} (hs : s.heap = h) (KX : K.In h) (hns : h.Ns mainGlobals mg) (hb : h.Ns builtinsNs mb)
    (hbb : ∀ x : Str, x ≠ "__name__" → mb x = bootBuiltins x) (lim : h.NoLimit) (gens : s.gens = #[]) (ha : h.get? a = some { cls := .type "list", data := .seq l })
    (hT : ∀ p ∈ cs, h.get? p.2 = some { cls := .none, data := .fields #[] }) (nT : ∀ p ∈ cs, K.lookup p.2 = none) (C : ∀ p ∈ cs, PySem.W.CodeHd h p.1 p.2)
    (hbm : ∃ (bm : Addr) (ob : Obj), mg "__builtins__" = some (.ref bm) ∧ bm ≠ builtinsNs ∧ h.get? bm = some ob ∧ ob.cls = .type "module" ∧ ob.dict = some builtinsNs ∧ ob.data = .plain)
    (only : ∀ b, b ≠ a → b ∉ cs.map (·.2) → H b = none) (ok : HOk P w H h) (apart : H a ≠ none → K.lookup a = none) :
    K.In (hidT h H) ∧ (hidT h H).Ns mainGlobals mg ∧ Env0 P w K mg (hidT h H) callerA [] s H ∧ ∀ p ∈ cs, LamX.TabB (hidT h H) mg p.1 p.2 := by
  subst hs
  have free : ∀ {b : Addr} {o : Obj}, s.heap.get? b = some o → (∀ vs n, o.data ≠ .seq vs n) → o.data ≠ .fields #[] → H b = none := by
    intro b o e1 e2 e3
    by_cases hba : b = a
    · rw [hba, ha] at e1
      cases e1
      exact (e2 _ _ rfl).elim
    · by_cases hbt : b ∈ cs.map (·.2)
      · obtain ⟨p, hp, rfl⟩ := List.mem_map.mp hbt
        rw [hT p hp] at e1
        cases e1
        exact (e3 rfl).elim
      · exact only b hba hbt
  have dicts : ∀ {b : Addr} {o : Obj} {es : Array DictEntry} {ep : Nat}, s.heap.get? b = some o → o.data = .dict es ep → H b = none := fun e1 e2 =>
    free e1 (fun _ _ z => by rw [e2] at z; cases z) (fun z => by rw [e2] at z; cases z)
  have ns : ∀ {b : Addr} {m : Str → Option Value}, s.heap.Ns b m → (hidT s.heap H).Ns b m := by
    rintro b m ⟨o, es, ep, e1, e2, r⟩
    exact ⟨o, es, ep, hidT_get e1 (dicts e1 e2), e2, r⟩
  have kin : K.In (hidT s.heap H) := by
    intro b o e1
    refine hidT_get (KX b o e1) ?_
    by_cases hba : b = a
    · subst hba
      cases q : H b with
      | none => rfl
      | some u =>
        have z := apart (by rw [q]; exact fun z => nomatch z)
        rw [z] at e1
        cases e1
    · by_cases hbt : b ∈ cs.map (·.2)
      · obtain ⟨p, hp, rfl⟩ := List.mem_map.mp hbt
        rw [nT p hp] at e1
        cases e1
      · exact only b hba hbt
  have nolim : (hidT s.heap H).NoLimit := by
    obtain ⟨mc, z1, z2⟩ := lim
    exact ⟨mc, ns z1, z2⟩
  refine ⟨kin, ns hns, ⟨rfl, ⟨kin, ns hns, ⟨mb, ns hb, hbb⟩, nolim⟩, fun b o z => of_hidT z, Nat.le_of_eq (hidT_size _ _), trivial, ?_, ok, .of_eq gens⟩, fun p hp => ⟨?_, ?_, fun z => ?_⟩⟩
  · intro b z
    cases (show b ∈ ([] : List Addr) from z)
  · obtain ⟨o, us, f1, f2, f3, f4, f5, f6, f7, e1, r1, r2, r3, rest⟩ := C p hp
    exact ⟨o, us, f1, f2, f3, f4, f5, f6, f7, hidT_get e1 (free e1 (fun _ _ z => by rw [r2] at z; cases z) (fun z => by
      rw [r2] at z
      cases z
      simp at r3)), r1, r2, r3, rest⟩
  · obtain ⟨bm, ob, b1, b2, b3, b4, b5, b6⟩ := hbm
    refine ⟨bm, ob, b1, b2, fun q => ?_, fun q => ?_, hidT_get b3 (free b3 (fun _ _ z => by rw [b6] at z; cases z) (fun z => by rw [b6] at z; cases z)), b4, b5, b6⟩
    · obtain ⟨o, es, ep, e, hd, _⟩ := hns
      rw [q, e] at b3
      cases b3
      rw [hd] at b6
      cases b6
    · rw [q, hT p hp] at b3
      cases b3
      cases b6
  · obtain ⟨o, es, ep, e, hd, _⟩ := hns
    rw [z, hT p hp] at e
    cases e
    cases hd
theorem law_GT {CX : CXT} {k : Nat} {fa : Addr} {fd : FuncData} {x : Str} {sp : Sp} {s : Shared} {vs : List Value} {ns : List Int}
    (KX : K.In s.heap) (hns : s.heap.Ns mainGlobals mg) (hb : s.heap.Ns builtinsNs mb) (hbb : ∀ x : Str, x ≠ "__name__" → mb x = bootBuiltins x) (lim : s.heap.NoLimit) (gens : s.gens = #[])
    (hT : ∀ p ∈ cs, s.heap.get? p.2 = some { cls := .none, data := .fields #[] }) (nT : ∀ p ∈ cs, K.lookup p.2 = none) (C : ∀ p ∈ cs, PySem.W.CodeHd s.heap p.1 p.2)
    (hbm : ∃ (bm : Addr) (ob : Obj), mg "__builtins__" = some (.ref bm) ∧ bm ≠ builtinsNs ∧ s.heap.get? bm = some ob ∧ ob.cls = .type "module" ∧ ob.dict = some builtinsNs ∧ ob.data = .plain)
    (ha : s.heap.get? a = some { cls := .type "list", data := .seq vs.toArray }) (hi : IntsAre vs ns) (hl : ns.length ≤ sizeLine) (hr : Room k callerA)
    (F : ∀ base : Heap, K.In base → base.Ns mainGlobals mg → (∀ p ∈ cs, LamX.TabB base mg p.1 p.2) → FnG P w K mg base CX k fa fd [x] sp) (bind : ∀ (s : Shared) (u : Value), BindsTo s fd ⟨[u], []⟩ [(x, u)])
    (hsp : ∀ H : Hp, (∀ p ∈ cs, H p.2 = some (.tbl #[])) → SqL K H a (ns.map V.int) → sp [.ref a] H (fun v _ => v = .bl true) fun _ _ _ => False)
    (hCX : ∀ H e s', CX [] H s (fun _ _ _ => False) e s' → False) :
    codeAny (model P w) callerA (.call (.ref fa) ⟨[.ref a], []⟩) (fun r s' => r = .ok (.ret (.bool true)) ∧ OldK s.heap s'.heap ∧ s'.os = s.os ∧ AllBare s'.gens) s := by
  have rv := L2.vals_ints hi
  have mT : ∀ p ∈ cs, p.2 ∈ cs.map (·.2) := fun p hp => List.mem_map.mpr ⟨p, hp, rfl⟩
  have isT : ∀ b : Addr, b ∈ cs.map (·.2) → s.heap.get? b = some { cls := .none, data := .fields #[] } := fun b hb => by
    obtain ⟨p, hp, rfl⟩ := List.mem_map.mp hb
    exact hT p hp
  have aT : a ∉ cs.map (·.2) := fun z => by
    have e := isT a z
    rw [ha] at e
    have e2 : Data.seq vs.toArray _ = Data.fields #[] := congrArg Obj.data (Option.some.inj e)
    cases e2
  have core : ∀ H0 : Hp, Only H0 → SqL K (tabH (cs.map (·.2)) H0) a (ns.map V.int) → (∀ b, b ≠ a → H0 b = none) → (∀ b u, H0 b = some u → ObjOk P w (tabH (cs.map (·.2)) H0) s.heap b u) → (H0 a ≠ none → K.lookup a = none) →
      codeAny (model P w) callerA (.call (.ref fa) ⟨[.ref a], []⟩) (fun r s' => r = .ok (.ret (.bool true)) ∧ OldK s.heap s'.heap ∧ s'.os = s.os ∧ AllBare s'.gens) s := by
    intro H0 hO hS only ok0 apart
    have ok : HOk P w (tabH (cs.map (·.2)) H0) s.heap := fun b u z => by
      by_cases m : b ∈ cs.map (·.2)
      · rw [tabH_at m] at z
        cases z
        exact isT b m
      · rw [tabH_off m] at z
        exact ok0 b u z
    obtain ⟨k1, k2, e0, tb⟩ := side_envT (P := P) (w := w) (H := tabH (cs.map (·.2)) H0) rfl KX hns hb hbb lim gens ha hT nT C hbm (fun b n m => (tabH_off m).trans (only b n)) ok (fun z => apart (by rwa [tabH_off aT] at z))
    refine codeAny_mono ((F _ k1 k2 tb).go callerA rfl hr [] s _ e0 ⟨[.ref a], []⟩ [.ref a] [.ref a] (bind s (.ref a)) (.cons rfl .nil) _ _ (hsp _ (fun p hp => tabH_at (mT p hp)) hS)) ?_
    intro r s' got
    rcases r with er | fl
    · exact (hCX _ er s' got).elim
    rcases fl with _ | _ | _ | u
    all_goals try exact False.elim got
    obtain ⟨v, H', os, bare, un, ok', rel, q⟩ := got
    cases (show v = V.bl true from q)
    cases (show u = Value.bool true from rel)
    have kept : ∀ b o, b ∉ cs.map (·.2) → s.heap.get? b = some o → s'.heap.get? b = some o := fun b o m e1 => by
      have z0 : tabH (cs.map (·.2)) H0 b = H0 b := tabH_off m
      rcases hO b with z | ⟨ob, xs, z⟩
      · exact un.keep b o e1 (z0.trans z) (fun m => by cases (show b ∈ ([] : List Addr) from m)) (by simp)
      · obtain ⟨w1, _⟩ := ok b _ (z0.trans z)
        obtain ⟨w2, _⟩ := ok' b _ (un.frzs b ob _ (z0.trans z))
        rw [e1] at w1
        cases w1
        exact w2
    have grown : ∀ p ∈ cs, ∃ more : Array Value, s'.heap.get? p.2 = some { cls := .none, data := .fields more } := fun p hp => by
      obtain ⟨more, z⟩ := un.tbls p.2 #[] (tabH_at (mT p hp))
      exact ⟨_, ok' p.2 _ z⟩
    refine ⟨rfl, ⟨fun b o e1 => ?_, fun b o e1 => ?_⟩, os, bare⟩
    · by_cases m : b ∈ cs.map (·.2)
      · obtain ⟨p, hp, rfl⟩ := List.mem_map.mp m
        obtain ⟨more, e2⟩ := grown p hp
        have e3 := hT p hp
        rw [e1] at e3
        cases e3
        exact .inr (.inl ⟨((C p hp).tab (hT p hp)).isCodeTable, rfl, #[], more, rfl, by rw [Array.empty_append]; exact e2⟩)
      · exact .inl (kept b o m e1)
    · by_cases m : b ∈ cs.map (·.2)
      · obtain ⟨p, hp, rfl⟩ := List.mem_map.mp m
        obtain ⟨more, e2⟩ := grown p hp
        exact ⟨_, e2⟩
      · exact ⟨o, kept b o m e1⟩
  cases hk : K.lookup a with
  | some o =>
    have e1 := KX a o hk
    rw [ha] at e1
    cases e1
    have many : (vs.toArray).size ≤ sizeLine := by
      rw [List.size_toArray, hi.length]
      exact hl
    exact core (fun _ => none) (fun _ => .inl rfl) (.inr ⟨_, vs.toArray, _, hk, rfl, rfl, rfl, many, by simpa using rv⟩) (fun _ _ => rfl) (fun b u z => nomatch z) (fun z => absurd rfl z)
  | none =>
    refine core (scrH a { cls := .type "list", data := .seq vs.toArray } (ns.map V.int)) (fun b => ?_) (.inl (.inr ⟨_, (tabH_off aT).trans scrH_at⟩)) (fun b hb => scrH_off hb) (fun b u z => ?_) fun _ => hk
    · by_cases hba : b = a
      · rw [hba]
        exact .inr ⟨_, _, scrH_at⟩
      · exact .inl (scrH_off hba)
    · by_cases hba : b = a
      · subst hba
        cases scrH_at.symm.trans z
        refine ⟨ha, ?_, vs, _, rv, ha⟩
        rw [List.length_map]
        exact hl
      · cases (scrH_off hba).symm.trans z
end
end Kz
set_option linter.all false
set_option maxRecDepth 100000
set_option maxHeartbeats 4000000
namespace Kz
open PySem PySem.Spec PyProof.Rows L2
theorem funS_mk {P : Program} {K : PySem.W.Frag} {qual : Str} {st : Stmt} {C f ca cc : Addr} {oc : Value} {od an : Option Addr} {osl : Array (Option Value)} {kV doc pm ct : Value} {cl : Value} {cld : Option Addr} {csl : Array (Option Value)} {ccl : Value} {cdd : Option Addr} {vs : Array Value} {ccs : Array (Option Value)} {file : Str} {tf : Tok}
    (l : K.lookup f = some ⟨oc, od, .func (PySem.W.fnX "__init__" qual (defArgs st) (defBody st) (defScope st) [("__class__", cc)] .none kV doc pm an (.ref ca) ct), osl⟩) (c : PySem.W.codeIn K (.ref ca) qual = true)
    (lc : K.lookup cc = some ⟨cl, cld, .cell (some (.ref C)), csl⟩) (la : K.lookup ca = some ⟨ccl, cdd, .fields vs, ccs⟩) (h2 : (vs[2]? : Option Value) = some (.str file tf)) (hf : ((P.main.file : Str) == file) = true)
    (zs : PySem.W.nsIn K mainGlobals "super" = some none) (tp : (P.main.scope.names.lookup ("super" : Str)).isSome = false) (op : PySem.W.nsIn K cStatics "thirdparty.any" = some none) (cls : ∃ cd, PySem.W.clsIn K C = some cd)
    (ow : PySem.W.mroIn K C (.ref C) = some true) (nx : PySem.W.ks_superIn K C C "__init__" = some (some (.builtin "ValueError.__init__"))) (iv : PySem.W.subIn K (.ref C) (.type "ValueError") = some true) :
    FunS K P qual st C f (PySem.W.fnX "__init__" qual (defArgs st) (defBody st) (defScope st) [("__class__", cc)] .none kV doc pm an (.ref ca) ct) :=
  ⟨⟨oc, od, kV, doc, pm, an, ca, cc, ct, osl, rfl, l, c, ⟨cl, cld, csl, lc⟩, ccl, cdd, vs, ccs, file, tf, la, h2, hf⟩, fun X G => PySem.W.mg_none_of X G zs, tp, op, cls, ow, nx, iv⟩
theorem ErrT_cls {K : PySem.W.Frag} {C : Addr} {l : List Value} (h : ∃ cd, PySem.W.clsIn K C = some cd ∧ cd.mro = l) : ∃ cd, PySem.W.clsIn K C = some cd := let ⟨cd, e, _⟩ := h; ⟨cd, e⟩
end Kz
set_option linter.all false
set_option maxRecDepth 100000
set_option maxHeartbeats 0
namespace Kz
open PySem PySem.Spec PyProof.Rows L2
theorem errT_mk {K : PySem.W.Frag} {h : Heap} {mg : Str → Option Value} {x : Str} {B C : Addr} {nm q : Str} {N : Addr} {bs : List Value} {sn : List Str} {sub : List Value} {ab : Bool} {col : Option Bool} {dd : Option Addr} {m0 m1 m2 m3 m5 : Option Value}
    (X : K.In h) (G : h.Ns mainGlobals mg) (aC : PySem.W.nsIn K mainGlobals x = some (some (.ref C)))
    (xL : K.lookup C = some (excClassObj nm q C N bs [.ref B, .type "ValueError", .type "Exception", .type "BaseException", .type "object"] true sn sub ab col dd m0 m1 m2 m3 m5 "ValueError.__new__"))
    (sa : PySem.W.findIn K (.ref C) "__setattr__" = some (some (.builtin "object.__setattr__"))) (ga : PySem.W.findIn K (.ref C) "__getattribute__" = some (some (.builtin "BaseException.__getattribute__"))) (gg : PySem.W.findIn K (.ref C) "__getattr__" = some none)
    (ex : PySem.W.subIn K (.ref C) (.type "BaseException") = some true) (ty : PySem.W.typeIn K (.ref C) = some (.type "type")) (kp : PySem.W.keepIn K (.ref C) = true) (hd : PySem.W.hasDictIn K C = true)
    (ha : PySem.W.findIn K (.ref C) "__class__" = some (some (.builtin "object.__class__"))) (hn : PySem.W.specialIn K (.builtin "object.__class__") "__get__" = some (some (.builtin "getset_descriptor.__get__")))
    (ht : PySem.W.takesIn K (.builtin "object.__class__") = some true) (hm : PySem.W.mroIn K C (.type "object") = some true) : ErrT K mg x B C where
  o := ⟨⟨nm, q, N, bs, _, sn, sub, ab, col, dd, m0, m1, m2, m3, m5, xL, by first | rfl | decide +kernel⟩, sa, ex, ty, kp⟩
  xf := ⟨ga, gg, ex, hd⟩
  ex := ⟨ga, gg, ex, hd, ha, hn, ht, hm⟩
  g := PySem.W.mg_of X G aC
  mro := by
    refine ⟨{ name := nm, bases := bs, mro := [.ref C, .ref B, .type "ValueError", .type "Exception", .type "BaseException", .type "object"], ns := N, qualname := q, hasDict := true, slotNames := sn, subclasses := sub, abstract := ab, collection := col, hasDel := false }, ?_, rfl⟩
    · unfold PySem.W.clsIn
      rw [xL]

theorem funC_mk {K : PySem.W.Frag} {x qual : Str} {st : Stmt} {f ca : Addr} {oc : Value} {od an : Option Addr} {osl : Array (Option Value)} {kV doc pm ct : Value} (l : K.lookup f = some ⟨oc, od, .func (PySem.W.fnOf x qual (defArgs st) (defBody st) (defScope st) .none kV doc pm an (.ref ca) ct), osl⟩)
    (c : PySem.W.codeIn K (.ref ca) qual = true) : FunC K x qual st f (PySem.W.fnOf x qual (defArgs st) (defBody st) (defScope st) .none kV doc pm an (.ref ca) ct) ca := ⟨oc, od, kV, doc, pm, an, ct, osl, rfl, l, c⟩
set_option maxHeartbeats 0 in
theorem all_mk {P : Program} {w : World} {K : PySem.W.Frag} {h : Heap} {mg : Str → Option Value} {fa B CN fEN caEN ccEN CR fER caER ccER CU fEU caEU ccEU f8 f9 f10 f11 f12 f13 f14 f15 f16 f19 f30 f31 f32 f33 f24 f34 f63 f64 f65 f20 f21 f37 f38 f39 f40 f41 f17 f22 f23 f26 f27 f45 f46 f47 f48 f56 f57 f58 f59 f60 f25 f49 f50 f51 f52 f53 f54 f55 f66 f67 f68 f69 ca69 f70 ca70 f71 ca71 cP fm0 fm1 fm2 fm3 fm4 fm5 fm6 fm7 fm8 fm9 fm10 cB fq0 fq1 fq2 fq3 fq5 fq6 cS fsq0 cT ftq0 fFi aTFi P69 P70 P71 : Addr}
    {nmN qN : Str} {NN : Addr} {bsN : List Value} {snN : List Str} {subN : List Value} {abN : Bool} {colN : Option Bool} {ddN : Option Addr} {m0N m1N m2N m3N m5N : Option Value}
    {odEN anEN : Option Addr} {slEN : Array (Option Value)} {ocEN kVEN dcEN pmEN ctEN : Value}
    {clEN cclEN : Value} {cldEN cddEN : Option Addr} {cslEN ccsEN : Array (Option Value)} {vsEN : Array Value} {fileEN : Str} {tfEN : Tok}
    {nmR qR : Str} {NR : Addr} {bsR : List Value} {snR : List Str} {subR : List Value} {abR : Bool} {colR : Option Bool} {ddR : Option Addr} {m0R m1R m2R m3R m5R : Option Value}
    {odER anER : Option Addr} {slER : Array (Option Value)} {ocER kVER dcER pmER ctER : Value}
    {clER cclER : Value} {cldER cddER : Option Addr} {cslER ccsER : Array (Option Value)} {vsER : Array Value} {fileER : Str} {tfER : Tok}
    {nmU qU : Str} {NU : Addr} {bsU : List Value} {snU : List Str} {subU : List Value} {abU : Bool} {colU : Option Bool} {ddU : Option Addr} {m0U m1U m2U m3U m5U : Option Value}
    {odEU anEU : Option Addr} {slEU : Array (Option Value)} {ocEU kVEU dcEU pmEU ctEU : Value}
    {clEU cclEU : Value} {cldEU cddEU : Option Addr} {cslEU ccsEU : Array (Option Value)} {vsEU : Array Value} {fileEU : Str} {tfEU : Tok}
    {od8 an8 : Option Addr} {sl8 : Array (Option Value)} {oc8 kV8 dc8 pm8 cd8 ct8 : Value}
    {od9 an9 : Option Addr} {sl9 : Array (Option Value)} {oc9 kV9 dc9 pm9 cd9 ct9 : Value}
    {od10 an10 : Option Addr} {sl10 : Array (Option Value)} {oc10 kV10 dc10 pm10 cd10 ct10 : Value}
    {od11 an11 : Option Addr} {sl11 : Array (Option Value)} {oc11 kV11 dc11 pm11 cd11 ct11 : Value}
    {od12 an12 : Option Addr} {sl12 : Array (Option Value)} {oc12 kV12 dc12 pm12 cd12 ct12 : Value}
    {od13 an13 : Option Addr} {sl13 : Array (Option Value)} {oc13 kV13 dc13 pm13 cd13 ct13 : Value}
    {od14 an14 : Option Addr} {sl14 : Array (Option Value)} {oc14 kV14 dc14 pm14 cd14 ct14 : Value}
    {od15 an15 : Option Addr} {sl15 : Array (Option Value)} {oc15 kV15 dc15 pm15 cd15 ct15 : Value}
    {od16 an16 : Option Addr} {sl16 : Array (Option Value)} {oc16 kV16 dc16 pm16 cd16 ct16 : Value}
    {od19 an19 : Option Addr} {sl19 : Array (Option Value)} {oc19 kV19 dc19 pm19 cd19 ct19 : Value}
    {od30 an30 : Option Addr} {sl30 : Array (Option Value)} {oc30 kV30 dc30 pm30 cd30 ct30 : Value}
    {od31 an31 : Option Addr} {sl31 : Array (Option Value)} {oc31 kV31 dc31 pm31 cd31 ct31 : Value}
    {od32 an32 : Option Addr} {sl32 : Array (Option Value)} {oc32 kV32 dc32 pm32 cd32 ct32 : Value}
    {od33 an33 : Option Addr} {sl33 : Array (Option Value)} {oc33 kV33 dc33 pm33 cd33 ct33 : Value}
    {od24 an24 : Option Addr} {sl24 : Array (Option Value)} {oc24 kV24 dc24 pm24 cd24 ct24 : Value}
    {od34 an34 : Option Addr} {sl34 : Array (Option Value)} {oc34 kV34 dc34 pm34 cd34 ct34 : Value}
    {od63 an63 : Option Addr} {sl63 : Array (Option Value)} {oc63 kV63 dc63 pm63 cd63 ct63 : Value}
    {od64 an64 : Option Addr} {sl64 : Array (Option Value)} {oc64 kV64 dc64 pm64 cd64 ct64 : Value}
    {od65 an65 : Option Addr} {sl65 : Array (Option Value)} {oc65 kV65 dc65 pm65 cd65 ct65 : Value}
    {od20 an20 : Option Addr} {sl20 : Array (Option Value)} {oc20 kV20 dc20 pm20 cd20 ct20 : Value}
    {od21 an21 : Option Addr} {sl21 : Array (Option Value)} {oc21 kV21 dc21 pm21 cd21 ct21 : Value}
    {od37 an37 : Option Addr} {sl37 : Array (Option Value)} {oc37 kV37 dc37 pm37 cd37 ct37 : Value}
    {od38 an38 : Option Addr} {sl38 : Array (Option Value)} {oc38 kV38 dc38 pm38 cd38 ct38 : Value}
    {od39 an39 : Option Addr} {sl39 : Array (Option Value)} {oc39 kV39 dc39 pm39 cd39 ct39 : Value}
    {od40 an40 : Option Addr} {sl40 : Array (Option Value)} {oc40 kV40 dc40 pm40 cd40 ct40 : Value}
    {od41 an41 : Option Addr} {sl41 : Array (Option Value)} {oc41 kV41 dc41 pm41 cd41 ct41 : Value}
    {od17 an17 : Option Addr} {sl17 : Array (Option Value)} {oc17 kV17 dc17 pm17 cd17 ct17 : Value}
    {od22 an22 : Option Addr} {sl22 : Array (Option Value)} {oc22 kV22 dc22 pm22 cd22 ct22 : Value}
    {od23 an23 : Option Addr} {sl23 : Array (Option Value)} {oc23 kV23 dc23 pm23 cd23 ct23 : Value}
    {od26 an26 : Option Addr} {sl26 : Array (Option Value)} {oc26 kV26 dc26 pm26 cd26 ct26 : Value}
    {od27 an27 : Option Addr} {sl27 : Array (Option Value)} {oc27 kV27 dc27 pm27 cd27 ct27 : Value}
    {od45 an45 : Option Addr} {sl45 : Array (Option Value)} {oc45 kV45 dc45 pm45 cd45 ct45 : Value}
    {od46 an46 : Option Addr} {sl46 : Array (Option Value)} {oc46 kV46 dc46 pm46 cd46 ct46 : Value}
    {od47 an47 : Option Addr} {sl47 : Array (Option Value)} {oc47 kV47 dc47 pm47 cd47 ct47 : Value}
    {od48 an48 : Option Addr} {sl48 : Array (Option Value)} {oc48 kV48 dc48 pm48 cd48 ct48 : Value}
    {od56 an56 : Option Addr} {sl56 : Array (Option Value)} {oc56 kV56 dc56 pm56 cd56 ct56 : Value}
    {od57 an57 : Option Addr} {sl57 : Array (Option Value)} {oc57 kV57 dc57 pm57 cd57 ct57 : Value}
    {od58 an58 : Option Addr} {sl58 : Array (Option Value)} {oc58 kV58 dc58 pm58 cd58 ct58 : Value}
    {od59 an59 : Option Addr} {sl59 : Array (Option Value)} {oc59 kV59 dc59 pm59 cd59 ct59 : Value}
    {od60 an60 : Option Addr} {sl60 : Array (Option Value)} {oc60 kV60 dc60 pm60 cd60 ct60 : Value}
    {od25 an25 : Option Addr} {sl25 : Array (Option Value)} {oc25 kV25 dc25 pm25 cd25 ct25 : Value}
    {od49 an49 : Option Addr} {sl49 : Array (Option Value)} {oc49 kV49 dc49 pm49 cd49 ct49 : Value}
    {od50 an50 : Option Addr} {sl50 : Array (Option Value)} {oc50 kV50 dc50 pm50 cd50 ct50 : Value}
    {od51 an51 : Option Addr} {sl51 : Array (Option Value)} {oc51 kV51 dc51 pm51 cd51 ct51 : Value}
    {od52 an52 : Option Addr} {sl52 : Array (Option Value)} {oc52 kV52 dc52 pm52 cd52 ct52 : Value}
    {od53 an53 : Option Addr} {sl53 : Array (Option Value)} {oc53 kV53 dc53 pm53 cd53 ct53 : Value}
    {od54 an54 : Option Addr} {sl54 : Array (Option Value)} {oc54 kV54 dc54 pm54 cd54 ct54 : Value}
    {od55 an55 : Option Addr} {sl55 : Array (Option Value)} {oc55 kV55 dc55 pm55 cd55 ct55 : Value}
    {od66 an66 : Option Addr} {sl66 : Array (Option Value)} {oc66 kV66 dc66 pm66 cd66 ct66 : Value}
    {od67 an67 : Option Addr} {sl67 : Array (Option Value)} {oc67 kV67 dc67 pm67 cd67 ct67 : Value}
    {od68 an68 : Option Addr} {sl68 : Array (Option Value)} {oc68 kV68 dc68 pm68 cd68 ct68 : Value}
    {od69 an69 : Option Addr} {sl69 : Array (Option Value)} {oc69 kV69 dc69 pm69 ct69 : Value}
    {od70 an70 : Option Addr} {sl70 : Array (Option Value)} {oc70 kV70 dc70 pm70 ct70 : Value}
    {od71 an71 : Option Addr} {sl71 : Array (Option Value)} {oc71 kV71 dc71 pm71 ct71 : Value}
    {odm0 anm0 : Option Addr} {slm0 : Array (Option Value)} {ocm0 kVm0 dcm0 pmm0 cdm0 ctm0 : Value}
    {odm1 anm1 : Option Addr} {slm1 : Array (Option Value)} {ocm1 kVm1 dcm1 pmm1 cdm1 ctm1 : Value}
    {odm2 anm2 : Option Addr} {slm2 : Array (Option Value)} {ocm2 kVm2 dcm2 pmm2 cdm2 ctm2 : Value}
    {odm3 anm3 : Option Addr} {slm3 : Array (Option Value)} {ocm3 kVm3 dcm3 pmm3 cdm3 ctm3 : Value}
    {odm4 anm4 : Option Addr} {slm4 : Array (Option Value)} {ocm4 kVm4 dcm4 pmm4 cdm4 ctm4 : Value}
    {odm5 anm5 : Option Addr} {slm5 : Array (Option Value)} {ocm5 kVm5 dcm5 pmm5 cdm5 ctm5 : Value}
    {odm6 anm6 : Option Addr} {slm6 : Array (Option Value)} {ocm6 kVm6 dcm6 pmm6 cdm6 ctm6 : Value}
    {odm7 anm7 : Option Addr} {slm7 : Array (Option Value)} {ocm7 kVm7 dcm7 pmm7 cdm7 ctm7 : Value}
    {odm8 anm8 : Option Addr} {slm8 : Array (Option Value)} {ocm8 kVm8 dcm8 pmm8 cdm8 ctm8 : Value}
    {odm9 anm9 : Option Addr} {slm9 : Array (Option Value)} {ocm9 kVm9 dcm9 pmm9 cdm9 ctm9 : Value}
    {odm10 anm10 : Option Addr} {slm10 : Array (Option Value)} {ocm10 kVm10 dcm10 pmm10 cdm10 ctm10 : Value}
    {odq0 anq0 : Option Addr} {slq0 : Array (Option Value)} {ocq0 kVq0 dcq0 pmq0 cdq0 ctq0 : Value}
    {odq1 anq1 : Option Addr} {slq1 : Array (Option Value)} {ocq1 kVq1 dcq1 pmq1 cdq1 ctq1 : Value}
    {odq2 anq2 : Option Addr} {slq2 : Array (Option Value)} {ocq2 kVq2 dcq2 pmq2 cdq2 ctq2 : Value}
    {odq3 anq3 : Option Addr} {slq3 : Array (Option Value)} {ocq3 kVq3 dcq3 pmq3 cdq3 ctq3 : Value}
    {odq5 anq5 : Option Addr} {slq5 : Array (Option Value)} {ocq5 kVq5 dcq5 pmq5 cdq5 ctq5 : Value}
    {odq6 anq6 : Option Addr} {slq6 : Array (Option Value)} {ocq6 kVq6 dcq6 pmq6 cdq6 ctq6 : Value}
    {odsq0 ansq0 : Option Addr} {slsq0 : Array (Option Value)} {ocsq0 kVsq0 dcsq0 pmsq0 cdsq0 ctsq0 : Value}
    {odtq0 antq0 : Option Addr} {sltq0 : Array (Option Value)} {octq0 kVtq0 dctq0 pmtq0 cdtq0 cttq0 : Value}
    {odFi anFi odTFi : Option Addr} {slFi slTFi : Array (Option Value)} {ocFi kVFi dcFi pmFi cdFi ctFi ocTFi : Value} {nTFi : Nat}
    {vs69 : Array Value} {oq69 : Option Addr} {os69 : Array (Option Value)} {ov69 : Value}
    {vs70 : Array Value} {oq70 : Option Addr} {os70 : Array (Option Value)} {ov70 : Value}
    {vs71 : Array Value} {oq71 : Option Addr} {os71 : Array (Option Value)} {ov71 : Value}
    (X : K.In h) (G : h.Ns mainGlobals mg) (hfa : mg "law" = some (.ref fa))
    (qaB : PySem.W.nsIn K mainGlobals "MeanError" = some (some (.ref B)))
    (qrB : PySem.W.readsIn K B (.type "type") = true)
    (qsB : PySem.W.specialIn K (.ref B) "__getattribute__" = some (some (.builtin "type.__getattribute__")))
    (qfB : PySem.W.findCls K (.ref B) (.type "type") "__init__" = some (.val (.builtin "ValueError.__init__")))
    (qcB : PySem.W.isClsIn K B = true)
    (qtB : PySem.W.typeIn K (.ref B) = some (.type "type"))
    (hn : PySem.W.specialIn K (.builtin "object.__class__") "__get__" = some (some (.builtin "getset_descriptor.__get__")))
    (ht : PySem.W.takesIn K (.builtin "object.__class__") = some true)
    (aCN : PySem.W.nsIn K mainGlobals "BadNumber" = some (some (.ref CN)))
    (xLN : K.lookup CN = some (excClassObj nmN qN CN NN bsN [.ref B, .type "ValueError", .type "Exception", .type "BaseException", .type "object"] true snN subN abN colN ddN m0N m1N m2N m3N m5N "ValueError.__new__"))
    (saN : PySem.W.findIn K (.ref CN) "__setattr__" = some (some (.builtin "object.__setattr__")))
    (gaN : PySem.W.findIn K (.ref CN) "__getattribute__" = some (some (.builtin "BaseException.__getattribute__")))
    (ggN : PySem.W.findIn K (.ref CN) "__getattr__" = some none)
    (exN : PySem.W.subIn K (.ref CN) (.type "BaseException") = some true)
    (tyN : PySem.W.typeIn K (.ref CN) = some (.type "type"))
    (kpN : PySem.W.keepIn K (.ref CN) = true)
    (hdN : PySem.W.hasDictIn K CN = true)
    (haN : PySem.W.findIn K (.ref CN) "__class__" = some (some (.builtin "object.__class__")))
    (hmN : PySem.W.mroIn K CN (.type "object") = some true)
    (nN1 : PySem.W.findIn K (.ref CN) "what" = some none)
    (nN2 : PySem.W.findIn K (.ref CN) "number" = some none)
    (iN : PySem.W.findIn K (.ref CN) "__init__" = some (some (.ref fEN)))
    (tN : PySem.W.typeIn K (.ref fEN) = some (.type "function"))
    (lEN : K.lookup fEN = some ⟨ocEN, odEN, .func (PySem.W.fnX "__init__" "BadNumber.__init__" (defArgs sI3) (defBody sI3) (defScope sI3) [("__class__", ccEN)] .none kVEN dcEN pmEN anEN (.ref caEN) ctEN), slEN⟩)
    (cEN : PySem.W.codeIn K (.ref caEN) "BadNumber.__init__" = true)
    (lcEN : K.lookup ccEN = some ⟨clEN, cldEN, .cell (some (.ref CN)), cslEN⟩)
    (laEN : K.lookup caEN = some ⟨cclEN, cddEN, .fields vsEN, ccsEN⟩)
    (h2EN : (vsEN[2]? : Option Value) = some (.str fileEN tfEN))
    (hfEN : ((P.main.file : Str) == fileEN) = true)
    (owEN : PySem.W.mroIn K CN (.ref CN) = some true)
    (nxEN : PySem.W.ks_superIn K CN CN "__init__" = some (some (.builtin "ValueError.__init__")))
    (ivEN : PySem.W.subIn K (.ref CN) (.type "ValueError") = some true)
    (aCR : PySem.W.nsIn K mainGlobals "BadRow" = some (some (.ref CR)))
    (xLR : K.lookup CR = some (excClassObj nmR qR CR NR bsR [.ref B, .type "ValueError", .type "Exception", .type "BaseException", .type "object"] true snR subR abR colR ddR m0R m1R m2R m3R m5R "ValueError.__new__"))
    (saR : PySem.W.findIn K (.ref CR) "__setattr__" = some (some (.builtin "object.__setattr__")))
    (gaR : PySem.W.findIn K (.ref CR) "__getattribute__" = some (some (.builtin "BaseException.__getattribute__")))
    (ggR : PySem.W.findIn K (.ref CR) "__getattr__" = some none)
    (exR : PySem.W.subIn K (.ref CR) (.type "BaseException") = some true)
    (tyR : PySem.W.typeIn K (.ref CR) = some (.type "type"))
    (kpR : PySem.W.keepIn K (.ref CR) = true)
    (hdR : PySem.W.hasDictIn K CR = true)
    (haR : PySem.W.findIn K (.ref CR) "__class__" = some (some (.builtin "object.__class__")))
    (hmR : PySem.W.mroIn K CR (.type "object") = some true)
    (nR1 : PySem.W.findIn K (.ref CR) "row" = some none)
    (iR : PySem.W.findIn K (.ref CR) "__init__" = some (some (.ref fER)))
    (tR : PySem.W.typeIn K (.ref fER) = some (.type "function"))
    (lER : K.lookup fER = some ⟨ocER, odER, .func (PySem.W.fnX "__init__" "BadRow.__init__" (defArgs sI4) (defBody sI4) (defScope sI4) [("__class__", ccER)] .none kVER dcER pmER anER (.ref caER) ctER), slER⟩)
    (cER : PySem.W.codeIn K (.ref caER) "BadRow.__init__" = true)
    (lcER : K.lookup ccER = some ⟨clER, cldER, .cell (some (.ref CR)), cslER⟩)
    (laER : K.lookup caER = some ⟨cclER, cddER, .fields vsER, ccsER⟩)
    (h2ER : (vsER[2]? : Option Value) = some (.str fileER tfER))
    (hfER : ((P.main.file : Str) == fileER) = true)
    (owER : PySem.W.mroIn K CR (.ref CR) = some true)
    (nxER : PySem.W.ks_superIn K CR CR "__init__" = some (some (.builtin "ValueError.__init__")))
    (ivER : PySem.W.subIn K (.ref CR) (.type "ValueError") = some true)
    (aCU : PySem.W.nsIn K mainGlobals "Unlike" = some (some (.ref CU)))
    (xLU : K.lookup CU = some (excClassObj nmU qU CU NU bsU [.ref B, .type "ValueError", .type "Exception", .type "BaseException", .type "object"] true snU subU abU colU ddU m0U m1U m2U m3U m5U "ValueError.__new__"))
    (saU : PySem.W.findIn K (.ref CU) "__setattr__" = some (some (.builtin "object.__setattr__")))
    (gaU : PySem.W.findIn K (.ref CU) "__getattribute__" = some (some (.builtin "BaseException.__getattribute__")))
    (ggU : PySem.W.findIn K (.ref CU) "__getattr__" = some none)
    (exU : PySem.W.subIn K (.ref CU) (.type "BaseException") = some true)
    (tyU : PySem.W.typeIn K (.ref CU) = some (.type "type"))
    (kpU : PySem.W.keepIn K (.ref CU) = true)
    (hdU : PySem.W.hasDictIn K CU = true)
    (haU : PySem.W.findIn K (.ref CU) "__class__" = some (some (.builtin "object.__class__")))
    (hmU : PySem.W.mroIn K CU (.type "object") = some true)
    (nU1 : PySem.W.findIn K (.ref CU) "what" = some none)
    (iU : PySem.W.findIn K (.ref CU) "__init__" = some (some (.ref fEU)))
    (tU : PySem.W.typeIn K (.ref fEU) = some (.type "function"))
    (lEU : K.lookup fEU = some ⟨ocEU, odEU, .func (PySem.W.fnX "__init__" "Unlike.__init__" (defArgs sI6) (defBody sI6) (defScope sI6) [("__class__", ccEU)] .none kVEU dcEU pmEU anEU (.ref caEU) ctEU), slEU⟩)
    (cEU : PySem.W.codeIn K (.ref caEU) "Unlike.__init__" = true)
    (lcEU : K.lookup ccEU = some ⟨clEU, cldEU, .cell (some (.ref CU)), cslEU⟩)
    (laEU : K.lookup caEU = some ⟨cclEU, cddEU, .fields vsEU, ccsEU⟩)
    (h2EU : (vsEU[2]? : Option Value) = some (.str fileEU tfEU))
    (hfEU : ((P.main.file : Str) == fileEU) = true)
    (owEU : PySem.W.mroIn K CU (.ref CU) = some true)
    (nxEU : PySem.W.ks_superIn K CU CU "__init__" = some (some (.builtin "ValueError.__init__")))
    (ivEU : PySem.W.subIn K (.ref CU) (.type "ValueError") = some true)
    (zs : PySem.W.nsIn K mainGlobals "super" = some none)
    (tp : (P.main.scope.names.lookup ("super" : Str)).isSome = false)
    (op : PySem.W.nsIn K cStatics "thirdparty.any" = some none)
    (z_len : PySem.W.nsIn K mainGlobals "len" = some none)
    (z_int : PySem.W.nsIn K mainGlobals "int" = some none)
    (z_list : PySem.W.nsIn K mainGlobals "list" = some none)
    (z_range : PySem.W.nsIn K mainGlobals "range" = some none)
    (z_mIsi : PySem.W.nsIn K mainGlobals "isinstance" = some none)
    (z_mBool : PySem.W.nsIn K mainGlobals "bool" = some none)
    (z_mTuple : PySem.W.nsIn K mainGlobals "tuple" = some none)
    (z_mMax : PySem.W.nsIn K mainGlobals "max" = some none)
    (z_mAll : PySem.W.nsIn K mainGlobals "all" = some none)
    (z_mEnum : PySem.W.nsIn K mainGlobals "enumerate" = some none)
    (z_mRev : PySem.W.nsIn K mainGlobals "reversed" = some none)
    (z_mZip : PySem.W.nsIn K mainGlobals "zip" = some none)
    (z_mAbs : PySem.W.nsIn K mainGlobals "abs" = some none)
    (z_mStr : PySem.W.nsIn K mainGlobals "str" = some none)
    (z_mRepr : PySem.W.nsIn K mainGlobals "repr" = some none)
    (z_mDm : PySem.W.nsIn K mainGlobals "divmod" = some none)
    (z_mNi : PySem.W.nsIn K mainGlobals "NotImplemented" = some none)
    (z_mAny : PySem.W.nsIn K mainGlobals "any" = some none)
    (z_mSum : PySem.W.nsIn K mainGlobals "sum" = some none)
    (z_gcd : PySem.W.nsIn K mainGlobals "gcd" = some (some (.builtin "math.gcd")))
    (z_lcm : PySem.W.nsIn K mainGlobals "lcm" = some (some (.builtin "math.lcm")))
    (g8 : PySem.W.nsIn K mainGlobals "is_whole" = some (some (.ref f8)))
    (l8 : K.lookup f8 = some ⟨oc8, od8, .func (PySem.W.fnOf "is_whole" "is_whole" (defArgs (top 8)) (defBody (top 8)) (defScope (top 8)) .none kV8 dc8 pm8 an8 cd8 ct8), sl8⟩)
    (c8 : PySem.W.codeIn K cd8 "is_whole" = true)
    (k8 : PySem.W.keepIn K (.ref f8) = true)
    (g9 : PySem.W.nsIn K mainGlobals "is_pair" = some (some (.ref f9)))
    (l9 : K.lookup f9 = some ⟨oc9, od9, .func (PySem.W.fnOf "is_pair" "is_pair" (defArgs (top 9)) (defBody (top 9)) (defScope (top 9)) .none kV9 dc9 pm9 an9 cd9 ct9), sl9⟩)
    (c9 : PySem.W.codeIn K cd9 "is_pair" = true)
    (k9 : PySem.W.keepIn K (.ref f9) = true)
    (g10 : PySem.W.nsIn K mainGlobals "is_ratio" = some (some (.ref f10)))
    (l10 : K.lookup f10 = some ⟨oc10, od10, .func (PySem.W.fnOf "is_ratio" "is_ratio" (defArgs (top 10)) (defBody (top 10)) (defScope (top 10)) .none kV10 dc10 pm10 an10 cd10 ct10), sl10⟩)
    (c10 : PySem.W.codeIn K cd10 "is_ratio" = true)
    (k10 : PySem.W.keepIn K (.ref f10) = true)
    (g11 : PySem.W.nsIn K mainGlobals "lowest" = some (some (.ref f11)))
    (l11 : K.lookup f11 = some ⟨oc11, od11, .func (PySem.W.fnOf "lowest" "lowest" (defArgs (top 11)) (defBody (top 11)) (defScope (top 11)) .none kV11 dc11 pm11 an11 cd11 ct11), sl11⟩)
    (c11 : PySem.W.codeIn K cd11 "lowest" = true)
    (k11 : PySem.W.keepIn K (.ref f11) = true)
    (g12 : PySem.W.nsIn K mainGlobals "told" = some (some (.ref f12)))
    (l12 : K.lookup f12 = some ⟨oc12, od12, .func (PySem.W.fnOf "told" "told" (defArgs (top 12)) (defBody (top 12)) (defScope (top 12)) .none kV12 dc12 pm12 an12 cd12 ct12), sl12⟩)
    (c12 : PySem.W.codeIn K cd12 "told" = true)
    (k12 : PySem.W.keepIn K (.ref f12) = true)
    (g13 : PySem.W.nsIn K mainGlobals "plus" = some (some (.ref f13)))
    (l13 : K.lookup f13 = some ⟨oc13, od13, .func (PySem.W.fnOf "plus" "plus" (defArgs (top 13)) (defBody (top 13)) (defScope (top 13)) .none kV13 dc13 pm13 an13 cd13 ct13), sl13⟩)
    (c13 : PySem.W.codeIn K cd13 "plus" = true)
    (k13 : PySem.W.keepIn K (.ref f13) = true)
    (g14 : PySem.W.nsIn K mainGlobals "minus" = some (some (.ref f14)))
    (l14 : K.lookup f14 = some ⟨oc14, od14, .func (PySem.W.fnOf "minus" "minus" (defArgs (top 14)) (defBody (top 14)) (defScope (top 14)) .none kV14 dc14 pm14 an14 cd14 ct14), sl14⟩)
    (c14 : PySem.W.codeIn K cd14 "minus" = true)
    (k14 : PySem.W.keepIn K (.ref f14) = true)
    (g15 : PySem.W.nsIn K mainGlobals "times" = some (some (.ref f15)))
    (l15 : K.lookup f15 = some ⟨oc15, od15, .func (PySem.W.fnOf "times" "times" (defArgs (top 15)) (defBody (top 15)) (defScope (top 15)) .none kV15 dc15 pm15 an15 cd15 ct15), sl15⟩)
    (c15 : PySem.W.codeIn K cd15 "times" = true)
    (k15 : PySem.W.keepIn K (.ref f15) = true)
    (g16 : PySem.W.nsIn K mainGlobals "lower" = some (some (.ref f16)))
    (l16 : K.lookup f16 = some ⟨oc16, od16, .func (PySem.W.fnOf "lower" "lower" (defArgs (top 16)) (defBody (top 16)) (defScope (top 16)) .none kV16 dc16 pm16 an16 cd16 ct16), sl16⟩)
    (c16 : PySem.W.codeIn K cd16 "lower" = true)
    (k16 : PySem.W.keepIn K (.ref f16) = true)
    (g19 : PySem.W.nsIn K mainGlobals "is_row" = some (some (.ref f19)))
    (l19 : K.lookup f19 = some ⟨oc19, od19, .func (PySem.W.fnOf "is_row" "is_row" (defArgs (top 19)) (defBody (top 19)) (defScope (top 19)) .none kV19 dc19 pm19 an19 cd19 ct19), sl19⟩)
    (c19 : PySem.W.codeIn K cd19 "is_row" = true)
    (k19 : PySem.W.keepIn K (.ref f19) = true)
    (g30 : PySem.W.nsIn K mainGlobals "many_needed" = some (some (.ref f30)))
    (l30 : K.lookup f30 = some ⟨oc30, od30, .func (PySem.W.fnOf "many_needed" "many_needed" (defArgs (top 30)) (defBody (top 30)) (defScope (top 30)) .none kV30 dc30 pm30 an30 cd30 ct30), sl30⟩)
    (c30 : PySem.W.codeIn K cd30 "many_needed" = true)
    (k30 : PySem.W.keepIn K (.ref f30) = true)
    (g31 : PySem.W.nsIn K mainGlobals "as_poly" = some (some (.ref f31)))
    (l31 : K.lookup f31 = some ⟨oc31, od31, .func (PySem.W.fnOf "as_poly" "as_poly" (defArgs (top 31)) (defBody (top 31)) (defScope (top 31)) .none kV31 dc31 pm31 an31 cd31 ct31), sl31⟩)
    (c31 : PySem.W.codeIn K cd31 "as_poly" = true)
    (k31 : PySem.W.keepIn K (.ref f31) = true)
    (g32 : PySem.W.nsIn K mainGlobals "number_for" = some (some (.ref f32)))
    (l32 : K.lookup f32 = some ⟨oc32, od32, .func (PySem.W.fnOf "number_for" "number_for" (defArgs (top 32)) (defBody (top 32)) (defScope (top 32)) .none kV32 dc32 pm32 an32 cd32 ct32), sl32⟩)
    (c32 : PySem.W.codeIn K cd32 "number_for" = true)
    (k32 : PySem.W.keepIn K (.ref f32) = true)
    (g33 : PySem.W.nsIn K mainGlobals "added" = some (some (.ref f33)))
    (l33 : K.lookup f33 = some ⟨oc33, od33, .func (PySem.W.fnOf "added" "added" (defArgs (top 33)) (defBody (top 33)) (defScope (top 33)) .none kV33 dc33 pm33 an33 cd33 ct33), sl33⟩)
    (c33 : PySem.W.codeIn K cd33 "added" = true)
    (k33 : PySem.W.keepIn K (.ref f33) = true)
    (g24 : PySem.W.nsIn K mainGlobals "over_one_bottom" = some (some (.ref f24)))
    (l24 : K.lookup f24 = some ⟨oc24, od24, .func (PySem.W.fnOf "over_one_bottom" "over_one_bottom" (defArgs (top 24)) (defBody (top 24)) (defScope (top 24)) .none kV24 dc24 pm24 an24 cd24 ct24), sl24⟩)
    (c24 : PySem.W.codeIn K cd24 "over_one_bottom" = true)
    (k24 : PySem.W.keepIn K (.ref f24) = true)
    (g34 : PySem.W.nsIn K mainGlobals "multiplied" = some (some (.ref f34)))
    (l34 : K.lookup f34 = some ⟨oc34, od34, .func (PySem.W.fnOf "multiplied" "multiplied" (defArgs (top 34)) (defBody (top 34)) (defScope (top 34)) .none kV34 dc34 pm34 an34 cd34 ct34), sl34⟩)
    (c34 : PySem.W.codeIn K cd34 "multiplied" = true)
    (k34 : PySem.W.keepIn K (.ref f34) = true)
    (g63 : PySem.W.nsIn K mainGlobals "_law_pen" = some (some (.ref f63)))
    (l63 : K.lookup f63 = some ⟨oc63, od63, .func (PySem.W.fnOf "_law_pen" "_law_pen" (defArgs (top 63)) (defBody (top 63)) (defScope (top 63)) .none kV63 dc63 pm63 an63 cd63 ct63), sl63⟩)
    (c63 : PySem.W.codeIn K cd63 "_law_pen" = true)
    (k63 : PySem.W.keepIn K (.ref f63) = true)
    (g64 : PySem.W.nsIn K mainGlobals "_law_draw" = some (some (.ref f64)))
    (l64 : K.lookup f64 = some ⟨oc64, od64, .func (PySem.W.fnOf "_law_draw" "_law_draw" (defArgs (top 64)) (defBody (top 64)) (defScope (top 64)) .none kV64 dc64 pm64 an64 cd64 ct64), sl64⟩)
    (c64 : PySem.W.codeIn K cd64 "_law_draw" = true)
    (k64 : PySem.W.keepIn K (.ref f64) = true)
    (g65 : PySem.W.nsIn K mainGlobals "_law_pick" = some (some (.ref f65)))
    (l65 : K.lookup f65 = some ⟨oc65, od65, .func (PySem.W.fnOf "_law_pick" "_law_pick" (defArgs (top 65)) (defBody (top 65)) (defScope (top 65)) .none kV65 dc65 pm65 an65 cd65 ct65), sl65⟩)
    (c65 : PySem.W.codeIn K cd65 "_law_pick" = true)
    (k65 : PySem.W.keepIn K (.ref f65) = true)
    (g20 : PySem.W.nsIn K mainGlobals "ascends" = some (some (.ref f20)))
    (l20 : K.lookup f20 = some ⟨oc20, od20, .func (PySem.W.fnOf "ascends" "ascends" (defArgs (top 20)) (defBody (top 20)) (defScope (top 20)) .none kV20 dc20 pm20 an20 cd20 ct20), sl20⟩)
    (c20 : PySem.W.codeIn K cd20 "ascends" = true)
    (k20 : PySem.W.keepIn K (.ref f20) = true)
    (g21 : PySem.W.nsIn K mainGlobals "told_row" = some (some (.ref f21)))
    (l21 : K.lookup f21 = some ⟨oc21, od21, .func (PySem.W.fnOf "told_row" "told_row" (defArgs (top 21)) (defBody (top 21)) (defScope (top 21)) .none kV21 dc21 pm21 an21 cd21 ct21), sl21⟩)
    (c21 : PySem.W.codeIn K cd21 "told_row" = true)
    (k21 : PySem.W.keepIn K (.ref f21) = true)
    (g37 : PySem.W.nsIn K mainGlobals "is_row_of_polys" = some (some (.ref f37)))
    (l37 : K.lookup f37 = some ⟨oc37, od37, .func (PySem.W.fnOf "is_row_of_polys" "is_row_of_polys" (defArgs (top 37)) (defBody (top 37)) (defScope (top 37)) .none kV37 dc37 pm37 an37 cd37 ct37), sl37⟩)
    (c37 : PySem.W.codeIn K cd37 "is_row_of_polys" = true)
    (k37 : PySem.W.keepIn K (.ref f37) = true)
    (g38 : PySem.W.nsIn K mainGlobals "place_in" = some (some (.ref f38)))
    (l38 : K.lookup f38 = some ⟨oc38, od38, .func (PySem.W.fnOf "place_in" "place_in" (defArgs (top 38)) (defBody (top 38)) (defScope (top 38)) .none kV38 dc38 pm38 an38 cd38 ct38), sl38⟩)
    (c38 : PySem.W.codeIn K cd38 "place_in" = true)
    (k38 : PySem.W.keepIn K (.ref f38) = true)
    (g39 : PySem.W.nsIn K mainGlobals "piece_from" = some (some (.ref f39)))
    (l39 : K.lookup f39 = some ⟨oc39, od39, .func (PySem.W.fnOf "piece_from" "piece_from" (defArgs (top 39)) (defBody (top 39)) (defScope (top 39)) .none kV39 dc39 pm39 an39 cd39 ct39), sl39⟩)
    (c39 : PySem.W.codeIn K cd39 "piece_from" = true)
    (k39 : PySem.W.keepIn K (.ref f39) = true)
    (g40 : PySem.W.nsIn K mainGlobals "knot_limits" = some (some (.ref f40)))
    (l40 : K.lookup f40 = some ⟨oc40, od40, .func (PySem.W.fnOf "knot_limits" "knot_limits" (defArgs (top 40)) (defBody (top 40)) (defScope (top 40)) .none kV40 dc40 pm40 an40 cd40 ct40), sl40⟩)
    (c40 : PySem.W.codeIn K cd40 "knot_limits" = true)
    (k40 : PySem.W.keepIn K (.ref f40) = true)
    (g41 : PySem.W.nsIn K mainGlobals "numbers_and_limits" = some (some (.ref f41)))
    (l41 : K.lookup f41 = some ⟨oc41, od41, .func (PySem.W.fnOf "numbers_and_limits" "numbers_and_limits" (defArgs (top 41)) (defBody (top 41)) (defScope (top 41)) .none kV41 dc41 pm41 an41 cd41 ct41), sl41⟩)
    (c41 : PySem.W.codeIn K cd41 "numbers_and_limits" = true)
    (k41 : PySem.W.keepIn K (.ref f41) = true)
    (g17 : PySem.W.nsIn K mainGlobals "gap_of" = some (some (.ref f17)))
    (l17 : K.lookup f17 = some ⟨oc17, od17, .func (PySem.W.fnOf "gap_of" "gap_of" (defArgs (top 17)) (defBody (top 17)) (defScope (top 17)) .none kV17 dc17 pm17 an17 cd17 ct17), sl17⟩)
    (c17 : PySem.W.codeIn K cd17 "gap_of" = true)
    (k17 : PySem.W.keepIn K (.ref f17) = true)
    (g22 : PySem.W.nsIn K mainGlobals "sum_of" = some (some (.ref f22)))
    (l22 : K.lookup f22 = some ⟨oc22, od22, .func (PySem.W.fnOf "sum_of" "sum_of" (defArgs (top 22)) (defBody (top 22)) (defScope (top 22)) .none kV22 dc22 pm22 an22 cd22 ct22), sl22⟩)
    (c22 : PySem.W.codeIn K cd22 "sum_of" = true)
    (k22 : PySem.W.keepIn K (.ref f22) = true)
    (g23 : PySem.W.nsIn K mainGlobals "are_whole_parts" = some (some (.ref f23)))
    (l23 : K.lookup f23 = some ⟨oc23, od23, .func (PySem.W.fnOf "are_whole_parts" "are_whole_parts" (defArgs (top 23)) (defBody (top 23)) (defScope (top 23)) .none kV23 dc23 pm23 an23 cd23 ct23), sl23⟩)
    (c23 : PySem.W.codeIn K cd23 "are_whole_parts" = true)
    (k23 : PySem.W.keepIn K (.ref f23) = true)
    (g26 : PySem.W.nsIn K mainGlobals "joint_sums" = some (some (.ref f26)))
    (l26 : K.lookup f26 = some ⟨oc26, od26, .func (PySem.W.fnOf "joint_sums" "joint_sums" (defArgs (top 26)) (defBody (top 26)) (defScope (top 26)) .none kV26 dc26 pm26 an26 cd26 ct26), sl26⟩)
    (c26 : PySem.W.codeIn K cd26 "joint_sums" = true)
    (k26 : PySem.W.keepIn K (.ref f26) = true)
    (g27 : PySem.W.nsIn K mainGlobals "joint_sum" = some (some (.ref f27)))
    (l27 : K.lookup f27 = some ⟨oc27, od27, .func (PySem.W.fnOf "joint_sum" "joint_sum" (defArgs (top 27)) (defBody (top 27)) (defScope (top 27)) .none kV27 dc27 pm27 an27 cd27 ct27), sl27⟩)
    (c27 : PySem.W.codeIn K cd27 "joint_sum" = true)
    (k27 : PySem.W.keepIn K (.ref f27) = true)
    (g45 : PySem.W.nsIn K mainGlobals "are_parts" = some (some (.ref f45)))
    (l45 : K.lookup f45 = some ⟨oc45, od45, .func (PySem.W.fnOf "are_parts" "are_parts" (defArgs (top 45)) (defBody (top 45)) (defScope (top 45)) .none kV45 dc45 pm45 an45 cd45 ct45), sl45⟩)
    (c45 : PySem.W.codeIn K cd45 "are_parts" = true)
    (k45 : PySem.W.keepIn K (.ref f45) = true)
    (g46 : PySem.W.nsIn K mainGlobals "is_bounded_kind" = some (some (.ref f46)))
    (l46 : K.lookup f46 = some ⟨oc46, od46, .func (PySem.W.fnOf "is_bounded_kind" "is_bounded_kind" (defArgs (top 46)) (defBody (top 46)) (defScope (top 46)) .none kV46 dc46 pm46 an46 cd46 ct46), sl46⟩)
    (c46 : PySem.W.codeIn K cd46 "is_bounded_kind" = true)
    (k46 : PySem.W.keepIn K (.ref f46) = true)
    (g47 : PySem.W.nsIn K mainGlobals "is_within" = some (some (.ref f47)))
    (l47 : K.lookup f47 = some ⟨oc47, od47, .func (PySem.W.fnOf "is_within" "is_within" (defArgs (top 47)) (defBody (top 47)) (defScope (top 47)) .none kV47 dc47 pm47 an47 cd47 ct47), sl47⟩)
    (c47 : PySem.W.codeIn K cd47 "is_within" = true)
    (k47 : PySem.W.keepIn K (.ref f47) = true)
    (g48 : PySem.W.nsIn K mainGlobals "means_of" = some (some (.ref f48)))
    (l48 : K.lookup f48 = some ⟨oc48, od48, .func (PySem.W.fnOf "means_of" "means_of" (defArgs (top 48)) (defBody (top 48)) (defScope (top 48)) .none kV48 dc48 pm48 an48 cd48 ct48), sl48⟩)
    (c48 : PySem.W.codeIn K cd48 "means_of" = true)
    (k48 : PySem.W.keepIn K (.ref f48) = true)
    (g56 : PySem.W.nsIn K mainGlobals "check_one_stretch" = some (some (.ref f56)))
    (l56 : K.lookup f56 = some ⟨oc56, od56, .func (PySem.W.fnOf "check_one_stretch" "check_one_stretch" (defArgs (top 56)) (defBody (top 56)) (defScope (top 56)) .none kV56 dc56 pm56 an56 cd56 ct56), sl56⟩)
    (c56 : PySem.W.codeIn K cd56 "check_one_stretch" = true)
    (k56 : PySem.W.keepIn K (.ref f56) = true)
    (g57 : PySem.W.nsIn K mainGlobals "functions_of" = some (some (.ref f57)))
    (l57 : K.lookup f57 = some ⟨oc57, od57, .func (PySem.W.fnOf "functions_of" "functions_of" (defArgs (top 57)) (defBody (top 57)) (defScope (top 57)) .none kV57 dc57 pm57 an57 cd57 ct57), sl57⟩)
    (c57 : PySem.W.codeIn K cd57 "functions_of" = true)
    (k57 : PySem.W.keepIn K (.ref f57) = true)
    (g58 : PySem.W.nsIn K mainGlobals "gap_missed" = some (some (.ref f58)))
    (l58 : K.lookup f58 = some ⟨oc58, od58, .func (PySem.W.fnOf "gap_missed" "gap_missed" (defArgs (top 58)) (defBody (top 58)) (defScope (top 58)) .none kV58 dc58 pm58 an58 cd58 ct58), sl58⟩)
    (c58 : PySem.W.codeIn K cd58 "gap_missed" = true)
    (k58 : PySem.W.keepIn K (.ref f58) = true)
    (g59 : PySem.W.nsIn K mainGlobals "check_places" = some (some (.ref f59)))
    (l59 : K.lookup f59 = some ⟨oc59, od59, .func (PySem.W.fnOf "check_places" "check_places" (defArgs (top 59)) (defBody (top 59)) (defScope (top 59)) .none kV59 dc59 pm59 an59 cd59 ct59), sl59⟩)
    (c59 : PySem.W.codeIn K cd59 "check_places" = true)
    (k59 : PySem.W.keepIn K (.ref f59) = true)
    (g60 : PySem.W.nsIn K mainGlobals "missed" = some (some (.ref f60)))
    (l60 : K.lookup f60 = some ⟨oc60, od60, .func (PySem.W.fnOf "missed" "missed" (defArgs (top 60)) (defBody (top 60)) (defScope (top 60)) .none kV60 dc60 pm60 an60 cd60 ct60), sl60⟩)
    (c60 : PySem.W.codeIn K cd60 "missed" = true)
    (k60 : PySem.W.keepIn K (.ref f60) = true)
    (g25 : PySem.W.nsIn K mainGlobals "in_order" = some (some (.ref f25)))
    (l25 : K.lookup f25 = some ⟨oc25, od25, .func (PySem.W.fnOf "in_order" "in_order" (defArgs (top 25)) (defBody (top 25)) (defScope (top 25)) .none kV25 dc25 pm25 an25 cd25 ct25), sl25⟩)
    (c25 : PySem.W.codeIn K cd25 "in_order" = true)
    (k25 : PySem.W.keepIn K (.ref f25) = true)
    (g49 : PySem.W.nsIn K mainGlobals "mean" = some (some (.ref f49)))
    (l49 : K.lookup f49 = some ⟨oc49, od49, .func (PySem.W.fnOf "mean" "mean" (defArgs (top 49)) (defBody (top 49)) (defScope (top 49)) .none kV49 dc49 pm49 an49 cd49 ct49), sl49⟩)
    (c49 : PySem.W.codeIn K cd49 "mean" = true)
    (k49 : PySem.W.keepIn K (.ref f49) = true)
    (g50 : PySem.W.nsIn K mainGlobals "check_ends" = some (some (.ref f50)))
    (l50 : K.lookup f50 = some ⟨oc50, od50, .func (PySem.W.fnOf "check_ends" "check_ends" (defArgs (top 50)) (defBody (top 50)) (defScope (top 50)) .none kV50 dc50 pm50 an50 cd50 ct50), sl50⟩)
    (c50 : PySem.W.codeIn K cd50 "check_ends" = true)
    (k50 : PySem.W.keepIn K (.ref f50) = true)
    (g51 : PySem.W.nsIn K mainGlobals "chance" = some (some (.ref f51)))
    (l51 : K.lookup f51 = some ⟨oc51, od51, .func (PySem.W.fnOf "chance" "chance" (defArgs (top 51)) (defBody (top 51)) (defScope (top 51)) .none kV51 dc51 pm51 an51 cd51 ct51), sl51⟩)
    (c51 : PySem.W.codeIn K cd51 "chance" = true)
    (k51 : PySem.W.keepIn K (.ref f51) = true)
    (g52 : PySem.W.nsIn K mainGlobals "chance_between" = some (some (.ref f52)))
    (l52 : K.lookup f52 = some ⟨oc52, od52, .func (PySem.W.fnOf "chance_between" "chance_between" (defArgs (top 52)) (defBody (top 52)) (defScope (top 52)) .none kV52 dc52 pm52 an52 cd52 ct52), sl52⟩)
    (c52 : PySem.W.codeIn K cd52 "chance_between" = true)
    (k52 : PySem.W.keepIn K (.ref f52) = true)
    (g53 : PySem.W.nsIn K mainGlobals "gathered" = some (some (.ref f53)))
    (l53 : K.lookup f53 = some ⟨oc53, od53, .func (PySem.W.fnOf "gathered" "gathered" (defArgs (top 53)) (defBody (top 53)) (defScope (top 53)) .none kV53 dc53 pm53 an53 cd53 ct53), sl53⟩)
    (c53 : PySem.W.codeIn K cd53 "gathered" = true)
    (k53 : PySem.W.keepIn K (.ref f53) = true)
    (g54 : PySem.W.nsIn K mainGlobals "mixed" = some (some (.ref f54)))
    (l54 : K.lookup f54 = some ⟨oc54, od54, .func (PySem.W.fnOf "mixed" "mixed" (defArgs (top 54)) (defBody (top 54)) (defScope (top 54)) .none kV54 dc54 pm54 an54 cd54 ct54), sl54⟩)
    (c54 : PySem.W.codeIn K cd54 "mixed" = true)
    (k54 : PySem.W.keepIn K (.ref f54) = true)
    (g55 : PySem.W.nsIn K mainGlobals "moved" = some (some (.ref f55)))
    (l55 : K.lookup f55 = some ⟨oc55, od55, .func (PySem.W.fnOf "moved" "moved" (defArgs (top 55)) (defBody (top 55)) (defScope (top 55)) .none kV55 dc55 pm55 an55 cd55 ct55), sl55⟩)
    (c55 : PySem.W.codeIn K cd55 "moved" = true)
    (k55 : PySem.W.keepIn K (.ref f55) = true)
    (g66 : PySem.W.nsIn K mainGlobals "_law_fault" = some (some (.ref f66)))
    (l66 : K.lookup f66 = some ⟨oc66, od66, .func (PySem.W.fnOf "_law_fault" "_law_fault" (defArgs (top 66)) (defBody (top 66)) (defScope (top 66)) .none kV66 dc66 pm66 an66 cd66 ct66), sl66⟩)
    (c66 : PySem.W.codeIn K cd66 "_law_fault" = true)
    (k66 : PySem.W.keepIn K (.ref f66) = true)
    (g67 : PySem.W.nsIn K mainGlobals "_law_number_fault" = some (some (.ref f67)))
    (l67 : K.lookup f67 = some ⟨oc67, od67, .func (PySem.W.fnOf "_law_number_fault" "_law_number_fault" (defArgs (top 67)) (defBody (top 67)) (defScope (top 67)) .none kV67 dc67 pm67 an67 cd67 ct67), sl67⟩)
    (c67 : PySem.W.codeIn K cd67 "_law_number_fault" = true)
    (k67 : PySem.W.keepIn K (.ref f67) = true)
    (g68 : PySem.W.nsIn K mainGlobals "_law_all_right" = some (some (.ref f68)))
    (l68 : K.lookup f68 = some ⟨oc68, od68, .func (PySem.W.fnOf "_law_all_right" "_law_all_right" (defArgs (top 68)) (defBody (top 68)) (defScope (top 68)) .none kV68 dc68 pm68 an68 cd68 ct68), sl68⟩)
    (c68 : PySem.W.codeIn K cd68 "_law_all_right" = true)
    (k68 : PySem.W.keepIn K (.ref f68) = true)
    (g69 : PySem.W.nsIn K mainGlobals "_law_shares_refused" = some (some (.ref f69)))
    (l69 : K.lookup f69 = some ⟨oc69, od69, .func (PySem.W.fnOf "_law_shares_refused" "_law_shares_refused" (defArgs (top 69)) (defBody (top 69)) (defScope (top 69)) .none kV69 dc69 pm69 an69 (.ref ca69) ct69), sl69⟩)
    (c69 : PySem.W.codeIn K (.ref ca69) "_law_shares_refused" = true)
    (k69 : PySem.W.keepIn K (.ref f69) = true)
    (g70 : PySem.W.nsIn K mainGlobals "_law_told_refused" = some (some (.ref f70)))
    (l70 : K.lookup f70 = some ⟨oc70, od70, .func (PySem.W.fnOf "_law_told_refused" "_law_told_refused" (defArgs (top 70)) (defBody (top 70)) (defScope (top 70)) .none kV70 dc70 pm70 an70 (.ref ca70) ct70), sl70⟩)
    (c70 : PySem.W.codeIn K (.ref ca70) "_law_told_refused" = true)
    (k70 : PySem.W.keepIn K (.ref f70) = true)
    (g71 : PySem.W.nsIn K mainGlobals "law" = some (some (.ref f71)))
    (l71 : K.lookup f71 = some ⟨oc71, od71, .func (PySem.W.fnOf "law" "law" (defArgs (top 71)) (defBody (top 71)) (defScope (top 71)) .none kV71 dc71 pm71 an71 (.ref ca71) ct71), sl71⟩)
    (c71 : PySem.W.codeIn K (.ref ca71) "law" = true)
    (k71 : PySem.W.keepIn K (.ref f71) = true)
    (pG : PySem.W.nsIn K mainGlobals "Poly" = some (some (.ref cP)))
    (p1 : PySem.W.plainGet K cP Str.empty = true)
    (p2 : PySem.W.hasDictIn K cP = true)
    (p3 : PySem.W.plainOver K cP = true)
    (p4 : PySem.W.findIn K (.ref cP) "__setattr__" = some (some (.builtin "object.__setattr__")))
    (p5 : PySem.W.findIn K (.ref cP) "numbers" = some none)
    (p6 : PySem.W.findIn K (.ref cP) "__class__" = some (some (.builtin "object.__class__")))
    (p7 : PySem.W.mroIn K cP (.type "object") = some true)
    (p8 : PySem.W.makesIn K cP = true)
    (p9 : PySem.W.keepIn K (.ref cP) = true)
    (pa : PySem.W.selfFirst K cP = true)
    (pn_int : PySem.W.kitOne K (.type "int") (.ref cP) = some false)
    (pn_bool : PySem.W.kitOne K (.type "bool") (.ref cP) = some false)
    (pn_str : PySem.W.kitOne K (.type "str") (.ref cP) = some false)
    (pn_NoneType : PySem.W.kitOne K (.type "NoneType") (.ref cP) = some false)
    (pn_tuple : PySem.W.kitOne K (.type "tuple") (.ref cP) = some false)
    (pn_list : PySem.W.kitOne K (.type "list") (.ref cP) = some false)
    (pn_dict : PySem.W.kitOne K (.type "dict") (.ref cP) = some false)
    (pi1 : PySem.W.subIn K (.type "int") (.ref cP) = some false)
    (pi2 : PySem.W.subIn K (.ref cP) (.type "int") = some false)
    (pt1 : PySem.W.subIn K (.type "tuple") (.ref cP) = some false)
    (pt2 : PySem.W.subIn K (.ref cP) (.type "tuple") = some false)
    (mem0 : PySem.W.findIn K (.ref cP) "__init__" = some (some (.ref fm0)))
    (ism0 : PySem.W.isFn K (.ref fm0) = true)
    (lm0 : K.lookup fm0 = some ⟨ocm0, odm0, .func (PySem.W.fnOf "__init__" "Poly.__init__" (defArgs (sP 0)) (defBody (sP 0)) (defScope (sP 0)) .none kVm0 dcm0 pmm0 anm0 cdm0 ctm0), slm0⟩)
    (cm0 : PySem.W.codeIn K cdm0 "Poly.__init__" = true)
    (km0 : PySem.W.keepIn K (.ref fm0) = true)
    (mem1 : PySem.W.findIn K (.ref cP) "__eq__" = some (some (.ref fm1)))
    (ism1 : PySem.W.isFn K (.ref fm1) = true)
    (lm1 : K.lookup fm1 = some ⟨ocm1, odm1, .func (PySem.W.fnOf "__eq__" "Poly.__eq__" (defArgs (sP 1)) (defBody (sP 1)) (defScope (sP 1)) .none kVm1 dcm1 pmm1 anm1 cdm1 ctm1), slm1⟩)
    (cm1 : PySem.W.codeIn K cdm1 "Poly.__eq__" = true)
    (km1 : PySem.W.keepIn K (.ref fm1) = true)
    (mem2 : PySem.W.findIn K (.ref cP) "__add__" = some (some (.ref fm2)))
    (ism2 : PySem.W.isFn K (.ref fm2) = true)
    (lm2 : K.lookup fm2 = some ⟨ocm2, odm2, .func (PySem.W.fnOf "__add__" "Poly.__add__" (defArgs (sP 2)) (defBody (sP 2)) (defScope (sP 2)) .none kVm2 dcm2 pmm2 anm2 cdm2 ctm2), slm2⟩)
    (cm2 : PySem.W.codeIn K cdm2 "Poly.__add__" = true)
    (km2 : PySem.W.keepIn K (.ref fm2) = true)
    (mem3 : PySem.W.findIn K (.ref cP) "__radd__" = some (some (.ref fm3)))
    (ism3 : PySem.W.isFn K (.ref fm3) = true)
    (lm3 : K.lookup fm3 = some ⟨ocm3, odm3, .func (PySem.W.fnOf "__radd__" "Poly.__radd__" (defArgs (sP 3)) (defBody (sP 3)) (defScope (sP 3)) .none kVm3 dcm3 pmm3 anm3 cdm3 ctm3), slm3⟩)
    (cm3 : PySem.W.codeIn K cdm3 "Poly.__radd__" = true)
    (km3 : PySem.W.keepIn K (.ref fm3) = true)
    (mem4 : PySem.W.findIn K (.ref cP) "__sub__" = some (some (.ref fm4)))
    (ism4 : PySem.W.isFn K (.ref fm4) = true)
    (lm4 : K.lookup fm4 = some ⟨ocm4, odm4, .func (PySem.W.fnOf "__sub__" "Poly.__sub__" (defArgs (sP 4)) (defBody (sP 4)) (defScope (sP 4)) .none kVm4 dcm4 pmm4 anm4 cdm4 ctm4), slm4⟩)
    (cm4 : PySem.W.codeIn K cdm4 "Poly.__sub__" = true)
    (km4 : PySem.W.keepIn K (.ref fm4) = true)
    (mem5 : PySem.W.findIn K (.ref cP) "__rsub__" = some (some (.ref fm5)))
    (ism5 : PySem.W.isFn K (.ref fm5) = true)
    (lm5 : K.lookup fm5 = some ⟨ocm5, odm5, .func (PySem.W.fnOf "__rsub__" "Poly.__rsub__" (defArgs (sP 5)) (defBody (sP 5)) (defScope (sP 5)) .none kVm5 dcm5 pmm5 anm5 cdm5 ctm5), slm5⟩)
    (cm5 : PySem.W.codeIn K cdm5 "Poly.__rsub__" = true)
    (km5 : PySem.W.keepIn K (.ref fm5) = true)
    (mem6 : PySem.W.findIn K (.ref cP) "__mul__" = some (some (.ref fm6)))
    (ism6 : PySem.W.isFn K (.ref fm6) = true)
    (lm6 : K.lookup fm6 = some ⟨ocm6, odm6, .func (PySem.W.fnOf "__mul__" "Poly.__mul__" (defArgs (sP 6)) (defBody (sP 6)) (defScope (sP 6)) .none kVm6 dcm6 pmm6 anm6 cdm6 ctm6), slm6⟩)
    (cm6 : PySem.W.codeIn K cdm6 "Poly.__mul__" = true)
    (km6 : PySem.W.keepIn K (.ref fm6) = true)
    (mem7 : PySem.W.findIn K (.ref cP) "__rmul__" = some (some (.ref fm7)))
    (ism7 : PySem.W.isFn K (.ref fm7) = true)
    (lm7 : K.lookup fm7 = some ⟨ocm7, odm7, .func (PySem.W.fnOf "__rmul__" "Poly.__rmul__" (defArgs (sP 7)) (defBody (sP 7)) (defScope (sP 7)) .none kVm7 dcm7 pmm7 anm7 cdm7 ctm7), slm7⟩)
    (cm7 : PySem.W.codeIn K cdm7 "Poly.__rmul__" = true)
    (km7 : PySem.W.keepIn K (.ref fm7) = true)
    (mem8 : PySem.W.findIn K (.ref cP) "__neg__" = some (some (.ref fm8)))
    (ism8 : PySem.W.isFn K (.ref fm8) = true)
    (lm8 : K.lookup fm8 = some ⟨ocm8, odm8, .func (PySem.W.fnOf "__neg__" "Poly.__neg__" (defArgs (sP 8)) (defBody (sP 8)) (defScope (sP 8)) .none kVm8 dcm8 pmm8 anm8 cdm8 ctm8), slm8⟩)
    (cm8 : PySem.W.codeIn K cdm8 "Poly.__neg__" = true)
    (km8 : PySem.W.keepIn K (.ref fm8) = true)
    (mem9 : PySem.W.findIn K (.ref cP) "degree" = some (some (.ref fm9)))
    (ism9 : PySem.W.isFn K (.ref fm9) = true)
    (lm9 : K.lookup fm9 = some ⟨ocm9, odm9, .func (PySem.W.fnOf "degree" "Poly.degree" (defArgs (sP 9)) (defBody (sP 9)) (defScope (sP 9)) .none kVm9 dcm9 pmm9 anm9 cdm9 ctm9), slm9⟩)
    (cm9 : PySem.W.codeIn K cdm9 "Poly.degree" = true)
    (km9 : PySem.W.keepIn K (.ref fm9) = true)
    (mem10 : PySem.W.findIn K (.ref cP) "at" = some (some (.ref fm10)))
    (ism10 : PySem.W.isFn K (.ref fm10) = true)
    (lm10 : K.lookup fm10 = some ⟨ocm10, odm10, .func (PySem.W.fnOf "at" "Poly.at" (defArgs (sP 10)) (defBody (sP 10)) (defScope (sP 10)) .none kVm10 dcm10 pmm10 anm10 cdm10 ctm10), slm10⟩)
    (cm10 : PySem.W.codeIn K cdm10 "Poly.at" = true)
    (km10 : PySem.W.keepIn K (.ref fm10) = true)
    (bG : PySem.W.nsIn K mainGlobals "Broken" = some (some (.ref cB)))
    (b1 : PySem.W.plainGet K cB Str.empty = true)
    (b2 : PySem.W.hasDictIn K cB = true)
    (b3 : PySem.W.plainOver K cB = true)
    (b4 : PySem.W.findIn K (.ref cB) "__setattr__" = some (some (.builtin "object.__setattr__")))
    (b5 : PySem.W.findIn K (.ref cB) "knots" = some none)
    (b6 : PySem.W.findIn K (.ref cB) "polys" = some none)
    (b7 : PySem.W.findIn K (.ref cB) "at" = some none)
    (yb8 : PySem.W.findIn K (.ref cB) "__class__" = some (some (.builtin "object.__class__")))
    (yb9 : PySem.W.mroIn K cB (.type "object") = some true)
    (ba : PySem.W.makesIn K cB = true)
    (bb : PySem.W.keepIn K (.ref cB) = true)
    (bn_int : PySem.W.kitOne K (.type "int") (.ref cB) = some false)
    (bn_bool : PySem.W.kitOne K (.type "bool") (.ref cB) = some false)
    (bn_str : PySem.W.kitOne K (.type "str") (.ref cB) = some false)
    (bn_NoneType : PySem.W.kitOne K (.type "NoneType") (.ref cB) = some false)
    (bn_tuple : PySem.W.kitOne K (.type "tuple") (.ref cB) = some false)
    (bn_list : PySem.W.kitOne K (.type "list") (.ref cB) = some false)
    (bn_dict : PySem.W.kitOne K (.type "dict") (.ref cB) = some false)
    (bi1 : PySem.W.subIn K (.type "int") (.ref cB) = some false)
    (bt1 : PySem.W.subIn K (.type "tuple") (.ref cB) = some false)
    (meq0 : PySem.W.findIn K (.ref cB) "__init__" = some (some (.ref fq0)))
    (isq0 : PySem.W.isFn K (.ref fq0) = true)
    (lq0 : K.lookup fq0 = some ⟨ocq0, odq0, .func (PySem.W.fnOf "__init__" "Broken.__init__" (defArgs (sB 0)) (defBody (sB 0)) (defScope (sB 0)) .none kVq0 dcq0 pmq0 anq0 cdq0 ctq0), slq0⟩)
    (cq0 : PySem.W.codeIn K cdq0 "Broken.__init__" = true)
    (kq0 : PySem.W.keepIn K (.ref fq0) = true)
    (meq1 : PySem.W.findIn K (.ref cB) "__eq__" = some (some (.ref fq1)))
    (isq1 : PySem.W.isFn K (.ref fq1) = true)
    (lq1 : K.lookup fq1 = some ⟨ocq1, odq1, .func (PySem.W.fnOf "__eq__" "Broken.__eq__" (defArgs (sB 1)) (defBody (sB 1)) (defScope (sB 1)) .none kVq1 dcq1 pmq1 anq1 cdq1 ctq1), slq1⟩)
    (cq1 : PySem.W.codeIn K cdq1 "Broken.__eq__" = true)
    (kq1 : PySem.W.keepIn K (.ref fq1) = true)
    (meq2 : PySem.W.findIn K (.ref cB) "value" = some (some (.ref fq2)))
    (isq2 : PySem.W.isFn K (.ref fq2) = true)
    (lq2 : K.lookup fq2 = some ⟨ocq2, odq2, .func (PySem.W.fnOf "value" "Broken.value" (defArgs (sB 2)) (defBody (sB 2)) (defScope (sB 2)) .none kVq2 dcq2 pmq2 anq2 cdq2 ctq2), slq2⟩)
    (cq2 : PySem.W.codeIn K cdq2 "Broken.value" = true)
    (kq2 : PySem.W.keepIn K (.ref fq2) = true)
    (meq3 : PySem.W.findIn K (.ref cB) "limits" = some (some (.ref fq3)))
    (isq3 : PySem.W.isFn K (.ref fq3) = true)
    (lq3 : K.lookup fq3 = some ⟨ocq3, odq3, .func (PySem.W.fnOf "limits" "Broken.limits" (defArgs (sB 3)) (defBody (sB 3)) (defScope (sB 3)) .none kVq3 dcq3 pmq3 anq3 cdq3 ctq3), slq3⟩)
    (cq3 : PySem.W.codeIn K cdq3 "Broken.limits" = true)
    (kq3 : PySem.W.keepIn K (.ref fq3) = true)
    (meq5 : PySem.W.findIn K (.ref cB) "is_upper" = some (some (.ref fq5)))
    (isq5 : PySem.W.isFn K (.ref fq5) = true)
    (lq5 : K.lookup fq5 = some ⟨ocq5, odq5, .func (PySem.W.fnOf "is_upper" "Broken.is_upper" (defArgs (sB 5)) (defBody (sB 5)) (defScope (sB 5)) .none kVq5 dcq5 pmq5 anq5 cdq5 ctq5), slq5⟩)
    (cq5 : PySem.W.codeIn K cdq5 "Broken.is_upper" = true)
    (kq5 : PySem.W.keepIn K (.ref fq5) = true)
    (meq6 : PySem.W.findIn K (.ref cB) "is_lower" = some (some (.ref fq6)))
    (isq6 : PySem.W.isFn K (.ref fq6) = true)
    (lq6 : K.lookup fq6 = some ⟨ocq6, odq6, .func (PySem.W.fnOf "is_lower" "Broken.is_lower" (defArgs (sB 6)) (defBody (sB 6)) (defScope (sB 6)) .none kVq6 dcq6 pmq6 anq6 cdq6 ctq6), slq6⟩)
    (cq6 : PySem.W.codeIn K cdq6 "Broken.is_lower" = true)
    (kq6 : PySem.W.keepIn K (.ref fq6) = true)
    (osG : PySem.W.nsIn K mainGlobals "Share" = some (some (.ref cS)))
    (os1 : PySem.W.plainGet K cS Str.empty = true)
    (os2 : PySem.W.hasDictIn K cS = true)
    (os3 : PySem.W.plainOver K cS = true)
    (os4 : PySem.W.findIn K (.ref cS) "__setattr__" = some (some (.builtin "object.__setattr__")))
    (osf0 : PySem.W.findIn K (.ref cS) "places" = some none)
    (osf1 : PySem.W.findIn K (.ref cS) "parts" = some none)
    (osa : PySem.W.makesIn K cS = true)
    (osb : PySem.W.keepIn K (.ref cS) = true)
    (mesq0 : PySem.W.findIn K (.ref cS) "__init__" = some (some (.ref fsq0)))
    (issq0 : PySem.W.isFn K (.ref fsq0) = true)
    (lsq0 : K.lookup fsq0 = some ⟨ocsq0, odsq0, .func (PySem.W.fnOf "__init__" "Share.__init__" (defArgs (sS 0)) (defBody (sS 0)) (defScope (sS 0)) .none kVsq0 dcsq0 pmsq0 ansq0 cdsq0 ctsq0), slsq0⟩)
    (csq0 : PySem.W.codeIn K cdsq0 "Share.__init__" = true)
    (ksq0 : PySem.W.keepIn K (.ref fsq0) = true)
    (otG : PySem.W.nsIn K mainGlobals "Told" = some (some (.ref cT)))
    (ot1 : PySem.W.plainGet K cT Str.empty = true)
    (ot2 : PySem.W.hasDictIn K cT = true)
    (ot3 : PySem.W.plainOver K cT = true)
    (ot4 : PySem.W.findIn K (.ref cT) "__setattr__" = some (some (.builtin "object.__setattr__")))
    (otf0 : PySem.W.findIn K (.ref cT) "function" = some none)
    (otf1 : PySem.W.findIn K (.ref cT) "least" = some none)
    (otf2 : PySem.W.findIn K (.ref cT) "most" = some none)
    (ota : PySem.W.makesIn K cT = true)
    (otb : PySem.W.keepIn K (.ref cT) = true)
    (metq0 : PySem.W.findIn K (.ref cT) "__init__" = some (some (.ref ftq0)))
    (istq0 : PySem.W.isFn K (.ref ftq0) = true)
    (ltq0 : K.lookup ftq0 = some ⟨octq0, odtq0, .func (PySem.W.fnOf "__init__" "Told.__init__" (defArgs (sT 0)) (defBody (sT 0)) (defScope (sT 0)) .none kVtq0 dctq0 pmtq0 antq0 cdtq0 cttq0), sltq0⟩)
    (ctq0 : PySem.W.codeIn K cdtq0 "Told.__init__" = true)
    (ktq0 : PySem.W.keepIn K (.ref ftq0) = true)
    (gFi : PySem.W.nsIn K mainGlobals "fits" = some (some (.ref fFi)))
    (lFi : K.lookup fFi = some ⟨ocFi, odFi, .func (PySem.W.fnOf "fits" "fits" (defArgs (top 61)) (defBody (top 61)) (defScope (top 61)) (.ref aTFi) kVFi dcFi pmFi anFi cdFi ctFi), slFi⟩)
    (cFi : PySem.W.codeIn K cdFi "fits" = true)
    (kFi : PySem.W.keepIn K (.ref fFi) = true)
    (lTFi : K.lookup aTFi = some ⟨ocTFi, odTFi, .seq #[Value.none] nTFi, slTFi⟩)
    (v69 : K.lookup ca69 = some ⟨ov69, oq69, .fields vs69, os69⟩)
    (w69 : (vs69[11]? : Option Value) = some (.ref P69))
    (h69 : PySem.W.codeHdIn K ca69 P69 = true)
    (nt69 : K.lookup P69 = none)
    (ht69 : h.get? P69 = some { cls := .none, data := .fields #[] })
    (v70 : K.lookup ca70 = some ⟨ov70, oq70, .fields vs70, os70⟩)
    (w70 : (vs70[11]? : Option Value) = some (.ref P70))
    (h70 : PySem.W.codeHdIn K ca70 P70 = true)
    (nt70 : K.lookup P70 = none)
    (ht70 : h.get? P70 = some { cls := .none, data := .fields #[] })
    (v71 : K.lookup ca71 = some ⟨ov71, oq71, .fields vs71, os71⟩)
    (w71 : (vs71[11]? : Option Value) = some (.ref P71))
    (h71 : PySem.W.codeHdIn K ca71 P71 = true)
    (nt71 : K.lookup P71 = none)
    (ht71 : h.get? P71 = some { cls := .none, data := .fields #[] })
    (nPa : P69 ≠ P70)
    (nPb : P69 ≠ P71)
    (nPc : P70 ≠ P71)
    (moT : PySem.W.mroIn K cT (.type "object") = some true)
    (eqT : PySem.W.findIn K (.ref cT) "__eq__" = some (some (.builtin "object.__eq__")))
    (nbN : CN ≠ B)
    (nbR : CR ≠ B)
    (neRN : CR ≠ CN)
    (nbU : CU ≠ B)
    (neUN : CU ≠ CN)
    (neUR : CU ≠ CR)
    : ∃ (fd : FuncData) (cs : List (Addr × Addr)) (sp : Sp), (∀ p ∈ cs, h.get? p.2 = some { cls := .none, data := .fields #[] }) ∧ (∀ p ∈ cs, K.lookup p.2 = none) ∧ (∀ p ∈ cs, PySem.W.CodeHd h p.1 p.2) ∧ (∀ (s : Shared) (u : Value), BindsTo s fd ⟨[u], []⟩ [("_law_script", u)]) ∧ (∀ (H : Hp) (a : Addr) (ns : List Int), ns.length ≤ 63 → (∀ p ∈ cs, H p.2 = some (.tbl #[])) → SqL K H a (ns.map V.int) → sp [.ref a] H (fun v _ => v = .bl true) fun _ _ _ => False) ∧ ∀ base : Heap, K.In base → base.Ns mainGlobals mg → (∀ p ∈ cs, LamX.TabB base mg p.1 p.2) → FnG P w K mg base CX0 16 fa fd ["_law_script"] sp := by
  cases hfa.symm.trans (PySem.W.mg_of X G g71)
  have TN : ErrT K mg "BadNumber" B CN := errT_mk X G aCN xLN saN gaN ggN exN tyN kpN hdN haN hn ht hmN
  have FEN := funS_mk (st := sI3) (P := P) lEN cEN lcEN laEN h2EN hfEN zs tp op (ErrT_cls TN.mro) owEN nxEN ivEN
  have bEN := FEN.binds (ps := ["self", "what", "number"]) fun _ _ _ _ _ _ _ us hl => match us, hl with | [_, _, _], _ => rfl
  have TR : ErrT K mg "BadRow" B CR := errT_mk X G aCR xLR saR gaR ggR exR tyR kpR hdR haR hn ht hmR
  have FER := funS_mk (st := sI4) (P := P) lER cER lcER laER h2ER hfER zs tp op (ErrT_cls TR.mro) owER nxER ivER
  have bER := FER.binds (ps := ["self", "row"]) fun _ _ _ _ _ _ _ us hl => match us, hl with | [_, _], _ => rfl
  have TU : ErrT K mg "Unlike" B CU := errT_mk X G aCU xLU saU gaU ggU exU tyU kpU hdU haU hn ht hmU
  have FEU := funS_mk (st := sI6) (P := P) lEU cEU lcEU laEU h2EU hfEU zs tp op (ErrT_cls TU.mro) owEU nxEU ivEU
  have bEU := FEU.binds (ps := ["self", "what"]) fun _ _ _ _ _ _ _ us hl => match us, hl with | [_, _], _ => rfl
  have FFi : FunD K "fits" "fits" (defArgs (top 61)) (defBody (top 61)) (defScope (top 61)) [V.non] [] fFi _ := ⟨⟨_, _, _, _, _, _, _, _, _, _, rfl, lFi, cFi, .inr ⟨by simp, aTFi, _, [Value.none], nTFi, rfl, lTFi, rfl, .cons rfl .nil⟩, .inl rfl⟩, kFi⟩
  have Fsq0 := fun_mk (st := sS 0) lsq0 csq0 ksq0
  have bsq0 := Fsq0.binds (ps := ["self", "places", "parts"]) fun _ _ _ _ _ _ us hl => match us, hl with | [_, _, _], _ => rfl
  have Ftq0 := fun_mk (st := sT 0) ltq0 ctq0 ktq0
  have btq0 := Ftq0.binds (ps := ["self", "function", "least", "most"]) fun _ _ _ _ _ _ us hl => match us, hl with | [_, _, _, _], _ => rfl
  have Fq0 := fun_mk (st := sB 0) lq0 cq0 kq0
  have bq0 := Fq0.binds (ps := ["self", "knots", "polys", "at"]) fun _ _ _ _ _ _ us hl => match us, hl with | [_, _, _, _], _ => rfl
  have Fq1 := fun_mk (st := sB 1) lq1 cq1 kq1
  have bq1 := Fq1.binds (ps := ["self", "other"]) fun _ _ _ _ _ _ us hl => match us, hl with | [_, _], _ => rfl
  have Fq2 := fun_mk (st := sB 2) lq2 cq2 kq2
  have bq2 := Fq2.binds (ps := ["self", "x"]) fun _ _ _ _ _ _ us hl => match us, hl with | [_, _], _ => rfl
  have Fq3 := fun_mk (st := sB 3) lq3 cq3 kq3
  have bq3 := Fq3.binds (ps := ["self", "x"]) fun _ _ _ _ _ _ us hl => match us, hl with | [_, _], _ => rfl
  have Fq5 := fun_mk (st := sB 5) lq5 cq5 kq5
  have bq5 := Fq5.binds (ps := ["self"]) fun _ _ _ _ _ _ us hl => match us, hl with | [_], _ => rfl
  have Fq6 := fun_mk (st := sB 6) lq6 cq6 kq6
  have bq6 := Fq6.binds (ps := ["self"]) fun _ _ _ _ _ _ us hl => match us, hl with | [_], _ => rfl
  have F8 := fun_mk (st := top 8) l8 c8 k8
  have b8 := F8.binds (ps := ["value"]) fun _ _ _ _ _ _ us hl => match us, hl with | [_], _ => rfl
  have F9 := fun_mk (st := top 9) l9 c9 k9
  have b9 := F9.binds (ps := ["value"]) fun _ _ _ _ _ _ us hl => match us, hl with | [_], _ => rfl
  have F10 := fun_mk (st := top 10) l10 c10 k10
  have b10 := F10.binds (ps := ["value"]) fun _ _ _ _ _ _ us hl => match us, hl with | [_], _ => rfl
  have F11 := fun_mk (st := top 11) l11 c11 k11
  have b11 := F11.binds (ps := ["top", "bottom"]) fun _ _ _ _ _ _ us hl => match us, hl with | [_, _], _ => rfl
  have F12 := fun_mk (st := top 12) l12 c12 k12
  have b12 := F12.binds (ps := ["value", "what"]) fun _ _ _ _ _ _ us hl => match us, hl with | [_, _], _ => rfl
  have F13 := fun_mk (st := top 13) l13 c13 k13
  have b13 := F13.binds (ps := ["one", "other"]) fun _ _ _ _ _ _ us hl => match us, hl with | [_, _], _ => rfl
  have F14 := fun_mk (st := top 14) l14 c14 k14
  have b14 := F14.binds (ps := ["one", "other"]) fun _ _ _ _ _ _ us hl => match us, hl with | [_, _], _ => rfl
  have F15 := fun_mk (st := top 15) l15 c15 k15
  have b15 := F15.binds (ps := ["one", "other"]) fun _ _ _ _ _ _ us hl => match us, hl with | [_, _], _ => rfl
  have F16 := fun_mk (st := top 16) l16 c16 k16
  have b16 := F16.binds (ps := ["one", "other"]) fun _ _ _ _ _ _ us hl => match us, hl with | [_, _], _ => rfl
  have F19 := fun_mk (st := top 19) l19 c19 k19
  have b19 := F19.binds (ps := ["value"]) fun _ _ _ _ _ _ us hl => match us, hl with | [_], _ => rfl
  have F30 := fun_mk (st := top 30) l30 c30 k30
  have b30 := F30.binds (ps := ["row"]) fun _ _ _ _ _ _ us hl => match us, hl with | [_], _ => rfl
  have F31 := fun_mk (st := top 31) l31 c31 k31
  have b31 := F31.binds (ps := ["value"]) fun _ _ _ _ _ _ us hl => match us, hl with | [_], _ => rfl
  have F32 := fun_mk (st := top 32) l32 c32 k32
  have b32 := F32.binds (ps := ["poly", "power"]) fun _ _ _ _ _ _ us hl => match us, hl with | [_, _], _ => rfl
  have F33 := fun_mk (st := top 33) l33 c33 k33
  have b33 := F33.binds (ps := ["one", "other"]) fun _ _ _ _ _ _ us hl => match us, hl with | [_, _], _ => rfl
  have F24 := fun_mk (st := top 24) l24 c24 k24
  have b24 := F24.binds (ps := ["pairs"]) fun _ _ _ _ _ _ us hl => match us, hl with | [_], _ => rfl
  have F34 := fun_mk (st := top 34) l34 c34 k34
  have b34 := F34.binds (ps := ["one", "other"]) fun _ _ _ _ _ _ us hl => match us, hl with | [_, _], _ => rfl
  have F63 := fun_mk (st := top 63) l63 c63 k63
  have b63 := F63.binds (ps := ["_law_script"]) fun _ _ _ _ _ _ us hl => match us, hl with | [_], _ => rfl
  have F64 := fun_mk (st := top 64) l64 c64 k64
  have b64 := F64.binds (ps := ["_law_pen_here", "_law_many"]) fun _ _ _ _ _ _ us hl => match us, hl with | [_, _], _ => rfl
  have F65 := fun_mk (st := top 65) l65 c65 k65
  have b65 := F65.binds (ps := ["_law_pen_here", "_law_some"]) fun _ _ _ _ _ _ us hl => match us, hl with | [_, _], _ => rfl
  have F20 := fun_mk (st := top 20) l20 c20 k20
  have b20 := F20.binds (ps := ["row"]) fun _ _ _ _ _ _ us hl => match us, hl with | [_], _ => rfl
  have F21 := fun_mk (st := top 21) l21 c21 k21
  have b21 := F21.binds (ps := ["row"]) fun _ _ _ _ _ _ us hl => match us, hl with | [_], _ => rfl
  have F37 := fun_mk (st := top 37) l37 c37 k37
  have b37 := F37.binds (ps := ["value"]) fun _ _ _ _ _ _ us hl => match us, hl with | [_], _ => rfl
  have F38 := fun_mk (st := top 38) l38 c38 k38
  have b38 := F38.binds (ps := ["f", "x"]) fun _ _ _ _ _ _ us hl => match us, hl with | [_, _], _ => rfl
  have F39 := fun_mk (st := top 39) l39 c39 k39
  have b39 := F39.binds (ps := ["f", "place"]) fun _ _ _ _ _ _ us hl => match us, hl with | [_, _], _ => rfl
  have F40 := fun_mk (st := top 40) l40 c40 k40
  have b40 := F40.binds (ps := ["f", "index"]) fun _ _ _ _ _ _ us hl => match us, hl with | [_, _], _ => rfl
  have F41 := fun_mk (st := top 41) l41 c41 k41
  have b41 := F41.binds (ps := ["f"]) fun _ _ _ _ _ _ us hl => match us, hl with | [_], _ => rfl
  have F17 := fun_mk (st := top 17) l17 c17 k17
  have b17 := F17.binds (ps := ["bits"]) fun _ _ _ _ _ _ us hl => match us, hl with | [_], _ => rfl
  have F22 := fun_mk (st := top 22) l22 c22 k22
  have b22 := F22.binds (ps := ["row"]) fun _ _ _ _ _ _ us hl => match us, hl with | [_], _ => rfl
  have F23 := fun_mk (st := top 23) l23 c23 k23
  have b23 := F23.binds (ps := ["row"]) fun _ _ _ _ _ _ us hl => match us, hl with | [_], _ => rfl
  have F26 := fun_mk (st := top 26) l26 c26 k26
  have b26 := F26.binds (ps := ["rows", "amounts"]) fun _ _ _ _ _ _ us hl => match us, hl with | [_, _], _ => rfl
  have F27 := fun_mk (st := top 27) l27 c27 k27
  have b27 := F27.binds (ps := ["row", "amounts"]) fun _ _ _ _ _ _ us hl => match us, hl with | [_, _], _ => rfl
  have F45 := fun_mk (st := top 45) l45 c45 k45
  have b45 := F45.binds (ps := ["value", "many"]) fun _ _ _ _ _ _ us hl => match us, hl with | [_, _], _ => rfl
  have F46 := fun_mk (st := top 46) l46 c46 k46
  have b46 := F46.binds (ps := ["function"]) fun _ _ _ _ _ _ us hl => match us, hl with | [_], _ => rfl
  have F47 := fun_mk (st := top 47) l47 c47 k47
  have b47 := F47.binds (ps := ["share", "low", "high"]) fun _ _ _ _ _ _ us hl => match us, hl with | [_, _, _], _ => rfl
  have F48 := fun_mk (st := top 48) l48 c48 k48
  have b48 := F48.binds (ps := ["share", "functions"]) fun _ _ _ _ _ _ us hl => match us, hl with | [_, _], _ => rfl
  have F56 := fun_mk (st := top 56) l56 c56 k56
  have b56 := F56.binds (ps := ["functions"]) fun _ _ _ _ _ _ us hl => match us, hl with | [_], _ => rfl
  have F57 := fun_mk (st := top 57) l57 c57 k57
  have b57 := F57.binds (ps := ["rows"]) fun _ _ _ _ _ _ us hl => match us, hl with | [_], _ => rfl
  have F58 := fun_mk (st := top 58) l58 c58 k58
  have b58 := F58.binds (ps := ["found", "rows"]) fun _ _ _ _ _ _ us hl => match us, hl with | [_, _], _ => rfl
  have F59 := fun_mk (st := top 59) l59 c59 k59
  have b59 := F59.binds (ps := ["share", "rows"]) fun _ _ _ _ _ _ us hl => match us, hl with | [_, _], _ => rfl
  have F60 := fun_mk (st := top 60) l60 c60 k60
  have b60 := F60.binds (ps := ["share", "rows"]) fun _ _ _ _ _ _ us hl => match us, hl with | [_, _], _ => rfl
  have F25 := fun_mk (st := top 25) l25 c25 k25
  have b25 := F25.binds (ps := ["row"]) fun _ _ _ _ _ _ us hl => match us, hl with | [_], _ => rfl
  have F49 := fun_mk (st := top 49) l49 c49 k49
  have b49 := F49.binds (ps := ["share", "function"]) fun _ _ _ _ _ _ us hl => match us, hl with | [_, _], _ => rfl
  have F50 := fun_mk (st := top 50) l50 c50 k50
  have b50 := F50.binds (ps := ["low", "high"]) fun _ _ _ _ _ _ us hl => match us, hl with | [_, _], _ => rfl
  have F51 := fun_mk (st := top 51) l51 c51 k51
  have b51 := F51.binds (ps := ["share", "low", "high"]) fun _ _ _ _ _ _ us hl => match us, hl with | [_, _, _], _ => rfl
  have F52 := fun_mk (st := top 52) l52 c52 k52
  have b52 := F52.binds (ps := ["share", "low", "high"]) fun _ _ _ _ _ _ us hl => match us, hl with | [_, _, _], _ => rfl
  have F53 := fun_mk (st := top 53) l53 c53 k53
  have b53 := F53.binds (ps := ["places", "parts"]) fun _ _ _ _ _ _ us hl => match us, hl with | [_, _], _ => rfl
  have F54 := fun_mk (st := top 54) l54 c54 k54
  have b54 := F54.binds (ps := ["shares", "parts"]) fun _ _ _ _ _ _ us hl => match us, hl with | [_, _], _ => rfl
  have F55 := fun_mk (st := top 55) l55 c55 k55
  have b55 := F55.binds (ps := ["share", "factor", "shift"]) fun _ _ _ _ _ _ us hl => match us, hl with | [_, _, _], _ => rfl
  have F66 := fun_mk (st := top 66) l66 c66 k66
  have b66 := F66.binds (ps := ["_law_call"]) fun _ _ _ _ _ _ us hl => match us, hl with | [_], _ => rfl
  have F67 := fun_mk (st := top 67) l67 c67 k67
  have b67 := F67.binds (ps := ["_law_what", "_law_number"]) fun _ _ _ _ _ _ us hl => match us, hl with | [_, _], _ => rfl
  have F68 := fun_mk (st := top 68) l68 c68 k68
  have b68 := F68.binds (ps := ["_law_tries"]) fun _ _ _ _ _ _ us hl => match us, hl with | [_], _ => rfl
  have F69 := fun_mk (st := top 69) l69 c69 k69
  have b69 := F69.binds (ps := ["_law_pen_here"]) fun _ _ _ _ _ _ us hl => match us, hl with | [_], _ => rfl
  have F70 := fun_mk (st := top 70) l70 c70 k70
  have b70 := F70.binds (ps := ["_law_pen_here"]) fun _ _ _ _ _ _ us hl => match us, hl with | [_], _ => rfl
  have F71 := fun_mk (st := top 71) l71 c71 k71
  have b71 := F71.binds (ps := ["_law_script"]) fun _ _ _ _ _ _ us hl => match us, hl with | [_], _ => rfl
  have Fm0 := fun_mk (st := sP 0) lm0 cm0 km0
  have bm0 := Fm0.binds (ps := ["self", "numbers"]) fun _ _ _ _ _ _ us hl => match us, hl with | [_, _], _ => rfl
  have Fm1 := fun_mk (st := sP 1) lm1 cm1 km1
  have bm1 := Fm1.binds (ps := ["self", "other"]) fun _ _ _ _ _ _ us hl => match us, hl with | [_, _], _ => rfl
  have Fm2 := fun_mk (st := sP 2) lm2 cm2 km2
  have bm2 := Fm2.binds (ps := ["self", "other"]) fun _ _ _ _ _ _ us hl => match us, hl with | [_, _], _ => rfl
  have Fm3 := fun_mk (st := sP 3) lm3 cm3 km3
  have bm3 := Fm3.binds (ps := ["self", "other"]) fun _ _ _ _ _ _ us hl => match us, hl with | [_, _], _ => rfl
  have Fm4 := fun_mk (st := sP 4) lm4 cm4 km4
  have bm4 := Fm4.binds (ps := ["self", "other"]) fun _ _ _ _ _ _ us hl => match us, hl with | [_, _], _ => rfl
  have Fm5 := fun_mk (st := sP 5) lm5 cm5 km5
  have bm5 := Fm5.binds (ps := ["self", "other"]) fun _ _ _ _ _ _ us hl => match us, hl with | [_, _], _ => rfl
  have Fm6 := fun_mk (st := sP 6) lm6 cm6 km6
  have bm6 := Fm6.binds (ps := ["self", "other"]) fun _ _ _ _ _ _ us hl => match us, hl with | [_, _], _ => rfl
  have Fm7 := fun_mk (st := sP 7) lm7 cm7 km7
  have bm7 := Fm7.binds (ps := ["self", "other"]) fun _ _ _ _ _ _ us hl => match us, hl with | [_, _], _ => rfl
  have Fm8 := fun_mk (st := sP 8) lm8 cm8 km8
  have bm8 := Fm8.binds (ps := ["self"]) fun _ _ _ _ _ _ us hl => match us, hl with | [_], _ => rfl
  have Fm9 := fun_mk (st := sP 9) lm9 cm9 km9
  have bm9 := Fm9.binds (ps := ["self"]) fun _ _ _ _ _ _ us hl => match us, hl with | [_], _ => rfl
  have Fm10 := fun_mk (st := sP 10) lm10 cm10 km10
  have bm10 := Fm10.binds (ps := ["self", "place"]) fun _ _ _ _ _ _ us hl => match us, hl with | [_, _], _ => rfl
  let Tx0 : Tx P K mg := { blt := ⟨PySem.W.mg_none_of X G z_len, PySem.W.mg_none_of X G z_int, PySem.W.mg_none_of X G z_list, PySem.W.mg_none_of X G z_range⟩, mIsi := PySem.W.mg_none_of X G z_mIsi, mBool := PySem.W.mg_none_of X G z_mBool, mTuple := PySem.W.mg_none_of X G z_mTuple, mMax := PySem.W.mg_none_of X G z_mMax, mAll := PySem.W.mg_none_of X G z_mAll, mEnum := PySem.W.mg_none_of X G z_mEnum, mRev := PySem.W.mg_none_of X G z_mRev, mZip := PySem.W.mg_none_of X G z_mZip, mAbs := PySem.W.mg_none_of X G z_mAbs, mStr := PySem.W.mg_none_of X G z_mStr, mRepr := PySem.W.mg_none_of X G z_mRepr, mDm := PySem.W.mg_none_of X G z_mDm, mNi := PySem.W.mg_none_of X G z_mNi, mGcd := PySem.W.mg_of X G z_gcd, mLcm := PySem.W.mg_of X G z_lcm, B := B, mc := .type "type", cN := CN, cR := CR, cI := CN, cU := CU, base := ⟨PySem.W.mg_of X G qaB, ⟨qrB, qsB⟩, qfB, qcB, qtB⟩, eN := TN, nN1 := nN1, nN2 := nN2, fN := fEN, dN := _, iN := ⟨iN, tN, FEN⟩, bN := bEN, eR := TR, nR1 := nR1, fR := fER, dR := _, iR := ⟨iR, tR, FER⟩, bR := bER, eU := TU, is_whole := ⟨f8, _, F8, PySem.W.mg_of X G g8, b8⟩, is_pair := ⟨f9, _, F9, PySem.W.mg_of X G g9, b9⟩, is_ratio := ⟨f10, _, F10, PySem.W.mg_of X G g10, b10⟩, lowest := ⟨f11, _, F11, PySem.W.mg_of X G g11, b11⟩, told := ⟨f12, _, F12, PySem.W.mg_of X G g12, b12⟩, plus := ⟨f13, _, F13, PySem.W.mg_of X G g13, b13⟩, minus := ⟨f14, _, F14, PySem.W.mg_of X G g14, b14⟩, times := ⟨f15, _, F15, PySem.W.mg_of X G g15, b15⟩, lower := ⟨f16, _, F16, PySem.W.mg_of X G g16, b16⟩ }
  let Ty0 : Ty P K mg := { toTx := Tx0 }
  have nP7 : ∀ t ∈ tyNames, PySem.W.kitOne K (.type t) (.ref cP) = some false := by
    intro t ht
    simp only [tyNames, List.mem_cons, List.not_mem_nil, or_false] at ht
    rcases ht with rfl | rfl | rfl | rfl | rfl | rfl | rfl
    · exact pn_int
    · exact pn_bool
    · exact pn_str
    · exact pn_NoneType
    · exact pn_tuple
    · exact pn_list
    · exact pn_dict
  let Tz0 : Tz P K mg := { Ty0 with cP := cP, mgP := PySem.W.mg_of X G pG, clP := ⟨p1, p2, p3, p4⟩, nP := p5, iP := p6, gP := hn, tP := ht, oP := p7, notP := nP7, mkP := ⟨p8, mem0, ism0, p9⟩, p_init := ⟨fm0, _, Fm0, ⟨mem0, ism0, km0⟩, bm0⟩, p_eq := ⟨fm1, _, Fm1, ⟨mem1, ism1, km1⟩, bm1⟩, p_add := ⟨fm2, _, Fm2, ⟨mem2, ism2, km2⟩, bm2⟩, p_radd := ⟨fm3, _, Fm3, ⟨mem3, ism3, km3⟩, bm3⟩, p_sub := ⟨fm4, _, Fm4, ⟨mem4, ism4, km4⟩, bm4⟩, p_rsub := ⟨fm5, _, Fm5, ⟨mem5, ism5, km5⟩, bm5⟩, p_mul := ⟨fm6, _, Fm6, ⟨mem6, ism6, km6⟩, bm6⟩, p_rmul := ⟨fm7, _, Fm7, ⟨mem7, ism7, km7⟩, bm7⟩, p_neg := ⟨fm8, _, Fm8, ⟨mem8, ism8, km8⟩, bm8⟩, p_degree := ⟨fm9, _, Fm9, ⟨mem9, ism9, km9⟩, bm9⟩, p_at := ⟨fm10, _, Fm10, ⟨mem10, ism10, km10⟩, bm10⟩, is_row := ⟨f19, _, F19, PySem.W.mg_of X G g19, b19⟩, many_needed := ⟨f30, _, F30, PySem.W.mg_of X G g30, b30⟩, as_poly := ⟨f31, _, F31, PySem.W.mg_of X G g31, b31⟩, number_for := ⟨f32, _, F32, PySem.W.mg_of X G g32, b32⟩, added := ⟨f33, _, F33, PySem.W.mg_of X G g33, b33⟩, over_one := ⟨f24, _, F24, PySem.W.mg_of X G g24, b24⟩, multiplied := ⟨f34, _, F34, PySem.W.mg_of X G g34, b34⟩ }
  let Tw0 : Tw P K mg := { Tz0 with sfP := pa, nI1 := pi1, nI2 := pi2, nT1 := pt1, nT2 := pt2 }
  let Tv0 : Tv P K mg := { toTw := Tw0 }
  let Tu0 : Tu P K mg := { Tv0 with l_pen := ⟨f63, _, F63, PySem.W.mg_of X G g63, b63⟩, l_draw := ⟨f64, _, F64, PySem.W.mg_of X G g64, b64⟩, l_pick := ⟨f65, _, F65, PySem.W.mg_of X G g65, b65⟩, nbN := nbN, nbR := nbR, neRN := neRN }
  let Tk0 : Tk P K mg := { toTu := Tu0 }
  have nB7 : ∀ t ∈ tyNames, PySem.W.kitOne K (.type t) (.ref cB) = some false := by
    intro t ht
    simp only [tyNames, List.mem_cons, List.not_mem_nil, or_false] at ht
    rcases ht with rfl | rfl | rfl | rfl | rfl | rfl | rfl
    · exact bn_int
    · exact bn_bool
    · exact bn_str
    · exact bn_NoneType
    · exact bn_tuple
    · exact bn_list
    · exact bn_dict
  let Tb0 : Tb P K mg := { Tk0 with mAny := PySem.W.mg_none_of X G z_mAny, cB := cB, mgB := PySem.W.mg_of X G bG, clB := ⟨b1, b2, b3, b4⟩, nB1 := b5, nB2 := b6, nB3 := b7, mkB := ⟨ba, meq0, isq0, bb⟩, b_init := ⟨fq0, _, Fq0, ⟨meq0, isq0, kq0⟩, bq0⟩, b_eq := ⟨fq1, _, Fq1, ⟨meq1, isq1, kq1⟩, bq1⟩, b_value := ⟨fq2, _, Fq2, ⟨meq2, isq2, kq2⟩, bq2⟩, b_limits := ⟨fq3, _, Fq3, ⟨meq3, isq3, kq3⟩, bq3⟩, b_upper := ⟨fq5, _, Fq5, ⟨meq5, isq5, kq5⟩, bq5⟩, b_lower := ⟨fq6, _, Fq6, ⟨meq6, isq6, kq6⟩, bq6⟩, ascends := ⟨f20, _, F20, PySem.W.mg_of X G g20, b20⟩, told_row := ⟨f21, _, F21, PySem.W.mg_of X G g21, b21⟩, is_rowp := ⟨f37, _, F37, PySem.W.mg_of X G g37, b37⟩, place_in := ⟨f38, _, F38, PySem.W.mg_of X G g38, b38⟩, piece_from := ⟨f39, _, F39, PySem.W.mg_of X G g39, b39⟩, klimits := ⟨f40, _, F40, PySem.W.mg_of X G g40, b40⟩, nlims := ⟨f41, _, F41, PySem.W.mg_of X G g41, b41⟩ }
  let Tc0 : Tc P K mg := { Tb0 with iB := yb8, oB := yb9, notB := nB7, nIB := bi1, nTB := bt1 }
  let Tg0 : Tg P K mg := { Tc0 with mSum := PySem.W.mg_none_of X G z_mSum, fU := fEU, dU := _, iU := ⟨iU, tU, FEU⟩, bU := bEU, nU1 := nU1, ft := fFi, ftd := _, ftF := FFi, mgF := PySem.W.mg_of X G gFi, cS := cS, mgS := PySem.W.mg_of X G osG, clS := ⟨os1, os2, os3, os4⟩, nSh1 := osf0, nSh2 := osf1, mkS := ⟨osa, mesq0, issq0, osb⟩, s_init := ⟨fsq0, _, Fsq0, ⟨mesq0, issq0, ksq0⟩, bsq0⟩, cT := cT, mgT := PySem.W.mg_of X G otG, clT := ⟨ot1, ot2, ot3, ot4⟩, nTo1 := otf0, nTo2 := otf1, nTo3 := otf2, mkT := ⟨ota, metq0, istq0, otb⟩, t_init := ⟨ftq0, _, Ftq0, ⟨metq0, istq0, ktq0⟩, btq0⟩, gap_of := ⟨f17, _, F17, PySem.W.mg_of X G g17, b17⟩, sum_of := ⟨f22, _, F22, PySem.W.mg_of X G g22, b22⟩, whole_parts := ⟨f23, _, F23, PySem.W.mg_of X G g23, b23⟩, jsums := ⟨f26, _, F26, PySem.W.mg_of X G g26, b26⟩, jsum := ⟨f27, _, F27, PySem.W.mg_of X G g27, b27⟩, are_parts := ⟨f45, _, F45, PySem.W.mg_of X G g45, b45⟩, is_bk := ⟨f46, _, F46, PySem.W.mg_of X G g46, b46⟩, is_within := ⟨f47, _, F47, PySem.W.mg_of X G g47, b47⟩, means_of := ⟨f48, _, F48, PySem.W.mg_of X G g48, b48⟩, check_st := ⟨f56, _, F56, PySem.W.mg_of X G g56, b56⟩, funcs_of := ⟨f57, _, F57, PySem.W.mg_of X G g57, b57⟩, gap_missed := ⟨f58, _, F58, PySem.W.mg_of X G g58, b58⟩, check_pl := ⟨f59, _, F59, PySem.W.mg_of X G g59, b59⟩, missed := ⟨f60, _, F60, PySem.W.mg_of X G g60, b60⟩ }
  let Tj0 : Tj P K mg := { Tg0 with nbU := nbU, neUN := neUN, neUR := neUR, in_order := ⟨f25, _, F25, PySem.W.mg_of X G g25, b25⟩, mean := ⟨f49, _, F49, PySem.W.mg_of X G g49, b49⟩, check_ends := ⟨f50, _, F50, PySem.W.mg_of X G g50, b50⟩, chance := ⟨f51, _, F51, PySem.W.mg_of X G g51, b51⟩, chance_b := ⟨f52, _, F52, PySem.W.mg_of X G g52, b52⟩, gathered := ⟨f53, _, F53, PySem.W.mg_of X G g53, b53⟩, mixed := ⟨f54, _, F54, PySem.W.mg_of X G g54, b54⟩, moved := ⟨f55, _, F55, PySem.W.mg_of X G g55, b55⟩, l_fault := ⟨f66, _, F66, PySem.W.mg_of X G g66, b66⟩, l_nfault := ⟨f67, _, F67, PySem.W.mg_of X G g67, b67⟩, l_allr := ⟨f68, _, F68, PySem.W.mg_of X G g68, b68⟩ }
  let Tm0 : Tlm P K mg := { Tj0 with l_shr := ⟨f69, _, F69, PySem.W.mg_of X G g69, b69⟩, l_tor := ⟨f70, _, F70, PySem.W.mg_of X G g70, b70⟩, law := ⟨fa, _, F71, PySem.W.mg_of X G g71, b71⟩, c69 := ca69, c70 := ca70, c71 := ca71, P69 := P69, P70 := P70, P71 := P71, f69 := funC_mk (st := top 69) l69 c69, f70 := funC_mk (st := top 70) l70 c70, f71 := funC_mk (st := top 71) l71 c71, nPa := nPa, nPb := nPb, nPc := nPc, moT := moT, eqT := eqT }
  refine ⟨Tm0.law.fd, [(ca69, P69), (ca70, P70), (ca71, P71)], spLawJ K Tm0.Tl, ?_, ?_, ?_, fun s u => .of_eq rfl, ?_, ?_⟩
  · intro p hp
    simp only [List.mem_cons, List.not_mem_nil, or_false] at hp
    rcases hp with rfl | rfl | rfl
    · exact ht69
    · exact ht70
    · exact ht71
  · intro p hp
    simp only [List.mem_cons, List.not_mem_nil, or_false] at hp
    rcases hp with rfl | rfl | rfl
    · exact nt69
    · exact nt70
    · exact nt71
  · intro p hp
    simp only [List.mem_cons, List.not_mem_nil, or_false] at hp
    rcases hp with rfl | rfl | rfl
    · exact PySem.W.codeHd_of_K X h69
    · exact PySem.W.codeHd_of_K X h70
    · exact PySem.W.codeHd_of_K X h71
  · intro H a ns hl hH hS
    refine ⟨a, ns, rfl, hS, ?_, fun _ => rfl⟩
    intro p hp
    have one : ∀ (P : Addr) (q : Str), H P = some (.tbl #[]) → LamX.TabS H P q := fun P q e => ⟨#[], e, by first | trivial | decide | simp [LamX.TriplesOk], fun pos cv z => by first | cases z | simp [LamX.codeAmong] at z⟩
    unfold Tlm.Tl at hp
    simp only [List.mem_cons, List.not_mem_nil, or_false] at hp
    rcases hp with rfl | rfl | rfl
    · exact one _ _ (hH (ca69, P69) (by simp))
    · exact one _ _ (hH (ca70, P70) (by simp))
    · exact one _ _ (hH (ca71, P71) (by simp))
  · intro base _ _ tb
    exact ok_lawj Tm0 (tb (ca69, P69) (by simp)) (tb (ca70, P70) (by simp)) (tb (ca71, P71) (by simp))
end Kz

set_option linter.all false
set_option maxRecDepth 100000
set_option maxHeartbeats 0
namespace Kh
open PySem PySem.Spec PyProof.Rows L2 Kz
section
variable {K : PySem.W.Frag}
theorem Says.t (c : Says K) (i j : Nat) {l : List (PySem.W.Frag → Bool)} {f : PySem.W.Frag → Bool} (hl : fa[i]? = some l) (hf : l[j]? = some f) : f K = true := by
  have c1 : (fa.all fun l => l.all fun f => f K) = true := congrArg (fun z : Al => z.1) c
  exact List.all_eq_true.mp (List.all_eq_true.mp c1 l (List.mem_of_getElem? hl)) f (List.mem_of_getElem? hf)
theorem Says.fn (c : Says K) (i : Nat) {d : Fe} (h : fn[i]? = some d) : fq K (d.ad K) = fqv d.x d.q d.st := by
  have e : Kh.fn.map (fun d => fq K (d.ad K)) = Kh.fn.map fun d => fqv d.x d.q d.st := congrArg (fun z : Al => z.2) c
  have e2 : (Kh.fn.map fun d => fq K (d.ad K))[i]? = (Kh.fn.map fun d => fqv d.x d.q d.st)[i]? := by rw [e]
  rw [List.getElem?_map, h, List.getElem?_map, h] at e2
  exact Option.some.inj e2
theorem u_qaB (c : Says K) : PySem.W.nsIn K mainGlobals "MeanError" = some (some (.ref (aB K))) := of_decide_eq_true (show t_qaB K = true from c.t 0 0 rfl rfl)
theorem u_qrB (c : Says K) : PySem.W.readsIn K (aB K) (.type "type") = true := of_decide_eq_true (show t_qrB K = true from c.t 0 1 rfl rfl)
theorem u_qsB (c : Says K) : PySem.W.specialIn K (.ref (aB K)) "__getattribute__" = some (some (.builtin "type.__getattribute__")) := of_decide_eq_true (show t_qsB K = true from c.t 0 2 rfl rfl)
theorem u_qfB (c : Says K) : PySem.W.findCls K (.ref (aB K)) (.type "type") "__init__" = some (.val (.builtin "ValueError.__init__")) := cfB_ok (show t_qfB K = true from c.t 0 3 rfl rfl)
theorem u_qcB (c : Says K) : PySem.W.isClsIn K (aB K) = true := of_decide_eq_true (show t_qcB K = true from c.t 0 4 rfl rfl)
theorem u_qtB (c : Says K) : PySem.W.typeIn K (.ref (aB K)) = some (.type "type") := of_decide_eq_true (show t_qtB K = true from c.t 0 5 rfl rfl)
theorem u_hn (c : Says K) : PySem.W.specialIn K (.builtin "object.__class__") "__get__" = some (some (.builtin "getset_descriptor.__get__")) := of_decide_eq_true (show t_hn K = true from c.t 0 6 rfl rfl)
theorem u_ht (c : Says K) : PySem.W.takesIn K (.builtin "object.__class__") = some true := of_decide_eq_true (show t_ht K = true from c.t 0 7 rfl rfl)
theorem u_aCN (c : Says K) : PySem.W.nsIn K mainGlobals "BadNumber" = some (some (.ref (aCN K))) := of_decide_eq_true (show t_aCN K = true from c.t 0 8 rfl rfl)
theorem u_xc_CN (c : Says K) : xc K (aCN K) (aB K) = true := of_decide_eq_true (show t_xc_CN K = true from c.t 0 9 rfl rfl)
theorem u_saN (c : Says K) : PySem.W.findIn K (.ref (aCN K)) "__setattr__" = some (some (.builtin "object.__setattr__")) := of_decide_eq_true (show t_saN K = true from c.t 0 10 rfl rfl)
theorem u_gaN (c : Says K) : PySem.W.findIn K (.ref (aCN K)) "__getattribute__" = some (some (.builtin "BaseException.__getattribute__")) := of_decide_eq_true (show t_gaN K = true from c.t 0 11 rfl rfl)
theorem u_ggN (c : Says K) : PySem.W.findIn K (.ref (aCN K)) "__getattr__" = some none := of_decide_eq_true (show t_ggN K = true from c.t 0 12 rfl rfl)
theorem u_exN (c : Says K) : PySem.W.subIn K (.ref (aCN K)) (.type "BaseException") = some true := of_decide_eq_true (show t_exN K = true from c.t 0 13 rfl rfl)
theorem u_tyN (c : Says K) : PySem.W.typeIn K (.ref (aCN K)) = some (.type "type") := of_decide_eq_true (show t_tyN K = true from c.t 0 14 rfl rfl)
theorem u_kpN (c : Says K) : PySem.W.keepIn K (.ref (aCN K)) = true := of_decide_eq_true (show t_kpN K = true from c.t 0 15 rfl rfl)
theorem u_hdN (c : Says K) : PySem.W.hasDictIn K (aCN K) = true := of_decide_eq_true (show t_hdN K = true from c.t 0 16 rfl rfl)
theorem u_haN (c : Says K) : PySem.W.findIn K (.ref (aCN K)) "__class__" = some (some (.builtin "object.__class__")) := of_decide_eq_true (show t_haN K = true from c.t 0 17 rfl rfl)
theorem u_hmN (c : Says K) : PySem.W.mroIn K (aCN K) (.type "object") = some true := of_decide_eq_true (show t_hmN K = true from c.t 0 18 rfl rfl)
theorem u_nN1 (c : Says K) : PySem.W.findIn K (.ref (aCN K)) "what" = some none := of_decide_eq_true (show t_nN1 K = true from c.t 0 19 rfl rfl)
theorem u_nN2 (c : Says K) : PySem.W.findIn K (.ref (aCN K)) "number" = some none := of_decide_eq_true (show t_nN2 K = true from c.t 0 20 rfl rfl)
theorem u_iN (c : Says K) : PySem.W.findIn K (.ref (aCN K)) "__init__" = some (some (.ref (afEN K))) := of_decide_eq_true (show t_iN K = true from c.t 0 21 rfl rfl)
theorem u_tN (c : Says K) : PySem.W.typeIn K (.ref (afEN K)) = some (.type "function") := of_decide_eq_true (show t_tN K = true from c.t 0 22 rfl rfl)
theorem u_fi_fEN (c : Says K) : fi PySem.Challenge.pw_toldmeans_k10_shares_refused.main.file K (afEN K) (aCN K) "BadNumber.__init__" = true := of_decide_eq_true (show t_fi_fEN K = true from c.t 0 23 rfl rfl)
theorem u_owEN (c : Says K) : PySem.W.mroIn K (aCN K) (.ref (aCN K)) = some true := of_decide_eq_true (show t_owEN K = true from c.t 0 24 rfl rfl)
theorem u_nxEN (c : Says K) : PySem.W.ks_superIn K (aCN K) (aCN K) "__init__" = some (some (.builtin "ValueError.__init__")) := of_decide_eq_true (show t_nxEN K = true from c.t 0 25 rfl rfl)
theorem u_ivEN (c : Says K) : PySem.W.subIn K (.ref (aCN K)) (.type "ValueError") = some true := of_decide_eq_true (show t_ivEN K = true from c.t 0 26 rfl rfl)
theorem u_aCR (c : Says K) : PySem.W.nsIn K mainGlobals "BadRow" = some (some (.ref (aCR K))) := of_decide_eq_true (show t_aCR K = true from c.t 0 27 rfl rfl)
theorem u_xc_CR (c : Says K) : xc K (aCR K) (aB K) = true := of_decide_eq_true (show t_xc_CR K = true from c.t 0 28 rfl rfl)
theorem u_saR (c : Says K) : PySem.W.findIn K (.ref (aCR K)) "__setattr__" = some (some (.builtin "object.__setattr__")) := of_decide_eq_true (show t_saR K = true from c.t 0 29 rfl rfl)
theorem u_gaR (c : Says K) : PySem.W.findIn K (.ref (aCR K)) "__getattribute__" = some (some (.builtin "BaseException.__getattribute__")) := of_decide_eq_true (show t_gaR K = true from c.t 1 0 rfl rfl)
theorem u_ggR (c : Says K) : PySem.W.findIn K (.ref (aCR K)) "__getattr__" = some none := of_decide_eq_true (show t_ggR K = true from c.t 1 1 rfl rfl)
theorem u_exR (c : Says K) : PySem.W.subIn K (.ref (aCR K)) (.type "BaseException") = some true := of_decide_eq_true (show t_exR K = true from c.t 1 2 rfl rfl)
theorem u_tyR (c : Says K) : PySem.W.typeIn K (.ref (aCR K)) = some (.type "type") := of_decide_eq_true (show t_tyR K = true from c.t 1 3 rfl rfl)
theorem u_kpR (c : Says K) : PySem.W.keepIn K (.ref (aCR K)) = true := of_decide_eq_true (show t_kpR K = true from c.t 1 4 rfl rfl)
theorem u_hdR (c : Says K) : PySem.W.hasDictIn K (aCR K) = true := of_decide_eq_true (show t_hdR K = true from c.t 1 5 rfl rfl)
theorem u_haR (c : Says K) : PySem.W.findIn K (.ref (aCR K)) "__class__" = some (some (.builtin "object.__class__")) := of_decide_eq_true (show t_haR K = true from c.t 1 6 rfl rfl)
theorem u_hmR (c : Says K) : PySem.W.mroIn K (aCR K) (.type "object") = some true := of_decide_eq_true (show t_hmR K = true from c.t 1 7 rfl rfl)
theorem u_nR1 (c : Says K) : PySem.W.findIn K (.ref (aCR K)) "row" = some none := of_decide_eq_true (show t_nR1 K = true from c.t 1 8 rfl rfl)
theorem u_iR (c : Says K) : PySem.W.findIn K (.ref (aCR K)) "__init__" = some (some (.ref (afER K))) := of_decide_eq_true (show t_iR K = true from c.t 1 9 rfl rfl)
theorem u_tR (c : Says K) : PySem.W.typeIn K (.ref (afER K)) = some (.type "function") := of_decide_eq_true (show t_tR K = true from c.t 1 10 rfl rfl)
theorem u_fi_fER (c : Says K) : fi PySem.Challenge.pw_toldmeans_k10_shares_refused.main.file K (afER K) (aCR K) "BadRow.__init__" = true := of_decide_eq_true (show t_fi_fER K = true from c.t 1 11 rfl rfl)
theorem u_owER (c : Says K) : PySem.W.mroIn K (aCR K) (.ref (aCR K)) = some true := of_decide_eq_true (show t_owER K = true from c.t 1 12 rfl rfl)
theorem u_nxER (c : Says K) : PySem.W.ks_superIn K (aCR K) (aCR K) "__init__" = some (some (.builtin "ValueError.__init__")) := of_decide_eq_true (show t_nxER K = true from c.t 1 13 rfl rfl)
theorem u_ivER (c : Says K) : PySem.W.subIn K (.ref (aCR K)) (.type "ValueError") = some true := of_decide_eq_true (show t_ivER K = true from c.t 1 14 rfl rfl)
theorem u_aCU (c : Says K) : PySem.W.nsIn K mainGlobals "Unlike" = some (some (.ref (aCU K))) := of_decide_eq_true (show t_aCU K = true from c.t 1 15 rfl rfl)
theorem u_xc_CU (c : Says K) : xc K (aCU K) (aB K) = true := of_decide_eq_true (show t_xc_CU K = true from c.t 1 16 rfl rfl)
theorem u_saU (c : Says K) : PySem.W.findIn K (.ref (aCU K)) "__setattr__" = some (some (.builtin "object.__setattr__")) := of_decide_eq_true (show t_saU K = true from c.t 1 17 rfl rfl)
theorem u_gaU (c : Says K) : PySem.W.findIn K (.ref (aCU K)) "__getattribute__" = some (some (.builtin "BaseException.__getattribute__")) := of_decide_eq_true (show t_gaU K = true from c.t 1 18 rfl rfl)
theorem u_ggU (c : Says K) : PySem.W.findIn K (.ref (aCU K)) "__getattr__" = some none := of_decide_eq_true (show t_ggU K = true from c.t 1 19 rfl rfl)
theorem u_exU (c : Says K) : PySem.W.subIn K (.ref (aCU K)) (.type "BaseException") = some true := of_decide_eq_true (show t_exU K = true from c.t 1 20 rfl rfl)
theorem u_tyU (c : Says K) : PySem.W.typeIn K (.ref (aCU K)) = some (.type "type") := of_decide_eq_true (show t_tyU K = true from c.t 1 21 rfl rfl)
theorem u_kpU (c : Says K) : PySem.W.keepIn K (.ref (aCU K)) = true := of_decide_eq_true (show t_kpU K = true from c.t 1 22 rfl rfl)
theorem u_hdU (c : Says K) : PySem.W.hasDictIn K (aCU K) = true := of_decide_eq_true (show t_hdU K = true from c.t 1 23 rfl rfl)
theorem u_haU (c : Says K) : PySem.W.findIn K (.ref (aCU K)) "__class__" = some (some (.builtin "object.__class__")) := of_decide_eq_true (show t_haU K = true from c.t 1 24 rfl rfl)
theorem u_hmU (c : Says K) : PySem.W.mroIn K (aCU K) (.type "object") = some true := of_decide_eq_true (show t_hmU K = true from c.t 1 25 rfl rfl)
theorem u_nU1 (c : Says K) : PySem.W.findIn K (.ref (aCU K)) "what" = some none := of_decide_eq_true (show t_nU1 K = true from c.t 1 26 rfl rfl)
theorem u_iU (c : Says K) : PySem.W.findIn K (.ref (aCU K)) "__init__" = some (some (.ref (afEU K))) := of_decide_eq_true (show t_iU K = true from c.t 1 27 rfl rfl)
theorem u_tU (c : Says K) : PySem.W.typeIn K (.ref (afEU K)) = some (.type "function") := of_decide_eq_true (show t_tU K = true from c.t 1 28 rfl rfl)
theorem u_fi_fEU (c : Says K) : fi PySem.Challenge.pw_toldmeans_k10_shares_refused.main.file K (afEU K) (aCU K) "Unlike.__init__" = true := of_decide_eq_true (show t_fi_fEU K = true from c.t 1 29 rfl rfl)
theorem u_owEU (c : Says K) : PySem.W.mroIn K (aCU K) (.ref (aCU K)) = some true := of_decide_eq_true (show t_owEU K = true from c.t 2 0 rfl rfl)
theorem u_nxEU (c : Says K) : PySem.W.ks_superIn K (aCU K) (aCU K) "__init__" = some (some (.builtin "ValueError.__init__")) := of_decide_eq_true (show t_nxEU K = true from c.t 2 1 rfl rfl)
theorem u_ivEU (c : Says K) : PySem.W.subIn K (.ref (aCU K)) (.type "ValueError") = some true := of_decide_eq_true (show t_ivEU K = true from c.t 2 2 rfl rfl)
theorem u_zs (c : Says K) : PySem.W.nsIn K mainGlobals "super" = some none := of_decide_eq_true (show t_zs K = true from c.t 2 3 rfl rfl)
theorem u_op (c : Says K) : PySem.W.nsIn K cStatics "thirdparty.any" = some none := of_decide_eq_true (show t_op K = true from c.t 2 4 rfl rfl)
theorem u_z_len (c : Says K) : PySem.W.nsIn K mainGlobals "len" = some none := of_decide_eq_true (show t_z_len K = true from c.t 2 5 rfl rfl)
theorem u_z_int (c : Says K) : PySem.W.nsIn K mainGlobals "int" = some none := of_decide_eq_true (show t_z_int K = true from c.t 2 6 rfl rfl)
theorem u_z_list (c : Says K) : PySem.W.nsIn K mainGlobals "list" = some none := of_decide_eq_true (show t_z_list K = true from c.t 2 7 rfl rfl)
theorem u_z_range (c : Says K) : PySem.W.nsIn K mainGlobals "range" = some none := of_decide_eq_true (show t_z_range K = true from c.t 2 8 rfl rfl)
theorem u_z_mIsi (c : Says K) : PySem.W.nsIn K mainGlobals "isinstance" = some none := of_decide_eq_true (show t_z_mIsi K = true from c.t 2 9 rfl rfl)
theorem u_z_mBool (c : Says K) : PySem.W.nsIn K mainGlobals "bool" = some none := of_decide_eq_true (show t_z_mBool K = true from c.t 2 10 rfl rfl)
theorem u_z_mTuple (c : Says K) : PySem.W.nsIn K mainGlobals "tuple" = some none := of_decide_eq_true (show t_z_mTuple K = true from c.t 2 11 rfl rfl)
theorem u_z_mMax (c : Says K) : PySem.W.nsIn K mainGlobals "max" = some none := of_decide_eq_true (show t_z_mMax K = true from c.t 2 12 rfl rfl)
theorem u_z_mAll (c : Says K) : PySem.W.nsIn K mainGlobals "all" = some none := of_decide_eq_true (show t_z_mAll K = true from c.t 2 13 rfl rfl)
theorem u_z_mEnum (c : Says K) : PySem.W.nsIn K mainGlobals "enumerate" = some none := of_decide_eq_true (show t_z_mEnum K = true from c.t 2 14 rfl rfl)
theorem u_z_mRev (c : Says K) : PySem.W.nsIn K mainGlobals "reversed" = some none := of_decide_eq_true (show t_z_mRev K = true from c.t 2 15 rfl rfl)
theorem u_z_mZip (c : Says K) : PySem.W.nsIn K mainGlobals "zip" = some none := of_decide_eq_true (show t_z_mZip K = true from c.t 2 16 rfl rfl)
theorem u_z_mAbs (c : Says K) : PySem.W.nsIn K mainGlobals "abs" = some none := of_decide_eq_true (show t_z_mAbs K = true from c.t 2 17 rfl rfl)
theorem u_z_mStr (c : Says K) : PySem.W.nsIn K mainGlobals "str" = some none := of_decide_eq_true (show t_z_mStr K = true from c.t 2 18 rfl rfl)
theorem u_z_mRepr (c : Says K) : PySem.W.nsIn K mainGlobals "repr" = some none := of_decide_eq_true (show t_z_mRepr K = true from c.t 2 19 rfl rfl)
theorem u_z_mDm (c : Says K) : PySem.W.nsIn K mainGlobals "divmod" = some none := of_decide_eq_true (show t_z_mDm K = true from c.t 2 20 rfl rfl)
theorem u_z_mNi (c : Says K) : PySem.W.nsIn K mainGlobals "NotImplemented" = some none := of_decide_eq_true (show t_z_mNi K = true from c.t 2 21 rfl rfl)
theorem u_z_mAny (c : Says K) : PySem.W.nsIn K mainGlobals "any" = some none := of_decide_eq_true (show t_z_mAny K = true from c.t 2 22 rfl rfl)
theorem u_z_mSum (c : Says K) : PySem.W.nsIn K mainGlobals "sum" = some none := of_decide_eq_true (show t_z_mSum K = true from c.t 2 23 rfl rfl)
theorem u_z_gcd (c : Says K) : PySem.W.nsIn K mainGlobals "gcd" = some (some (.builtin "math.gcd")) := of_decide_eq_true (show t_z_gcd K = true from c.t 2 24 rfl rfl)
theorem u_z_lcm (c : Says K) : PySem.W.nsIn K mainGlobals "lcm" = some (some (.builtin "math.lcm")) := of_decide_eq_true (show t_z_lcm K = true from c.t 2 25 rfl rfl)
theorem u_g8 (c : Says K) : PySem.W.nsIn K mainGlobals "is_whole" = some (some (.ref (af8 K))) := of_decide_eq_true (show t_g8 K = true from c.t 2 26 rfl rfl)
theorem u_fp_f8 (c : Says K) : fp K (af8 K) "is_whole" = true := of_decide_eq_true (show t_fp_f8 K = true from c.t 2 27 rfl rfl)
theorem u_g9 (c : Says K) : PySem.W.nsIn K mainGlobals "is_pair" = some (some (.ref (af9 K))) := of_decide_eq_true (show t_g9 K = true from c.t 2 28 rfl rfl)
theorem u_fp_f9 (c : Says K) : fp K (af9 K) "is_pair" = true := of_decide_eq_true (show t_fp_f9 K = true from c.t 2 29 rfl rfl)
theorem u_g10 (c : Says K) : PySem.W.nsIn K mainGlobals "is_ratio" = some (some (.ref (af10 K))) := of_decide_eq_true (show t_g10 K = true from c.t 3 0 rfl rfl)
theorem u_fp_f10 (c : Says K) : fp K (af10 K) "is_ratio" = true := of_decide_eq_true (show t_fp_f10 K = true from c.t 3 1 rfl rfl)
theorem u_g11 (c : Says K) : PySem.W.nsIn K mainGlobals "lowest" = some (some (.ref (af11 K))) := of_decide_eq_true (show t_g11 K = true from c.t 3 2 rfl rfl)
theorem u_fp_f11 (c : Says K) : fp K (af11 K) "lowest" = true := of_decide_eq_true (show t_fp_f11 K = true from c.t 3 3 rfl rfl)
theorem u_g12 (c : Says K) : PySem.W.nsIn K mainGlobals "told" = some (some (.ref (af12 K))) := of_decide_eq_true (show t_g12 K = true from c.t 3 4 rfl rfl)
theorem u_fp_f12 (c : Says K) : fp K (af12 K) "told" = true := of_decide_eq_true (show t_fp_f12 K = true from c.t 3 5 rfl rfl)
theorem u_g13 (c : Says K) : PySem.W.nsIn K mainGlobals "plus" = some (some (.ref (af13 K))) := of_decide_eq_true (show t_g13 K = true from c.t 3 6 rfl rfl)
theorem u_fp_f13 (c : Says K) : fp K (af13 K) "plus" = true := of_decide_eq_true (show t_fp_f13 K = true from c.t 3 7 rfl rfl)
theorem u_g14 (c : Says K) : PySem.W.nsIn K mainGlobals "minus" = some (some (.ref (af14 K))) := of_decide_eq_true (show t_g14 K = true from c.t 3 8 rfl rfl)
theorem u_fp_f14 (c : Says K) : fp K (af14 K) "minus" = true := of_decide_eq_true (show t_fp_f14 K = true from c.t 3 9 rfl rfl)
theorem u_g15 (c : Says K) : PySem.W.nsIn K mainGlobals "times" = some (some (.ref (af15 K))) := of_decide_eq_true (show t_g15 K = true from c.t 3 10 rfl rfl)
theorem u_fp_f15 (c : Says K) : fp K (af15 K) "times" = true := of_decide_eq_true (show t_fp_f15 K = true from c.t 3 11 rfl rfl)
theorem u_g16 (c : Says K) : PySem.W.nsIn K mainGlobals "lower" = some (some (.ref (af16 K))) := of_decide_eq_true (show t_g16 K = true from c.t 3 12 rfl rfl)
theorem u_fp_f16 (c : Says K) : fp K (af16 K) "lower" = true := of_decide_eq_true (show t_fp_f16 K = true from c.t 3 13 rfl rfl)
theorem u_g19 (c : Says K) : PySem.W.nsIn K mainGlobals "is_row" = some (some (.ref (af19 K))) := of_decide_eq_true (show t_g19 K = true from c.t 3 14 rfl rfl)
theorem u_fp_f19 (c : Says K) : fp K (af19 K) "is_row" = true := of_decide_eq_true (show t_fp_f19 K = true from c.t 3 15 rfl rfl)
theorem u_g30 (c : Says K) : PySem.W.nsIn K mainGlobals "many_needed" = some (some (.ref (af30 K))) := of_decide_eq_true (show t_g30 K = true from c.t 3 16 rfl rfl)
theorem u_fp_f30 (c : Says K) : fp K (af30 K) "many_needed" = true := of_decide_eq_true (show t_fp_f30 K = true from c.t 3 17 rfl rfl)
theorem u_g31 (c : Says K) : PySem.W.nsIn K mainGlobals "as_poly" = some (some (.ref (af31 K))) := of_decide_eq_true (show t_g31 K = true from c.t 3 18 rfl rfl)
theorem u_fp_f31 (c : Says K) : fp K (af31 K) "as_poly" = true := of_decide_eq_true (show t_fp_f31 K = true from c.t 3 19 rfl rfl)
theorem u_g32 (c : Says K) : PySem.W.nsIn K mainGlobals "number_for" = some (some (.ref (af32 K))) := of_decide_eq_true (show t_g32 K = true from c.t 3 20 rfl rfl)
theorem u_fp_f32 (c : Says K) : fp K (af32 K) "number_for" = true := of_decide_eq_true (show t_fp_f32 K = true from c.t 3 21 rfl rfl)
theorem u_g33 (c : Says K) : PySem.W.nsIn K mainGlobals "added" = some (some (.ref (af33 K))) := of_decide_eq_true (show t_g33 K = true from c.t 3 22 rfl rfl)
theorem u_fp_f33 (c : Says K) : fp K (af33 K) "added" = true := of_decide_eq_true (show t_fp_f33 K = true from c.t 3 23 rfl rfl)
theorem u_g24 (c : Says K) : PySem.W.nsIn K mainGlobals "over_one_bottom" = some (some (.ref (af24 K))) := of_decide_eq_true (show t_g24 K = true from c.t 3 24 rfl rfl)
theorem u_fp_f24 (c : Says K) : fp K (af24 K) "over_one_bottom" = true := of_decide_eq_true (show t_fp_f24 K = true from c.t 3 25 rfl rfl)
theorem u_g34 (c : Says K) : PySem.W.nsIn K mainGlobals "multiplied" = some (some (.ref (af34 K))) := of_decide_eq_true (show t_g34 K = true from c.t 3 26 rfl rfl)
theorem u_fp_f34 (c : Says K) : fp K (af34 K) "multiplied" = true := of_decide_eq_true (show t_fp_f34 K = true from c.t 3 27 rfl rfl)
theorem u_g63 (c : Says K) : PySem.W.nsIn K mainGlobals "_law_pen" = some (some (.ref (af63 K))) := of_decide_eq_true (show t_g63 K = true from c.t 3 28 rfl rfl)
theorem u_fp_f63 (c : Says K) : fp K (af63 K) "_law_pen" = true := of_decide_eq_true (show t_fp_f63 K = true from c.t 3 29 rfl rfl)
theorem u_g64 (c : Says K) : PySem.W.nsIn K mainGlobals "_law_draw" = some (some (.ref (af64 K))) := of_decide_eq_true (show t_g64 K = true from c.t 4 0 rfl rfl)
theorem u_fp_f64 (c : Says K) : fp K (af64 K) "_law_draw" = true := of_decide_eq_true (show t_fp_f64 K = true from c.t 4 1 rfl rfl)
theorem u_g65 (c : Says K) : PySem.W.nsIn K mainGlobals "_law_pick" = some (some (.ref (af65 K))) := of_decide_eq_true (show t_g65 K = true from c.t 4 2 rfl rfl)
theorem u_fp_f65 (c : Says K) : fp K (af65 K) "_law_pick" = true := of_decide_eq_true (show t_fp_f65 K = true from c.t 4 3 rfl rfl)
theorem u_g20 (c : Says K) : PySem.W.nsIn K mainGlobals "ascends" = some (some (.ref (af20 K))) := of_decide_eq_true (show t_g20 K = true from c.t 4 4 rfl rfl)
theorem u_fp_f20 (c : Says K) : fp K (af20 K) "ascends" = true := of_decide_eq_true (show t_fp_f20 K = true from c.t 4 5 rfl rfl)
theorem u_g21 (c : Says K) : PySem.W.nsIn K mainGlobals "told_row" = some (some (.ref (af21 K))) := of_decide_eq_true (show t_g21 K = true from c.t 4 6 rfl rfl)
theorem u_fp_f21 (c : Says K) : fp K (af21 K) "told_row" = true := of_decide_eq_true (show t_fp_f21 K = true from c.t 4 7 rfl rfl)
theorem u_g37 (c : Says K) : PySem.W.nsIn K mainGlobals "is_row_of_polys" = some (some (.ref (af37 K))) := of_decide_eq_true (show t_g37 K = true from c.t 4 8 rfl rfl)
theorem u_fp_f37 (c : Says K) : fp K (af37 K) "is_row_of_polys" = true := of_decide_eq_true (show t_fp_f37 K = true from c.t 4 9 rfl rfl)
theorem u_g38 (c : Says K) : PySem.W.nsIn K mainGlobals "place_in" = some (some (.ref (af38 K))) := of_decide_eq_true (show t_g38 K = true from c.t 4 10 rfl rfl)
theorem u_fp_f38 (c : Says K) : fp K (af38 K) "place_in" = true := of_decide_eq_true (show t_fp_f38 K = true from c.t 4 11 rfl rfl)
theorem u_g39 (c : Says K) : PySem.W.nsIn K mainGlobals "piece_from" = some (some (.ref (af39 K))) := of_decide_eq_true (show t_g39 K = true from c.t 4 12 rfl rfl)
theorem u_fp_f39 (c : Says K) : fp K (af39 K) "piece_from" = true := of_decide_eq_true (show t_fp_f39 K = true from c.t 4 13 rfl rfl)
theorem u_g40 (c : Says K) : PySem.W.nsIn K mainGlobals "knot_limits" = some (some (.ref (af40 K))) := of_decide_eq_true (show t_g40 K = true from c.t 4 14 rfl rfl)
theorem u_fp_f40 (c : Says K) : fp K (af40 K) "knot_limits" = true := of_decide_eq_true (show t_fp_f40 K = true from c.t 4 15 rfl rfl)
theorem u_g41 (c : Says K) : PySem.W.nsIn K mainGlobals "numbers_and_limits" = some (some (.ref (af41 K))) := of_decide_eq_true (show t_g41 K = true from c.t 4 16 rfl rfl)
theorem u_fp_f41 (c : Says K) : fp K (af41 K) "numbers_and_limits" = true := of_decide_eq_true (show t_fp_f41 K = true from c.t 4 17 rfl rfl)
theorem u_g17 (c : Says K) : PySem.W.nsIn K mainGlobals "gap_of" = some (some (.ref (af17 K))) := of_decide_eq_true (show t_g17 K = true from c.t 4 18 rfl rfl)
theorem u_fp_f17 (c : Says K) : fp K (af17 K) "gap_of" = true := of_decide_eq_true (show t_fp_f17 K = true from c.t 4 19 rfl rfl)
theorem u_g22 (c : Says K) : PySem.W.nsIn K mainGlobals "sum_of" = some (some (.ref (af22 K))) := of_decide_eq_true (show t_g22 K = true from c.t 4 20 rfl rfl)
theorem u_fp_f22 (c : Says K) : fp K (af22 K) "sum_of" = true := of_decide_eq_true (show t_fp_f22 K = true from c.t 4 21 rfl rfl)
theorem u_g23 (c : Says K) : PySem.W.nsIn K mainGlobals "are_whole_parts" = some (some (.ref (af23 K))) := of_decide_eq_true (show t_g23 K = true from c.t 4 22 rfl rfl)
theorem u_fp_f23 (c : Says K) : fp K (af23 K) "are_whole_parts" = true := of_decide_eq_true (show t_fp_f23 K = true from c.t 4 23 rfl rfl)
theorem u_g26 (c : Says K) : PySem.W.nsIn K mainGlobals "joint_sums" = some (some (.ref (af26 K))) := of_decide_eq_true (show t_g26 K = true from c.t 4 24 rfl rfl)
theorem u_fp_f26 (c : Says K) : fp K (af26 K) "joint_sums" = true := of_decide_eq_true (show t_fp_f26 K = true from c.t 4 25 rfl rfl)
theorem u_g27 (c : Says K) : PySem.W.nsIn K mainGlobals "joint_sum" = some (some (.ref (af27 K))) := of_decide_eq_true (show t_g27 K = true from c.t 4 26 rfl rfl)
theorem u_fp_f27 (c : Says K) : fp K (af27 K) "joint_sum" = true := of_decide_eq_true (show t_fp_f27 K = true from c.t 4 27 rfl rfl)
theorem u_g45 (c : Says K) : PySem.W.nsIn K mainGlobals "are_parts" = some (some (.ref (af45 K))) := of_decide_eq_true (show t_g45 K = true from c.t 4 28 rfl rfl)
theorem u_fp_f45 (c : Says K) : fp K (af45 K) "are_parts" = true := of_decide_eq_true (show t_fp_f45 K = true from c.t 4 29 rfl rfl)
theorem u_g46 (c : Says K) : PySem.W.nsIn K mainGlobals "is_bounded_kind" = some (some (.ref (af46 K))) := of_decide_eq_true (show t_g46 K = true from c.t 5 0 rfl rfl)
theorem u_fp_f46 (c : Says K) : fp K (af46 K) "is_bounded_kind" = true := of_decide_eq_true (show t_fp_f46 K = true from c.t 5 1 rfl rfl)
theorem u_g47 (c : Says K) : PySem.W.nsIn K mainGlobals "is_within" = some (some (.ref (af47 K))) := of_decide_eq_true (show t_g47 K = true from c.t 5 2 rfl rfl)
theorem u_fp_f47 (c : Says K) : fp K (af47 K) "is_within" = true := of_decide_eq_true (show t_fp_f47 K = true from c.t 5 3 rfl rfl)
theorem u_g48 (c : Says K) : PySem.W.nsIn K mainGlobals "means_of" = some (some (.ref (af48 K))) := of_decide_eq_true (show t_g48 K = true from c.t 5 4 rfl rfl)
theorem u_fp_f48 (c : Says K) : fp K (af48 K) "means_of" = true := of_decide_eq_true (show t_fp_f48 K = true from c.t 5 5 rfl rfl)
theorem u_g56 (c : Says K) : PySem.W.nsIn K mainGlobals "check_one_stretch" = some (some (.ref (af56 K))) := of_decide_eq_true (show t_g56 K = true from c.t 5 6 rfl rfl)
theorem u_fp_f56 (c : Says K) : fp K (af56 K) "check_one_stretch" = true := of_decide_eq_true (show t_fp_f56 K = true from c.t 5 7 rfl rfl)
theorem u_g57 (c : Says K) : PySem.W.nsIn K mainGlobals "functions_of" = some (some (.ref (af57 K))) := of_decide_eq_true (show t_g57 K = true from c.t 5 8 rfl rfl)
theorem u_fp_f57 (c : Says K) : fp K (af57 K) "functions_of" = true := of_decide_eq_true (show t_fp_f57 K = true from c.t 5 9 rfl rfl)
theorem u_g58 (c : Says K) : PySem.W.nsIn K mainGlobals "gap_missed" = some (some (.ref (af58 K))) := of_decide_eq_true (show t_g58 K = true from c.t 5 10 rfl rfl)
theorem u_fp_f58 (c : Says K) : fp K (af58 K) "gap_missed" = true := of_decide_eq_true (show t_fp_f58 K = true from c.t 5 11 rfl rfl)
theorem u_g59 (c : Says K) : PySem.W.nsIn K mainGlobals "check_places" = some (some (.ref (af59 K))) := of_decide_eq_true (show t_g59 K = true from c.t 5 12 rfl rfl)
theorem u_fp_f59 (c : Says K) : fp K (af59 K) "check_places" = true := of_decide_eq_true (show t_fp_f59 K = true from c.t 5 13 rfl rfl)
theorem u_g60 (c : Says K) : PySem.W.nsIn K mainGlobals "missed" = some (some (.ref (af60 K))) := of_decide_eq_true (show t_g60 K = true from c.t 5 14 rfl rfl)
theorem u_fp_f60 (c : Says K) : fp K (af60 K) "missed" = true := of_decide_eq_true (show t_fp_f60 K = true from c.t 5 15 rfl rfl)
theorem u_g25 (c : Says K) : PySem.W.nsIn K mainGlobals "in_order" = some (some (.ref (af25 K))) := of_decide_eq_true (show t_g25 K = true from c.t 5 16 rfl rfl)
theorem u_fp_f25 (c : Says K) : fp K (af25 K) "in_order" = true := of_decide_eq_true (show t_fp_f25 K = true from c.t 5 17 rfl rfl)
theorem u_g49 (c : Says K) : PySem.W.nsIn K mainGlobals "mean" = some (some (.ref (af49 K))) := of_decide_eq_true (show t_g49 K = true from c.t 5 18 rfl rfl)
theorem u_fp_f49 (c : Says K) : fp K (af49 K) "mean" = true := of_decide_eq_true (show t_fp_f49 K = true from c.t 5 19 rfl rfl)
theorem u_g50 (c : Says K) : PySem.W.nsIn K mainGlobals "check_ends" = some (some (.ref (af50 K))) := of_decide_eq_true (show t_g50 K = true from c.t 5 20 rfl rfl)
theorem u_fp_f50 (c : Says K) : fp K (af50 K) "check_ends" = true := of_decide_eq_true (show t_fp_f50 K = true from c.t 5 21 rfl rfl)
theorem u_g51 (c : Says K) : PySem.W.nsIn K mainGlobals "chance" = some (some (.ref (af51 K))) := of_decide_eq_true (show t_g51 K = true from c.t 5 22 rfl rfl)
theorem u_fp_f51 (c : Says K) : fp K (af51 K) "chance" = true := of_decide_eq_true (show t_fp_f51 K = true from c.t 5 23 rfl rfl)
theorem u_g52 (c : Says K) : PySem.W.nsIn K mainGlobals "chance_between" = some (some (.ref (af52 K))) := of_decide_eq_true (show t_g52 K = true from c.t 5 24 rfl rfl)
theorem u_fp_f52 (c : Says K) : fp K (af52 K) "chance_between" = true := of_decide_eq_true (show t_fp_f52 K = true from c.t 5 25 rfl rfl)
theorem u_g53 (c : Says K) : PySem.W.nsIn K mainGlobals "gathered" = some (some (.ref (af53 K))) := of_decide_eq_true (show t_g53 K = true from c.t 5 26 rfl rfl)
theorem u_fp_f53 (c : Says K) : fp K (af53 K) "gathered" = true := of_decide_eq_true (show t_fp_f53 K = true from c.t 5 27 rfl rfl)
theorem u_g54 (c : Says K) : PySem.W.nsIn K mainGlobals "mixed" = some (some (.ref (af54 K))) := of_decide_eq_true (show t_g54 K = true from c.t 5 28 rfl rfl)
theorem u_fp_f54 (c : Says K) : fp K (af54 K) "mixed" = true := of_decide_eq_true (show t_fp_f54 K = true from c.t 5 29 rfl rfl)
theorem u_g55 (c : Says K) : PySem.W.nsIn K mainGlobals "moved" = some (some (.ref (af55 K))) := of_decide_eq_true (show t_g55 K = true from c.t 6 0 rfl rfl)
theorem u_fp_f55 (c : Says K) : fp K (af55 K) "moved" = true := of_decide_eq_true (show t_fp_f55 K = true from c.t 6 1 rfl rfl)
theorem u_g66 (c : Says K) : PySem.W.nsIn K mainGlobals "_law_fault" = some (some (.ref (af66 K))) := of_decide_eq_true (show t_g66 K = true from c.t 6 2 rfl rfl)
theorem u_fp_f66 (c : Says K) : fp K (af66 K) "_law_fault" = true := of_decide_eq_true (show t_fp_f66 K = true from c.t 6 3 rfl rfl)
theorem u_g67 (c : Says K) : PySem.W.nsIn K mainGlobals "_law_number_fault" = some (some (.ref (af67 K))) := of_decide_eq_true (show t_g67 K = true from c.t 6 4 rfl rfl)
theorem u_fp_f67 (c : Says K) : fp K (af67 K) "_law_number_fault" = true := of_decide_eq_true (show t_fp_f67 K = true from c.t 6 5 rfl rfl)
theorem u_g68 (c : Says K) : PySem.W.nsIn K mainGlobals "_law_all_right" = some (some (.ref (af68 K))) := of_decide_eq_true (show t_g68 K = true from c.t 6 6 rfl rfl)
theorem u_fp_f68 (c : Says K) : fp K (af68 K) "_law_all_right" = true := of_decide_eq_true (show t_fp_f68 K = true from c.t 6 7 rfl rfl)
theorem u_g69 (c : Says K) : PySem.W.nsIn K mainGlobals "_law_shares_refused" = some (some (.ref (af69 K))) := of_decide_eq_true (show t_g69 K = true from c.t 6 8 rfl rfl)
theorem u_fc_f69 (c : Says K) : fc K (af69 K) "_law_shares_refused" = true := of_decide_eq_true (show t_fc_f69 K = true from c.t 6 9 rfl rfl)
theorem u_g70 (c : Says K) : PySem.W.nsIn K mainGlobals "_law_told_refused" = some (some (.ref (af70 K))) := of_decide_eq_true (show t_g70 K = true from c.t 6 10 rfl rfl)
theorem u_fc_f70 (c : Says K) : fc K (af70 K) "_law_told_refused" = true := of_decide_eq_true (show t_fc_f70 K = true from c.t 6 11 rfl rfl)
theorem u_g71 (c : Says K) : PySem.W.nsIn K mainGlobals "law" = some (some (.ref (af71 K))) := of_decide_eq_true (show t_g71 K = true from c.t 6 12 rfl rfl)
theorem u_fc_f71 (c : Says K) : fc K (af71 K) "law" = true := of_decide_eq_true (show t_fc_f71 K = true from c.t 6 13 rfl rfl)
theorem u_pG (c : Says K) : PySem.W.nsIn K mainGlobals "Poly" = some (some (.ref (acP K))) := of_decide_eq_true (show t_pG K = true from c.t 6 14 rfl rfl)
theorem u_p1 (c : Says K) : PySem.W.plainGet K (acP K) Str.empty = true := of_decide_eq_true (show t_p1 K = true from c.t 6 15 rfl rfl)
theorem u_p2 (c : Says K) : PySem.W.hasDictIn K (acP K) = true := of_decide_eq_true (show t_p2 K = true from c.t 6 16 rfl rfl)
theorem u_p3 (c : Says K) : PySem.W.plainOver K (acP K) = true := of_decide_eq_true (show t_p3 K = true from c.t 6 17 rfl rfl)
theorem u_p4 (c : Says K) : PySem.W.findIn K (.ref (acP K)) "__setattr__" = some (some (.builtin "object.__setattr__")) := of_decide_eq_true (show t_p4 K = true from c.t 6 18 rfl rfl)
theorem u_p5 (c : Says K) : PySem.W.findIn K (.ref (acP K)) "numbers" = some none := of_decide_eq_true (show t_p5 K = true from c.t 6 19 rfl rfl)
theorem u_p6 (c : Says K) : PySem.W.findIn K (.ref (acP K)) "__class__" = some (some (.builtin "object.__class__")) := of_decide_eq_true (show t_p6 K = true from c.t 6 20 rfl rfl)
theorem u_p7 (c : Says K) : PySem.W.mroIn K (acP K) (.type "object") = some true := of_decide_eq_true (show t_p7 K = true from c.t 6 21 rfl rfl)
theorem u_p8 (c : Says K) : PySem.W.makesIn K (acP K) = true := of_decide_eq_true (show t_p8 K = true from c.t 6 22 rfl rfl)
theorem u_p9 (c : Says K) : PySem.W.keepIn K (.ref (acP K)) = true := of_decide_eq_true (show t_p9 K = true from c.t 6 23 rfl rfl)
theorem u_pa (c : Says K) : PySem.W.selfFirst K (acP K) = true := of_decide_eq_true (show t_pa K = true from c.t 6 24 rfl rfl)
theorem u_pn_int (c : Says K) : PySem.W.kitOne K (.type "int") (.ref (acP K)) = some false := of_decide_eq_true (show t_pn_int K = true from c.t 6 25 rfl rfl)
theorem u_pn_bool (c : Says K) : PySem.W.kitOne K (.type "bool") (.ref (acP K)) = some false := of_decide_eq_true (show t_pn_bool K = true from c.t 6 26 rfl rfl)
theorem u_pn_str (c : Says K) : PySem.W.kitOne K (.type "str") (.ref (acP K)) = some false := of_decide_eq_true (show t_pn_str K = true from c.t 6 27 rfl rfl)
theorem u_pn_NoneType (c : Says K) : PySem.W.kitOne K (.type "NoneType") (.ref (acP K)) = some false := of_decide_eq_true (show t_pn_NoneType K = true from c.t 6 28 rfl rfl)
theorem u_pn_tuple (c : Says K) : PySem.W.kitOne K (.type "tuple") (.ref (acP K)) = some false := of_decide_eq_true (show t_pn_tuple K = true from c.t 6 29 rfl rfl)
theorem u_pn_list (c : Says K) : PySem.W.kitOne K (.type "list") (.ref (acP K)) = some false := of_decide_eq_true (show t_pn_list K = true from c.t 7 0 rfl rfl)
theorem u_pn_dict (c : Says K) : PySem.W.kitOne K (.type "dict") (.ref (acP K)) = some false := of_decide_eq_true (show t_pn_dict K = true from c.t 7 1 rfl rfl)
theorem u_pi1 (c : Says K) : PySem.W.subIn K (.type "int") (.ref (acP K)) = some false := of_decide_eq_true (show t_pi1 K = true from c.t 7 2 rfl rfl)
theorem u_pi2 (c : Says K) : PySem.W.subIn K (.ref (acP K)) (.type "int") = some false := of_decide_eq_true (show t_pi2 K = true from c.t 7 3 rfl rfl)
theorem u_pt1 (c : Says K) : PySem.W.subIn K (.type "tuple") (.ref (acP K)) = some false := of_decide_eq_true (show t_pt1 K = true from c.t 7 4 rfl rfl)
theorem u_pt2 (c : Says K) : PySem.W.subIn K (.ref (acP K)) (.type "tuple") = some false := of_decide_eq_true (show t_pt2 K = true from c.t 7 5 rfl rfl)
theorem u_mem0 (c : Says K) : PySem.W.findIn K (.ref (acP K)) "__init__" = some (some (.ref (afm0 K))) := of_decide_eq_true (show t_mem0 K = true from c.t 7 6 rfl rfl)
theorem u_ism0 (c : Says K) : PySem.W.isFn K (.ref (afm0 K)) = true := of_decide_eq_true (show t_ism0 K = true from c.t 7 7 rfl rfl)
theorem u_fp_fm0 (c : Says K) : fp K (afm0 K) "Poly.__init__" = true := of_decide_eq_true (show t_fp_fm0 K = true from c.t 7 8 rfl rfl)
theorem u_mem1 (c : Says K) : PySem.W.findIn K (.ref (acP K)) "__eq__" = some (some (.ref (afm1 K))) := of_decide_eq_true (show t_mem1 K = true from c.t 7 9 rfl rfl)
theorem u_ism1 (c : Says K) : PySem.W.isFn K (.ref (afm1 K)) = true := of_decide_eq_true (show t_ism1 K = true from c.t 7 10 rfl rfl)
theorem u_fp_fm1 (c : Says K) : fp K (afm1 K) "Poly.__eq__" = true := of_decide_eq_true (show t_fp_fm1 K = true from c.t 7 11 rfl rfl)
theorem u_mem2 (c : Says K) : PySem.W.findIn K (.ref (acP K)) "__add__" = some (some (.ref (afm2 K))) := of_decide_eq_true (show t_mem2 K = true from c.t 7 12 rfl rfl)
theorem u_ism2 (c : Says K) : PySem.W.isFn K (.ref (afm2 K)) = true := of_decide_eq_true (show t_ism2 K = true from c.t 7 13 rfl rfl)
theorem u_fp_fm2 (c : Says K) : fp K (afm2 K) "Poly.__add__" = true := of_decide_eq_true (show t_fp_fm2 K = true from c.t 7 14 rfl rfl)
theorem u_mem3 (c : Says K) : PySem.W.findIn K (.ref (acP K)) "__radd__" = some (some (.ref (afm3 K))) := of_decide_eq_true (show t_mem3 K = true from c.t 7 15 rfl rfl)
theorem u_ism3 (c : Says K) : PySem.W.isFn K (.ref (afm3 K)) = true := of_decide_eq_true (show t_ism3 K = true from c.t 7 16 rfl rfl)
theorem u_fp_fm3 (c : Says K) : fp K (afm3 K) "Poly.__radd__" = true := of_decide_eq_true (show t_fp_fm3 K = true from c.t 7 17 rfl rfl)
theorem u_mem4 (c : Says K) : PySem.W.findIn K (.ref (acP K)) "__sub__" = some (some (.ref (afm4 K))) := of_decide_eq_true (show t_mem4 K = true from c.t 7 18 rfl rfl)
theorem u_ism4 (c : Says K) : PySem.W.isFn K (.ref (afm4 K)) = true := of_decide_eq_true (show t_ism4 K = true from c.t 7 19 rfl rfl)
theorem u_fp_fm4 (c : Says K) : fp K (afm4 K) "Poly.__sub__" = true := of_decide_eq_true (show t_fp_fm4 K = true from c.t 7 20 rfl rfl)
theorem u_mem5 (c : Says K) : PySem.W.findIn K (.ref (acP K)) "__rsub__" = some (some (.ref (afm5 K))) := of_decide_eq_true (show t_mem5 K = true from c.t 7 21 rfl rfl)
theorem u_ism5 (c : Says K) : PySem.W.isFn K (.ref (afm5 K)) = true := of_decide_eq_true (show t_ism5 K = true from c.t 7 22 rfl rfl)
theorem u_fp_fm5 (c : Says K) : fp K (afm5 K) "Poly.__rsub__" = true := of_decide_eq_true (show t_fp_fm5 K = true from c.t 7 23 rfl rfl)
theorem u_mem6 (c : Says K) : PySem.W.findIn K (.ref (acP K)) "__mul__" = some (some (.ref (afm6 K))) := of_decide_eq_true (show t_mem6 K = true from c.t 7 24 rfl rfl)
theorem u_ism6 (c : Says K) : PySem.W.isFn K (.ref (afm6 K)) = true := of_decide_eq_true (show t_ism6 K = true from c.t 7 25 rfl rfl)
theorem u_fp_fm6 (c : Says K) : fp K (afm6 K) "Poly.__mul__" = true := of_decide_eq_true (show t_fp_fm6 K = true from c.t 7 26 rfl rfl)
theorem u_mem7 (c : Says K) : PySem.W.findIn K (.ref (acP K)) "__rmul__" = some (some (.ref (afm7 K))) := of_decide_eq_true (show t_mem7 K = true from c.t 7 27 rfl rfl)
theorem u_ism7 (c : Says K) : PySem.W.isFn K (.ref (afm7 K)) = true := of_decide_eq_true (show t_ism7 K = true from c.t 7 28 rfl rfl)
theorem u_fp_fm7 (c : Says K) : fp K (afm7 K) "Poly.__rmul__" = true := of_decide_eq_true (show t_fp_fm7 K = true from c.t 7 29 rfl rfl)
theorem u_mem8 (c : Says K) : PySem.W.findIn K (.ref (acP K)) "__neg__" = some (some (.ref (afm8 K))) := of_decide_eq_true (show t_mem8 K = true from c.t 8 0 rfl rfl)
theorem u_ism8 (c : Says K) : PySem.W.isFn K (.ref (afm8 K)) = true := of_decide_eq_true (show t_ism8 K = true from c.t 8 1 rfl rfl)
theorem u_fp_fm8 (c : Says K) : fp K (afm8 K) "Poly.__neg__" = true := of_decide_eq_true (show t_fp_fm8 K = true from c.t 8 2 rfl rfl)
theorem u_mem9 (c : Says K) : PySem.W.findIn K (.ref (acP K)) "degree" = some (some (.ref (afm9 K))) := of_decide_eq_true (show t_mem9 K = true from c.t 8 3 rfl rfl)
theorem u_ism9 (c : Says K) : PySem.W.isFn K (.ref (afm9 K)) = true := of_decide_eq_true (show t_ism9 K = true from c.t 8 4 rfl rfl)
theorem u_fp_fm9 (c : Says K) : fp K (afm9 K) "Poly.degree" = true := of_decide_eq_true (show t_fp_fm9 K = true from c.t 8 5 rfl rfl)
theorem u_mem10 (c : Says K) : PySem.W.findIn K (.ref (acP K)) "at" = some (some (.ref (afm10 K))) := of_decide_eq_true (show t_mem10 K = true from c.t 8 6 rfl rfl)
theorem u_ism10 (c : Says K) : PySem.W.isFn K (.ref (afm10 K)) = true := of_decide_eq_true (show t_ism10 K = true from c.t 8 7 rfl rfl)
theorem u_fp_fm10 (c : Says K) : fp K (afm10 K) "Poly.at" = true := of_decide_eq_true (show t_fp_fm10 K = true from c.t 8 8 rfl rfl)
theorem u_bG (c : Says K) : PySem.W.nsIn K mainGlobals "Broken" = some (some (.ref (acB K))) := of_decide_eq_true (show t_bG K = true from c.t 8 9 rfl rfl)
theorem u_b1 (c : Says K) : PySem.W.plainGet K (acB K) Str.empty = true := of_decide_eq_true (show t_b1 K = true from c.t 8 10 rfl rfl)
theorem u_b2 (c : Says K) : PySem.W.hasDictIn K (acB K) = true := of_decide_eq_true (show t_b2 K = true from c.t 8 11 rfl rfl)
theorem u_b3 (c : Says K) : PySem.W.plainOver K (acB K) = true := of_decide_eq_true (show t_b3 K = true from c.t 8 12 rfl rfl)
theorem u_b4 (c : Says K) : PySem.W.findIn K (.ref (acB K)) "__setattr__" = some (some (.builtin "object.__setattr__")) := of_decide_eq_true (show t_b4 K = true from c.t 8 13 rfl rfl)
theorem u_b5 (c : Says K) : PySem.W.findIn K (.ref (acB K)) "knots" = some none := of_decide_eq_true (show t_b5 K = true from c.t 8 14 rfl rfl)
theorem u_b6 (c : Says K) : PySem.W.findIn K (.ref (acB K)) "polys" = some none := of_decide_eq_true (show t_b6 K = true from c.t 8 15 rfl rfl)
theorem u_b7 (c : Says K) : PySem.W.findIn K (.ref (acB K)) "at" = some none := of_decide_eq_true (show t_b7 K = true from c.t 8 16 rfl rfl)
theorem u_yb8 (c : Says K) : PySem.W.findIn K (.ref (acB K)) "__class__" = some (some (.builtin "object.__class__")) := of_decide_eq_true (show t_yb8 K = true from c.t 8 17 rfl rfl)
theorem u_yb9 (c : Says K) : PySem.W.mroIn K (acB K) (.type "object") = some true := of_decide_eq_true (show t_yb9 K = true from c.t 8 18 rfl rfl)
theorem u_ba (c : Says K) : PySem.W.makesIn K (acB K) = true := of_decide_eq_true (show t_ba K = true from c.t 8 19 rfl rfl)
theorem u_bb (c : Says K) : PySem.W.keepIn K (.ref (acB K)) = true := of_decide_eq_true (show t_bb K = true from c.t 8 20 rfl rfl)
theorem u_bn_int (c : Says K) : PySem.W.kitOne K (.type "int") (.ref (acB K)) = some false := of_decide_eq_true (show t_bn_int K = true from c.t 8 21 rfl rfl)
theorem u_bn_bool (c : Says K) : PySem.W.kitOne K (.type "bool") (.ref (acB K)) = some false := of_decide_eq_true (show t_bn_bool K = true from c.t 8 22 rfl rfl)
theorem u_bn_str (c : Says K) : PySem.W.kitOne K (.type "str") (.ref (acB K)) = some false := of_decide_eq_true (show t_bn_str K = true from c.t 8 23 rfl rfl)
theorem u_bn_NoneType (c : Says K) : PySem.W.kitOne K (.type "NoneType") (.ref (acB K)) = some false := of_decide_eq_true (show t_bn_NoneType K = true from c.t 8 24 rfl rfl)
theorem u_bn_tuple (c : Says K) : PySem.W.kitOne K (.type "tuple") (.ref (acB K)) = some false := of_decide_eq_true (show t_bn_tuple K = true from c.t 8 25 rfl rfl)
theorem u_bn_list (c : Says K) : PySem.W.kitOne K (.type "list") (.ref (acB K)) = some false := of_decide_eq_true (show t_bn_list K = true from c.t 8 26 rfl rfl)
theorem u_bn_dict (c : Says K) : PySem.W.kitOne K (.type "dict") (.ref (acB K)) = some false := of_decide_eq_true (show t_bn_dict K = true from c.t 8 27 rfl rfl)
theorem u_bi1 (c : Says K) : PySem.W.subIn K (.type "int") (.ref (acB K)) = some false := of_decide_eq_true (show t_bi1 K = true from c.t 8 28 rfl rfl)
theorem u_bt1 (c : Says K) : PySem.W.subIn K (.type "tuple") (.ref (acB K)) = some false := of_decide_eq_true (show t_bt1 K = true from c.t 8 29 rfl rfl)
theorem u_meq0 (c : Says K) : PySem.W.findIn K (.ref (acB K)) "__init__" = some (some (.ref (afq0 K))) := of_decide_eq_true (show t_meq0 K = true from c.t 9 0 rfl rfl)
theorem u_isq0 (c : Says K) : PySem.W.isFn K (.ref (afq0 K)) = true := of_decide_eq_true (show t_isq0 K = true from c.t 9 1 rfl rfl)
theorem u_fp_fq0 (c : Says K) : fp K (afq0 K) "Broken.__init__" = true := of_decide_eq_true (show t_fp_fq0 K = true from c.t 9 2 rfl rfl)
theorem u_meq1 (c : Says K) : PySem.W.findIn K (.ref (acB K)) "__eq__" = some (some (.ref (afq1 K))) := of_decide_eq_true (show t_meq1 K = true from c.t 9 3 rfl rfl)
theorem u_isq1 (c : Says K) : PySem.W.isFn K (.ref (afq1 K)) = true := of_decide_eq_true (show t_isq1 K = true from c.t 9 4 rfl rfl)
theorem u_fp_fq1 (c : Says K) : fp K (afq1 K) "Broken.__eq__" = true := of_decide_eq_true (show t_fp_fq1 K = true from c.t 9 5 rfl rfl)
theorem u_meq2 (c : Says K) : PySem.W.findIn K (.ref (acB K)) "value" = some (some (.ref (afq2 K))) := of_decide_eq_true (show t_meq2 K = true from c.t 9 6 rfl rfl)
theorem u_isq2 (c : Says K) : PySem.W.isFn K (.ref (afq2 K)) = true := of_decide_eq_true (show t_isq2 K = true from c.t 9 7 rfl rfl)
theorem u_fp_fq2 (c : Says K) : fp K (afq2 K) "Broken.value" = true := of_decide_eq_true (show t_fp_fq2 K = true from c.t 9 8 rfl rfl)
theorem u_meq3 (c : Says K) : PySem.W.findIn K (.ref (acB K)) "limits" = some (some (.ref (afq3 K))) := of_decide_eq_true (show t_meq3 K = true from c.t 9 9 rfl rfl)
theorem u_isq3 (c : Says K) : PySem.W.isFn K (.ref (afq3 K)) = true := of_decide_eq_true (show t_isq3 K = true from c.t 9 10 rfl rfl)
theorem u_fp_fq3 (c : Says K) : fp K (afq3 K) "Broken.limits" = true := of_decide_eq_true (show t_fp_fq3 K = true from c.t 9 11 rfl rfl)
theorem u_meq5 (c : Says K) : PySem.W.findIn K (.ref (acB K)) "is_upper" = some (some (.ref (afq5 K))) := of_decide_eq_true (show t_meq5 K = true from c.t 9 12 rfl rfl)
theorem u_isq5 (c : Says K) : PySem.W.isFn K (.ref (afq5 K)) = true := of_decide_eq_true (show t_isq5 K = true from c.t 9 13 rfl rfl)
theorem u_fp_fq5 (c : Says K) : fp K (afq5 K) "Broken.is_upper" = true := of_decide_eq_true (show t_fp_fq5 K = true from c.t 9 14 rfl rfl)
theorem u_meq6 (c : Says K) : PySem.W.findIn K (.ref (acB K)) "is_lower" = some (some (.ref (afq6 K))) := of_decide_eq_true (show t_meq6 K = true from c.t 9 15 rfl rfl)
theorem u_isq6 (c : Says K) : PySem.W.isFn K (.ref (afq6 K)) = true := of_decide_eq_true (show t_isq6 K = true from c.t 9 16 rfl rfl)
theorem u_fp_fq6 (c : Says K) : fp K (afq6 K) "Broken.is_lower" = true := of_decide_eq_true (show t_fp_fq6 K = true from c.t 9 17 rfl rfl)
theorem u_osG (c : Says K) : PySem.W.nsIn K mainGlobals "Share" = some (some (.ref (acS K))) := of_decide_eq_true (show t_osG K = true from c.t 9 18 rfl rfl)
theorem u_os1 (c : Says K) : PySem.W.plainGet K (acS K) Str.empty = true := of_decide_eq_true (show t_os1 K = true from c.t 9 19 rfl rfl)
theorem u_os2 (c : Says K) : PySem.W.hasDictIn K (acS K) = true := of_decide_eq_true (show t_os2 K = true from c.t 9 20 rfl rfl)
theorem u_os3 (c : Says K) : PySem.W.plainOver K (acS K) = true := of_decide_eq_true (show t_os3 K = true from c.t 9 21 rfl rfl)
theorem u_os4 (c : Says K) : PySem.W.findIn K (.ref (acS K)) "__setattr__" = some (some (.builtin "object.__setattr__")) := of_decide_eq_true (show t_os4 K = true from c.t 9 22 rfl rfl)
theorem u_osf0 (c : Says K) : PySem.W.findIn K (.ref (acS K)) "places" = some none := of_decide_eq_true (show t_osf0 K = true from c.t 9 23 rfl rfl)
theorem u_osf1 (c : Says K) : PySem.W.findIn K (.ref (acS K)) "parts" = some none := of_decide_eq_true (show t_osf1 K = true from c.t 9 24 rfl rfl)
theorem u_osa (c : Says K) : PySem.W.makesIn K (acS K) = true := of_decide_eq_true (show t_osa K = true from c.t 9 25 rfl rfl)
theorem u_osb (c : Says K) : PySem.W.keepIn K (.ref (acS K)) = true := of_decide_eq_true (show t_osb K = true from c.t 9 26 rfl rfl)
theorem u_mesq0 (c : Says K) : PySem.W.findIn K (.ref (acS K)) "__init__" = some (some (.ref (afsq0 K))) := of_decide_eq_true (show t_mesq0 K = true from c.t 9 27 rfl rfl)
theorem u_issq0 (c : Says K) : PySem.W.isFn K (.ref (afsq0 K)) = true := of_decide_eq_true (show t_issq0 K = true from c.t 9 28 rfl rfl)
theorem u_fp_fsq0 (c : Says K) : fp K (afsq0 K) "Share.__init__" = true := of_decide_eq_true (show t_fp_fsq0 K = true from c.t 9 29 rfl rfl)
theorem u_otG (c : Says K) : PySem.W.nsIn K mainGlobals "Told" = some (some (.ref (acT K))) := of_decide_eq_true (show t_otG K = true from c.t 10 0 rfl rfl)
theorem u_ot1 (c : Says K) : PySem.W.plainGet K (acT K) Str.empty = true := of_decide_eq_true (show t_ot1 K = true from c.t 10 1 rfl rfl)
theorem u_ot2 (c : Says K) : PySem.W.hasDictIn K (acT K) = true := of_decide_eq_true (show t_ot2 K = true from c.t 10 2 rfl rfl)
theorem u_ot3 (c : Says K) : PySem.W.plainOver K (acT K) = true := of_decide_eq_true (show t_ot3 K = true from c.t 10 3 rfl rfl)
theorem u_ot4 (c : Says K) : PySem.W.findIn K (.ref (acT K)) "__setattr__" = some (some (.builtin "object.__setattr__")) := of_decide_eq_true (show t_ot4 K = true from c.t 10 4 rfl rfl)
theorem u_otf0 (c : Says K) : PySem.W.findIn K (.ref (acT K)) "function" = some none := of_decide_eq_true (show t_otf0 K = true from c.t 10 5 rfl rfl)
theorem u_otf1 (c : Says K) : PySem.W.findIn K (.ref (acT K)) "least" = some none := of_decide_eq_true (show t_otf1 K = true from c.t 10 6 rfl rfl)
theorem u_otf2 (c : Says K) : PySem.W.findIn K (.ref (acT K)) "most" = some none := of_decide_eq_true (show t_otf2 K = true from c.t 10 7 rfl rfl)
theorem u_ota (c : Says K) : PySem.W.makesIn K (acT K) = true := of_decide_eq_true (show t_ota K = true from c.t 10 8 rfl rfl)
theorem u_otb (c : Says K) : PySem.W.keepIn K (.ref (acT K)) = true := of_decide_eq_true (show t_otb K = true from c.t 10 9 rfl rfl)
theorem u_metq0 (c : Says K) : PySem.W.findIn K (.ref (acT K)) "__init__" = some (some (.ref (aftq0 K))) := of_decide_eq_true (show t_metq0 K = true from c.t 10 10 rfl rfl)
theorem u_istq0 (c : Says K) : PySem.W.isFn K (.ref (aftq0 K)) = true := of_decide_eq_true (show t_istq0 K = true from c.t 10 11 rfl rfl)
theorem u_fp_ftq0 (c : Says K) : fp K (aftq0 K) "Told.__init__" = true := of_decide_eq_true (show t_fp_ftq0 K = true from c.t 10 12 rfl rfl)
theorem u_gFi (c : Says K) : PySem.W.nsIn K mainGlobals "fits" = some (some (.ref (afFi K))) := of_decide_eq_true (show t_gFi K = true from c.t 10 13 rfl rfl)
theorem u_fd_fFi (c : Says K) : fd1 K (afFi K) "fits" = true := of_decide_eq_true (show t_fd_fFi K = true from c.t 10 14 rfl rfl)
theorem u_tb_P69 (c : Says K) : tabB K (aca69 K) (aP69 K) = true := of_decide_eq_true (show t_tb_P69 K = true from c.t 10 15 rfl rfl)
theorem u_h69 (c : Says K) : PySem.W.codeHdIn K (aca69 K) (aP69 K) = true := of_decide_eq_true (show t_h69 K = true from c.t 10 16 rfl rfl)
theorem u_nn_P69 (c : Says K) : noB K (aP69 K) = true := of_decide_eq_true (show t_nn_P69 K = true from c.t 10 17 rfl rfl)
theorem u_tb_P70 (c : Says K) : tabB K (aca70 K) (aP70 K) = true := of_decide_eq_true (show t_tb_P70 K = true from c.t 10 18 rfl rfl)
theorem u_h70 (c : Says K) : PySem.W.codeHdIn K (aca70 K) (aP70 K) = true := of_decide_eq_true (show t_h70 K = true from c.t 10 19 rfl rfl)
theorem u_nn_P70 (c : Says K) : noB K (aP70 K) = true := of_decide_eq_true (show t_nn_P70 K = true from c.t 10 20 rfl rfl)
theorem u_tb_P71 (c : Says K) : tabB K (aca71 K) (aP71 K) = true := of_decide_eq_true (show t_tb_P71 K = true from c.t 10 21 rfl rfl)
theorem u_h71 (c : Says K) : PySem.W.codeHdIn K (aca71 K) (aP71 K) = true := of_decide_eq_true (show t_h71 K = true from c.t 10 22 rfl rfl)
theorem u_nn_P71 (c : Says K) : noB K (aP71 K) = true := of_decide_eq_true (show t_nn_P71 K = true from c.t 10 23 rfl rfl)
theorem u_nPa (c : Says K) : (aP69 K) ≠ (aP70 K) := of_decide_eq_true (show t_nPa K = true from c.t 10 24 rfl rfl)
theorem u_nPb (c : Says K) : (aP69 K) ≠ (aP71 K) := of_decide_eq_true (show t_nPb K = true from c.t 10 25 rfl rfl)
theorem u_nPc (c : Says K) : (aP70 K) ≠ (aP71 K) := of_decide_eq_true (show t_nPc K = true from c.t 10 26 rfl rfl)
theorem u_moT (c : Says K) : PySem.W.mroIn K (acT K) (.type "object") = some true := of_decide_eq_true (show t_moT K = true from c.t 10 27 rfl rfl)
theorem u_eqT (c : Says K) : PySem.W.findIn K (.ref (acT K)) "__eq__" = some (some (.builtin "object.__eq__")) := of_decide_eq_true (show t_eqT K = true from c.t 10 28 rfl rfl)
theorem u_nbN (c : Says K) : (aCN K) ≠ (aB K) := of_decide_eq_true (show t_nbN K = true from c.t 10 29 rfl rfl)
theorem u_nbR (c : Says K) : (aCR K) ≠ (aB K) := of_decide_eq_true (show t_nbR K = true from c.t 11 0 rfl rfl)
theorem u_neRN (c : Says K) : (aCR K) ≠ (aCN K) := of_decide_eq_true (show t_neRN K = true from c.t 11 1 rfl rfl)
theorem u_nbU (c : Says K) : (aCU K) ≠ (aB K) := of_decide_eq_true (show t_nbU K = true from c.t 11 2 rfl rfl)
theorem u_neUN (c : Says K) : (aCU K) ≠ (aCN K) := of_decide_eq_true (show t_neUN K = true from c.t 11 3 rfl rfl)
theorem u_neUR (c : Says K) : (aCU K) ≠ (aCR K) := of_decide_eq_true (show t_neUR K = true from c.t 11 4 rfl rfl)
set_option maxHeartbeats 0 in
theorem facts {w : World} {h : Heap} {mg : Str → Option Value} {fa : Addr} (X : K.In h) (G : h.Ns mainGlobals mg) (hfa : mg "law" = some (.ref fa)) (c : Says K) (hTP69 : h.get? (aP69 K) = some { cls := .none, data := .fields #[] }) (hTP70 : h.get? (aP70 K) = some { cls := .none, data := .fields #[] }) (hTP71 : h.get? (aP71 K) = some { cls := .none, data := .fields #[] }) :
    ∃ (fd : FuncData) (cs : List (Addr × Addr)) (sp : Sp), (∀ p ∈ cs, h.get? p.2 = some { cls := .none, data := .fields #[] }) ∧ (∀ p ∈ cs, K.lookup p.2 = none) ∧ (∀ p ∈ cs, PySem.W.CodeHd h p.1 p.2) ∧ (∀ (s : Shared) (u : Value), BindsTo s fd ⟨[u], []⟩ [("_law_script", u)]) ∧ (∀ (H : Hp) (a : Addr) (ns : List Int), ns.length ≤ 63 → (∀ p ∈ cs, H p.2 = some (.tbl #[])) → SqL K H a (ns.map V.int) → sp [.ref a] H (fun v _ => v = .bl true) fun _ _ _ => False) ∧ ∀ base : Heap, K.In base → base.Ns mainGlobals mg → (∀ p ∈ cs, LamX.TabB base mg p.1 p.2) → FnG PySem.Challenge.pw_toldmeans_k10_shares_refused w K mg base CX0 16 fa fd ["_law_script"] sp := by
  obtain ⟨_, _, _, _, _, _, _, _, _, _, _, _, _, _, xl_CN⟩ := xc_ok (C := aCN K) (B := aB K) (u_xc_CN c)
  obtain ⟨_, _, _, _, _, _, _, _, _, _, _, _, _, _, _, _, _, l_fEN, c_fEN, lc_fEN, la_fEN, h2_fEN, hf_fEN⟩ := fi_ok (x := "__init__") (q := "BadNumber.__init__") (st := sI3) (a := afEN K) (C := aCN K) (c.fn 0 rfl) (u_fi_fEN c)
  obtain ⟨_, _, _, _, _, _, _, _, _, _, _, _, _, _, xl_CR⟩ := xc_ok (C := aCR K) (B := aB K) (u_xc_CR c)
  obtain ⟨_, _, _, _, _, _, _, _, _, _, _, _, _, _, _, _, _, l_fER, c_fER, lc_fER, la_fER, h2_fER, hf_fER⟩ := fi_ok (x := "__init__") (q := "BadRow.__init__") (st := sI4) (a := afER K) (C := aCR K) (c.fn 1 rfl) (u_fi_fER c)
  obtain ⟨_, _, _, _, _, _, _, _, _, _, _, _, _, _, xl_CU⟩ := xc_ok (C := aCU K) (B := aB K) (u_xc_CU c)
  obtain ⟨_, _, _, _, _, _, _, _, _, _, _, _, _, _, _, _, _, l_fEU, c_fEU, lc_fEU, la_fEU, h2_fEU, hf_fEU⟩ := fi_ok (x := "__init__") (q := "Unlike.__init__") (st := sI6) (a := afEU K) (C := aCU K) (c.fn 2 rfl) (u_fi_fEU c)
  obtain ⟨_, _, _, _, _, _, _, _, _, l_f8, c_f8, k_f8⟩ := fp_ok (x := "is_whole") (q := "is_whole") (st := top 8) (a := af8 K) (c.fn 3 rfl) (u_fp_f8 c)
  obtain ⟨_, _, _, _, _, _, _, _, _, l_f9, c_f9, k_f9⟩ := fp_ok (x := "is_pair") (q := "is_pair") (st := top 9) (a := af9 K) (c.fn 4 rfl) (u_fp_f9 c)
  obtain ⟨_, _, _, _, _, _, _, _, _, l_f10, c_f10, k_f10⟩ := fp_ok (x := "is_ratio") (q := "is_ratio") (st := top 10) (a := af10 K) (c.fn 5 rfl) (u_fp_f10 c)
  obtain ⟨_, _, _, _, _, _, _, _, _, l_f11, c_f11, k_f11⟩ := fp_ok (x := "lowest") (q := "lowest") (st := top 11) (a := af11 K) (c.fn 6 rfl) (u_fp_f11 c)
  obtain ⟨_, _, _, _, _, _, _, _, _, l_f12, c_f12, k_f12⟩ := fp_ok (x := "told") (q := "told") (st := top 12) (a := af12 K) (c.fn 7 rfl) (u_fp_f12 c)
  obtain ⟨_, _, _, _, _, _, _, _, _, l_f13, c_f13, k_f13⟩ := fp_ok (x := "plus") (q := "plus") (st := top 13) (a := af13 K) (c.fn 8 rfl) (u_fp_f13 c)
  obtain ⟨_, _, _, _, _, _, _, _, _, l_f14, c_f14, k_f14⟩ := fp_ok (x := "minus") (q := "minus") (st := top 14) (a := af14 K) (c.fn 9 rfl) (u_fp_f14 c)
  obtain ⟨_, _, _, _, _, _, _, _, _, l_f15, c_f15, k_f15⟩ := fp_ok (x := "times") (q := "times") (st := top 15) (a := af15 K) (c.fn 10 rfl) (u_fp_f15 c)
  obtain ⟨_, _, _, _, _, _, _, _, _, l_f16, c_f16, k_f16⟩ := fp_ok (x := "lower") (q := "lower") (st := top 16) (a := af16 K) (c.fn 11 rfl) (u_fp_f16 c)
  obtain ⟨_, _, _, _, _, _, _, _, _, l_f19, c_f19, k_f19⟩ := fp_ok (x := "is_row") (q := "is_row") (st := top 19) (a := af19 K) (c.fn 12 rfl) (u_fp_f19 c)
  obtain ⟨_, _, _, _, _, _, _, _, _, l_f30, c_f30, k_f30⟩ := fp_ok (x := "many_needed") (q := "many_needed") (st := top 30) (a := af30 K) (c.fn 13 rfl) (u_fp_f30 c)
  obtain ⟨_, _, _, _, _, _, _, _, _, l_f31, c_f31, k_f31⟩ := fp_ok (x := "as_poly") (q := "as_poly") (st := top 31) (a := af31 K) (c.fn 14 rfl) (u_fp_f31 c)
  obtain ⟨_, _, _, _, _, _, _, _, _, l_f32, c_f32, k_f32⟩ := fp_ok (x := "number_for") (q := "number_for") (st := top 32) (a := af32 K) (c.fn 15 rfl) (u_fp_f32 c)
  obtain ⟨_, _, _, _, _, _, _, _, _, l_f33, c_f33, k_f33⟩ := fp_ok (x := "added") (q := "added") (st := top 33) (a := af33 K) (c.fn 16 rfl) (u_fp_f33 c)
  obtain ⟨_, _, _, _, _, _, _, _, _, l_f24, c_f24, k_f24⟩ := fp_ok (x := "over_one_bottom") (q := "over_one_bottom") (st := top 24) (a := af24 K) (c.fn 17 rfl) (u_fp_f24 c)
  obtain ⟨_, _, _, _, _, _, _, _, _, l_f34, c_f34, k_f34⟩ := fp_ok (x := "multiplied") (q := "multiplied") (st := top 34) (a := af34 K) (c.fn 18 rfl) (u_fp_f34 c)
  obtain ⟨_, _, _, _, _, _, _, _, _, l_f63, c_f63, k_f63⟩ := fp_ok (x := "_law_pen") (q := "_law_pen") (st := top 63) (a := af63 K) (c.fn 19 rfl) (u_fp_f63 c)
  obtain ⟨_, _, _, _, _, _, _, _, _, l_f64, c_f64, k_f64⟩ := fp_ok (x := "_law_draw") (q := "_law_draw") (st := top 64) (a := af64 K) (c.fn 20 rfl) (u_fp_f64 c)
  obtain ⟨_, _, _, _, _, _, _, _, _, l_f65, c_f65, k_f65⟩ := fp_ok (x := "_law_pick") (q := "_law_pick") (st := top 65) (a := af65 K) (c.fn 21 rfl) (u_fp_f65 c)
  obtain ⟨_, _, _, _, _, _, _, _, _, l_f20, c_f20, k_f20⟩ := fp_ok (x := "ascends") (q := "ascends") (st := top 20) (a := af20 K) (c.fn 22 rfl) (u_fp_f20 c)
  obtain ⟨_, _, _, _, _, _, _, _, _, l_f21, c_f21, k_f21⟩ := fp_ok (x := "told_row") (q := "told_row") (st := top 21) (a := af21 K) (c.fn 23 rfl) (u_fp_f21 c)
  obtain ⟨_, _, _, _, _, _, _, _, _, l_f37, c_f37, k_f37⟩ := fp_ok (x := "is_row_of_polys") (q := "is_row_of_polys") (st := top 37) (a := af37 K) (c.fn 24 rfl) (u_fp_f37 c)
  obtain ⟨_, _, _, _, _, _, _, _, _, l_f38, c_f38, k_f38⟩ := fp_ok (x := "place_in") (q := "place_in") (st := top 38) (a := af38 K) (c.fn 25 rfl) (u_fp_f38 c)
  obtain ⟨_, _, _, _, _, _, _, _, _, l_f39, c_f39, k_f39⟩ := fp_ok (x := "piece_from") (q := "piece_from") (st := top 39) (a := af39 K) (c.fn 26 rfl) (u_fp_f39 c)
  obtain ⟨_, _, _, _, _, _, _, _, _, l_f40, c_f40, k_f40⟩ := fp_ok (x := "knot_limits") (q := "knot_limits") (st := top 40) (a := af40 K) (c.fn 27 rfl) (u_fp_f40 c)
  obtain ⟨_, _, _, _, _, _, _, _, _, l_f41, c_f41, k_f41⟩ := fp_ok (x := "numbers_and_limits") (q := "numbers_and_limits") (st := top 41) (a := af41 K) (c.fn 28 rfl) (u_fp_f41 c)
  obtain ⟨_, _, _, _, _, _, _, _, _, l_f17, c_f17, k_f17⟩ := fp_ok (x := "gap_of") (q := "gap_of") (st := top 17) (a := af17 K) (c.fn 29 rfl) (u_fp_f17 c)
  obtain ⟨_, _, _, _, _, _, _, _, _, l_f22, c_f22, k_f22⟩ := fp_ok (x := "sum_of") (q := "sum_of") (st := top 22) (a := af22 K) (c.fn 30 rfl) (u_fp_f22 c)
  obtain ⟨_, _, _, _, _, _, _, _, _, l_f23, c_f23, k_f23⟩ := fp_ok (x := "are_whole_parts") (q := "are_whole_parts") (st := top 23) (a := af23 K) (c.fn 31 rfl) (u_fp_f23 c)
  obtain ⟨_, _, _, _, _, _, _, _, _, l_f26, c_f26, k_f26⟩ := fp_ok (x := "joint_sums") (q := "joint_sums") (st := top 26) (a := af26 K) (c.fn 32 rfl) (u_fp_f26 c)
  obtain ⟨_, _, _, _, _, _, _, _, _, l_f27, c_f27, k_f27⟩ := fp_ok (x := "joint_sum") (q := "joint_sum") (st := top 27) (a := af27 K) (c.fn 33 rfl) (u_fp_f27 c)
  obtain ⟨_, _, _, _, _, _, _, _, _, l_f45, c_f45, k_f45⟩ := fp_ok (x := "are_parts") (q := "are_parts") (st := top 45) (a := af45 K) (c.fn 34 rfl) (u_fp_f45 c)
  obtain ⟨_, _, _, _, _, _, _, _, _, l_f46, c_f46, k_f46⟩ := fp_ok (x := "is_bounded_kind") (q := "is_bounded_kind") (st := top 46) (a := af46 K) (c.fn 35 rfl) (u_fp_f46 c)
  obtain ⟨_, _, _, _, _, _, _, _, _, l_f47, c_f47, k_f47⟩ := fp_ok (x := "is_within") (q := "is_within") (st := top 47) (a := af47 K) (c.fn 36 rfl) (u_fp_f47 c)
  obtain ⟨_, _, _, _, _, _, _, _, _, l_f48, c_f48, k_f48⟩ := fp_ok (x := "means_of") (q := "means_of") (st := top 48) (a := af48 K) (c.fn 37 rfl) (u_fp_f48 c)
  obtain ⟨_, _, _, _, _, _, _, _, _, l_f56, c_f56, k_f56⟩ := fp_ok (x := "check_one_stretch") (q := "check_one_stretch") (st := top 56) (a := af56 K) (c.fn 38 rfl) (u_fp_f56 c)
  obtain ⟨_, _, _, _, _, _, _, _, _, l_f57, c_f57, k_f57⟩ := fp_ok (x := "functions_of") (q := "functions_of") (st := top 57) (a := af57 K) (c.fn 39 rfl) (u_fp_f57 c)
  obtain ⟨_, _, _, _, _, _, _, _, _, l_f58, c_f58, k_f58⟩ := fp_ok (x := "gap_missed") (q := "gap_missed") (st := top 58) (a := af58 K) (c.fn 40 rfl) (u_fp_f58 c)
  obtain ⟨_, _, _, _, _, _, _, _, _, l_f59, c_f59, k_f59⟩ := fp_ok (x := "check_places") (q := "check_places") (st := top 59) (a := af59 K) (c.fn 41 rfl) (u_fp_f59 c)
  obtain ⟨_, _, _, _, _, _, _, _, _, l_f60, c_f60, k_f60⟩ := fp_ok (x := "missed") (q := "missed") (st := top 60) (a := af60 K) (c.fn 42 rfl) (u_fp_f60 c)
  obtain ⟨_, _, _, _, _, _, _, _, _, l_f25, c_f25, k_f25⟩ := fp_ok (x := "in_order") (q := "in_order") (st := top 25) (a := af25 K) (c.fn 43 rfl) (u_fp_f25 c)
  obtain ⟨_, _, _, _, _, _, _, _, _, l_f49, c_f49, k_f49⟩ := fp_ok (x := "mean") (q := "mean") (st := top 49) (a := af49 K) (c.fn 44 rfl) (u_fp_f49 c)
  obtain ⟨_, _, _, _, _, _, _, _, _, l_f50, c_f50, k_f50⟩ := fp_ok (x := "check_ends") (q := "check_ends") (st := top 50) (a := af50 K) (c.fn 45 rfl) (u_fp_f50 c)
  obtain ⟨_, _, _, _, _, _, _, _, _, l_f51, c_f51, k_f51⟩ := fp_ok (x := "chance") (q := "chance") (st := top 51) (a := af51 K) (c.fn 46 rfl) (u_fp_f51 c)
  obtain ⟨_, _, _, _, _, _, _, _, _, l_f52, c_f52, k_f52⟩ := fp_ok (x := "chance_between") (q := "chance_between") (st := top 52) (a := af52 K) (c.fn 47 rfl) (u_fp_f52 c)
  obtain ⟨_, _, _, _, _, _, _, _, _, l_f53, c_f53, k_f53⟩ := fp_ok (x := "gathered") (q := "gathered") (st := top 53) (a := af53 K) (c.fn 48 rfl) (u_fp_f53 c)
  obtain ⟨_, _, _, _, _, _, _, _, _, l_f54, c_f54, k_f54⟩ := fp_ok (x := "mixed") (q := "mixed") (st := top 54) (a := af54 K) (c.fn 49 rfl) (u_fp_f54 c)
  obtain ⟨_, _, _, _, _, _, _, _, _, l_f55, c_f55, k_f55⟩ := fp_ok (x := "moved") (q := "moved") (st := top 55) (a := af55 K) (c.fn 50 rfl) (u_fp_f55 c)
  obtain ⟨_, _, _, _, _, _, _, _, _, l_f66, c_f66, k_f66⟩ := fp_ok (x := "_law_fault") (q := "_law_fault") (st := top 66) (a := af66 K) (c.fn 51 rfl) (u_fp_f66 c)
  obtain ⟨_, _, _, _, _, _, _, _, _, l_f67, c_f67, k_f67⟩ := fp_ok (x := "_law_number_fault") (q := "_law_number_fault") (st := top 67) (a := af67 K) (c.fn 52 rfl) (u_fp_f67 c)
  obtain ⟨_, _, _, _, _, _, _, _, _, l_f68, c_f68, k_f68⟩ := fp_ok (x := "_law_all_right") (q := "_law_all_right") (st := top 68) (a := af68 K) (c.fn 53 rfl) (u_fp_f68 c)
  obtain ⟨_, _, _, _, _, _, _, _, l_f69, c_f69, k_f69⟩ := fc_ok (x := "_law_shares_refused") (q := "_law_shares_refused") (st := top 69) (a := af69 K) (c.fn 54 rfl) (u_fc_f69 c)
  obtain ⟨_, _, _, _, _, _, _, _, l_f70, c_f70, k_f70⟩ := fc_ok (x := "_law_told_refused") (q := "_law_told_refused") (st := top 70) (a := af70 K) (c.fn 55 rfl) (u_fc_f70 c)
  obtain ⟨_, _, _, _, _, _, _, _, l_f71, c_f71, k_f71⟩ := fc_ok (x := "law") (q := "law") (st := top 71) (a := af71 K) (c.fn 56 rfl) (u_fc_f71 c)
  obtain ⟨_, _, _, _, _, _, _, _, _, l_fm0, c_fm0, k_fm0⟩ := fp_ok (x := "__init__") (q := "Poly.__init__") (st := sP 0) (a := afm0 K) (c.fn 57 rfl) (u_fp_fm0 c)
  obtain ⟨_, _, _, _, _, _, _, _, _, l_fm1, c_fm1, k_fm1⟩ := fp_ok (x := "__eq__") (q := "Poly.__eq__") (st := sP 1) (a := afm1 K) (c.fn 58 rfl) (u_fp_fm1 c)
  obtain ⟨_, _, _, _, _, _, _, _, _, l_fm2, c_fm2, k_fm2⟩ := fp_ok (x := "__add__") (q := "Poly.__add__") (st := sP 2) (a := afm2 K) (c.fn 59 rfl) (u_fp_fm2 c)
  obtain ⟨_, _, _, _, _, _, _, _, _, l_fm3, c_fm3, k_fm3⟩ := fp_ok (x := "__radd__") (q := "Poly.__radd__") (st := sP 3) (a := afm3 K) (c.fn 60 rfl) (u_fp_fm3 c)
  obtain ⟨_, _, _, _, _, _, _, _, _, l_fm4, c_fm4, k_fm4⟩ := fp_ok (x := "__sub__") (q := "Poly.__sub__") (st := sP 4) (a := afm4 K) (c.fn 61 rfl) (u_fp_fm4 c)
  obtain ⟨_, _, _, _, _, _, _, _, _, l_fm5, c_fm5, k_fm5⟩ := fp_ok (x := "__rsub__") (q := "Poly.__rsub__") (st := sP 5) (a := afm5 K) (c.fn 62 rfl) (u_fp_fm5 c)
  obtain ⟨_, _, _, _, _, _, _, _, _, l_fm6, c_fm6, k_fm6⟩ := fp_ok (x := "__mul__") (q := "Poly.__mul__") (st := sP 6) (a := afm6 K) (c.fn 63 rfl) (u_fp_fm6 c)
  obtain ⟨_, _, _, _, _, _, _, _, _, l_fm7, c_fm7, k_fm7⟩ := fp_ok (x := "__rmul__") (q := "Poly.__rmul__") (st := sP 7) (a := afm7 K) (c.fn 64 rfl) (u_fp_fm7 c)
  obtain ⟨_, _, _, _, _, _, _, _, _, l_fm8, c_fm8, k_fm8⟩ := fp_ok (x := "__neg__") (q := "Poly.__neg__") (st := sP 8) (a := afm8 K) (c.fn 65 rfl) (u_fp_fm8 c)
  obtain ⟨_, _, _, _, _, _, _, _, _, l_fm9, c_fm9, k_fm9⟩ := fp_ok (x := "degree") (q := "Poly.degree") (st := sP 9) (a := afm9 K) (c.fn 66 rfl) (u_fp_fm9 c)
  obtain ⟨_, _, _, _, _, _, _, _, _, l_fm10, c_fm10, k_fm10⟩ := fp_ok (x := "at") (q := "Poly.at") (st := sP 10) (a := afm10 K) (c.fn 67 rfl) (u_fp_fm10 c)
  obtain ⟨_, _, _, _, _, _, _, _, _, l_fq0, c_fq0, k_fq0⟩ := fp_ok (x := "__init__") (q := "Broken.__init__") (st := sB 0) (a := afq0 K) (c.fn 68 rfl) (u_fp_fq0 c)
  obtain ⟨_, _, _, _, _, _, _, _, _, l_fq1, c_fq1, k_fq1⟩ := fp_ok (x := "__eq__") (q := "Broken.__eq__") (st := sB 1) (a := afq1 K) (c.fn 69 rfl) (u_fp_fq1 c)
  obtain ⟨_, _, _, _, _, _, _, _, _, l_fq2, c_fq2, k_fq2⟩ := fp_ok (x := "value") (q := "Broken.value") (st := sB 2) (a := afq2 K) (c.fn 70 rfl) (u_fp_fq2 c)
  obtain ⟨_, _, _, _, _, _, _, _, _, l_fq3, c_fq3, k_fq3⟩ := fp_ok (x := "limits") (q := "Broken.limits") (st := sB 3) (a := afq3 K) (c.fn 71 rfl) (u_fp_fq3 c)
  obtain ⟨_, _, _, _, _, _, _, _, _, l_fq5, c_fq5, k_fq5⟩ := fp_ok (x := "is_upper") (q := "Broken.is_upper") (st := sB 5) (a := afq5 K) (c.fn 72 rfl) (u_fp_fq5 c)
  obtain ⟨_, _, _, _, _, _, _, _, _, l_fq6, c_fq6, k_fq6⟩ := fp_ok (x := "is_lower") (q := "Broken.is_lower") (st := sB 6) (a := afq6 K) (c.fn 73 rfl) (u_fp_fq6 c)
  obtain ⟨_, _, _, _, _, _, _, _, _, l_fsq0, c_fsq0, k_fsq0⟩ := fp_ok (x := "__init__") (q := "Share.__init__") (st := sS 0) (a := afsq0 K) (c.fn 74 rfl) (u_fp_fsq0 c)
  obtain ⟨_, _, _, _, _, _, _, _, _, l_ftq0, c_ftq0, k_ftq0⟩ := fp_ok (x := "__init__") (q := "Told.__init__") (st := sT 0) (a := aftq0 K) (c.fn 75 rfl) (u_fp_ftq0 c)
  obtain ⟨_, _, _, _, _, _, _, _, _, _, _, _, _, l_fFi, c_fFi, k_fFi, lT_fFi⟩ := fd1_ok (x := "fits") (q := "fits") (st := top 61) (a := afFi K) (c.fn 76 rfl) (u_fd_fFi c)
  obtain ⟨_, _, _, _, v_P69, w_P69⟩ := tabB_ok (u_tb_P69 c)
  obtain ⟨_, _, _, _, v_P70, w_P70⟩ := tabB_ok (u_tb_P70 c)
  obtain ⟨_, _, _, _, v_P71, w_P71⟩ := tabB_ok (u_tb_P71 c)
  exact all_mk (P := PySem.Challenge.pw_toldmeans_k10_shares_refused) X G hfa (u_qaB c) (u_qrB c) (u_qsB c) (u_qfB c) (u_qcB c) (u_qtB c) (u_hn c) (u_ht c) (u_aCN c) xl_CN (u_saN c) (u_gaN c) (u_ggN c) (u_exN c) (u_tyN c) (u_kpN c) (u_hdN c) (u_haN c) (u_hmN c) (u_nN1 c) (u_nN2 c) (u_iN c) (u_tN c) l_fEN c_fEN lc_fEN la_fEN h2_fEN hf_fEN (u_owEN c) (u_nxEN c) (u_ivEN c) (u_aCR c) xl_CR (u_saR c) (u_gaR c) (u_ggR c) (u_exR c) (u_tyR c) (u_kpR c) (u_hdR c) (u_haR c) (u_hmR c) (u_nR1 c) (u_iR c) (u_tR c) l_fER c_fER lc_fER la_fER h2_fER hf_fER (u_owER c) (u_nxER c) (u_ivER c) (u_aCU c) xl_CU (u_saU c) (u_gaU c) (u_ggU c) (u_exU c) (u_tyU c) (u_kpU c) (u_hdU c) (u_haU c) (u_hmU c) (u_nU1 c) (u_iU c) (u_tU c) l_fEU c_fEU lc_fEU la_fEU h2_fEU hf_fEU (u_owEU c) (u_nxEU c) (u_ivEU c) (u_zs c) (by kernel_rfl) (u_op c) (u_z_len c) (u_z_int c) (u_z_list c) (u_z_range c) (u_z_mIsi c) (u_z_mBool c) (u_z_mTuple c) (u_z_mMax c) (u_z_mAll c) (u_z_mEnum c) (u_z_mRev c) (u_z_mZip c) (u_z_mAbs c) (u_z_mStr c) (u_z_mRepr c) (u_z_mDm c) (u_z_mNi c) (u_z_mAny c) (u_z_mSum c) (u_z_gcd c) (u_z_lcm c) (u_g8 c) l_f8 c_f8 k_f8 (u_g9 c) l_f9 c_f9 k_f9 (u_g10 c) l_f10 c_f10 k_f10 (u_g11 c) l_f11 c_f11 k_f11 (u_g12 c) l_f12 c_f12 k_f12 (u_g13 c) l_f13 c_f13 k_f13 (u_g14 c) l_f14 c_f14 k_f14 (u_g15 c) l_f15 c_f15 k_f15 (u_g16 c) l_f16 c_f16 k_f16 (u_g19 c) l_f19 c_f19 k_f19 (u_g30 c) l_f30 c_f30 k_f30 (u_g31 c) l_f31 c_f31 k_f31 (u_g32 c) l_f32 c_f32 k_f32 (u_g33 c) l_f33 c_f33 k_f33 (u_g24 c) l_f24 c_f24 k_f24 (u_g34 c) l_f34 c_f34 k_f34 (u_g63 c) l_f63 c_f63 k_f63 (u_g64 c) l_f64 c_f64 k_f64 (u_g65 c) l_f65 c_f65 k_f65 (u_g20 c) l_f20 c_f20 k_f20 (u_g21 c) l_f21 c_f21 k_f21 (u_g37 c) l_f37 c_f37 k_f37 (u_g38 c) l_f38 c_f38 k_f38 (u_g39 c) l_f39 c_f39 k_f39 (u_g40 c) l_f40 c_f40 k_f40 (u_g41 c) l_f41 c_f41 k_f41 (u_g17 c) l_f17 c_f17 k_f17 (u_g22 c) l_f22 c_f22 k_f22 (u_g23 c) l_f23 c_f23 k_f23 (u_g26 c) l_f26 c_f26 k_f26 (u_g27 c) l_f27 c_f27 k_f27 (u_g45 c) l_f45 c_f45 k_f45 (u_g46 c) l_f46 c_f46 k_f46 (u_g47 c) l_f47 c_f47 k_f47 (u_g48 c) l_f48 c_f48 k_f48 (u_g56 c) l_f56 c_f56 k_f56 (u_g57 c) l_f57 c_f57 k_f57 (u_g58 c) l_f58 c_f58 k_f58 (u_g59 c) l_f59 c_f59 k_f59 (u_g60 c) l_f60 c_f60 k_f60 (u_g25 c) l_f25 c_f25 k_f25 (u_g49 c) l_f49 c_f49 k_f49 (u_g50 c) l_f50 c_f50 k_f50 (u_g51 c) l_f51 c_f51 k_f51 (u_g52 c) l_f52 c_f52 k_f52 (u_g53 c) l_f53 c_f53 k_f53 (u_g54 c) l_f54 c_f54 k_f54 (u_g55 c) l_f55 c_f55 k_f55 (u_g66 c) l_f66 c_f66 k_f66 (u_g67 c) l_f67 c_f67 k_f67 (u_g68 c) l_f68 c_f68 k_f68 (u_g69 c) l_f69 c_f69 k_f69 (u_g70 c) l_f70 c_f70 k_f70 (u_g71 c) l_f71 c_f71 k_f71 (u_pG c) (u_p1 c) (u_p2 c) (u_p3 c) (u_p4 c) (u_p5 c) (u_p6 c) (u_p7 c) (u_p8 c) (u_p9 c) (u_pa c) (u_pn_int c) (u_pn_bool c) (u_pn_str c) (u_pn_NoneType c) (u_pn_tuple c) (u_pn_list c) (u_pn_dict c) (u_pi1 c) (u_pi2 c) (u_pt1 c) (u_pt2 c) (u_mem0 c) (u_ism0 c) l_fm0 c_fm0 k_fm0 (u_mem1 c) (u_ism1 c) l_fm1 c_fm1 k_fm1 (u_mem2 c) (u_ism2 c) l_fm2 c_fm2 k_fm2 (u_mem3 c) (u_ism3 c) l_fm3 c_fm3 k_fm3 (u_mem4 c) (u_ism4 c) l_fm4 c_fm4 k_fm4 (u_mem5 c) (u_ism5 c) l_fm5 c_fm5 k_fm5 (u_mem6 c) (u_ism6 c) l_fm6 c_fm6 k_fm6 (u_mem7 c) (u_ism7 c) l_fm7 c_fm7 k_fm7 (u_mem8 c) (u_ism8 c) l_fm8 c_fm8 k_fm8 (u_mem9 c) (u_ism9 c) l_fm9 c_fm9 k_fm9 (u_mem10 c) (u_ism10 c) l_fm10 c_fm10 k_fm10 (u_bG c) (u_b1 c) (u_b2 c) (u_b3 c) (u_b4 c) (u_b5 c) (u_b6 c) (u_b7 c) (u_yb8 c) (u_yb9 c) (u_ba c) (u_bb c) (u_bn_int c) (u_bn_bool c) (u_bn_str c) (u_bn_NoneType c) (u_bn_tuple c) (u_bn_list c) (u_bn_dict c) (u_bi1 c) (u_bt1 c) (u_meq0 c) (u_isq0 c) l_fq0 c_fq0 k_fq0 (u_meq1 c) (u_isq1 c) l_fq1 c_fq1 k_fq1 (u_meq2 c) (u_isq2 c) l_fq2 c_fq2 k_fq2 (u_meq3 c) (u_isq3 c) l_fq3 c_fq3 k_fq3 (u_meq5 c) (u_isq5 c) l_fq5 c_fq5 k_fq5 (u_meq6 c) (u_isq6 c) l_fq6 c_fq6 k_fq6 (u_osG c) (u_os1 c) (u_os2 c) (u_os3 c) (u_os4 c) (u_osf0 c) (u_osf1 c) (u_osa c) (u_osb c) (u_mesq0 c) (u_issq0 c) l_fsq0 c_fsq0 k_fsq0 (u_otG c) (u_ot1 c) (u_ot2 c) (u_ot3 c) (u_ot4 c) (u_otf0 c) (u_otf1 c) (u_otf2 c) (u_ota c) (u_otb c) (u_metq0 c) (u_istq0 c) l_ftq0 c_ftq0 k_ftq0 (u_gFi c) l_fFi c_fFi k_fFi lT_fFi v_P69 w_P69 (u_h69 c) (noB_ok (u_nn_P69 c)) hTP69 v_P70 w_P70 (u_h70 c) (noB_ok (u_nn_P70 c)) hTP70 v_P71 w_P71 (u_h71 c) (noB_ok (u_nn_P71 c)) hTP71 (u_nPa c) (u_nPb c) (u_nPc c) (u_moT c) (u_eqT c) (u_nbN c) (u_nbR c) (u_neRN c) (u_nbU c) (u_neUN c) (u_neUR c)
end
theorem walk_GE {l : PySem.W.OpenLaw} {n k : Nat} {q : Program} {loose : List Str} {XP : (Str → Option Value) → Heap → Prop} {YP : World → Heap → Prop} {d : DefRec} {CX : CXT} {x : Str}
    (hn : l.most = some n) (small : n ≤ sizeLine) (nodf : d.params.defaults = []) (hr : Room k callerA)
    (hF : ∀ (wo : World) (mg : Str → Option Value) (fa : Addr) (hp : Heap), YP wo hp → hp.Ns mainGlobals mg → mg d.name = some (.ref fa) →
      ∃ (Kp : PySem.W.Frag) (fd : FuncData) (cs : List (Addr × Addr)) (sp : Sp), Kp.In hp ∧ (∀ p ∈ cs, hp.get? p.2 = some { cls := .none, data := .fields #[] }) ∧ (∀ p ∈ cs, Kp.lookup p.2 = none) ∧ (∀ p ∈ cs, PySem.W.CodeHd hp p.1 p.2) ∧ (∀ (sh : Shared) (u : Value), BindsTo sh fd ⟨[u], []⟩ [(x, u)]) ∧
        (∀ (Ha : Hp) (a : Addr) (ns : List Int), ns.length ≤ n → (∀ p ∈ cs, Ha p.2 = some (.tbl #[])) → SqL Kp Ha a (ns.map V.int) → sp [.ref a] Ha (fun v _ => v = .bl true) fun _ _ _ => False) ∧
        ∀ base : Heap, Kp.In base → base.Ns mainGlobals mg → (∀ p ∈ cs, LamX.TabB base mg p.1 p.2) → FnG l.prog wo Kp mg base CX k fa fd [x] sp)
    (hCX : ∀ (Ha : Hp) (sh : Shared) (e : Value) (s2 : Shared), CX [] Ha sh (fun _ _ _ => False) e s2 → False) : PySem.W.WalkO q loose XP YP l.row.toRowW d [] (fun fn vs => PySem.call fn vs) := by
  refine Att.attach_call hn nodf ?_
  intro wo s₀ s₁ mg mb fa o pm cd doc a vs ns Gr Y ho hd hcd hmg hobj hints few hg
  obtain ⟨Kp, fd, cs, sp, KX, hT, nT, C, hb, hsp, hfn⟩ := hF wo mg fa _ Y Gr.T.g hmg
  exact law_GT KX Gr.T.g Gr.T.b Gr.T.builtins Gr.T.nolimit hg hT nT C Gr.T.bmain hobj hints (Nat.le_trans few small) hr hfn hb (fun Ha hH hS => hsp Ha a ns few hH hS) fun Ha e s2 => hCX Ha s₁ e s2
end Kh
open PySem PySem.W PyProof.Rows
set_option maxRecDepth 100000 in
set_option maxHeartbeats 0 in
theorem PySem.Challenge.cw_toldmeans_k10_shares_refused_holds : PySem.Challenge.rw_toldmeans_k10_shares_refused.Holds := by
  w_on; o_law
  refine HandSHeadRun.head_imp (r := Kh.R) (q := Kh.vw) (H := Kh.hk) (ob := Kh.ob) (M := 6000) (loose := Kh.loose) (d := HandSHeadRun.topDef Kh.R.prog 71) (kwd := []) Kh.ob_eq Kh.run
    (by kernel_rfl) (by kernel_rfl) (by kernel_rfl) (by rfl) (by first | assumption | decide +kernel) (by decide +kernel) ⟨rfl, rfl, rfl, rfl, rfl, by decide +kernel⟩ ?hw ?hc
  case hw => w_witness2
  case hc =>
    refine Kh.walk_GE (l := PySem.Challenge.rw_toldmeans_k10_shares_refused) (n := 63) (k := 16) (x := "_law_script") (CX := L2.CX0) rfl (by decide) (by kernel_rfl) ⟨rfl, by decide, by decide⟩ ?F (fun _ _ _ _ z => z)
    intro w mg fa h Y G hmg0
    obtain ⟨K, KX, c, hTa, hTb, hTc⟩ := Y
    have hmg : mg ("law" : PySem.Str) = some (.ref fa) := by
      have e : (HandSHeadRun.topDef Kh.R.prog 71).name = ("law" : PySem.Str) := by kernel_rfl
      rw [← e]
      exact hmg0
    obtain ⟨fd, cs, sp, f1, f2, f3, hb, hsp, hF⟩ := Kh.facts (w := w) KX G hmg c hTa hTb hTc
    exact ⟨K, fd, cs, sp, KX, f1, f2, f3, hb, hsp, hF⟩
