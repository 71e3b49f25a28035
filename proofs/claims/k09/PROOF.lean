import PyProof.Rows.All
import Wide.All
import OpenK.AllK
import Wide.FinOn
import HandS.ForMost
import HandS.Zip
import HandS.ExcInit
import HandS.ExcValue
import HandS.ExcField
import HandS.ExcIs
import HandS.ClsMeth
import KE.KExcIs
import HandS.Codes
import KE.KExcSuper
import HandS.Gcd
import HandS.Wide
import HandS.IsInst
import HandS.Flow
import HandS.ExcOwn
import HandS.WordsExc
import HandS.Iter
import HandS.Rev
import HandS.Comp
import HandS.Strs
import HandS.StrMore
import HandS.TryMany
import HandS.Lambda
import PySem.Challenge.RW_toldmeans_k09_whole_fits_to_a_gap
import HandS.Style
import KE.KOpsOwn
import KE.GoesEnum
import HandS.TupLe
import HandS.Deep
import HandS.OwnEq
import HandS.Defaults
import KE.GoesMore
import HandS.TupAny
import HandS.WideBits
import HandS.MakeKw
import HandS.Head3
import HandS.HeadHook2
import KE.RegKSuper
set_option Elab.async false
set_option linter.all false
set_option maxRecDepth 100000
set_option maxHeartbeats 4000000
/-! Rules of our own over the hand layer: errors as values, repr of data, lists that stand apart from the table of modules. -/
namespace Kz
open PySem PySem.Spec PyProof.Rows L2

/-! ### an own error class, called for a value -/
section
variable {X : Cx} {e : Expr} {es : List Expr} {ta : TA} {p pos p1 p2 : Pos}

end

/-! ### new lists that are not the table of modules -/
section
variable {X : Cx} {es : List Expr} {t : TA} {pos : Pos}
def tLstN (t : TA) : TE := fun σ H Q => t σ H fun xs H1 => xs.length ≤ sizeLine ∧ ∀ p, H1 p = none → p ≠ sysModules → Q (.ref p) (upd H1 p (.lst xs))
theorem pe_lstN (h : PA X es t) : PE X (.List es pos) (tLstN t) := by
  constructor
  intro pins s σ H Q I hq
  refine wpAny_List_spliced (thn (h.run pos pins s σ H _ I hq) ?_)
  rintro us s1 ⟨xs, H1, I1, r, z, q⟩
  refine ⟨by rw [← r.length]; exact z, ?_⟩
  have free : H1 s1.heap.objs.size = none := I1.hok.fresh (Nat.le_refl _)
  have ob : ObjOk X.prog X.w (upd H1 s1.heap.objs.size (.lst xs)) (s1.heap.push { cls := .type "list", data := .seq us.toArray }) s1.heap.objs.size (.lst xs) :=
    ⟨z, us, 0, r, Heap.get?_push_size _ rfl⟩
  exact ⟨.ref s1.heap.objs.size, _, I1.laid (t' := s1.toks) (fun b u e => Heap.get?_push_of_some _ e) (Nat.le_refl _) ob, rfl, q _ free (Nat.ne_of_gt I1.big)⟩
end

/-! ### repr of data: None, bools, ints, texts, lists, tuples, dicts by int and text keys -/
def keyD : Key → PyData
  | .inl i => .int i
  | .inr x => .str x
mutual
inductive Dq (K : PySem.W.Frag) (H : Hp) : V → PyData → Prop
  | non : Dq K H .non .none
  | bl (b : Bool) : Dq K H (.bl b) (.bool b)
  | int (i : Int) : Dq K H (.int i) (.int i)
  | str (x : Str) : Dq K H (.str x) (.str x)
  | lst {a : Addr} {xs : List V} {ds : List PyData} : H a = some (.lst xs) → a ≠ sysModules → DqAll K H xs ds → Dq K H (.ref a) (.list ds)
  | tup {a : Addr} {xs : List V} {ds : List PyData} : SqT K H a xs → DqAll K H xs ds → Dq K H (.ref a) (.tuple ds)
  | dic {a : Addr} {kvs : List (Key × V)} {ds : List PyData} : H a = some (.dK kvs) → DqAll K H (kvs.map (·.2)) ds → Dq K H (.ref a) (.dict ((kvs.map fun kv => keyD kv.1).zip ds))
inductive DqAll (K : PySem.W.Frag) (H : Hp) : List V → List PyData → Prop
  | nil : DqAll K H [] []
  | cons {v : V} {vs : List V} {d : PyData} {ds : List PyData} : Dq K H v d → DqAll K H vs ds → DqAll K H (v :: vs) (d :: ds)
end
theorem DqAll.length {K : PySem.W.Frag} {H : Hp} : ∀ {vs : List V} {ds : List PyData}, DqAll K H vs ds → vs.length = ds.length
  | _, _, .nil => rfl
  | _, _, .cons _ t => congrArg (· + 1) t.length
section
variable {X : Cx} {pins : List (Addr × Obj)} {σ : L2.St} {H : Hp} {s : Shared}
theorem reads_keys {P : Program} {w : World} {h : Heap} : ∀ {es : List DictEntry} {vs : List (Key × Value)}, PySem.Pairs (mixKind P w) es vs → ReadsAll h (es.map (·.key)) (vs.map fun kv => keyD kv.1) []
  | _, _, .nil => .nil
  | _, _, .cons (e := e) (kv := kv) hk hv t => by
    have rest := reads_keys (h := h) t
    have one : Reads h e.key (keyD kv.1) [] := by
      rcases keyIs_shape (show keyIs kv.1 e.key = true from hk) with ⟨i, t, e1, e2⟩ | ⟨x, t, e1, e2⟩
      · rw [e1, e2]
        exact .int i t
      · rw [e1, e2]
        exact .str x t
    exact .cons one rest
theorem vals_entries {P : Program} {w : World} : ∀ {es : List DictEntry} {vs : List (Key × Value)}, PySem.Pairs (mixKind P w) es vs → es.map (·.val) = vs.map (·.2)
  | _, _, .nil => rfl
  | _, _, .cons hk hv t => by
    rw [List.map_cons, List.map_cons, vals_entries t, hv]
theorem kv_vals : ∀ {kvs : List (Key × V)} {vs : List (Key × Value)}, KV kvs vs → Vals (kvs.map (·.2)) (vs.map (·.2))
  | _, _, .nil => .nil
  | _, _, .cons h t => .cons h.2 (kv_vals t)
theorem map_fst_zip' : ∀ {α β : Type} (l : List α) (m : List β), l.length = m.length → (l.zip m).map (·.1) = l
  | _, _, [], _, _ => rfl
  | _, _, a :: l, [], h => by cases h
  | _, _, a :: l, b :: m, h => by
    rw [List.zip_cons_cons, List.map_cons, map_fst_zip' l m (Nat.succ.inj h)]
theorem map_snd_zip' : ∀ {α β : Type} (l : List α) (m : List β), l.length = m.length → (l.zip m).map (·.2) = m
  | _, _, [], [], _ => rfl
  | _, _, [], _ :: _, h => by cases h
  | _, _, a :: l, [], h => by cases h
  | _, _, a :: l, b :: m, h => by
    rw [List.zip_cons_cons, List.map_cons, map_snd_zip' l m (Nat.succ.inj h)]
mutual
theorem Dq.reads (I : Inv X pins σ H s) : ∀ {v : V} {d : PyData} {u : Value}, Dq X.K H v d → RelV v u → ∃ as, Reads s.heap u d as ∧ sysModules ∉ as
  | _, _, _, .non, r => by
    cases r
    exact ⟨_, .none, by simp⟩
  | _, _, _, .bl b, r => by
    cases r
    exact ⟨_, .bool b, by simp⟩
  | _, _, _, .int i, r => by
    obtain ⟨t, rfl⟩ := r
    exact ⟨_, .int i t, by simp⟩
  | _, _, _, .str x, r => by
    obtain ⟨t, rfl⟩ := r
    exact ⟨_, .str x t, by simp⟩
  | _, _, _, .lst (a := a) hs hne ha, r => by
    cases r
    obtain ⟨_, its, n, rv, ho⟩ := (show ObjOk X.prog X.w H s.heap a (.lst _) from I.hok a _ hs)
    obtain ⟨as, hr, hn⟩ := DqAll.reads I ha rv
    refine ⟨_, .list ho rfl rfl hr, ?_⟩
    intro m
    rcases List.mem_cons.mp m with m | m
    · exact hne m.symm
    · exact hn m
  | _, _, _, .tup hs ha, r => by
    cases r
    obtain ⟨its, rv, ⟨o, ho, hc, n, hd⟩, _⟩ := I.tuple hs
    obtain ⟨as, hr, hn⟩ := DqAll.reads I ha rv
    exact ⟨_, .tuple ho hc hd hr, hn⟩
  | _, _, _, .dic (a := a) (kvs := kvs) (ds := ds) hs ha, r => by
    cases r
    obtain ⟨_, hne, vs, rel, o, es, ep, ho, hx, hd, _, hp, _⟩ := dk_of I.hok hs
    obtain ⟨bs, hr, hn⟩ := DqAll.reads I ha (kv_vals rel)
    have lk : (kvs.map fun kv => keyD kv.1).length = ds.length := by
      rw [List.length_map, ← ha.length, List.length_map]
    have ek : (vs.map fun kv => keyD kv.1) = kvs.map fun kv => keyD kv.1 := by
      have := rel.keys
      have c := congrArg (List.map keyD) this
      rw [List.map_map, List.map_map] at c
      exact c.symm
    have k1 : ReadsAll s.heap (es.toList.map (·.key)) (((kvs.map fun kv => keyD kv.1).zip ds).map (·.1)) [] := by
      rw [map_fst_zip' _ _ lk, ← ek]
      exact reads_keys hp
    have k2 : ReadsAll s.heap (es.toList.map (·.val)) (((kvs.map fun kv => keyD kv.1).zip ds).map (·.2)) bs := by
      rw [map_snd_zip' _ _ lk, vals_entries hp]
      exact hr
    refine ⟨_, .dict ho hx.1 hd k1 k2, ?_⟩
    intro m
    rcases List.mem_append.mp m with m | m
    · rcases List.mem_cons.mp m with m | m
      · rw [← m] at hne
        simp at hne
      · cases m
    · exact hn m
theorem DqAll.reads (I : Inv X pins σ H s) : ∀ {vs : List V} {ds : List PyData} {us : List Value}, DqAll X.K H vs ds → Vals vs us → ∃ as, ReadsAll s.heap us ds as ∧ sysModules ∉ as
  | _, _, _, .nil, r => by
    cases r
    exact ⟨_, .nil, by simp⟩
  | _, _, _, .cons h1 h2, r => by
    cases r with
    | cons r1 r2 =>
      obtain ⟨as, q1, n1⟩ := Dq.reads I h1 r1
      obtain ⟨bs, q2, n2⟩ := DqAll.reads I h2 r2
      exact ⟨_, .cons q1 q2, fun m => (List.mem_append.mp m).elim n1 n2⟩
end
end
/-- repr(x), x data at an address -/
def rRepr (K : PySem.W.Frag) : List V → Hp → VK → Prop := fun xs H Q => ∃ (a : Addr) (d : PyData), xs = [.ref a] ∧ Dq K H (.ref a) d ∧ d.showable = true ∧ d.depth ≤ 60 ∧ d.shown.length ≤ sizeLine ∧ Q (.str d.shown) H
theorem call_repr {X : Cx} (hg : X.A.guards = some []) (hu : X.A.units + 64 < cLine) : CallR X (.builtin "repr") (rRepr X.K) := by
  intro pins s σ H xs us Q I r h
  obtain ⟨a, d, rfl, hd, hs, hdp, hz, q⟩ := h
  obtain ⟨u, rfl, ru⟩ := vals1 r
  cases (show u = Value.ref a from ru)
  obtain ⟨as, rd, hn⟩ := Dq.reads I hd rfl
  refine repr_of_reads' rd hs (fun _ => hn) hg (by omega) (fun _ _ e => e) (fun h' t tk hk => ?_) hz
  exact ⟨.str d.shown, H, I.kept (t' := tk) hk, ⟨t, rfl⟩, q⟩
end Kz
set_option linter.all false
set_option maxRecDepth 100000
set_option maxHeartbeats 4000000
/-! Defs whose bodies ask for repr: the promise holds wherever no repr is under way around the call. -/
namespace Kz
open PySem PySem.Spec PyProof.Rows L2
section
variable {X : Cx}
end

/-- FnOk where no repr is under way -/
structure FnG (P : Program) (w : World) (K : PySem.W.Frag) (mg : Str → Option Value) (base : Heap) (CX : CXT) (k : Nat) (f : Addr) (fd : FuncData) (ps : List Str) (sp : Sp) : Prop where
  many : ∀ vs H Q E, sp vs H Q E → vs.length = ps.length
  go : ∀ (A : Around), A.guards = some [] → Room k A → ∀ (outer : List Env) (s : Shared) (H : Hp), Env0 P w K mg base A outer s H → ∀ (args : Args) (us : List Value) (vs : List V),
    BindsTo s fd args (ps.zip us) → Vals vs us → ∀ (Q : VK) (E : XK), sp vs H Q E → codeAny (model P w) A (.call (.ref f) args) (CR CX outer P w H s Q E) s
theorem FnG.of {P : Program} {w : World} {K : PySem.W.Frag} {mg : Str → Option Value} {base : Heap} {CX : CXT} {k : Nat} {f : Addr} {fd : FuncData} {ps : List Str} {sp : Sp} (F : FnOk P w K mg base CX k f fd ps sp) :
    FnG P w K mg base CX k f fd ps sp := ⟨F.len, fun A _ hr outer s H e0 args us vs hb r Q E h => F.run A outer s H args us vs Q E hr e0 hb r h⟩

section
variable {P : Program} {w : World} {K : PySem.W.Frag} {mg : Str → Option Value} {base : Heap} {CX : CXT} {k : Nat} {f : Addr} {x qual : Str} {st : Stmt} {fd : FuncData} {N ps : List Str} {sp : Sp}
/-- a def by its body -/
theorem fnG_of (F : Fun K x qual st f fd) (S : FnScope N ps (defScope st)) (many : ∀ vs H Q E, sp vs H Q E → vs.length = ps.length)
    (body : ∀ (cdv : Value) (A : Around) (outer : List Env) (s : Shared) (H : Hp) (vs : List V) (Q : VK) (E : XK), A.guards = some [] → Room k (A.deeper (envOfC qual (defScope st) s.heap.objs.size f cdv)) → sp vs H Q E →
      ∃ t, PSs (cxOf CX P w K mg base N qual (defScope st) f cdv A outer s H E) (defBody st) t ∧ t { nx := fun _ H' => Q .non H', rt := Q } (start N vs) H) :
    FnG P w K mg base CX (k + 1) f fd ps sp := by
  obtain ⟨oc, od, kV, doc, pm, an, cdv, ct, osl, rfl, lk, hcd⟩ := F.ex
  constructor
  · exact many
  intro A hg room outer s H e0 args us vs hb r Q E want
  have KX : K.In s.heap := e0.mod.kin.keeps fun b o z => (e0.bs b o z).1
  have lim : s.heap.NoLimit := e0.mod.nolimit.keeps fun b o z => (e0.bs b o z).1
  refine codeAny_call_function room.depth (KX _ _ lk) rfl S.co S.gen rfl (PySem.W.codeRec_of KX hcd) (hb _ _ _ _ ?_)
  refine wpAny_newFunctionEnv_cells S.kind ?_ ?_
  · rintro ⟨n, v⟩ mem
    cases S.par n (List.of_mem_zip mem).1 with
    | inl q => exact .inl q
    | inr q => exact .inr ⟨q, PySem.W.cellsFrom_some _ _ _ (.inl q)⟩
  rintro env rfl s1 xs
  refine ⟨lim.keeps xs.toInCall.keep, codeAny_func ?_⟩
  obtain ⟨t, ht, hq⟩ := body cdv A outer s H vs Q E hg (room.deeper _) want
  have I := inv_start (CX := CX) (P := P) (mg := mg) (E := E) S room.hd e0 (many _ _ _ _ want) r xs
  refine wpAny_mono (ht.run [] s1 (start N vs) H _ I hq) ?_ fun _ _ z => z
  intro fl s' hs
  have fin : ∀ {σ' : L2.St} {H' : Hp} {v : V} {u : Value}, Inv (cxOf CX P w K mg base N qual (defScope st) f cdv A outer s H E) [] σ' H' s' → RelV v u → Q v H' → CE outer P w H s Q u s' := by
    intro σ' H' v u J rv q
    exact ⟨v, H', J.os, J.bare, J.base, J.hok, rv, q⟩
  rcases fl with _ | _ | _ | u
  · obtain ⟨σ', H', J, q⟩ := hs
    exact fin (v := V.non) (u := Value.none) J rfl q
  · obtain ⟨_, _, _, q⟩ := hs
    exact q.elim
  · obtain ⟨_, _, _, q⟩ := hs
    exact q.elim
  · obtain ⟨v, σ', H', J, rv, q⟩ := hs
    exact fin J rv q
end

section
variable {X : Cx} {CX : CXT} {k : Nat} {f : Addr} {fd : FuncData} {ps : List Str} {sp : Sp} {E : XK} {x : Str} {p pos : Pos} {e : Expr} {es : List Expr} {t : TA}
end

/-! ### the end of a law whose def asks for repr -/
/-- the script, tracked by what it is -/
def scrH (a : Addr) (o : Obj) (xs : List V) : Hp := fun b => if b = a then some (.frz o (.lst xs)) else none
theorem scrH_at {a : Addr} {o : Obj} {xs : List V} : scrH a o xs a = some (.frz o (.lst xs)) := if_pos rfl
theorem scrH_off {a b : Addr} {o : Obj} {xs : List V} (h : b ≠ a) : scrH a o xs b = none := if_neg h
/-- the base that a heap with the script aside makes -/
theorem side_env {P : Program} {w : World} {K : PySem.W.Frag} {mg mb : Str → Option Value} {h : Heap} {H : Hp} {s : Shared} {a : Addr} {l : Array Value} (hs : s.heap = h) (KX : K.In h) (hns : h.Ns mainGlobals mg) (hb : h.Ns builtinsNs mb)
    (hbb : ∀ x : Str, x ≠ "__name__" → mb x = bootBuiltins x) (lim : h.NoLimit) (gens : s.gens = #[]) (ha : h.get? a = some { cls := .type "list", data := .seq l })
    (only : ∀ b, b ≠ a → H b = none) (ok : HOk P w H h) (apart : H a ≠ none → K.lookup a = none) :
    K.In (hidT h H) ∧ (hidT h H).Ns mainGlobals mg ∧ Env0 P w K mg (hidT h H) callerA [] s H := by
  subst hs
  have free : ∀ {b : Addr} {o : Obj} {es : Array DictEntry} {ep : Nat}, s.heap.get? b = some o → o.data = .dict es ep → H b = none := by
    intro b o es ep e1 e2
    by_cases hba : b = a
    · rw [hba, ha] at e1
      cases e1
      cases e2
    · exact only b hba
  have ns : ∀ {b : Addr} {m : Str → Option Value}, s.heap.Ns b m → (hidT s.heap H).Ns b m := by
    rintro b m ⟨o, es, ep, e1, e2, r⟩
    exact ⟨o, es, ep, hidT_get e1 (free e1 e2), e2, r⟩
  have kin : K.In (hidT s.heap H) := by
    intro b o e1
    refine hidT_get (KX b o e1) ?_
    by_cases hba : b = a
    · subst hba
      cases q : H b with
      | none => rfl
      | some u =>
        have z := apart (by rw [q]; exact fun z => nomatch z)
        rw [z] at e1
        cases e1
    · exact only b hba
  have nolim : (hidT s.heap H).NoLimit := by
    obtain ⟨mc, z1, z2⟩ := lim
    exact ⟨mc, ns z1, z2⟩
  refine ⟨kin, ns hns, ⟨rfl, ⟨kin, ns hns, ⟨mb, ns hb, hbb⟩, nolim⟩, fun b o z => of_hidT z, Nat.le_of_eq (hidT_size _ _), trivial, ?_, ok, .of_eq gens⟩⟩
  intro b z
  cases (show b ∈ ([] : List Addr) from z)

theorem law_G {P : Program} {w : World} {K : PySem.W.Frag} {mg mb : Str → Option Value} {CX : CXT} {k : Nat} {fa a : Addr} {fd : FuncData} {x : Str} {sp : Sp} {s : Shared} {vs : List Value} {ns : List Int}
    (KX : K.In s.heap) (hns : s.heap.Ns mainGlobals mg) (hb : s.heap.Ns builtinsNs mb) (hbb : ∀ x : Str, x ≠ "__name__" → mb x = bootBuiltins x) (lim : s.heap.NoLimit) (gens : s.gens = #[])
    (ha : s.heap.get? a = some { cls := .type "list", data := .seq vs.toArray }) (hi : IntsAre vs ns) (hl : ns.length ≤ sizeLine) (hr : Room k callerA)
    (F : ∀ base : Heap, K.In base → base.Ns mainGlobals mg → FnG P w K mg base CX k fa fd [x] sp) (bind : ∀ (s : Shared) (u : Value), BindsTo s fd ⟨[u], []⟩ [(x, u)])
    (hsp : ∀ H : Hp, Only H → SqL K H a (ns.map V.int) → sp [.ref a] H (fun v _ => v = .bl true) fun _ _ _ => False)
    (hCX : ∀ H e s', CX [] H s (fun _ _ _ => False) e s' → False) :
    codeAny (model P w) callerA (.call (.ref fa) ⟨[.ref a], []⟩) (fun r s' => r = .ok (.ret (.bool true)) ∧ OldK s.heap s'.heap ∧ s'.os = s.os ∧ AllBare s'.gens) s := by
  have rv := L2.vals_ints hi
  have core : ∀ H : Hp, Only H → SqL K H a (ns.map V.int) → (∀ b, b ≠ a → H b = none) → HOk P w H s.heap → (H a ≠ none → K.lookup a = none) →
      codeAny (model P w) callerA (.call (.ref fa) ⟨[.ref a], []⟩) (fun r s' => r = .ok (.ret (.bool true)) ∧ OldK s.heap s'.heap ∧ s'.os = s.os ∧ AllBare s'.gens) s := by
    intro H hO hS only ok apart
    obtain ⟨k1, k2, e0⟩ := side_env (P := P) (w := w) rfl KX hns hb hbb lim gens ha only ok apart
    refine codeAny_mono ((F _ k1 k2).go callerA rfl hr [] s H e0 ⟨[.ref a], []⟩ [.ref a] [.ref a] (bind s (.ref a)) (.cons rfl .nil) _ _ (hsp H hO hS)) ?_
    intro r s' got
    rcases r with er | fl
    · exact (hCX H er s' got).elim
    rcases fl with _ | _ | _ | u
    all_goals try exact False.elim got
    obtain ⟨v, H', os, bare, un, ok', rel, q⟩ := got
    cases (show v = V.bl true from q)
    cases (show u = Value.bool true from rel)
    refine ⟨rfl, OldK.of_keep fun b o e1 => ?_, os, bare⟩
    rcases hO b with z | ⟨ob, xs, z⟩
    · exact un.keep b o e1 z (fun m => by cases (show b ∈ ([] : List Addr) from m)) (by simp)
    · obtain ⟨w1, _⟩ := ok b _ z
      obtain ⟨w2, _⟩ := ok' b _ (un.frzs b ob _ z)
      rw [e1] at w1
      cases w1
      exact w2
  cases hk : K.lookup a with
  | some o =>
    have e1 := KX a o hk
    rw [ha] at e1
    cases e1
    have many : (vs.toArray).size ≤ sizeLine := by
      rw [List.size_toArray, hi.length]
      exact hl
    exact core (fun _ => none) (fun _ => .inl rfl) (.inr ⟨_, vs.toArray, _, hk, rfl, rfl, rfl, many, by simpa using rv⟩) (fun _ _ => rfl) (fun b u z => nomatch z) (fun z => absurd rfl z)
  | none =>
    refine core (scrH a { cls := .type "list", data := .seq vs.toArray } (ns.map V.int)) (fun b => ?_) (.inl (.inr ⟨_, scrH_at⟩)) (fun b hb => scrH_off hb) (fun b u z => ?_) fun _ => hk
    · by_cases hba : b = a
      · rw [hba]
        exact .inr ⟨_, _, scrH_at⟩
      · exact .inl (scrH_off hba)
    · by_cases hba : b = a
      · subst hba
        cases scrH_at.symm.trans z
        refine ⟨ha, ?_, vs, _, rv, ha⟩
        rw [List.length_map]
        exact hl
      · cases (scrH_off hba).symm.trans z

theorem walk_G {l : PySem.W.OpenLaw} {n k : Nat} {q : Program} {loose : List Str} {XP : (Str → Option Value) → Heap → Prop} {YP : World → Heap → Prop} {d : DefRec} {K : Params → PySem.W.Frag} {CX : World → CXT} {sp : World → Sp} {x : Str}
    (hn : l.most = some n) (small : n ≤ sizeLine) (nodf : d.params.defaults = []) (hr : Room k callerA) (hY : ∀ (w : World) (h : Heap), YP w h → (K w.params).In h)
    (F : ∀ (w : World) (mg : Str → Option Value) (fa : Addr) (h : Heap), (K w.params).In h → h.Ns mainGlobals mg → mg d.name = some (.ref fa) →
      ∃ fd : FuncData, (∀ (s : Shared) (u : Value), BindsTo s fd ⟨[u], []⟩ [(x, u)]) ∧
        ∀ base : Heap, (K w.params).In base → base.Ns mainGlobals mg → FnG l.prog w (K w.params) mg base (CX w) k fa fd [x] (sp w))
    (hsp : ∀ (w : World) (H : Hp) (a : Addr) (ns : List Int), ns.length ≤ n → Only H → SqL (K w.params) H a (ns.map V.int) → sp w [.ref a] H (fun v _ => v = .bl true) fun _ _ _ => False)
    (hCX : ∀ (w : World) (H : Hp) (s : Shared) (e : Value) (s' : Shared), CX w [] H s (fun _ _ _ => False) e s' → False) :
    PySem.W.WalkO q loose XP YP l.row.toRowW d [] (fun f vs => PySem.call f vs) := by
  refine Att.attach_call hn nodf ?_
  intro w s₀ s₁ mg mb fa o pm cd doc a vs ns G Y ho hd hcd hmg hobj hints few hg
  obtain ⟨fd, hb, hF⟩ := F w mg fa _ (hY w _ Y) G.T.g hmg
  exact law_G (hY w _ Y) G.T.g G.T.b G.T.builtins G.T.nolimit hg hobj hints (Nat.le_trans few small) hr hF hb (fun H hO hS => hsp w H a ns few hO hS) fun H e s' => hCX w H s₁ e s'
end Kz
set_option linter.all false
set_option maxRecDepth 100000
set_option maxHeartbeats 4000000
/-! The pen that a law draws from: a dict of five entries. -/
namespace Kz
open PySem PySem.Spec PyProof.Rows L2
def penK (c : Addr) (i d n f : Int) : List (Key × V) := [(.inr "cells", .ref c), (.inr "at", .int i), (.inr "digits", .int d), (.inr "count", .int n), (.inr "fold", .int f)]
theorem q01 : ¬ (("cells" : Str) = "at") := by decide +kernel
theorem q02 : ¬ (("cells" : Str) = "digits") := by decide +kernel
theorem q03 : ¬ (("cells" : Str) = "count") := by decide +kernel
theorem q04 : ¬ (("cells" : Str) = "fold") := by decide +kernel
theorem q12 : ¬ (("at" : Str) = "digits") := by decide +kernel
theorem q13 : ¬ (("at" : Str) = "count") := by decide +kernel
theorem q14 : ¬ (("at" : Str) = "fold") := by decide +kernel
theorem q23 : ¬ (("digits" : Str) = "count") := by decide +kernel
theorem q24 : ¬ (("digits" : Str) = "fold") := by decide +kernel
theorem q34 : ¬ (("count" : Str) = "fold") := by decide +kernel
theorem kne {a b : Str} (h : ¬ a = b) : ¬ ((Sum.inr a : Key) = Sum.inr b) := fun e => h (Sum.inr.inj e)
theorem kne' {a b : Str} (h : ¬ a = b) : ¬ ((Sum.inr b : Key) = Sum.inr a) := fun e => h (Sum.inr.inj e).symm
section
variable {c : Addr} {i d n f z : Int}
theorem pk_cells : valV (penK c i d n f) (.inr "cells") = some (.ref c) := valV_pos rfl
theorem pk_at : valV (penK c i d n f) (.inr "at") = some (.int i) := (valV_neg (kne q01)).trans (valV_pos rfl)
theorem pk_digits : valV (penK c i d n f) (.inr "digits") = some (.int d) := (valV_neg (kne q02)).trans ((valV_neg (kne q12)).trans (valV_pos rfl))
theorem pk_count : valV (penK c i d n f) (.inr "count") = some (.int n) := (valV_neg (kne q03)).trans ((valV_neg (kne q13)).trans ((valV_neg (kne q23)).trans (valV_pos rfl)))
theorem pk_fold : valV (penK c i d n f) (.inr "fold") = some (.int f) := (valV_neg (kne q04)).trans ((valV_neg (kne q14)).trans ((valV_neg (kne q24)).trans ((valV_neg (kne q34)).trans (valV_pos rfl))))
theorem put_there {kvs : List (Key × V)} {k : Key} {v w : V} (h : valV kvs k = some v) : putK kvs k w = kvs.map fun kv => if kv.1 = k then (kv.1, w) else kv := by
  unfold putK
  have e : (kvs.any fun kv => decide (kv.1 = k)) = true := by
    rw [valV_any, h]
    rfl
  rw [if_pos e]
theorem put_at : putK (penK c i d n f) (.inr "at") (.int z) = penK c z d n f := by
  rw [put_there pk_at]
  simp only [penK, List.map_cons, List.map_nil, if_neg (kne q01), if_neg (kne' q12), if_neg (kne' q13), if_neg (kne' q14), if_pos]
theorem put_digits : putK (penK c i d n f) (.inr "digits") (.int z) = penK c i z n f := by
  rw [put_there pk_digits]
  simp only [penK, List.map_cons, List.map_nil, if_neg (kne q02), if_neg (kne q12), if_neg (kne' q23), if_neg (kne' q24), if_pos]
theorem put_count : putK (penK c i d n f) (.inr "count") (.int z) = penK c i d z f := by
  rw [put_there pk_count]
  simp only [penK, List.map_cons, List.map_nil, if_neg (kne q03), if_neg (kne q13), if_neg (kne q23), if_neg (kne' q34), if_pos]
theorem put_fold : putK (penK c i d n f) (.inr "fold") (.int z) = penK c i d n z := by
  rw [put_there pk_fold]
  simp only [penK, List.map_cons, List.map_nil, if_neg (kne q04), if_neg (kne q14), if_neg (kne q24), if_neg (kne q34), if_pos]
end
theorem dg_of {H : Hp} {a : Addr} {kvs : List (Key × V)} {k : Key} {v : V} (h : H a = some (.dK kvs)) (e : valV kvs k = some v) : DGet H a (kV k) (some v) := e ▸ DGet.k h
theorem dp_of {H : Hp} {a : Addr} {kvs kvs' : List (Key × V)} {k : Key} {v : V} (h : H a = some (.dK kvs)) (l : kvs.length ≤ 1000) (e : putK kvs k v = kvs') : DPut H a (kV k) v (upd H a (.dK kvs')) := e ▸ DPut.k h (small1000 l)

/-- all stands as before but what is at p -/
def But (p : Addr) (H H' : Hp) : Prop := ∀ b o, H b = some o → b ≠ p → H' b = some o
theorem But.refl {p : Addr} {H : Hp} : But p H H := fun _ _ e _ => e
theorem But.trans {p : Addr} {H H1 H2 : Hp} (a : But p H H1) (b : But p H1 H2) : But p H H2 := fun c o e n => b c o (a c o e n) n
theorem But.set {p : Addr} {H H' : Hp} {o : HO} (a : But p H H') : But p H (upd H' p o) := fun c u e n => by
  rw [upd_ne n]
  exact a c u e n
theorem But.new {p q : Addr} {H H' : Hp} {o : HO} (a : But p H H') (n : H' q = none) : But p H (upd H' q o) := fun c u e m => by
  have z := a c u e m
  rw [upd_ne (ne_of_none z n)]
  exact z
theorem But.same {p : Addr} {H H' : Hp} (s : Same H H') : But p H H' := fun c u e _ => s c u e

/-- a pen at p from which n draws were made at most, its cells at c -/
def Pen (H : Hp) (p c : Addr) (n : Nat) : Prop := ∃ (ns : List Int) (i d m f : Int), H p = some (.dK (penK c i d m f)) ∧ H c = some (.lst (ns.map V.int)) ∧
  0 ≤ i ∧ 0 ≤ d ∧ 0 ≤ m ∧ m ≤ (n : Int) ∧ 0 ≤ f ∧ f < 2147483587
theorem Pen.keep {H H' : Hp} {p c : Addr} {n : Nat} (h : Pen H p c n) (hp : H' p = H p) (hc : H' c = H c) : Pen H' p c n := by
  obtain ⟨ns, i, d, m, f, e1, e2, r⟩ := h
  exact ⟨ns, i, d, m, f, hp.trans e1, hc.trans e2, r⟩
theorem Pen.new {H : Hp} {p c q : Addr} {n : Nat} {o : HO} (h : Pen H p c n) (e : H q = none) : Pen (upd H q o) p c n := by
  obtain ⟨ns, i, d, m, f, e1, e2, r⟩ := id h
  exact h.keep (upd_ne (ne_of_none e1 e)) (upd_ne (ne_of_none e2 e))
theorem Pen.same {H H' : Hp} {p c : Addr} {n : Nat} (h : Pen H p c n) (s : Same H H') : Pen H' p c n := by
  obtain ⟨ns, i, d, m, f, e1, e2, r⟩ := h
  exact ⟨ns, i, d, m, f, s _ _ e1, s _ _ e2, r⟩
theorem Pen.more {H : Hp} {p c : Addr} {n k : Nat} (h : Pen H p c n) (l : n ≤ k) : Pen H p c k := by
  obtain ⟨ns, i, d, m, f, e1, e2, a, b, x, y, r⟩ := h
  exact ⟨ns, i, d, m, f, e1, e2, a, b, x, by omega, r⟩
theorem Pen.off {H : Hp} {p c q : Addr} {n : Nat} {o : HO} (h : Pen H p c n) (e : H q = some o) (u : ∀ kvs, o ≠ .dK kvs) : q ≠ p := by
  obtain ⟨ns, i, d, m, f, e1, _⟩ := h
  exact ne_of e e1 (u _)
theorem Pen.newP {H : Hp} {p c q : Addr} {n : Nat} (h : Pen H p c n) (e : H q = none) : q ≠ p := by
  obtain ⟨ns, i, d, m, f, e1, _⟩ := h
  exact (ne_of_none e1 e).symm
theorem Pen.newC {H : Hp} {p c q : Addr} {n : Nat} (h : Pen H p c n) (e : H q = none) : q ≠ c := by
  obtain ⟨ns, i, d, m, f, _, e1, _⟩ := h
  exact (ne_of_none e1 e).symm
theorem Pen.set {H : Hp} {p c q : Addr} {n : Nat} {o : HO} (h : Pen H p c n) (np : q ≠ p) (nc : q ≠ c) : Pen (upd H q o) p c n := h.keep (upd_ne np.symm) (upd_ne nc.symm)

/-! ### the promises -/
def spPen (K : PySem.W.Frag) : Sp := fun vs H Q _ => ∃ (a : Addr) (ns : List Int), vs = [.ref a] ∧ SqL K H a (ns.map V.int) ∧ ∀ (p c : Addr) (H' : Hp), H p = none → Same H H' → Pen H' p c 0 → Q (.ref p) H'
def spDraw : Sp := fun vs H Q _ => ∃ (p c : Addr) (n : Nat) (many : Int), vs = [.ref p, .int many] ∧ Pen H p c n ∧ n ≤ 1000000 ∧ 0 < many ∧ many < 1073741824 ∧
  ∀ (d : Int) (H' : Hp), 0 ≤ d → d < many → Pen H' p c (n + 1) → But p H H' → Q (.int d) H'
def spPick : Sp := fun vs H Q _ => ∃ (p c l : Addr) (n : Nat) (xs : List V), vs = [.ref p, .ref l] ∧ Pen H p c n ∧ n ≤ 1000000 ∧ H l = some (.lst xs) ∧ 0 < xs.length ∧ xs.length < 1000000 ∧
  ∀ (j : Nat) (v : V) (H' : Hp), xs[j]? = some v → Pen H' p c (n + 1) → But p H H' → Q v H'
end Kz
set_option linter.all false
set_option maxRecDepth 100000
set_option maxHeartbeats 4000000
/-! Data that a law draws, and its text by repr. -/
namespace Kz
open PySem PySem.Spec PyProof.Rows L2
theorem Same.seqT {K : PySem.W.Frag} {H H' : Hp} {a : Addr} {xs : List V} (e : Same H H') (h : SqT K H a xs) : SqT K H' a xs := by
  rcases h with (h | ⟨o, h⟩) | h
  · exact .inl (.inl (e _ _ h))
  · exact .inl (.inr ⟨o, e _ _ h⟩)
  · exact .inr h
mutual
theorem Dq.same {K : PySem.W.Frag} {H H' : Hp} (s : Same H H') : ∀ {v : V} {d : PyData}, Dq K H v d → Dq K H' v d
  | _, _, .non => .non
  | _, _, .bl b => .bl b
  | _, _, .int i => .int i
  | _, _, .str x => .str x
  | _, _, .lst h n a => .lst (s _ _ h) n (DqAll.same s a)
  | _, _, .tup h a => .tup (Kz.Same.seqT s h) (DqAll.same s a)
  | _, _, .dic h a => .dic (s _ _ h) (DqAll.same s a)
theorem DqAll.same {K : PySem.W.Frag} {H H' : Hp} (s : Same H H') : ∀ {vs : List V} {ds : List PyData}, DqAll K H vs ds → DqAll K H' vs ds
  | _, _, .nil => .nil
  | _, _, .cons h t => .cons (Dq.same s h) (DqAll.same s t)
end
/-- the heap without what stands at p and at g -/
def dd (p g : Addr) (H : Hp) : Hp := fun b => if b = p then none else if b = g then none else H b
/-- small data: its repr is short -/
structure Small (d : PyData) : Prop where
  sh : d.showable = true
  dp : d.depth ≤ 5
  lv : d.leavesShort 1921 = true
  bk : d.bulk ≤ 2000
structure Good (K : PySem.W.Frag) (H : Hp) (v : V) : Prop where
  ex : ∃ d, Dq K H v d ∧ Small d
theorem Good.same {K : PySem.W.Frag} {H H' : Hp} {v : V} (g : Good K H v) (s : Same H H') : Good K H' v := by
  obtain ⟨d, q, m⟩ := g
  exact ⟨d, q.same s, m⟩
/-! ### the numbers and texts -/
theorem small_int {z : Int} (h : z.natAbs.log2 < 1920) : Small (.int z) where
  sh := by simp only [PyData.showable, h, decide_true]
  dp := Nat.zero_le _
  lv := by
    have := int_text_len_1921 h
    simp only [PyData.leavesShort, PyData.shown]
    exact decide_eq_true this
  bk := Nat.zero_le _
end Kz
set_option linter.all false
set_option maxRecDepth 100000
set_option maxHeartbeats 4000000
/-! An own error's `__init__` that begins with super().__init__(text). -/
namespace Kz
open PySem PySem.Spec PyProof.Rows L2
abbrev supEnv (qual : Str) (scope : Scope) (L f : Addr) (cd : Value) (cc : Addr) : Env := PySem.W.envX qual scope L f cd [("__class__", cc)]
def cxSup (P : Program) (w : World) (K : PySem.W.Frag) (mg : Str → Option Value) (base : Heap) (N : List Str) (qual : Str) (scope : Scope) (f : Addr) (cd : Value) (cc : Addr) (A : Around) (outer : List Env) (s : Shared) (H : Hp) (E : XK) : Cx where
  prog := P
  w := w
  K := K
  mg := mg
  base := base
  A := A.deeper (supEnv qual scope s.heap.objs.size f cd cc)
  N := N
  s_0 := s
  H_0 := H
  env := supEnv qual scope s.heap.objs.size f cd cc
  outer := outer
  stack := supEnv qual scope s.heap.objs.size f cd cc :: outer
  ex := []
  calm := true
  fn := fun _ => false
  pn := []
  xe := fun e s' => wpAny (model P w) (A.deeper (supEnv qual scope s.heap.objs.size f cd cc)) (leaving (supEnv qual scope s.heap.objs.size f cd cc) e) (fun _ s'' => CX0 outer H s E e s'') (fun e' s'' => CX0 outer H s E e' s'') s'
/-- the scope of such a def -/
structure SupScope (N P : List Str) (sc : Scope) : Prop where
  kind : sc.kind = .function
  co : sc.isCoroutine = false
  gen : sc.isGenerator = false
  nd : N.Nodup
  pre : N.take P.length = P
  par : ∀ x ∈ P, sc.names.lookup x = some .local
  nocell : ∀ y ∈ sc.names, y.2 ≠ .cell
  free : ∀ y ∈ sc.names, y.2 = .free → y.1 = ("__class__" : Str)
  sup : sc.names.lookup ("super" : Str) = some .globalImplicit
  cls : sc.names.lookup ("__class__" : Str) = some .free
theorem lookup_out {x : Str} : ∀ {l : List (Str × Value)}, (∀ v, (x, v) ∉ l) → l.lookup x = none
  | [], _ => rfl
  | (n, v) :: r, h => by
    have ne : (x == n) = false := by
      cases e : x == n with
      | false => rfl
      | true =>
        cases beq_iff_eq.mp e
        exact absurd List.mem_cons_self (h v)
    show (match x == n with | true => some v | false => r.lookup x) = none
    rw [ne]
    exact lookup_out fun u hu => h u (List.mem_cons_of_mem _ hu)
theorem rev_lookup {x : Str} {v : Value} : ∀ {ps : List Str} {us : List Value} {i : Nat}, ps.Nodup → ps[i]? = some x → us[i]? = some v → ((ps.zip us).reverse).lookup x = some v
  | [], _, _, _, h, _ => by simp at h
  | _ :: _, [], _, _, _, h => by simp at h
  | p :: ps, w :: us, 0, nd, h1, h2 => by
    simp at h1 h2
    subst h1
    subst h2
    show ((p, w) :: ps.zip us).reverse.lookup p = some w
    have no : ((ps.zip us).reverse).lookup p = none := lookup_out fun v hv => (List.nodup_cons.mp nd).1 (List.of_mem_zip (List.mem_reverse.mp hv)).1
    rw [List.reverse_cons, List.lookup_append, no]
    simp [List.lookup]
  | p :: ps, w :: us, i + 1, nd, h1, h2 => by
    show ((p, w) :: ps.zip us).reverse.lookup x = some v
    rw [List.reverse_cons, List.lookup_append, rev_lookup (i := i) (List.nodup_cons.mp nd).2 (by simpa using h1) (by simpa using h2)]
    rfl
theorem inv_startS {P : Program} {w : World} {K : PySem.W.Frag} {mg : Str → Option Value} {base : Heap} {N ps : List Str} {qual : Str} {scope : Scope} {f cc : Addr} {cd : Value} {A : Around} {outer : List Env} {s : Shared} {H : Hp} {E : XK} {us : List Value} {vs : List V} {h₁ : Heap} {tk : Nat} {D : Value} {ocl : Obj}
    (S : SupScope N ps scope) (hd : A.handled = none) (e0 : Env0 P w K mg base A outer s H) (hl : vs.length = ps.length) (r : Vals vs us)
    (hc : K.lookup cc = some ocl) (hcd : ocl.data = .cell (some D))
    (hns : h₁.Ns s.heap.objs.size (fun x => (ps.zip us).reverse.lookup x)) (hk : ∀ b o, s.heap.get? b = some o → h₁.get? b = some o) :
    Inv (cxSup P w K mg base N qual scope f cd cc A outer s H E) [] (start N vs) H { s with heap := h₁, toks := tk } := by
  have hpl : ps.length ≤ N.length := by have := congrArg List.length S.pre; rw [List.length_take] at this; omega
  have noA : ∀ b : Addr, b ∉ (cxSup P w K mg base N qual scope f cd cc A outer s H E).ex := fun b z => absurd (show b ∈ ([] : List Addr) from z) (by simp)
  have only : ∀ {x : Str} {c : Addr}, List.lookup x [(("__class__" : Str), cc)] = some c → x = "__class__" ∧ c = cc := fun {x c} z => by
    have m := PySem.mem_of_lookup z
    rw [List.mem_singleton] at m
    exact ⟨congrArg (·.1) m, congrArg (·.2) m⟩
  have bc := e0.bs cc _ (e0.mod.kin cc _ hc)
  refine ⟨⟨e0.mod, S.kind, rfl, rfl, Nat.le_refl _, fun y z c h1 h2 => ?_, fun y hy => ?_, fun y c h => ?_, fun _ => hd, Around.frames_deeper e0.frames, .inr ⟨rfl, rfl⟩, fun b z => absurd z (noA b), e0.bs, e0.bsz, fun b _ _ => noA b, fun b z => absurd z (noA b), e0.funs, e0.frf⟩,
    rfl, e0.bare, Un.kept hk, ⟨_, hns, fun i y v h1 h2 h3 => ?_⟩, fun y c h => ⟨some D, ?_⟩, e0.hok.fresh (Nat.le_refl _), fun y c h => ?_, fun p hp => absurd (show p ∈ ([] : List (Addr × Obj)) from hp) (by simp), e0.hok.kept hk, ?_⟩
  · exact (only h1).1.trans (only h2).1.symm
  · have hy : scope.names.lookup y = some .cell ∨ scope.names.lookup y = some .free := hy
    rcases hy with hy | hy
    · exact absurd rfl (S.nocell _ (PySem.mem_of_lookup hy))
    · have e := S.free _ (PySem.mem_of_lookup hy) rfl
      exact ⟨cc, by rw [show y = "__class__" from e]; rfl⟩
  · cases h
  · have hi : i < vs.length := by
      unfold L2.start at h2
      by_cases hi : i < vs.length
      · exact hi
      · rw [List.getElem?_append_right (by simpa using hi)] at h2
        rw [List.getElem?_replicate] at h2
        split at h2 <;> cases h2
    have ha : vs[i]? = some v := by
      unfold L2.start at h2
      rw [List.getElem?_append_left (by simpa using hi), List.getElem?_map] at h2
      cases e : vs[i]? with
      | none => rw [e] at h2; cases h2
      | some a => rw [e] at h2; cases h2; rfl
    obtain ⟨u, hu, rv⟩ := r.get ha
    have hp : ps[i]? = some y := by
      rw [← S.pre, List.getElem?_take_of_lt (by omega)]; exact h1
    have ndP : ps.Nodup := by rw [← S.pre]; exact S.nd.sublist (List.take_sublist _ _)
    exact ⟨u, rv, .inl ⟨S.par y (List.mem_of_getElem? hp), rev_lookup ndP hp hu⟩⟩
  · rw [(only h).2]
    exact ⟨_, hk _ _ bc.1, hcd⟩
  · rw [(only h).2]
    exact bc.2
  · unfold L2.start
    show _ = N.length
    rw [List.length_append, List.length_map, List.length_replicate]
    omega
/-- such an `__init__` as it stands: of the class at C -/
structure FunS (K : PySem.W.Frag) (P : Program) (qual : Str) (st : Stmt) (C f : Addr) (fd : FuncData) : Prop where
  ex : ∃ (oc : Value) (od : Option Addr) (kV doc pm : Value) (an : Option Addr) (cda cc : Addr) (ct : Value) (osl : Array (Option Value)),
    fd = PySem.W.fnX "__init__" qual (defArgs st) (defBody st) (defScope st) [("__class__", cc)] .none kV doc pm an (.ref cda) ct ∧ K.lookup f = some ⟨oc, od, .func fd, osl⟩ ∧ PySem.W.codeIn K (.ref cda) qual = true ∧
    (∃ cl cld csl, K.lookup cc = some ⟨cl, cld, .cell (some (.ref C)), csl⟩) ∧
    (∃ ccl cdd vs ccs file tf, K.lookup cda = some ⟨ccl, cdd, .fields vs, ccs⟩ ∧ (vs[2]? : Option Value) = some (.str file tf) ∧ ((P.main.file : Str) == file) = true)
  sup : ∀ {h : Heap} {mg : Str → Option Value}, K.In h → h.Ns mainGlobals mg → mg "super" = none
  top : (P.main.scope.names.lookup ("super" : Str)).isSome = false
  opq : PySem.W.nsIn K cStatics "thirdparty.any" = some none
  cls : ∃ cd, PySem.W.clsIn K C = some cd
  own : PySem.W.mroIn K C (.ref C) = some true
  nxt : PySem.W.ks_superIn K C C "__init__" = some (some (.builtin "ValueError.__init__"))
  isV : PySem.W.subIn K (.ref C) (.type "ValueError") = some true
section
variable {P : Program} {w : World} {K : PySem.W.Frag} {mg : Str → Option Value} {base : Heap}
/-- the method-wrapper is called -/
theorem mw_call {X : Cx} {pins : List (Addr × Obj)} {σ : L2.St} {H : Hp} {s : Shared} {C a u : Addr} {us : List Value} {Q : Value → Shared → Prop} {E : Value → Shared → Prop} (T : OexC X.K C) (I : Inv X pins σ H s) (e : H a = some (exo a C none)) (hl : us.length ≤ sizeLine)
    (hu : s.heap.get? u = some (PySem.W.kxs_mw "ValueError.__init__" a)) (h : ∀ s', Inv X pins σ H s' → Q .none s') : wpAny (model X.prog X.w) X.A (call (.ref u) us) Q E s := by
  obtain ⟨nm, q, N, bs, bm, sn, sub, ab, col, dd, k0, k1, k2, k3, k5, hC, hbm⟩ := T.cls
  obtain ⟨t1, ho⟩ := exo_at I.hok e
  obtain ⟨hp, g, d, t, os⟩ := s
  refine wpAny_call (codeAny_of_tree ?_)
  show wpAny _ X.A.in1 (callAny (.ref u) ⟨us, []⟩) _ _ _
  simp only [callAny]
  refine wpAny_bind (wpAny_load hu ?_)
  simp only [PySem.W.kxs_mw, show (Value.type "method-wrapper" == Value.type "method" || Value.type "method-wrapper" == Value.type "builtin_function_or_method" || Value.type "method-wrapper" == Value.type "method-wrapper") = true by decide, if_true]
  refine PySem.W.KFB.if_so (by decide) ?_
  refine wpAny_bind (PySem.W.check_bound_init F.excBase_ValueError.toExcCallFacts (I.kIn _ _ hC) ho rfl ?_)
  refine wpAny_bind (wpAny_pure (wpAny_pure ?_))
  refine ⟨PySem.plainId_quiet F.excBase_ValueError.init.plain _, codeAny_builtin F.excBase_ValueError.initEntry ?_⟩
  refine PySem.W.exc_init_tree (cls := .ref C) (t0 := t1) (dv := none) (c2 := .none) (c3 := .none) (b4 := .bool false) ho hl fun h' k hx _ => ?_
  have J := I.write (t' := t) (x := a) (e := a) (o := exo a C none) (by rw [e]; exact True.intro) (.inl rfl) k ⟨_, hx⟩ (exo_ok hx)
  have eu : upd H a (exo a C none) = H := by
    funext b
    by_cases hb : b = a
    · rw [hb, upd_same, e]
    · rw [upd_ne hb]
  rw [eu] at J
  exact h _ J
end
end Kz
set_option linter.all false
set_option maxRecDepth 100000
set_option maxHeartbeats 4000000
namespace Kz
open PySem PySem.Spec PyProof.Rows L2
section
variable {P : Program} {w : World} {K : PySem.W.Frag} {mg : Str → Option Value} {base : Heap}
theorem boot_super : bootBuiltins "super" = some (.type "super") := by decide +kernel
/-- THE RULE for an `__init__` that begins with super().__init__(text): its further rows as a term of rules -/
theorem fn_sup {k : Nat} {N ps : List Str} {qual : Str} {st : Stmt} {C f : Addr} {fd : FuncData} {sp : Sp} {msg : Str} {j : Nat} {pc : Pos} {rest : List Stmt} {p0 p1 p2 pos pe : Pos} {ar : Arg} {pl : Sem Bool} (F : FunS K P qual st C f fd) (S : SupScope N ps (defScope st))
    (body : defBody st = .Expr (.Call (.Attribute (.Call (.Name "super" p0) [] [] p1) "__init__" p2) (.Constant (.str msg) j pc :: []) [] pos) pe :: rest)
    (shape : ∀ env : Env, eval (.Call (.Attribute (.Call (.Name "super" p0) [] [] p1) "__init__" p2) (.Constant (.str msg) j pc :: []) [] pos) env = (do
      let ov ← attributeBase (.Call (.Name "super" p0) [] [] p1) "__init__" env (eval (.Call (.Name "super" p0) [] [] p1) env)
      standAt p2.atName
      let (f, first) ← holding [ov] (getMethod ov "__init__" pl)
      callWith pos f first (backTo pos (starEach (.Constant (.str msg) j pc :: []) env)) []))
    (arg : ((defArgs st).posonlyargs ++ (defArgs st).args).head? = some ar) (self : ps[0]? = some ar.arg)
    (len : ∀ vs H Q E, sp vs H Q E → vs.length = ps.length)
    (main : ∀ (cda : Value) (cc : Addr) (A : Around) (outer : List Env) (s : Shared) (H : Hp) (vs : List V) (Q : VK) (E : XK), sp vs H Q E →
      ∃ a ws t, vs = .ref a :: ws ∧ OexC K C ∧ H a = some (exo a C none) ∧ PSs (cxSup P w K mg base N qual (defScope st) f cda cc A outer s H E) rest t ∧ t { nx := fun _ H' => Q .non H', rt := Q } (start N vs) H) :
    FnOk P w K mg base CX0 (k + 1) f fd ps sp := by
  refine ⟨len, fun A outer s H args us vs Q E hr e0 hb r hsp => ?_⟩
  obtain ⟨oc, od, kV, doc, pm, an, cda, cc, ct, osl, rfl, lk, hcd, ⟨cl, cld, csl, lc⟩, ccl, cdd, cvs, ccs, file, tf, lcd, h2, hfile⟩ := F.ex
  have hl := len _ _ _ _ hsp
  have KX : K.In s.heap := e0.mod.kin.keeps fun b o e => (e0.bs b o e).1
  have lim : s.heap.NoLimit := e0.mod.nolimit.keeps fun b o e => (e0.bs b o e).1
  refine PySem.ks_codeAny_call_defAt (body := defBody st) (binds := ps.zip us) hr.depth (KX _ _ lk) rfl lim (PySem.W.codeRec_of KX hcd) rfl hb S.nocell (fun y hy => S.par _ (List.of_mem_zip hy).1) (fun h₁ hns hk => ?_) S.co S.gen S.kind
  obtain ⟨a, ws, t, rfl, T, ea, ht, hq⟩ := main (.ref cda) cc A outer s H vs Q E hsp
  have I : Inv (cxSup P w K mg base N qual (defScope st) f (.ref cda) cc A outer s H E) [] (start N (.ref a :: ws)) H { s with heap := h₁, toks := s.toks + (ps.zip us).length } := inv_startS S hr.hd e0 hl r lc rfl hns hk
  refine PySem.ks_wpAt_mono (Q := SP (cxSup P w K mg base N qual (defScope st) f (.ref cda) cc A outer s H E) [] { nx := fun _ H' => Q .non H', rt := Q }) (E := (cxSup P w K mg base N qual (defScope st) f (.ref cda) cc A outer s H E).xe) ?_ (fun fl s' hs => ?_) (fun e s' h => h)
  · show _root_.PySem.wpAt (model P w) (A.deeper (supEnv qual (defScope st) s.heap.objs.size f (.ref cda) cc)) (.func (defBody st) (supEnv qual (defScope st) s.heap.objs.size f (.ref cda) cc)) (execs (defBody st) (supEnv qual (defScope st) s.heap.objs.size f (.ref cda) cc)) _ _ _
    have d0 : us[0]? = some (.ref a) := by
      obtain ⟨u, hu, ru⟩ := r.get (i := 0) (x := V.ref a) rfl
      cases (show u = Value.ref a from ru)
      exact hu
    have ndP : ps.Nodup := by rw [← S.pre]; exact S.nd.sublist (List.take_sublist _ _)
    have hv : (ps.zip us).reverse.lookup ar.arg = some (.ref a) := rev_lookup ndP self d0
    obtain ⟨cd, hcls⟩ := F.cls
    obtain ⟨t1, ho⟩ := exo_at I.hok ea
    obtain ⟨oD, hD1, hD2⟩ : ∃ oD, h₁.get? C = some oD ∧ oD.data = .cls cd := by
      unfold PySem.W.clsIn at hcls
      split at hcls
      · rename_i c d cd' sl ho
        cases hcls
        exact ⟨_, I.kIn _ _ ho, rfl⟩
      · cases hcls
    rw [body]
    refine PySem.ks_wpAt_execs_cons (PySem.ks_wpAt_Expr_any (PySem.ks_wpAt_MethodCall ?_ (shape _)) I.quiet)
    refine PySem.ks_wpAt_super_base (env := supEnv qual (defScope st) s.heap.objs.size f (.ref cda) cc) S.sup S.cls (by decide) rfl (I.kIn _ _ lk) rfl arg rfl (I.kIn _ _ lcd) rfl h2 hfile F.top ?_
    obtain ⟨mb, b1, b2⟩ := e0.mod.blt
    refine PySem.W.ks_loadName_global S.kind S.sup (Calls.loadGlobal_builtin (env := supEnv qual (defScope st) s.heap.objs.size f (.ref cda) cc) (e0.mod.glob.keeps I.bk) (F.sup e0.mod.kin e0.mod.glob) (b1.keeps I.bk) ((b2 _ (by decide)).trans boot_super) ⟨rfl, ?_⟩)
    refine wpAny_loadName_free S.kind S.cls rfl ⟨_, I.kIn _ _ lc, rfl⟩ ?_
    refine wpAny_loadName_local S.kind (S.par _ (List.mem_of_getElem? self)) hns hv ?_
    refine PySem.ks_wpAny_isType_cls hD1 hD2 ⟨rfl, ?_⟩
    refine PySem.ks_wpAny_call_super hD1 hD2 ho rfl (fun c e => nomatch e) (PySem.W.looks_mroIn I.kIn F.own) (fun h' e k => ?_)
    have J1 := I.kept (t' := s.toks + (ps.zip us).length) k
    obtain ⟨t2, ho2⟩ := exo_at J1.hok ea
    have Ia : PySem.W.InstAt h' a { cls := .ref C, dict := none, data := .fields #[.ref t2, .none, .none, .none, .bool false, .none] } C none := ⟨ho2, rfl, rfl, trivial⟩
    have hf : PySem.W.alongIn K "__init__" ((cd.mro.dropWhile (· != .ref C)).drop 1) = some (some (.builtin "ValueError.__init__")) := by
      have z := F.nxt
      unfold PySem.W.ks_superIn at z
      rw [hcls] at z
      exact z
    refine PySem.W.kxs_getMethod PySem.W.kxs_ValueError e (PySem.W.looks_opaque J1.kIn F.opq) (l₀ := cd.mro) (fun A Q E s k q => wpAny_bind ((PySem.W.looks_clsIn J1.kIn hcls) A _ E s k (wpAny_pure q))) rfl J1.kIn hf (Ia.type.andThen (PySem.W.looks_subIn J1.kIn F.isV)) (PySem.W.ks_ne J1.kIn Ia hcls) (by decide) ?_
    have J2 := J1.kept (t' := s.toks + (ps.zip us).length + 1) (h' := h'.push (PySem.W.kxs_mw "ValueError.__init__" a)) fun b o z => Heap.get?_push_of_some _ z
    have Jp : Inv (cxSup P w K mg base N qual (defScope st) f (.ref cda) cc A outer s H E) [(h'.objs.size, PySem.W.kxs_mw "ValueError.__init__" a)] (start N (.ref a :: ws)) H { s with heap := h'.push (PySem.W.kxs_mw "ValueError.__init__" a), toks := s.toks + (ps.zip us).length + 1 } := by
      refine J2.pins_of fun p hp => ?_
      rw [List.mem_singleton] at hp
      subst hp
      exact ⟨Heap.get?_push_at rfl rfl, J1.hok.fresh (Nat.le_refl _), Nat.ne_of_gt J1.lt, J1.nofs (Nat.le_refl _), fun v z => nomatch z⟩
    refine PySem.W.kxs_callWith (i := "ValueError.__init__") (x := a) rfl (Calls.evalArgs_plain ?_)
    have ha : PA (cxSup P w K mg base N qual (defScope st) f (.ref cda) cc A outer s H E) [.Constant (.str msg) j pc] (tCons (tC (.str msg)) tNil) := pa_cons pe_str pa_nil
    refine thn (ha.run pos _ _ _ H (fun vs H1 => vs = [.str msg] ∧ H1 = H) Jp ⟨rfl, rfl⟩) ?_
    rintro us1 s1 ⟨vs1, H1, I1, r1, rfl, rfl⟩
    have at1 := (I1.pin _ (List.mem_singleton.mpr rfl)).1
    refine ⟨at1, ?_⟩
    have few : us1.length ≤ sizeLine := by
      have := Paired.length r1
      rw [sizeLine_eq]
      show _ ≤ _
      have e1 : [V.str msg].length = 1 := rfl
      omega
    refine mw_call T I1 ea few at1 fun s2 J => ?_
    exact wpAt_of_wpAny (ht.run [] s2 _ _ _ (J.pins_of fun p hp => nomatch hp) hq)
  · have fin : ∀ {σ' : L2.St} {H' : Hp} {v : V} {u : Value}, Inv (cxSup P w K mg base N qual (defScope st) f (.ref cda) cc A outer s H E) [] σ' H' s' → RelV v u → Q v H' → CE outer P w H s Q u s' :=
      fun {σ' H' v u} J rv q => ⟨v, H', J.os, J.bare, J.base, J.hok, rv, q⟩
    cases fl with
    | ret u =>
      obtain ⟨v, σ', H', J, rv, q⟩ := hs
      exact fin J rv q
    | next =>
      obtain ⟨σ', H', J, q⟩ := hs
      exact fin (v := V.non) (u := Value.none) J rfl q
    | brk =>
      obtain ⟨_, _, _, q⟩ := hs
      exact False.elim q
    | cont =>
      obtain ⟨_, _, _, q⟩ := hs
      exact False.elim q
theorem FunS.binds {qual : Str} {st : Stmt} {C f : Addr} {fd : FuncData} {ps : List Str} (F : FunS K P qual st C f fd)
    (h : ∀ (kV doc pm : Value) (an : Option Addr) (cc : Addr) (cdv ct : Value) (us : List Value), us.length = ps.length → bindArgs (PySem.W.fnX "__init__" qual (defArgs st) (defBody st) (defScope st) [("__class__", cc)] .none kV doc pm an cdv ct) ⟨us, []⟩ = pure (ps.zip us)) : Binds K fd ps [] := by
  obtain ⟨oc, od, kV, doc, pm, an, cda, cc, ct, osl, rfl, _⟩ := F.ex
  exact .all (h kV doc pm an cc (.ref cda) ct)
end
end Kz
set_option linter.all false
set_option maxRecDepth 100000
set_option maxHeartbeats 4000000
namespace Kz
open PySem PySem.Spec PyProof.Rows L2
def top (i : Nat) : Stmt := PySem.Challenge.pw_toldmeans_k09_whole_fits_to_a_gap.main.body.getD i (.Pass ⟨0, 0, 0, 0⟩)
abbrev sPen : Stmt := top 54
abbrev sDraw : Stmt := top 55
abbrev sPick : Stmt := top 56
/-- built-in names that the module leaves alone -/
structure Blt (mg : Str → Option Value) : Prop where
  len : mg "len" = none
  int : mg "int" = none
  list : mg "list" = none
  range : mg "range" = none
section
variable {P : Program} {w : World} {K : PySem.W.Frag} {mg : Str → Option Value} {base : Heap}
theorem scPen : FnScope ["_law_script", "_law_fold", "_law_cell"] ["_law_script"] (defScope sPen) := ⟨rfl, rfl, rfl, by decide +kernel, rfl, by decide +kernel, by decide +kernel⟩
theorem ok_pen {f : Addr} {fd : FuncData} (F : Fun K "_law_pen" "_law_pen" sPen f fd) (B : Blt mg) : FnOk P w K mg base CX0 1 f fd ["_law_script"] (spPen K) := by
  refine F.ok scPen (fun vs H Q E h => ?_) (fun cdv A outer s H vs Q E hr h => ?_)
  · obtain ⟨a, ns, rfl, _⟩ := h
    rfl
  · obtain ⟨a, ns, rfl, hS, k⟩ := h
    have hu := hu_of hr
    refine ⟨_, pss_cons (ps_set (i := 1) scPen.nd rfl (.inl rfl) pe_int)
      (pss_cons (ps_for PassesOwn.never rfl (pi_list (pv 0)) (pg_name (i := 2) scPen.nd rfl (.inl rfl))
        (pss_one (ps_set (i := 1) scPen.nd rfl (.inl rfl) (pe_op op_mod (pe_callTy call_int1 (by rfl) B.int boot_int (pa_cons (pe_op op_add (pe_op op_mul (pv 1) pe_int) (pv 2)) pa_nil)) pe_int))))
      (pss_one (ps_ret (pe_disp (pps_cons pe_str (pe_callTy call_list_of (by rfl) B.list (by decide +kernel) (pa_cons (pv 0) pa_nil)) (pps_cons pe_str pe_int (pps_cons pe_str pe_int (pps_cons pe_str pe_int (pps_cons pe_str (pv 1) pps_nil))))) (by rfl) (by rfl) (fun z => by cases z) (by decide))))), ?_⟩
    refine ⟨_, rfl, a, rfl, ⟨_, hS⟩, for_list (K := K) (a := a) (xs := ns.map V.int) (fun i σ H' => H' = H ∧ ∃ (f : Int) (v : Option V), σ = [some (.ref a), some (.int f), v] ∧ 0 ≤ f ∧ f < 2147483587)
      ⟨rfl, 0, none, rfl, by decide, by decide⟩ (fun i σ H' _ ⟨e, _⟩ => e ▸ hS) ?_ ?_⟩
    · rintro i y σ H' hi ⟨rfl, f, v, rfl, h0, h1⟩
      obtain ⟨z, rfl⟩ : ∃ z, y = V.int z := by
        rw [List.getElem?_map] at hi
        cases e : ns[i]? with
        | none =>
          rw [e] at hi
          cases hi
        | some z =>
          rw [e] at hi
          exact ⟨z, (Option.some.inj hi).symm⟩
      refine ⟨_, rfl, _, _, rfl, rfl, .inr ⟨by decide, by decide⟩, _, rfl, _, _, rfl, rfl, .inl ⟨_, rfl, _, _, rfl, rfl, (by show (0 : Int) < 1000000007; decide), ?_⟩⟩
      have b1 := Int.emod_nonneg (f * 47 + z) (show (1000000007 : Int) ≠ 0 by decide)
      have b2 := Int.emod_lt_of_pos (f * 47 + z) (show (0 : Int) < 1000000007 by decide)
      exact ⟨rfl, _, some (.int z), rfl, b1, by omega⟩
    · rintro σ H' ⟨rfl, f, v, rfl, h0, h1⟩
      intro p hp
      refine ⟨_, rfl, a, _, rfl, .inl (Same.seq (fun b o e => ?_) hS), fun l hl => ?_⟩
      · rw [upd_ne (ne_of_none e hp)]
        exact e
      have lp : l ≠ p := fun e => by
        rw [e, upd_same] at hl
        cases hl
      refine ⟨_, rfl, ?_⟩
      refine ⟨by rw [upd_ne lp.symm, upd_same], penK l 0 0 0 f, rfl, (by show 5 ≤ 15; decide), ?_⟩
      have em : mergeK [] (penK l 0 0 0 f) = penK l 0 0 0 f := by
        have e1 : valV ([] : List (Key × V)) (.inr "cells") = none := rfl
        have a1 : putK [] (.inr "cells") (V.ref l) = [((.inr "cells" : Key), V.ref l)] := putK_new _ e1
        have a2 : putK [((.inr "cells" : Key), V.ref l)] (.inr "at") (V.int 0) = [((.inr "cells" : Key), V.ref l), (.inr "at", V.int 0)] := putK_new _ (valV_neg (kne q01))
        have a3 : putK [((.inr "cells" : Key), V.ref l), (.inr "at", V.int 0)] (.inr "digits") (V.int 0) = [((.inr "cells" : Key), V.ref l), (.inr "at", V.int 0), (.inr "digits", V.int 0)] :=
          putK_new _ ((valV_neg (kne q02)).trans (valV_neg (kne q12)))
        have a4 : putK [((.inr "cells" : Key), V.ref l), (.inr "at", V.int 0), (.inr "digits", V.int 0)] (.inr "count") (V.int 0) = [((.inr "cells" : Key), V.ref l), (.inr "at", V.int 0), (.inr "digits", V.int 0), (.inr "count", V.int 0)] :=
          putK_new _ ((valV_neg (kne q03)).trans ((valV_neg (kne q13)).trans (valV_neg (kne q23))))
        have a5 : putK [((.inr "cells" : Key), V.ref l), (.inr "at", V.int 0), (.inr "digits", V.int 0), (.inr "count", V.int 0)] (.inr "fold") (V.int f) = penK l 0 0 0 f :=
          putK_new _ ((valV_neg (kne q04)).trans ((valV_neg (kne q14)).trans ((valV_neg (kne q24)).trans (valV_neg (kne q34)))))
        show putK (putK (putK (putK (putK ([] : List (Key × V)) (.inr "cells") (V.ref l)) (.inr "at") (V.int 0)) (.inr "digits") (V.int 0)) (.inr "count") (V.int 0)) (.inr "fold") (V.int f) = _
        rw [a1, a2, a3, a4, a5]
      refine k p l _ hp (fun b o e => ?_) ⟨ns, 0, 0, 0, f, by rw [upd_same, em], ?_, by decide, by decide, by decide, by decide, h0, h1⟩
      · have bp := ne_of_none e hp
        have bl : b ≠ l := fun z => by
          rw [z] at e bp
          rw [upd_ne bp, e] at hl
          cases hl
        rw [upd_ne bp, upd_ne bl, upd_ne bp]
        exact e
      · rw [upd_ne lp, upd_same]

theorem scDraw : FnScope ["_law_pen_here", "_law_many", "_law_cell", "_law_digit", "_law_blend"] ["_law_pen_here", "_law_many"] (defScope sDraw) := ⟨rfl, rfl, rfl, by decide +kernel, rfl, by decide +kernel, by decide +kernel⟩
theorem five {c : Addr} {i d m f : Int} : (penK c i d m f).length ≤ 1000 := by
  show 5 ≤ 1000
  decide
theorem ok_draw {f : Addr} {fd : FuncData} (F : Fun K "_law_draw" "_law_draw" sDraw f fd) (B : Blt mg) : FnOk P w K mg base CX0 1 f fd ["_law_pen_here", "_law_many"] spDraw := by
  refine F.ok scDraw (fun vs H Q E h => ?_) (fun cdv A outer s H vs Q E hr h => ?_)
  · obtain ⟨p, c, n, many, rfl, _⟩ := h
    rfl
  · obtain ⟨p, c, n, many, rfl, ⟨ns, i, d, m, f, e1, e2, b1, b2, b3, b4, b5, b6⟩, hn, m0, m1, k⟩ := h
    have hu := hu_of hr
    refine ⟨_, pss_cons (ps_dput hu (pv 0) pe_str (pe_op op_add (pe_dget hu (pv 0) pe_str (fun _ _ => rfl)) pe_int) rfl)
      (C8.pss_cut (ps_if (PW.pt (pw_and (pt_cmpR op_eq (pe_dget hu (pv 0) pe_str (fun _ _ => rfl)) pe_int (nomark _))
          (pw_and1 (pt_cmpR op_lt (pe_dget hu (pv 0) pe_str (fun _ _ => rfl)) (pe_callB call_len_seq (by rfl) B.len PySem.boot_len (pa_cons (pe_dget hu (pv 0) pe_str (fun _ _ => rfl)) pa_nil)) (nomark _)))))
        (pss_cons (ps_set (i := 2) scDraw.nd rfl (.inl rfl) (pe_ix ix_list (pe_dget hu (pv 0) pe_str (fun _ _ => rfl)) (pe_dget hu (pv 0) pe_str (fun _ _ => rfl)) (fun _ _ => rfl)))
        (pss_cons (ps_dput hu (pv 0) pe_str (pe_op op_add (pe_dget hu (pv 0) pe_str (fun _ _ => rfl)) pe_int) rfl)
        (pss_one (ps_if (pt_cmpR op_ge (pv 2) (pe_op op_pow pe_int pe_int) (nomark _))
          (pss_one (ps_dput hu (pv 0) pe_str (pe_op op_sub (pv 2) (pe_op op_pow pe_int pe_int)) rfl))
          (pss_one (ps_dput hu (pv 0) pe_str (pe_op op_mod (pe_callTy call_int1 (by rfl) B.int boot_int (pa_cons (pe_op op_add (pe_op op_mul (pe_dget hu (pv 0) pe_str (fun _ _ => rfl)) pe_int) (pv 2)) pa_nil)) pe_int) rfl))))))
        pss_nil)
      (pss_cons (ps_if (pt_cmpR op_gt (pe_dget hu (pv 0) pe_str (fun _ _ => rfl)) pe_int (nomark _))
        (pss_cons (ps_set (i := 3) scDraw.nd rfl (.inl rfl) (pe_op op_mod (pe_callTy call_int1 (by rfl) B.int boot_int (pa_cons (pe_dget hu (pv 0) pe_str (fun _ _ => rfl)) pa_nil)) (pv 1)))
        (pss_cons (ps_dput hu (pv 0) pe_str (pe_op op_fdiv (pe_dget hu (pv 0) pe_str (fun _ _ => rfl)) (pv 1)) rfl)
        (pss_one (ps_ret (pv 3))))) pss_nil)
      (pss_cons (ps_set (i := 4) scDraw.nd rfl (.inl rfl) (pe_op op_add (pe_op op_add (pe_dget hu (pv 0) pe_str (fun _ _ => rfl)) (pe_op op_mul (pe_dget hu (pv 0) pe_str (fun _ _ => rfl)) pe_int)) pe_int))
      (pss_one (ps_ret (pe_op op_mod (pe_op op_fdiv (pe_callTy call_int1 (by rfl) B.int boot_int (pa_cons (pe_op op_mod (pe_op op_pow (pv 4) pe_int) pe_int) pa_nil)) pe_int) (pv 1))))))), ?_⟩
    -- count
    refine ⟨_, rfl, p, _, rfl, dg_of e1 pk_count, _, _, rfl, rfl, _, rfl, p, _, rfl, dp_of e1 five put_count, ?_⟩
    have cp : c ≠ p := ne_of e2 e1 (fun z => nomatch z)
    have c1 : upd H p (.dK (penK c i d (m + 1) f)) p = some (.dK (penK c i d (m + 1) f)) := upd_same
    have c2 : upd H p (.dK (penK c i d (m + 1) f)) c = some (.lst (ns.map V.int)) := by
      rw [upd_ne cp]
      exact e2
    have c3 : But p H (upd H p (.dK (penK c i d (m + 1) f))) := But.refl.set
    generalize upd H p (.dK (penK c i d (m + 1) f)) = H1 at c1 c2 c3
    refine ⟨fun σ H' => ∃ (v : Option V) (i' d' f' : Int), σ = [some (.ref p), some (.int many), v, none, none] ∧ H' p = some (.dK (penK c i' d' (m + 1) f')) ∧ H' c = some (.lst (ns.map V.int)) ∧ But p H H' ∧ 0 ≤ i' ∧ 0 ≤ d' ∧ 0 ≤ f' ∧ f' < 2147483587, ?_, ?_⟩
    · refine ⟨_, rfl, p, _, rfl, dg_of c1 pk_digits, rfl, _, rfl, ?_⟩
      by_cases z : V.int d = V.int 0
      · rw [decide_eq_true z]
        refine iteT ⟨_, rfl, p, _, rfl, dg_of c1 pk_at, _, rfl, p, _, rfl, dg_of c1 pk_cells, c, _, rfl, .inl (SqL.of c2), _, _, rfl, rfl, _, rfl, ?_⟩
        refine ite2 (fun lt => ?_) (fun nlt => ⟨none, i, d, f, rfl, c1, c2, c3, b1, b2, b5, b6⟩)
        have lt' := of_decide_eq_true lt
        rw [List.length_map] at lt'
        obtain ⟨j, rfl⟩ := Int.eq_ofNat_of_zero_le b1
        have jl : j < ns.length := by omega
        have it : (ns.map V.int)[j]? = some (.int ns[j]) := by
          rw [List.getElem?_map, List.getElem?_eq_getElem jl]
          rfl
        refine ⟨_, rfl, p, _, rfl, dg_of c1 pk_cells, _, rfl, p, _, rfl, dg_of c1 pk_at, c, _, _, _, rfl, rfl, SqL.of c2, atI_nat it, ?_⟩
        refine ⟨_, rfl, p, _, rfl, dg_of c1 pk_at, _, _, rfl, rfl, _, rfl, p, _, rfl, dp_of c1 five put_at, ?_⟩
        have d1 : upd H1 p (.dK (penK c ((j : Int) + 1) d (m + 1) f)) p = some (.dK (penK c ((j : Int) + 1) d (m + 1) f)) := upd_same
        have d2 : upd H1 p (.dK (penK c ((j : Int) + 1) d (m + 1) f)) c = some (.lst (ns.map V.int)) := by
          rw [upd_ne cp]
          exact c2
        have d3 : But p H (upd H1 p (.dK (penK c ((j : Int) + 1) d (m + 1) f))) := c3.set
        generalize upd H1 p (.dK (penK c ((j : Int) + 1) d (m + 1) f)) = H2 at d1 d2 d3
        refine ⟨_, rfl, _, _, rfl, rfl, ⟨by decide, by decide, by decide⟩, _, _, rfl, rfl, _, rfl, ?_⟩
        refine ite2 (fun ge => ?_) (fun nge => ?_)
        · have ge' := of_decide_eq_true ge
          refine ⟨_, rfl, _, _, rfl, rfl, ⟨by decide, by decide, by decide⟩, _, _, rfl, rfl, _, rfl, p, _, rfl, dp_of d1 five put_digits, ?_⟩
          exact ⟨_, _, _, _, rfl, upd_same, by rw [upd_ne cp]; exact d2, d3.set, by omega, Int.sub_nonneg_of_le ge', b5, b6⟩
        · refine ⟨_, rfl, p, _, rfl, dg_of d1 pk_fold, _, _, rfl, rfl, .inr ⟨by decide, by decide⟩, _, rfl, _, _, rfl, rfl, .inl ⟨_, rfl, _, _, rfl, rfl, (by show (0 : Int) < 2147483587; decide), _, rfl, p, _, rfl, dp_of d1 five put_fold, ?_⟩⟩
          have l1 := Int.emod_nonneg (f * 69069 + ns[j]) (show (2147483587 : Int) ≠ 0 by decide)
          have l2 := Int.emod_lt_of_pos (f * 69069 + ns[j]) (show (0 : Int) < 2147483587 by decide)
          exact ⟨_, _, _, _, rfl, upd_same, by rw [upd_ne cp]; exact d2, d3.set, by omega, b2, l1, l2⟩
      · rw [decide_eq_false z]
        refine iteF (iteF ?_)
        exact ⟨none, i, d, f, rfl, c1, c2, c3, b1, b2, b5, b6⟩
    · rintro σ H' ⟨v, i', d', f', rfl, g1, g2, g3, a1, a2, a3, a4⟩
      refine ⟨_, rfl, p, _, rfl, dg_of g1 pk_digits, _, _, rfl, rfl, _, rfl, ?_⟩
      refine ite2 (fun gt => ?_) (fun ngt => ?_)
      · have gt' := of_decide_eq_true gt
        refine ⟨_, rfl, p, _, rfl, dg_of g1 pk_digits, .inl ⟨_, rfl, _, rfl, _, _, rfl, rfl, m0, ?_⟩⟩
        refine ⟨_, rfl, p, _, rfl, dg_of g1 pk_digits, _, rfl, _, _, rfl, rfl, ⟨m0, m1⟩, _, rfl, p, _, rfl, dp_of g1 five put_digits, _, rfl, ?_⟩
        have l1 := Int.emod_nonneg d' (show many ≠ 0 by omega)
        have l2 := Int.emod_lt_of_pos d' m0
        refine k _ _ l1 l2 ⟨ns, i', d' / many, m + 1, f', upd_same, by rw [upd_ne cp]; exact g2, a1, Int.ediv_nonneg a2 (by omega), by omega, by omega, a3, a4⟩ g3.set
      · refine ⟨_, rfl, p, _, rfl, dg_of g1 pk_fold, _, rfl, p, _, rfl, dg_of g1 pk_count, _, _, rfl, rfl, .inr ⟨by decide, by decide⟩, _, _, rfl, rfl, _, _, rfl, rfl, ?_⟩
        refine ⟨_, rfl, _, _, rfl, rfl, ⟨by decide, by decide, ?_⟩, _, _, rfl, rfl, (by show (0 : Int) < 2305843009213693951; decide), .inl ⟨_, rfl, _, _, rfl, rfl, ⟨by decide, by decide⟩, _, rfl, _, _, rfl, rfl, m0, ?_⟩⟩
        · have : (2 : Nat) ^ 64 = 18446744073709551616 := by decide
          omega
        · generalize (f' + (m + 1) * 7907 + 43) ^ (17 : Int).toNat % 2305843009213693951 / 128 = y
          have l1 := Int.emod_nonneg y (show many ≠ 0 by omega)
          have l2 := Int.emod_lt_of_pos y m0
          exact k _ _ l1 l2 ⟨ns, i', d', m + 1, f', g1, g2, a1, a2, by omega, by omega, a3, a4⟩ g3

theorem scPick : FnScope ["_law_pen_here", "_law_some"] ["_law_pen_here", "_law_some"] (defScope sPick) := ⟨rfl, rfl, rfl, by decide +kernel, rfl, by decide +kernel, by decide +kernel⟩
theorem ok_pick {f fD : Addr} {fd fdD : FuncData} (F : Fun K "_law_pick" "_law_pick" sPick f fd) (B : Blt mg) (FD : Fun K "_law_draw" "_law_draw" sDraw fD fdD) (gD : mg "_law_draw" = some (.ref fD)) (bD : Binds K fdD ["_law_pen_here", "_law_many"] []) :
    FnOk P w K mg base CX0 2 f fd ["_law_pen_here", "_law_some"] spPick := by
  have GD : FnOk P w K mg base CX0 1 fD fdD ["_law_pen_here", "_law_many"] spDraw := ok_draw FD B
  refine F.ok scPick (fun vs H Q E h => ?_) (fun cdv A outer s H vs Q E hr h => ?_)
  · obtain ⟨p, c, l, n, xs, rfl, _⟩ := h
    rfl
  · obtain ⟨p, c, l, n, xs, rfl, pen, hn, el, l0, l1, k⟩ := h
    refine ⟨_, pss_one (ps_ret (pe_ix ix_list (pv 1) (pe_call GD hr rfl gD FD.kp bD .nil pass0 (pa_cons (pv 0) (pa_cons (pe_callB call_len_seq (by rfl) B.len PySem.boot_len (pa_cons (pv 1) pa_nil)) pa_nil))) (fun _ _ => rfl))), ?_⟩
    refine ⟨_, rfl, _, rfl, _, rfl, l, _, rfl, .inl (SqL.of el), p, c, n, _, rfl, pen, hn, by omega, by omega, fun d H' d0 d1 pen' but => ?_⟩
    obtain ⟨j, rfl⟩ := Int.eq_ofNat_of_zero_le d0
    have jl : j < xs.length := by omega
    have lp : l ≠ p := pen.off el (fun _ z => nomatch z)
    exact ⟨l, _, _, _, rfl, rfl, SqL.of (but _ _ el lp), atI_nat (List.getElem?_eq_getElem jl), k j _ H' (List.getElem?_eq_getElem jl) pen' but⟩
theorem mem_of_at {xs : List V} {j : Nat} {v : V} (h : xs[j]? = some v) : v ∈ xs := List.mem_of_getElem? h
end
end Kz
set_option linter.all false
set_option maxRecDepth 100000
set_option maxHeartbeats 4000000
namespace Kz
open PySem PySem.Spec PyProof.Rows L2
/-! ### error objects -/
/-- an error object with its fields -/
def EAt (H : Hp) (a C : Addr) (fs : List (Str × V)) : Prop := ∃ d, H a = some (exo a C (some d)) ∧ H d = some (exd d fs)
theorem EAt.same {H H' : Hp} {a C : Addr} {fs : List (Str × V)} (h : EAt H a C fs) (s : Same H H') : EAt H' a C fs := by
  obtain ⟨d, e1, e2⟩ := h
  exact ⟨d, s _ _ e1, s _ _ e2⟩
def EAtN (H0 H : Hp) (a C : Addr) (fs : List (Str × V)) : Prop := ∃ d, H0 d = none ∧ H a = some (exo a C (some d)) ∧ H d = some (exd d fs)
def spI1 (K : PySem.W.Frag) (C : Addr) (f : Str) : Sp := fun vs H Q _ => ∃ (a : Addr) (v : V), vs = [.ref a, v] ∧ OexC K C ∧ PySem.W.findIn K (.ref C) f = some none ∧ H a = some (exo a C none) ∧
  ∀ H', EAtN H H' a C [(f, v)] → But a H H' → Q .non H'
def spI2 (K : PySem.W.Frag) (C : Addr) (f g : Str) : Sp := fun vs H Q _ => ∃ (a : Addr) (v u : V), vs = [.ref a, v, u] ∧ OexC K C ∧ PySem.W.findIn K (.ref C) f = some none ∧ PySem.W.findIn K (.ref C) g = some none ∧ H a = some (exo a C none) ∧
  ∀ H', EAtN H H' a C [(g, u), (f, v)] → But a H H' → Q .non H'
def t1 (K : PySem.W.Frag) (f : Str) : TS := tOst K f (tVar 0) (tVar 1)
def t2 (K : PySem.W.Frag) (f g : Str) : TS := tSeq (tOst K f (tVar 0) (tVar 1)) (tOst K g (tVar 0) (tVar 2))
theorem run1 {K : PySem.W.Frag} {C : Addr} {f x : Str} {vs : List V} {H : Hp} {Q : VK} {E : XK} (h : spI1 K C f vs H Q E) : t1 K f { nx := fun _ H' => Q .non H', rt := Q } (start ["self", x] vs) H := by
  obtain ⟨a, v, rfl, T, no, ea, k⟩ := h
  refine ⟨_, rfl, _, rfl, a, C, rfl, T, no, .inl ⟨ea, fun d nd ne => ?_⟩⟩
  refine k _ ⟨d, nd, upd_same, ?_⟩ fun b o e nb => ?_
  · rw [upd_ne ne]
    exact upd_same
  · rw [upd_ne nb, upd_ne (ne_of_none e nd)]
    exact e
theorem run2 {K : PySem.W.Frag} {C : Addr} {f g x y : Str} {vs : List V} {H : Hp} {Q : VK} {E : XK} (h : spI2 K C f g vs H Q E) : t2 K f g { nx := fun _ H' => Q .non H', rt := Q } (start ["self", x, y] vs) H := by
  obtain ⟨a, v, u, rfl, T, no, no2, ea, k⟩ := h
  refine ⟨_, rfl, _, rfl, a, C, rfl, T, no, .inl ⟨ea, fun d nd ne => ?_⟩⟩
  refine ⟨_, rfl, _, rfl, a, C, rfl, T, no2, .inr ⟨d, [(f, v)], upd_same, ?_, (by show 1 ≤ 900; decide), ?_⟩⟩
  · rw [upd_ne ne]
    exact upd_same
  refine k _ ⟨d, nd, ?_, upd_same⟩ fun b o e nb => ?_
  · rw [upd_ne ne.symm]
    exact upd_same
  · have nbd := ne_of_none e nd
    rw [upd_ne nbd, upd_ne nb, upd_ne nbd]
    exact e

/-! ### what the top has written of the classes -/
structure BaseT (K : PySem.W.Frag) (mg : Str → Option Value) (B : Addr) (mc : Value) : Prop where
  g : mg "MeanError" = some (.ref B)
  rd : ClX.CRead K B mc
  fnd : PySem.W.findCls K (.ref B) mc "__init__" = some (.val (.builtin "ValueError.__init__"))
  cls : (PySem.W.clsIn K B).isSome = true
  ty : PySem.W.typeIn K (.ref B) = some (.type "type")
structure ErrT (K : PySem.W.Frag) (mg : Str → Option Value) (x : Str) (B C : Addr) : Prop where
  o : OexC K C
  xf : XfC K C
  ex : ExcC K C
  g : mg x = some (.ref C)
  mro : ∃ cd, PySem.W.clsIn K C = some cd ∧ cd.mro = [.ref C, .ref B, .type "ValueError", .type "Exception", .type "BaseException", .type "object"]
structure InitT (K : PySem.W.Frag) (P : Program) (x : Str) (st : Stmt) (C f : Addr) (fd : FuncData) : Prop where
  i : PySem.W.findIn K (.ref C) "__init__" = some (some (.ref f))
  t : PySem.W.typeIn K (.ref f) = some (.type "function")
  fn : FunS K P x st C f fd
theorem ErrT.kitB {K : PySem.W.Frag} {mg : Str → Option Value} {x : Str} {B C : Addr} {mc : Value} (T : ErrT K mg x B C) (U : BaseT K mg B mc) : PySem.W.kitOne K (.ref C) (.ref B) = some true := by
  obtain ⟨cd, e1, e2⟩ := T.mro
  unfold PySem.W.kitOne
  by_cases h : C = B
  · subst h
    simp
  · have n1 : ¬ ((Value.ref C == Value.ref B) = true) := by
      intro z
      exact h (Value.ref.inj (beq_iff_eq.mp z))
    rw [if_neg n1]
    have ok : ((PySem.W.clsIn K B).isSome && PySem.W.typeIn K (.ref B) == some (.type "type")) = true := by
      rw [U.cls, U.ty]
      rfl
    show (if ((PySem.W.clsIn K B).isSome && PySem.W.typeIn K (.ref B) == some (.type "type")) = true then PySem.W.mroIn K C (.ref B) else none) = _
    rw [if_pos ok]
    unfold PySem.W.mroIn
    rw [e1, Option.bind_some, e2]
    simp
abbrev sI3 : Stmt := inClass (top 4) 0
abbrev sI4 : Stmt := inClass (top 5) 0
abbrev sI6 : Stmt := inClass (top 6) 0
section
variable {P : Program} {w : World} {K : PySem.W.Frag} {mg : Str → Option Value} {base : Heap}
theorem scI3 : SupScope ["self", "what", "number"] ["self", "what", "number"] (defScope sI3) := ⟨rfl, rfl, rfl, by decide +kernel, rfl, by decide +kernel, by decide +kernel, by decide +kernel, rfl, rfl⟩
theorem ok_i3 {C f : Addr} {fd : FuncData} (F : FunS K P "BadNumber.__init__" sI3 C f fd) : FnOk P w K mg base CX0 1 f fd ["self", "what", "number"] (spI2 K C "what" "number") := by
  refine fn_sup F scI3 rfl (fun _ => rfl) rfl rfl (fun vs H Q E h => ?_) (fun cda cc A outer s H vs Q E h => ?_)
  · obtain ⟨a, v, u, rfl, _⟩ := h
    rfl
  · have h0 := h
    obtain ⟨a, v, u, rfl, T, no, no2, ea, _⟩ := h
    exact ⟨a, _, _, rfl, T, ea, pss_cons (ps_ost (pv 0) (pv 1)) (pss_one (ps_ost (pv 0) (pv 2))), run2 h0⟩
theorem scI4 : SupScope ["self", "row"] ["self", "row"] (defScope sI4) := ⟨rfl, rfl, rfl, by decide +kernel, rfl, by decide +kernel, by decide +kernel, by decide +kernel, rfl, rfl⟩
theorem ok_i4 {C f : Addr} {fd : FuncData} (F : FunS K P "BadRow.__init__" sI4 C f fd) : FnOk P w K mg base CX0 1 f fd ["self", "row"] (spI1 K C "row") := by
  refine fn_sup F scI4 rfl (fun _ => rfl) rfl rfl (fun vs H Q E h => ?_) (fun cda cc A outer s H vs Q E h => ?_)
  · obtain ⟨a, v, rfl, _⟩ := h
    rfl
  · have h0 := h
    obtain ⟨a, v, rfl, T, no, ea, _⟩ := h
    exact ⟨a, _, _, rfl, T, ea, pss_one (ps_ost (pv 0) (pv 1)), run1 h0⟩
theorem scI6 : SupScope ["self", "what"] ["self", "what"] (defScope sI6) := ⟨rfl, rfl, rfl, by decide +kernel, rfl, by decide +kernel, by decide +kernel, by decide +kernel, rfl, rfl⟩
theorem ok_i6 {C f : Addr} {fd : FuncData} (F : FunS K P "Unlike.__init__" sI6 C f fd) : FnOk P w K mg base CX0 1 f fd ["self", "what"] (spI1 K C "what") := by
  refine fn_sup F scI6 rfl (fun _ => rfl) rfl rfl (fun vs H Q E h => ?_) (fun cda cc A outer s H vs Q E h => ?_)
  · obtain ⟨a, v, rfl, _⟩ := h
    rfl
  · have h0 := h
    obtain ⟨a, v, rfl, T, no, ea, _⟩ := h
    exact ⟨a, _, _, rfl, T, ea, pss_one (ps_ost (pv 0) (pv 1)), run1 h0⟩
end
/-! ### raising them -/
theorem raised1 {K : PySem.W.Frag} {C : Addr} {f : Str} {v : V} {H : Hp} {Q : XK} (T : OexC K C) (no : PySem.W.findIn K (.ref C) f = some none)
    (k : ∀ (d : Addr) (H' : Hp), Same H H' → H' d = some (.xd [(f, v)]) → Q (.ref C) (some d) H') :
    [v].length ≤ 1000 ∧ ∀ a, H a = none → spI1 K C f (.ref a :: ([v] ++ [])) (upd H a (exo a C none))
      (fun x H2 => x = .non ∧ ∃ (d : Addr) (fs : List (Str × V)), H2 a = some (exo a C (some d)) ∧ H2 d = some (exd d fs) ∧ H d = none ∧ Q (.ref C) (some d) (upd (del H2 a) d (.xd fs))) fun _ _ _ => False := by
  refine ⟨by show 1 ≤ 1000; decide, fun a n => ⟨a, v, rfl, T, no, upd_same, fun H' e b => ?_⟩⟩
  obtain ⟨d, nd, e1, e2⟩ := e
  have da : d ≠ a := fun z => by
    rw [z, upd_same] at nd
    cases nd
  rw [upd_ne da] at nd
  refine ⟨rfl, d, _, e1, e2, nd, k d _ (fun c u e => ?_) upd_same⟩
  have ca := ne_of_none e n
  have cd := ne_of_none e nd
  rw [upd_ne cd, del_ne ca]
  refine b c u ?_ ca
  rw [upd_ne ca]
  exact e
theorem raised2 {K : PySem.W.Frag} {C : Addr} {f g : Str} {v u : V} {H : Hp} {Q : XK} (T : OexC K C) (no : PySem.W.findIn K (.ref C) f = some none) (no2 : PySem.W.findIn K (.ref C) g = some none)
    (k : ∀ (d : Addr) (H' : Hp), Same H H' → H' d = some (.xd [(g, u), (f, v)]) → Q (.ref C) (some d) H') :
    [v, u].length ≤ 1000 ∧ ∀ a, H a = none → spI2 K C f g (.ref a :: ([v, u] ++ [])) (upd H a (exo a C none))
      (fun x H2 => x = .non ∧ ∃ (d : Addr) (fs : List (Str × V)), H2 a = some (exo a C (some d)) ∧ H2 d = some (exd d fs) ∧ H d = none ∧ Q (.ref C) (some d) (upd (del H2 a) d (.xd fs))) fun _ _ _ => False := by
  refine ⟨by show 2 ≤ 1000; decide, fun a n => ⟨a, v, u, rfl, T, no, no2, upd_same, fun H' e b => ?_⟩⟩
  obtain ⟨d, nd, e1, e2⟩ := e
  have da : d ≠ a := fun z => by
    rw [z, upd_same] at nd
    cases nd
  rw [upd_ne da] at nd
  refine ⟨rfl, d, _, e1, e2, nd, k d _ (fun c u e => ?_) upd_same⟩
  have ca := ne_of_none e n
  have cd := ne_of_none e nd
  rw [upd_ne cd, del_ne ca]
  refine b c u ?_ ca
  rw [upd_ne ca]
  exact e
end Kz
set_option linter.all false
set_option maxRecDepth 100000
set_option maxHeartbeats 4000000
namespace Kz
open PySem PySem.Spec PyProof.Rows L2
/-! ### a def as it stands, and its calls -/
structure Df (K : PySem.W.Frag) (mg : Str → Option Value) (x : Str) (st : Stmt) (ps : List Str) where
  f : Addr
  fd : FuncData
  fn : Fun K x x st f fd
  g : mg x = some (.ref f)
  b : Binds K fd ps []
section
variable {X : Cx} {P : Program} {w : World} {K : PySem.W.Frag} {mg : Str → Option Value} {base : Heap} {k : Nat} {x : Str} {stt : Stmt} {ps : List Str} {sp : Sp} {W : WX} {p pos : Pos} {e : Expr} {es : List Expr} {t : TA}
/-- the context's own is the module's -/
abbrev Of (X : Cx) (P : Program) (w : World) (K : PySem.W.Frag) (mg : Str → Option Value) (base : Heap) : Prop := X.prog = P ∧ X.w = w ∧ X.K = K ∧ X.mg = mg ∧ X.base = base
theorem Df.cS (D : Df K mg x stt ps) (F : FnOk P w K mg base (CX P w) k D.f D.fd ps sp) (hr : Room k X.A) (tk : Takes X W) (ha : PA X (e :: es) t) (of : Of X P w K mg base := by exact ⟨rfl, rfl, rfl, rfl, rfl⟩) (hg : Gl X x := by rfl) (hdb : (x == ("__debug__" : Str)) = false := by decide)
    (st : starEach (e :: es) X.env = (false, eval e X.env) :: starEach es X.env := by rfl) (nost : (backTo pos (starEach es X.env)).any (·.1) = false := by rfl) : PE X (.Call (.Name x p) (e :: es) [] pos) (tCallS sp (WE W) t) := by
  obtain ⟨rfl, rfl, rfl, rfl, rfl⟩ := of
  exact pe_callS F hr hg D.g D.fn.kp D.b (fun σ => passAt tk σ) ha hdb st nost
theorem Df.cX (D : Df K mg x stt ps) (F : FnOk P w K mg base (CX P w) k D.f D.fd ps sp) (hr : Room k X.A) (ha : PA X (e :: es) t) (of : Of X P w K mg base := by exact ⟨rfl, rfl, rfl, rfl, rfl⟩) (hg : Gl X x := by rfl) (hdb : (x == ("__debug__" : Str)) = false := by decide)
    (st : starEach (e :: es) X.env = (false, eval e X.env) :: starEach es X.env := by rfl) (nost : (backTo pos (starEach es X.env)).any (·.1) = false := by rfl) : PE X (.Call (.Name x p) (e :: es) [] pos) (tCall sp [] (fun _ _ _ => False) t) := by
  obtain ⟨rfl, rfl, rfl, rfl, rfl⟩ := of
  exact pe_call F hr hg D.g D.fn.kp D.b .nil passL ha hdb st nost
theorem Df.c0 (D : Df K mg x stt ps) (F : FnOk P w K mg base CX0 k D.f D.fd ps sp) (hr : Room k X.A) (ha : PA X (e :: es) t) (of : Of X P w K mg base := by exact ⟨rfl, rfl, rfl, rfl, rfl⟩) (hg : Gl X x := by rfl) (hdb : (x == ("__debug__" : Str)) = false := by decide)
    (st : starEach (e :: es) X.env = (false, eval e X.env) :: starEach es X.env := by rfl) (nost : (backTo pos (starEach es X.env)).any (·.1) = false := by rfl) : PE X (.Call (.Name x p) (e :: es) [] pos) (tCall sp [] (fun _ _ _ => False) t) := by
  obtain ⟨rfl, rfl, rfl, rfl, rfl⟩ := of
  exact pe_call F hr hg D.g D.fn.kp D.b .nil pass0 ha hdb st nost
/-- // with any divisor but 0, where the two are not both very long -/
def CDivF (i j : Int) : Prop := j ≠ 0 ∧ Builtin.divisionGoesByPylong i j = false
theorem op_fdivF : OpR X (binaryOp .FloorDiv) (rI CDivF fun i j => .int (i.fdiv j)) := opI fun i j _ _ _ _ _ hc q => floordiv_int hc.1 q (.inl hc.2)
end
theorem cdivF {i j : Int} (h : j ≠ 0) (b : j.natAbs < 2 ^ 9000) : CDivF i j := by
  refine ⟨h, PyProof.noPylong_of_log2 ?_⟩
  exact (Nat.log2_lt (by omega)).mpr b

/-! ### what the top has written -/
structure Tx (P : Program) (K : PySem.W.Frag) (mg : Str → Option Value) where
  blt : Blt mg
  mIsi : mg "isinstance" = none
  mBool : mg "bool" = none
  mTuple : mg "tuple" = none
  mMax : mg "max" = none
  mAll : mg "all" = none
  mEnum : mg "enumerate" = none
  mRev : mg "reversed" = none
  mZip : mg "zip" = none
  mAbs : mg "abs" = none
  mStr : mg "str" = none
  mRepr : mg "repr" = none
  mDm : mg "divmod" = none
  mNi : mg "NotImplemented" = none
  mGcd : mg "gcd" = some (.builtin "math.gcd")
  mLcm : mg "lcm" = some (.builtin "math.lcm")
  B : Addr
  mc : Value
  cN : Addr
  cR : Addr
  cI : Addr
  cU : Addr
  base : BaseT K mg B mc
  eN : ErrT K mg "BadNumber" B cN
  nN1 : PySem.W.findIn K (.ref cN) "what" = some none
  nN2 : PySem.W.findIn K (.ref cN) "number" = some none
  fN : Addr
  dN : FuncData
  iN : InitT K P "BadNumber.__init__" sI3 cN fN dN
  bN : Binds K dN ["self", "what", "number"] []
  eR : ErrT K mg "BadRow" B cR
  nR1 : PySem.W.findIn K (.ref cR) "row" = some none
  fR : Addr
  dR : FuncData
  iR : InitT K P "BadRow.__init__" sI4 cR fR dR
  bR : Binds K dR ["self", "row"] []
  eU : ErrT K mg "Unlike" B cU
  is_whole : Df K mg "is_whole" (top 8) ["value"]
  is_pair : Df K mg "is_pair" (top 9) ["value"]
  is_ratio : Df K mg "is_ratio" (top 10) ["value"]
  lowest : Df K mg "lowest" (top 11) ["top", "bottom"]
  told : Df K mg "told" (top 12) ["value", "what"]
  minus : Df K mg "minus" (top 14) ["one", "other"]
  lower : Df K mg "lower" (top 15) ["one", "other"]

/-! ### kinds of values -/
def tyNames : List String := ["int", "bool", "str", "NoneType", "tuple", "list", "dict"]
def TyN (K : PySem.W.Frag) (H : Hp) (v : V) (t : String) : Prop := TyX K H v (.type t) ∧ t ∈ tyNames
theorem kb_int : ∀ t ∈ tyNames, kitB t "int" = some (t == "int" || t == "bool") := by decide +kernel
theorem kb_bool : ∀ t ∈ tyNames, kitB t "bool" = some (t == "bool") := by decide +kernel
theorem kb_tuple : ∀ t ∈ tyNames, kitB t "tuple" = some (t == "tuple") := by decide +kernel
theorem kb_list : ∀ t ∈ tyNames, kitB t "list" = some (t == "list") := by decide +kernel
theorem int_not_bool : ∀ t ∈ tyNames, ((t == "int" || t == "bool") && !(t == "bool")) = (t == "int") := by decide +kernel
theorem boot_isi : bootBuiltins "isinstance" = some (.builtin "isinstance") := by decide +kernel
theorem boot_tint : bootBuiltins "int" = some (.type "int") := by decide +kernel
theorem boot_tbool : bootBuiltins "bool" = some (.type "bool") := by decide +kernel
theorem boot_ttuple : bootBuiltins "tuple" = some (.type "tuple") := by decide +kernel
theorem boot_tlist : bootBuiltins "list" = some (.type "list") := by decide +kernel
theorem ty_tup {K : PySem.W.Frag} {H : Hp} {a : Addr} {xs : List V} (h : SqT K H a xs) : TyN K H (.ref a) "tuple" := by
  refine ⟨?_, by decide⟩
  rcases h with (h | ⟨o, h⟩) | ⟨o, its, n, e, c, _⟩
  · exact .base (.tup h)
  · exact .fTuple h
  · exact .kTuple e c
theorem ty_lst {K : PySem.W.Frag} {H : Hp} {a : Addr} {xs : List V} (h : SqL K H a xs) : TyN K H (.ref a) "list" := by
  refine ⟨?_, by decide⟩
  rcases h with (h | ⟨o, h⟩) | ⟨o, its, n, e, c, _⟩
  · exact .base (.lst h)
  · exact .base (.frz h)
  · exact .kList e c
theorem ty_int {K : PySem.W.Frag} {H : Hp} {i : Int} : TyN K H (.int i) "int" := ⟨.base (.int i), by decide⟩
theorem ty_bl {K : PySem.W.Frag} {H : Hp} {i : Bool} : TyN K H (.bl i) "bool" := ⟨.base (.bl i), by decide⟩
/-- a tuple or a list -/
def Sq (K : PySem.W.Frag) (H : Hp) (a : Addr) (xs : List V) : Prop := SqL K H a xs ∨ SqT K H a xs
theorem Sq.same {K : PySem.W.Frag} {H H' : Hp} {a : Addr} {xs : List V} (s : Same H H') (h : Sq K H a xs) : Sq K H' a xs := h.elim (fun h => .inl (Same.seq s h)) fun h => .inr (Kz.Same.seqT s h)

section
variable {P : Program} {w : World} {K : PySem.W.Frag} {mg : Str → Option Value} {base : Heap}
def spWhole (K : PySem.W.Frag) : Sp := fun vs H Q _ => ∃ v t, vs = [v] ∧ TyN K H v t ∧ Q (.bl (t == "int")) H
theorem sc8 : FnScope ["value"] ["value"] (defScope (top 8)) := ⟨rfl, rfl, rfl, by decide +kernel, rfl, by decide +kernel, by decide +kernel⟩
theorem ok_whole (T : Tx P K mg) : FnOk P w K mg base CX0 1 T.is_whole.f T.is_whole.fd ["value"] (spWhole K) := by
  refine T.is_whole.fn.ok sc8 (fun vs H Q E h => ?_) (fun cdv A outer s H vs Q E hr h => ?_)
  · obtain ⟨v, t, rfl, _⟩ := h
    rfl
  · obtain ⟨v, t, rfl, ty, q⟩ := h
    refine ⟨_, pss_one (ps_ret (pe_and (pe_callB call_isi (by rfl) T.mIsi boot_isi (pa_cons (pv 0) (pa_cons (pe_bltn (v := .ty "int") (by rfl) T.blt.int boot_tint rfl) pa_nil)))
      (pe_one (pe_not (pe_callB call_isi (by rfl) T.mIsi boot_isi (pa_cons (pv 0) (pa_cons (pe_bltn (v := .ty "bool") (by rfl) T.mBool boot_tbool rfl) pa_nil))))))), ?_⟩
    refine ⟨_, rfl, v, _, _, _, _, rfl, .ty _, ty.1, kit_ty (kb_int t ty.2), _, rfl, ?_⟩
    have e := int_not_bool t ty.2
    cases c : (t == "int" || t == "bool") with
    | true =>
      rw [c, Bool.true_and] at e
      refine iteT ⟨_, rfl, v, _, _, _, _, rfl, .ty _, ty.1, kit_ty (kb_bool t ty.2), _, rfl, ?_⟩
      rw [e]
      exact q
    | false =>
      rw [c, Bool.false_and] at e
      refine iteF ?_
      rw [e]
      exact q
/-- what is_pair says of a value -/
inductive Pr (K : PySem.W.Frag) (H : Hp) : V → Bool → Prop
  | no {v : V} {t : String} : TyN K H v t → (t == "tuple") = false → (t == "list") = false → Pr K H v false
  | len {a : Addr} {xs : List V} : Sq K H a xs → xs.length ≠ 2 → Pr K H (.ref a) false
  | fst {a : Addr} {x y : V} {t : String} : Sq K H a [x, y] → TyN K H x t → (t == "int") = false → Pr K H (.ref a) false
  | snd {a : Addr} {x : Int} {y : V} {t : String} : Sq K H a [.int x, y] → TyN K H y t → (t == "int") = false → Pr K H (.ref a) false
  | two {a : Addr} {x y : Int} : Sq K H a [.int x, .int y] → Pr K H (.ref a) (decide (y > 0))
def spPair (K : PySem.W.Frag) : Sp := fun vs H Q _ => ∃ v b, vs = [v] ∧ Pr K H v b ∧ ∀ H', Same H H' → Q (.bl b) H'
theorem sc9 : FnScope ["value"] ["value"] (defScope (top 9)) := ⟨rfl, rfl, rfl, by decide +kernel, rfl, by decide +kernel, by decide +kernel⟩
theorem kit_tl {K : PySem.W.Frag} {t : String} (m : t ∈ tyNames) : PySem.W.kitAny K (.type t) [.type "tuple", .type "list"] = some (t == "tuple" || t == "list") := by
  refine kitAny_cons (b := (t == "tuple")) (kit_ty (kb_tuple t m)) (fun h => ?_) (fun h => by rw [h]; rfl)
  refine kitAny_cons (b := (t == "list")) (kit_ty (kb_list t m)) (fun h' => ?_) (fun h' => by rw [h']; simp)
  rw [h, h']
  rfl
theorem clsTL : Paired ClsV [.ty "tuple", .ty "list"] [.type "tuple", .type "list"] := .cons (.ty _) (.cons (.ty _) .nil)
end
end Kz
set_option linter.all false
set_option maxRecDepth 100000
set_option maxHeartbeats 4000000
namespace Kz
open PySem PySem.Spec PyProof.Rows L2
theorem TyX.same {K : PySem.W.Frag} {H H' : Hp} {v : V} {t : Value} (s : Same H H') (h : TyX K H v t) : TyX K H' v t := by
  cases h with
  | base b =>
    cases b with
    | non => exact .base .non
    | bl x => exact .base (.bl x)
    | int i => exact .base (.int i)
    | str x => exact .base (.str x)
    | flt x => exact .base (.flt x)
    | lst e => exact .base (.lst (s _ _ e))
    | frz e => exact .base (.frz (s _ _ e))
    | tup e => exact .base (.tup (s _ _ e))
    | dK e => exact .base (.dK (s _ _ e))
    | dT e => exact .base (.dT (s _ _ e))
    | ins e a b c d f => exact .base (.ins (s _ _ e) a b c d f)
  | byt b => exact .byt b
  | set e => exact .set (s _ _ e)
  | kList e c => exact .kList e c
  | kTuple e c => exact .kTuple e c
  | kDict e c => exact .kDict e c
  | fTuple e => exact .fTuple (s _ _ e)
  | fDict e => exact .fDict (s _ _ e)
theorem TyN.same {K : PySem.W.Frag} {H H' : Hp} {v : V} {t : String} (s : Same H H') (h : TyN K H v t) : TyN K H' v t := ⟨TyX.same s h.1, h.2⟩
theorem Pr.same {K : PySem.W.Frag} {H H' : Hp} {v : V} {b : Bool} (s : Same H H') (h : Pr K H v b) : Pr K H' v b := by
  cases h with
  | no a b c => exact .no (a.same s) b c
  | len a b => exact .len (a.same s) b
  | fst a b c => exact .fst (a.same s) (b.same s) c
  | snd a b c => exact .snd (a.same s) (b.same s) c
  | two a => exact .two (a.same s)
theorem Sq.ix {K : PySem.W.Frag} {H : Hp} {a : Addr} {xs : List V} {j : Int} {v : V} {Q : VK} (h : Sq K H a xs) (e : atI xs j = some v) (q : Q v H) : rIx K (.ref a) (.int j) H Q :=
  h.elim (fun h => .inl ⟨a, xs, j, v, rfl, rfl, h, e, q⟩) fun h => .inr (.inl ⟨a, xs, j, v, rfl, rfl, h, e, q⟩)
section
variable {P : Program} {w : World} {K : PySem.W.Frag} {mg : Str → Option Value} {base : Heap}
theorem Sq.ty {H : Hp} {a : Addr} {xs : List V} (h : Sq K H a xs) : ∃ t, TyN K H (.ref a) t ∧ (t == "tuple" || t == "list") = true ∧ (t == "int") = false :=
  h.elim (fun h => ⟨_, ty_lst h, by decide, by decide⟩) fun h => ⟨_, ty_tup h, by decide, by decide⟩
theorem ok_pair (T : Tx P K mg) : FnOk P w K mg base CX0 2 T.is_pair.f T.is_pair.fd ["value"] (spPair K) := by
  have G : FnOk P w K mg base CX0 1 T.is_whole.f T.is_whole.fd ["value"] (spWhole K) := ok_whole T
  refine T.is_pair.fn.ok sc9 (fun vs H Q E h => ?_) (fun cdv A outer s H vs Q E hr h => ?_)
  · obtain ⟨v, t, rfl, _⟩ := h
    rfl
  · obtain ⟨v, b, rfl, pr, q⟩ := h
    refine ⟨_, pss_cons (ps_if (PW.pt (pw_or (pt_not (pt_val (pe_callB call_isiT (by rfl) T.mIsi boot_isi (pa_cons (pv 0) (pa_cons (pe_tup (pa_cons (pe_bltn (v := .ty "tuple") (by rfl) T.mTuple boot_ttuple rfl) (pa_cons (pe_bltn (v := .ty "list") (by rfl) T.blt.list boot_tlist rfl) pa_nil))) pa_nil)))))
        (pw_or1 (pt_cmpR op_ne (pe_callB call_len_seq (by rfl) T.blt.len PySem.boot_len (pa_cons (pv 0) pa_nil)) pe_int (nomark _))))) (pss_one (ps_ret pe_bl)) pss_nil)
      (pss_one (ps_ret (pe_and (T.is_whole.c0 G hr (pa_cons (pe_ix ix_seq (pv 0) pe_int (fun _ _ => rfl)) pa_nil)) (pe_and (T.is_whole.c0 G hr (pa_cons (pe_ix ix_seq (pv 0) pe_int (fun _ _ => rfl)) pa_nil))
        (pe_one (pe_cmpR op_gt (pe_ix ix_seq (pv 0) pe_int (fun _ _ => rfl)) pe_int (nomark _))))))), ?_⟩
    refine ⟨v, rfl, ?_⟩
    refine ⟨(by show 2 ≤ sizeLine; decide), fun p hp => ?_⟩
    have s1 : Same H (upd H p (.tup [.ty "tuple", .ty "list"])) := fun c u e => by
      rw [upd_ne (ne_of_none e hp)]
      exact e
    have hp1 : upd H p (.tup [.ty "tuple", .ty "list"]) p = some (.tup [.ty "tuple", .ty "list"]) := upd_same
    have pr1 := pr.same s1
    generalize upd H p (.tup [.ty "tuple", .ty "list"]) = H1 at s1 hp1 pr1
    have atoms : ∀ t : String, TyN K H1 v t → PySem.W.kitAny K (.type t) [.type "tuple", .type "list"] = some (t == "tuple" || t == "list") := fun t ty => kit_tl ty.2
    cases pr1 with
    | @no _ t ty n1 n2 =>
      refine ⟨v, p, _, _, _, _, rfl, hp1, clsTL, ty.1, atoms t ty, _, rfl, ?_⟩
      rw [n1, n2]
      exact iteT (iteT (q _ s1))
    | @len a xs hs l =>
      obtain ⟨t, ty, e1, e2⟩ := hs.ty
      refine ⟨_, p, _, _, _, _, rfl, hp1, clsTL, ty.1, atoms t ty, _, rfl, ?_⟩
      rw [e1]
      refine iteF ⟨_, rfl, a, xs, rfl, hs, rfl, _, rfl, ?_⟩
      have : ¬ ((V.int (xs.length : Int)) = V.int 2) := fun z => l (by have := V.int.inj z; omega)
      rw [decide_eq_false this]
      exact iteT (q _ s1)
    | @fst a x y t' hs ty' n1 =>
      obtain ⟨t, ty, e1, e2⟩ := hs.ty
      refine ⟨_, p, _, _, _, _, rfl, hp1, clsTL, ty.1, atoms t ty, _, rfl, ?_⟩
      rw [e1]
      refine iteF ⟨_, rfl, a, _, rfl, hs, rfl, _, rfl, ?_⟩
      refine iteF ⟨_, rfl, hs.ix rfl ⟨x, _, rfl, ty', ?_⟩⟩
      rw [n1]
      exact ⟨_, rfl, iteF (q _ s1)⟩
    | @snd a x y t' hs ty' n1 =>
      obtain ⟨t, ty, e1, e2⟩ := hs.ty
      refine ⟨_, p, _, _, _, _, rfl, hp1, clsTL, ty.1, atoms t ty, _, rfl, ?_⟩
      rw [e1]
      refine iteF ⟨_, rfl, a, _, rfl, hs, rfl, _, rfl, ?_⟩
      refine iteF ⟨_, rfl, hs.ix rfl ⟨_, _, rfl, ty_int, ?_⟩⟩
      refine ⟨_, rfl, iteT ⟨_, rfl, hs.ix rfl ⟨y, _, rfl, ty', ?_⟩⟩⟩
      rw [n1]
      exact ⟨_, rfl, iteF (q _ s1)⟩
    | @two a x y hs =>
      obtain ⟨t, ty, e1, e2⟩ := hs.ty
      refine ⟨_, p, _, _, _, _, rfl, hp1, clsTL, ty.1, atoms t ty, _, rfl, ?_⟩
      rw [e1]
      refine iteF ⟨_, rfl, a, _, rfl, hs, rfl, _, rfl, ?_⟩
      refine iteF ⟨_, rfl, hs.ix rfl ⟨_, _, rfl, ty_int, ?_⟩⟩
      refine ⟨_, rfl, iteT ⟨_, rfl, hs.ix rfl ⟨_, _, rfl, ty_int, ?_⟩⟩⟩
      refine ⟨_, rfl, iteT ⟨_, rfl, hs.ix rfl ⟨_, _, rfl, rfl, ?_⟩⟩⟩
      exact q _ s1
end
end Kz
set_option linter.all false
set_option maxRecDepth 100000
set_option maxHeartbeats 4000000
namespace Kz
open PySem PySem.Spec PyProof.Rows L2
theorem Same.new {H : Hp} {p : Addr} {o : HO} (n : H p = none) : Same H (upd H p o) := fun b u e => by
  rw [upd_ne (ne_of_none e n)]
  exact e
/-! ### ratios -/
theorem low_num {a b : Int} (h : 0 < b) : a.fdiv ((Nat.gcd a.natAbs b.natAbs : Nat) : Int) = (Rat.divInt a b).num := by
  rw [Rat.num_divInt, Int.sign_eq_one_of_pos h, Int.one_mul, Int.fdiv_eq_ediv_of_nonneg _ (Int.natCast_nonneg _)]
  show a / ((Nat.gcd a.natAbs b.natAbs : Nat) : Int) = a / ((Nat.gcd b.natAbs a.natAbs : Nat) : Int)
  rw [Nat.gcd_comm]
theorem low_den {a b : Int} (h : 0 < b) : b.fdiv ((Nat.gcd a.natAbs b.natAbs : Nat) : Int) = ((Rat.divInt a b).den : Int) := by
  rw [Rat.den_divInt, if_neg (by omega), Int.fdiv_eq_ediv_of_nonneg _ (Int.natCast_nonneg _)]
  show b / ((Nat.gcd a.natAbs b.natAbs : Nat) : Int) = ((b.natAbs / Nat.gcd b.natAbs a.natAbs : Nat) : Int)
  rw [Nat.gcd_comm b.natAbs, Int.natCast_ediv]
  congr 1
  omega
/-- a told ratio -/
def RV (K : PySem.W.Frag) (H : Hp) (v : V) (q : Rat) : Prop := ∃ t, v = .ref t ∧ SqT K H t [.int q.num, .int (q.den : Int)]
theorem RV.same {K : PySem.W.Frag} {H H' : Hp} {v : V} {q : Rat} (s : Same H H') (h : RV K H v q) : RV K H' v q := by
  obtain ⟨t, e, h⟩ := h
  exact ⟨t, e, Kz.Same.seqT s h⟩
/-- how long a ratio's two integers are -/
def Sz (n m : Nat) (q : Rat) : Prop := q.num.natAbs < 2 ^ n ∧ q.den < 2 ^ m
theorem natAbs_fdiv_le {a : Int} {g : Nat} : (a.fdiv (g : Int)).natAbs ≤ a.natAbs := by
  rw [Int.fdiv_eq_ediv_of_nonneg _ (Int.natCast_nonneg _)]
  exact Int.natAbs_ediv_le_natAbs _ _
theorem sz_divInt {a b : Int} {n m : Nat} (h : 0 < b) (ha : a.natAbs < 2 ^ n) (hb : b.natAbs < 2 ^ m) : Sz n m (Rat.divInt a b) := by
  constructor
  · rw [← low_num h]
    exact Nat.lt_of_le_of_lt natAbs_fdiv_le ha
  · have := low_den (a := a) h
    have le : (b.fdiv ((Nat.gcd a.natAbs b.natAbs : Nat) : Int)).natAbs ≤ b.natAbs := natAbs_fdiv_le
    rw [this] at le
    have le' : (Rat.divInt a b).den ≤ b.natAbs := by simpa using le
    omega
/-- what stands for a ratio, as a caller may pass it -/
inductive Arg (K : PySem.W.Frag) (H : Hp) : V → Int → Int → Prop
  | int {a : Int} : Arg K H (.int a) a 1
  | two {p : Addr} {a b : Int} : Sq K H p [.int a, .int b] → 0 < b → Arg K H (.ref p) a b
theorem Arg.pos {K : PySem.W.Frag} {H : Hp} {v : V} {a b : Int} (h : Arg K H v a b) : 0 < b := by
  cases h with
  | int => decide
  | two _ h => exact h
theorem Arg.same {K : PySem.W.Frag} {H H' : Hp} {v : V} {a b : Int} (s : Same H H') (h : Arg K H v a b) : Arg K H' v a b := by
  cases h with
  | int => exact .int
  | two h z => exact .two (h.same s) z
def ArgQ (K : PySem.W.Frag) (H : Hp) (v : V) (n m : Nat) (q : Rat) : Prop := ∃ a b, Arg K H v a b ∧ q = Rat.divInt a b ∧ a.natAbs < 2 ^ n ∧ b.natAbs < 2 ^ m
theorem ArgQ.same {K : PySem.W.Frag} {H H' : Hp} {v : V} {n m : Nat} {q : Rat} (s : Same H H') (h : ArgQ K H v n m q) : ArgQ K H' v n m q := by
  obtain ⟨a, b, h, r⟩ := h
  exact ⟨a, b, h.same s, r⟩
theorem ArgQ.sz {K : PySem.W.Frag} {H : Hp} {v : V} {n m : Nat} {q : Rat} (h : ArgQ K H v n m q) : Sz n m q := by
  obtain ⟨a, b, h, rfl, ha, hb⟩ := h
  exact sz_divInt h.pos ha hb
theorem RV.arg {K : PySem.W.Frag} {H : Hp} {v : V} {n m : Nat} {q : Rat} (h : RV K H v q) (s : Sz n m q) : ArgQ K H v n m q := by
  obtain ⟨t, rfl, h⟩ := h
  refine ⟨_, _, .two (.inr h) (Int.natCast_pos.mpr q.den_pos), ?_, s.1, by simpa using s.2⟩
  rw [Rat.divInt_ofNat, Rat.mkRat_self]
theorem arg_int {K : PySem.W.Frag} {H : Hp} {i : Int} {n m : Nat} (h : i.natAbs < 2 ^ n) (hm : 0 < m) : ArgQ K H (.int i) n m (i : Rat) := by
  refine ⟨_, _, .int, ?_, h, ?_⟩
  · have e := Rat.num_divInt_den (i : Rat)
    rw [Rat.num_intCast, Rat.den_intCast] at e
    exact e.symm
  · show (1 : Nat) < 2 ^ m
    exact Nat.one_lt_two_pow (by omega)
/-- what is no ratio -/
def Odd (K : PySem.W.Frag) (H : Hp) (v : V) : Prop := ∃ t, TyN K H v t ∧ (t == "int") = false ∧ Pr K H v false
theorem Odd.same {K : PySem.W.Frag} {H H' : Hp} {v : V} (s : Same H H') (h : Odd K H v) : Odd K H' v := by
  obtain ⟨t, a, b, c⟩ := h
  exact ⟨t, a.same s, b, c.same s⟩
/-- the way out with a BadNumber -/
def ErN (cN : Addr) (H : Hp) (E : XK) (what : Str) (v : V) : Prop := ∀ (d : Addr) (H' : Hp), Same H H' → H' d = some (.xd [("number", v), ("what", .str what)]) → E (.ref cN) (some d) H'
theorem ErN.after {cN : Addr} {H H1 : Hp} {E : XK} {what : Str} {v : V} (s : Same H H1) (h : ErN cN H E what v) : ErN cN H1 E what v := fun d H' s' => h d H' (s.trans s')
section
variable {P : Program} {w : World} {K : PySem.W.Frag} {mg : Str → Option Value} {base : Heap}
def spRatio (K : PySem.W.Frag) : Sp := fun vs H Q _ => ∃ v t b, vs = [v] ∧ TyN K H v t ∧ ((t == "int") = false → Pr K H v b) ∧ ∀ H', Same H H' → Q (.bl (if (t == "int") = true then true else b)) H'
theorem sc10 : FnScope ["value"] ["value"] (defScope (top 10)) := ⟨rfl, rfl, rfl, by decide +kernel, rfl, by decide +kernel, by decide +kernel⟩
theorem ok_ratio (T : Tx P K mg) : FnOk P w K mg base CX0 3 T.is_ratio.f T.is_ratio.fd ["value"] (spRatio K) := by
  have G : FnOk P w K mg base CX0 1 T.is_whole.f T.is_whole.fd ["value"] (spWhole K) := ok_whole T
  have G2 : FnOk P w K mg base CX0 2 T.is_pair.f T.is_pair.fd ["value"] (spPair K) := ok_pair T
  refine T.is_ratio.fn.ok sc10 (fun vs H Q E h => ?_) (fun cdv A outer s H vs Q E hr h => ?_)
  · obtain ⟨v, t, b, rfl, _⟩ := h
    rfl
  · obtain ⟨v, t, b, rfl, ty, pr, q⟩ := h
    refine ⟨_, pss_one (ps_ret (pe_or (T.is_whole.c0 G (hr.mono (by decide)) (pa_cons (pv 0) pa_nil)) (pe_one (T.is_pair.c0 G2 hr (pa_cons (pv 0) pa_nil))))), ?_⟩
    refine ⟨_, rfl, v, _, rfl, ty, _, rfl, ?_⟩
    cases e : (t == "int") with
    | true =>
      rw [e] at q
      exact iteT (q H (Same.refl _))
    | false =>
      rw [e] at q
      exact iteF ⟨_, rfl, v, b, rfl, pr e, fun H' s => q H' s⟩
def spLow (K : PySem.W.Frag) : Sp := fun vs H Q _ => ∃ a b : Int, vs = [.int a, .int b] ∧ 0 < b ∧ b.natAbs < 2 ^ 9000 ∧ ∀ v H', Same H H' → RV K H' v (Rat.divInt a b) → Q v H'
theorem sc11 : FnScope ["top", "bottom", "most"] ["top", "bottom"] (defScope (top 11)) := ⟨rfl, rfl, rfl, by decide +kernel, rfl, by decide +kernel, by decide +kernel⟩
theorem gcd_le' {a b : Int} (h : 0 < b) : Nat.gcd a.natAbs b.natAbs ≤ b.natAbs := Nat.gcd_le_right _ (by omega)
theorem gcd_ne {a b : Int} (h : 0 < b) : ((Nat.gcd a.natAbs b.natAbs : Nat) : Int) ≠ 0 := by
  have : 0 < Nat.gcd a.natAbs b.natAbs := Nat.gcd_pos_of_pos_right _ (by omega)
  omega
theorem ok_low (T : Tx P K mg) : FnOk P w K mg base CX0 1 T.lowest.f T.lowest.fd ["top", "bottom"] (spLow K) := by
  refine T.lowest.fn.ok sc11 (fun vs H Q E h => ?_) (fun cdv A outer s H vs Q E hr h => ?_)
  · obtain ⟨a, b, rfl, _⟩ := h
    rfl
  · obtain ⟨a, b, rfl, b0, b1, q⟩ := h
    refine ⟨_, pss_cons (ps_set (i := 2) sc11.nd rfl (.inl rfl) (pe_callBfun cr_gcd (by rfl) T.mGcd (pa_cons (pv 0) (pa_cons (pv 1) pa_nil))))
      (pss_one (ps_ret (pe_tup (pa_cons (pe_op op_fdivF (pv 0) (pv 2)) (pa_cons (pe_op op_fdivF (pv 1) (pv 2)) pa_nil))))), ?_⟩
    have hg : CDivF a ((Nat.gcd a.natAbs b.natAbs : Nat) : Int) ∧ CDivF b ((Nat.gcd a.natAbs b.natAbs : Nat) : Int) := by
      have n := gcd_ne (a := a) b0
      have l := gcd_le' (a := a) b0
      have l' : (((Nat.gcd a.natAbs b.natAbs : Nat) : Int)).natAbs < 2 ^ 9000 := Nat.lt_of_le_of_lt (by simpa using l) b1
      exact ⟨cdivF n l', cdivF n l'⟩
    refine ⟨_, rfl, _, rfl, a, b, rfl, ?_⟩
    refine ⟨_, rfl, _, rfl, _, _, rfl, rfl, hg.1, _, rfl, _, rfl, _, _, rfl, rfl, hg.2, (by show 2 ≤ sizeLine; decide), fun p hp => ?_⟩
    refine q _ _ (Same.new hp) ⟨p, rfl, ?_⟩
    rw [← low_num b0, ← low_den b0]
    exact SqT.of upd_same
def spTold (K : PySem.W.Frag) (cN : Addr) : Sp := fun vs H Q E => ∃ v what, vs = [v, .str what] ∧
  ((∃ q n m, ArgQ K H v n m q ∧ m ≤ 9000 ∧ ∀ v' H', Same H H' → RV K H' v' q → Q v' H') ∨ (Odd K H v ∧ ErN cN H E what v))
theorem sc12 : FnScope ["value", "what"] ["value", "what"] (defScope (top 12)) := ⟨rfl, rfl, rfl, by decide +kernel, rfl, by decide +kernel, by decide +kernel⟩
theorem pow_le9 {m : Nat} (h : m ≤ 9000) : 2 ^ m ≤ 2 ^ 9000 := Nat.pow_le_pow_right (by decide) h
theorem ok_told (T : Tx P K mg) : FnOk P w K mg base (CX P w) 4 T.told.f T.told.fd ["value", "what"] (spTold K T.cN) := by
  have G1 : FnOk P w K mg base CX0 1 T.is_whole.f T.is_whole.fd ["value"] (spWhole K) := ok_whole T
  have G2 : FnOk P w K mg base CX0 3 T.is_ratio.f T.is_ratio.fd ["value"] (spRatio K) := ok_ratio T
  have G3 : FnOk P w K mg base CX0 1 T.lowest.f T.lowest.fd ["top", "bottom"] (spLow K) := ok_low T
  refine T.told.fn.okX sc12 (fun vs H Q E h => ?_) (fun cdv A outer s H vs Q E hr h => ?_)
  · obtain ⟨v, what, rfl, _⟩ := h
    rfl
  · obtain ⟨v, what, rfl, h⟩ := h
    have hr1 : Room 1 _ := hr.mono (by decide)
    refine ⟨_, pss_cons (ps_if (pt_not (pt_val (T.is_ratio.c0 G2 hr (pa_cons (pv 0) pa_nil))))
        (pss_one (ps_raise rfl (takes_of rfl rfl rfl rfl) (pmk_oex (CX := CX0) T.eN.o T.iN.i T.iN.t (ok_i3 T.iN.fn) (hr.mono (by decide)) T.bN .nil pass0 rfl T.eN.g (pa_cons (pv 1) (pa_cons (pv 0) pa_nil))))) pss_nil)
      (pss_cons (ps_if (pt_val (T.is_whole.c0 G1 hr1 (pa_cons (pv 0) pa_nil)))
        (pss_one (ps_ret (T.lowest.c0 G3 hr1 (pa_cons (pv 0) (pa_cons pe_int pa_nil))))) pss_nil)
      (pss_one (ps_ret (T.lowest.c0 G3 hr1 (pa_cons (pe_ix ix_seq (pv 0) pe_int (fun _ _ => rfl)) (pa_cons (pe_ix ix_seq (pv 0) pe_int (fun _ _ => rfl)) pa_nil)))))), ?_⟩
    rcases h with ⟨q, n, m, ⟨a, b, arg, rfl, ha, hb⟩, hm, k⟩ | ⟨⟨t, ty, nt, pr⟩, er⟩
    · have hb9 : b.natAbs < 2 ^ 9000 := Nat.lt_of_lt_of_le hb (pow_le9 hm)
      cases arg with
      | int =>
        refine ⟨_, rfl, _, "int", true, rfl, ty_int, (fun z => by cases z), fun H1 s1 => ⟨_, rfl, ?_⟩⟩
        refine iteF ⟨_, rfl, _, "int", rfl, ty_int, _, rfl, ?_⟩
        exact iteT ⟨_, rfl, _, _, rfl, by decide, hb9, fun v' H' s' rv => k v' H' (s1.trans s') rv⟩
      | @two p a b hs b0 =>
        obtain ⟨t, ty, e1, e2⟩ := hs.ty
        refine ⟨_, rfl, _, t, _, rfl, ty, (fun _ => .two hs), fun H1 s1 => ?_⟩
        rw [e2, decide_eq_true b0]
        refine ⟨_, rfl, iteF ⟨_, rfl, _, t, rfl, ty.same s1, ?_⟩⟩
        rw [e2]
        refine ⟨_, rfl, iteF ⟨_, rfl, (hs.same s1).ix rfl ⟨_, rfl, (hs.same s1).ix rfl ⟨_, _, rfl, b0, hb9, fun v' H' s' rv => k v' H' (s1.trans s') rv⟩⟩⟩⟩
    · refine ⟨_, rfl, v, t, false, rfl, ty, (fun _ => pr), fun H1 s1 => ?_⟩
      rw [nt]
      refine ⟨_, rfl, iteT ⟨_, rfl, _, rfl, ?_⟩⟩
      exact raised2 T.eN.o T.nN1 T.nN2 fun d H' s' e => er d H' (s1.trans s') e
end
end Kz
set_option linter.all false
set_option maxRecDepth 100000
set_option maxHeartbeats 4000000
namespace Kz
open PySem PySem.Spec PyProof.Rows L2
theorem rat_add (p r : Rat) : Rat.divInt (p.num * (r.den : Int) + r.num * (p.den : Int)) ((p.den : Int) * (r.den : Int)) = p + r := by
  rw [Rat.add_def', ← Int.natCast_mul, Rat.divInt_ofNat]
theorem rat_sub (p r : Rat) : Rat.divInt (p.num * (r.den : Int) - r.num * (p.den : Int)) ((p.den : Int) * (r.den : Int)) = p - r := by
  rw [Rat.sub_def', ← Int.natCast_mul, Rat.divInt_ofNat]
theorem rat_mul (p r : Rat) : Rat.divInt (p.num * r.num) ((p.den : Int) * (r.den : Int)) = p * r := by
  rw [Rat.mul_def', ← Int.natCast_mul, Rat.divInt_ofNat]
theorem den_abs {m n : Nat} {q : Rat} (s : Sz n m q) : ((q.den : Int)).natAbs < 2 ^ m := by simpa using s.2
theorem den_pos' (q : Rat) : (0 : Int) < (q.den : Int) := Int.natCast_pos.mpr q.den_pos
theorem pow_up {a b : Nat} (h : a ≤ b) : 2 ^ a ≤ 2 ^ b := Nat.pow_le_pow_right (by decide) h
theorem up_lt {i : Int} {a b : Nat} (h : i.natAbs < 2 ^ a) (l : a ≤ b) : i.natAbs < 2 ^ b := Nat.lt_of_lt_of_le h (pow_up l)
/-- * of two integers below powers of two -/
theorem cmulW {i j : Int} {a b : Nat} (ha : i.natAbs < 2 ^ a) (hb : j.natAbs < 2 ^ b) (h : a + b ≤ 900000) : CMulW i j := by
  have x : i.natAbs < 2 ^ (a + 1) := Nat.lt_of_lt_of_le ha (pow_up (by omega))
  have y : j.natAbs < 2 ^ (b + 1) := Nat.lt_of_lt_of_le hb (pow_up (by omega))
  exact wide_mul x y (by omega) (by omega) (by omega)
section
variable {P : Program} {w : World} {K : PySem.W.Frag} {mg : Str → Option Value} {base : Heap}
/-- two ratios, the first wrong one refused -/
def spTwo (K : PySem.W.Frag) (cN : Addr) (C : Nat → Nat → Nat → Nat → Rat → Rat → Prop) (R : Hp → V → Rat → Rat → Prop) : Sp := fun vs H Q E => ∃ v u, vs = [v, u] ∧
  ((∃ q r n m n' m', ArgQ K H v n m q ∧ ArgQ K H u n' m' r ∧ m ≤ 9000 ∧ m' ≤ 9000 ∧ C n m n' m' q r ∧ ∀ v' H', Same H H' → R H' v' q r → Q v' H') ∨ (Odd K H v ∧ ErN cN H E "ratio" v) ∨
    ((∃ q n m, ArgQ K H v n m q ∧ m ≤ 9000) ∧ Odd K H u ∧ ErN cN H E "ratio" u))
def cBin (n m n' m' : Nat) (_ _ : Rat) : Prop := n + n' + m + m' ≤ 800000 ∧ m + m' ≤ 9000

theorem sc14 : FnScope ["one", "other", "top", "bottom", "above", "below"] ["one", "other"] (defScope (top 14)) := ⟨rfl, rfl, rfl, by decide +kernel, rfl, by decide +kernel, by decide +kernel⟩
theorem ok_minus (T : Tx P K mg) : FnOk P w K mg base (CX P w) 5 T.minus.f T.minus.fd ["one", "other"] (spTwo K T.cN cBin (fun H v q r => RV K H v (q - r))) := by
  have G : FnOk P w K mg base (CX P w) 4 T.told.f T.told.fd ["value", "what"] (spTold K T.cN) := ok_told T
  have G3 : FnOk P w K mg base CX0 1 T.lowest.f T.lowest.fd ["top", "bottom"] (spLow K) := ok_low T
  refine T.minus.fn.okX sc14 (fun vs H Q E h => ?_) (fun cdv A outer s H vs Q E hr h => ?_)
  · obtain ⟨v, u, rfl, _⟩ := h
    rfl
  · obtain ⟨v, u, rfl, h⟩ := h
    have hr1 : Room 1 _ := hr.mono (by decide)
    have tk := takes_of (X := cxOf (CX P w) P w K mg base ["one", "other", "top", "bottom", "above", "below"] "minus" (defScope (top 14)) T.minus.f cdv A outer s H E) (E := E) rfl rfl rfl rfl
    refine ⟨_, pss_cons (ps_asg (T.told.cS G hr tk (pa_cons (pv 0) (pa_cons pe_str pa_nil))) (pg_tup (by rfl) (pgs_cons (pg_name (i := 2) sc14.nd rfl (.inl rfl)) (pgs_cons (pg_name (i := 3) sc14.nd rfl (.inl rfl)) pgs_nil))))
      (pss_cons (ps_asg (T.told.cS G hr tk (pa_cons (pv 1) (pa_cons pe_str pa_nil))) (pg_tup (by rfl) (pgs_cons (pg_name (i := 4) sc14.nd rfl (.inl rfl)) (pgs_cons (pg_name (i := 5) sc14.nd rfl (.inl rfl)) pgs_nil))))
      (pss_one (ps_ret (T.lowest.c0 G3 hr1 (pa_cons (pe_op op_sub (pe_op op_mulW (pv 2) (pv 5)) (pe_op op_mulW (pv 4) (pv 3))) (pa_cons (pe_op op_mulW (pv 3) (pv 5)) pa_nil)))))), ?_⟩
    rcases h with ⟨q, r, n, m, n', m', aq, ar, hm, hm', hC, k⟩ | ⟨od, er⟩ | ⟨⟨q, n, m, aq, hm⟩, od, er⟩
    · refine ⟨_, rfl, _, _, rfl, .inl ⟨q, n, m, aq, hm, fun v1 H1 s1 rv => ?_⟩⟩
      obtain ⟨t1, rfl, h1⟩ := rv
      refine ⟨t1, _, rfl, h1, rfl, _, _, rfl, _, _, rfl, rfl, ?_⟩
      refine ⟨_, rfl, _, _, rfl, .inl ⟨r, n', m', ar.same s1, hm', fun v2 H2 s2 rv2 => ?_⟩⟩
      obtain ⟨t2, rfl, h2⟩ := rv2
      refine ⟨t2, _, rfl, h2, rfl, _, _, rfl, _, _, rfl, rfl, ?_⟩
      have zq := aq.sz
      have zr := ar.sz
      have s12 := s1.trans s2
      refine ⟨_, rfl, _, rfl, _, _, rfl, rfl, cmulW zq.1 (den_abs zr) (by have := hC.1; omega), _, rfl, _, rfl, _, _, rfl, rfl, cmulW zr.1 (den_abs zq) (by have := hC.1; omega), _, _, rfl, rfl, ?_⟩
      refine ⟨_, rfl, _, rfl, _, _, rfl, rfl, cmulW (den_abs zq) (den_abs zr) (by have := hC.1; omega), _, _, rfl, (Int.mul_pos (den_pos' q) (den_pos' r)), (up_lt (wide_lt (den_abs zq) (den_abs zr)) hC.2), fun v' H' s' rv => ?_⟩
      rw [rat_sub] at rv
      exact k v' H' (s12.trans s') rv
    · exact ⟨_, rfl, _, _, rfl, .inr ⟨od, er⟩⟩
    · refine ⟨_, rfl, _, _, rfl, .inl ⟨q, n, m, aq, hm, fun v1 H1 s1 rv => ?_⟩⟩
      obtain ⟨t1, rfl, h1⟩ := rv
      refine ⟨t1, _, rfl, h1, rfl, _, _, rfl, _, _, rfl, rfl, ?_⟩
      exact ⟨_, rfl, _, _, rfl, .inr ⟨od.same s1, er.after s1⟩⟩
end
end Kz
set_option linter.all false
set_option maxRecDepth 100000
set_option maxHeartbeats 4000000
namespace Kz
open PySem PySem.Spec PyProof.Rows L2
section
variable {P : Program} {w : World} {K : PySem.W.Frag} {mg : Str → Option Value} {base : Heap}
theorem sc17 : FnScope ["one", "other", "top", "bottom", "above", "below"] ["one", "other"] (defScope (top 15)) := ⟨rfl, rfl, rfl, by decide +kernel, rfl, by decide +kernel, by decide +kernel⟩
theorem ok_lower (T : Tx P K mg) : FnOk P w K mg base (CX P w) 5 T.lower.f T.lower.fd ["one", "other"] (spTwo K T.cN cBin (fun _ v q r => v = .bl (decide (q < r)))) := by
  have G : FnOk P w K mg base (CX P w) 4 T.told.f T.told.fd ["value", "what"] (spTold K T.cN) := ok_told T
  refine T.lower.fn.okX sc17 (fun vs H Q E h => ?_) (fun cdv A outer s H vs Q E hr h => ?_)
  · obtain ⟨v, u, rfl, _⟩ := h
    rfl
  · obtain ⟨v, u, rfl, h⟩ := h
    have tk := takes_of (X := cxOf (CX P w) P w K mg base ["one", "other", "top", "bottom", "above", "below"] "lower" (defScope (top 15)) T.lower.f cdv A outer s H E) (E := E) rfl rfl rfl rfl
    refine ⟨_, pss_cons (ps_asg (T.told.cS G hr tk (pa_cons (pv 0) (pa_cons pe_str pa_nil))) (pg_tup (by rfl) (pgs_cons (pg_name (i := 2) sc17.nd rfl (.inl rfl)) (pgs_cons (pg_name (i := 3) sc17.nd rfl (.inl rfl)) pgs_nil))))
      (pss_cons (ps_asg (T.told.cS G hr tk (pa_cons (pv 1) (pa_cons pe_str pa_nil))) (pg_tup (by rfl) (pgs_cons (pg_name (i := 4) sc17.nd rfl (.inl rfl)) (pgs_cons (pg_name (i := 5) sc17.nd rfl (.inl rfl)) pgs_nil))))
      (pss_one (ps_ret (pe_cmpR op_lt (pe_op op_mulW (pv 2) (pv 5)) (pe_op op_mulW (pv 4) (pv 3)) (nomark _))))), ?_⟩
    rcases h with ⟨q, r, n, m, n', m', aq, ar, hm, hm', hC, k⟩ | ⟨od, er⟩ | ⟨⟨q, n, m, aq, hm⟩, od, er⟩
    · refine ⟨_, rfl, _, _, rfl, .inl ⟨q, n, m, aq, hm, fun v1 H1 s1 rv => ?_⟩⟩
      obtain ⟨t1, rfl, h1⟩ := rv
      refine ⟨t1, _, rfl, h1, rfl, _, _, rfl, _, _, rfl, rfl, ?_⟩
      refine ⟨_, rfl, _, _, rfl, .inl ⟨r, n', m', ar.same s1, hm', fun v2 H2 s2 rv2 => ?_⟩⟩
      obtain ⟨t2, rfl, h2⟩ := rv2
      refine ⟨t2, _, rfl, h2, rfl, _, _, rfl, _, _, rfl, rfl, ?_⟩
      have zq := aq.sz
      have zr := ar.sz
      refine ⟨_, rfl, _, rfl, _, _, rfl, rfl, cmulW zq.1 (den_abs zr) (by have := hC.1; omega), _, rfl, _, rfl, _, _, rfl, rfl, cmulW zr.1 (den_abs zq) (by have := hC.1; omega), _, _, rfl, rfl, ?_⟩
      refine k _ _ (s1.trans s2) ?_
      show V.bl _ = V.bl _
      congr 1
      exact decide_eq_decide.mpr (Rat.lt_iff q r).symm
    · exact ⟨_, rfl, _, _, rfl, .inr ⟨od, er⟩⟩
    · refine ⟨_, rfl, _, _, rfl, .inl ⟨q, n, m, aq, hm, fun v1 H1 s1 rv => ?_⟩⟩
      obtain ⟨t1, rfl, h1⟩ := rv
      refine ⟨t1, _, rfl, h1, rfl, _, _, rfl, _, _, rfl, rfl, ?_⟩
      exact ⟨_, rfl, _, _, rfl, .inr ⟨od.same s1, er.after s1⟩⟩
end
end Kz
set_option linter.all false
set_option maxRecDepth 100000
set_option maxHeartbeats 4000000
namespace Kz
open PySem PySem.Spec PyProof.Rows L2
/-- .. and of the law's own ratios -/
structure Ty (P : Program) (K : PySem.W.Frag) (mg : Str → Option Value) extends Tx P K mg where
  l_gcd : Df K mg "_law_gcd" (top 57) ["_law_one", "_law_two"]
  l_q : Df K mg "_law_q" (top 58) ["_law_top", "_law_bottom"]
  l_plus : Df K mg "_law_plus" (top 59) ["_law_one", "_law_two"]
  l_minus : Df K mg "_law_minus" (top 60) ["_law_one", "_law_two"]
  l_times : Df K mg "_law_times" (top 61) ["_law_one", "_law_two"]
  l_less : Df K mg "_law_less" (top 62) ["_law_one", "_law_two"]
theorem gcd_step {x y k : Nat} (h : y ≤ x) (y0 : 0 < y) (p : x * y < 2 ^ k) : 0 < k ∧ y * (x % y) < 2 ^ (k - 1) := by
  have x0 : 0 < x * y := Nat.mul_pos (by omega) y0
  have k0 : 0 < k := by
    rcases Nat.eq_zero_or_pos k with z | z
    · rw [z] at p
      omega
    · exact z
  refine ⟨k0, ?_⟩
  have e : 2 ^ k = 2 * 2 ^ (k - 1) := by
    rw [← Nat.pow_succ']
    congr 1
    omega
  have m : 2 * (x % y) ≤ x := by
    have := Nat.mod_add_div x y
    have l := Nat.mod_lt x y0
    have d : 1 ≤ x / y := Nat.div_pos h y0
    have : y * 1 ≤ y * (x / y) := Nat.mul_le_mul_left _ d
    omega
  have : y * (2 * (x % y)) ≤ y * x := Nat.mul_le_mul_left _ m
  rw [Nat.mul_left_comm, Nat.mul_comm y x] at this
  omega
section
variable {P : Program} {w : World} {K : PySem.W.Frag} {mg : Str → Option Value} {base : Heap}
theorem boot_abs : bootBuiltins "abs" = some (.builtin "abs") := by decide +kernel
def spGcd : Sp := fun vs H Q _ => ∃ (a b : Int) (n : Nat), vs = [.int a, .int b] ∧ b.natAbs < 2 ^ n ∧ n ≤ 9000 ∧ Q (.int ((Nat.gcd a.natAbs b.natAbs : Nat) : Int)) H
theorem sc39 : FnScope ["_law_one", "_law_two", "_law_lap"] ["_law_one", "_law_two"] (defScope (top 57)) := ⟨rfl, rfl, rfl, by decide +kernel, rfl, by decide +kernel, by decide +kernel⟩
theorem abs_nat (a : Int) : (if a < 0 then -a else a) = ((a.natAbs : Nat) : Int) := by
  split <;> omega
theorem ok_lgcd (T : Ty P K mg) : FnOk P w K mg base CX0 1 T.l_gcd.f T.l_gcd.fd ["_law_one", "_law_two"] spGcd := by
  refine T.l_gcd.fn.ok sc39 (fun vs H Q E h => ?_) (fun cdv A outer s H vs Q E hr h => ?_)
  · obtain ⟨a, b, n, rfl, _⟩ := h
    rfl
  · obtain ⟨a, b, n, rfl, hb, hn, q⟩ := h
    refine ⟨_, pss_cons (ps_par (i := 0) (j := 1) rfl sc39.nd rfl rfl (by decide) rfl rfl (pa_cons (pe_callB call_abs (by rfl) T.mAbs boot_abs (pa_cons (pv 0) pa_nil)) (pa_cons (pe_callB call_abs (by rfl) T.mAbs boot_abs (pa_cons (pv 1) pa_nil)) pa_nil)) (by rfl))
      (pss_cons (ps_for PassesOwn.never rfl (pi_range1 rfl T.blt.range (pa_cons pe_int pa_nil)) (pg_name (i := 2) sc39.nd rfl (.inl rfl))
        (pss_cons (ps_if (pt_cmpR op_eq (pv 1) pe_int (nomark _)) (pss_one ps_break) pss_nil)
        (pss_one (ps_par (i := 0) (j := 1) rfl sc39.nd rfl rfl (by decide) rfl rfl (pa_cons (pv 1) (pa_cons (pe_op op_mod (pe_callTy call_int1 (by rfl) T.blt.int boot_int (pa_cons (pv 0) pa_nil)) (pv 1)) pa_nil)) (by rfl)))))
      (pss_one (ps_ret (pv 0)))), ?_⟩
    refine ⟨_, rfl, a, rfl, _, rfl, b, rfl, _, _, rfl, ?_⟩
    rw [abs_nat, abs_nat]
    refine ⟨50000, rfl, by decide, by decide, for_range (lo := 0) (n := 50000) (fun i σ H' => H' = H ∧ ∃ (x y : Nat) (v : Option V), σ = [some (.int (x : Int)), some (.int (y : Int)), v] ∧ Nat.gcd x y = Nat.gcd a.natAbs b.natAbs ∧
        (i = 0 → y < 2 ^ n) ∧ (0 < i → y ≤ x ∧ x * y < 2 ^ (2 * n + 1 - i)))
      ⟨rfl, _, _, none, rfl, rfl, fun _ => hb, fun z => absurd z (by decide)⟩ ?_ ?_⟩
    · rintro i σ H' hi ⟨rfl, x, y, v, rfl, eg, c0, c1⟩
      refine ⟨_, rfl, rfl, _, rfl, ?_⟩
      by_cases y0 : y = 0
      · subst y0
        refine iteT ⟨_, rfl, ?_⟩
        rw [Nat.gcd_zero_right] at eg
        rw [eg]
        exact q
      · rw [decide_eq_false (fun z => y0 (by have := V.int.inj z; omega))]
        have yp : (0 : Int) < (y : Int) := by omega
        refine iteF ⟨_, rfl, _, rfl, .inl ⟨_, rfl, _, rfl, _, _, rfl, rfl, yp, _, _, rfl, rfl, y, x % y, some (.int (0 + (i : Int))), ?_, ?_, fun z => absurd z (by omega), fun _ => ?_⟩⟩
        · show [some (V.int (y : Int)), some (V.int ((x : Int) % (y : Int))), some (V.int (0 + (i : Int)))] = _
          rw [← Int.natCast_emod]
        · rw [Nat.gcd_comm y, ← Nat.gcd_rec, Nat.gcd_comm]
          exact eg
        · rcases Nat.eq_zero_or_pos i with i0 | i0
          · have l := c0 i0
            have m := Nat.mod_lt x (show 0 < y by omega)
            refine ⟨by omega, ?_⟩
            have l1 : y * (x % y) < 2 ^ n * 2 ^ n := Nat.mul_lt_mul'' l (by omega)
            rw [← Nat.pow_add] at l1
            have e : 2 * n + 1 - (i + 1) = n + n := by omega
            rw [e]
            exact l1
          · obtain ⟨le, p⟩ := c1 i0
            obtain ⟨_, p2⟩ := gcd_step le (by omega) p
            have m := Nat.mod_lt x (show 0 < y by omega)
            refine ⟨by omega, ?_⟩
            have e : 2 * n + 1 - (i + 1) = 2 * n + 1 - i - 1 := by omega
            rw [e]
            exact p2
    · rintro σ H' ⟨rfl, x, y, v, rfl, eg, _, c1⟩
      obtain ⟨le, p⟩ := c1 (by decide)
      have e : 2 * n + 1 - 50000 = 0 := by omega
      rw [e] at p
      have y0 : y = 0 := by
        rcases Nat.eq_zero_or_pos y with z | z
        · exact z
        · have : 0 < x * y := Nat.mul_pos (by omega) z
          omega
      subst y0
      refine ⟨_, rfl, ?_⟩
      rw [Nat.gcd_zero_right] at eg
      rw [eg]
      exact q
def spLq (K : PySem.W.Frag) : Sp := fun vs H Q _ => ∃ (a b : Int), vs = [.int a, .int b] ∧ b ≠ 0 ∧ b.natAbs < 2 ^ 9000 ∧ ∀ v H', Same H H' → RV K H' v (Rat.divInt a b) → Q v H'
theorem sc40 : FnScope ["_law_top", "_law_bottom", "_law_by"] ["_law_top", "_law_bottom"] (defScope (top 58)) := ⟨rfl, rfl, rfl, by decide +kernel, rfl, by decide +kernel, by decide +kernel⟩
theorem fdiv_neg_exact {g a : Int} (h : g ∣ a) (n : g ≠ 0) : a.fdiv (-g) = (-a) / g := by
  obtain ⟨c, rfl⟩ := h
  have e1 : g * c = (-g) * (-c) := by rw [Int.neg_mul_neg]
  have e2 : -(g * c) = g * (-c) := by rw [Int.mul_neg]
  rw [e2, Int.mul_ediv_cancel_left _ n]
  rw [e1]
  exact Int.mul_fdiv_cancel_left _ (by omega)
theorem low_num' {a b : Int} (h : b < 0) : a.fdiv (-((Nat.gcd a.natAbs b.natAbs : Nat) : Int)) = (Rat.divInt a b).num := by
  have n : ((Nat.gcd a.natAbs b.natAbs : Nat) : Int) ≠ 0 := by
    have : 0 < Nat.gcd a.natAbs b.natAbs := Nat.gcd_pos_of_pos_right _ (by omega)
    omega
  have d : ((Nat.gcd a.natAbs b.natAbs : Nat) : Int) ∣ a := Int.ofNat_dvd_left.mpr (Nat.gcd_dvd_left _ _)
  rw [fdiv_neg_exact d n, Rat.num_divInt, Int.sign_eq_neg_one_of_neg h]
  show (-a) / ((Nat.gcd a.natAbs b.natAbs : Nat) : Int) = (-1 * a) / ((Nat.gcd b.natAbs a.natAbs : Nat) : Int)
  rw [Nat.gcd_comm, Int.neg_one_mul]
theorem low_den' {a b : Int} (h : b < 0) : b.fdiv (-((Nat.gcd a.natAbs b.natAbs : Nat) : Int)) = ((Rat.divInt a b).den : Int) := by
  have n : ((Nat.gcd a.natAbs b.natAbs : Nat) : Int) ≠ 0 := by
    have : 0 < Nat.gcd a.natAbs b.natAbs := Nat.gcd_pos_of_pos_right _ (by omega)
    omega
  have d : ((Nat.gcd a.natAbs b.natAbs : Nat) : Int) ∣ b := Int.ofNat_dvd_left.mpr (Nat.gcd_dvd_right _ _)
  rw [fdiv_neg_exact d n, Rat.den_divInt, if_neg (by omega)]
  show (-b) / ((Nat.gcd a.natAbs b.natAbs : Nat) : Int) = ((b.natAbs / Nat.gcd b.natAbs a.natAbs : Nat) : Int)
  rw [Nat.gcd_comm b.natAbs, Int.natCast_ediv]
  congr 1
  omega
theorem ok_lq (T : Ty P K mg) : FnOk P w K mg base CX0 2 T.l_q.f T.l_q.fd ["_law_top", "_law_bottom"] (spLq K) := by
  have G : FnOk P w K mg base CX0 1 T.l_gcd.f T.l_gcd.fd ["_law_one", "_law_two"] spGcd := ok_lgcd T
  refine T.l_q.fn.ok sc40 (fun vs H Q E h => ?_) (fun cdv A outer s H vs Q E hr h => ?_)
  · obtain ⟨a, b, rfl, _⟩ := h
    rfl
  · obtain ⟨a, b, rfl, b0, b1, q⟩ := h
    refine ⟨_, pss_cons (ps_set (i := 2) sc40.nd rfl (.inl rfl) (T.l_gcd.c0 G hr (pa_cons (pv 0) (pa_cons (pv 1) pa_nil))))
      (pss_cons (ps_set (i := 2) sc40.nd rfl (.inl rfl) (pe_ifExp (pt_cmpR op_lt (pv 1) pe_int (nomark _)) (pe_un un_neg (pv 2)) (pv 2)))
      (pss_one (ps_ret (pe_tup (pa_cons (pe_op op_fdivF (pv 0) (pv 2)) (pa_cons (pe_op op_fdivF (pv 1) (pv 2)) pa_nil)))))), ?_⟩
    have g0 : 0 < Nat.gcd a.natAbs b.natAbs := Nat.gcd_pos_of_pos_right _ (by omega)
    have l : Nat.gcd a.natAbs b.natAbs ≤ b.natAbs := Nat.gcd_le_right _ (by omega)
    have l1 : (((Nat.gcd a.natAbs b.natAbs : Nat) : Int)).natAbs < 2 ^ 9000 := Nat.lt_of_le_of_lt (by simpa using l) b1
    have l2 : (-((Nat.gcd a.natAbs b.natAbs : Nat) : Int)).natAbs < 2 ^ 9000 := by rw [Int.natAbs_neg]; exact l1
    refine ⟨_, rfl, _, rfl, a, b, 9000, rfl, b1, Nat.le_refl _, ?_⟩
    refine ⟨_, rfl, _, _, rfl, rfl, _, rfl, ?_⟩
    refine ite2 (fun lt => ?_) (fun ge => ?_)
    · have lt' := of_decide_eq_true lt
      refine ⟨_, rfl, _, rfl, ?_⟩
      refine ⟨_, rfl, _, rfl, _, _, rfl, rfl, cdivF (by omega) l2, _, rfl, _, rfl, _, _, rfl, rfl, cdivF (by omega) l2, (by show 2 ≤ sizeLine; decide), fun p hp => ?_⟩
      refine q _ _ (Same.new hp) ⟨p, rfl, ?_⟩
      rw [← low_num' lt', ← low_den' lt']
      exact SqT.of upd_same
    · have ge' : ¬ (b < 0) := fun z => ge (decide_eq_true z)
      have b0' : 0 < b := by omega
      refine ⟨_, rfl, ?_⟩
      refine ⟨_, rfl, _, rfl, _, _, rfl, rfl, cdivF (by omega) l1, _, rfl, _, rfl, _, _, rfl, rfl, cdivF (by omega) l1, (by show 2 ≤ sizeLine; decide), fun p hp => ?_⟩
      refine q _ _ (Same.new hp) ⟨p, rfl, ?_⟩
      rw [← low_num b0', ← low_den b0']
      exact SqT.of upd_same
/-- a ratio as a tuple, in any terms -/
def PQ (K : PySem.W.Frag) (H : Hp) (v : V) (n m : Nat) (q : Rat) : Prop := ∃ t a b, v = .ref t ∧ SqT K H t [.int a, .int b] ∧ 0 < b ∧ q = Rat.divInt a b ∧ a.natAbs < 2 ^ n ∧ b.natAbs < 2 ^ m
theorem RV.pq {H : Hp} {v : V} {n m : Nat} {q : Rat} (h : RV K H v q) (s : Sz n m q) : PQ K H v n m q := by
  obtain ⟨t, rfl, h⟩ := h
  refine ⟨t, _, _, rfl, h, den_pos' q, ?_, s.1, by simpa using s.2⟩
  rw [Rat.divInt_ofNat, Rat.mkRat_self]
def spL2 (K : PySem.W.Frag) (C : Nat → Nat → Nat → Nat → Rat → Rat → Prop) (f : Rat → Rat → Rat) : Sp := fun vs H Q _ => ∃ v u q r n m n' m', vs = [v, u] ∧ PQ K H v n m q ∧ PQ K H u n' m' r ∧ C n m n' m' q r ∧
  ∀ v' H', Same H H' → RV K H' v' (f q r) → Q v' H'
theorem sc41 : FnScope ["_law_one", "_law_two"] ["_law_one", "_law_two"] (defScope (top 59)) := ⟨rfl, rfl, rfl, by decide +kernel, rfl, by decide +kernel, by decide +kernel⟩
theorem ok_lplus (T : Ty P K mg) : FnOk P w K mg base CX0 3 T.l_plus.f T.l_plus.fd ["_law_one", "_law_two"] (spL2 K cBin (fun q r => q + r)) := by
  have G : FnOk P w K mg base CX0 2 T.l_q.f T.l_q.fd ["_law_top", "_law_bottom"] (spLq K) := ok_lq T
  refine T.l_plus.fn.ok sc41 (fun vs H Q E h => ?_) (fun cdv A outer s H vs Q E hr h => ?_)
  · obtain ⟨v, u, q, r, n, m, n', m', rfl, _⟩ := h
    rfl
  · obtain ⟨v, u, q, r, n, m, n', m', rfl, ⟨t, a, b, rfl, ht, b0, rfl, ha, hb⟩, ⟨t', c, d, rfl, ht', d0, rfl, hc, hd⟩, hC, k⟩ := h
    refine ⟨_, pss_one (ps_ret (T.l_q.c0 G hr (pa_cons (pe_op op_add (pe_op op_mulW (pe_ix ix_tup (pv 0) pe_int (fun _ _ => rfl)) (pe_ix ix_tup (pv 1) pe_int (fun _ _ => rfl))) (pe_op op_mulW (pe_ix ix_tup (pv 1) pe_int (fun _ _ => rfl)) (pe_ix ix_tup (pv 0) pe_int (fun _ _ => rfl)))) (pa_cons (pe_op op_mulW (pe_ix ix_tup (pv 0) pe_int (fun _ _ => rfl)) (pe_ix ix_tup (pv 1) pe_int (fun _ _ => rfl))) pa_nil)))), ?_⟩
    refine ⟨_, rfl, _, _, _, _, rfl, rfl, ht, rfl, _, rfl, _, _, _, _, rfl, rfl, ht', rfl, _, _, rfl, rfl, cmulW ha hd (by have := hC.1; omega), ?_⟩
    refine ⟨_, rfl, _, _, _, _, rfl, rfl, ht', rfl, _, rfl, _, _, _, _, rfl, rfl, ht, rfl, _, _, rfl, rfl, cmulW hc hb (by have := hC.1; omega), _, _, rfl, rfl, ?_⟩
    refine ⟨_, rfl, _, _, _, _, rfl, rfl, ht, rfl, _, rfl, _, _, _, _, rfl, rfl, ht', rfl, _, _, rfl, rfl, cmulW hb hd (by have := hC.1; omega), _, _, rfl, Int.ne_of_gt (Int.mul_pos b0 d0), up_lt (wide_lt hb hd) hC.2, fun v' H' s' rv => k v' H' s' ?_⟩
    show RV K H' v' (_ + _)
    rw [Rat.divInt_add_divInt _ _ (Int.ne_of_gt b0) (Int.ne_of_gt d0)]
    exact rv
theorem sc42 : FnScope ["_law_one", "_law_two"] ["_law_one", "_law_two"] (defScope (top 60)) := ⟨rfl, rfl, rfl, by decide +kernel, rfl, by decide +kernel, by decide +kernel⟩
theorem ok_lminus (T : Ty P K mg) : FnOk P w K mg base CX0 3 T.l_minus.f T.l_minus.fd ["_law_one", "_law_two"] (spL2 K cBin (fun q r => q - r)) := by
  have G : FnOk P w K mg base CX0 2 T.l_q.f T.l_q.fd ["_law_top", "_law_bottom"] (spLq K) := ok_lq T
  refine T.l_minus.fn.ok sc42 (fun vs H Q E h => ?_) (fun cdv A outer s H vs Q E hr h => ?_)
  · obtain ⟨v, u, q, r, n, m, n', m', rfl, _⟩ := h
    rfl
  · obtain ⟨v, u, q, r, n, m, n', m', rfl, ⟨t, a, b, rfl, ht, b0, rfl, ha, hb⟩, ⟨t', c, d, rfl, ht', d0, rfl, hc, hd⟩, hC, k⟩ := h
    refine ⟨_, pss_one (ps_ret (T.l_q.c0 G hr (pa_cons (pe_op op_sub (pe_op op_mulW (pe_ix ix_tup (pv 0) pe_int (fun _ _ => rfl)) (pe_ix ix_tup (pv 1) pe_int (fun _ _ => rfl))) (pe_op op_mulW (pe_ix ix_tup (pv 1) pe_int (fun _ _ => rfl)) (pe_ix ix_tup (pv 0) pe_int (fun _ _ => rfl)))) (pa_cons (pe_op op_mulW (pe_ix ix_tup (pv 0) pe_int (fun _ _ => rfl)) (pe_ix ix_tup (pv 1) pe_int (fun _ _ => rfl))) pa_nil)))), ?_⟩
    refine ⟨_, rfl, _, _, _, _, rfl, rfl, ht, rfl, _, rfl, _, _, _, _, rfl, rfl, ht', rfl, _, _, rfl, rfl, cmulW ha hd (by have := hC.1; omega), ?_⟩
    refine ⟨_, rfl, _, _, _, _, rfl, rfl, ht', rfl, _, rfl, _, _, _, _, rfl, rfl, ht, rfl, _, _, rfl, rfl, cmulW hc hb (by have := hC.1; omega), _, _, rfl, rfl, ?_⟩
    refine ⟨_, rfl, _, _, _, _, rfl, rfl, ht, rfl, _, rfl, _, _, _, _, rfl, rfl, ht', rfl, _, _, rfl, rfl, cmulW hb hd (by have := hC.1; omega), _, _, rfl, Int.ne_of_gt (Int.mul_pos b0 d0), up_lt (wide_lt hb hd) hC.2, fun v' H' s' rv => k v' H' s' ?_⟩
    show RV K H' v' (_ - _)
    rw [Rat.divInt_sub_divInt _ _ (Int.ne_of_gt b0) (Int.ne_of_gt d0)]
    exact rv
theorem sc43 : FnScope ["_law_one", "_law_two"] ["_law_one", "_law_two"] (defScope (top 61)) := ⟨rfl, rfl, rfl, by decide +kernel, rfl, by decide +kernel, by decide +kernel⟩
theorem ok_ltimes (T : Ty P K mg) : FnOk P w K mg base CX0 3 T.l_times.f T.l_times.fd ["_law_one", "_law_two"] (spL2 K cBin (fun q r => q * r)) := by
  have G : FnOk P w K mg base CX0 2 T.l_q.f T.l_q.fd ["_law_top", "_law_bottom"] (spLq K) := ok_lq T
  refine T.l_times.fn.ok sc43 (fun vs H Q E h => ?_) (fun cdv A outer s H vs Q E hr h => ?_)
  · obtain ⟨v, u, q, r, n, m, n', m', rfl, _⟩ := h
    rfl
  · obtain ⟨v, u, q, r, n, m, n', m', rfl, ⟨t, a, b, rfl, ht, b0, rfl, ha, hb⟩, ⟨t', c, d, rfl, ht', d0, rfl, hc, hd⟩, hC, k⟩ := h
    refine ⟨_, pss_one (ps_ret (T.l_q.c0 G hr (pa_cons (pe_op op_mulW (pe_ix ix_tup (pv 0) pe_int (fun _ _ => rfl)) (pe_ix ix_tup (pv 1) pe_int (fun _ _ => rfl))) (pa_cons (pe_op op_mulW (pe_ix ix_tup (pv 0) pe_int (fun _ _ => rfl)) (pe_ix ix_tup (pv 1) pe_int (fun _ _ => rfl))) pa_nil)))), ?_⟩
    refine ⟨_, rfl, _, _, _, _, rfl, rfl, ht, rfl, _, rfl, _, _, _, _, rfl, rfl, ht', rfl, _, _, rfl, rfl, cmulW ha hc (by have := hC.1; omega), ?_⟩
    refine ⟨_, rfl, _, _, _, _, rfl, rfl, ht, rfl, _, rfl, _, _, _, _, rfl, rfl, ht', rfl, _, _, rfl, rfl, cmulW hb hd (by have := hC.1; omega), _, _, rfl, Int.ne_of_gt (Int.mul_pos b0 d0), up_lt (wide_lt hb hd) hC.2, fun v' H' s' rv => k v' H' s' ?_⟩
    show RV K H' v' (_ * _)
    rw [Rat.divInt_mul_divInt]
    exact rv
def spLess (K : PySem.W.Frag) : Sp := fun vs H Q _ => ∃ v u q r n m n' m', vs = [v, u] ∧ RV K H v q ∧ RV K H u r ∧ Sz n m q ∧ Sz n' m' r ∧ n + m' ≤ 800000 ∧ n' + m ≤ 800000 ∧ Q (.bl (decide (q < r))) H
theorem sc45 : FnScope ["_law_one", "_law_two"] ["_law_one", "_law_two"] (defScope (top 62)) := ⟨rfl, rfl, rfl, by decide +kernel, rfl, by decide +kernel, by decide +kernel⟩
theorem ok_lless (T : Ty P K mg) : FnOk P w K mg base CX0 1 T.l_less.f T.l_less.fd ["_law_one", "_law_two"] (spLess K) := by
  refine T.l_less.fn.ok sc45 (fun vs H Q E h => ?_) (fun cdv A outer s H vs Q E hr h => ?_)
  · obtain ⟨v, u, q, r, n, m, n', m', rfl, _⟩ := h
    rfl
  · obtain ⟨v, u, q, r, n, m, n', m', rfl, ⟨t, rfl, ht⟩, ⟨t', rfl, ht'⟩, zq, zr, l1, l2, k⟩ := h
    refine ⟨_, pss_one (ps_ret (pe_cmpR op_lt (pe_op op_mulW (pe_ix ix_tup (pv 0) pe_int (fun _ _ => rfl)) (pe_ix ix_tup (pv 1) pe_int (fun _ _ => rfl))) (pe_op op_mulW (pe_ix ix_tup (pv 1) pe_int (fun _ _ => rfl)) (pe_ix ix_tup (pv 0) pe_int (fun _ _ => rfl))) (nomark _))), ?_⟩
    refine ⟨_, rfl, _, _, _, _, rfl, rfl, ht, rfl, _, rfl, _, _, _, _, rfl, rfl, ht', rfl, _, _, rfl, rfl, cmulW zq.1 (den_abs zr) (by omega), ?_⟩
    refine ⟨_, rfl, _, _, _, _, rfl, rfl, ht', rfl, _, rfl, _, _, _, _, rfl, rfl, ht, rfl, _, _, rfl, rfl, cmulW zr.1 (den_abs zq) (by omega), _, _, rfl, rfl, ?_⟩
    show Q (V.bl (decide (q.num * (r.den : Int) < r.num * (q.den : Int)))) H
    rw [decide_eq_decide.mpr (Rat.lt_iff q r).symm]
    exact k
end
end Kz
set_option linter.all false
set_option maxRecDepth 100000
set_option maxHeartbeats 4000000
namespace Kz
open PySem PySem.Spec PyProof.Rows L2
/-! ### rows of ratios -/
def cf (qs : List Rat) (i : Nat) : Rat := qs.getD i 0
/-- no zero at its end -/
def Tr (qs : List Rat) : Prop := ∀ k, qs.length = k + 1 → cf qs k ≠ 0
theorem cf_out {qs : List Rat} {i : Nat} (h : qs.length ≤ i) : cf qs i = 0 := by
  unfold cf
  rw [List.getD_eq_getElem?_getD, List.getElem?_eq_none h]
  rfl
theorem cf_at {qs : List Rat} {i : Nat} {q : Rat} (h : qs[i]? = some q) : cf qs i = q := by
  unfold cf
  rw [List.getD_eq_getElem?_getD, h]
  rfl
theorem at_cf {qs : List Rat} {i : Nat} (h : i < qs.length) : qs[i]? = some (cf qs i) := by
  rw [List.getElem?_eq_getElem h, cf_at (List.getElem?_eq_getElem h)]
theorem tr_le {a b : List Rat} (ha : Tr a) (h : ∀ i, cf a i = cf b i) : a.length ≤ b.length := by
  rcases Nat.lt_or_ge b.length a.length with lt | ge
  · obtain ⟨k, e⟩ : ∃ k, a.length = k + 1 := ⟨a.length - 1, by omega⟩
    exact absurd ((h k).trans (cf_out (by omega))) (ha k e)
  · exact ge
theorem tr_ext {a b : List Rat} (ha : Tr a) (hb : Tr b) (h : ∀ i, cf a i = cf b i) : a = b := by
  have l : a.length = b.length := Nat.le_antisymm (tr_le ha h) (tr_le hb fun i => (h i).symm)
  refine List.ext_getElem? fun i => ?_
  rcases Nat.lt_or_ge i a.length with lt | ge
  · rw [at_cf lt, at_cf (by omega), h i]
  · rw [List.getElem?_eq_none ge, List.getElem?_eq_none (by omega)]
/-- how many are needed -/
def Need (qs : List Rat) (k : Nat) : Prop := k ≤ qs.length ∧ (∀ i, k ≤ i → cf qs i = 0) ∧ ∀ j, k = j + 1 → cf qs j ≠ 0
theorem cf_take {qs : List Rat} {k i : Nat} (h : i < k) : cf (qs.take k) i = cf qs i := by
  unfold cf
  rw [List.getD_eq_getElem?_getD, List.getD_eq_getElem?_getD, List.getElem?_take, if_pos h]
theorem need_cf {qs : List Rat} {k : Nat} (h : Need qs k) (i : Nat) : cf (qs.take k) i = cf qs i := by
  rcases Nat.lt_or_ge i k with lt | ge
  · exact cf_take lt
  · rw [cf_out (by rw [List.length_take]; omega), h.2.1 i ge]
theorem need_tr {qs : List Rat} {k : Nat} (h : Need qs k) : Tr (qs.take k) := by
  intro j e
  rw [List.length_take, Nat.min_eq_left h.1] at e
  rw [cf_take (by omega)]
  exact h.2.2 j e
/-- the values stand for the ratios, one by one -/
def Al (K : PySem.W.Frag) (H : Hp) (vs : List V) (qs : List Rat) : Prop := vs.length = qs.length ∧ ∀ (i : Nat) (v : V) (q : Rat), vs[i]? = some v → qs[i]? = some q → RV K H v q
theorem Al.same {K : PySem.W.Frag} {H H' : Hp} {vs : List V} {qs : List Rat} (s : Same H H') (h : Al K H vs qs) : Al K H' vs qs := ⟨h.1, fun i v q a b => (h.2 i v q a b).same s⟩
theorem Al.nil {K : PySem.W.Frag} {H : Hp} : Al K H [] [] := ⟨rfl, fun i v q a _ => by simp at a⟩
theorem Al.snoc {K : PySem.W.Frag} {H : Hp} {vs : List V} {qs : List Rat} {v : V} {q : Rat} (h : Al K H vs qs) (r : RV K H v q) : Al K H (vs ++ [v]) (qs ++ [q]) := by
  refine ⟨by simp [h.1], fun i v' q' a b => ?_⟩
  rcases Nat.lt_or_ge i vs.length with lt | ge
  · rw [List.getElem?_append_left lt] at a
    rw [List.getElem?_append_left (by rw [← h.1]; exact lt)] at b
    exact h.2 i _ _ a b
  · rw [List.getElem?_append_right ge] at a
    rw [List.getElem?_append_right (by rw [← h.1]; exact ge), ← h.1] at b
    cases z : i - vs.length with
    | zero =>
      rw [z] at a b
      cases a
      cases b
      exact r
    | succ n =>
      rw [z] at a
      simp at a
theorem Al.take {K : PySem.W.Frag} {H : Hp} {vs : List V} {qs : List Rat} (h : Al K H vs qs) (k : Nat) : Al K H (vs.take k) (qs.take k) := by
  refine ⟨by simp [h.1], fun i v' q' a b => ?_⟩
  rw [List.getElem?_take] at a b
  by_cases lt : i < k
  · rw [if_pos lt] at a b
    exact h.2 i _ _ a b
  · rw [if_neg lt] at a
    cases a
theorem Al.get {K : PySem.W.Frag} {H : Hp} {vs : List V} {qs : List Rat} {i : Nat} (h : Al K H vs qs) (lt : i < qs.length) : ∃ v, vs[i]? = some v ∧ RV K H v (cf qs i) := by
  have lt' : i < vs.length := by rw [h.1]; exact lt
  exact ⟨_, List.getElem?_eq_getElem lt', h.2 i _ _ (List.getElem?_eq_getElem lt') (at_cf lt)⟩
theorem Al.set {K : PySem.W.Frag} {H : Hp} {vs : List V} {qs : List Rat} {i : Nat} {v : V} {q : Rat} (h : Al K H vs qs) (r : RV K H v q) : Al K H (vs.set i v) (qs.set i q) := by
  refine ⟨by simp [h.1], fun j v' q' a b => ?_⟩
  rw [List.getElem?_set] at a b
  by_cases e : i = j
  · rw [if_pos e] at a b
    by_cases l : i < vs.length
    · rw [if_pos l] at a
      rw [if_pos (by rw [← h.1]; exact l)] at b
      cases a
      cases b
      exact r
    · rw [if_neg l] at a
      cases a
  · rw [if_neg e] at a b
    exact h.2 j _ _ a b
theorem Al.reverse {K : PySem.W.Frag} {H : Hp} {vs : List V} {qs : List Rat} (h : Al K H vs qs) : Al K H vs.reverse qs.reverse := by
  refine ⟨by simp [h.1], fun i v' q' a b => ?_⟩
  have l : i < vs.length := by
    rcases Nat.lt_or_ge i vs.length with lt | ge
    · exact lt
    · rw [List.getElem?_eq_none (by simpa using ge)] at a
      cases a
  rw [List.getElem?_reverse l] at a
  rw [List.getElem?_reverse (by rw [← h.1]; exact l), ← h.1] at b
  exact h.2 _ _ _ a b
theorem Al.append {K : PySem.W.Frag} {H : Hp} {vs us : List V} {qs rs : List Rat} (h : Al K H vs qs) (g : Al K H us rs) : Al K H (vs ++ us) (qs ++ rs) := by
  refine ⟨by simp [h.1, g.1], fun i v' q' a b => ?_⟩
  rcases Nat.lt_or_ge i vs.length with lt | ge
  · rw [List.getElem?_append_left lt] at a
    rw [List.getElem?_append_left (by rw [← h.1]; exact lt)] at b
    exact h.2 i _ _ a b
  · rw [List.getElem?_append_right ge] at a
    rw [List.getElem?_append_right (by rw [← h.1]; exact ge), ← h.1] at b
    exact g.2 _ _ _ a b
/-- how long the ratios of a row are -/
def SzA (n m : Nat) (qs : List Rat) : Prop := ∀ i, i < qs.length → Sz n m (cf qs i)
theorem Sz.up {n m n' m' : Nat} {q : Rat} (h : Sz n m q) (a : n ≤ n') (b : m ≤ m') : Sz n' m' q := ⟨Nat.lt_of_lt_of_le h.1 (pow_up a), Nat.lt_of_lt_of_le h.2 (pow_up b)⟩
theorem SzA.up {n m n' m' : Nat} {qs : List Rat} (h : SzA n m qs) (a : n ≤ n') (b : m ≤ m') : SzA n' m' qs := fun i l => (h i l).up a b
theorem pi_or {X : Cx} {tg l : Expr} {wi wi' : TI} (h : PI X tg l wi) (h' : PI X tg l wi') : PI X tg l (fun σ H R => wi σ H R ∨ wi' σ H R) :=
  ⟨fun pins s σ H R I z => z.elim (h.run pins s σ H R I) (h'.run pins s σ H R I)⟩
end Kz
set_option linter.all false
set_option maxRecDepth 100000
set_option maxHeartbeats 4000000
namespace Kz
open PySem PySem.Spec PyProof.Rows L2
/-- a method as it stands -/
structure Dm (K : PySem.W.Frag) (C : Addr) (m qual : Str) (st : Stmt) (ps : List Str) where
  f : Addr
  fd : FuncData
  fn : Fun K m qual st f fd
  me : Meth K C m f
  b : Binds K fd ps []
abbrev sP (i : Nat) : Stmt := inClass (top 27) i
structure Tz (P : Program) (K : PySem.W.Frag) (mg : Str → Option Value) extends Ty P K mg where
  cP : Addr
  mgP : mg "Poly" = some (.ref cP)
  clP : Cls K cP
  nP : NoAttr K cP "numbers"
  iP : PySem.W.findIn K (.ref cP) "__class__" = some (some (.builtin "object.__class__"))
  gP : PySem.W.specialIn K (.builtin "object.__class__") "__get__" = some (some (.builtin "getset_descriptor.__get__"))
  tP : PySem.W.takesIn K (.builtin "object.__class__") = some true
  oP : PySem.W.mroIn K cP (.type "object") = some true
  notP : ∀ t ∈ tyNames, PySem.W.kitOne K (.type t) (.ref cP) = some false
  p_init : Dm K cP "__init__" "Poly.__init__" (sP 0) ["self", "numbers"]
  mkP : Mk K cP p_init.f
  p_at : Dm K cP "at" "Poly.at" (sP 10) ["self", "place"]
  is_row : Df K mg "is_row" (top 18) ["value"]
  many_needed : Df K mg "many_needed" (top 28) ["row"]
  over_one : Df K mg "over_one_bottom" (top 23) ["pairs"]
theorem boot_all : bootBuiltins "all" = some (.builtin "all") := by decide +kernel
/-- is_ratio's answer -/
def RB (K : PySem.W.Frag) (H : Hp) (u : V) (c : Bool) : Prop := ∃ t b, TyN K H u t ∧ ((t == "int") = false → Pr K H u b) ∧ c = (if (t == "int") = true then true else b)
theorem RB.same {K : PySem.W.Frag} {H H' : Hp} {u : V} {c : Bool} (s : Same H H') (h : RB K H u c) : RB K H' u c := by
  obtain ⟨t, b, x, y, z⟩ := h
  exact ⟨t, b, x.same s, fun e => (y e).same s, z⟩
theorem ArgQ.rb {K : PySem.W.Frag} {H : Hp} {v : V} {n m : Nat} {q : Rat} (h : ArgQ K H v n m q) : RB K H v true := by
  obtain ⟨a, b, h, _⟩ := h
  cases h with
  | int => exact ⟨"int", true, ty_int, (fun z => by cases z), rfl⟩
  | @two p a b hs b0 =>
    obtain ⟨t, ty, e1, e2⟩ := hs.ty
    refine ⟨t, true, ty, fun _ => ?_, by rw [e2]; rfl⟩
    have := Pr.two hs
    rw [decide_eq_true b0] at this
    exact this
theorem Odd.rb {K : PySem.W.Frag} {H : Hp} {v : V} (h : Odd K H v) : RB K H v false := by
  obtain ⟨t, ty, nt, pr⟩ := h
  exact ⟨t, false, ty, fun _ => pr, by rw [nt]; rfl⟩
def RBs (K : PySem.W.Frag) (H : Hp) (us : List V) (bs : List Bool) : Prop := bs.length = us.length ∧ ∀ (i : Nat) (u : V) (b : Bool), us[i]? = some u → bs[i]? = some b → RB K H u b
def spRow (K : PySem.W.Frag) : Sp := fun vs H Q _ => ∃ v, vs = [v] ∧ ((∃ t, TyN K H v t ∧ (t == "tuple") = false ∧ (t == "list") = false ∧ ∀ H', Same H H' → Q (.bl false) H') ∨
  (∃ a us bs, v = .ref a ∧ Sq K H a us ∧ us.length ≤ 1000 ∧ RBs K H us bs ∧ ∀ H', Same H H' → Q (.bl (bs.all id)) H'))
theorem take_snoc {α : Type} {l : List α} {i : Nat} {x : α} (h : l[i]? = some x) : l.take (i + 1) = l.take i ++ [x] := by
  rw [List.take_add_one, h]
  rfl
theorem le1000 {n : Nat} (h : n ≤ 1000) : n < sizeLine := by
  rw [sizeLine_eq]
  omega
section
variable {P : Program} {w : World} {K : PySem.W.Frag} {mg : Str → Option Value} {base : Heap}
theorem sc23 : FnScope ["value", "number"] ["value"] (defScope (top 18)) := ⟨rfl, rfl, rfl, by decide +kernel, rfl, by decide +kernel, by decide +kernel⟩
theorem ok_row (T : Tz P K mg) : FnOk P w K mg base CX0 4 T.is_row.f T.is_row.fd ["value"] (spRow K) := by
  have G : FnOk P w K mg base CX0 3 T.is_ratio.f T.is_ratio.fd ["value"] (spRatio K) := ok_ratio T.toTx
  refine T.is_row.fn.ok sc23 (fun vs H Q E h => ?_) (fun cdv A outer s H vs Q E hr h => ?_)
  · obtain ⟨v, rfl, _⟩ := h
    rfl
  · obtain ⟨v, rfl, h⟩ := h
    refine ⟨_, pss_cons (ps_if (pt_not (pt_val (pe_callB call_isiT (by rfl) T.mIsi boot_isi (pa_cons (pv 0) (pa_cons (pe_tup (pa_cons (pe_bltn (v := .ty "tuple") (by rfl) T.mTuple boot_ttuple rfl) (pa_cons (pe_bltn (v := .ty "list") (by rfl) T.blt.list boot_tlist rfl) pa_nil))) pa_nil)))))
        (pss_one (ps_ret pe_bl)) pss_nil)
      (pss_one (ps_ret (pe_callB (cr_all rfl) (by rfl) T.mAll boot_all (pa_cons (pe_lc (own := [("number", 1)]) (g := gName 1) (tt := tYes) rfl sc23.nd (pi_or (pi_list (pv 0)) (pi_tup (pv 0))) (blkOk_by (own := [("number", 1)]) (N := ["value", "number"]) (sc := defScope (top 18)) (by decide +kernel))
        (fun _ _ _ _ _ => pg_name (i := 1) sc23.nd rfl (Or.inl rfl)) (fun _ _ _ _ _ => pts_nil) (fun _ _ _ _ _ => T.is_ratio.c0 G hr (pa_cons (pv 1) pa_nil))) pa_nil)))), ?_⟩
    refine ⟨v, rfl, ?_⟩
    refine ⟨(by show 2 ≤ sizeLine; decide), fun p hp => ?_⟩
    have s1 : Same H (upd H p (.tup [.ty "tuple", .ty "list"])) := Same.new hp
    have hp1 : upd H p (.tup [.ty "tuple", .ty "list"]) p = some (.tup [.ty "tuple", .ty "list"]) := upd_same
    generalize upd H p (.tup [.ty "tuple", .ty "list"]) = H1 at s1 hp1
    rcases h with ⟨t, ty, n1, n2, q⟩ | ⟨a, us, bs, rfl, hs, len, rb, q⟩
    · refine ⟨v, p, _, _, _, _, rfl, hp1, clsTL, (ty.same s1).1, kit_tl ty.2, _, rfl, ?_⟩
      rw [n1, n2]
      exact iteT (q _ s1)
    · have hs1 := hs.same s1
      obtain ⟨t, ty, e1, e2⟩ := hs1.ty
      refine ⟨_, p, _, _, _, _, rfl, hp1, clsTL, ty.1, kit_tl ty.2, _, rfl, ?_⟩
      rw [e1]
      refine iteF ?_
      have h0 : ∀ D, H1 D = none → upd H1 D (.lst []) D = some (.lst ((bs.take 0).map V.bl)) ∧ Same H1 (upd H1 D (.lst [])) := fun D hD => ⟨upd_same, Same.new hD⟩
      have fin : ∀ (D : Addr) (H' : Hp), (H' D = some (.lst ((bs.take us.length).map V.bl)) ∧ Same H1 H') → ∃ (a : Addr) (bs : List Bool), [V.ref D] = [.ref a] ∧ SqL K H' a (bs.map V.bl) ∧ Q (.bl (bs.all id)) H' := fun D H' ⟨e, s⟩ => by
        rw [← rb.1, List.take_length] at e
        exact ⟨D, bs, rfl, SqL.of e, q _ (s1.trans s)⟩
      have step : ∀ (D : Addr) (i : Nat) (x : V) (H' : Hp), H1 D = none → us[i]? = some x → (H' D = some (.lst ((bs.take i).map V.bl)) ∧ Same H1 H') → ∃ v t b, [x] ++ [] = [v] ∧ TyN K H' v t ∧ ((t == "int") = false → Pr K H' v b) ∧
          ∀ H2, Same H' H2 → ∃ acc, H2 D = some (.lst acc) ∧ acc.length < sizeLine ∧
            (upd H2 D (.lst (acc ++ [.bl (if (t == "int") = true then true else b)])) D = some (.lst ((bs.take (i + 1)).map V.bl)) ∧ Same H1 (upd H2 D (.lst (acc ++ [.bl (if (t == "int") = true then true else b)])))) := by
        rintro D i x H' hD hx ⟨e, s⟩
        have lt : i < us.length := (List.getElem?_eq_some_iff.mp hx).1
        have lb : i < bs.length := by rw [rb.1]; exact lt
        obtain ⟨t, b, ty, pr, ec⟩ := ((rb.2 i x _ hx (List.getElem?_eq_getElem lb)).same (s1.trans s))
        refine ⟨x, t, b, rfl, ty, pr, fun H2 s2 => ⟨_, s2 _ _ e, ?_, ?_, ?_⟩⟩
        · rw [List.length_map, List.length_take]
          exact le1000 (by omega)
        · rw [upd_same, take_snoc (List.getElem?_eq_getElem lb), List.map_append, ec]
          rfl
        · intro c u ec'
          rw [upd_ne (ne_of_none ec' hD)]
          exact s2 _ _ (s _ _ ec')
      rcases hs1 with hl | ht
      · refine .inl ⟨_, rfl, a, rfl, ⟨_, hl⟩, fun D hD => ?_⟩
        refine lc_list (K := K) (a := a) (xs := us) (fun i H' => H' D = some (.lst ((bs.take i).map V.bl)) ∧ Same H1 H') (h0 D hD) (fun i H' _ ⟨_, s⟩ => Same.seq s hl) ?_ (fun H' pv => fin D H' pv)
        intro i x H' hx pv
        refine ⟨rfl, ?_⟩
        dsimp only [tYes]
        refine iteT ⟨_, rfl, ?_⟩
        exact step D i x H' hD hx pv
      · refine .inr ⟨_, rfl, a, rfl, ⟨_, ht⟩, fun D hD => ?_⟩
        refine lc_tup (K := K) (a := a) (xs := us) (fun i H' => H' D = some (.lst ((bs.take i).map V.bl)) ∧ Same H1 H') (h0 D hD) (fun i H' _ ⟨_, s⟩ => Kz.Same.seqT s ht) ?_ (fun H' pv => fin D H' pv)
        intro i x H' hx pv
        refine ⟨rfl, ?_⟩
        dsimp only [tYes]
        refine iteT ⟨_, rfl, ?_⟩
        exact step D i x H' hD hx pv
end
end Kz
set_option linter.all false
set_option maxRecDepth 100000
set_option maxHeartbeats 4000000
namespace Kz
open PySem PySem.Spec PyProof.Rows L2
/-- how many of a row of integers are needed -/
def NeedI (ns : List Int) (k : Nat) : Prop := k ≤ ns.length ∧ (∀ (i : Nat) (z : Int), k ≤ i → ns[i]? = some z → z = 0) ∧ ∀ j, k = j + 1 → ∃ z, ns[j]? = some z ∧ z ≠ 0
def spNeed (K : PySem.W.Frag) : Sp := fun vs H Q _ => ∃ (a : Addr) (ns : List Int), vs = [.ref a] ∧ SqL K H a (ns.map V.int) ∧ ns.length ≤ 1000 ∧ ∀ k : Nat, NeedI ns k → Q (.int (k : Int)) H
section
variable {P : Program} {w : World} {K : PySem.W.Frag} {mg : Str → Option Value} {base : Heap}
theorem sc24 : FnScope ["row", "many"] ["row"] (defScope (top 28)) := ⟨rfl, rfl, rfl, by decide +kernel, rfl, by decide +kernel, by decide +kernel⟩
theorem ok_need (T : Tz P K mg) : FnOk P w K mg base CX0 1 T.many_needed.f T.many_needed.fd ["row"] (spNeed K) := by
  refine T.many_needed.fn.ok sc24 (fun vs H Q E h => ?_) (fun cdv A outer s H vs Q E hr h => ?_)
  · obtain ⟨v, ns, rfl, _⟩ := h
    rfl
  · obtain ⟨a, ns, rfl, hs, len, q⟩ := h
    refine ⟨_, pss_cons (ps_set (i := 1) sc24.nd rfl (.inl rfl) (pe_callB call_len_seq (by rfl) T.blt.len PySem.boot_len (pa_cons (pv 0) pa_nil)))
      (pss_cons (ps_while PassesOwn.never (PW.pt (pw_and (pt_cmpR op_gt (pv 1) pe_int (nomark _)) (pw_and1 (pt_cmpR op_eq (pe_ix ix_list (pv 0) (pe_op op_sub (pv 1) pe_int) (fun _ _ => rfl)) pe_int (nomark _)))))
        (pss_one (ps_set (i := 1) sc24.nd rfl (.inl rfl) (pe_op op_sub (pv 1) pe_int))))
      (pss_one (ps_ret (pv 1)))), ?_⟩
    refine ⟨_, rfl, a, _, rfl, .inl hs, ?_⟩
    rw [List.length_map]
    refine while_by (fun σ H' => H' = H ∧ ∃ k : Nat, σ = [some (.ref a), some (.int (k : Int))] ∧ k ≤ ns.length ∧ ∀ (i : Nat) (z : Int), k ≤ i → ns[i]? = some z → z = 0)
      (fun σ _ => match σ with | [_, some (.int k)] => k.toNat | _ => 0) ⟨rfl, ns.length, rfl, Nat.le_refl _, fun i z hi hz => ?_⟩ ?_ ?_
    · have := (List.getElem?_eq_some_iff.mp hz).1
      omega
    · rintro σ H' ⟨rfl, k, rfl, hk, hz⟩
      refine ⟨_, rfl, _, _, rfl, rfl, _, rfl, ?_⟩
      rcases Nat.eq_zero_or_pos k with k0 | k0
      · subst k0
        refine iteF (iteF ⟨_, rfl, q 0 ⟨Nat.zero_le _, fun i z _ => hz i z (Nat.zero_le _), fun j e => by omega⟩⟩)
      · rw [decide_eq_true (show ((k : Int) > 0) by omega)]
        obtain ⟨j, rfl⟩ : ∃ j, k = j + 1 := ⟨k - 1, by omega⟩
        have jl : j < ns.length := by omega
        have it : (ns.map V.int)[j]? = some (.int ns[j]) := by
          rw [List.getElem?_map, List.getElem?_eq_getElem jl]
          rfl
        have ej : ((j + 1 : Nat) : Int) - 1 = (j : Int) := by omega
        refine iteT ⟨_, rfl, _, rfl, _, _, rfl, rfl, a, _, _, .int ns[j], rfl, rfl, hs, ?_, rfl, _, rfl, ?_⟩
        · rw [ej]
          exact atI_nat it
        by_cases z0 : ns[j] = 0
        · rw [decide_eq_true (by rw [z0])]
          refine iteT ⟨_, rfl, _, _, rfl, rfl, ⟨rfl, j, ?_, by omega, fun i z hi e => ?_⟩, ?_⟩
          · show [some (V.ref a), some (V.int (((j + 1 : Nat) : Int) - 1))] = _
            rw [ej]
          · rcases Nat.eq_or_lt_of_le hi with e' | lt
            · rw [← e', List.getElem?_eq_getElem jl, z0] at e
              cases e
              rfl
            · exact hz i z lt e
          · show (((j + 1 : Nat) : Int) - 1).toNat < ((j + 1 : Nat) : Int).toNat
            omega
        · rw [decide_eq_false (fun z => z0 (V.int.inj z))]
          exact iteF ⟨_, rfl, q (j + 1) ⟨hk, hz, fun j' e => ⟨ns[j], by
            obtain rfl : j = j' := by omega
            exact List.getElem?_eq_getElem jl, z0⟩⟩⟩
    · intro σ H Q Q' imp h
      obtain ⟨v, e, i, j, e1, e2, k, e3, h⟩ := h
      refine ⟨v, e, i, j, e1, e2, k, e3, ?_⟩
      cases k with
      | true =>
        rw [if_pos rfl] at h ⊢
        obtain ⟨v, e, v', e', i, j, e1, e2, p, xs, i', v2, e3, e4, hs, ha, e5, b, e6, h⟩ := h
        exact ⟨v, e, v', e', i, j, e1, e2, p, xs, i', v2, e3, e4, hs, ha, e5, b, e6, imp _ _ h⟩
      | false =>
        rw [if_neg (by decide)] at h ⊢
        exact imp _ _ h
end
end Kz
set_option linter.all false
set_option maxRecDepth 100000
set_option maxHeartbeats 4000000
namespace Kz
open PySem PySem.Spec PyProof.Rows L2
def AlA (K : PySem.W.Frag) (H : Hp) (us : List V) (n m : Nat) (qs : List Rat) : Prop := us.length = qs.length ∧ ∀ (i : Nat) (u : V) (q : Rat), us[i]? = some u → qs[i]? = some q → ArgQ K H u n m q
theorem AlA.same {K : PySem.W.Frag} {H H' : Hp} {us : List V} {n m : Nat} {qs : List Rat} (s : Same H H') (h : AlA K H us n m qs) : AlA K H' us n m qs := ⟨h.1, fun i u q a b => (h.2 i u q a b).same s⟩
theorem AlA.sz {K : PySem.W.Frag} {H : Hp} {us : List V} {n m : Nat} {qs : List Rat} (h : AlA K H us n m qs) : SzA n m qs := fun i l => by
  have l' : i < us.length := by rw [h.1]; exact l
  exact (h.2 i _ _ (List.getElem?_eq_getElem l') (at_cf l)).sz
theorem Al.arg {K : PySem.W.Frag} {H : Hp} {us : List V} {n m : Nat} {qs : List Rat} (h : Al K H us qs) (z : SzA n m qs) : AlA K H us n m qs := ⟨h.1, fun i u q a b => by
  have l : i < qs.length := (List.getElem?_eq_some_iff.mp b).1
  have e := z i l
  rw [cf_at b] at e
  exact (h.2 i u q a b).arg e⟩
/-- what is no row of ratios -/
def NotRow (K : PySem.W.Frag) (H : Hp) (v : V) : Prop := (∃ t, TyN K H v t ∧ (t == "tuple") = false ∧ (t == "list") = false) ∨ (∃ a us bs, v = .ref a ∧ Sq K H a us ∧ us.length ≤ 1000 ∧ RBs K H us bs ∧ bs.all id = false)
def ErR (cR : Addr) (H : Hp) (E : XK) (v : V) : Prop := ∀ (d : Addr) (H' : Hp), Same H H' → H' d = some (.xd [("row", v)]) → E (.ref cR) (some d) H'
theorem NotRow.same {K : PySem.W.Frag} {H H' : Hp} {v : V} (s : Same H H') (h : NotRow K H v) : NotRow K H' v := by
  rcases h with ⟨t, a, b⟩ | ⟨a, us, bs, e, hs, l, rb, f⟩
  · exact .inl ⟨t, a.same s, b⟩
  · exact .inr ⟨a, us, bs, e, hs.same s, l, ⟨rb.1, fun i u b x y => (rb.2 i u b x y).same s⟩, f⟩
theorem ErR.after {cR : Addr} {H H1 : Hp} {E : XK} {v : V} (s : Same H H1) (h : ErR cR H E v) : ErR cR H1 E v := fun d H' s' => h d H' (s.trans s')
theorem SqT.off {K : PySem.W.Frag} {H H' : Hp} {x a C dx : Addr} {fs : List (Str × V)} {xs : List V} (hx : H x = some (.ins C dx fs)) (b : But x H H') (h : SqT K H a xs) : SqT K H' a xs := by
  rcases h with (h | ⟨o, h⟩) | h
  · exact .inl (.inl (b _ _ h (ne_of h hx (fun z => nomatch z))))
  · exact .inl (.inr ⟨o, b _ _ h (ne_of h hx (fun z => nomatch z))⟩)
  · exact .inr h
theorem Al.off {K : PySem.W.Frag} {H H' : Hp} {x C dx : Addr} {fs : List (Str × V)} {vs : List V} {qs : List Rat} (hx : H x = some (.ins C dx fs)) (b : But x H H') (h : Al K H vs qs) : Al K H' vs qs := ⟨h.1, fun i v q e1 e2 => by
  obtain ⟨t, e, r⟩ := h.2 i v q e1 e2
  exact ⟨t, e, Kz.SqT.off hx b r⟩⟩
theorem cut_take {vs : List V} {k : Nat} (h : k ≤ vs.length) : cutV vs none (some (k : Int)) = vs.take k := by
  unfold cutV
  rw [HT.sIx_none, List.drop_zero]
  have e : HT.sIx vs.length vs.length (some (k : Int)) = k := by
    show (if (k : Int) < 0 then ((k : Int) + (vs.length : Int)).toNat else min (k : Int).toNat vs.length) = k
    rw [if_neg (by omega)]
    have : (k : Int).toNat = k := rfl
    rw [this]
    exact Nat.min_eq_left h
  rw [e]
  rfl
/-- the numbers of a row above the line -/
def numsOf (qs : List Rat) : List Int := qs.map (·.num)
theorem need_of {qs : List Rat} {k : Nat} (h : NeedI (numsOf qs) k) : Need qs k := by
  have l : (numsOf qs).length = qs.length := List.length_map _
  refine ⟨by rw [← l]; exact h.1, fun i hi => ?_, fun j e => ?_⟩
  · rcases Nat.lt_or_ge i qs.length with lt | ge
    · have := h.2.1 i (cf qs i).num hi (by unfold numsOf; rw [List.getElem?_map, at_cf lt]; rfl)
      exact Rat.num_eq_zero.mp this
    · exact cf_out ge
  · obtain ⟨z, e1, e2⟩ := h.2.2 j e
    unfold numsOf at e1
    rw [List.getElem?_map] at e1
    intro c
    have lt : j < qs.length := by
      have := h.1
      omega
    rw [at_cf lt, c] at e1
    cases e1
    exact e2 rfl
def spInit (K : PySem.W.Frag) (cP cR : Addr) : Sp := fun vs H Q E => ∃ x dx v, vs = [.ref x, v] ∧ H x = some (.ins cP dx []) ∧
  ((∃ a us qs n m, v = .ref a ∧ Sq K H a us ∧ AlA K H us n m qs ∧ m ≤ 9000 ∧ us.length ≤ 1000 ∧
    ∀ (H' : Hp) (t : Addr) (ws : List V) (rs : List Rat), But x H H' → H' x = some (.ins cP dx [("numbers", .ref t)]) → SqT K H' t ws → Al K H' ws rs → Tr rs → rs.length ≤ qs.length → (∀ i, cf rs i = cf qs i) → Q .non H') ∨
   (NotRow K H v ∧ ErR cR H E v))
/-! ### a comprehension that makes a row, one value for each item -/
/-- what holds of the row made so far bears new objects and the row's own growth -/
def Bears (D : Addr) (R : Nat → List V → Hp → Prop) : Prop := ∀ (i : Nat) (acc : List V) (H H' : Hp), (∀ o, H D = some o → ∃ us, o = .lst us) → But D H H' → R i acc H → R i acc H'
theorem bears_al {K : PySem.W.Frag} {D : Addr} {qs : List Rat} : Bears D (fun i acc H => Al K H acc (qs.take i)) := fun i acc H H' l b h => ⟨h.1, fun j v q e1 e2 => by
  obtain ⟨t, e, r⟩ := h.2 j v q e1 e2
  refine ⟨t, e, ?_⟩
  have ne : ∀ {o : HO}, H t = some o → (∀ us, o ≠ .lst us) → t ≠ D := fun {o} e n z => by
    rw [z] at e
    obtain ⟨us, e'⟩ := l _ e
    exact n us e'
  rcases r with (r | ⟨o, r⟩) | r
  · exact .inl (.inl (b _ _ r (ne r (fun us z => nomatch z))))
  · exact .inl (.inr ⟨o, b _ _ r (ne r (fun us z => nomatch z))⟩)
  · exact .inr r⟩
theorem bears_pure {D : Addr} {R : Nat → List V → Prop} : Bears D (fun i acc _ => R i acc) := fun _ _ _ _ _ _ h => h
section
variable {K : PySem.W.Frag} {a : Addr} {xs : List V} {g : TG} {te : TE} {vs : List Nat} {σ : L2.St} {H1 : Hp} {D : Addr} {Qd : Hp → Prop}
abbrev StepOf (g : TG) (te : TE) (vs : List Nat) (σ : L2.St) (H1 : Hp) (R : Nat → List V → Hp → Prop) (i : Nat) (x : V) : Prop :=
  ∀ (acc : List V) (H' : Hp) (Qk : VK) (Z : Hp → Prop), acc.length = i → R i acc H' → Same H1 H' → (∀ y H4, Same H' H4 → R (i + 1) (acc ++ [y]) H4 → Qk y H4) →
    g x (wipe σ vs) H' fun σ2 H2 => wipe σ2 vs = wipe σ vs ∧ tYes σ2 H2 fun b H3 => if b = true then te σ2 H3 Qk else Z H3
theorem lc_mapL (hl : SqL K H1 a xs) (len : xs.length ≤ 1000) (hD : H1 D = none) (R : Nat → List V → Hp → Prop) (br : Bears D R) (h0 : R 0 [] H1) (step : ∀ i x, xs[i]? = some x → StepOf g te vs σ H1 R i x)
    (fin : ∀ acc H', H' D = some (.lst acc) → acc.length = xs.length → R xs.length acc H' → Same H1 H' → Qd H') : ∃ W : Nat → Nat → Hp → Prop, (∃ m, W 0 m (upd H1 D (.lst []))) ∧ ∀ i m H, W i m H →
      ((Itl K a).stop i H ∧ Qd H) ∨ ((Itl K a).go i H ∧ ∃ Nx : Hp → Prop, (∀ H', Nx H' → ∃ m', m' < m ∧ W (i + 1) m' H') ∧ ∀ x H', (Itl K a).yld i H x H' → g x (wipe σ vs) H' fun σ2 H2 => wipe σ2 vs = wipe σ vs ∧ tYes σ2 H2 fun b H3 =>
        if b = true then te σ2 H3 fun y H4 => ∃ acc, H4 D = some (.lst acc) ∧ acc.length < sizeLine ∧ Nx (upd H4 D (.lst (acc ++ [y]))) else Nx H3) := by
  refine lc_list (fun i H' => ∃ acc, H' D = some (.lst acc) ∧ acc.length = i ∧ i ≤ xs.length ∧ R i acc H' ∧ Same H1 H') ⟨[], upd_same, rfl, Nat.zero_le _, br _ _ _ _ (fun o e => by rw [hD] at e; cases e) (But.refl.set) h0, Same.new hD⟩
    (fun i H' _ ⟨acc, _, _, _, _, s⟩ => Same.seq s hl) ?_ fun H' ⟨acc, e, l, _, r, s⟩ => fin acc H' e l r s
  rintro i x H' hx ⟨acc, e, l, le, r, s⟩
  have lt : i < xs.length := (List.getElem?_eq_some_iff.mp hx).1
  refine step i x hx acc H' _ _ l r s fun y H4 s4 r4 => ⟨acc, s4 _ _ e, le1000 (by omega), acc ++ [y], upd_same, by simp [l], lt, br _ _ _ _ (fun o e4 => ?_) But.refl.set r4, fun c u ec => ?_⟩
  · rw [s4 _ _ e] at e4
    cases e4
    exact ⟨_, rfl⟩
  · rw [upd_ne (ne_of_none ec hD)]
    exact s4 _ _ (s _ _ ec)
theorem lc_mapT (hl : SqT K H1 a xs) (len : xs.length ≤ 1000) (hD : H1 D = none) (R : Nat → List V → Hp → Prop) (br : Bears D R) (h0 : R 0 [] H1) (step : ∀ i x, xs[i]? = some x → StepOf g te vs σ H1 R i x)
    (fin : ∀ acc H', H' D = some (.lst acc) → acc.length = xs.length → R xs.length acc H' → Same H1 H' → Qd H') : ∃ W : Nat → Nat → Hp → Prop, (∃ m, W 0 m (upd H1 D (.lst []))) ∧ ∀ i m H, W i m H →
      ((Itt K a).stop i H ∧ Qd H) ∨ ((Itt K a).go i H ∧ ∃ Nx : Hp → Prop, (∀ H', Nx H' → ∃ m', m' < m ∧ W (i + 1) m' H') ∧ ∀ x H', (Itt K a).yld i H x H' → g x (wipe σ vs) H' fun σ2 H2 => wipe σ2 vs = wipe σ vs ∧ tYes σ2 H2 fun b H3 =>
        if b = true then te σ2 H3 fun y H4 => ∃ acc, H4 D = some (.lst acc) ∧ acc.length < sizeLine ∧ Nx (upd H4 D (.lst (acc ++ [y]))) else Nx H3) := by
  refine lc_tup (fun i H' => ∃ acc, H' D = some (.lst acc) ∧ acc.length = i ∧ i ≤ xs.length ∧ R i acc H' ∧ Same H1 H') ⟨[], upd_same, rfl, Nat.zero_le _, br _ _ _ _ (fun o e => by rw [hD] at e; cases e) (But.refl.set) h0, Same.new hD⟩
    (fun i H' _ ⟨acc, _, _, _, _, s⟩ => Kz.Same.seqT s hl) ?_ fun H' ⟨acc, e, l, _, r, s⟩ => fin acc H' e l r s
  rintro i x H' hx ⟨acc, e, l, le, r, s⟩
  have lt : i < xs.length := (List.getElem?_eq_some_iff.mp hx).1
  refine step i x hx acc H' _ _ l r s fun y H4 s4 r4 => ⟨acc, s4 _ _ e, le1000 (by omega), acc ++ [y], upd_same, by simp [l], lt, br _ _ _ _ (fun o e4 => ?_) But.refl.set r4, fun c u ec => ?_⟩
  · rw [s4 _ _ e] at e4
    cases e4
    exact ⟨_, rfl⟩
  · rw [upd_ne (ne_of_none ec hD)]
    exact s4 _ _ (s _ _ ec)
end
/-- over a variable that is a tuple or a list -/
theorem lc_mapS {K : PySem.W.Frag} {a : Addr} {xs : List V} {g : TG} {te : TE} {vs : List Nat} {σ : L2.St} {H1 : Hp} {j : Nat} {Q : Addr → Hp → Prop} (hj : σ[j]? = some (some (.ref a))) (hs : Sq K H1 a xs) (len : xs.length ≤ 1000) (R : Nat → List V → Hp → Prop)
    (br : ∀ D, Bears D R) (h0 : R 0 [] H1) (step : ∀ i x, xs[i]? = some x → StepOf g te vs σ H1 R i x) (fin : ∀ D acc H', H' D = some (.lst acc) → acc.length = xs.length → R xs.length acc H' → Same H1 H' → Q D H') :
    (iList K (tVar j) σ H1 fun J H1 => ∀ D, H1 D = none → ∃ W : Nat → Nat → Hp → Prop, (∃ m, W 0 m (upd H1 D (.lst []))) ∧ ∀ i m H, W i m H →
  (J.stop i H ∧ Q D H) ∨ (J.go i H ∧ ∃ Nx : Hp → Prop, (∀ H', Nx H' → ∃ m', m' < m ∧ W (i + 1) m' H') ∧ ∀ x H', J.yld i H x H' → g x (wipe σ vs) H' fun σ2 H2 => wipe σ2 vs = wipe σ vs ∧ tYes σ2 H2 fun b H3 =>
    if b = true then te σ2 H3 fun y H4 => ∃ acc, H4 D = some (.lst acc) ∧ acc.length < sizeLine ∧ Nx (upd H4 D (.lst (acc ++ [y]))) else Nx H3)) ∨ (iTup K (tVar j) σ H1 fun J H1 => ∀ D, H1 D = none → ∃ W : Nat → Nat → Hp → Prop, (∃ m, W 0 m (upd H1 D (.lst []))) ∧ ∀ i m H, W i m H →
  (J.stop i H ∧ Q D H) ∨ (J.go i H ∧ ∃ Nx : Hp → Prop, (∀ H', Nx H' → ∃ m', m' < m ∧ W (i + 1) m' H') ∧ ∀ x H', J.yld i H x H' → g x (wipe σ vs) H' fun σ2 H2 => wipe σ2 vs = wipe σ vs ∧ tYes σ2 H2 fun b H3 =>
    if b = true then te σ2 H3 fun y H4 => ∃ acc, H4 D = some (.lst acc) ∧ acc.length < sizeLine ∧ Nx (upd H4 D (.lst (acc ++ [y]))) else Nx H3)) := by
  rcases hs with hl | ht
  · exact .inl ⟨_, hj, a, rfl, ⟨_, hl⟩, fun D hD => lc_mapL hl len hD R (br D) h0 step fun acc H' => fin D acc H'⟩
  · exact .inr ⟨_, hj, a, rfl, ⟨_, ht⟩, fun D hD => lc_mapT ht len hD R (br D) h0 step fun acc H' => fin D acc H'⟩
end Kz
set_option linter.all false
set_option maxRecDepth 100000
set_option maxHeartbeats 4000000
namespace Kz
open PySem PySem.Spec PyProof.Rows L2
section
variable {P : Program} {w : World} {K : PySem.W.Frag} {mg : Str → Option Value} {base : Heap}
abbrev nP0 : List Str := ["self", "numbers", "pairs", "number", "top", "_"]
theorem scP0 : FnScope nP0 ["self", "numbers"] (defScope (sP 0)) := ⟨rfl, rfl, rfl, by decide +kernel, rfl, by decide +kernel, by decide +kernel⟩
theorem ints_get {qs : List Rat} {i : Nat} (lt : i < qs.length) : (numsOf qs)[i]? = some (cf qs i).num := by
  unfold numsOf
  rw [List.getElem?_map, at_cf lt]
  rfl
theorem ok_pinit (T : Tz P K mg) : FnOk P w K mg base (CX P w) 5 T.p_init.f T.p_init.fd ["self", "numbers"] (spInit K T.cP T.cR) := by
  have G1 : FnOk P w K mg base CX0 4 T.is_row.f T.is_row.fd ["value"] (spRow K) := ok_row T
  have G2 : FnOk P w K mg base (CX P w) 4 T.told.f T.told.fd ["value", "what"] (spTold K T.cN) := ok_told T.toTx
  have G3 : FnOk P w K mg base CX0 1 T.many_needed.f T.many_needed.fd ["row"] (spNeed K) := ok_need T
  refine T.p_init.fn.okX scP0 (fun vs H Q E h => ?_) (fun cdv A outer s H vs Q E hr h => ?_)
  · obtain ⟨x, dx, v, rfl, _⟩ := h
    rfl
  · obtain ⟨x, dx, v, rfl, hx, h⟩ := h
    have tk := takes_of (X := cxOf (CX P w) P w K mg base nP0 "Poly.__init__" (defScope (sP 0)) T.p_init.f cdv A outer s H E) (E := E) rfl rfl rfl rfl
    refine ⟨_, pss_cons (ps_if (pt_not (pt_val (T.is_row.c0 G1 hr (pa_cons (pv 1) pa_nil))))
        (pss_one (ps_raise rfl tk (pmk_oex (CX := CX0) T.eR.o T.iR.i T.iR.t (ok_i4 T.iR.fn) (hr.mono (by decide)) T.bR .nil pass0 rfl T.eR.g (pa_cons (pv 1) pa_nil)))) pss_nil)
      (pss_cons (ps_setLc (i := 2) (own := [("number", 3)]) (g := gName 3) (tt := tYes) rfl scP0.nd rfl rfl (sw_true rfl rfl rfl (by decide +kernel)) (pi_or (pi_list (pv 1)) (pi_tup (pv 1))) (blkOk_by (own := [("number", 3)]) (N := nP0) (sc := defScope (sP 0)) (by decide +kernel))
        (fun _ _ _ _ _ => pg_name (i := 3) scP0.nd rfl (Or.inl rfl)) (fun _ _ _ _ _ => pts_nil) (fun _ _ _ _ _ => T.told.cX G2 hr (pa_cons (pv 3) (pa_cons pe_str pa_nil))))
      (pss_one (ps_fld (pv 0) (pe_callTy call_tuple_of (by rfl) T.mTuple boot_ttuple (pa_cons (pe_slice sl_list (pv 2) po_none (po_some (T.many_needed.c0 G3 (hr.mono (by decide)) (pa_cons
        (pe_lc (own := [("top", 4), ("_", 5)]) (g := gTup K 2 (gCons (gName 4) (gCons (gName 5) gNil))) (tt := tYes) rfl scP0.nd (pi_list (pv 2)) (blkOk_by (own := [("top", 4), ("_", 5)]) (N := nP0) (sc := defScope (sP 0)) (by decide +kernel))
          (fun _ _ _ _ _ => pg_tup (by rfl) (pgs_cons (pg_name (i := 4) scP0.nd rfl (Or.inl rfl)) (pgs_cons (pg_name (i := 5) scP0.nd rfl (Or.inl rfl)) pgs_nil))) (fun _ _ _ _ _ => pts_nil) (fun _ _ _ _ _ => pv 4)) pa_nil)))) pa_nil)) (by rfl)))), ?_⟩
    rcases h with ⟨a, us, qs, n, m, rfl, hs, al, hm, len, q⟩ | ⟨nr, er⟩
    · have rbs : RBs K H us (List.replicate us.length true) := ⟨List.length_replicate, fun i u b e1 e2 => by
        have lt : i < us.length := (List.getElem?_eq_some_iff.mp e1).1
        rw [List.getElem?_replicate, if_pos lt] at e2
        cases e2
        exact (al.2 i u _ e1 (at_cf (by rw [← al.1]; exact lt))).rb⟩
      refine ⟨_, rfl, _, rfl, .inr ⟨a, us, _, rfl, hs, len, rbs, fun H1 s1 => ?_⟩⟩
      have all1 : (List.replicate us.length true).all id = true := by simp
      rw [all1]
      refine ⟨_, rfl, iteF ?_⟩
      have hs1 := hs.same s1
      have al1 := al.same s1
      refine lc_mapS (K := K) (σ := L2.start nP0 [.ref x, .ref a]) (g := gName 3) (vs := [3]) (j := 1) rfl hs1 len (fun i acc H' => Al K H' acc (qs.take i)) (fun D => bears_al) Al.nil ?_ ?_
      · intro i x hx acc H' Qk Z l r s k
        have lt : i < us.length := (List.getElem?_eq_some_iff.mp hx).1
        have ltq : i < qs.length := by rw [← al.1]; exact lt
        refine ⟨rfl, ?_⟩
        dsimp only [tYes]
        refine iteT ⟨_, rfl, _, _, rfl, .inl ⟨_, n, m, (al1.2 i x _ hx (at_cf ltq)).same s, hm, fun v' H4 s4 rv => k _ _ s4 ?_⟩⟩
        show Al K H4 (acc ++ [v']) (qs.take (i + 1))
        rw [take_snoc (at_cf ltq)]
        exact (Al.same s4 r).snoc rv
      · intro D vs H2 hv lv av s2
        have av : Al K H2 vs (qs.take us.length) := av
        rw [al.1, List.take_length] at av
        have lvq : vs.length = qs.length := av.1
        refine ⟨_, rfl, ?_⟩
        refine ⟨_, rfl, D, rfl, ⟨_, SqL.of hv⟩, fun D2 hD2 => ?_⟩
        refine lc_mapL (SqL.of hv) (by omega) hD2 (fun i acc _ => acc = ((numsOf qs).take i).map V.int) bears_pure rfl ?_ ?_
        · intro i x hx acc H' Qk Z l r s k
          have lt : i < vs.length := (List.getElem?_eq_some_iff.mp hx).1
          have ltq : i < qs.length := by omega
          obtain ⟨t, rfl, ht⟩ := (av.2 i x _ hx (at_cf ltq)).same s
          refine ⟨t, _, rfl, ht, rfl, _, _, rfl, _, _, rfl, rfl, rfl, ?_⟩
          dsimp only [tYes]
          refine iteT ⟨_, rfl, k _ _ (Same.refl _) ?_⟩
          show acc ++ [V.int (cf qs i).num] = ((numsOf qs).take (i + 1)).map V.int
          rw [take_snoc (ints_get ltq), List.map_append, r]
          rfl
        · intro acc H3 hacc lacc r s3
          have ln : (numsOf qs).length = qs.length := List.length_map _
          have r' : acc = ((numsOf qs).take vs.length).map V.int := r
          rw [lvq, ← ln, List.take_length] at r'
          subst r'
          refine ⟨D2, _, rfl, SqL.of hacc, by omega, fun k0 hk => ?_⟩
          have nk := need_of hk
          refine ⟨_, rfl, D, vs, rfl, SqL.of (s3 _ _ hv), fun D4 hD4 => ?_⟩
          rw [cut_take (by rw [lvq]; exact nk.1)]
          refine ⟨D4, _, rfl, .inl ⟨SqL.of upd_same, fun t ht => ?_⟩⟩
          have s4 : Same H3 (upd (upd H3 D4 (.lst (vs.take k0))) t (.tup (vs.take k0))) := (Same.new hD4).trans (Same.new ht)
          have et : upd (upd H3 D4 (.lst (vs.take k0))) t (.tup (vs.take k0)) t = some (.tup (vs.take k0)) := upd_same
          generalize upd (upd H3 D4 (.lst (vs.take k0))) t (.tup (vs.take k0)) = H4 at s4 et
          have sAll : Same H H4 := ((s1.trans s2).trans s3).trans s4
          have hx4 := sAll _ _ hx
          refine ⟨_, rfl, x, T.cP, dx, [], rfl, hx4, T.clP, T.nP, by decide, ?_⟩
          have b : But x H4 (upd H4 x (.ins T.cP dx (putF "numbers" (.ref t) []))) := But.refl.set
          refine q _ t _ (qs.take k0) (fun c u e ne => b c u (sAll _ _ e) ne) upd_same (Kz.SqT.off hx4 b (SqT.of et)) ((((av.take k0).same s3).same s4).off hx4 b) (need_tr nk) (by rw [List.length_take]; omega) (need_cf nk)
    · rcases nr with ⟨t, ty, n1, n2⟩ | ⟨a, us, bs, rfl, hs, len, rb, f⟩
      · refine ⟨_, rfl, _, rfl, .inl ⟨t, ty, n1, n2, fun H1 s1 => ⟨_, rfl, iteT ⟨_, rfl, ?_⟩⟩⟩⟩
        exact raised1 T.eR.o T.nR1 fun d H' s' e => er d H' (s1.trans s') e
      · refine ⟨_, rfl, _, rfl, .inr ⟨a, us, bs, rfl, hs, len, rb, fun H1 s1 => ?_⟩⟩
        rw [f]
        exact ⟨_, rfl, iteT ⟨_, rfl, raised1 T.eR.o T.nR1 fun d H' s' e => er d H' (s1.trans s') e⟩⟩
end
end Kz
set_option linter.all false
set_option maxRecDepth 100000
set_option maxHeartbeats 4000000
namespace Kz
open PySem PySem.Spec PyProof.Rows L2
/-- a Poly with these numbers -/
def PolyAt (K : PySem.W.Frag) (cP : Addr) (H : Hp) (v : V) (qs : List Rat) : Prop := ∃ a dx t ws, v = .ref a ∧ H a = some (.ins cP dx [("numbers", .ref t)]) ∧ SqT K H t ws ∧ Al K H ws qs ∧ Tr qs
theorem PolyAt.same {K : PySem.W.Frag} {cP : Addr} {H H' : Hp} {v : V} {qs : List Rat} (s : Same H H') (h : PolyAt K cP H v qs) : PolyAt K cP H' v qs := by
  obtain ⟨a, dx, t, ws, e, ha, ht, al, tr⟩ := h
  exact ⟨a, dx, t, ws, e, s _ _ ha, Kz.Same.seqT s ht, al.same s, tr⟩
theorem lkN {v : V} : ([(("numbers" : Str), v)] : List (Str × V)).lookup ("numbers" : Str) = some v := by simp [List.lookup]
section
variable {P : Program} {w : World} {K : PySem.W.Frag} {mg : Str → Option Value} {base : Heap}
/-- Poly(row), read -/
theorem poly_made {cP cR : Addr} {H : Hp} {a : Addr} {us : List V} {qs : List Rat} {n m : Nat} {Q : VK} {E : XK} (hs : Sq K H a us) (al : AlA K H us n m qs) (hm : m ≤ 9000) (len : us.length ≤ 1000)
    (k : ∀ (v : V) (H' : Hp) (rs : List Rat), Same H H' → PolyAt K cP H' v rs → rs.length ≤ qs.length → (∀ i, cf rs i = cf qs i) → Q v H') :
    ∀ x dx, H x = none → H dx = none → dx ≠ x → spInit K cP cR (.ref x :: ([.ref a] ++ [])) (upd (upd H dx (.own x)) x (.ins cP dx [])) (fun v H2 => v = .non ∧ Q (.ref x) H2) E := by
  intro x dx nx ndx ne
  have s1 : Same H (upd (upd H dx (.own x)) x (.ins cP dx [])) := fun c u e => by
    rw [upd_ne (ne_of_none e nx), upd_ne (ne_of_none e ndx)]
    exact e
  refine ⟨x, dx, _, rfl, upd_same, .inl ⟨a, us, qs, n, m, rfl, hs.same s1, al.same s1, hm, len, fun H' t ws rs b ex ht al' tr l e => ⟨rfl, ?_⟩⟩⟩
  exact k _ H' rs (fun c u ec => b c u (s1 _ _ ec) (ne_of_none ec nx)) ⟨x, dx, t, ws, rfl, ex, ht, al', tr⟩ l e
/-- Poly(e) as an expression, where it raises nothing -/
theorem Tz.cPoly {X : Cx} {p pos : Pos} {e : Expr} {t : TA} (T : Tz P K mg) (hr : Room 6 X.A) (ha : PA X [e] t) (of : Of X P w K mg base := by exact ⟨rfl, rfl, rfl, rfl, rfl⟩) (hg : Gl X "Poly" := by rfl)
    (st : starEach [e] X.env = (false, eval e X.env) :: starEach [] X.env := by rfl) (nost : (backTo pos (starEach [] X.env)).any (·.1) = false := by rfl) :
    PE X (.Call (.Name "Poly" p) [e] [] pos) (tMake T.cP (spInit K T.cP T.cR) [] (fun _ _ _ => False) t) := by
  obtain ⟨rfl, rfl, rfl, rfl, rfl⟩ := of
  exact pe_make T.mkP (ok_pinit T) hr hg T.mgP T.p_init.b .nil passL ha (by decide) st nost
theorem rv_zero {H : Hp} {p : Addr} (h : SqT K H p [.int 0, .int 1]) : RV K H (.ref p) 0 := ⟨p, rfl, h⟩
/-- sizes of a sum -/
theorem add_sz {n m n' m' : Nat} {q r : Rat} (a : Sz n m q) (b : Sz n' m' r) : Sz (n + n' + m + m' + 1) (m + m') (q + r) := by
  have e := rat_add q r
  rw [← e]
  refine sz_divInt (Int.mul_pos (den_pos' q) (den_pos' r)) ?_ (wide_lt (den_abs a) (den_abs b))
  have h1 : (q.num * (r.den : Int)).natAbs < 2 ^ (n + m') := wide_lt a.1 (den_abs b)
  have h2 : (r.num * (q.den : Int)).natAbs < 2 ^ (n' + m) := wide_lt b.1 (den_abs a)
  have l1 : 2 ^ (n + m') ≤ 2 ^ (n + n' + m + m') := pow_up (by omega)
  have l2 : 2 ^ (n' + m) ≤ 2 ^ (n + n' + m + m') := pow_up (by omega)
  have : (q.num * (r.den : Int) + r.num * (q.den : Int)).natAbs ≤ (q.num * (r.den : Int)).natAbs + (r.num * (q.den : Int)).natAbs := Int.natAbs_add_le _ _
  rw [Nat.pow_succ]
  omega
theorem sz_zero {n m : Nat} (a : 0 < n) (b : 0 < m) : Sz n m 0 := ⟨by show (0 : Nat) < 2 ^ n; exact Nat.two_pow_pos _, by show (1 : Nat) < 2 ^ m; exact Nat.one_lt_two_pow (by omega)⟩
theorem SzA.all {n m : Nat} {qs : List Rat} (h : SzA n m qs) (a : 0 < n) (b : 0 < m) (i : Nat) : Sz n m (cf qs i) := by
  rcases Nat.lt_or_ge i qs.length with lt | ge
  · exact h i lt
  · rw [cf_out ge]
    exact sz_zero a b
/-- the ratios of a function from 0 on -/
def upTo (n : Nat) (f : Nat → Rat) : List Rat := (List.range n).map f
theorem upTo_len {n : Nat} {f : Nat → Rat} : (upTo n f).length = n := by
  unfold upTo
  rw [List.length_map, List.length_range]
theorem upTo_at {n i : Nat} {f : Nat → Rat} (h : i < n) : (upTo n f)[i]? = some (f i) := by
  unfold upTo
  rw [List.getElem?_map, List.getElem?_range h]
  rfl
theorem upTo_cf {n i : Nat} {f : Nat → Rat} (z : ∀ i, n ≤ i → f i = 0) : cf (upTo n f) i = f i := by
  rcases Nat.lt_or_ge i n with lt | ge
  · exact cf_at (upTo_at lt)
  · rw [cf_out (by rw [upTo_len]; exact ge), z i ge]
end
end Kz
set_option linter.all false
set_option maxRecDepth 100000
set_option maxHeartbeats 4000000
namespace Kz
open PySem PySem.Spec PyProof.Rows L2
/-! ### lcm -/
def rLcm : List V → Hp → VK → Prop := fun vs H Q => ∃ a b : Int, vs = [.int a, .int b] ∧ a.natAbs < 2 ^ 13000 ∧ b.natAbs < 2 ^ 13000 ∧ Q (.int ((Nat.lcm a.natAbs b.natAbs : Nat) : Int)) H
theorem log_of {a n : Nat} (h : a < 2 ^ n) (n0 : 0 < n) : a.log2 < n := PySem.Flt.log2_lt_of n0 h
theorem cr_lcm {X : Cx} : CallR X (.builtin "math.lcm") rLcm := by
  intro pins s σ H vs us Q I r h
  obtain ⟨a, b, rfl, ha, hb, q⟩ := h
  obtain ⟨t, u, rfl⟩ := Vals.int2 r
  have h1 : (max 1 a.natAbs).log2 < 13000 := log_of (by
    have : 1 < 2 ^ 13000 := Nat.one_lt_two_pow (by decide)
    omega) (by decide)
  have h2 : (max a.natAbs b.natAbs).log2 < 13000 := log_of (by omega) (by decide)
  have hl : (a.natAbs.lcm b.natAbs) < 2 ^ 26001 := by
    have l1 : a.natAbs.lcm b.natAbs ≤ a.natAbs * b.natAbs := by
      unfold Nat.lcm
      exact Nat.div_le_self _ _
    have l2 : a.natAbs * b.natAbs ≤ 2 ^ 13000 * 2 ^ 13000 := Nat.mul_le_mul (Nat.le_of_lt ha) (Nat.le_of_lt hb)
    rw [← Nat.pow_add] at l2
    exact Nat.lt_of_le_of_lt (Nat.le_trans l1 l2) (Nat.pow_lt_pow_right (by decide) (by decide))
  have hz : ((((Nat.lcm 1 a.natAbs).lcm b.natAbs : Nat) : Int)).natAbs.log2 < bitsLine := by
    rw [PySem.W.mc_lcm_one]
    show (a.natAbs.lcm b.natAbs).log2 < bitsLine
    have e : bitsLine = 134217728 := by decide
    have := log_of hl (by decide)
    omega
  have g := PySem.W.mg_run_lcm a t b u (by omega) (by omega) hz
  rw [PySem.W.mc_lcm_one] at g
  exact call_function_meets PySem.W.MGF.kind_lcm PySem.W.MGF.plain_lcm PySem.W.MGF.entry_lcm (PySem.W.MGF.args_lcm _ _) g.meets ⟨.int _, H, I.tok _, ⟨_, rfl⟩, q⟩
/-! ### one bottom for a row -/
def lcs (qs : List Rat) : Nat := qs.foldl (fun a q => Nat.lcm a q.den) 1
theorem lcs_snoc (qs : List Rat) (q : Rat) : lcs (qs ++ [q]) = Nat.lcm (lcs qs) q.den := by
  unfold lcs
  rw [List.foldl_append]
  rfl
theorem rev_ind {α : Type} {P : List α → Prop} (h0 : P []) (hs : ∀ l x, P l → P (l ++ [x])) : ∀ l, P l := by
  intro l
  have : ∀ n, P (l.take n) := by
    intro n
    induction n with
    | zero => simpa using h0
    | succ n ih =>
      cases e : l[n]? with
      | none =>
        have : l.length ≤ n := by
          rcases Nat.lt_or_ge n l.length with lt | ge
          · rw [List.getElem?_eq_getElem lt] at e
            cases e
          · exact ge
        rw [List.take_of_length_le (by omega)]
        rw [List.take_of_length_le this] at ih
        exact ih
      | some x =>
        rw [take_snoc e]
        exact hs _ _ ih
  have z := this l.length
  rwa [List.take_length] at z
theorem lcs_pos : ∀ qs : List Rat, 0 < lcs qs := by
  refine rev_ind (by decide) fun l x h => ?_
  rw [lcs_snoc]
  exact Nat.lcm_pos h x.den_pos
theorem lcs_dvd : ∀ qs : List Rat, ∀ q ∈ qs, q.den ∣ lcs qs := by
  refine rev_ind (by simp) fun l x h => ?_
  intro q hq
  rw [lcs_snoc]
  rcases List.mem_append.mp hq with m | m
  · exact Nat.dvd_trans (h q m) (Nat.dvd_lcm_left _ _)
  · have : q = x := by simpa using m
    subst this
    exact Nat.dvd_lcm_right _ _
theorem lcs_lt {n m : Nat} : ∀ qs : List Rat, (∀ q ∈ qs, Sz n m q) → lcs qs < 2 ^ (m * qs.length + 1) := by
  refine rev_ind (fun _ => by
    show 1 < 2 ^ (m * 0 + 1)
    rw [Nat.mul_zero]
    decide) fun l x h hd => ?_
  have := h fun q mm => hd q (List.mem_append_left _ mm)
  have z := (hd x (by simp)).2
  rw [lcs_snoc, List.length_append]
  have l1 : Nat.lcm (lcs l) x.den ≤ lcs l * x.den := by
    unfold Nat.lcm
    exact Nat.div_le_self _ _
  have l2 : lcs l * x.den < 2 ^ (m * l.length + 1) * 2 ^ m := Nat.mul_lt_mul'' this z
  rw [← Nat.pow_add] at l2
  have e : m * l.length + 1 + m = m * (l.length + [x].length) + 1 := by
    show m * l.length + 1 + m = m * (l.length + 1) + 1
    rw [Nat.mul_add]
    omega
  rw [← e]
  omega
theorem SzA.mem {n m : Nat} {qs : List Rat} (h : SzA n m qs) : ∀ q ∈ qs, Sz n m q := fun q hq => by
  obtain ⟨i, e⟩ := List.getElem?_of_mem hq
  have lt : i < qs.length := (List.getElem?_eq_some_iff.mp e).1
  have := h i lt
  rwa [cf_at e] at this
def topOf (L : Nat) (q : Rat) : Int := q.num * ((L / q.den : Nat) : Int)
def topsOf (qs : List Rat) : List Int := qs.map (topOf (lcs qs))
theorem topOf_eq {L : Nat} {q : Rat} (h : q.den ∣ L) : (topOf L q : Rat) = q * (L : Rat) := by
  obtain ⟨c, rfl⟩ := h
  have d0 : (q.den : Rat) ≠ 0 := fun z => q.den_nz (Rat.natCast_eq_zero_iff.mp z)
  have e : q * (q.den : Rat) = (q.num : Rat) := by
    have h1 := Rat.num_divInt_den q
    rw [Rat.divInt_eq_div, Rat.intCast_natCast] at h1
    have h2 := Rat.div_mul_cancel (a := (q.num : Rat)) d0
    rw [h1] at h2
    exact h2
  unfold topOf
  rw [Nat.mul_div_cancel_left _ q.den_pos]
  have e2 : ((q.num * ((c : Nat) : Int) : Int) : Rat) = (q.num : Rat) * (c : Rat) := by
    rw [Rat.intCast_mul]
    rfl
  have e3 : ((q.den * c : Nat) : Rat) = (q.den : Rat) * (c : Rat) := Rat.natCast_mul _ _
  rw [e2, e3, ← e]
  grind
theorem tops_get {qs : List Rat} {i : Nat} (lt : i < qs.length) : (topsOf qs)[i]? = some (topOf (lcs qs) (cf qs i)) := by
  unfold topsOf
  rw [List.getElem?_map, at_cf lt]
  rfl
theorem mem_cf {qs : List Rat} {i : Nat} (lt : i < qs.length) : cf qs i ∈ qs := List.mem_of_getElem? (at_cf lt)
section
variable {P : Program} {w : World} {K : PySem.W.Frag} {mg : Str → Option Value} {base : Heap}
def spOver (K : PySem.W.Frag) : Sp := fun vs H Q _ => ∃ t ws qs n m, vs = [.ref t] ∧ SqT K H t ws ∧ Al K H ws qs ∧ SzA n m qs ∧ m ≤ 9000 ∧ qs.length ≤ 1000 ∧ m * qs.length + 2 ≤ 13000 ∧ n ≤ 400000 ∧
  ∀ p l H', Same H H' → SqT K H' p [.ref l, .int ((lcs qs : Nat) : Int)] → H' l = some (.lst ((topsOf qs).map V.int)) → H l = none → Q (.ref p) H'
abbrev nOv : List Str := ["pairs", "shared", "_", "bottom", "top"]
theorem sc28 : FnScope nOv ["pairs"] (defScope (top 23)) := ⟨rfl, rfl, rfl, by decide +kernel, rfl, by decide +kernel, by decide +kernel⟩
theorem ok_over (T : Tz P K mg) : FnOk P w K mg base CX0 1 T.over_one.f T.over_one.fd ["pairs"] (spOver K) := by
  refine T.over_one.fn.ok sc28 (fun vs H Q E h => ?_) (fun cdv A outer s H vs Q E hr h => ?_)
  · obtain ⟨t, ws, qs, n, m, rfl, _⟩ := h
    rfl
  · obtain ⟨t, ws, qs, n, m, rfl, ht, al, zq, m9, len, lm, nn, q⟩ := h
    refine ⟨_, pss_cons (ps_set (i := 1) sc28.nd rfl (.inr rfl) pe_int)
      (pss_cons (ps_for PassesOwn.never rfl (pi_tup (pv 0)) (pg_tup (by rfl) (pgs_cons (pg_name (i := 2) sc28.nd rfl (.inl rfl)) (pgs_cons (pg_name (i := 3) sc28.nd rfl (.inl rfl)) pgs_nil)))
        (pss_one (ps_set (i := 1) sc28.nd rfl (.inr rfl) (pe_callBfun cr_lcm (by rfl) T.mLcm (pa_cons (pv 1) (pa_cons (pv 3) pa_nil))))))
      (pss_one (ps_ret (pe_tup (pa_cons (pe_lc (own := [("top", 4), ("bottom", 3)]) (g := gTup K 2 (gCons (gName 4) (gCons (gName 3) gNil))) (tt := tYes) rfl sc28.nd (pi_tup (pv 0)) (blkOk_by (own := [("top", 4), ("bottom", 3)]) (N := nOv) (sc := defScope (top 23)) (by decide +kernel))
        (fun _ _ _ _ _ => pg_tup (by rfl) (pgs_cons (pg_name (i := 4) sc28.nd rfl (Or.inl rfl)) (pgs_cons (pg_name (i := 3) sc28.nd rfl (Or.inl rfl)) pgs_nil))) (fun _ _ _ _ _ => pts_nil) (fun _ _ _ _ _ => pe_op op_mulW (pv 4) (pe_op op_fdivF (pv 1) (pv 3)))) (pa_cons (pv 1) pa_nil)))))), ?_⟩
    have lt2 : ∀ i, i ≤ qs.length → lcs (qs.take i) < 2 ^ 12999 := fun i hi => by
      have z : ∀ q ∈ qs.take i, Sz n m q := fun q hq => zq.mem q (List.mem_of_mem_take hq)
      refine Nat.lt_of_lt_of_le (lcs_lt _ z) (pow_up ?_)
      have : (qs.take i).length ≤ qs.length := by rw [List.length_take]; omega
      have := Nat.mul_le_mul_left m this
      omega
    refine ⟨_, rfl, t, rfl, ⟨_, ht⟩, for_tup (K := K) (a := t) (xs := ws) (fun i σ H' => H' = H ∧ i ≤ ws.length ∧ ∃ v v', σ = [some (.ref t), some (.int ((lcs (qs.take i) : Nat) : Int)), v, v', none]) ⟨rfl, Nat.zero_le _, none, none, rfl⟩ (fun i σ H' _ ⟨e, _⟩ => e ▸ ht) ?_ ?_⟩
    · rintro i x σ H' hx ⟨rfl, le, v, v', rfl⟩
      have lt : i < ws.length := (List.getElem?_eq_some_iff.mp hx).1
      have ltq : i < qs.length := by rw [← al.1]; exact lt
      obtain ⟨t', rfl, ht'⟩ := al.2 i x _ hx (at_cf ltq)
      refine ⟨t', _, rfl, ht', rfl, _, _, rfl, _, _, rfl, rfl, ?_⟩
      have zi := (zq i ltq).2
      refine ⟨_, rfl, _, rfl, _, _, rfl, ?_, ?_, rfl, lt, some (.int (cf qs i).num), some (.int ((cf qs i).den : Int)), ?_⟩
      · exact Nat.lt_of_lt_of_le (lt2 i (by omega)) (pow_up (by decide))
      · exact Nat.lt_of_lt_of_le zi (pow_up (by omega))
      · rw [take_snoc (at_cf ltq), lcs_snoc]
        rfl
    · rintro σ H' ⟨rfl, _, v, v', rfl⟩
      rw [al.1, List.take_length]
      refine ⟨_, rfl, t, rfl, ⟨_, ht⟩, fun D hD => ?_⟩
      refine lc_mapT ht (by rw [al.1]; exact len) hD (fun i acc _ => acc = ((topsOf qs).take i).map V.int) bears_pure rfl ?_ ?_
      · intro i x hx acc H2 Qk Z l r s k
        have lt : i < ws.length := (List.getElem?_eq_some_iff.mp hx).1
        have ltq : i < qs.length := by rw [← al.1]; exact lt
        obtain ⟨t', rfl, ht'⟩ := (al.2 i x _ hx (at_cf ltq)).same s
        refine ⟨t', _, rfl, ht', rfl, _, _, rfl, _, _, rfl, rfl, rfl, ?_⟩
        dsimp only [tYes]
        have zi := zq i ltq
        have dv : (((lcs qs : Nat) : Int)).fdiv (((cf qs i).den : Nat) : Int) = ((lcs qs / (cf qs i).den : Nat) : Int) := by
          rw [Int.fdiv_eq_ediv_of_nonneg _ (Int.natCast_nonneg _), ← Int.natCast_ediv]
        have lL := lt2 qs.length (Nat.le_refl _)
        rw [List.take_length] at lL
        refine iteT ⟨_, rfl, _, rfl, _, rfl, _, _, rfl, rfl, cdivF (Int.ne_of_gt (den_pos' _)) (up_lt (den_abs zi) m9), _, _, rfl, rfl, ?_, k _ _ (Same.refl _) ?_⟩
        · rw [dv]
          refine cmulW zi.1 (b := 13000) ?_ (by omega)
          refine Nat.lt_of_le_of_lt (Nat.div_le_self _ _) (Nat.lt_of_lt_of_le lL (pow_up (by decide)))
        · show acc ++ [V.int ((cf qs i).num * _)] = ((topsOf qs).take (i + 1)).map V.int
          rw [dv, take_snoc (tops_get ltq), List.map_append, r]
          rfl
      · intro acc H2 hacc lacc r s
        have r' : acc = ((topsOf qs).take ws.length).map V.int := r
        have ln : (topsOf qs).length = qs.length := List.length_map _
        rw [al.1, ← ln, List.take_length] at r'
        subst r'
        refine ⟨_, rfl, (by show 2 ≤ sizeLine; decide), fun p hp => ?_⟩
        refine q p D _ (s.trans (Same.new hp)) (SqT.of upd_same) ?_ hD
        rw [upd_ne (ne_of_none hacc hp)]
        exact hacc
end
end Kz
set_option linter.all false
set_option maxRecDepth 100000
set_option maxHeartbeats 4000000
namespace Kz
open PySem PySem.Spec PyProof.Rows L2
def ig (ns : List Int) (i : Nat) : Int := ns.getD i 0
theorem ig_at {ns : List Int} {i : Nat} {z : Int} (h : ns[i]? = some z) : ig ns i = z := by
  unfold ig
  rw [List.getD_eq_getElem?_getD, h]
  rfl
theorem ig_out {ns : List Int} {i : Nat} (h : ns.length ≤ i) : ig ns i = 0 := by
  unfold ig
  rw [List.getD_eq_getElem?_getD, List.getElem?_eq_none h]
  rfl
theorem at_ig {ns : List Int} {i : Nat} (h : i < ns.length) : ns[i]? = some (ig ns i) := by
  rw [List.getElem?_eq_getElem h, ig_at (List.getElem?_eq_getElem h)]
section
variable {P : Program} {w : World} {K : PySem.W.Frag} {mg : Str → Option Value} {base : Heap}
end
end Kz
set_option linter.all false
set_option maxRecDepth 100000
set_option maxHeartbeats 4000000
namespace Kz
open PySem PySem.Spec PyProof.Rows L2
section
variable {P : Program} {w : World} {K : PySem.W.Frag} {mg : Str → Option Value} {base : Heap}
theorem poly_ty (T : Tz P K mg) {H : Hp} {a dx : Addr} {fs : List (Str × V)} (h : H a = some (.ins T.cP dx fs)) : TyX K H (.ref a) (.ref T.cP) := .base (.ins h T.clP T.iP T.gP T.tP T.oP)
theorem kit_self {C : Addr} : PySem.W.kitOne K (.ref C) (.ref C) = some true := by
  unfold PySem.W.kitOne
  simp
theorem ArgQ.ty {H : Hp} {v : V} {n m : Nat} {q : Rat} (h : ArgQ K H v n m q) : ∃ t, TyN K H v t := by
  obtain ⟨a, b, h, _⟩ := h
  cases h with
  | int => exact ⟨_, ty_int⟩
  | two hs b0 =>
    obtain ⟨t, ty, _⟩ := hs.ty
    exact ⟨t, ty⟩
end
end Kz
set_option linter.all false
set_option maxRecDepth 100000
set_option maxHeartbeats 4000000
namespace Kz
open PySem PySem.Spec PyProof.Rows L2
def gI (zs : List Int) : Nat := zs.foldl (fun a z => Nat.gcd a z.natAbs) 0
def leanOf (zs : List Int) (k : Nat) : List Int := (zs.take k).map fun z => z.fdiv ((gI zs : Nat) : Int)
section
variable {P : Program} {w : World} {K : PySem.W.Frag} {mg : Str → Option Value} {base : Heap}
end
end Kz
set_option linter.all false
set_option maxRecDepth 100000
set_option maxHeartbeats 4000000
namespace Kz
open PySem PySem.Spec PyProof.Rows L2
/-- one step of a division without fractions -/
def pval (D r : List Int) (i : Nat) : Int := ig r i * ig D (D.length - 1) - (if r.length - D.length ≤ i then ig r (r.length - 1) * ig D (i - (r.length - D.length)) else 0)
def pstep (D r : List Int) : List Int := (List.range (r.length - 1)).map (pval D r)
def pit (D : List Int) : Nat → List Int → List Int
  | 0, r => r
  | n + 1, r => pit D n (pstep D r)
def BdI (n : Nat) (zs : List Int) : Prop := ∀ z ∈ zs, z.natAbs < 2 ^ n
theorem BdI.ig {n : Nat} {zs : List Int} (h : BdI n zs) (i : Nat) : (ig zs i).natAbs < 2 ^ n := by
  rcases Nat.lt_or_ge i zs.length with lt | ge
  · exact h _ (List.mem_of_getElem? (at_ig lt))
  · rw [ig_out ge]
    exact Nat.two_pow_pos _
theorem BdI.up {n m : Nat} {zs : List Int} (h : BdI n zs) (l : n ≤ m) : BdI m zs := fun z hz => up_lt (h z hz) l
section
variable {P : Program} {w : World} {K : PySem.W.Frag} {mg : Str → Option Value} {base : Heap}
theorem atI_last {xs : List V} {v : V} (h : xs[xs.length - 1]? = some v) : atI xs (-1) = some v := by
  have lt := (List.getElem?_eq_some_iff.mp h).1
  unfold atI ixN
  rw [if_neg (by decide), if_pos (by omega)]
  show xs[((-1 : Int) + (xs.length : Int)).toNat]? = some v
  have : ((-1 : Int) + (xs.length : Int)).toNat = xs.length - 1 := by omega
  rw [this]
  exact h
end
end Kz
set_option linter.all false
set_option maxRecDepth 100000
set_option maxHeartbeats 4000000
namespace Kz
open PySem PySem.Spec PyProof.Rows L2
/-- the rows that a search for a common divisor goes through -/
inductive Run : List Int → List Int → List Int → Prop
  | done {r : List Int} : Run r [] r
  | step {r d f : List Int} {x y : Nat} (k : Nat) : BdI x r → BdI y d → x + (r.length + 1 - d.length) * (y + 1) ≤ 9000 → y ≤ 9000 → 0 < d.length → NeedI (pit d (r.length + 1 - d.length) r) k → Run d (leanOf (pit d (r.length + 1 - d.length) r) k) f → Run r d f
section
variable {P : Program} {w : World} {K : PySem.W.Frag} {mg : Str → Option Value} {base : Heap}
end
end Kz
set_option linter.all false
set_option maxRecDepth 100000
set_option maxHeartbeats 4000000
namespace Kz
open PySem PySem.Spec PyProof.Rows L2
theorem Al.bear {K : PySem.W.Frag} {D : Addr} {H H' : Hp} {vs : List V} {qs : List Rat} {us : List V} (hD : H D = some (.lst us)) (b : But D H H') (h : Al K H vs qs) : Al K H' vs qs := by
  have z := bears_al (K := K) (D := D) (qs := qs) qs.length vs H H' (fun o e => ⟨us, by rw [hD] at e; exact (Option.some.inj e).symm⟩) b (by
    show Al K H vs (qs.take qs.length)
    rw [List.take_length]
    exact h)
  have z' : Al K H' vs (qs.take qs.length) := z
  rwa [List.take_length] at z'
/-- a row above one bottom -/
def CD (x y : Nat) (R : List Rat) : Prop := ∃ M : Nat, 0 < M ∧ M < 2 ^ y ∧ ∀ i, ∃ z : Int, z.natAbs < 2 ^ x ∧ cf R i = Rat.divInt z (M : Int)
theorem CD.sz {x y : Nat} {R : List Rat} (h : CD x y R) (i : Nat) : Sz x y (cf R i) := by
  obtain ⟨M, m0, m1, h⟩ := h
  obtain ⟨z, hz, e⟩ := h i
  rw [e]
  exact sz_divInt (by omega) hz (by simpa using m1)
theorem mul_sz {n m n' m' : Nat} {q r : Rat} (a : Sz n m q) (b : Sz n' m' r) : Sz (n + n') (m + m') (q * r) := by
  rw [← rat_mul q r]
  exact sz_divInt (Int.mul_pos (den_pos' q) (den_pos' r)) (wide_lt a.1 b.1) (wide_lt (den_abs a) (den_abs b))
/-- one step of a division -/
def dfac (D R : List Rat) : Rat := cf R (R.length - 1) / cf D (D.length - 1)
def dval (D R : List Rat) (i : Nat) : Rat := if R.length - D.length ≤ i then cf R i - dfac D R * cf D (i - (R.length - D.length)) else cf R i
def dstep (D R : List Rat) : List Rat := upTo (R.length - 1) (dval D R)
def dit (D : List Rat) : Nat → List Rat → List Rat
  | 0, R => R
  | n + 1, R => dit D n (dstep D R)
theorem dstep_len {D R : List Rat} : (dstep D R).length = R.length - 1 := upTo_len
theorem dit_len {D : List Rat} : ∀ (n : Nat) (R : List Rat), (dit D n R).length = R.length - n
  | 0, R => rfl
  | n + 1, R => by
    show (dit D n (dstep D R)).length = _
    rw [dit_len n, dstep_len]
    omega
end Kz
set_option linter.all false
set_option maxRecDepth 100000
set_option maxHeartbeats 4000000
namespace Kz
open PySem PySem.Spec PyProof.Rows L2
section
variable {P : Program} {w : World} {K : PySem.W.Frag} {mg : Str → Option Value} {base : Heap}
theorem poly_made' {cP cR : Addr} {H : Hp} {a : Addr} {us : List V} {qs : List Rat} {n m : Nat} {Q : Addr → Hp → Prop} {E : XK} (hs : Sq K H a us) (al : AlA K H us n m qs) (hm : m ≤ 9000) (len : us.length ≤ 1000)
    (k : ∀ (v : Addr) (H' : Hp) (rs : List Rat), Same H H' → PolyAt K cP H' (.ref v) rs → rs.length ≤ qs.length → (∀ i, cf rs i = cf qs i) → Q v H') :
    ∀ x dx, H x = none → H dx = none → dx ≠ x → spInit K cP cR (.ref x :: ([.ref a] ++ [])) (upd (upd H dx (.own x)) x (.ins cP dx [])) (fun v H2 => v = .non ∧ Q x H2) E := by
  intro x dx nx ndx ne
  exact poly_made (Q := fun v H' => ∃ b, v = .ref b ∧ Q b H') (E := E) hs al hm len (fun v H' rs s p l e => by
    obtain ⟨b, dx, t, ws, rfl, r⟩ := id p
    exact ⟨b, rfl, k b H' rs s p l e⟩) x dx nx ndx ne |> fun h => by
      obtain ⟨x', dx', v', e1, e2, h⟩ := h
      refine ⟨x', dx', v', e1, e2, ?_⟩
      rcases h with ⟨a', us', qs', n', m', f1, f2, f3, f4, f5, f6⟩ | h
      · refine .inl ⟨a', us', qs', n', m', f1, f2, f3, f4, f5, fun H' t ws rs b1 b2 b3 b4 b5 b6 b7 => ?_⟩
        obtain ⟨z1, b, z2, z3⟩ := f6 H' t ws rs b1 b2 b3 b4 b5 b6 b7
        cases z2
        exact ⟨z1, z3⟩
      · exact .inr h
end
end Kz
set_option linter.all false
set_option maxRecDepth 100000
set_option maxHeartbeats 4000000
/-! Operators of own classes: two instances of one class; a built-in value on the left. -/
namespace PySem.W
open PySem PySem.Calls PyProof.Rows
section
variable {prog : Program} {w : World} {A : Around} {E : Value → Shared → Prop} {s : Shared} {K : Frag} {x y C L f : Addr} {h₀ : Heap} {m : Str → Option Value} {ox oy : Obj} {od oe : Option Obj} {T : String}
end
end PySem.W
set_option linter.all false
set_option maxRecDepth 100000
set_option maxHeartbeats 4000000
namespace PySem.W
open PySem PySem.Calls PyProof.Rows
section
variable {prog : Program} {w : World} {A : Around} {E : Value → Shared → Prop} {s : Shared} {y C dx : Addr} {i : Int} {t : Tok} {Q : Value → Shared → Prop}
end
end PySem.W
namespace Kz
open PySem PySem.Spec PyProof.Rows L2
/-- .. and what operators ask of it -/
structure Tw (P : Program) (K : PySem.W.Frag) (mg : Str → Option Value) extends Tz P K mg where
  sfP : PySem.W.selfFirst K cP = true
  nI1 : PySem.W.subIn K (.type "int") (.ref cP) = some false
  nI2 : PySem.W.subIn K (.ref cP) (.type "int") = some false
  nT1 : PySem.W.subIn K (.type "tuple") (.ref cP) = some false
  nT2 : PySem.W.subIn K (.ref cP) (.type "tuple") = some false
section
variable {X : Cx} {P : Program} {w : World} {K : PySem.W.Frag} {mg : Str → Option Value} {base : Heap} {k : Nat} {m q : Str} {stt : Stmt} {sp : Sp} {op : Operator}
end
end Kz
set_option linter.all false
set_option maxRecDepth 100000
set_option maxHeartbeats 4000000
namespace PySem.W
open PySem PySem.Calls PyProof.Rows
section
variable {prog : Program} {w : World} {A : Around} {E : Value → Shared → Prop} {s : Shared} {K : Frag} {x C f g : Addr} {ox : Obj} {od : Option Obj} {T : String}
end
end PySem.W
namespace Kz
open PySem PySem.Spec PyProof.Rows L2
/-- an int, or a tuple -/
def Plain (K : PySem.W.Frag) (H : Hp) (y : V) (T : String) : Prop := (T = "int" ∧ ∃ i, y = .int i) ∨ (T = "tuple" ∧ ∃ a xs, y = .ref a ∧ SqT K H a xs)
theorem Plain.names {K : PySem.W.Frag} {H : Hp} {y : V} {T : String} (h : Plain K H y T) : T = "int" ∨ T = "tuple" := h.elim (fun h => .inl h.1) fun h => .inr h.1
section
variable {X : Cx} {P : Program} {w : World} {K : PySem.W.Frag} {mg : Str → Option Value} {base : Heap} {k : Nat} {m q : Str} {stt : Stmt} {sp : Sp} {op : Operator}
/-- what built-in types have for an operator -/
structure OpT (K : PySem.W.Frag) (op : Operator) (T : String) : Prop where
  ex : ∃ fo ro, PySem.W.findIn K (.type T) (PySem.dunder op.info.2) = some fo ∧ PySem.W.findIn K (.type T) (dunderR op.info.2) = some ro ∧ (T = "tuple" → ((fo.isSome && !isSeqSlot fo) || (ro.isSome && !isSeqSlot ro)) = false)
end
end Kz
set_option linter.all false
set_option maxRecDepth 100000
set_option maxHeartbeats 4000000
namespace Kz
open PySem PySem.Spec PyProof.Rows L2
section
variable {P : Program} {w : World} {K : PySem.W.Frag} {mg : Str → Option Value} {base : Heap}
end
end Kz
set_option linter.all false
set_option maxRecDepth 100000
set_option maxHeartbeats 4000000
namespace Kz
open PySem PySem.Spec PyProof.Rows L2
/-- a value by the numbers from the last one on -/
def hn (f : Nat → Rat) (N : Nat) (x : Rat) : Nat → Rat
  | 0 => 0
  | j + 1 => hn f N x j * x + f (N - 1 - j)
theorem hn_scale {f g : Nat → Rat} {N : Nat} {x L : Rat} (h : ∀ i, g i = f i * L) : ∀ j, hn g N x j = hn f N x j * L
  | 0 => by
    show (0 : Rat) = 0 * L
    rw [Rat.zero_mul]
  | j + 1 => by
    show hn g N x j * x + g (N - 1 - j) = (hn f N x j * x + f (N - 1 - j)) * L
    rw [hn_scale h j, h]
    grind
theorem step_q {t s a b h q x : Rat} (b0 : b ≠ 0) (e : t * b = s * h) (ex : x = a / b) : (t * a + q * s) * b = (s * b) * (h * x + q) := by
  subst ex
  have e2 : h * (a / b) * b = h * a := by grind
  grind
section
variable {P : Program} {w : World} {K : PySem.W.Frag} {mg : Str → Option Value} {base : Heap}
def spAt (K : PySem.W.Frag) (cP cN : Addr) : Sp := fun vs H Q E => ∃ p v qs n m, vs = [p, v] ∧ PolyAt K cP H p qs ∧ SzA n m qs ∧ m ≤ 9000 ∧ n ≤ 300000 ∧ qs.length ≤ 100 ∧ m * qs.length + 2 ≤ 6000 ∧
  ((∃ x α β, ArgQ K H v α β x ∧ 0 < α ∧ α ≤ 1000 ∧ β * qs.length + β ≤ 2900 ∧ ∀ u H', Same H H' → RV K H' u (hn (cf qs) qs.length x qs.length) → Q u H') ∨ (Odd K H v ∧ ErN cN H E "place" v))
abbrev nAt : List Str := ["self", "place", "above", "below", "tops", "bottom", "total", "scale", "top"]
theorem scP10 : FnScope nAt ["self", "place"] (defScope (sP 10)) := ⟨rfl, rfl, rfl, by decide +kernel, rfl, by decide +kernel, by decide +kernel⟩
theorem ok_at (T : Tz P K mg) : FnOk P w K mg base (CX P w) 5 T.p_at.f T.p_at.fd ["self", "place"] (spAt K T.cP T.cN) := by
  have G1 : FnOk P w K mg base CX0 1 T.over_one.f T.over_one.fd ["pairs"] (spOver K) := ok_over T
  have G2 : FnOk P w K mg base (CX P w) 4 T.told.f T.told.fd ["value", "what"] (spTold K T.cN) := ok_told T.toTx
  have G3 : FnOk P w K mg base CX0 1 T.lowest.f T.lowest.fd ["top", "bottom"] (spLow K) := ok_low T.toTx
  refine T.p_at.fn.okX scP10 (fun vs H Q E h => ?_) (fun cdv A outer s H vs Q E hr h => ?_)
  · obtain ⟨p, v, qs, n, m, rfl, _⟩ := h
    rfl
  · obtain ⟨p, v, qs, n, m, rfl, hp, zq, m9, n3, l2, lm, h⟩ := h
    have hr1 : Room 1 _ := hr.mono (by decide)
    have tk := takes_of (X := cxOf (CX P w) P w K mg base nAt "Poly.at" (defScope (sP 10)) T.p_at.f cdv A outer s H E) (E := E) rfl rfl rfl rfl
    refine ⟨_, pss_cons (ps_asg (T.told.cS G2 hr tk (pa_cons (pv 1) (pa_cons pe_str pa_nil))) (pg_tup (by rfl) (pgs_cons (pg_name (i := 2) scP10.nd rfl (.inl rfl)) (pgs_cons (pg_name (i := 3) scP10.nd rfl (.inl rfl)) pgs_nil))))
      (pss_cons (ps_asg (T.over_one.c0 G1 hr1 (pa_cons (pe_fld (pv 0) (by rfl)) pa_nil)) (pg_tup (by rfl) (pgs_cons (pg_name (i := 4) scP10.nd rfl (.inl rfl)) (pgs_cons (pg_name (i := 5) scP10.nd rfl (.inl rfl)) pgs_nil))))
      (pss_cons (ps_set (i := 6) scP10.nd rfl (.inl rfl) pe_int)
      (pss_cons (ps_set (i := 7) scP10.nd rfl (.inl rfl) pe_int)
      (pss_cons (ps_for (passes_of rfl) rfl (pi_reversed (by rfl) T.mRev (pa_cons (pv 4) pa_nil)) (pg_name (i := 8) scP10.nd rfl (.inl rfl))
        (pss_cons (ps_set (i := 6) scP10.nd rfl (.inl rfl) (pe_op op_add (pe_op op_mulW (pv 6) (pv 2)) (pe_op op_mulW (pv 8) (pv 7))))
        (pss_one (ps_set (i := 7) scP10.nd rfl (.inl rfl) (pe_op op_mulW (pv 7) (pv 3))))))
      (pss_one (ps_ret (T.lowest.c0 G3 hr1 (pa_cons (pe_op op_mulW (pv 6) (pv 3)) (pa_cons (pe_op op_mulW (pv 5) (pv 7)) pa_nil))))))))), ?_⟩
    obtain ⟨a, dx, t, ws, rfl, ha, ht, al, tr⟩ := id hp
    rcases h with ⟨x, α, β, aq, α0, α1, bβ, k⟩ | ⟨od, er⟩
    · have β9 : β ≤ 9000 := by omega
      refine ⟨_, rfl, _, _, rfl, .inl ⟨x, α, β, aq, β9, fun v1 H1 s1 rv => ?_⟩⟩
      obtain ⟨t1, rfl, h1⟩ := rv
      refine ⟨t1, _, rfl, h1, rfl, _, _, rfl, _, _, rfl, rfl, ?_⟩
      refine ⟨_, rfl, a, T.cP, dx, _, _, rfl, s1 _ _ ha, T.clP, T.nP, lkN, t, ws, qs, n, m, rfl, Kz.Same.seqT s1 ht, al.same s1, zq, m9, by omega, by omega, by omega, fun p1 l1 H2 s2 hp1 hl1 nl1 => ?_⟩
      refine ⟨p1, _, rfl, hp1, rfl, _, _, rfl, _, _, rfl, rfl, ?_⟩
      have zx := aq.sz
      have ltq : (topsOf qs).length = qs.length := List.length_map _
      have lmt : ((topsOf qs).map V.int).length = qs.length := by rw [List.length_map, ltq]
      have lq := lcs_lt qs zq.mem
      have bq : ∀ k, (ig (topsOf qs) k).natAbs < 2 ^ 310000 := fun k => by
        rcases Nat.lt_or_ge k qs.length with lt | ge
        · rw [ig_at (tops_get lt)]
          have z := zq k lt
          have : ((lcs qs / (cf qs k).den : Nat) : Int).natAbs < 2 ^ (m * qs.length + 1) := Nat.lt_of_le_of_lt (Nat.div_le_self _ _) lq
          exact up_lt (wide_lt z.1 this) (by omega)
        · rw [ig_out (by omega)]
          exact Nat.two_pow_pos _
      have cT : ∀ k, ((ig (topsOf qs) k : Int) : Rat) = cf qs k * (lcs qs : Rat) := fun k => by
        rcases Nat.lt_or_ge k qs.length with lt | ge
        · rw [ig_at (tops_get lt), topOf_eq (lcs_dvd qs _ (mem_cf lt))]
        · rw [ig_out (by omega), cf_out ge, Rat.intCast_zero, Rat.zero_mul]
      have b0 : ((x.den : Int) : Rat) ≠ 0 := fun z => by have := Rat.intCast_eq_zero_iff.mp z; have := x.den_pos; omega
      have ex : x = (x.num : Rat) / ((x.den : Int) : Rat) := by
        have e := Rat.num_divInt_den x
        rw [Rat.divInt_eq_div] at e
        exact e.symm
      refine ⟨_, rfl, l1, _, rfl, SqL.of hl1, RT.for_Itv (K := K) (a := l1) (xs := (topsOf qs).map V.int) (fun j σ H' => H' = H2 ∧ j ≤ qs.length ∧ ∃ (tot sc : Int) (v8 : Option V), σ = [some (.ref a), some v, some (.int x.num), some (.int (x.den : Int)), some (.ref l1), some (.int ((lcs qs : Nat) : Int)), some (.int tot), some (.int sc), v8] ∧
        (tot : Rat) * ((x.den : Int) : Rat) = (sc : Rat) * hn (fun i => ((ig (topsOf qs) i : Int) : Rat)) qs.length x j ∧ tot.natAbs < 2 ^ (310000 + j * (α + β + 1)) ∧ 0 < sc ∧ sc.natAbs < 2 ^ (β * j + 1))
        ⟨rfl, Nat.zero_le _, 0, 1, none, rfl, ?_, by show (0 : Nat) < _; exact Nat.two_pow_pos _, by decide, by show (1 : Nat) < 2 ^ (β * 0 + 1); rw [Nat.mul_zero]; decide⟩ (fun i σ H' ⟨e, _⟩ => e ▸ SqL.of hl1) ?_ ?_⟩
      · show ((0 : Int) : Rat) * _ = ((1 : Int) : Rat) * 0
        rw [Rat.intCast_zero, Rat.zero_mul, Rat.mul_zero]
      · rintro j y σ H' hj hy ⟨rfl, _, tot, sc, v8, rfl, inv, bt, s0, bs⟩
        rw [lmt] at hj hy
        have it := at_ig (ns := topsOf qs) (i := qs.length - 1 - j) (by omega)
        rw [List.getElem?_map, it] at hy
        cases hy
        have m1 : j * (α + β + 1) ≤ 100 * (α + β + 1) := Nat.mul_le_mul_right _ (by omega)
        have m2 : β * j ≤ β * qs.length := Nat.mul_le_mul_left _ (by omega)
        refine ⟨_, rfl, _, rfl, _, _, rfl, rfl, cmulW bt zx.1 (by omega), _, rfl, _, rfl, _, _, rfl, rfl, cmulW (bq _) bs (by omega), _, _, rfl, rfl, ?_⟩
        refine ⟨_, rfl, _, rfl, _, _, rfl, rfl, cmulW bs (den_abs zx) (by omega), rfl, hj, _, _, _, rfl, ?_, ?_, Int.mul_pos s0 (den_pos' x), ?_⟩
        · rw [Rat.intCast_add, Rat.intCast_mul, Rat.intCast_mul, Rat.intCast_mul]
          exact step_q b0 inv ex
        · have h1 := wide_lt bt zx.1
          have h2 := wide_lt (bq (qs.length - 1 - j)) bs
          have h3 := Int.natAbs_add_le (tot * x.num) (ig (topsOf qs) (qs.length - 1 - j) * sc)
          have e : 310000 + (j + 1) * (α + β + 1) = (310000 + j * (α + β + 1) + α + β) + 1 := by rw [Nat.succ_mul]; omega
          have l1' : 2 ^ (310000 + j * (α + β + 1) + α) ≤ 2 ^ (310000 + j * (α + β + 1) + α + β) := pow_up (by omega)
          have l2' : 2 ^ (310000 + (β * j + 1)) ≤ 2 ^ (310000 + j * (α + β + 1) + α + β) := pow_up (by
            have : j * (α + β + 1) = j * (α + 1) + β * j := by rw [Nat.mul_comm β j, ← Nat.mul_add]; congr 1; omega
            omega)
          rw [e, Nat.pow_succ]
          omega
        · have := wide_lt bs (den_abs zx)
          have e : β * (j + 1) + 1 = β * j + 1 + β := by rw [Nat.mul_succ]; omega
          rw [e]
          exact this
      · rintro σ H' ⟨rfl, _, tot, sc, v8, rfl, inv, bt, s0, bs⟩
        rw [lmt] at inv bt bs
        have m1 : qs.length * (α + β + 1) ≤ 100 * (α + β + 1) := Nat.mul_le_mul_right _ l2
        have lp := lcs_pos qs
        have bb : ((lcs qs : Nat) : Int).natAbs < 2 ^ (m * qs.length + 1) := lq
        refine ⟨_, rfl, _, rfl, _, _, rfl, rfl, cmulW bt (den_abs zx) (by omega), ?_⟩
        refine ⟨_, rfl, _, rfl, _, _, rfl, rfl, cmulW bb bs (by rw [Nat.mul_comm β] at *; omega), _, _, rfl, Int.mul_pos (by omega) s0, up_lt (wide_lt bb bs) (by rw [Nat.mul_comm β] at *; omega), fun u H3 s3 ru => k u H3 ((s1.trans s2).trans s3) ?_⟩
        have e : Rat.divInt (tot * (x.den : Int)) (((lcs qs : Nat) : Int) * sc) = hn (cf qs) qs.length x qs.length := by
          have sz : ((sc : Int) : Rat) ≠ 0 := fun z => by have := Rat.intCast_eq_zero_iff.mp z; omega
          have lz : (lcs qs : Rat) ≠ 0 := fun z => by have := Rat.natCast_eq_zero_iff.mp z; omega
          rw [Rat.divInt_eq_div, Rat.intCast_mul, Rat.intCast_mul, inv, hn_scale cT, Rat.intCast_natCast]
          generalize hn (cf qs) qs.length x qs.length = h
          generalize (lcs qs : Rat) = L at lz
          generalize ((sc : Int) : Rat) = S at sz
          grind
        rw [e] at ru
        exact ru
    · exact ⟨_, rfl, _, _, rfl, .inr ⟨od, er⟩⟩
end
end Kz
set_option linter.all false
set_option maxRecDepth 100000
set_option maxHeartbeats 4000000
namespace Kz
open PySem PySem.Spec PyProof.Rows L2
/-- .. and the law's own polynomials -/
structure Tv (P : Program) (K : PySem.W.Frag) (mg : Str → Option Value) extends Tw P K mg where
  l_poly : Df K mg "_law_poly" (top 68) ["_law_numbers"]
  l_pplus : Df K mg "_law_p_plus" (top 69) ["_law_one", "_law_two"]
  l_pat : Df K mg "_law_p_at" (top 70) ["_law_one", "_law_point"]
/-- a list of told ratios -/
def LR (K : PySem.W.Frag) (H : Hp) (v : V) (qs : List Rat) : Prop := ∃ l vs, v = .ref l ∧ H l = some (.lst vs) ∧ Al K H vs qs
theorem LR.same {K : PySem.W.Frag} {H H' : Hp} {v : V} {qs : List Rat} (s : Same H H') (h : LR K H v qs) : LR K H' v qs := by
  obtain ⟨l, vs, e, hl, al⟩ := h
  exact ⟨l, vs, e, s _ _ hl, al.same s⟩
/-- a ratio, a row of them, as data -/
def pdQ (q : Rat) : PyData := .tuple [.int q.num, .int (q.den : Int)]
def pdR (qs : List Rat) : PyData := .list (qs.map pdQ)
theorem RV.dp {K : PySem.W.Frag} {H : Hp} {v : V} {q : Rat} (h : RV K H v q) : Dp K H v (pdQ q) := by
  obtain ⟨t, rfl, h⟩ := h
  exact .tup h (.cons (.int _) (.cons (.int _) .nil))
theorem Al.dp {K : PySem.W.Frag} {H : Hp} : ∀ {vs : List V} {qs : List Rat}, Al K H vs qs → DpAll K H vs (qs.map pdQ)
  | [], [], _ => .nil
  | [], q :: qs, h => by cases h.1
  | v :: vs, [], h => by cases h.1
  | v :: vs, q :: qs, h => .cons (h.2 0 v q rfl rfl).dp (Al.dp ⟨Nat.succ.inj h.1, fun i u r a b => h.2 (i + 1) u r a b⟩)
theorem pdQ_lay (qs : List Rat) : PyData.canLayAll0 (qs.map pdQ) = true ∧ PyData.depthAll (qs.map pdQ) ≤ 1 := by
  induction qs with
  | nil => exact ⟨rfl, Nat.zero_le _⟩
  | cons q qs ih =>
    refine ⟨?_, ?_⟩
    · simp only [List.map_cons, PyData.canLayAll0, ih.1, Bool.and_true]
      rfl
    · simp only [List.map_cons, PyData.depthAll]
      have : (pdQ q).depth = 1 := rfl
      rw [this]
      exact Nat.max_le.mpr ⟨Nat.le_refl _, ih.2⟩
theorem pdR_shaped (qs : List Rat) : SeqAt.shaped (pdR qs) = true := by
  obtain ⟨h1, h2⟩ := pdQ_lay qs
  unfold SeqAt.shaped pdR
  simp only [PyData.canLay0, PyData.depth, h1, Bool.true_and]
  exact decide_eq_true (by omega)
theorem pdR_nil (qs : List Rat) : PyData.eqv (pdR qs) (pdR []) = decide (qs = []) := by
  cases qs with
  | nil => rfl
  | cons q qs => rfl
section
variable {P : Program} {w : World} {K : PySem.W.Frag} {mg : Str → Option Value} {base : Heap}
abbrev nLp : List Str := ["_law_numbers", "_law_found", "_law_lap"]
theorem sc48 : FnScope nLp ["_law_numbers"] (defScope (top 68)) := ⟨rfl, rfl, rfl, by decide +kernel, rfl, by decide +kernel, by decide +kernel⟩
end
end Kz
set_option linter.all false
set_option maxRecDepth 100000
set_option maxHeartbeats 4000000
namespace Kz
open PySem PySem.Spec PyProof.Rows L2
theorem PQ.same {K : PySem.W.Frag} {H H' : Hp} {v : V} {n m : Nat} {q : Rat} (s : Same H H') (h : PQ K H v n m q) : PQ K H' v n m q := by
  obtain ⟨t, a, b, e, ht, r⟩ := h
  exact ⟨t, a, b, e, Kz.Same.seqT s ht, r⟩
section
variable {P : Program} {w : World} {K : PySem.W.Frag} {mg : Str → Option Value} {base : Heap}
/-- the value at a ratio -/
def spLat (K : PySem.W.Frag) : Sp := fun vs H Q _ => ∃ v u qs n m α β x, vs = [v, u] ∧ LR K H v qs ∧ SzA n m qs ∧ RV K H u x ∧ Sz α β x ∧ 0 < n ∧ 0 < m ∧ 1 + (qs.length + 1) * (β + m) ≤ 9000 ∧ qs.length ≤ 50 ∧ α ≤ 2000 ∧ n ≤ 2000 ∧ ∀ y H', Same H H' → RV K H' y (hn (cf qs) qs.length x qs.length) → Q y H'
abbrev nLa : List Str := ["_law_one", "_law_point", "_law_amount", "_law_number"]
theorem sc53 : FnScope nLa ["_law_one", "_law_point"] (defScope (top 70)) := ⟨rfl, rfl, rfl, by decide +kernel, rfl, by decide +kernel, by decide +kernel⟩
theorem ok_lat (T : Tv P K mg) : FnOk P w K mg base CX0 4 T.l_pat.f T.l_pat.fd ["_law_one", "_law_point"] (spLat K) := by
  have G1 : FnOk P w K mg base CX0 3 T.l_plus.f T.l_plus.fd ["_law_one", "_law_two"] (spL2 K cBin (fun q r => q + r)) := ok_lplus T.toTy
  have G2 : FnOk P w K mg base CX0 3 T.l_times.f T.l_times.fd ["_law_one", "_law_two"] (spL2 K cBin (fun q r => q * r)) := ok_ltimes T.toTy
  refine T.l_pat.fn.ok sc53 (fun vs H Q E h => ?_) (fun cdv A outer s H vs Q E hr h => ?_)
  · obtain ⟨v, u, qs, n, m, α, β, x, rfl, _⟩ := h
    rfl
  · obtain ⟨v, u, qs, n, m, α, β, x, rfl, ⟨l, ws, rfl, hl, al⟩, zq, rx, zx, n0, m0, b1, len, α2, n2, k⟩ := h
    refine ⟨_, pss_cons (ps_set (i := 2) sc53.nd rfl (.inl rfl) (pe_tup (pa_cons pe_int (pa_cons pe_int pa_nil))))
      (pss_cons (ps_for PassesOwn.never rfl (pi_list (pe_revL (pv 0))) (pg_name (i := 3) sc53.nd rfl (.inl rfl))
        (pss_one (ps_set (i := 2) sc53.nd rfl (.inl rfl) (T.l_plus.c0 G1 hr (pa_cons (T.l_times.c0 G2 hr (pa_cons (pv 2) (pa_cons (pv 1) pa_nil))) (pa_cons (pv 3) pa_nil))))))
      (pss_one (ps_ret (pv 2)))), ?_⟩
    refine ⟨(by show 2 ≤ sizeLine; decide), fun z nz => ?_⟩
    have s1 := Same.new (o := .tup [.int 0, .int 1]) nz
    have ez : RV K (upd H z (.tup [.int 0, .int 1])) (.ref z) 0 := rv_zero (SqT.of upd_same)
    generalize upd H z (.tup [.int 0, .int 1]) = H1 at s1 ez
    refine ⟨_, rfl, l, ws, rfl, SqL.of (s1 _ _ hl), fun p np => ?_⟩
    have s2 := s1.trans (Same.new (o := .lst ws.reverse) np)
    have ep : upd H1 p (.lst ws.reverse) p = some (.lst ws.reverse) := upd_same
    have ez2 := ez.same (Same.new (o := .lst ws.reverse) np)
    generalize upd H1 p (.lst ws.reverse) = H2 at s2 ep ez2
    refine ⟨p, rfl, ⟨_, SqL.of ep⟩, for_list (K := K) (a := p) (xs := ws.reverse) (fun j σ H' => j ≤ qs.length ∧ ∃ am v3, σ = [some (.ref l), some u, some am, v3] ∧ RV K H' am (hn (cf qs) qs.length x j) ∧ Sz (1 + j * (α + n + 9000)) (1 + j * (β + m)) (hn (cf qs) qs.length x j) ∧ Same H2 H')
      ⟨Nat.zero_le _, .ref z, none, rfl, ez2, ⟨by show (0 : Nat) < _; exact Nat.two_pow_pos _, by show (1 : Nat) < 2 ^ (1 + 0 * _); rw [Nat.zero_mul]; decide⟩, Same.refl _⟩ (fun j σ H' _ ⟨_, _, _, _, _, _, s⟩ => SqL.of (s _ _ ep)) ?_ ?_⟩
    · rintro j y σ H3 hy ⟨_, am, v3, rfl, ra, za, s3⟩
      have lt : j < qs.length := by
        have := (List.getElem?_eq_some_iff.mp hy).1
        rw [List.length_reverse, al.1] at this
        exact this
      rw [List.getElem?_reverse (by rw [al.1]; exact lt)] at hy
      have s23 := s2.trans s3
      have ey : ws.length - 1 - j = qs.length - 1 - j := by rw [al.1]
      rw [ey] at hy
      have ry := (al.2 _ y _ hy (at_cf (by omega))).same s23
      have zy := zq (qs.length - 1 - j) (by omega)
      have m1 : j * (β + m) + (β + m) + (β + m) ≤ 8999 := by
        have h1 : (j + 1) * (β + m) ≤ qs.length * (β + m) := Nat.mul_le_mul_right _ lt
        rw [Nat.succ_mul] at h1 b1
        omega
      have m2 : j * (α + n + 9000) ≤ 50 * (α + n + 9000) := Nat.mul_le_mul_right _ (by omega)
      refine ⟨_, rfl, _, rfl, am, u, _, x, _, _, α, β, rfl, ra.pq za, (rx.same s23).pq zx, ⟨by omega, by omega⟩, fun v1 H4 s4 r1 => ?_⟩
      have zm := mul_sz za zx
      refine ⟨_, rfl, v1, y, _, _, _, _, n, m, rfl, r1.pq zm, (ry.same s4).pq zy, ⟨by omega, by omega⟩, fun v2 H5 s5 r2 => ?_⟩
      refine ⟨lt, v2, _, rfl, r2, (add_sz zm zy).up ?_ ?_, (s3.trans s4).trans s5⟩
      · rw [Nat.succ_mul]
        omega
      · rw [Nat.succ_mul]
        omega
    · rintro σ H3 ⟨_, am, v3, rfl, ra, za, s3⟩
      rw [List.length_reverse, al.1] at ra
      exact ⟨_, rfl, k am H3 (s2.trans s3) ra⟩
end
end Kz
set_option linter.all false
set_option maxRecDepth 100000
set_option maxHeartbeats 4000000
namespace Kz
open PySem PySem.Spec PyProof.Rows L2
/-- a comprehension over two lists side by side -/
theorem lc_mapZ {K : PySem.W.Frag} {a b : Addr} {xs ys : List V} {g : TG} {te : TE} {vs : List Nat} {σ : L2.St} {H1 : Hp} {D : Addr} {Qd : Hp → Prop} (hx : SqL K H1 a xs) (hy : SqL K H1 b ys) (le : xs.length = ys.length) (len : xs.length ≤ 1000) (hD : H1 D = none)
    (R : Nat → List V → Hp → Prop) (br : Bears D R) (h0 : R 0 [] H1)
    (step : ∀ (i : Nat) (x y : V), xs[i]? = some x → ys[i]? = some y → ∀ (acc : List V) (H' : Hp) (Qk : VK) (Z : Hp → Prop) (T : Addr), acc.length = i → R i acc H' → Same H1 H' → H' T = none → (∀ u H4, Same H' H4 → R (i + 1) (acc ++ [u]) H4 → Qk u H4) →
      g (.ref T) (wipe σ vs) (upd H' T (.tup [x, y])) fun σ2 H2 => wipe σ2 vs = wipe σ vs ∧ tYes σ2 H2 fun b H3 => if b = true then te σ2 H3 Qk else Z H3)
    (fin : ∀ acc H', H' D = some (.lst acc) → acc.length = xs.length → R xs.length acc H' → Same H1 H' → Qd H') : ∃ W : Nat → Nat → Hp → Prop, (∃ m, W 0 m (upd H1 D (.lst []))) ∧ ∀ i m H, W i m H →
      ((Itz K a b).stop i H ∧ Qd H) ∨ ((Itz K a b).go i H ∧ ∃ Nx : Hp → Prop, (∀ H', Nx H' → ∃ m', m' < m ∧ W (i + 1) m' H') ∧ ∀ x H', (Itz K a b).yld i H x H' → g x (wipe σ vs) H' fun σ2 H2 => wipe σ2 vs = wipe σ vs ∧ tYes σ2 H2 fun b H3 =>
        if b = true then te σ2 H3 fun y H4 => ∃ acc, H4 D = some (.lst acc) ∧ acc.length < sizeLine ∧ Nx (upd H4 D (.lst (acc ++ [y]))) else Nx H3) := by
  refine ⟨fun i m H => m = xs.length - i ∧ i ≤ xs.length ∧ ∃ acc, H D = some (.lst acc) ∧ acc.length = i ∧ R i acc H ∧ Same H1 H, ⟨_, rfl, Nat.zero_le _, [], upd_same, rfl, br _ _ _ _ (fun o e => by rw [hD] at e; cases e) But.refl.set h0, Same.new hD⟩, ?_⟩
  rintro i m H ⟨rfl, hi, acc, e, l, r, s⟩
  have sx := Same.seq s hx
  have sy := Same.seq s hy
  rcases Nat.lt_or_ge i xs.length with lt | ge
  · right
    have lty : i < ys.length := by omega
    refine ⟨⟨xs, ys, _, _, sx, sy, List.getElem?_eq_getElem lt, List.getElem?_eq_getElem lty⟩, fun H' => i + 1 ≤ xs.length ∧ ∃ acc, H' D = some (.lst acc) ∧ acc.length = i + 1 ∧ R (i + 1) acc H' ∧ Same H1 H', fun H' p => ⟨_, by omega, rfl, p⟩, ?_⟩
    rintro v H' ⟨T, x, y, rfl, nT, rfl, fx, fy⟩
    refine step i x y (fx xs sx) (fy ys sy) acc H _ _ T l r s nT fun u H4 s4 r4 => ⟨acc, s4 _ _ e, le1000 (by omega), lt, acc ++ [u], upd_same, by simp [l], br _ _ _ _ (fun o e4 => ?_) But.refl.set r4, fun c o ec => ?_⟩
    · rw [s4 _ _ e] at e4
      cases e4
      exact ⟨_, rfl⟩
    · rw [upd_ne (ne_of_none ec hD)]
      exact s4 _ _ (s _ _ ec)
  · left
    have ei : i = xs.length := by omega
    subst ei
    exact ⟨⟨xs, ys, sx, sy, .inl (Nat.le_refl _)⟩, fin acc H e l r s⟩
/-- a row made longer by zeros -/
def padTo (n : Nat) (qs : List Rat) : List Rat := qs ++ List.replicate (n - qs.length) 0
theorem padTo_len {n : Nat} {qs : List Rat} (h : qs.length ≤ n) : (padTo n qs).length = n := by
  unfold padTo
  rw [List.length_append, List.length_replicate]
  omega
theorem padTo_cf {n : Nat} {qs : List Rat} (i : Nat) : cf (padTo n qs) i = cf qs i := by
  unfold padTo
  rcases Nat.lt_or_ge i qs.length with lt | ge
  · exact cf_at (by rw [List.getElem?_append_left lt, at_cf lt])
  · rw [cf_out ge]
    rcases Nat.lt_or_ge i (qs ++ List.replicate (n - qs.length) 0).length with lt | ge2
    · refine cf_at ?_
      rw [List.getElem?_append_right ge, List.getElem?_replicate, if_pos]
      rw [List.length_append, List.length_replicate] at lt
      omega
    · exact cf_out ge2
theorem boot_max2 : bootBuiltins "max" = some (.builtin "max") := by decide +kernel
section
variable {P : Program} {w : World} {K : PySem.W.Frag} {mg : Str → Option Value} {base : Heap}
theorem al_rep {H : Hp} {v : V} {k : Nat} (h : RV K H v 0) : Al K H (List.replicate k [v]).flatten (List.replicate k (0 : Rat)) := by
  induction k with
  | zero => exact Al.nil
  | succ k ih =>
    rw [List.replicate_succ, List.flatten_cons, List.replicate_succ]
    exact Al.append (Al.snoc (Al.nil (H := H)) h) ih
abbrev nPl : List Str := ["_law_one", "_law_two", "_law_many", "_law_first", "_law_second", "_law_a", "_law_b"]
theorem sc49 : FnScope nPl ["_law_one", "_law_two"] (defScope (top 69)) := ⟨rfl, rfl, rfl, by decide +kernel, rfl, by decide +kernel, by decide +kernel⟩
end
end Kz
set_option linter.all false
set_option maxRecDepth 100000
set_option maxHeartbeats 4000000
namespace Kz
open PySem PySem.Spec PyProof.Rows L2
theorem CD.both {x y x' y' : Nat} {qs rs ts : List Rat} (hq : CD x y qs) (hr : CD x' y' rs) (h : ∀ i, cf ts i = cf qs i + cf rs i) : CD (x + y' + x' + y + 1) (y + y') ts := by
  obtain ⟨M, m0, m1, hM⟩ := hq
  obtain ⟨L, n0, n1, hL⟩ := hr
  refine ⟨M * L, Nat.mul_pos m0 n0, by rw [Nat.pow_add]; exact Nat.mul_lt_mul'' m1 n1, fun i => ?_⟩
  obtain ⟨z, hz, e⟩ := hM i
  obtain ⟨z', hz', e'⟩ := hL i
  refine ⟨z * (L : Int) + z' * (M : Int), ?_, ?_⟩
  · have h1 := wide_lt hz (show ((L : Nat) : Int).natAbs < 2 ^ y' from n1)
    have h2 := wide_lt hz' (show ((M : Nat) : Int).natAbs < 2 ^ y from m1)
    have h3 := Int.natAbs_add_le (z * (L : Int)) (z' * (M : Int))
    have l1 : 2 ^ (x + y') ≤ 2 ^ (x + y' + x' + y) := pow_up (by omega)
    have l2 : 2 ^ (x' + y) ≤ 2 ^ (x + y' + x' + y) := pow_up (by omega)
    rw [Nat.pow_succ]
    omega
  · rw [h, e, e', Rat.divInt_add_divInt _ _ (by omega) (by omega), Int.natCast_mul]
section
variable {P : Program} {w : World} {K : PySem.W.Frag} {mg : Str → Option Value} {base : Heap}
end
end Kz
set_option linter.all false
set_option maxRecDepth 100000
set_option maxHeartbeats 4000000
namespace Kz
open PySem PySem.Spec PyProof.Rows L2
section
variable {P : Program} {w : World} {K : PySem.W.Frag} {mg : Str → Option Value} {base : Heap}
end
end Kz
set_option linter.all false
set_option maxRecDepth 100000
set_option maxHeartbeats 4000000
namespace Kz
open PySem PySem.Spec PyProof.Rows L2
section
variable {P : Program} {w : World} {K : PySem.W.Frag} {mg : Str → Option Value} {base : Heap}
end
end Kz
set_option linter.all false
set_option maxRecDepth 100000
set_option maxHeartbeats 4000000
namespace Kz
open PySem PySem.Spec PyProof.Rows L2
section
variable {P : Program} {w : World} {K : PySem.W.Frag} {mg : Str → Option Value} {base : Heap}
/-- a row above its least bottom, and without a common divisor -/
def shf (qs : List Rat) (i : Nat) : Rat := cf qs i * Rat.divInt ((lcs qs : Nat) : Int) ((gI (topsOf qs) : Nat) : Int)
end
end Kz
set_option linter.all false
set_option maxRecDepth 100000
set_option maxHeartbeats 4000000
namespace Kz
open PySem PySem.Spec PyProof.Rows L2
/-- the rows that the law's search for a common divisor goes through: t the rest, s the same made short -/
inductive RunQ : List Rat → List Rat → List Rat → Prop
  | done {r : List Rat} : RunQ r [] r
  | step {r d f : List Rat} {x y c e x' y' : Nat} (t s : List Rat) : CD x y r → CD c e d → 0 < x → 0 < y → x + r.length * (c + 1) ≤ 30000 → y + (r.length + 1 - d.length) * c + c + e + y + (r.length + 1 - d.length) * c ≤ 9000 → c ≤ 9000 → e ≤ 9000 → 0 < d.length → Tr d →
      Tr t → (∀ i, cf t i = cf (dit d (r.length + 1 - d.length) r) i) → CD x' y' t → 0 < x' → 0 < y' → x' + y' ≤ 8900 → Tr s → (∀ i, cf s i = shf t i) → RunQ d s f → RunQ r d f
section
variable {P : Program} {w : World} {K : PySem.W.Frag} {mg : Str → Option Value} {base : Heap}
theorem RunQ.len {r d f : List Rat} (h : RunQ r d f) (hr : r.length ≤ 200) (hd : d.length ≤ 200) : f.length ≤ 200 := by
  induction h with
  | done => exact hr
  | @step r d f _ _ _ _ _ _ t s _ _ _ _ _ _ _ _ d0 td tt et _ _ _ _ ts es _ ih =>
    refine ih hd ?_
    have h1 : t.length ≤ (dit d (r.length + 1 - d.length) r).length := tr_le tt et
    have h2 : s.length ≤ t.length := by
      rcases Nat.lt_or_ge t.length s.length with lt | ge
      · have := ts (s.length - 1) (by omega)
        rw [es] at this
        unfold shf at this
        rw [cf_out (by omega), Rat.zero_mul] at this
        exact absurd rfl this
      · exact ge
    rw [dit_len] at h1
    omega
end
end Kz
set_option linter.all false
set_option maxRecDepth 100000
set_option maxHeartbeats 4000000
namespace Kz
open PySem PySem.Spec PyProof.Rows L2
theorem PolyAt.tr {K : PySem.W.Frag} {cP : Addr} {H : Hp} {v : V} {qs : List Rat} (h : PolyAt K cP H v qs) : Tr qs := by
  obtain ⟨_, _, _, _, _, _, _, _, t⟩ := h
  exact t
section
variable {P : Program} {w : World} {K : PySem.W.Frag} {mg : Str → Option Value} {base : Heap}
/-- the facts of built-in types for + and * -/
structure OpsT (K : PySem.W.Frag) : Prop where
  add : ∀ T, T = "int" ∨ T = "tuple" → OpT K .Add T
  sub : ∀ T, T = "int" ∨ T = "tuple" → OpT K .Sub T
  mul : ∀ T, T = "int" ∨ T = "tuple" → OpT K .Mult T
end
end Kz
set_option linter.all false
set_option maxRecDepth 100000
set_option maxHeartbeats 4000000
/-! enumerate over a tuple. -/
namespace PySem.W
open PySem PySem.Calls PyProof.Rows
theorem kz_enumNew {v : Value} {o : Obj} {G : Heap → Prop} (B : Begins v o G) :
    Meets (Builtin.«enumerate.__new__» ⟨[.type "enumerate", v], []⟩) (fun _ R s => G s.heap ∧
      R (.ok (.ret (.ref (s.heap.push o).objs.size))) { s with heap := (s.heap.push o).push { cls := .type "enumerate", data := .fields #[.none, .bool false, .ref s.heap.objs.size, rawInt 0, .none, .none] } }) :=
  .of_wp fun prog w A R s both => by
    obtain ⟨hq, gq, dq, tq, oq⟩ := s
    obtain ⟨stands, goal⟩ := both
    have isSub := sub_enumerate
    have first : ∀ {A' : Around} {E : Value → Shared → Prop} {Q : Value → Shared → Prop}, Q (.ref hq.objs.size) ⟨hq.push o, gq, dq, tq, oq⟩ → wpAny (model prog w) A' (pyIter v) Q E ⟨hq, gq, dq, tq, oq⟩ :=
      fun q => B.iter prog w _ _ ⟨hq, gq, dq, tq, oq⟩ _ stands q
    wp_walk using first
    refine wpAny_stack_any fun st => wpAny_pure ?_
    split
    · rename_i cl _ _ _ _ _
      cases (cl == Value.type "enumerate")
      · wp_walk using first
        exact ⟨_, rfl, goal⟩
      · wp_walk using first
        exact ⟨_, rfl, goal⟩
    · wp_walk using first
      exact ⟨_, rfl, goal⟩
section
variable {prog : Program} {w : World} {A : Around} {E : Value → Shared → Prop} {s : Shared}
theorem kz_enum {v : Value} {o : Obj} {G : Heap → Prop} {Q : Value → Shared → Prop} (B : Begins v o G) (stands : G s.heap)
    (h : ∀ h', IsEnum h' (s.heap.objs.size + 1) s.heap.objs.size 0 .none → h'.get? s.heap.objs.size = some o → h'.objs.size = s.heap.objs.size + 2 →
      (∀ b u, s.heap.get? b = some u → h'.get? b = some u) → Q (.ref (s.heap.objs.size + 1)) { s with heap := h' }) :
    wpAny (model prog w) A (call (.type "enumerate") [v]) Q E s := by
  refine callType_new PySem.F.called_enumerate (by decide) (PySem.F.typeCall_enumerate_1 _) (PySem.F.newCall_enumerate_1 _) (fun obj => PySem.F.args_object_init_2 obj _) PySem.F.entry_enumerate_new (kz_enumNew B) ⟨stands, ?_⟩
  have size : (s.heap.push o).objs.size = s.heap.objs.size + 1 := Heap.size_push ..
  show _ ∧ _
  rw [size]
  have made : IsEnum ((s.heap.push o).push { cls := .type "enumerate", data := .fields #[.none, .bool false, .ref s.heap.objs.size, rawInt 0, .none, .none] }) (s.heap.objs.size + 1) s.heap.objs.size 0 .none := by
    have z := Heap.get?_push_size (s.heap.push o) (o := { cls := .type "enumerate", data := .fields #[.none, .bool false, .ref s.heap.objs.size, rawInt 0, .none, .none] }) rfl
    rw [size] at z
    exact z
  exact ⟨⟨_, made, rfl⟩, h _ made (Heap.get?_push_of_some _ (Heap.get?_push_size _ B.free)) (by rw [Heap.size_push, size]) fun b u z => Heap.get?_push_of_some _ (Heap.get?_push_of_some _ z)⟩
end
end PySem.W
namespace Kz
open PySem PySem.Spec PyProof.Rows L2
/-- the tuple at a at each turn, each item in a new pair -/
def IteT (K : PySem.W.Frag) (a : Addr) : It :=
  ⟨fun i H => ∃ (xs : List V) (x : V), SqT K H a xs ∧ xs[i]? = some x, fun i H v H' => ∃ T x, v = .ref T ∧ H T = none ∧ H' = upd H T (.tup [.int (i : Nat), x]) ∧ ∀ xs, SqT K H a xs → xs[i]? = some x, fun i H => ∃ xs : List V, SqT K H a xs ∧ xs.length = i⟩
theorem tuple_inj {X : Cx} {pins : List (Addr × Obj)} {σ : L2.St} {H : Hp} {s : Shared} {a : Addr} {xs ys : List V} (I : Inv X pins σ H s) (hx : SqT X.K H a xs) (hy : SqT X.K H a ys) : xs = ys := by
  obtain ⟨its, r, ⟨o, ho, hc, n, hd⟩, _⟩ := I.tuple hx
  obtain ⟨its', r', ⟨o', ho', hc', n', hd'⟩, _⟩ := I.tuple hy
  rw [ho] at ho'
  cases ho'
  rw [hd] at hd'
  have : its = its' := by
    have z := (Data.seq.inj hd').1
    simpa using congrArg Array.toList z
  subst this
  exact Vals.inj r r'
theorem turn_enumT {P : Program} {w : World} {K : PySem.W.Frag} {elts : List Expr} {kk : Nat} {tpos : Pos} (a e it : Addr) :
    Turn P w K (.Tuple elts kk tpos) (IteT K a) [e, it] e (fun i h => (∃ old, IsEnum h e it ((i : Nat) : Int) old) ∧ h.IsTupleIter it a i ∧ e ≠ it ∧ a ≠ it ∧ a ≠ e) where
  mem := by simp
  obj := fun i h st b hb => by
    obtain ⟨⟨old, he⟩, ⟨o, ho, hc, hd⟩, _⟩ := st
    rcases (show b = e ∨ b = it by simpa using hb) with z | z
    · rw [z]
      exact ⟨_, he, fun v q => nomatch q⟩
    · rw [z]
      exact ⟨o, ho, fun v q => by rw [hd] at q; cases q⟩
  keep := fun i h h' st k => by
    obtain ⟨⟨old, he⟩, hi, r⟩ := st
    exact ⟨⟨old, k e (by simp) _ he⟩, hi.at fun o q => k it (by simp) o q, r⟩
  item := by
    intro X hP hw hK hc i pins s σ H E I hf st hg
    subst hP hw hK
    obtain ⟨⟨old, he⟩, hit, hne, ha, hae⟩ := st
    obtain ⟨xs, x, hq, hx⟩ := hg
    obtain ⟨its, rv, p, hz⟩ := I.tuple hq
    obtain ⟨u, hu, ru⟩ := rv.get hx
    have hel : e < s.heap.objs.size := Heap.lt_size he
    have hil : it < s.heap.objs.size := by
      obtain ⟨_, q, _⟩ := hit
      exact Heap.lt_size q
    have isT : s.heap.IsTuple a its.toArray := p
    have lt : i < its.toArray.size := by
      have := (List.getElem?_eq_some_iff.mp hu).1
      simpa using this
    have hef : a ∉ ([] : List Addr) := by simp
    refine wpAny_pyNext_enum_itemD (Draws.tuple (prog := X.prog) (w := X.w) (A := X.A.in1) (I.ok.hd hc) it a ha its.toArray) he ⟨hit, isT⟩ lt hne (fun m => by rcases List.mem_cons.mp m with z | z; exact hne z; exact hae.symm (by simpa using z)) fun u' h' tk eu ho st' hT hsz hk => ?_
    have eq : u' = u := by
      have z : its.toArray[i]? = some u := by simpa using hu
      rw [z] at eu
      exact (Option.some.inj eu).symm
    subst eq
    refine ⟨_, rfl, wpAny_letOwnedTupleGo_enum (s := { s with heap := h', toks := tk + 1 }) ho fun h'' he' sb => ?_⟩
    have hT2 : h''.get? s.heap.objs.size = some { cls := .type "tuple", data := .seq #[.int i tk, u'] } := (sb.2 _ (Nat.ne_of_gt hel)).trans hT
    have new : ObjOk X.prog X.w (upd H s.heap.objs.size (.tup [.int (i : Nat), x])) h'' s.heap.objs.size (.tup [.int (i : Nat), x]) :=
      ⟨by show 2 ≤ sizeLine; decide, [.int i tk, u'], .cons ⟨_, rfl⟩ (.cons ru .nil), ⟨_, hT2, rfl, _, rfl⟩⟩
    have I1 : Inv X pins σ (upd H s.heap.objs.size (.tup [.int (i : Nat), x])) { s with heap := h'', toks := tk + 1 } :=
      I.turnedNew (ch := [e, it]) (fun b ob hb q => (sb.2 b (fun z => hb (by simp [z]))).trans (hk b ob (fun z => hb (by simp [z])) (fun z => hb (by simp [z])) q)) hf (Nat.le_refl _) new
    refine ⟨.ref s.heap.objs.size, _, I1, rfl, ⟨_, x, rfl, I.hok.fresh (Nat.le_refl _), rfl, fun ys hy => by rw [tuple_inj I hy hq]; exact hx⟩, ⟨⟨u', ?_⟩, st'.1.at fun o q => (sb.2 it (Ne.symm hne)).trans q, hne, ha, hae⟩, fun b hb => ?_⟩
    · have e1 : ((i + 1 : Nat) : Int) = (i : Int) + 1 := by omega
      rw [e1]
      exact he'
    · have hb' : b < s.heap.objs.size := by
        rcases (show b = e ∨ b = it by simpa using hb) with z | z
        · rw [z]
          exact hel
        · rw [z]
          exact hil
      rw [upd_ne (Nat.ne_of_lt hb')]
      exact (hf b hb).1
  done := by
    intro X hP hw hK hc i pins s σ H E I hf st hg
    subst hP hw hK
    obtain ⟨⟨old, he⟩, hit, hne, ha, hae⟩ := st
    obtain ⟨xs, hq, hx⟩ := hg
    obtain ⟨its, rv, p, hz⟩ := I.tuple hq
    obtain ⟨f0, f1, f2, f3, f4, f5⟩ := hf it (by simp)
    have len := rv.length
    have isT : s.heap.IsTuple a its.toArray := p
    have ei : i = its.toArray.size := by
      rw [List.size_toArray]
      omega
    subst ei
    exact wpAny_pyNext_enum_endD (Draws.tuple (prog := X.prog) (w := X.w) (A := X.A.in1) (I.ok.hd hc) it a ha its.toArray) he ⟨hit, isT⟩ fun h' eb => ⟨rfl, I.turned (t' := s.toks) (fun b o hb q => eb b o hb q) f0 f1 f3 f4 f5⟩
  self := fun A i s Q E st h => let ⟨⟨_, he⟩, _⟩ := st; wpAny_pyIter_enum he h
def iEnumT (K : PySem.W.Frag) (ta : TA) : TI := fun σ H R => ta σ H fun vs H1 => ∃ a xs, vs = [.ref a] ∧ SqT K H1 a xs ∧ R (IteT K a) H1
theorem pi_enumT {X : Cx} {e : Expr} {ta : TA} {p pos tpos : Pos} {elts : List Expr} {kk : Nat} (hg : Gl X "enumerate") (hm : X.mg "enumerate" = none) (ha : PA X [e] ta) (hs : starEach [e] X.env = [(false, eval e X.env)] := by rfl) :
    PI X (.Tuple elts kk tpos) (.Call (.Name "enumerate" p) [e] [] pos) (iEnumT X.K ta) := by
  refine ⟨fun pins s σ H R I h => ?_⟩
  refine Call_ (ld_blt I hg hm boot_enumerate (PyProof.Rows.callWith_type1 (thn (ha.run pos pins s σ H _ I h) fun us s1 ⟨vs, H1, I1, r1, q1⟩ => ?_) hs rfl))
  obtain ⟨a, xs, ex, hq, q⟩ := q1
  subst ex
  obtain ⟨u, rfl, r⟩ := Vals.one r1
  cases (show u = Value.ref a from r)
  obtain ⟨its, rv, p', hz⟩ := I1.tuple hq
  have isT : s1.heap.IsTuple a its.toArray := p'
  have la : a < s1.heap.objs.size := by
    obtain ⟨o, ho, _⟩ := isT
    exact Heap.lt_size ho
  refine PySem.W.kz_enum (begins_tuple a its.toArray) isT fun h' he hit hsz hk => wpAny_pyIter_enum he ?_
  have I2 : Inv X pins σ H1 { s1 with heap := h' } := I1.kept (t' := s1.toks) hk
  refine ⟨s1.heap.objs.size + 1, [s1.heap.objs.size + 1, s1.heap.objs.size], _, _, H1, rfl, I2, turn_enumT a (s1.heap.objs.size + 1) s1.heap.objs.size, ⟨⟨.none, he⟩, ⟨_, hit, rfl, rfl⟩, Nat.succ_ne_self _, Nat.ne_of_lt la, Nat.ne_of_lt (Nat.lt_succ_of_lt la)⟩, fun b hb => ?_, q⟩
  have hle : s1.heap.objs.size ≤ b := by
    rcases (show b = s1.heap.objs.size + 1 ∨ b = s1.heap.objs.size by simpa using hb) with z | z
    · rw [z]
      exact Nat.le_add_right _ _
    · rw [z]
      exact Nat.le_refl _
  exact I1.fpOk hle (I1.hok.fresh hle)
end Kz
set_option linter.all false
set_option maxRecDepth 100000
set_option maxHeartbeats 4000000
namespace Kz
open PySem PySem.Spec PyProof.Rows L2
theorem cut_drop {vs : List V} : cutV vs (some 1) none = vs.drop 1 := by
  unfold cutV
  rw [HT.sIx_none]
  have e : HT.sIx vs.length 0 (some 1) = min 1 vs.length := rfl
  rw [e]
  rcases Nat.eq_zero_or_pos vs.length with z | z
  · have : vs = [] := List.length_eq_zero_iff.mp z
    subst this
    rfl
  · rw [Nat.min_eq_left z]
    exact List.take_of_length_le (by rw [List.length_drop]; exact Nat.le_refl _)
theorem Al.drop {K : PySem.W.Frag} {H : Hp} {vs : List V} {qs : List Rat} (h : Al K H vs qs) (k : Nat) : Al K H (vs.drop k) (qs.drop k) := by
  refine ⟨by simp [h.1], fun i v' q' a b => ?_⟩
  rw [List.getElem?_drop] at a b
  exact h.2 _ _ _ a b
section
variable {P : Program} {w : World} {K : PySem.W.Frag} {mg : Str → Option Value} {base : Heap}
end
end Kz
set_option linter.all false
set_option maxRecDepth 100000
set_option maxHeartbeats 4000000
namespace Kz
open PySem PySem.Spec PyProof.Rows L2
theorem eqv_pdQ (a b : Rat) : PyData.eqv (pdQ a) (pdQ b) = decide (a = b) := by
  have e : PyData.eqv (pdQ a) (pdQ b) = ((a.num == b.num) && (((a.den : Int) == (b.den : Int)) && true)) := by
    simp [pdQ, PyData.eqv, PyData.eqvAll]
  rw [e, Bool.and_true, Bool.eq_iff_iff, Bool.and_eq_true, beq_iff_eq, beq_iff_eq, decide_eq_true_iff]
  exact ⟨fun h => Rat.ext h.1 (Int.ofNat.inj h.2), fun h => by rw [h]; exact ⟨rfl, rfl⟩⟩
theorem eqv_row : ∀ qs ts : List Rat, PyData.eqvAll (qs.map pdQ) (ts.map pdQ) = decide (qs = ts)
  | [], [] => by simp [PyData.eqvAll]
  | [], _ :: _ => by simp [PyData.eqvAll]
  | _ :: _, [] => by simp [PyData.eqvAll]
  | q :: qs, t :: ts => by
    have e : PyData.eqvAll ((q :: qs).map pdQ) ((t :: ts).map pdQ) = (PyData.eqv (pdQ q) (pdQ t) && PyData.eqvAll (qs.map pdQ) (ts.map pdQ)) := by
      simp [PyData.eqvAll]
    rw [e, eqv_pdQ, eqv_row qs ts, Bool.eq_iff_iff, Bool.and_eq_true, decide_eq_true_iff, decide_eq_true_iff, decide_eq_true_iff, List.cons.injEq]
section
variable {P : Program} {w : World} {K : PySem.W.Frag} {mg : Str → Option Value} {base : Heap}
end
end Kz
set_option linter.all false
set_option maxRecDepth 100000
set_option maxHeartbeats 4000000
namespace Kz
open PySem PySem.Spec PyProof.Rows L2
section
variable {X : Cx} {P : Program} {w : World} {K : PySem.W.Frag} {mg : Str → Option Value} {base : Heap} {k : Nat} {q : Str} {stt : Stmt} {sp : Sp}
end
section
variable {X : Cx} {P : Program} {w : World} {K : PySem.W.Frag} {mg : Str → Option Value} {base : Heap}
end
end Kz
set_option linter.all false
set_option maxRecDepth 100000
set_option maxHeartbeats 4000000
namespace Kz
open PySem PySem.Spec PyProof.Rows L2
/-- .. and all the law's other defs -/
structure Tu (P : Program) (K : PySem.W.Frag) (mg : Str → Option Value) extends Tv P K mg where
  l_pen : Df K mg "_law_pen" (top 54) ["_law_script"]
  l_draw : Df K mg "_law_draw" (top 55) ["_law_pen_here", "_law_many"]
  l_pick : Df K mg "_law_pick" (top 56) ["_law_pen_here", "_law_some"]
  l_passed : Df K mg "_law_passed" (top 63) ["_law_pen_here", "_law_ratio_here"]
  l_ratio : Df K mg "_law_ratio" (top 64) ["_law_pen_here", "_law_most"]
  nbN : cN ≠ B
  nbR : cR ≠ B
  neRN : cR ≠ cN

/-! ### what a draw leaves as it is -/
section
variable {K : PySem.W.Frag} {H H' : Hp} {p c : Addr} {n : Nat}
theorem Pen.seqT {a : Addr} {xs : List V} (b : But p H H') (pen : Pen H p c n) (h : SqT K H a xs) : SqT K H' a xs := by
  obtain ⟨ns, i, d, m, f, e1, _⟩ := pen
  rcases h with (h | ⟨o, h⟩) | h
  · exact .inl (.inl (b _ _ h (ne_of h e1 (fun z => nomatch z))))
  · exact .inl (.inr ⟨o, b _ _ h (ne_of h e1 (fun z => nomatch z))⟩)
  · exact .inr h
theorem Pen.seqL {a : Addr} {xs : List V} (b : But p H H') (pen : Pen H p c n) (h : SqL K H a xs) : SqL K H' a xs := by
  obtain ⟨ns, i, d, m, f, e1, _⟩ := pen
  rcases h with (h | ⟨o, h⟩) | h
  · exact .inl (.inl (b _ _ h (ne_of h e1 (fun z => nomatch z))))
  · exact .inl (.inr ⟨o, b _ _ h (ne_of h e1 (fun z => nomatch z))⟩)
  · exact .inr h
theorem Pen.sq {a : Addr} {xs : List V} (b : But p H H') (pen : Pen H p c n) (h : Sq K H a xs) : Sq K H' a xs := h.elim (fun h => .inl (pen.seqL b h)) fun h => .inr (pen.seqT b h)
theorem Pen.lst {a : Addr} {xs : List V} (b : But p H H') (pen : Pen H p c n) (h : H a = some (.lst xs)) : H' a = some (.lst xs) := by
  obtain ⟨ns, i, d, m, f, e1, _⟩ := pen
  exact b _ _ h (ne_of h e1 (fun z => nomatch z))
theorem Pen.rv {v : V} {q : Rat} (b : But p H H') (pen : Pen H p c n) (h : RV K H v q) : RV K H' v q := by
  obtain ⟨t, e, h⟩ := h
  exact ⟨t, e, pen.seqT b h⟩
theorem Pen.arg {v : V} {x y : Int} (b : But p H H') (pen : Pen H p c n) (h : Arg K H v x y) : Arg K H' v x y := by
  cases h with
  | int => exact .int
  | two h z => exact .two (pen.sq b h) z
theorem Pen.argQ {v : V} {x y : Nat} {q : Rat} (b : But p H H') (pen : Pen H p c n) (h : ArgQ K H v x y q) : ArgQ K H' v x y q := by
  obtain ⟨s, t, h, r⟩ := h
  exact ⟨s, t, pen.arg b h, r⟩
theorem Pen.al {vs : List V} {qs : List Rat} (b : But p H H') (pen : Pen H p c n) (h : Al K H vs qs) : Al K H' vs qs := ⟨h.1, fun i v q e1 e2 => pen.rv b (h.2 i v q e1 e2)⟩
theorem Pen.alA {vs : List V} {x y : Nat} {qs : List Rat} (b : But p H H') (pen : Pen H p c n) (h : AlA K H vs x y qs) : AlA K H' vs x y qs := ⟨h.1, fun i v q e1 e2 => pen.argQ b (h.2 i v q e1 e2)⟩
theorem Pen.lr {v : V} {qs : List Rat} (b : But p H H') (pen : Pen H p c n) (h : LR K H v qs) : LR K H' v qs := by
  obtain ⟨l, vs, e, hl, al⟩ := h
  exact ⟨l, vs, e, pen.lst b hl, pen.al b al⟩
theorem Pen.poly {cP : Addr} {v : V} {qs : List Rat} (b : But p H H') (pen : Pen H p c n) (h : PolyAt K cP H v qs) : PolyAt K cP H' v qs := by
  obtain ⟨a, dx, t, ws, e, ha, ht, al, tr⟩ := h
  have ea : H' a = some (.ins cP dx [("numbers", .ref t)]) := by
    obtain ⟨ns, i, d, m, f, e1, _⟩ := pen
    exact b _ _ ha (ne_of ha e1 (fun z => nomatch z))
  exact ⟨a, dx, t, ws, e, ea, pen.seqT b ht, pen.al b al, tr⟩
/-- all stands as before but what is at p and the tables of code objects -/
def ButN (p : Addr) (H H' : Hp) : Prop := ∀ b o, H b = some o → b ≠ p → (∀ ps, o ≠ .tbl ps) → H' b = some o
theorem But.toN (b : But p H H') : ButN p H H' := fun a o e n _ => b a o e n
theorem ButN.trans {H1 H2 H3 : Hp} {p : Addr} (a : ButN p H1 H2) (b : ButN p H2 H3) : ButN p H1 H3 := fun c o e n t => b c o (a c o e n t) n t
/-- the heap without what is at p, and without tables -/
def cl (p : Addr) (H : Hp) : Hp := fun b => if b = p then none else match H b with
  | some (.tbl _) => none
  | o => o
theorem cl_some {b : Addr} {o : HO} (e : cl p H b = some o) : b ≠ p ∧ H b = some o ∧ ∀ ps, o ≠ .tbl ps := by
  unfold cl at e
  by_cases n : b = p
  · rw [if_pos n] at e
    cases e
  · rw [if_neg n] at e
    cases h : H b with
    | none =>
      rw [h] at e
      cases e
    | some u =>
      rw [h] at e
      cases u with
      | tbl ps => cases e
      | _ =>
        cases e
        exact ⟨n, rfl, fun ps z => nomatch z⟩
theorem cl_at {b : Addr} {o : HO} (n : b ≠ p) (e : H b = some o) (t : ∀ ps, o ≠ .tbl ps) : cl p H b = some o := by
  unfold cl
  rw [if_neg n, e]
  cases o with
  | tbl ps => exact absurd rfl (t ps)
  | _ => rfl
theorem ButN.cl (b : ButN p H H') : Same (cl p H) (cl p H') := fun a o e => by
  obtain ⟨n, e, t⟩ := cl_some e
  exact cl_at n (b a o e n t) t
theorem But.cl (b : But p H H') : Same (cl p H) (cl p H') := b.toN.cl
theorem cl_sub : Same (Kz.cl p H) H := fun _ _ e => (cl_some e).2.1
/-- what is told of the heap, without p and tables -/
theorem Pen.cT {a : Addr} {xs : List V} (pen : Pen H p c n) (h : SqT K H a xs) : SqT K (Kz.cl p H) a xs := by
  obtain ⟨ns, i, d, m, f, e1, _⟩ := pen
  rcases h with (h | ⟨o, h⟩) | h
  · exact .inl (.inl (cl_at (ne_of h e1 (fun z => nomatch z)) h fun _ z => nomatch z))
  · exact .inl (.inr ⟨o, cl_at (ne_of h e1 (fun z => nomatch z)) h fun _ z => nomatch z⟩)
  · exact .inr h
theorem Pen.cL {a : Addr} {xs : List V} (pen : Pen H p c n) (h : SqL K H a xs) : SqL K (Kz.cl p H) a xs := by
  obtain ⟨ns, i, d, m, f, e1, _⟩ := pen
  rcases h with (h | ⟨o, h⟩) | h
  · exact .inl (.inl (cl_at (ne_of h e1 (fun z => nomatch z)) h fun _ z => nomatch z))
  · exact .inl (.inr ⟨o, cl_at (ne_of h e1 (fun z => nomatch z)) h fun _ z => nomatch z⟩)
  · exact .inr h
theorem Pen.cS {a : Addr} {xs : List V} (pen : Pen H p c n) (h : Sq K H a xs) : Sq K (Kz.cl p H) a xs := h.elim (fun h => .inl (pen.cL h)) fun h => .inr (pen.cT h)
theorem Pen.cRv {v : V} {q : Rat} (pen : Pen H p c n) (h : RV K H v q) : RV K (Kz.cl p H) v q := by
  obtain ⟨t, e, h⟩ := h
  exact ⟨t, e, pen.cT h⟩
theorem Pen.cAl {vs : List V} {qs : List Rat} (pen : Pen H p c n) (h : Al K H vs qs) : Al K (Kz.cl p H) vs qs := ⟨h.1, fun i v q e1 e2 => pen.cRv (h.2 i v q e1 e2)⟩
theorem Pen.cHas {a : Addr} {o : HO} (pen : Pen H p c n) (h : H a = some o) (nd : ∀ kvs, o ≠ .dK kvs) (nt : ∀ ps, o ≠ .tbl ps) : Kz.cl p H a = some o := by
  obtain ⟨ns, i, d, m, f, e1, _⟩ := pen
  exact cl_at (ne_of h e1 (nd _)) h nt
theorem Pen.cLr {v : V} {qs : List Rat} (pen : Pen H p c n) (h : LR K H v qs) : LR K (Kz.cl p H) v qs := by
  obtain ⟨l, vs, e, hl, al⟩ := h
  exact ⟨l, vs, e, pen.cHas hl (fun _ z => nomatch z) (fun _ z => nomatch z), pen.cAl al⟩
theorem Pen.cPoly {cP : Addr} {v : V} {qs : List Rat} (pen : Pen H p c n) (h : PolyAt K cP H v qs) : PolyAt K cP (Kz.cl p H) v qs := by
  obtain ⟨a, dx, t, ws, e, ha, ht, al, tr⟩ := h
  exact ⟨a, dx, t, ws, e, pen.cHas ha (fun _ z => nomatch z) (fun _ z => nomatch z), pen.cT ht, pen.cAl al, tr⟩
theorem But.ofSame (s : Same H H') : But p H H' := fun b o e _ => s b o e
theorem But.del (b : But p H H') : Same (del H p) (del H' p) := fun a o e => by
  by_cases n : a = p
  · rw [n, del_same] at e
    cases e
  · rw [del_ne n] at e ⊢
    exact b a o e n
end
section
variable {P : Program} {w : World} {K : PySem.W.Frag} {mg : Str → Option Value} {base : Heap}
theorem ok_lpen (T : Tu P K mg) : FnOk P w K mg base CX0 1 T.l_pen.f T.l_pen.fd ["_law_script"] (spPen K) := ok_pen T.l_pen.fn T.blt
theorem ok_ldraw (T : Tu P K mg) : FnOk P w K mg base CX0 1 T.l_draw.f T.l_draw.fd ["_law_pen_here", "_law_many"] spDraw := ok_draw T.l_draw.fn T.blt
theorem ok_lpick (T : Tu P K mg) : FnOk P w K mg base CX0 2 T.l_pick.f T.l_pick.fd ["_law_pen_here", "_law_some"] spPick := ok_pick T.l_pick.fn T.blt T.l_draw.fn T.l_draw.g T.l_draw.b
end
end Kz
set_option linter.all false
set_option maxRecDepth 100000
set_option maxHeartbeats 4000000
namespace Kz
open PySem PySem.Spec PyProof.Rows L2
section
variable {P : Program} {w : World} {K : PySem.W.Frag} {mg : Str → Option Value} {base : Heap}
theorem small_two {f : List PyData → PyData} (hf : f = .list ∨ f = .tuple) {a b : Int} (ha : a.natAbs.log2 < 1920) (hb : b.natAbs.log2 < 1920) : Small (f [.int a, .int b]) := by
  have sa := small_int ha
  have sb := small_int hb
  have a1 := sa.sh
  have b1 := sb.sh
  have a3 := sa.lv
  have b3 := sb.lv
  rcases hf with rfl | rfl
  · refine ⟨?_, ?_, ?_, ?_⟩
    · simp only [PyData.showable, PyData.showableAll, Bool.and_true] at a1 b1 ⊢
      rw [a1, b1]
      rfl
    · simp only [PyData.depth, PyData.depthAll]
      decide
    · simp only [PyData.leavesShort, PyData.leavesShortAll, Bool.and_true] at a3 b3 ⊢
      rw [a3, b3]
      rfl
    · simp only [PyData.bulk, PyData.bulkAll]
      decide
  · refine ⟨?_, ?_, ?_, ?_⟩
    · simp only [PyData.showable, PyData.showableAll, Bool.and_true] at a1 b1 ⊢
      rw [a1, b1]
      rfl
    · simp only [PyData.depth, PyData.depthAll]
      decide
    · simp only [PyData.leavesShort, PyData.leavesShortAll, Bool.and_true] at a3 b3 ⊢
      rw [a3, b3]
      rfl
    · simp only [PyData.bulk, PyData.bulkAll]
      decide
theorem log_lt {a : Int} {n : Nat} (h : a.natAbs < 2 ^ n) (l : n ≤ 1900) : a.natAbs.log2 < 1920 := by
  by_cases e : a.natAbs = 0
  · rw [e]
    decide
  · have := (Nat.log2_lt e).mpr h
    omega
/-- a ratio, passed in any way -/
def spPassed (K : PySem.W.Frag) : Sp := fun vs H Q _ => ∃ (p c : Addr) (n : Nat) (v : V) (q : Rat) (i j : Nat), vs = [.ref p, v] ∧ Pen H p c n ∧ n ≤ 900000 ∧ RV K H v q ∧ Sz i j q ∧ 0 < i ∧ 0 < j ∧ i ≤ 1800 ∧ j ≤ 1800 ∧
  ∀ u H', Pen H' p c (n + 3) → But p H H' → ArgQ K H' u (i + 2) (j + 2) q → Good K (cl p H') u → (∀ a, u = .ref a → H a = none) → Q u H'
theorem But.gone {p c a : Addr} {n : Nat} {H H' : Hp} (b : But p H H') (pen : Pen H' p c n) (h : H' a = none) : H a = none := by
  cases e : H a with
  | none => rfl
  | some o =>
    by_cases z : a = p
    · obtain ⟨ns, i, d, m, f, e1, _⟩ := pen
      rw [z, e1] at h
      cases h
    · rw [b a o e z] at h
      cases h
abbrev nPa : List Str := ["_law_pen_here", "_law_ratio_here", "_law_by"]
theorem sc46 : FnScope nPa ["_law_pen_here", "_law_ratio_here"] (defScope (top 63)) := ⟨rfl, rfl, rfl, by decide +kernel, rfl, by decide +kernel, by decide +kernel⟩
theorem ok_lpassed (T : Tu P K mg) : FnOk P w K mg base CX0 3 T.l_passed.f T.l_passed.fd ["_law_pen_here", "_law_ratio_here"] (spPassed K) := by
  have G1 : FnOk P w K mg base CX0 1 T.l_draw.f T.l_draw.fd ["_law_pen_here", "_law_many"] spDraw := ok_ldraw T
  have G2 : FnOk P w K mg base CX0 2 T.l_pick.f T.l_pick.fd ["_law_pen_here", "_law_some"] spPick := ok_lpick T
  refine T.l_passed.fn.ok sc46 (fun vs H Q E h => ?_) (fun cdv A outer s H vs Q E hr h => ?_)
  · obtain ⟨p, c, n, v, q, i, j, rfl, _⟩ := h
    rfl
  · obtain ⟨p, c, n, v, q, i, j, rfl, pen, hn, rv, zq, i0, j0, i1, j1, k⟩ := h
    have hr1 : Room 1 _ := hr.mono (by decide)
    refine ⟨_, C8.pss_cut (ps_if (PW.pt (pw_and (pt_cmpR op_eq (pe_ix ix_tup (pv 1) pe_int (fun _ _ => rfl)) pe_int (nomark _)) (pw_and1 (pt_cmpR op_eq (T.l_draw.c0 G1 hr1 (pa_cons (pv 0) (pa_cons pe_int pa_nil))) pe_int (nomark _)))))
        (pss_one (ps_ret (pe_ix ix_tup (pv 1) pe_int (fun _ _ => rfl)))) pss_nil)
      (pss_cons (ps_set (i := 2) sc46.nd rfl (.inl rfl) (T.l_pick.c0 G2 hr (pa_cons (pv 0) (pa_cons (pe_lst (pa_cons pe_int (pa_cons pe_int (pa_cons pe_int (pa_cons pe_int pa_nil))))) pa_nil))))
      (pss_one (ps_ret (T.l_pick.c0 G2 hr (pa_cons (pv 0) (pa_cons (pe_lst (pa_cons
        (pe_tup (pa_cons (pe_op op_mulW (pe_ix ix_tup (pv 1) pe_int (fun _ _ => rfl)) (pv 2)) (pa_cons (pe_op op_mulW (pe_ix ix_tup (pv 1) pe_int (fun _ _ => rfl)) (pv 2)) pa_nil)))
        (pa_cons (pe_lstN (pa_cons (pe_op op_mulW (pe_ix ix_tup (pv 1) pe_int (fun _ _ => rfl)) (pv 2)) (pa_cons (pe_op op_mulW (pe_ix ix_tup (pv 1) pe_int (fun _ _ => rfl)) (pv 2)) pa_nil))) pa_nil))) pa_nil)))))), ?_⟩
    obtain ⟨t, rfl, ht⟩ := rv
    have d0 := den_pos' q
    refine ⟨fun σ H' => σ = [some (.ref p), some (.ref t), none] ∧ ∃ m, m ≤ n + 1 ∧ Pen H' p c m ∧ But p H H', ?_, ?_⟩
    · refine ⟨_, rfl, _, _, _, _, rfl, rfl, ht, rfl, rfl, _, rfl, ?_⟩
      by_cases e1 : V.int (q.den : Int) = V.int 1
      · rw [decide_eq_true e1]
        refine iteT ⟨_, rfl, p, c, n, 2, rfl, pen, by omega, by decide, by decide, fun d H1 d0 d1 pen1 but1 => ?_⟩
        refine ⟨rfl, _, rfl, ?_⟩
        refine ite2 (fun _ => ?_) (fun _ => ⟨rfl, n + 1, Nat.le_refl _, pen1, but1⟩)
        refine ⟨_, rfl, _, _, _, _, rfl, rfl, pen.seqT but1 ht, rfl, ?_⟩
        have e1' : (q.den : Int) = 1 := V.int.inj e1
        refine k _ _ (pen1.more (by omega)) but1 ⟨q.num, 1, .int, ?_, up_lt zq.1 (by omega), ?_⟩ ⟨_, .int _, small_int (log_lt zq.1 (by omega))⟩ (fun _ z => nomatch z)
        · have := Rat.num_divInt_den q
          rw [e1'] at this
          exact this.symm
        · show (1 : Nat) < 2 ^ (j + 2)
          exact Nat.one_lt_two_pow (by omega)
      · rw [decide_eq_false e1]
        exact iteF (iteF ⟨rfl, n, by omega, pen, But.refl⟩)
    · rintro σ H1 ⟨rfl, m, hm, pen1, but1⟩
      have ht1 := pen.seqT but1 ht
      refine ⟨_, rfl, (by show 4 ≤ sizeLine; decide), fun l nl => ?_⟩
      refine ⟨p, c, l, m, _, rfl, pen1.new nl, by omega, upd_same, by decide, by decide, fun z v H2 hz pen2 but2 => ?_⟩
      have three : ∃ b : Int, v = .int b ∧ 0 < b ∧ b ≤ 3 := by
        have mem := mem_of_at hz
        simp only [List.mem_cons, List.not_mem_nil, or_false] at mem
        rcases mem with rfl | rfl | rfl | rfl
        · exact ⟨1, rfl, by decide, by decide⟩
        · exact ⟨1, rfl, by decide, by decide⟩
        · exact ⟨2, rfl, by decide, by decide⟩
        · exact ⟨3, rfl, by decide, by decide⟩
      obtain ⟨b, rfl, b0, b3⟩ := three
      have but02 : But p H H2 := (but1.trans (But.ofSame (Same.new nl))).trans but2
      have ht2 := pen.seqT but02 ht
      have bb : b.natAbs < 2 ^ 2 := by
        have : (2 : Nat) ^ 2 = 4 := by decide
        omega
      have w1 : (q.num * b).natAbs < 2 ^ (i + 2) := wide_lt zq.1 bb
      have w2 : ((q.den : Int) * b).natAbs < 2 ^ (j + 2) := wide_lt (den_abs zq) bb
      have c1 : CMulW q.num b := cmulW zq.1 bb (by omega)
      have c2 : CMulW (q.den : Int) b := cmulW (den_abs zq) bb (by omega)
      have pos : 0 < (q.den : Int) * b := Int.mul_pos d0 b0
      have eq : q = Rat.divInt (q.num * b) ((q.den : Int) * b) := by
        rw [Rat.divInt_mul_right (by omega), Rat.num_divInt_den]
      refine ⟨_, rfl, _, rfl, ?_⟩
      refine ⟨_, _, _, _, rfl, rfl, ht2, rfl, _, rfl, _, _, rfl, rfl, c1, _, rfl, _, _, _, _, rfl, rfl, ht2, rfl, _, rfl, _, _, rfl, rfl, c2, (by show 2 ≤ sizeLine; decide), fun a na => ?_⟩
      have s3 := Same.new (o := .tup [.int (q.num * b), .int ((q.den : Int) * b)]) na
      have e3 : upd H2 a (.tup [.int (q.num * b), .int ((q.den : Int) * b)]) a = some (.tup [.int (q.num * b), .int ((q.den : Int) * b)]) := upd_same
      have pen3 := pen2.same s3
      have but3 := but02.trans (.ofSame s3)
      generalize upd H2 a (.tup [.int (q.num * b), .int ((q.den : Int) * b)]) = H3 at s3 e3 pen3 but3
      have ht3 := Kz.Same.seqT s3 ht2
      refine ⟨_, rfl, _, _, _, _, rfl, rfl, ht3, rfl, _, rfl, _, _, rfl, rfl, c1, _, rfl, _, _, _, _, rfl, rfl, ht3, rfl, _, rfl, _, _, rfl, rfl, c2, (by show 2 ≤ sizeLine; decide), fun d nd nm => ?_⟩
      have s4 := Same.new (o := .lst [.int (q.num * b), .int ((q.den : Int) * b)]) nd
      have e4 : upd H3 d (.lst [.int (q.num * b), .int ((q.den : Int) * b)]) d = some (.lst [.int (q.num * b), .int ((q.den : Int) * b)]) := upd_same
      have pen4 := pen3.same s4
      have but4 := but3.trans (.ofSame s4)
      generalize upd H3 d (.lst [.int (q.num * b), .int ((q.den : Int) * b)]) = H4 at s4 e4 pen4 but4
      have e3' := s4 _ _ e3
      refine ⟨(by show 2 ≤ sizeLine; decide), fun g ng => ?_⟩
      have s5 := Same.new (o := .lst [.ref a, .ref d]) ng
      have pen5 := pen4.same s5
      have but5 := but4.trans (.ofSame s5)
      refine ⟨p, c, g, _, _, rfl, pen5, by omega, upd_same, (by show 0 < 2; decide), (by show 2 < 1000000; decide), fun y u H6 hy pen6 but6 => ?_⟩
      have e3'' := but6 _ _ (s5 _ _ e3') (pen5.off (s5 _ _ e3') fun _ z => nomatch z)
      have e4'' := pen5.lst but6 (s5 _ _ e4)
      have np : a ≠ p := pen5.off (s5 _ _ e3') fun _ z => nomatch z
      have npd : d ≠ p := pen5.off (s5 _ _ e4) fun _ z => nomatch z
      have l1 := log_lt w1 (by omega)
      have l2 := log_lt w2 (by omega)
      have but7 := but5.trans but6
      have pen7 : Pen H6 p c (n + 3) := pen6.more (by omega)
      have mem := mem_of_at hy
      simp only [List.mem_cons, List.not_mem_nil, or_false] at mem
      rcases mem with rfl | rfl
      · refine k _ _ pen7 but7 ⟨_, _, .two (.inr (SqT.of e3'')) pos, eq, w1, w2⟩ ⟨_, .tup (SqT.of (cl_at np e3'' fun _ z => nomatch z)) (.cons (.int _) (.cons (.int _) .nil)), small_two (.inr rfl) l1 l2⟩ (fun x z => by cases z; exact but02.gone pen2 na)
      · refine k _ _ pen7 but7 ⟨_, _, .two (.inl (SqL.of e4'')) pos, eq, w1, w2⟩ ⟨_, .lst (cl_at npd e4'' fun _ z => nomatch z) nm (.cons (.int _) (.cons (.int _) .nil)), small_two (.inl rfl) l1 l2⟩ (fun x z => by cases z; exact but3.gone pen3 nd)
/-- a ratio of a small bottom -/
def Rsm (m : Nat) (q : Rat) : Prop := q.den ≤ 99 ∧ q.num.natAbs ≤ m * q.den
theorem rsm_of {a b : Int} {m : Nat} (b0 : 0 < b) (b1 : b ≤ 99) (h : a.natAbs ≤ m * b.natAbs) : Rsm m (Rat.divInt a b) := by
  have g0 : 0 < Nat.gcd a.natAbs b.natAbs := Nat.gcd_pos_of_pos_right _ (by omega)
  have e1 := low_num (a := a) b0
  have e2 := low_den (a := a) b0
  have d1 : ((Nat.gcd a.natAbs b.natAbs : Nat) : Int) ∣ a := Int.ofNat_dvd_left.mpr (Nat.gcd_dvd_left _ _)
  have d2 : ((Nat.gcd a.natAbs b.natAbs : Nat) : Int) ∣ b := Int.ofNat_dvd_left.mpr (Nat.gcd_dvd_right _ _)
  rw [Int.fdiv_eq_ediv_of_nonneg _ (Int.natCast_nonneg _)] at e1 e2
  have f1 := Int.ediv_mul_cancel d1
  have f2 := Int.ediv_mul_cancel d2
  rw [e1] at f1
  rw [e2] at f2
  generalize Nat.gcd a.natAbs b.natAbs = g at g0 f1 f2
  generalize Rat.divInt a b = q at f1 f2
  have h1 : a.natAbs = q.num.natAbs * g := by
    rw [← f1, Int.natAbs_mul]
    rfl
  have h2 : b.natAbs = q.den * g := by
    rw [← f2, Int.natAbs_mul]
    rfl
  rw [h1, h2, ← Nat.mul_assoc] at h
  refine ⟨?_, Nat.le_of_mul_le_mul_right h g0⟩
  have : q.den * 1 ≤ q.den * g := Nat.mul_le_mul_left _ g0
  omega
theorem Rsm.sz {m : Nat} {q : Rat} (h : Rsm m q) (hm : m ≤ 9) : Sz 10 7 q := by
  have e1 : (2 : Nat) ^ 10 = 1024 := by decide
  have e2 : (2 : Nat) ^ 7 = 128 := by decide
  have : m * q.den ≤ 9 * 99 := Nat.mul_le_mul hm h.1
  have h1 := h.1
  have h2 := h.2
  constructor <;> omega
def spLrat (K : PySem.W.Frag) : Sp := fun vs H Q _ => ∃ (p c : Addr) (n m : Nat), vs = [.ref p, .int (m : Nat)] ∧ Pen H p c n ∧ n ≤ 900000 ∧ 0 < m ∧ m ≤ 9 ∧
  ∀ u H' q, Pen H' p c (n + 3) → But p H H' → RV K H' u q → Rsm m q → Q u H'
abbrev nRa : List Str := ["_law_pen_here", "_law_most", "_law_bottom"]
theorem sc47 : FnScope nRa ["_law_pen_here", "_law_most"] (defScope (top 64)) := ⟨rfl, rfl, rfl, by decide +kernel, rfl, by decide +kernel, by decide +kernel⟩
theorem ok_lratio (T : Tu P K mg) : FnOk P w K mg base CX0 3 T.l_ratio.f T.l_ratio.fd ["_law_pen_here", "_law_most"] (spLrat K) := by
  have G1 : FnOk P w K mg base CX0 1 T.l_draw.f T.l_draw.fd ["_law_pen_here", "_law_many"] spDraw := ok_ldraw T
  have G2 : FnOk P w K mg base CX0 2 T.l_pick.f T.l_pick.fd ["_law_pen_here", "_law_some"] spPick := ok_lpick T
  have G3 : FnOk P w K mg base CX0 2 T.l_q.f T.l_q.fd ["_law_top", "_law_bottom"] (spLq K) := ok_lq T.toTy
  refine T.l_ratio.fn.ok sc47 (fun vs H Q E h => ?_) (fun cdv A outer s H vs Q E hr h => ?_)
  · obtain ⟨p, c, n, m, rfl, _⟩ := h
    rfl
  · obtain ⟨p, c, n, m, rfl, pen, hn, m0, m9, k⟩ := h
    have hr1 : Room 1 _ := hr.mono (by decide)
    refine ⟨_, pss_cons (ps_set (i := 2) sc47.nd rfl (.inl rfl) (T.l_pick.c0 G2 hr (pa_cons (pv 0) (pa_cons (pe_lst (pa_cons pe_int (pa_cons pe_int (pa_cons pe_int (pa_cons pe_int (pa_cons pe_int (pa_cons pe_int (pa_cons
        (pe_op op_add pe_int (T.l_draw.c0 G1 hr1 (pa_cons (pv 0) (pa_cons pe_int pa_nil)))) pa_nil)))))))) pa_nil))))
      (pss_one (ps_ret (T.l_q.c0 G3 hr (pa_cons (pe_op op_sub (T.l_draw.c0 G1 hr1 (pa_cons (pv 0) (pa_cons (pe_op op_add (pe_op op_mulW (pe_op op_mulW pe_int (pv 1)) (pv 2)) pe_int) pa_nil))) (pe_op op_mulW (pv 1) (pv 2))) (pa_cons (pv 2) pa_nil))))), ?_⟩
    refine ⟨_, rfl, _, rfl, p, c, n, 99, rfl, pen, by omega, by decide, by decide, fun d H1 d0 d1 pen1 but1 => ?_⟩
    refine ⟨_, _, rfl, rfl, (by show 7 ≤ sizeLine; decide), fun l nl => ?_⟩
    have s2 := Same.new (o := .lst [.int 1, .int 1, .int 2, .int 3, .int 7, .int 10, .int (1 + d)]) nl
    refine ⟨p, c, l, n + 1, _, rfl, pen1.same s2, by omega, upd_same, (by show 0 < 7; decide), (by show 7 < 1000000; decide), fun j v H3 hj pen3 but3 => ?_⟩
    have small : ∃ b : Int, v = .int b ∧ 0 < b ∧ b ≤ 99 := by
      have mem := mem_of_at hj
      simp only [List.mem_cons, List.not_mem_nil, or_false] at mem
      rcases mem with rfl | rfl | rfl | rfl | rfl | rfl | rfl
      · exact ⟨1, rfl, by decide, by decide⟩
      · exact ⟨1, rfl, by decide, by decide⟩
      · exact ⟨2, rfl, by decide, by decide⟩
      · exact ⟨3, rfl, by decide, by decide⟩
      · exact ⟨7, rfl, by decide, by decide⟩
      · exact ⟨10, rfl, by decide, by decide⟩
      · exact ⟨_, rfl, by omega, by omega⟩
    obtain ⟨b, rfl, b0, b9⟩ := small
    have but03 := (but1.trans (.ofSame s2)).trans but3
    have e7 : (2 : Nat) ^ 7 = 128 := by decide
    have wb : b.natAbs < 2 ^ 7 := by omega
    have wm : ((m : Nat) : Int).natAbs < 2 ^ 7 := by omega
    have w2 : (2 * ((m : Nat) : Int)).natAbs < 2 ^ 7 := by omega
    have ub : ((m : Nat) : Int) * b ≤ 9 * 99 := Int.mul_le_mul (by omega) b9 (by omega) (by decide)
    have lb : 0 < ((m : Nat) : Int) * b := Int.mul_pos (by omega) b0
    have e2 : 2 * ((m : Nat) : Int) * b = 2 * (((m : Nat) : Int) * b) := Int.mul_assoc _ _ _
    refine ⟨_, rfl, _, rfl, _, _, rfl, rfl, cmulW (a := 7) (b := 7) (by decide) wm (by decide), _, rfl, _, _, rfl, rfl, cmulW w2 wb (by decide), _, _, rfl, rfl, p, c, n + 1 + 1, _, rfl, pen3, by omega, ?_, ?_, fun z H4 z0 z1 pen4 but4 => ?_⟩
    · show 0 < 2 * ((m : Nat) : Int) * b + 1
      omega
    · show 2 * ((m : Nat) : Int) * b + 1 < 1073741824
      omega
    have z1' : z < 2 * ((m : Nat) : Int) * b + 1 := z1
    refine ⟨_, rfl, _, rfl, _, _, rfl, rfl, cmulW wm wb (by decide), _, _, rfl, rfl, _, rfl, _, _, rfl, by omega, up_lt wb (by decide), fun u H5 s5 rv => k u H5 _ ((pen4.same s5).more (by omega)) ((but03.trans but4).trans (.ofSame s5)) rv (rsm_of b0 b9 ?_)⟩
    have e3 : (m * b.natAbs : Nat) = (((m : Nat) : Int) * b).natAbs := by
      rw [Int.natAbs_mul]
      rfl
    rw [e3]
    show (z - ((m : Nat) : Int) * b).natAbs ≤ _
    omega
end
end Kz
set_option linter.all false
set_option maxRecDepth 100000
set_option maxHeartbeats 4000000
namespace Kz
open PySem PySem.Spec PyProof.Rows L2
/-! ### a comprehension that draws -/
section
variable {K : PySem.W.Frag} {a : Addr} {xs : List V} {g : TG} {te : TE} {vs : List Nat} {σ : L2.St} {H1 : Hp} {D p c : Addr} {n0 : Nat} {Qd : Hp → Prop}
abbrev StepBut (p D : Addr) (g : TG) (te : TE) (vs : List Nat) (σ : L2.St) (H1 : Hp) (R : Nat → List V → Hp → Prop) (i : Nat) (x : V) : Prop :=
  ∀ (acc : List V) (H' : Hp) (Qk : VK) (Z : Hp → Prop), acc.length = i → R i acc H' → But p H1 H' → H' D = some (.lst acc) → (∀ y H4, But p H' H4 → R (i + 1) (acc ++ [y]) H4 → Qk y H4) →
    g x (wipe σ vs) H' fun σ2 H2 => wipe σ2 vs = wipe σ vs ∧ tYes σ2 H2 fun b H3 => if b = true then te σ2 H3 Qk else Z H3
theorem lc_mapRP {lo : Int} {n : Nat} (len : n ≤ 1000) (hD : H1 D = none) (np : D ≠ p) (R : Nat → List V → Hp → Prop) (br : Bears D R) (h0 : R 0 [] H1) (step : ∀ i, i < n → StepBut p D g te vs σ H1 R i (.int (lo + i)))
    (fin : ∀ acc H', H' D = some (.lst acc) → acc.length = n → R n acc H' → But p H1 H' → Qd H') : ∃ W : Nat → Nat → Hp → Prop, (∃ m, W 0 m (upd H1 D (.lst []))) ∧ ∀ i m H, W i m H →
      ((Itr lo n).stop i H ∧ Qd H) ∨ ((Itr lo n).go i H ∧ ∃ Nx : Hp → Prop, (∀ H', Nx H' → ∃ m', m' < m ∧ W (i + 1) m' H') ∧ ∀ x H', (Itr lo n).yld i H x H' → g x (wipe σ vs) H' fun σ2 H2 => wipe σ2 vs = wipe σ vs ∧ tYes σ2 H2 fun b H3 =>
        if b = true then te σ2 H3 fun y H4 => ∃ acc, H4 D = some (.lst acc) ∧ acc.length < sizeLine ∧ Nx (upd H4 D (.lst (acc ++ [y]))) else Nx H3) := by
  refine lc_range (fun i H' => ∃ acc, H' D = some (.lst acc) ∧ acc.length = i ∧ i ≤ n ∧ R i acc H' ∧ But p H1 H') ⟨[], upd_same, rfl, Nat.zero_le _, br _ _ _ _ (fun o e => by rw [hD] at e; cases e) (But.refl.set) h0, But.refl.new hD⟩
    ?_ fun H' ⟨acc, e, l, _, r, s⟩ => fin acc H' e l r s
  rintro i H' lt ⟨acc, e, l, le, r, s⟩
  refine step i lt acc H' _ _ l r s e fun y H4 s4 r4 => ⟨acc, s4 _ _ e np, le1000 (by omega), acc ++ [y], upd_same, by simp [l], lt, br _ _ _ _ (fun o e4 => ?_) But.refl.set r4, fun c u ec nc => ?_⟩
  · rw [s4 _ _ e np] at e4
    cases e4
    exact ⟨_, rfl⟩
  · rw [upd_ne (ne_of_none ec hD)]
    exact s4 _ _ (s _ _ ec nc) nc
theorem lc_mapLP (pen : Pen H1 p c n0) (hl : SqL K H1 a xs) (len : xs.length ≤ 1000) (hD : H1 D = none) (np : D ≠ p) (R : Nat → List V → Hp → Prop) (br : Bears D R) (h0 : R 0 [] H1) (step : ∀ i x, xs[i]? = some x → StepBut p D g te vs σ H1 R i x)
    (fin : ∀ acc H', H' D = some (.lst acc) → acc.length = xs.length → R xs.length acc H' → But p H1 H' → Qd H') : ∃ W : Nat → Nat → Hp → Prop, (∃ m, W 0 m (upd H1 D (.lst []))) ∧ ∀ i m H, W i m H →
      ((Itl K a).stop i H ∧ Qd H) ∨ ((Itl K a).go i H ∧ ∃ Nx : Hp → Prop, (∀ H', Nx H' → ∃ m', m' < m ∧ W (i + 1) m' H') ∧ ∀ x H', (Itl K a).yld i H x H' → g x (wipe σ vs) H' fun σ2 H2 => wipe σ2 vs = wipe σ vs ∧ tYes σ2 H2 fun b H3 =>
        if b = true then te σ2 H3 fun y H4 => ∃ acc, H4 D = some (.lst acc) ∧ acc.length < sizeLine ∧ Nx (upd H4 D (.lst (acc ++ [y]))) else Nx H3) := by
  refine lc_list (fun i H' => ∃ acc, H' D = some (.lst acc) ∧ acc.length = i ∧ i ≤ xs.length ∧ R i acc H' ∧ But p H1 H') ⟨[], upd_same, rfl, Nat.zero_le _, br _ _ _ _ (fun o e => by rw [hD] at e; cases e) (But.refl.set) h0, But.refl.new hD⟩
    (fun i H' _ ⟨acc, _, _, _, _, s⟩ => pen.seqL s hl) ?_ fun H' ⟨acc, e, l, _, r, s⟩ => fin acc H' e l r s
  rintro i x H' hx ⟨acc, e, l, le, r, s⟩
  have lt : i < xs.length := (List.getElem?_eq_some_iff.mp hx).1
  refine step i x hx acc H' _ _ l r s e fun y H4 s4 r4 => ⟨acc, s4 _ _ e np, le1000 (by omega), acc ++ [y], upd_same, by simp [l], lt, br _ _ _ _ (fun o e4 => ?_) But.refl.set r4, fun c u ec nc => ?_⟩
  · rw [s4 _ _ e np] at e4
    cases e4
    exact ⟨_, rfl⟩
  · rw [upd_ne (ne_of_none ec hD)]
    exact s4 _ _ (s _ _ ec nc) nc
end
/-- a pen bears a row that grows -/
theorem bear_pen {D p c : Addr} {n : Nat} {H H' : Hp} (l : ∀ o, H D = some o → ∃ us, o = .lst us) (nc : D ≠ c) (b : But D H H') (h : Pen H p c n) : Pen H' p c n := by
  obtain ⟨ns, i, d, m, f, e1, e2, r⟩ := h
  have np : p ≠ D := fun z => by
    rw [z] at e1
    obtain ⟨us, e⟩ := l _ e1
    cases e
  exact ⟨ns, i, d, m, f, b _ _ e1 np, b _ _ e2 nc.symm, r⟩
theorem bear_rv {K : PySem.W.Frag} {D : Addr} {H H' : Hp} {v : V} {q : Rat} (l : ∀ o, H D = some o → ∃ us, o = .lst us) (b : But D H H') (h : RV K H v q) : RV K H' v q := by
  obtain ⟨t, e, r⟩ := h
  refine ⟨t, e, ?_⟩
  have ne : ∀ {o : HO}, H t = some o → (∀ us, o ≠ .lst us) → t ≠ D := fun {o} e n z => by
    rw [z] at e
    obtain ⟨us, e'⟩ := l _ e
    exact n us e'
  rcases r with (r | ⟨o, r⟩) | r
  · exact .inl (.inl (b _ _ r (ne r (fun us z => nomatch z))))
  · exact .inl (.inr ⟨o, b _ _ r (ne r (fun us z => nomatch z))⟩)
  · exact .inr r
theorem bear_argQ {K : PySem.W.Frag} {D : Addr} {H H' : Hp} {v : V} {x y : Nat} {q : Rat} (l : ∀ o, H D = some o → ∃ us, o = .lst us) (nd : v ≠ .ref D) (b : But D H H') (h : ArgQ K H v x y q) : ArgQ K H' v x y q := by
  obtain ⟨s, t, h, r⟩ := h
  refine ⟨s, t, ?_, r⟩
  cases h with
  | int => exact .int
  | @two a _ _ h z =>
    have na : a ≠ D := fun z => nd (by rw [z])
    refine .two ?_ z
    rcases h with ((h | ⟨o, h⟩) | h) | ((h | ⟨o, h⟩) | h)
    · exact .inl (.inl (.inl (b _ _ h na)))
    · exact .inl (.inl (.inr ⟨o, b _ _ h na⟩))
    · exact .inl (.inr h)
    · exact .inr (.inl (.inl (b _ _ h na)))
    · exact .inr (.inl (.inr ⟨o, b _ _ h na⟩))
    · exact .inr (.inr h)
theorem Rsm.zero {m : Nat} : Rsm m 0 := ⟨by decide, Nat.zero_le _⟩
theorem Al.rows {K : PySem.W.Frag} {H : Hp} {vs : List V} {qs : List Rat} {v : V} {q : Rat} (h : Al K H vs qs) (r : RV K H v q) : Al K H (vs ++ [v]) (qs ++ [q]) := h.snoc r
theorem AlA.snoc {K : PySem.W.Frag} {H : Hp} {vs : List V} {qs : List Rat} {x y : Nat} {v : V} {q : Rat} (h : AlA K H vs x y qs) (r : ArgQ K H v x y q) : AlA K H (vs ++ [v]) x y (qs ++ [q]) := by
  refine ⟨by rw [List.length_append, List.length_append, h.1]; rfl, fun i u t e1 e2 => ?_⟩
  rcases Nat.lt_or_ge i vs.length with lt | ge
  · rw [List.getElem?_append_left lt] at e1
    rw [List.getElem?_append_left (by rw [← h.1]; exact lt)] at e2
    exact h.2 i u t e1 e2
  · have l := (List.getElem?_eq_some_iff.mp e1).1
    rw [List.length_append] at l
    have ei : i = vs.length := by
      have : [v].length = 1 := rfl
      omega
    subst ei
    rw [List.getElem?_append_right (Nat.le_refl _), Nat.sub_self] at e1
    rw [h.1, List.getElem?_append_right (Nat.le_refl _), Nat.sub_self] at e2
    cases e1
    cases e2
    exact r
theorem AlA.nil {K : PySem.W.Frag} {H : Hp} {x y : Nat} : AlA K H [] x y [] := ⟨rfl, fun i u q e _ => by cases e⟩
section
variable {P : Program} {w : World} {K : PySem.W.Frag} {mg : Str → Option Value} {base : Heap}
end
end Kz
set_option linter.all false
set_option maxRecDepth 100000
set_option maxHeartbeats 4000000
namespace Kz
open PySem PySem.Spec PyProof.Rows L2
theorem AlA.append {K : PySem.W.Frag} {H : Hp} {x y : Nat} {vs us : List V} {qs rs : List Rat} (h : AlA K H vs x y qs) (g : AlA K H us x y rs) : AlA K H (vs ++ us) x y (qs ++ rs) := by
  refine ⟨by rw [List.length_append, List.length_append, h.1, g.1], fun i u t e1 e2 => ?_⟩
  rcases Nat.lt_or_ge i vs.length with lt | ge
  · rw [List.getElem?_append_left lt] at e1
    rw [List.getElem?_append_left (by rw [← h.1]; exact lt)] at e2
    exact h.2 i u t e1 e2
  · rw [List.getElem?_append_right ge] at e1
    rw [List.getElem?_append_right (by rw [← h.1]; exact ge), ← h.1] at e2
    exact g.2 _ u t e1 e2
section
variable {P : Program} {w : World} {K : PySem.W.Frag} {mg : Str → Option Value} {base : Heap}
end
end Kz
set_option linter.all false
set_option maxRecDepth 100000
set_option maxHeartbeats 4000000
namespace Kz
open PySem PySem.Spec PyProof.Rows L2
/-! ### several except clauses, all with one name -/
abbrev Cl := Value × (Addr → Value → Option Addr → TS)
inductive HdN (X : Cx) (n : Str) : List ExceptHandler → List Cl → Prop
  | nil : HdN X n [] []
  | cons {x : Str} {c : Value} {ts : Addr → Value → Option Addr → TS} {b : Stmt} {bs : List Stmt} {p q : Pos} {hds : List ExceptHandler} {l : List Cl} (nm : Names X x c)
      (su : ∀ (a : Addr) (oe : Obj) (cls : Value) (d : Option Addr) (pn : List (Addr × Obj)), Zc cls d oe → (∃ vs, oe.data = .fields vs) → PSs (X.suite a ((a, oe) :: pn)) (b :: bs) (ts a cls d)) (r : HdN X n hds l) :
      HdN X n (.ExceptHandler (some (.Name x p)) (some n) (b :: bs) q :: hds) ((c, ts) :: l)
section
variable {X : Cx} {body : List Stmt} {h0 : ExceptHandler} {hds : List ExceptHandler} {l : List Cl} {pos : Pos} {tb : WX → TS} {Wout : WX} {i : Nat} {n : Str}
end
/-- repr(x), x any data -/
def rReprA (K : PySem.W.Frag) : List V → Hp → VK → Prop := fun xs H Q => ∃ (v : V) (d : PyData), xs = [v] ∧ Dq K H v d ∧ d.showable = true ∧ d.depth ≤ 60 ∧ d.shown.length ≤ sizeLine ∧ Q (.str d.shown) H
theorem call_reprA {X : Cx} (hg : X.A.guards = some []) (hu : X.A.units + 64 < cLine) : CallR X (.builtin "repr") (rReprA X.K) := by
  intro pins s σ H xs us Q I r h
  obtain ⟨v, d, rfl, hd, hs, hdp, hz, q⟩ := h
  cases v with
  | ref a => exact call_repr hg hu pins s σ H _ us Q I r ⟨a, d, rfl, hd, hs, hdp, hz, q⟩
  | non =>
    cases hd
    obtain ⟨u, rfl, ru⟩ := vals1 r
    cases (show u = Value.none from ru)
    exact PySem.P.repr_of_none ⟨.str "None", H, I.tok _, ⟨_, rfl⟩, q⟩
  | bl b =>
    cases hd
    obtain ⟨u, rfl, ru⟩ := vals1 r
    cases (show u = Value.bool b from ru)
    refine PySem.P.repr_of_bool ⟨.str (if b then "True" else "False"), H, I.tok _, ⟨_, rfl⟩, ?_⟩
    cases b with
    | true => exact q
    | false => exact q
  | int z =>
    cases hd
    obtain ⟨u, rfl, ru⟩ := vals1 r
    obtain ⟨t, rfl⟩ := ru
    have lg : z.natAbs.log2 < 1920 := by
      simp only [PyData.showable] at hs
      exact of_decide_eq_true hs
    exact PySem.P.repr_of_int lg ⟨.str (PyData.int z).shown, H, I.tok _, ⟨_, rfl⟩, q⟩
  | str x =>
    cases hd
    obtain ⟨u, rfl, ru⟩ := vals1 r
    obtain ⟨t, rfl⟩ := ru
    exact PySem.P.repr_of_str ⟨.str (PyData.str x).shown, H, I.tok _, ⟨_, rfl⟩, q⟩ hz
  | flt b => cases hd
  | byt b => cases hd
  | ty b => cases hd
/-- data, or a list of data that stands anywhere -/
def DqT (K : PySem.W.Frag) (H : Hp) (v : V) (d : PyData) : Prop := Dq K H v d ∨ ∃ (a : Addr) (ys : List V) (ds : List PyData), v = .ref a ∧ H a = some (.lst ys) ∧ DqAll K H ys ds ∧ d = .list ds
theorem DqT.same {K : PySem.W.Frag} {H H' : Hp} {v : V} {d : PyData} (s : Same H H') (h : DqT K H v d) : DqT K H' v d := by
  rcases h with h | ⟨a, ys, ds, e, ha, hd, ed⟩
  · exact .inl (h.same s)
  · exact .inr ⟨a, ys, ds, e, s _ _ ha, hd.same s, ed⟩
section
variable {K : PySem.W.Frag} {mg : Str → Option Value}
end
end Kz
set_option linter.all false
set_option maxRecDepth 100000
set_option maxHeartbeats 4000000
namespace Kz
open PySem PySem.Spec PyProof.Rows L2
/-! ### why a call raises, told by the law's own def -/
theorem boot_repr' : bootBuiltins "repr" = some (.builtin "repr") := by decide +kernel
theorem call_reprK {X : Cx} {K : PySem.W.Frag} (e : X.K = K) (hg : X.A.guards = some []) (hu : X.A.units + 64 < cLine) : CallR X (.builtin "repr") (rReprA K) := e ▸ call_reprA hg hu
theorem k1 : ((("what" : Str)) == (("number" : Str))) = false := by decide +kernel
end Kz
set_option linter.all false
set_option maxRecDepth 100000
set_option maxHeartbeats 4000000
namespace Kz
open PySem PySem.Spec PyProof.Rows L2
/-! ### the law's own broken functions -/
structure Tk (P : Program) (K : PySem.W.Frag) (mg : Str → Option Value) extends Tu P K mg where
  l_lo : Df K mg "_law_lower_one" (top 66) ["_law_some"]
  l_sorted : Df K mg "_law_sorted" (top 67) ["_law_some"]
  l_fpiece : Df K mg "_law_f_piece" (top 71) ["_law_f", "_law_x"]
  l_fat : Df K mg "_law_f_at" (top 72) ["_law_f", "_law_x"]
  l_flim : Df K mg "_law_f_limits" (top 73) ["_law_f", "_law_k"]
  l_mkf : Df K mg "_law_made_function" (top 74) ["_law_pen_here", "_law_f"]
  l_dknots : Df K mg "_law_drawn_knots" (top 76) ["_law_pen_here", "_law_low", "_law_high", "_law_many"]
  l_dfun : Df K mg "_law_drawn_function" (top 77) ["_law_pen_here", "_law_knots", "_law_degree", "_law_kind", "_law_most"]

/-! ### a comprehension with a test -/
section
variable {K : PySem.W.Frag} {a : Addr} {xs : List V} {g : TG} {tt : TT} {te : TE} {vs : List Nat} {σ : L2.St} {H1 : Hp} {D : Addr} {Qd : Hp → Prop}
abbrev StepIf (g : TG) (tt : TT) (te : TE) (vs : List Nat) (σ : L2.St) (H1 : Hp) (R : Nat → List V → Hp → Prop) (i : Nat) (x : V) : Prop :=
  ∀ (acc : List V) (H' : Hp) (Qk : VK) (Z : Hp → Prop), R i acc H' → Same H1 H' → (∀ y H4, Same H' H4 → R (i + 1) (acc ++ [y]) H4 → Qk y H4) → (∀ H4, Same H' H4 → R (i + 1) acc H4 → Z H4) →
    g x (wipe σ vs) H' fun σ2 H2 => wipe σ2 vs = wipe σ vs ∧ tt σ2 H2 fun b H3 => if b = true then te σ2 H3 Qk else Z H3
theorem lc_filL (hl : SqL K H1 a xs) (len : xs.length ≤ 1000) (hD : H1 D = none) (R : Nat → List V → Hp → Prop) (br : Bears D R) (h0 : R 0 [] H1) (step : ∀ i x, xs[i]? = some x → StepIf g tt te vs σ H1 R i x)
    (fin : ∀ acc H', H' D = some (.lst acc) → acc.length ≤ xs.length → R xs.length acc H' → Same H1 H' → Qd H') : ∃ W : Nat → Nat → Hp → Prop, (∃ m, W 0 m (upd H1 D (.lst []))) ∧ ∀ i m H, W i m H →
      ((Itl K a).stop i H ∧ Qd H) ∨ ((Itl K a).go i H ∧ ∃ Nx : Hp → Prop, (∀ H', Nx H' → ∃ m', m' < m ∧ W (i + 1) m' H') ∧ ∀ x H', (Itl K a).yld i H x H' → g x (wipe σ vs) H' fun σ2 H2 => wipe σ2 vs = wipe σ vs ∧ tt σ2 H2 fun b H3 =>
        if b = true then te σ2 H3 fun y H4 => ∃ acc, H4 D = some (.lst acc) ∧ acc.length < sizeLine ∧ Nx (upd H4 D (.lst (acc ++ [y]))) else Nx H3) := by
  refine lc_list (fun i H' => ∃ acc, H' D = some (.lst acc) ∧ acc.length ≤ i ∧ i ≤ xs.length ∧ R i acc H' ∧ Same H1 H') ⟨[], upd_same, Nat.zero_le _, Nat.zero_le _, br _ _ _ _ (fun o e => by rw [hD] at e; cases e) (But.refl.set) h0, Same.new hD⟩
    (fun i H' _ ⟨acc, _, _, _, _, s⟩ => Same.seq s hl) ?_ fun H' ⟨acc, e, l, _, r, s⟩ => fin acc H' e l r s
  rintro i x H' hx ⟨acc, e, l, le, r, s⟩
  have lt : i < xs.length := (List.getElem?_eq_some_iff.mp hx).1
  refine step i x hx acc H' _ _ r s (fun y H4 s4 r4 => ⟨acc, s4 _ _ e, le1000 (by omega), acc ++ [y], upd_same, by simp; omega, lt, br _ _ _ _ (fun o e4 => ?_) But.refl.set r4, fun c u ec => ?_⟩) fun H4 s4 r4 => ⟨acc, s4 _ _ e, by omega, lt, r4, s.trans s4⟩
  · rw [s4 _ _ e] at e4
    cases e4
    exact ⟨_, rfl⟩
  · rw [upd_ne (ne_of_none ec hD)]
    exact s4 _ _ (s _ _ ec)
end
theorem bears_fil {K : PySem.W.Frag} {D : Addr} {qs : List Rat} {p : Rat → Bool} : Bears D (fun i acc H => Al K H acc ((qs.take i).filter p)) := fun i acc H H' l b h => ⟨h.1, fun j v q e1 e2 => by
  obtain ⟨t, e, r⟩ := h.2 j v q e1 e2
  refine ⟨t, e, ?_⟩
  have ne : ∀ {o : HO}, H t = some o → (∀ us, o ≠ .lst us) → t ≠ D := fun {o} e n z => by
    rw [z] at e
    obtain ⟨us, e'⟩ := l _ e
    exact n us e'
  rcases r with (r | ⟨o, r⟩) | r
  · exact .inl (.inl (b _ _ r (ne r (fun us z => nomatch z))))
  · exact .inl (.inr ⟨o, b _ _ r (ne r (fun us z => nomatch z))⟩)
  · exact .inr r⟩
/-! ### small rows -/
def half : Rat := Rat.divInt 1 2
def mid (q r : Rat) : Rat := (q + r) * half
/-- two pairs told are equal just if the ratios are -/
theorem pdQ_eqv (q r : Rat) : PyData.eqv (pdQ q) (pdQ r) = decide (q = r) := by
  by_cases h : q = r
  · subst h
    rw [decide_eq_true rfl]
    unfold pdQ
    simp [PyData.eqv, PyData.eqvAll]
  · rw [decide_eq_false h]
    unfold pdQ
    have : ¬ (q.num = r.num ∧ q.den = r.den) := fun ⟨a, b⟩ => h (Rat.ext a b)
    simp [PyData.eqv, PyData.eqvAll]
    intro a b
    exact this ⟨a, Int.ofNat_inj.mp b⟩
theorem pdQ_shaped (q : Rat) : SeqAt.shaped (pdQ q) = true := by
  unfold SeqAt.shaped pdQ
  rfl
section
variable {P : Program} {w : World} {K : PySem.W.Frag} {mg : Str → Option Value} {base : Heap}
end
end Kz
set_option linter.all false
set_option maxRecDepth 100000
set_option maxHeartbeats 4000000
namespace Kz
open PySem PySem.Spec PyProof.Rows L2
section
variable {P : Program} {w : World} {K : PySem.W.Frag} {mg : Str → Option Value} {base : Heap}
theorem LR.lst {H : Hp} {v : V} {qs : List Rat} (h : LR K H v qs) : ∃ l vs, v = .ref l ∧ H l = some (.lst vs) ∧ Al K H vs qs := h
/-- the least one of some -/
def spLlo (K : PySem.W.Frag) : Sp := fun vs H Q _ => ∃ v qs n m, vs = [v] ∧ LR K H v qs ∧ 0 < qs.length ∧ qs.length ≤ 1000 ∧ SzA n m qs ∧ n ≤ 100000 ∧ m ≤ 100000 ∧
  ∀ u H' q, Same H H' → RV K H' u q → q ∈ qs → (∀ r ∈ qs, q ≤ r) → Q u H'
abbrev nLo : List Str := ["_law_some", "_law_best", "_law_one"]
theorem sc51k : FnScope nLo ["_law_some"] (defScope (top 66)) := ⟨rfl, rfl, rfl, by decide +kernel, rfl, by decide +kernel, by decide +kernel⟩
theorem cf_mem {qs : List Rat} {i : Nat} (h : i < qs.length) : cf qs i ∈ qs := List.mem_of_getElem? (at_cf h)
theorem ok_llo (T : Tk P K mg) : FnOk P w K mg base CX0 2 T.l_lo.f T.l_lo.fd ["_law_some"] (spLlo K) := by
  have G1 : FnOk P w K mg base CX0 1 T.l_less.f T.l_less.fd ["_law_one", "_law_two"] (spLess K) := ok_lless T.toTy
  refine T.l_lo.fn.ok sc51k (fun vs H Q E h => ?_) (fun cdv A outer s H vs Q E hr h => ?_)
  · obtain ⟨v, qs, n, m, rfl, _⟩ := h
    rfl
  · obtain ⟨v, qs, n, m, rfl, ⟨l, ws, rfl, hl, al⟩, l0, l1, zq, n4, m4, k⟩ := h
    refine ⟨_, pss_cons (ps_set (i := 1) sc51k.nd rfl (.inl rfl) (pe_ix ix_list (pv 0) pe_int (fun _ _ => rfl)))
      (pss_cons (ps_for PassesOwn.never rfl (pi_list (pe_slice sl_list (pv 0) (po_some pe_int) po_none)) (pg_name (i := 2) sc51k.nd rfl (.inl rfl))
        (pss_one (ps_set (i := 1) sc51k.nd rfl (.inl rfl) (pe_ifExp (pt_val (T.l_less.c0 G1 hr (pa_cons (pv 2) (pa_cons (pv 1) pa_nil)))) (pv 2) (pv 1)))))
      (pss_one (ps_ret (pv 1)))), ?_⟩
    obtain ⟨v0, e0, r0⟩ := al.get l0
    have la := al.1
    refine ⟨_, rfl, l, ws, _, _, rfl, rfl, SqL.of hl, atI_nat (j := 0) e0, ?_⟩
    refine ⟨_, rfl, _, rfl, l, ws, rfl, SqL.of hl, fun p np => ?_⟩
    rw [cut_drop]
    have s1 := Same.new (o := .lst (ws.drop 1)) np
    have ep : upd H p (.lst (ws.drop 1)) p = some (.lst (ws.drop 1)) := upd_same
    generalize upd H p (.lst (ws.drop 1)) = H1 at s1 ep
    refine ⟨p, rfl, ⟨_, SqL.of ep⟩, for_list (K := K) (a := p) (xs := ws.drop 1) (fun j σ H' => ∃ b v2 q, σ = [some (.ref l), some b, v2] ∧ RV K H' b q ∧ q ∈ qs ∧ (∀ i, i ≤ j → i < qs.length → q ≤ cf qs i) ∧ Same H1 H')
      ⟨v0, none, cf qs 0, rfl, r0.same s1, cf_mem l0, fun i hi _ => by rw [Nat.le_zero.mp hi]; exact Rat.le_refl, Same.refl _⟩ (fun j σ H' _ ⟨_, _, _, _, _, _, _, s⟩ => SqL.of (s _ _ ep)) ?_ ?_⟩
    · rintro j y σ H2 hy ⟨b, v2, q, rfl, rb, mq, le, s2⟩
      rw [List.getElem?_drop, Nat.add_comm] at hy
      have lt : j + 1 < qs.length := by
        have := (List.getElem?_eq_some_iff.mp hy).1
        omega
      have ry := (al.2 _ y _ hy (at_cf lt)).same (s1.trans s2)
      refine ⟨_, rfl, _, rfl, y, b, _, _, n, m, n, m, rfl, ry, rb, zq _ lt, zq.mem _ mq, by omega, by omega, _, rfl, ?_⟩
      refine ite2 (fun l2 => ?_) (fun g2 => ?_)
      · have l2' := of_decide_eq_true l2
        refine ⟨_, rfl, ?_⟩
        refine ⟨y, _, _, rfl, ry, cf_mem lt, fun i hi il => ?_, s2⟩
        rcases Nat.lt_or_ge j i with c | c
        · rw [show i = j + 1 by omega]
          exact Rat.le_refl
        · exact Rat.le_trans (Rat.le_of_lt l2') (le i c il)
      · have g2' : ¬ (cf qs (j + 1) < q) := fun z => g2 (decide_eq_true z)
        refine ⟨_, rfl, ?_⟩
        refine ⟨b, _, _, rfl, rb, mq, fun i hi il => ?_, s2⟩
        rcases Nat.lt_or_ge j i with c | c
        · rw [show i = j + 1 by omega]
          exact Rat.not_lt.mp g2'
        · exact le i c il
    · rintro σ H2 ⟨b, v2, q, rfl, rb, mq, le, s2⟩
      refine ⟨_, rfl, k b H2 q (s1.trans s2) rb mq fun r hr' => ?_⟩
      obtain ⟨i, lt, e⟩ := List.getElem_of_mem hr'
      have c := le i (by rw [List.length_drop]; omega) lt
      rw [cf_at (by rw [List.getElem?_eq_getElem lt, e])] at c
      exact c
end
end Kz
set_option linter.all false
set_option maxRecDepth 100000
set_option maxHeartbeats 4000000
namespace Kz
open PySem PySem.Spec PyProof.Rows L2
/-- ascending, no two alike -/
def Asc (qs : List Rat) : Prop := qs.Pairwise (· < ·)
theorem fil_succ {qs : List Rat} {i : Nat} {q : Rat} {p : Rat → Bool} (h : qs[i]? = some q) : (qs.take (i + 1)).filter p = (qs.take i).filter p ++ (if p q = true then [q] else []) := by
  rw [take_snoc h, List.filter_append]
  congr 1
  by_cases c : p q = true
  · rw [if_pos c, List.filter_cons_of_pos c]
    rfl
  · rw [if_neg c, List.filter_cons_of_neg c]
    rfl
theorem asc_snoc {F : List Rat} {q : Rat} (h : Asc F) (l : ∀ r ∈ F, r < q) : Asc (F ++ [q]) := by
  unfold Asc
  rw [List.pairwise_append]
  refine ⟨h, List.pairwise_singleton _ _, fun a ha b hb => ?_⟩
  rw [List.mem_singleton.mp hb]
  exact l a ha
theorem RV.bear {K : PySem.W.Frag} {D : Addr} {H H' : Hp} {v : V} {q : Rat} {us : List V} (hD : H D = some (.lst us)) (b : But D H H') (h : RV K H v q) : RV K H' v q := (Al.bear hD b (Al.snoc Al.nil h)).2 0 v q rfl rfl
section
variable {P : Program} {w : World} {K : PySem.W.Frag} {mg : Str → Option Value} {base : Heap}
theorem op_neDK {X : Cx} {K' : PySem.W.Frag} (hu : X.A.units + 64 < cLine) (e : X.K = K' := by rfl) : OpR X (compareOp .NotEq) (rNeD K') := by
  subst e
  exact op_neD hu
/-- in order, each once -/
def spLsort (K : PySem.W.Frag) : Sp := fun vs H Q _ => ∃ v qs n m, vs = [v] ∧ LR K H v qs ∧ qs.length ≤ 1000 ∧ SzA n m qs ∧ n ≤ 100000 ∧ m ≤ 100000 ∧
  ∀ u H' rs, Same H H' → LR K H' u rs → Asc rs → (∀ q, q ∈ rs ↔ q ∈ qs) → Q u H'
abbrev nSr : List Str := ["_law_some", "_law_left", "_law_found", "_law_lap", "_law_one", "_law_other"]
theorem sc52k : FnScope nSr ["_law_some"] (defScope (top 67)) := ⟨rfl, rfl, rfl, by decide +kernel, rfl, by decide +kernel, by decide +kernel⟩
theorem ok_lsort (T : Tk P K mg) : FnOk P w K mg base CX0 3 T.l_sorted.f T.l_sorted.fd ["_law_some"] (spLsort K) := by
  have G1 : FnOk P w K mg base CX0 2 T.l_lo.f T.l_lo.fd ["_law_some"] (spLlo K) := ok_llo T
  refine T.l_sorted.fn.ok sc52k (fun vs H Q E h => ?_) (fun cdv A outer s H vs Q E hr h => ?_)
  · obtain ⟨v, qs, n, m, rfl, _⟩ := h
    rfl
  · obtain ⟨v, qs, n, m, rfl, ⟨l, ws, rfl, hl, al⟩, l1, zq, n4, m4, k⟩ := h
    have hu := hr.units
    refine ⟨_, pss_cons (ps_par (i := 1) (j := 2) rfl sc52k.nd rfl rfl (by decide) rfl rfl (pa_cons (pe_callTy call_list_of (by rfl) T.blt.list boot_tlist (pa_cons (pv 0) pa_nil)) (pa_cons (pe_lst pa_nil) pa_nil)) (by rfl))
      (pss_cons (ps_for PassesOwn.never rfl (pi_range1 rfl T.blt.range (pa_cons (pe_callB call_len_seq (by rfl) T.blt.len PySem.boot_len (pa_cons (pv 0) pa_nil)) pa_nil)) (pg_name (i := 3) sc52k.nd rfl (.inl rfl))
        (pss_cons (ps_if (pt_cmpR (op_eqD hu) (pv 1) (pe_lst pa_nil) (nomark _)) (pss_one ps_break) pss_nil)
        (pss_cons (ps_set (i := 4) sc52k.nd rfl (.inr rfl) (T.l_lo.c0 G1 hr (pa_cons (pv 1) pa_nil)))
        (pss_cons (ps_setLc (i := 1) (own := [("_law_other", 5)]) (g := gName 5) rfl sc52k.nd rfl rfl (sw_true rfl rfl rfl (by decide +kernel)) (pi_list (pv 1)) (blkOk_by (own := [("_law_other", 5)]) (N := nSr) (sc := defScope (top 67)) (by decide +kernel))
          (fun _ _ _ _ _ => pg_name (i := 5) sc52k.nd rfl (Or.inl rfl)) (fun _ _ _ _ _ => pts_one (pt_cmpR (op_neDK (K' := K) hu) (pv 5) (pv 4) (nomark _))) (fun _ _ _ _ _ => pv 5))
        (pss_one (ps_expr (pe_bm PySem.F.plainAttrs_list PySem.F.slot_list_append PySem.F.type_list_append mt_append (pv 2) (pa_cons (pv 4) pa_nil))))))))
      (pss_one (ps_ret (pv 2)))), ?_⟩
    have la := al.1
    refine ⟨_, rfl, l, ws, rfl, .inl (SqL.of hl), fun f nf => ?_⟩
    have s1 := Same.new (o := .lst ws) nf
    have e1 : upd H f (.lst ws) f = some (.lst ws) := upd_same
    generalize upd H f (.lst ws) = H1 at s1 e1
    refine ⟨(by show 0 ≤ sizeLine; decide), fun g ng => ?_⟩
    have s2 := Same.new (o := .lst []) ng
    have e2 : upd H1 g (.lst []) g = some (.lst []) := upd_same
    have s12 := s1.trans s2
    have e1' := s2 _ _ e1
    have fg : f ≠ g := ne_of_none e1 ng
    have gH : ∀ c u, H c = some u → c ≠ g := fun c u e => ne_of_none (s1 _ _ e) ng
    generalize upd H1 g (.lst []) = H2 at s2 e2 s12 e1'
    refine ⟨_, _, rfl, ?_⟩
    refine ⟨_, rfl, l, ws, rfl, .inl (SqL.of (s12 _ _ hl)), ((ws.length : Nat) : Int), rfl, by omega, by omega, ?_⟩
    refine for_range (lo := 0) (n := ((ws.length : Nat) : Int).toNat) (fun i σ H' => ∃ a v3 v4 v5 vs R fs F, σ = [some (.ref l), some (.ref a), some (.ref g), v3, v4, v5] ∧ H' a = some (.lst vs) ∧ Al K H' vs R ∧ H' g = some (.lst fs) ∧ Al K H' fs F ∧ a ≠ g ∧ Asc F ∧ (∀ q ∈ F, ∀ r ∈ R, q < r) ∧
        (∀ q, q ∈ F ∨ q ∈ R ↔ q ∈ qs) ∧ R.length + i ≤ qs.length ∧ F.length ≤ i ∧ Same H H')
      ⟨f, none, none, none, ws, qs, [], [], rfl, e1', al.same s12, e2, Al.nil, fg, List.Pairwise.nil, (fun q h => absurd h List.not_mem_nil), (fun q => ⟨fun h => h.elim (fun h => absurd h List.not_mem_nil) id, .inr⟩), Nat.le_refl _, Nat.le_refl _, s12⟩ ?_ ?_
    · rintro i σ H3 hi ⟨a, v3, v4, v5, vs, R, fs, F, rfl, ha, ar, hg, af, ag, asc, lt, mem, lr, lf, s3⟩
      refine ⟨_, rfl, (by show 0 ≤ sizeLine; decide), fun z nz => ?_⟩
      have t4 := Same.new (o := .lst []) nz
      have ez : upd H3 z (.lst []) z = some (.lst []) := upd_same
      generalize upd H3 z (.lst []) = H4 at t4 ez
      refine ⟨pdR R, pdR [], .lst (SqL.of (t4 _ _ ha)) (ar.same t4).dp, .lst (SqL.of ez) .nil, pdR_shaped R, pdR_shaped [], _, rfl, ?_⟩
      rw [pdR_nil]
      by_cases e0 : R = []
      · subst e0
        rw [decide_eq_true rfl]
        refine iteT ⟨_, rfl, k (.ref g) H4 F (s3.trans t4) ⟨g, fs, rfl, t4 _ _ hg, af.same t4⟩ asc fun q => ?_⟩
        rw [← mem q]
        exact ⟨.inl, fun h => h.elim id fun h => absurd h List.not_mem_nil⟩
      · rw [decide_eq_false e0]
        have l0 : 0 < R.length := List.length_pos_iff.mpr e0
        have zR : SzA n m R := fun j hj => zq.mem _ ((mem _).mp (.inr (cf_mem hj)))
        refine iteF ⟨_, rfl, .ref a, R, n, m, rfl, ⟨a, vs, rfl, t4 _ _ ha, ar.same t4⟩, l0, by omega, zR, n4, m4, fun u H5 q s5 ru mq le => ?_⟩
        have s45 := t4.trans s5
        refine ⟨_, rfl, a, rfl, ⟨_, SqL.of (s45 _ _ ha)⟩, fun D hD => ?_⟩
        refine lc_filL (SqL.of (s45 _ _ ha)) (by have := ar.1; omega) hD (fun i acc H' => Al K H' acc ((R.take i).filter fun r => decide (r ≠ q))) bears_fil Al.nil ?_ ?_
        · intro j x hx acc H' Qk Z r s kk zz
          have lj : j < R.length := by
            have := (List.getElem?_eq_some_iff.mp hx).1
            rw [← ar.1]
            exact this
          have rx := ((ar.2 j x _ hx (at_cf lj)).same s45).same s
          have fs1 := fil_succ (p := fun r => decide (r ≠ q)) (at_cf lj)
          refine ⟨rfl, ?_⟩
          refine ⟨_, rfl, _, rfl, pdQ (cf R j), pdQ q, rx.dp, (ru.same s).dp, pdQ_shaped _, pdQ_shaped _, _, rfl, ?_⟩
          rw [pdQ_eqv]
          by_cases c : cf R j = q
          · rw [decide_eq_true c]
            refine iteF (zz _ (Same.refl _) ?_)
            show Al K H' acc ((R.take (j + 1)).filter fun r => decide (r ≠ q))
            rw [fs1, if_neg (by simp [c]), List.append_nil]
            exact r
          · rw [decide_eq_false c]
            refine iteT ⟨_, rfl, kk _ _ (Same.refl _) ?_⟩
            show Al K H' (acc ++ [x]) ((R.take (j + 1)).filter fun r => decide (r ≠ q))
            rw [fs1, if_pos (by simp [c])]
            exact Al.snoc r rx
        · intro acc H6 hacc lacc r s6
          have r' : Al K H6 acc (R.filter fun r => decide (r ≠ q)) := by
            have z : Al K H6 acc ((R.take vs.length).filter fun r => decide (r ≠ q)) := r
            rw [ar.1, List.take_length] at z
            exact z
          have s46 := s45.trans s6
          have hg6 := s46 _ _ hg
          have af6 := af.same s46
          have Dg : D ≠ g := (ne_of_none (s45 _ _ hg) hD).symm
          refine ⟨_, rfl, .inl ⟨rfl, _, SqL.of hg6⟩, _, rfl, g, fs, u, rfl, rfl, hg6, ?_, ?_⟩
          · have := af.1
            rw [sizeLine_eq]
            omega
          have b7 : But g H6 (upd H6 g (.lst (fs ++ [u]))) := But.refl.set
          have h7 := Al.bear hg6 b7 r'
          have af7 := (Al.bear hg6 b7 af6).snoc (RV.bear hg6 b7 (ru.same s6))
          have fl : (R.filter fun r => decide (r ≠ q)).length < R.length := by
            refine List.length_filter_lt_length_iff_exists.mpr ⟨q, mq, by simp⟩
          refine ⟨D, _, _, _, acc, _, fs ++ [u], F ++ [q], rfl, b7 _ _ hacc Dg, h7, upd_same, af7, Dg, asc_snoc asc fun r hr' => lt r hr' q mq, fun p hp r hr' => ?_, fun p => ?_, by omega, ?_, fun c o e => b7 _ _ (s46 _ _ (s3 _ _ e)) (gH c o e)⟩
          · rw [List.mem_filter] at hr'
            have rq : r ≠ q := by simpa using hr'.2
            rcases List.mem_append.mp hp with hp | hp
            · exact lt p hp r hr'.1
            · rw [List.mem_singleton.mp hp]
              exact Rat.lt_of_le_of_ne (le r hr'.1) rq.symm
          · rw [← mem p, List.mem_append, List.mem_singleton, List.mem_filter]
            constructor
            · rintro ((h | h) | h)
              · exact .inl h
              · rw [h]
                exact .inr mq
              · exact .inr h.1
            · rintro (h | h)
              · exact .inl (.inl h)
              · by_cases c : p = q
                · exact .inl (.inr c)
                · exact .inr ⟨h, by simp [c]⟩
          · rw [List.length_append]
            show F.length + 1 ≤ i + 1
            omega
    · rintro σ H3 ⟨a, v3, v4, v5, vs, R, fs, F, rfl, ha, ar, hg, af, ag, asc, lt, mem, lr, lf, s3⟩
      have e0 : R = [] := by
        have : ((ws.length : Nat) : Int).toNat = ws.length := rfl
        exact List.length_eq_zero_iff.mp (by omega)
      subst e0
      refine ⟨_, rfl, k (.ref g) H3 F s3 ⟨g, fs, rfl, hg, af⟩ asc fun q => ?_⟩
      rw [← mem q]
      exact ⟨.inl, fun h => h.elim id fun h => absurd h List.not_mem_nil⟩
end
end Kz
set_option linter.all false
set_option maxRecDepth 100000
set_option maxHeartbeats 4000000
namespace Kz
open PySem PySem.Spec PyProof.Rows L2
/-! ### sizes by magnitude -/
/-- below 2 ^ a, with a bottom below 2 ^ m -/
def Mz (a m : Nat) (q : Rat) : Prop := q.num.natAbs < 2 ^ a * q.den ∧ q.den < 2 ^ m
theorem Mz.sz {a m : Nat} {q : Rat} (h : Mz a m q) : Sz (a + m) m q := by
  refine ⟨Nat.lt_trans h.1 ?_, h.2⟩
  rw [Nat.pow_add]
  exact Nat.mul_lt_mul_of_pos_left h.2 (Nat.two_pow_pos a)
theorem mz_divInt {a m : Nat} {t b : Int} (b0 : 0 < b) (h : t.natAbs < 2 ^ a * b.natAbs) (hb : b.natAbs < 2 ^ m) : Mz a m (Rat.divInt t b) := by
  have g0 : 0 < Nat.gcd t.natAbs b.natAbs := Nat.gcd_pos_of_pos_right _ (by omega)
  have e1 := low_num (a := t) b0
  have e2 := low_den (a := t) b0
  have d1 : ((Nat.gcd t.natAbs b.natAbs : Nat) : Int) ∣ t := Int.ofNat_dvd_left.mpr (Nat.gcd_dvd_left _ _)
  have d2 : ((Nat.gcd t.natAbs b.natAbs : Nat) : Int) ∣ b := Int.ofNat_dvd_left.mpr (Nat.gcd_dvd_right _ _)
  rw [Int.fdiv_eq_ediv_of_nonneg _ (Int.natCast_nonneg _)] at e1 e2
  have f1 := Int.ediv_mul_cancel d1
  have f2 := Int.ediv_mul_cancel d2
  rw [e1] at f1
  rw [e2] at f2
  generalize Nat.gcd t.natAbs b.natAbs = g at g0 f1 f2
  generalize Rat.divInt t b = q at f1 f2
  have h1 : t.natAbs = q.num.natAbs * g := by
    rw [← f1, Int.natAbs_mul]
    rfl
  have h2 : b.natAbs = q.den * g := by
    rw [← f2, Int.natAbs_mul]
    rfl
  rw [h1, h2, ← Nat.mul_assoc] at h
  refine ⟨Nat.lt_of_mul_lt_mul_right h, ?_⟩
  have : q.den * 1 ≤ q.den * g := Nat.mul_le_mul_left _ g0
  omega
theorem Mz.up {a m a' m' : Nat} {q : Rat} (h : Mz a m q) (h1 : a ≤ a') (h2 : m ≤ m') : Mz a' m' q :=
  ⟨Nat.lt_of_lt_of_le h.1 (Nat.mul_le_mul_right _ (pow_up h1)), Nat.lt_of_lt_of_le h.2 (pow_up h2)⟩
theorem add_mz {a m a' m' : Nat} {q r : Rat} (x : Mz a m q) (y : Mz a' m' r) : Mz (max a a' + 1) (m + m') (q + r) := by
  have x' := x.up (a' := max a a') (m' := m) (by omega) (Nat.le_refl _)
  have y' := y.up (a' := max a a') (m' := m') (by omega) (Nat.le_refl _)
  rw [← rat_add q r]
  have d1 := den_pos' q
  have d2 := den_pos' r
  refine mz_divInt (Int.mul_pos d1 d2) ?_ (wide_lt (by simpa using x.2) (by simpa using y.2))
  generalize max a a' = A at x' y'
  have e1 : (q.num * (r.den : Int)).natAbs = q.num.natAbs * r.den := by rw [Int.natAbs_mul]; rfl
  have e2 : (r.num * (q.den : Int)).natAbs = r.num.natAbs * q.den := by rw [Int.natAbs_mul]; rfl
  have e3 : ((q.den : Int) * (r.den : Int)).natAbs = q.den * r.den := by rw [Int.natAbs_mul]; rfl
  have q0 : 0 < q.den := by omega
  have r0 : 0 < r.den := by omega
  have l1 : q.num.natAbs * r.den < 2 ^ A * q.den * r.den := Nat.mul_lt_mul_of_pos_right x'.1 r0
  have l2 : r.num.natAbs * q.den < 2 ^ A * r.den * q.den := Nat.mul_lt_mul_of_pos_right y'.1 q0
  rw [Nat.mul_assoc, Nat.mul_comm r.den q.den] at l2
  rw [Nat.mul_assoc] at l1
  rw [e3, Nat.pow_succ, Nat.mul_comm (2 ^ A) 2, Nat.mul_assoc 2]
  generalize 2 ^ A * (q.den * r.den) = Z at l1 l2
  have tri := Int.natAbs_add_le (q.num * (r.den : Int)) (r.num * (q.den : Int))
  omega
theorem neg_mz {a m : Nat} {q : Rat} (x : Mz a m q) : Mz a m (-q) := by
  unfold Mz
  rw [Rat.neg_num, Rat.neg_den, Int.natAbs_neg]
  exact x
theorem sub_mz {a m a' m' : Nat} {q r : Rat} (x : Mz a m q) (y : Mz a' m' r) : Mz (max a a' + 1) (m + m') (q - r) := by
  rw [Rat.sub_eq_add_neg]
  exact add_mz x (neg_mz y)
theorem mul_mz {a m a' m' : Nat} {q r : Rat} (x : Mz a m q) (y : Mz a' m' r) : Mz (a + a') (m + m') (q * r) := by
  rw [← rat_mul q r]
  refine mz_divInt (Int.mul_pos (den_pos' q) (den_pos' r)) ?_ (wide_lt (by simpa using x.2) (by simpa using y.2))
  rw [Int.natAbs_mul, Int.natAbs_mul, Nat.pow_add]
  have h : q.num.natAbs * r.num.natAbs < (2 ^ a * q.den) * (2 ^ a' * r.den) := Nat.mul_lt_mul'' x.1 y.1
  have e : (2 ^ a * q.den) * (2 ^ a' * r.den) = 2 ^ a * 2 ^ a' * (q.den * r.den) := by
    rw [Nat.mul_assoc, Nat.mul_left_comm q.den, ← Nat.mul_assoc, ← Nat.mul_assoc (2 ^ a * 2 ^ a')]
  rw [e] at h
  exact h
theorem mz_zero {a m : Nat} (hm : 0 < m) : Mz a m 0 := ⟨Nat.mul_pos (Nat.two_pow_pos a) Nat.one_pos, Nat.one_lt_two_pow (by omega)⟩
/-- a polynomial whose numbers but the first are small, at a place -/
theorem hn_mz {f : Nat → Rat} {N : Nat} {x : Rat} {α β a m a0 m0 : Nat} (zx : Mz α β x) (zf : ∀ i, Mz a m (f (i + 1))) (z0 : Mz a0 m0 (f 0)) (ha : a ≤ α) (b0 : a ≤ a0) (h : 0 < N) :
    ∀ j, (j < N → Mz (j * (α + 1)) (1 + j * (β + m)) (hn f N x j)) ∧ (j + 1 = N → Mz (max (j * (α + 1) + α) a0 + 1) (1 + j * (β + m) + β + m0) (hn f N x N))
  | 0 => ⟨fun _ => mz_zero (by omega), fun e => by
      subst e
      have : hn f 1 x 1 = f 0 := by
        show (0 : Rat) * x + f 0 = f 0
        rw [Rat.zero_mul, Rat.zero_add]
      rw [this]
      exact z0.up (by omega) (by omega)⟩
  | j + 1 => by
    have ih := hn_mz (N := N) zx zf z0 ha b0 h j
    refine ⟨fun lt => ?_, fun e => ?_⟩
    · have z := ih.1 (by omega)
      show Mz _ _ (hn f N x j * x + f (N - 1 - j))
      obtain ⟨i, e⟩ : ∃ i, N - 1 - j = i + 1 := ⟨N - 1 - j - 1, by omega⟩
      rw [e]
      refine (add_mz (mul_mz z zx) (zf i)).up ?_ ?_
      · rw [Nat.succ_mul]
        omega
      · rw [Nat.succ_mul]
        omega
    · have z : Mz ((j + 1) * (α + 1)) (1 + (j + 1) * (β + m)) (hn f N x (j + 1)) := by
        have z := ih.1 (by omega)
        show Mz _ _ (hn f N x j * x + f (N - 1 - j))
        obtain ⟨i, e⟩ : ∃ i, N - 1 - j = i + 1 := ⟨N - 1 - j - 1, by omega⟩
        rw [e]
        refine (add_mz (mul_mz z zx) (zf i)).up ?_ ?_
        · rw [Nat.succ_mul]
          omega
        · rw [Nat.succ_mul]
          omega
      subst e
      show Mz _ _ (hn f (j + 1 + 1) x (j + 1) * x + f (j + 1 + 1 - 1 - (j + 1)))
      rw [show j + 1 + 1 - 1 - (j + 1) = 0 by omega]
      exact (add_mz (mul_mz z zx) z0).up (by omega) (by omega)
end Kz
set_option linter.all false
set_option maxRecDepth 100000
set_option maxHeartbeats 4000000
namespace Kz
open PySem PySem.Spec PyProof.Rows L2
/-! ### functions, as the law has them -/
/-- a list of rows -/
def LRR (K : PySem.W.Frag) (H : Hp) (v : V) (ps : List (List Rat)) : Prop := ∃ l vs, v = .ref l ∧ H l = some (.lst vs) ∧ vs.length = ps.length ∧ ∀ (i : Nat) (u : V) (p : List Rat), vs[i]? = some u → ps[i]? = some p → LR K H u p
theorem LRR.same {K : PySem.W.Frag} {H H' : Hp} {v : V} {ps : List (List Rat)} (s : Same H H') (h : LRR K H v ps) : LRR K H' v ps := by
  obtain ⟨l, vs, e, hl, n, al⟩ := h
  exact ⟨l, vs, e, s _ _ hl, n, fun i u p a b => (al i u p a b).same s⟩
/-- a function: its knots, its pieces, its numbers -/
def FnV (K : PySem.W.Frag) (H : Hp) (v : V) (ks : List Rat) (ps : List (List Rat)) (as : List Rat) : Prop := ∃ t a b c, v = .ref t ∧ SqT K H t [a, b, c] ∧ LR K H a ks ∧ LRR K H b ps ∧ LR K H c as
theorem FnV.same {K : PySem.W.Frag} {H H' : Hp} {v : V} {ks as : List Rat} {ps : List (List Rat)} (s : Same H H') (h : FnV K H v ks ps as) : FnV K H' v ks ps as := by
  obtain ⟨t, a, b, c, e, ht, h1, h2, h3⟩ := h
  exact ⟨t, a, b, c, e, Kz.Same.seqT s ht, h1.same s, h2.same s, h3.same s⟩
/-- sizes -/
structure Fsz (ks : List Rat) (ps : List (List Rat)) : Prop where
  len : ks.length = ps.length + 1
  few : ps.length ≤ 8
  one : 0 < ps.length
  asc : Asc ks
  zk : ∀ q ∈ ks, Mz 20 40 q
  zp : ∀ p ∈ ps, (∀ i, Mz 4 12 (cf p (i + 1))) ∧ Mz 60 900 (cf p 0) ∧ Tr p ∧ p.length ≤ 6
/-- x lies strictly within the piece k -/
def Within (ks : List Rat) (x : Rat) (k : Nat) : Prop := cf ks k < x ∧ x < cf ks (k + 1)
instance {ks : List Rat} {x : Rat} {k : Nat} : Decidable (Within ks x k) := by unfold Within; infer_instance
/-- the piece that x lies in: the first one -/
def Piece (ks : List Rat) (n : Nat) (x : Rat) : V → Prop
  | .int z => ∃ k : Nat, z = (k : Int) ∧ k < n ∧ Within ks x k
  | .non => ∀ k, k < n → ¬ Within ks x k
  | _ => False
def pv' (ps : List (List Rat)) (k : Nat) : List Rat := ps.getD k []
theorem pv_at {ps : List (List Rat)} {k : Nat} (h : k < ps.length) : ps[k]? = some (pv' ps k) := by
  unfold pv'
  rw [List.getD_eq_getElem?_getD, List.getElem?_eq_getElem h]
  rfl
theorem pv_mem {ps : List (List Rat)} {k : Nat} (h : k < ps.length) : pv' ps k ∈ ps := List.mem_of_getElem? (pv_at h)
/-- the value of a row at a place -/
def ev (p : List Rat) (x : Rat) : Rat := hn (cf p) p.length x p.length
section
variable {P : Program} {w : World} {K : PySem.W.Frag} {mg : Str → Option Value} {base : Heap}
def spFpiece (K : PySem.W.Frag) : Sp := fun vs H Q _ => ∃ v u ks ps as x n m, vs = [v, u] ∧ FnV K H v ks ps as ∧ Fsz ks ps ∧ RV K H u x ∧ Sz n m x ∧ n ≤ 4000 ∧ m ≤ 4000 ∧ ∀ r, Piece ks ps.length x r → Q r H
abbrev nFp : List Str := ["_law_f", "_law_x", "_law_k"]
theorem sc56k : FnScope nFp ["_law_f", "_law_x"] (defScope (top 71)) := ⟨rfl, rfl, rfl, by decide +kernel, rfl, by decide +kernel, by decide +kernel⟩
theorem LRR.len {H : Hp} {v : V} {ps : List (List Rat)} (h : LRR K H v ps) : ∃ l vs, v = .ref l ∧ H l = some (.lst vs) ∧ vs.length = ps.length := by
  obtain ⟨l, vs, e, hl, n, _⟩ := h
  exact ⟨l, vs, e, hl, n⟩
theorem Fsz.all {ks : List Rat} {ps : List (List Rat)} (F : Fsz ks ps) {p : List Rat} (h : p ∈ ps) : ∀ i, Mz 60 900 (cf p i)
  | 0 => (F.zp p h).2.1
  | i + 1 => ((F.zp p h).1 i).up (by decide) (by decide)
theorem Fsz.kz {ks : List Rat} {ps : List (List Rat)} (F : Fsz ks ps) {i : Nat} (h : i < ks.length) : Sz 60 40 (cf ks i) := (F.zk _ (cf_mem h)).sz
theorem ok_fpiece (T : Tk P K mg) : FnOk P w K mg base CX0 2 T.l_fpiece.f T.l_fpiece.fd ["_law_f", "_law_x"] (spFpiece K) := by
  have G1 : FnOk P w K mg base CX0 1 T.l_less.f T.l_less.fd ["_law_one", "_law_two"] (spLess K) := ok_lless T.toTy
  refine T.l_fpiece.fn.ok sc56k (fun vs H Q E h => ?_) (fun cdv A outer s H vs Q E hr h => ?_)
  · obtain ⟨v, u, ks, ps, as, x, n, m, rfl, _⟩ := h
    rfl
  · obtain ⟨v, u, ks, ps, as, x, n, m, rfl, ⟨t, a, b, c, rfl, ht, ⟨la, wa, rfl, ha, ala⟩, ⟨lb, wb, rfl, hb, lnb, alb⟩, hc⟩, F, rx, zx, n4, m4, k⟩ := h
    refine ⟨_, pss_cons (ps_for PassesOwn.never rfl (pi_range1 rfl T.blt.range (pa_cons (pe_callB call_len_seq (by rfl) T.blt.len PySem.boot_len (pa_cons (pe_ix ix_tup (pv 0) pe_int (fun _ _ => rfl)) pa_nil)) pa_nil)) (pg_name (i := 2) sc56k.nd rfl (.inl rfl))
        (pss_one (ps_if (PW.pt (pw_and (pt_val (T.l_less.c0 G1 hr (pa_cons (pe_ix ix_list (pe_ix ix_tup (pv 0) pe_int (fun _ _ => rfl)) (pv 2) (fun _ _ => rfl)) (pa_cons (pv 1) pa_nil))))
            (pw_and1 (pt_val (T.l_less.c0 G1 hr (pa_cons (pv 1) (pa_cons (pe_ix ix_list (pe_ix ix_tup (pv 0) pe_int (fun _ _ => rfl)) (pe_op op_add (pv 2) pe_int) (fun _ _ => rfl)) pa_nil)))))))
          (pss_one (ps_ret (pv 2))) pss_nil)))
      (pss_one (ps_ret pe_non)), ?_⟩
    refine ⟨_, rfl, _, _, _, _, rfl, rfl, ht, rfl, lb, wb, rfl, .inl (SqL.of hb), ((wb.length : Nat) : Int), rfl, by omega, by have := F.few; omega, ?_⟩
    have few := F.few
    have lk := F.len
    have la' := ala.1
    refine for_range (lo := 0) (n := ((wb.length : Nat) : Int).toNat) (fun i σ H' => ∃ v2, σ = [some (.ref t), some u, v2] ∧ H' = H ∧ ∀ j, j < i → ¬ Within ks x j) ⟨none, rfl, rfl, fun j h => absurd h (Nat.not_lt_zero _)⟩ ?_ ?_
    · rintro i σ H2 hi ⟨v2, rfl, rfl, no⟩
      have hi' : i < ps.length := by
        have : i < wb.length := hi
        omega
      obtain ⟨k0, ek0, rk0⟩ := ala.get (i := i) (by omega)
      obtain ⟨k1, ek1, rk1⟩ := ala.get (i := i + 1) (by omega)
      have zk0 := F.kz (i := i) (by omega)
      have zk1 := F.kz (i := i + 1) (by omega)
      rw [Int.zero_add]
      refine ⟨_, rfl, _, _, _, _, rfl, rfl, ht, rfl, _, rfl, la, wa, _, _, rfl, rfl, SqL.of ha, atI_nat ek0, _, rfl, k0, u, cf ks i, x, 60, 40, n, m, rfl, rk0, rx, zk0, zx, by omega, by omega, _, rfl, ?_⟩
      by_cases c0 : cf ks i < x
      · rw [decide_eq_true c0]
        refine iteT ⟨_, rfl, _, rfl, _, _, _, _, rfl, rfl, ht, rfl, _, rfl, _, _, rfl, rfl, la, wa, _, _, rfl, rfl, SqL.of ha, atI_nat (j := i + 1) ek1, u, k1, x, cf ks (i + 1), n, m, 60, 40, rfl, rx, rk1, zx, zk1, by omega, by omega, _, rfl, ?_⟩
        by_cases c1 : x < cf ks (i + 1)
        · rw [decide_eq_true c1]
          exact iteT ⟨_, rfl, k _ ⟨i, rfl, hi', c0, c1⟩⟩
        · rw [decide_eq_false c1]
          refine iteF ⟨_, rfl, rfl, fun j hj => ?_⟩
          rcases Nat.lt_or_ge j i with c | c
          · exact no j c
          · rw [show j = i by omega]
            exact fun z => c1 z.2
      · rw [decide_eq_false c0]
        refine iteF (iteF ⟨_, rfl, rfl, fun j hj => ?_⟩)
        rcases Nat.lt_or_ge j i with c | c
        · exact no j c
        · rw [show j = i by omega]
          exact fun z => c0 z.1
    · rintro σ H2 ⟨v2, rfl, rfl, no⟩
      refine k .non fun j hj => no j ?_
      have : ((wb.length : Nat) : Int).toNat = wb.length := rfl
      omega
end
end Kz
set_option linter.all false
set_option maxRecDepth 100000
set_option maxHeartbeats 4000000
namespace Kz
open PySem PySem.Spec PyProof.Rows L2
/-- y is the value at x -/
def Vat (ks : List Rat) (ps : List (List Rat)) (as : List Rat) (x y : Rat) : Prop := (∃ k, k < ps.length ∧ Within ks x k ∧ y = ev (pv' ps k) x) ∨ (∃ k, k < ks.length ∧ cf ks k = x ∧ y = cf as k)
theorem asc_lt {ks : List Rat} (h : Asc ks) {i j : Nat} (ij : i < j) (hj : j < ks.length) : cf ks i < cf ks j := by
  have z := (List.pairwise_iff_getElem.mp h) i j (by omega) hj ij
  rw [cf_at (List.getElem?_eq_getElem (show i < ks.length by omega)), cf_at (List.getElem?_eq_getElem hj)]
  exact z
theorem asc_le {ks : List Rat} (h : Asc ks) {i j : Nat} (ij : i ≤ j) (hj : j < ks.length) : cf ks i ≤ cf ks j := by
  rcases Nat.lt_or_ge i j with c | c
  · exact Rat.le_of_lt (asc_lt h c hj)
  · rw [show i = j by omega]
    exact Rat.le_refl
theorem asc_inj {ks : List Rat} (h : Asc ks) {i j : Nat} (hi : i < ks.length) (hj : j < ks.length) (e : cf ks i = cf ks j) : i = j := by
  rcases Nat.lt_trichotomy i j with c | c | c
  · have := asc_lt h c hj
    rw [e] at this
    exact absurd this (Rat.lt_irrefl)
  · exact c
  · have := asc_lt h c hi
    rw [e] at this
    exact absurd this (Rat.lt_irrefl)
/-- a place is within one piece alone, and then at no knot -/
theorem within_one {ks : List Rat} (h : Asc ks) {x : Rat} {i j : Nat} (a : Within ks x i) (b : Within ks x j) (hi : i + 1 < ks.length) (hj : j + 1 < ks.length) : i = j := by
  rcases Nat.lt_trichotomy i j with c | c | c
  · have z := asc_le h (show i + 1 ≤ j by omega) (by omega)
    have : x < x := Std.lt_of_lt_of_le (Std.lt_of_lt_of_le a.2 z) (Rat.le_of_lt b.1)
    exact absurd this Rat.lt_irrefl
  · exact c
  · have z := asc_le h (show j + 1 ≤ i by omega) (by omega)
    have : x < x := Std.lt_of_lt_of_le (Std.lt_of_lt_of_le b.2 z) (Rat.le_of_lt a.1)
    exact absurd this Rat.lt_irrefl
theorem within_not {ks : List Rat} (h : Asc ks) {x : Rat} {i k : Nat} (a : Within ks x i) (hi : i + 1 < ks.length) (hk : k < ks.length) : cf ks k ≠ x := fun e => by
  rw [← e] at a
  rcases Nat.lt_or_ge i k with c | c
  · have z := asc_le h (show i + 1 ≤ k by omega) hk
    exact absurd (Std.lt_of_lt_of_le a.2 z) Rat.lt_irrefl
  · have z := asc_le h c (by omega)
    exact absurd (Std.lt_of_lt_of_le a.1 z) Rat.lt_irrefl
theorem vat_one {ks as : List Rat} {ps : List (List Rat)} (F : Fsz ks ps) {x y z : Rat} (a : Vat ks ps as x y) (b : Vat ks ps as x z) : y = z := by
  have l := F.len
  rcases a with ⟨i, hi, wi, rfl⟩ | ⟨i, hi, wi, rfl⟩ <;> rcases b with ⟨j, hj, wj, rfl⟩ | ⟨j, hj, wj, rfl⟩
  · rw [within_one F.asc wi wj (by omega) (by omega)]
  · exact absurd wj (within_not F.asc wi (by omega) hj)
  · exact absurd wi (within_not F.asc wj (by omega) hi)
  · rw [asc_inj F.asc hi hj (wi.trans wj.symm)]
section
variable {P : Program} {w : World} {K : PySem.W.Frag} {mg : Str → Option Value} {base : Heap}
theorem Fsz.pz {ks : List Rat} {ps : List (List Rat)} (F : Fsz ks ps) {k : Nat} (h : k < ps.length) : SzA 960 900 (pv' ps k) ∧ Tr (pv' ps k) ∧ (pv' ps k).length ≤ 6 := by
  obtain ⟨_, _, b, c⟩ := F.zp _ (pv_mem h)
  exact ⟨fun i _ => (F.all (pv_mem h) i).sz, b, c⟩
theorem pdQ_at {ks : List Rat} {k : Nat} (h : k < ks.length) : (ks.map pdQ)[k]? = some (pdQ (cf ks k)) := by
  rw [List.getElem?_map, at_cf h]
  rfl
def spFat (K : PySem.W.Frag) : Sp := fun vs H Q _ => ∃ v u ks ps as x, vs = [v, u] ∧ FnV K H v ks ps as ∧ Fsz ks ps ∧ as.length = ks.length ∧ RV K H u x ∧ Mz 20 100 x ∧ ((∃ k, k < ps.length ∧ Within ks x k) ∨ ∃ k, k < ks.length ∧ cf ks k = x) ∧
  ∀ y H' q, Same H H' → RV K H' y q → Vat ks ps as x q → Q y H'
abbrev nFa : List Str := ["_law_f", "_law_x", "_law_k"]
theorem sc57k : FnScope nFa ["_law_f", "_law_x"] (defScope (top 72)) := ⟨rfl, rfl, rfl, by decide +kernel, rfl, by decide +kernel, by decide +kernel⟩
theorem ok_fat (T : Tk P K mg) : FnOk P w K mg base CX0 5 T.l_fat.f T.l_fat.fd ["_law_f", "_law_x"] (spFat K) := by
  have G1 : FnOk P w K mg base CX0 2 T.l_fpiece.f T.l_fpiece.fd ["_law_f", "_law_x"] (spFpiece K) := ok_fpiece T
  have G2 : FnOk P w K mg base CX0 4 T.l_pat.f T.l_pat.fd ["_law_one", "_law_point"] (spLat K) := ok_lat T.toTv
  refine T.l_fat.fn.ok sc57k (fun vs H Q E h => ?_) (fun cdv A outer s H vs Q E hr h => ?_)
  · obtain ⟨v, u, ks, ps, as, x, rfl, _⟩ := h
    rfl
  · obtain ⟨v, u, ks, ps, as, x, rfl, hf, F, la, rx, zx, cov, k⟩ := h
    have hu : (A.deeper (envOfC (Str.ofString "_law_f_at") (defScope (top 72)) s.heap.objs.size T.l_fat.f cdv)).units + 65 < cLine := by
      have := hr.un
      omega
    refine ⟨_, pss_cons (ps_set (i := 2) sc57k.nd rfl (.inl rfl) (T.l_fpiece.c0 G1 (hr.mono (by decide)) (pa_cons (pv 0) (pa_cons (pv 1) pa_nil))))
      (pss_one (ps_ret (pe_ifExp (pt_cmpR op_isN (pv 2) pe_non (nomark _))
        (pe_ix ix_list (pe_ix ix_tup (pv 0) pe_int (fun _ _ => rfl)) (pe_bm PySem.F.plainAttrs_list PySem.F.slot_list_index PySem.F.type_list_index (mt_indexD hu) (pe_ix ix_tup (pv 0) pe_int (fun _ _ => rfl)) (pa_cons (pv 1) pa_nil)) (fun _ _ => rfl))
        (T.l_pat.c0 G2 hr (pa_cons (pe_ix ix_list (pe_ix ix_tup (pv 0) pe_int (fun _ _ => rfl)) (pv 2) (fun _ _ => rfl)) (pa_cons (pv 1) pa_nil)))))), ?_⟩
    have lk := F.len
    refine ⟨_, rfl, _, rfl, v, u, ks, ps, as, x, 120, 100, rfl, hf, F, rx, zx.sz, by decide, by decide, fun r hr' => ?_⟩
    obtain ⟨t, a, b, c, rfl, ht, ⟨la', wa, rfl, ha, ala⟩, ⟨lb, wb, rfl, hb, lnb, alb⟩, ⟨lc, wc, rfl, hc, alc⟩⟩ := hf
    have lc' := alc.1
    have lae := ala.1
    cases r with
    | int z =>
      obtain ⟨i, rfl, hi, wi⟩ := hr'
      refine ⟨_, rfl, rfl, _, rfl, ite2 (fun z => by cases of_decide_eq_true z) fun _ => ?_⟩
      obtain ⟨up, eup⟩ : ∃ up, wb[i]? = some up := ⟨_, List.getElem?_eq_getElem (by omega)⟩
      have lr := alb i up _ eup (pv_at hi)
      obtain ⟨zp, tp, lp⟩ := F.pz hi
      refine ⟨_, rfl, _, _, _, _, rfl, rfl, ht, rfl, _, rfl, lb, wb, _, _, rfl, rfl, SqL.of hb, atI_nat eup, _, rfl, ?_⟩
      refine ⟨up, u, pv' ps i, 960, 900, 120, 100, x, rfl, lr, zp, rx, zx.sz, by decide, by decide, ?_, by omega, by decide, by decide, fun y H' s1 ry => k y H' _ s1 ry (.inl ⟨i, hi, wi, rfl⟩)⟩
      have : (pv' ps i).length + 1 ≤ 7 := by omega
      have := Nat.mul_le_mul_right (100 + 900) this
      omega
    | non =>
      refine ⟨_, rfl, rfl, _, rfl, ite2 (fun _ => ?_) fun z => absurd (decide_eq_true rfl) z⟩
      obtain ⟨j, hj, ej⟩ : ∃ k, k < ks.length ∧ cf ks k = x := cov.elim (fun ⟨i, hi, wi⟩ => absurd wi (hr' i hi)) id
      obtain ⟨uc, euc⟩ : ∃ uc, wc[j]? = some uc := ⟨_, List.getElem?_eq_getElem (by omega)⟩
      refine ⟨_, rfl, _, _, _, _, rfl, rfl, ht, rfl, _, rfl, _, _, _, _, rfl, rfl, ht, rfl, .inl ⟨rfl, _, SqL.of ha⟩, _, rfl, ?_⟩
      refine ⟨la', u, pdQ x, ks.map pdQ, j, pdQ (cf ks j), rfl, rfl, .lst (SqL.of ha) ala.dp, rx.dp, pdR_shaped ks, pdQ_shaped x, pdQ_at hj, by rw [pdQ_eqv, decide_eq_true ej], fun m z' hm hz => ?_, ?_⟩
      · rw [pdQ_at (by omega)] at hz
        cases hz
        rw [pdQ_eqv]
        refine decide_eq_false fun e => ?_
        have := asc_inj F.asc (by omega) hj (e.trans ej.symm)
        omega
      · refine ⟨lc, wc, _, _, rfl, rfl, SqL.of hc, atI_nat euc, ?_⟩
        exact k uc H _ (Same.refl _) (alc.2 j uc _ euc (at_cf (by omega))) (.inr ⟨j, hj, ej, rfl⟩)
    | _ => exact hr'.elim
end
end Kz
set_option linter.all false
set_option maxRecDepth 100000
set_option maxHeartbeats 4000000
namespace Kz
open PySem PySem.Spec PyProof.Rows L2
/-- the limits at a knot -/
def limL (ks : List Rat) (ps : List (List Rat)) (k : Nat) : List Rat := if 0 < k then [ev (pv' ps (k - 1)) (cf ks k)] else []
def limR (ks : List Rat) (ps : List (List Rat)) (k : Nat) : List Rat := if k < ps.length then [ev (pv' ps k) (cf ks k)] else []
def lims (ks : List Rat) (ps : List (List Rat)) (k : Nat) : List Rat := limL ks ps k ++ limR ks ps k
section
variable {P : Program} {w : World} {K : PySem.W.Frag} {mg : Str → Option Value} {base : Heap}
def spFlim (K : PySem.W.Frag) : Sp := fun vs H Q _ => ∃ v ks ps as, ∃ k : Nat, vs = [v, .int (k : Nat)] ∧ FnV K H v ks ps as ∧ Fsz ks ps ∧ k < ks.length ∧ ∀ u H', Same H H' → LR K H' u (lims ks ps k) → Q u H'
abbrev nFl : List Str := ["_law_f", "_law_k", "_law_found"]
theorem sc58k : FnScope nFl ["_law_f", "_law_k"] (defScope (top 73)) := ⟨rfl, rfl, rfl, by decide +kernel, rfl, by decide +kernel, by decide +kernel⟩
theorem ok_flim (T : Tk P K mg) : FnOk P w K mg base CX0 5 T.l_flim.f T.l_flim.fd ["_law_f", "_law_k"] (spFlim K) := by
  have G2 : FnOk P w K mg base CX0 4 T.l_pat.f T.l_pat.fd ["_law_one", "_law_point"] (spLat K) := ok_lat T.toTv
  refine T.l_flim.fn.ok sc58k (fun vs H Q E h => ?_) (fun cdv A outer s H vs Q E hr h => ?_)
  · obtain ⟨v, ks, ps, as, k, rfl, _⟩ := h
    rfl
  · obtain ⟨v, ks, ps, as, i, rfl, ⟨t, a, b, c, rfl, ht, ⟨la', wa, rfl, ha, ala⟩, ⟨lb, wb, rfl, hb, lnb, alb⟩, _⟩, F, hi, k⟩ := h
    have lae := ala.1
    have lk := F.len
    refine ⟨_, pss_cons (ps_set (i := 2) sc58k.nd rfl (.inl rfl) (pe_lst pa_nil))
      (C8.pss_cut (ps_if (pt_cmpR op_gt (pv 1) pe_int (nomark _)) (pss_one (ps_expr (pe_bm PySem.F.plainAttrs_list PySem.F.slot_list_append PySem.F.type_list_append mt_append (pv 2) (pa_cons
          (T.l_pat.c0 G2 hr (pa_cons (pe_ix ix_list (pe_ix ix_tup (pv 0) pe_int (fun _ _ => rfl)) (pe_op op_sub (pv 1) pe_int) (fun _ _ => rfl)) (pa_cons (pe_ix ix_list (pe_ix ix_tup (pv 0) pe_int (fun _ _ => rfl)) (pv 1) (fun _ _ => rfl)) pa_nil))) pa_nil)))) pss_nil)
      (pss_cons (ps_if (pt_cmpR op_lt (pv 1) (pe_callB call_len_seq (by rfl) T.blt.len PySem.boot_len (pa_cons (pe_ix ix_tup (pv 0) pe_int (fun _ _ => rfl)) pa_nil)) (nomark _)) (pss_one (ps_expr (pe_bm PySem.F.plainAttrs_list PySem.F.slot_list_append PySem.F.type_list_append mt_append (pv 2) (pa_cons
          (T.l_pat.c0 G2 hr (pa_cons (pe_ix ix_list (pe_ix ix_tup (pv 0) pe_int (fun _ _ => rfl)) (pv 1) (fun _ _ => rfl)) (pa_cons (pe_ix ix_list (pe_ix ix_tup (pv 0) pe_int (fun _ _ => rfl)) (pv 1) (fun _ _ => rfl)) pa_nil))) pa_nil)))) pss_nil)
      (pss_one (ps_ret (pv 2))))), ?_⟩
    obtain ⟨x, ex, rx⟩ := ala.get (i := i) hi
    have zx := F.kz hi
    have arg : ∀ {j : Nat}, j < ps.length → ∃ up, wb[j]? = some up ∧ LR K H up (pv' ps j) ∧ 1 + ((pv' ps j).length + 1) * (40 + 900) ≤ 9000 ∧ (pv' ps j).length ≤ 50 ∧ SzA 960 900 (pv' ps j) := fun {j} hj => by
      obtain ⟨up, eup⟩ : ∃ up, wb[j]? = some up := ⟨_, List.getElem?_eq_getElem (by omega)⟩
      obtain ⟨zp, tp, lp⟩ := F.pz hj
      have : (pv' ps j).length + 1 ≤ 7 := by omega
      have := Nat.mul_le_mul_right (40 + 900) this
      exact ⟨up, eup, alb j up _ eup (pv_at hj), by omega, by omega, zp⟩
    refine ⟨(by show 0 ≤ sizeLine; decide), fun g ng => ?_⟩
    have s1 := Same.new (o := .lst []) ng
    have e1 : upd H g (.lst []) g = some (.lst []) := upd_same
    have gH : ∀ c u, H c = some u → c ≠ g := fun c u e => ne_of_none e ng
    generalize upd H g (.lst []) = H1 at s1 e1
    refine ⟨fun σ H' => σ = [some (.ref t), some (.int (i : Nat)), some (.ref g)] ∧ ∃ vs, H' g = some (.lst vs) ∧ Al K H' vs (limL ks ps i) ∧ Same H H', ?_, ?_⟩
    · refine ⟨_, rfl, _, _, rfl, rfl, _, rfl, ite2 (fun lt => ?_) fun ge => ?_⟩
      · have lt' : 0 < i := by
          have := of_decide_eq_true lt
          omega
        obtain ⟨up, eup, lr, b1, b2, zp⟩ := arg (j := i - 1) (by omega)
        refine ⟨_, rfl, .inl ⟨rfl, _, SqL.of e1⟩, _, rfl, _, _, _, _, rfl, rfl, Kz.Same.seqT s1 ht, rfl, _, rfl, _, _, rfl, rfl, lb, wb, _, _, rfl, rfl, SqL.of (s1 _ _ hb), by rw [show ((i : Nat) : Int) - 1 = ((i - 1 : Nat) : Int) by omega]; exact atI_nat eup,
          _, rfl, _, _, _, _, rfl, rfl, Kz.Same.seqT s1 ht, rfl, _, rfl, la', wa, _, _, rfl, rfl, SqL.of (s1 _ _ ha), atI_nat ex, ?_⟩
        refine ⟨up, x, pv' ps (i - 1), 960, 900, 60, 40, cf ks i, rfl, lr.same s1, zp, rx.same s1, zx, by decide, by decide, b1, b2, by decide, by decide, fun y H2 s2 ry => ?_⟩
        have hg := s2 _ _ e1
        refine ⟨g, [], y, rfl, rfl, hg, (by show 0 < sizeLine; decide), ?_⟩
        have b3 : But g H2 (upd H2 g (.lst ([] ++ [y]))) := But.refl.set
        refine ⟨rfl, _, upd_same, ?_, fun c o e => b3 _ _ (s2 _ _ (s1 _ _ e)) (gH c o e)⟩
        unfold limL
        rw [if_pos lt']
        exact Al.snoc Al.nil (RV.bear hg b3 ry)
      · have ge' : ¬ (0 < i) := fun z => ge (decide_eq_true (by omega))
        refine ⟨rfl, [], e1, ?_, s1⟩
        unfold limL
        rw [if_neg ge']
        exact Al.nil
    · rintro σ H2 ⟨rfl, vs, e2, al2, s2⟩
      refine ⟨_, rfl, _, rfl, _, _, _, _, rfl, rfl, Kz.Same.seqT s2 ht, rfl, lb, wb, rfl, .inl (SqL.of (s2 _ _ hb)), _, _, rfl, rfl, _, rfl, ite2 (fun lt => ?_) fun ge => ?_⟩
      · have lt' : i < ps.length := by
          have := of_decide_eq_true lt
          omega
        obtain ⟨up, eup, lr, b1, b2, zp⟩ := arg (j := i) lt'
        have vl : vs.length ≤ 1 := by
          rw [al2.1]
          unfold limL
          by_cases c : 0 < i
          · rw [if_pos c]
            exact Nat.le_refl _
          · rw [if_neg c]
            exact Nat.zero_le _
        refine ⟨_, rfl, .inl ⟨rfl, _, SqL.of e2⟩, _, rfl, _, _, _, _, rfl, rfl, Kz.Same.seqT s2 ht, rfl, _, rfl, lb, wb, _, _, rfl, rfl, SqL.of (s2 _ _ hb), atI_nat eup,
          _, rfl, _, _, _, _, rfl, rfl, Kz.Same.seqT s2 ht, rfl, _, rfl, la', wa, _, _, rfl, rfl, SqL.of (s2 _ _ ha), atI_nat ex, ?_⟩
        refine ⟨up, x, pv' ps i, 960, 900, 60, 40, cf ks i, rfl, lr.same s2, zp, rx.same s2, zx, by decide, by decide, b1, b2, by decide, by decide, fun y H3 s3 ry => ?_⟩
        have hg := s3 _ _ e2
        refine ⟨g, vs, y, rfl, rfl, hg, le1000 (by omega), ?_⟩
        have b3 : But g H3 (upd H3 g (.lst (vs ++ [y]))) := But.refl.set
        refine ⟨_, rfl, k _ _ (fun c o e => b3 _ _ (s3 _ _ (s2 _ _ e)) (gH c o e)) ⟨g, _, rfl, upd_same, ?_⟩⟩
        unfold lims limR
        rw [if_pos lt']
        exact Al.snoc (Al.bear hg b3 (al2.same s3)) (RV.bear hg b3 ry)
      · have ge' : ¬ (i < ps.length) := fun z => ge (decide_eq_true (by omega))
        refine ⟨_, rfl, k _ _ s2 ⟨g, vs, rfl, e2, ?_⟩⟩
        unfold lims limR
        rw [if_neg ge', List.append_nil]
        exact al2
end
end Kz
set_option linter.all false
set_option maxRecDepth 100000
set_option maxHeartbeats 4000000
namespace Kz
open PySem PySem.Spec PyProof.Rows L2
theorem lims_mem {ks : List Rat} {ps : List (List Rat)} {k : Nat} {q : Rat} (h : q ∈ lims ks ps k) (l : ks.length = ps.length + 1) (hk : k < ks.length) : ∃ j, j < ps.length ∧ q = ev (pv' ps j) (cf ks k) := by
  rcases List.mem_append.mp h with h | h
  · unfold limL at h
    by_cases c : 0 < k
    · rw [if_pos c, List.mem_singleton] at h
      exact ⟨k - 1, by omega, h⟩
    · rw [if_neg c] at h
      cases h
  · unfold limR at h
    by_cases c : k < ps.length
    · rw [if_pos c, List.mem_singleton] at h
      exact ⟨k, c, h⟩
    · rw [if_neg c] at h
      cases h
theorem ev_mz2 {p : List Rat} {x : Rat} {α β : Nat} (zx : Mz α β x) (ha : 4 ≤ α) (zp : ∀ i, Mz 4 12 (cf p (i + 1))) (z0 : Mz 60 900 (cf p 0)) (l : p.length ≤ 6) : Mz (6 * (α + 1) + 60) (1 + 5 * (β + 12) + β + 900) (ev p x) := by
  unfold ev
  rcases Nat.eq_zero_or_pos p.length with e | h
  · rw [e]
    exact mz_zero (by omega)
  · have z := (hn_mz (N := p.length) zx zp z0 ha (by decide) h (p.length - 1)).2 (by omega)
    have l1 : (p.length - 1) * (α + 1) ≤ 5 * (α + 1) := Nat.mul_le_mul_right _ (by omega)
    have l2 : (p.length - 1) * (β + 12) ≤ 5 * (β + 12) := Nat.mul_le_mul_right _ (by omega)
    exact z.up (by omega) (by omega)
theorem Fsz.lim {ks : List Rat} {ps : List (List Rat)} (F : Fsz ks ps) {k : Nat} (hk : k < ks.length) {q : Rat} (h : q ∈ lims ks ps k) : Mz 186 1201 q := by
  obtain ⟨j, hj, rfl⟩ := lims_mem h F.len hk
  obtain ⟨a, b, _, c⟩ := F.zp _ (pv_mem hj)
  exact (ev_mz2 (F.zk _ (cf_mem hk)) (by decide) a b c).up (by decide) (by decide)
theorem lims_len {ks : List Rat} {ps : List (List Rat)} {k : Nat} : (lims ks ps k).length ≤ 2 := by
  unfold lims limL limR
  rw [List.length_append]
  by_cases c : 0 < k <;> by_cases d : k < ps.length <;> simp [c, d]
/-- whether some limit is above, below the number at its knot -/
def abv (ks : List Rat) (ps : List (List Rat)) (as : List Rat) (n : Nat) : Bool := (List.range n).any fun k => (lims ks ps k).any fun q => decide (cf as k < q)
def blw (ks : List Rat) (ps : List (List Rat)) (as : List Rat) (n : Nat) : Bool := (List.range n).any fun k => (lims ks ps k).any fun q => decide (q < cf as k)
section
variable {P : Program} {w : World} {K : PySem.W.Frag} {mg : Str → Option Value} {base : Heap}
end
end Kz
set_option linter.all false
set_option maxRecDepth 100000
set_option maxHeartbeats 4000000
namespace Kz
open PySem PySem.Spec PyProof.Rows L2
section
variable {P : Program} {w : World} {K : PySem.W.Frag} {mg : Str → Option Value} {base : Heap}
end
end Kz
set_option linter.all false
set_option maxRecDepth 100000
set_option maxHeartbeats 4000000
namespace Kz
open PySem PySem.Spec PyProof.Rows L2
/-- a function cut at more knots -/
structure CutOf (ks : List Rat) (ps : List (List Rat)) (as qs : List Rat) (ps' : List (List Rat)) (as' : List Rat) : Prop where
  len : qs.length = ps'.length + 1
  lat : as'.length = qs.length
  pc : ∀ i, i < ps'.length → ∃ k, k < ps.length ∧ Within ks (mid (cf qs i) (cf qs (i + 1))) k ∧ pv' ps' i = pv' ps k
  at_ : ∀ i, i < qs.length → Vat ks ps as (cf qs i) (cf as' i)
theorem LRR.snoc {K : PySem.W.Frag} {H : Hp} {l : Addr} {vs : List V} {ps : List (List Rat)} {u : V} {p : List Rat} (n : vs.length = ps.length) (al : ∀ (i : Nat) (u : V) (p : List Rat), vs[i]? = some u → ps[i]? = some p → LR K H u p) (h : LR K H u p) :
    (vs ++ [u]).length = (ps ++ [p]).length ∧ ∀ (i : Nat) (u' : V) (p' : List Rat), (vs ++ [u])[i]? = some u' → (ps ++ [p])[i]? = some p' → LR K H u' p' := by
  refine ⟨by simp [n], fun i u' p' e1 e2 => ?_⟩
  rcases Nat.lt_or_ge i vs.length with c | c
  · rw [List.getElem?_append_left c] at e1
    rw [List.getElem?_append_left (by omega)] at e2
    exact al i u' p' e1 e2
  · rw [List.getElem?_append_right c] at e1
    rw [List.getElem?_append_right (by omega)] at e2
    rw [n] at e1
    cases hj : i - ps.length with
    | zero =>
      rw [hj] at e1 e2
      cases e1
      cases e2
      exact h
    | succ j =>
      rw [hj] at e1
      cases e1
theorem LR.bear {K : PySem.W.Frag} {D : Addr} {H H' : Hp} {v : V} {qs : List Rat} {us : List V} (hD : H D = some (.lst us)) (b : But D H H') (h : LR K H v qs) (nD : v ≠ .ref D) : LR K H' v qs := by
  obtain ⟨l, vs, e, hl, al⟩ := h
  exact ⟨l, vs, e, b _ _ hl (fun z => nD (by rw [e, z])), Al.bear hD b al⟩
theorem cf_snoc {qs : List Rat} {q : Rat} {j : Nat} : cf (qs ++ [q]) j = if j = qs.length then q else cf qs j := by
  by_cases c : j = qs.length
  · rw [if_pos c, c]
    exact cf_at (by simp)
  · rw [if_neg c]
    unfold cf
    rw [List.getD_eq_getElem?_getD, List.getD_eq_getElem?_getD]
    rcases Nat.lt_or_ge j qs.length with d | d
    · rw [List.getElem?_append_left d]
    · rw [List.getElem?_eq_none (by simp; omega), List.getElem?_eq_none d]
theorem pv_snoc {ps : List (List Rat)} {p : List Rat} {j : Nat} : pv' (ps ++ [p]) j = if j = ps.length then p else pv' ps j := by
  unfold pv'
  rw [List.getD_eq_getElem?_getD, List.getD_eq_getElem?_getD]
  by_cases c : j = ps.length
  · rw [if_pos c, c]
    simp
  · rw [if_neg c]
    rcases Nat.lt_or_ge j ps.length with d | d
    · rw [List.getElem?_append_left d]
    · rw [List.getElem?_eq_none (by simp; omega), List.getElem?_eq_none d]
section
variable {P : Program} {w : World} {K : PySem.W.Frag} {mg : Str → Option Value} {base : Heap}
end
end Kz
set_option linter.all false
set_option maxRecDepth 100000
set_option maxHeartbeats 4000000
namespace Kz
open PySem PySem.Spec PyProof.Rows L2
theorem rsm_mz {q : Rat} {m a : Nat} (h : Rsm m q) (hm : m < 2 ^ a) : Mz a 7 q := by
  obtain ⟨h1, h2⟩ := h
  have d0 := den_pos' q
  have d0' : 0 < q.den := by omega
  refine ⟨Nat.lt_of_le_of_lt h2 (Nat.mul_lt_mul_of_pos_right hm d0'), ?_⟩
  have : (2 : Nat) ^ 7 = 128 := by decide
  omega
theorem divInt_pos {a b : Int} (ha : 0 < a) (hb : 0 < b) : 0 < Rat.divInt a b := by
  rw [Rat.divInt_eq_div, Rat.div_def]
  have h1 : (0 : Rat) < (a : Rat) := by exact_mod_cast ha
  have h2 : (0 : Rat) < (b : Rat) := by exact_mod_cast hb
  exact Rat.mul_pos h1 (Rat.inv_pos.mpr h2)
theorem divInt_le1 {a b : Int} (hb : 0 < b) (h : a ≤ b) : Rat.divInt a b ≤ 1 := by
  rw [Rat.divInt_eq_div, Rat.div_def]
  have h2 : (0 : Rat) < (b : Rat) := by exact_mod_cast hb
  have h3 : (a : Rat) ≤ (b : Rat) := by exact_mod_cast h
  have h4 := Rat.inv_pos.mpr h2
  have h5 := Rat.mul_le_mul_of_nonneg_right h3 (Rat.le_of_lt h4)
  rw [Rat.mul_inv_cancel _ (fun z => by rw [z] at h2; exact absurd h2 Rat.lt_irrefl)] at h5
  exact h5
theorem part_in {x wd t : Rat} (h : 0 < wd) (h0 : 0 < t) (h1 : t ≤ 1) : x ≤ x + wd * t ∧ x + wd * t ≤ x + wd := by
  have a : 0 < wd * t := Rat.mul_pos h h0
  have b : wd * t ≤ wd * 1 := Rat.mul_le_mul_of_nonneg_left h1 (Rat.le_of_lt h)
  rw [Rat.mul_one] at b
  constructor <;> grind
theorem wd_eq {x wd : Rat} : x + wd - x = wd := by grind
/-- a stretch, and the places on it -/
structure Iv (x wd : Rat) : Prop where
  pos : 0 < wd
  zx : Mz 4 7 x
  zw : Mz 5 14 wd
  zh : Mz 5 10 (x + wd)
  zt : ∀ t b : Int, 0 ≤ t → t ≤ b → 0 < b → b ≤ 24 → Mz 8 19 (x + wd * Rat.divInt t b)
section
variable {P : Program} {w : World} {K : PySem.W.Frag} {mg : Str → Option Value} {base : Heap}
theorem nd_sub : ∀ {rs F : List Rat}, rs.Nodup → (∀ q ∈ rs, q ∈ F) → rs.length ≤ F.length
  | [], _, _, _ => Nat.zero_le _
  | r :: rs, F, nd, s => by
    have m := s r List.mem_cons_self
    have n1 := List.nodup_cons.mp nd
    have ih := nd_sub (F := F.erase r) n1.2 fun q hq => (List.mem_erase_of_ne (fun e => n1.1 (by rw [← e]; exact hq))).mpr (s q (List.mem_cons_of_mem _ hq))
    rw [List.length_erase_of_mem m] at ih
    have := List.length_pos_of_mem m
    simp only [List.length_cons]
    omega
theorem asc_sub {rs F : List Rat} (h : Asc rs) (s : ∀ q ∈ rs, q ∈ F) : rs.length ≤ F.length := by
  have nd : rs.Nodup := List.Pairwise.imp (fun {a b} c e => by
    rw [e] at c
    exact absurd c Rat.lt_irrefl) h
  exact nd_sub nd s
theorem two_of {rs : List Rat} {a b : Rat} (ha : a ∈ rs) (hb : b ∈ rs) (ne : a ≠ b) : 2 ≤ rs.length := by
  match rs, ha, hb with
  | [], ha, _ => cases ha
  | [c], ha, hb => exact absurd ((List.mem_singleton.mp ha).trans (List.mem_singleton.mp hb).symm) ne
  | _ :: _ :: _, _, _ => simp
/-- a twelfth of the stretch, some times, from x on -/
def Twf (x wd q : Rat) : Prop := ∃ j : Nat, q = x + wd * Rat.divInt (j : Int) 12
theorem tw_lo {x wd : Rat} : Twf x wd x := ⟨0, by
  rw [show Rat.divInt ((0 : Nat) : Int) 12 = 0 by decide +kernel, Rat.mul_zero, Rat.add_zero]⟩
theorem tw_hi {x wd : Rat} : Twf x wd (x + wd) := ⟨12, by
  rw [show Rat.divInt ((12 : Nat) : Int) 12 = 1 by decide +kernel, Rat.mul_one]⟩
/-- knots that are drawn: ascending, from low to high, both among them -/
structure Kn (x wd : Rat) (m : Nat) (rs : List Rat) : Prop where
  asc : Asc rs
  lo : x ∈ rs
  hi : x + wd ∈ rs
  in_ : ∀ q ∈ rs, x ≤ q ∧ q ≤ x + wd ∧ Mz 8 19 q
  two : 2 ≤ rs.length
  few : rs.length ≤ m + 2
  frm : ∀ q ∈ rs, Twf x wd q
def spDknots (K : PySem.W.Frag) : Sp := fun vs H Q _ => ∃ (p c : Addr) (n m : Nat) (u v : V) (x wd : Rat), vs = [.ref p, u, v, .int (m : Nat)] ∧ Pen H p c n ∧ n ≤ 800000 ∧ m ≤ 8 ∧ RV K H u x ∧ RV K H v (x + wd) ∧ Iv x wd ∧
  ∀ y H' rs, Pen H' p c (n + m) → But p H H' → LR K H' y rs → Kn x wd m rs → Q y H'
abbrev nDk : List Str := ["_law_pen_here", "_law_low", "_law_high", "_law_many", "_law_found", "_law_wide", "_law_k"]
theorem sc63k : FnScope nDk ["_law_pen_here", "_law_low", "_law_high", "_law_many"] (defScope (top 76)) := ⟨rfl, rfl, rfl, by decide +kernel, rfl, by decide +kernel, by decide +kernel⟩
theorem ok_dknots (T : Tk P K mg) : FnOk P w K mg base CX0 5 T.l_dknots.f T.l_dknots.fd ["_law_pen_here", "_law_low", "_law_high", "_law_many"] (spDknots K) := by
  have G1 : FnOk P w K mg base CX0 1 T.l_draw.f T.l_draw.fd ["_law_pen_here", "_law_many"] spDraw := ok_ldraw T.toTu
  have G3 : FnOk P w K mg base CX0 2 T.l_q.f T.l_q.fd ["_law_top", "_law_bottom"] (spLq K) := ok_lq T.toTy
  have G4 : FnOk P w K mg base CX0 3 T.l_plus.f T.l_plus.fd ["_law_one", "_law_two"] (spL2 K cBin (fun q r => q + r)) := ok_lplus T.toTy
  have G5 : FnOk P w K mg base CX0 3 T.l_minus.f T.l_minus.fd ["_law_one", "_law_two"] (spL2 K cBin (fun q r => q - r)) := ok_lminus T.toTy
  have G6 : FnOk P w K mg base CX0 3 T.l_times.f T.l_times.fd ["_law_one", "_law_two"] (spL2 K cBin (fun q r => q * r)) := ok_ltimes T.toTy
  have G7 : FnOk P w K mg base CX0 3 T.l_sorted.f T.l_sorted.fd ["_law_some"] (spLsort K) := ok_lsort T
  refine T.l_dknots.fn.ok sc63k (fun vs H Q E h => ?_) (fun cdv A outer s H vs Q E hr h => ?_)
  · obtain ⟨p, c, n, m, u, v, x, wd, rfl, _⟩ := h
    rfl
  · obtain ⟨p, c, n, m, u, v, x, wd, rfl, pen, hn, hm, ru, rv, iv, k⟩ := h
    have hr1 : Room 1 _ := hr.mono (by decide)
    have hr2 : Room 2 _ := hr.mono (by decide)
    have hr3 : Room 3 _ := hr.mono (by decide)
    refine ⟨_, pss_cons (ps_par (i := 4) (j := 5) rfl sc63k.nd rfl rfl (by decide) rfl rfl (pa_cons (pe_lst (pa_cons (pv 1) (pa_cons (pv 2) pa_nil))) (pa_cons (T.l_minus.c0 G5 hr3 (pa_cons (pv 2) (pa_cons (pv 1) pa_nil))) pa_nil)) (by rfl))
      (pss_cons (ps_for PassesOwn.never rfl (pi_range1 rfl T.blt.range (pa_cons (pv 3) pa_nil)) (pg_name (i := 6) sc63k.nd rfl (.inl rfl))
        (pss_one (ps_expr (pe_bm PySem.F.plainAttrs_list PySem.F.slot_list_append PySem.F.type_list_append mt_append (pv 4) (pa_cons
          (T.l_plus.c0 G4 hr3 (pa_cons (pv 1) (pa_cons (T.l_times.c0 G6 hr3 (pa_cons (pv 5) (pa_cons (T.l_q.c0 G3 hr2 (pa_cons (pe_op op_add pe_int (T.l_draw.c0 G1 hr1 (pa_cons (pv 0) (pa_cons pe_int pa_nil)))) (pa_cons pe_int pa_nil))) pa_nil))) pa_nil))) pa_nil)))))
      (pss_one (ps_ret (T.l_sorted.c0 G7 hr3 (pa_cons (pv 4) pa_nil))))), ?_⟩
    have w0 := iv.pos
    have zw := iv.zw
    have zx := iv.zx
    have zh := iv.zh
    refine ⟨_, rfl, _, rfl, (by show 2 ≤ sizeLine; decide), fun g ng => ?_⟩
    have s1 := Same.new (o := .lst [u, v]) ng
    have e1 : upd H g (.lst [u, v]) g = some (.lst [u, v]) := upd_same
    have gH : ∀ c u, H c = some u → c ≠ g := fun c u e => ne_of_none e ng
    have gp := pen.newP ng
    have gc := pen.newC ng
    have pen1 := pen.same s1
    generalize upd H g (.lst [u, v]) = H1 at s1 e1 pen1
    refine ⟨_, rfl, _, rfl, v, u, x + wd, x, _, _, _, _, rfl, (rv.same s1).pq zh.sz, (ru.same s1).pq zx.sz, ⟨by decide, by decide⟩, fun w H2 s2 rw' => ?_⟩
    have rw' : RV K H2 w (x + wd - x) := rw'
    rw [wd_eq] at rw'
    have s12 := s1.trans s2
    refine ⟨_, _, rfl, ?_⟩
    refine ⟨_, rfl, ((m : Nat) : Int), rfl, by omega, by omega, ?_⟩
    refine for_range (lo := 0) (n := ((m : Nat) : Int).toNat) (fun i σ H' => ∃ v6 vs F, σ = [some (.ref p), some u, some v, some (.int (m : Nat)), some (.ref g), some w, v6] ∧ Pen H' p c (n + i) ∧ H' g = some (.lst vs) ∧ Al K H' vs F ∧ F.length = i + 2 ∧ x ∈ F ∧ x + wd ∈ F ∧
        (∀ q ∈ F, x ≤ q ∧ q ≤ x + wd ∧ Mz 8 19 q) ∧ But p H H' ∧ RV K H' w wd ∧ ∀ q ∈ F, Twf x wd q)
      ⟨none, [u, v], [x, x + wd], rfl, pen1.same s2, s2 _ _ e1, Al.snoc (Al.snoc Al.nil (ru.same s12)) (rv.same s12), rfl, by simp, by simp, fun q hq => ?_, But.ofSame s12, rw', fun q hq => by
        simp only [List.mem_cons, List.not_mem_nil, or_false] at hq
        rcases hq with rfl | rfl
        · exact tw_lo
        · exact tw_hi⟩ ?_ ?_
    · simp only [List.mem_cons, List.not_mem_nil, or_false] at hq
      rcases hq with rfl | rfl
      · exact ⟨Rat.le_refl, by grind, zx.up (by decide) (by decide)⟩
      · exact ⟨by grind, Rat.le_refl, zh.up (by decide) (by decide)⟩
    · rintro i σ H3 hi ⟨v6, vs, F, rfl, pen3, hg, af, lf, mx, mh, inn, b3, rw3, fr⟩
      have hi' : i < m := hi
      refine ⟨_, rfl, .inl ⟨rfl, _, SqL.of hg⟩, _, rfl, _, rfl, _, rfl, p, c, _, 11, rfl, pen3, by omega, by decide, by decide, fun d H4 d0 d1 pen4 but4 => ?_⟩
      have hg4 := pen3.lst but4 hg
      refine ⟨_, _, rfl, rfl, 1 + d, 12, rfl, by decide, by exact Nat.lt_of_lt_of_le (show (12 : Int).natAbs < 2 ^ 4 by decide) (Nat.pow_le_pow_right (by decide) (by decide)), fun t H5 s5 rt => ?_⟩
      have t0 : 0 < Rat.divInt (1 + d) 12 := divInt_pos (by omega) (by decide)
      have t1 : Rat.divInt (1 + d) 12 ≤ 1 := divInt_le1 (by decide) (by omega)
      have zt : Mz 0 4 (Rat.divInt (1 + d) 12) := mz_divInt (by decide) (by
        show _ < 1 * 12
        omega) (by decide)
      have ft : ∃ j : Nat, Rat.divInt (1 + d) 12 = Rat.divInt (j : Int) 12 := ⟨(1 + d).toNat, by rw [Int.toNat_of_nonneg (by omega)]⟩
      have zq := iv.zt (1 + d) 12 (by omega) (by omega) (by decide) (by decide)
      generalize Rat.divInt (1 + d) 12 = tt at rt t0 t1 zt ft zq
      have rw5 := (pen3.rv but4 rw3).same s5
      refine ⟨w, t, wd, tt, _, _, _, _, rfl, rw5.pq zw.sz, rt.pq zt.sz, ⟨by decide, by decide⟩, fun y1 H6 s6 ry1 => ?_⟩
      have zy1 := mul_mz zw zt
      have s56 := s5.trans s6
      have b6 : But p H H6 := (b3.trans but4).trans (.ofSame s56)
      refine ⟨u, y1, x, wd * tt, _, _, _, _, rfl, (pen.rv b6 ru).pq zx.sz, ry1.pq zy1.sz, ⟨by decide, by decide⟩, fun y H7 s7 ry => ?_⟩
      have s57 := s56.trans s7
      have hg7 := s57 _ _ hg4
      have vl : vs.length = i + 2 := by rw [af.1, lf]
      refine ⟨g, vs, y, rfl, rfl, hg7, le1000 (by omega), ?_⟩
      have b8 : But g H7 (upd H7 g (.lst (vs ++ [y]))) := But.refl.set
      have af7 := (pen3.al but4 af).same s57
      obtain ⟨in1, in2⟩ := part_in (x := x) w0 t0 t1
      refine ⟨_, vs ++ [y], F ++ [x + wd * tt], rfl, ((pen4.same s57).set gp gc).more (by omega), upd_same, Al.snoc (Al.bear hg7 b8 af7) (RV.bear hg7 b8 ry), by simp [lf], by simp [mx], by simp [mh], fun q hq => ?_, fun c' o e nc => ?_, RV.bear hg7 b8 (rw5.same (s6.trans s7)), fun q hq => by
        rcases List.mem_append.mp hq with hq | hq
        · exact fr q hq
        · rw [List.mem_singleton.mp hq]
          obtain ⟨j, e⟩ := ft
          exact ⟨j, by rw [e]⟩⟩
      · rcases List.mem_append.mp hq with hq | hq
        · exact inn q hq
        · rw [List.mem_singleton.mp hq]
          exact ⟨in1, in2, zq⟩
      · exact b8 _ _ (s57 _ _ (but4 _ _ (b3 _ _ e nc) nc)) (gH _ _ e)
    · rintro σ H3 ⟨v6, vs, F, rfl, pen3, hg, af, lf, mx, mh, inn, b3, rw3, fr⟩
      rw [show ((m : Nat) : Int).toNat = m from rfl] at pen3 lf
      refine ⟨_, rfl, .ref g, F, 27, 19, rfl, ⟨g, vs, rfl, hg, af⟩, by omega, fun j hj => (inn _ (cf_mem hj)).2.2.sz, by decide, by decide, fun y H4 rs s4 lr asc mem => ?_⟩
      have sub : ∀ q ∈ rs, q ∈ F := fun q hq => (mem q).mp hq
      have few : rs.length ≤ F.length := asc_sub asc sub
      have ne : x ≠ x + wd := fun e => by
        have : x < x + wd := by grind
        rw [← e] at this
        exact absurd this Rat.lt_irrefl
      have two : 2 ≤ rs.length := two_of ((mem x).mpr mx) ((mem _).mpr mh) ne
      exact k y H4 rs (pen3.same s4) (b3.trans (.ofSame s4)) lr ⟨asc, (mem x).mpr mx, (mem _).mpr mh, fun q hq => inn q (sub q hq), two, by omega, fun q hq => fr q (sub q hq)⟩
end
end Kz
set_option linter.all false
set_option maxRecDepth 100000
set_option maxHeartbeats 4000000
namespace Kz
open PySem PySem.Spec PyProof.Rows L2
/-- all but the pen and one list stay -/
def B2 (p g : Addr) (H H' : Hp) : Prop := ∀ c o, H c = some o → c ≠ p → c ≠ g → H' c = some o
theorem B2.refl {p g : Addr} {H : Hp} : B2 p g H H := fun _ _ e _ _ => e
theorem B2.trans {p g : Addr} {H H1 H2 : Hp} (a : B2 p g H H1) (b : B2 p g H1 H2) : B2 p g H H2 := fun c o e n1 n2 => b c o (a c o e n1 n2) n1 n2
theorem B2.but {p g : Addr} {H H1 H2 : Hp} (a : B2 p g H H1) (b : But p H1 H2) : B2 p g H H2 := fun c o e n1 n2 => b c o (a c o e n1 n2) n1
theorem B2.set {p g : Addr} {H H1 : Hp} {o : HO} (a : B2 p g H H1) : B2 p g H (upd H1 g o) := fun c u e n1 n2 => by
  rw [upd_ne n2]
  exact a c u e n1 n2
section
variable {K : PySem.W.Frag} {H H' : Hp} {p g c : Addr} {n : Nat} {us : List V}
theorem B2.rv {v : V} {q : Rat} (pen : Pen H p c n) (hg : H g = some (.lst us)) (b : B2 p g H H') (h : RV K H v q) : RV K H' v q := by
  obtain ⟨t, e, r⟩ := h
  obtain ⟨ns, i, d, m, f, e1, _⟩ := pen
  refine ⟨t, e, ?_⟩
  have np : ∀ {o : HO}, H t = some o → (∀ kvs, o ≠ .dK kvs) → t ≠ p := fun {o} e u z => by
    rw [z, e1] at e
    exact u _ (Option.some.inj e).symm
  have ng : ∀ {o : HO}, H t = some o → (∀ us, o ≠ .lst us) → t ≠ g := fun {o} e u z => by
    rw [z, hg] at e
    exact u _ (Option.some.inj e).symm
  rcases r with (r | ⟨o, r⟩) | r
  · exact .inl (.inl (b _ _ r (np r fun _ z => nomatch z) (ng r fun _ z => nomatch z)))
  · exact .inl (.inr ⟨o, b _ _ r (np r fun _ z => nomatch z) (ng r fun _ z => nomatch z)⟩)
  · exact .inr r
theorem B2.al {vs : List V} {qs : List Rat} (pen : Pen H p c n) (hg : H g = some (.lst us)) (b : B2 p g H H') (h : Al K H vs qs) : Al K H' vs qs := ⟨h.1, fun i v q e1 e2 => b.rv pen hg (h.2 i v q e1 e2)⟩
theorem B2.lr {v : V} {qs : List Rat} (pen : Pen H p c n) (hg : H g = some (.lst us)) (b : B2 p g H H') (h : LR K H v qs) (nv : v ≠ .ref g) : LR K H' v qs := by
  obtain ⟨l, vs, e, hl, al⟩ := h
  exact ⟨l, vs, e, b _ _ hl (pen.off hl fun _ z => nomatch z) (fun z => nv (by rw [e, z])), b.al pen hg al⟩
/-- rows, none of which is at g -/
def Rows (K : PySem.W.Frag) (g : Addr) (H : Hp) (vs : List V) (ps : List (List Rat)) : Prop := vs.length = ps.length ∧ ∀ (i : Nat) (u : V) (p : List Rat), vs[i]? = some u → ps[i]? = some p → LR K H u p ∧ u ≠ .ref g
theorem Rows.nil {H : Hp} : Rows K g H [] [] := ⟨rfl, fun _ _ _ e => by cases e⟩
theorem Rows.same {vs : List V} {ps : List (List Rat)} (s : Same H H') (h : Rows K g H vs ps) : Rows K g H' vs ps := ⟨h.1, fun i u p a b => ⟨(h.2 i u p a b).1.same s, (h.2 i u p a b).2⟩⟩
theorem Rows.b2 {vs : List V} {ps : List (List Rat)} (pen : Pen H p c n) (hg : H g = some (.lst us)) (b : B2 p g H H') (h : Rows K g H vs ps) : Rows K g H' vs ps := ⟨h.1, fun i u p a d => ⟨b.lr pen hg (h.2 i u p a d).1 (h.2 i u p a d).2, (h.2 i u p a d).2⟩⟩
theorem Rows.snoc {vs : List V} {ps : List (List Rat)} {u : V} {p : List Rat} (h : Rows K g H vs ps) (r : LR K H u p) (nu : u ≠ .ref g) : Rows K g H (vs ++ [u]) (ps ++ [p]) := by
  have n := h.1
  refine ⟨by simp [n], fun i u' p' e1 e2 => ?_⟩
  rcases Nat.lt_or_ge i vs.length with c | c
  · rw [List.getElem?_append_left c] at e1
    rw [List.getElem?_append_left (by omega)] at e2
    exact h.2 i u' p' e1 e2
  · rw [List.getElem?_append_right c] at e1
    rw [List.getElem?_append_right (by omega)] at e2
    rw [n] at e1
    cases hj : i - ps.length with
    | zero =>
      rw [hj] at e1 e2
      cases e1
      cases e2
      exact ⟨r, nu⟩
    | succ j =>
      rw [hj] at e1
      cases e1
theorem Rows.lrr {vs : List V} {ps : List (List Rat)} {l : Addr} (h : Rows K g H vs ps) (hl : H l = some (.lst vs)) : LRR K H (.ref l) ps := ⟨l, vs, rfl, hl, h.1, fun i u p a b => (h.2 i u p a b).1⟩
end
end Kz
set_option linter.all false
set_option maxRecDepth 100000
set_option maxHeartbeats 4000000
namespace Kz
open PySem PySem.Spec PyProof.Rows L2
/-! ### rows that the law's own functions make are new -/
section
variable {P : Program} {w : World} {K : PySem.W.Frag} {mg : Str → Option Value} {base : Heap}
def spLpolyF (K : PySem.W.Frag) : Sp := fun vs H Q _ => ∃ v qs, vs = [v] ∧ LR K H v qs ∧ qs.length ≤ 1000 ∧ ∀ u H' rs, Same H H' → LR K H' u rs → Tr rs → rs.length ≤ qs.length → (∀ i, cf rs i = cf qs i) → (∀ a, u = .ref a → H a = none) → Q u H'
theorem ok_lpolyF (T : Tv P K mg) : FnOk P w K mg base CX0 1 T.l_poly.f T.l_poly.fd ["_law_numbers"] (spLpolyF K) := by
  refine T.l_poly.fn.ok sc48 (fun vs H Q E h => ?_) (fun cdv A outer s H vs Q E hr h => ?_)
  · obtain ⟨v, qs, rfl, _⟩ := h
    rfl
  · obtain ⟨v, qs, rfl, ⟨l, ws, rfl, hl, al⟩, len, k⟩ := h
    have hu := hr.units
    refine ⟨_, pss_cons (ps_set (i := 1) sc48.nd rfl (.inl rfl) (pe_callTy call_list_of (by rfl) T.blt.list boot_tlist (pa_cons (pv 0) pa_nil)))
      (pss_cons (ps_for PassesOwn.never rfl (pi_range1 rfl T.blt.range (pa_cons (pe_callB call_len_seq (by rfl) T.blt.len PySem.boot_len (pa_cons (pv 0) pa_nil)) pa_nil)) (pg_name (i := 2) sc48.nd rfl (.inl rfl))
        (pss_cons (ps_if (PW.pt (pw_or (pt_cmpR (op_eqD hu) (pv 1) (pe_lst pa_nil) (nomark _)) (pw_or1 (pt_cmpR op_ne (pe_ix ix_tup (pe_ix ix_list (pv 1) (pe_un un_neg pe_int) (fun _ _ => rfl)) pe_int (fun _ _ => rfl)) pe_int (nomark _))))) (pss_one ps_break) pss_nil)
        (pss_one (ps_expr (pe_bm0 PySem.F.plainAttrs_list PySem.F.slot_list_pop PySem.F.type_list_pop mt_pop (pv 1))))))
      (pss_one (ps_ret (pv 1)))), ?_⟩
    refine ⟨_, rfl, l, ws, rfl, .inl (SqL.of hl), fun f nf => ?_⟩
    have s1 := Same.new (o := .lst ws) nf
    have e1 : upd H f (.lst ws) f = some (.lst ws) := upd_same
    generalize upd H f (.lst ws) = H1 at s1 e1
    have fl : f ≠ l := (ne_of_none hl nf).symm
    refine ⟨_, rfl, l, ws, rfl, .inl (SqL.of (s1 _ _ hl)), ((ws.length : Nat) : Int), rfl, by omega, by have := al.1; omega, ?_⟩
    refine for_range (lo := 0) (n := ((ws.length : Nat) : Int).toNat) (fun i σ H' => i ≤ qs.length ∧ ∃ v2 vs R, σ = [some (.ref l), some (.ref f), v2] ∧ H' f = some (.lst vs) ∧ Al K H' vs R ∧ R.length = qs.length - i ∧ (∀ j, cf R j = cf qs j) ∧ Same H H')
      ⟨Nat.zero_le _, none, ws, qs, rfl, e1, al.same s1, rfl, fun _ => rfl, s1⟩ ?_ ?_
    · rintro i σ H2 hi ⟨_, v2, vs, R, rfl, hf, ar, lr, er, s2⟩
      have hi' : i < qs.length := by
        have : i < ws.length := hi
        have := al.1
        omega
      refine ⟨_, rfl, (by show 0 ≤ sizeLine; decide), fun z nz => ?_⟩
      have s3 := Same.new (o := .lst []) nz
      have ez : upd H2 z (.lst []) z = some (.lst []) := upd_same
      generalize upd H2 z (.lst []) = H3 at s3 ez
      have hf3 := s3 _ _ hf
      have ar3 := ar.same s3
      refine ⟨pdR R, pdR [], .lst (SqL.of hf3) ar3.dp, .lst (SqL.of ez) .nil, pdR_shaped R, pdR_shaped [], _, rfl, ?_⟩
      rw [pdR_nil]
      have tl : Tr R → _ := fun tr => k (.ref f) H3 R (s2.trans s3) ⟨f, vs, rfl, hf3, ar3⟩ tr (by omega) er (fun a e => by cases e; exact nf)
      by_cases e0 : R = []
      · rw [decide_eq_true e0]
        refine iteT (iteT ⟨_, rfl, tl ?_⟩)
        intro j ej
        rw [e0] at ej
        cases ej
      · rw [decide_eq_false e0]
        have l0 : 0 < R.length := List.length_pos_iff.mpr e0
        obtain ⟨vl, el, rl⟩ := ar3.get (i := R.length - 1) (by omega)
        obtain ⟨t, rfl, ht⟩ := rl
        refine iteF ⟨_, rfl, _, rfl, f, vs, _, _, rfl, rfl, SqL.of hf3, atI_last (by rw [ar.1]; exact el), t, _, _, _, rfl, rfl, ht, atI_nat (j := 0) rfl, rfl, _, rfl, ?_⟩
        by_cases z0 : (cf R (R.length - 1)).num = 0
        · rw [z0]
          refine iteNS rfl ?_
          refine ⟨_, rfl, .inl ⟨rfl, _, SqL.of hf3⟩, f, vs, _, rfl, rfl, hf3, by rw [ar.1]; exact el, ?_⟩
          have b4 : But f H3 (upd H3 f (.lst vs.dropLast)) := But.refl.set
          refine ⟨hi', _, vs.dropLast, R.take (R.length - 1), rfl, upd_same, ?_, by rw [List.length_take]; omega, fun j => ?_, fun c o e => b4 _ _ (s3 _ _ (s2 _ _ e)) (ne_of_none e nf)⟩
          · have e : vs.dropLast = vs.take (R.length - 1) := by rw [List.dropLast_eq_take, ar.1]
            have z := (Al.bear hf3 b4 ar3).take (R.length - 1)
            rw [← e] at z
            exact z
          · rw [← er j]
            rcases Nat.lt_or_ge j (R.length - 1) with lt | ge
            · exact cf_take lt
            · rw [cf_out (by rw [List.length_take]; omega)]
              rcases Nat.eq_or_lt_of_le ge with e | lt
              · rw [← e]
                exact (Rat.num_eq_zero.mp z0).symm
              · exact (cf_out (by omega)).symm
        · rw [decide_eq_false (p := V.int _ = V.int 0) (fun z => z0 (V.int.inj z))]
          refine iteT ⟨_, rfl, tl ?_⟩
          intro j ej
          have : j = R.length - 1 := by omega
          subst this
          exact fun c => z0 (by rw [c]; rfl)
    · rintro σ H2 ⟨_, v2, vs, R, rfl, hf, ar, lr, er, s2⟩
      have e : ((ws.length : Nat) : Int).toNat = qs.length := al.1
      rw [e, Nat.sub_self] at lr
      refine ⟨_, rfl, k (.ref f) H2 R s2 ⟨f, vs, rfl, hf, ar⟩ ?_ (by omega) er (fun a e => by cases e; exact nf)⟩
      intro j ej
      omega
end
end Kz
set_option linter.all false
set_option maxRecDepth 100000
set_option maxHeartbeats 4000000
namespace Kz
open PySem PySem.Spec PyProof.Rows L2
theorem gone_same {H H' : Hp} {a : Addr} (s : Same H H') (n : H' a = none) : H a = none := by
  cases e : H a with
  | none => rfl
  | some o =>
    rw [s _ _ e] at n
    cases n
section
variable {P : Program} {w : World} {K : PySem.W.Frag} {mg : Str → Option Value} {base : Heap}
def spLplF (K : PySem.W.Frag) (f : Rat → Rat → Rat) : Sp := fun vs H Q _ => ∃ v u qs rs n m n' m', vs = [v, u] ∧ LR K H v qs ∧ LR K H u rs ∧ SzA n m qs ∧ SzA n' m' rs ∧ 0 < n ∧ 0 < m ∧ 0 < n' ∧ 0 < m' ∧ n + n' + m + m' ≤ 700000 ∧ m + m' ≤ 8000 ∧ qs.length ≤ 400 ∧ rs.length ≤ 400 ∧
  ∀ x H' ts, Same H H' → LR K H' x ts → Tr ts → ts.length ≤ max qs.length rs.length → (∀ i, cf ts i = f (cf qs i) (cf rs i)) → (∀ a, x = .ref a → H a = none) → Q x H'
theorem ok_lpplusF (T : Tv P K mg) : FnOk P w K mg base CX0 4 T.l_pplus.f T.l_pplus.fd ["_law_one", "_law_two"] (spLplF K (fun a b => a + b)) := by
  have G1 : FnOk P w K mg base CX0 1 T.l_poly.f T.l_poly.fd ["_law_numbers"] (spLpolyF K) := ok_lpolyF T
  have G2 : FnOk P w K mg base CX0 3 T.l_plus.f T.l_plus.fd ["_law_one", "_law_two"] (spL2 K cBin (fun q r => q + r)) := ok_lplus T.toTy
  refine T.l_pplus.fn.ok sc49 (fun vs H Q E h => ?_) (fun cdv A outer s H vs Q E hr h => ?_)
  · obtain ⟨v, u, qs, rs, n, m, n', m', rfl, _⟩ := h
    rfl
  · obtain ⟨v, u, qs, rs, n, m, n', m', rfl, ⟨l, ws, rfl, hl, al⟩, ⟨l', ws', rfl, hl', al'⟩, zq, zr, n0, m0, n0', m0', b1, b2, l2, l2', k⟩ := h
    refine ⟨_, pss_cons (ps_set (i := 2) sc49.nd rfl (.inl rfl) (pe_callB (cr_max rfl) (by rfl) T.mMax boot_max2 (pa_cons (pe_lst (pa_cons (pe_callB call_len_seq (by rfl) T.blt.len PySem.boot_len (pa_cons (pv 0) pa_nil)) (pa_cons (pe_callB call_len_seq (by rfl) T.blt.len PySem.boot_len (pa_cons (pv 1) pa_nil)) pa_nil))) pa_nil)))
      (pss_cons (ps_par (i := 3) (j := 4) rfl sc49.nd rfl rfl (by decide) rfl rfl (pa_cons (pe_op op_cat (pv 0) (pe_op op_rep (pe_lst (pa_cons (pe_tup (pa_cons pe_int (pa_cons pe_int pa_nil))) pa_nil)) (pe_op op_sub (pv 2) (pe_callB call_len_seq (by rfl) T.blt.len PySem.boot_len (pa_cons (pv 0) pa_nil)))))
          (pa_cons (pe_op op_cat (pv 1) (pe_op op_rep (pe_lst (pa_cons (pe_tup (pa_cons pe_int (pa_cons pe_int pa_nil))) pa_nil)) (pe_op op_sub (pv 2) (pe_callB call_len_seq (by rfl) T.blt.len PySem.boot_len (pa_cons (pv 1) pa_nil))))) pa_nil)) (by rfl))
      (pss_one (ps_ret (T.l_poly.c0 G1 (hr.mono (by decide)) (pa_cons (pe_lc (own := [("_law_a", 5), ("_law_b", 6)]) (g := gTup K 2 (gCons (gName 5) (gCons (gName 6) gNil))) (tt := tYes) rfl sc49.nd (pi_zip (by rfl) T.mZip (pa_cons (pv 3) (pa_cons (pv 4) pa_nil))) (blkOk_by (own := [("_law_a", 5), ("_law_b", 6)]) (N := nPl) (sc := defScope (top 69)) (by decide +kernel))
        (fun _ _ _ _ _ => pg_tup (by rfl) (pgs_cons (pg_name (i := 5) sc49.nd rfl (Or.inl rfl)) (pgs_cons (pg_name (i := 6) sc49.nd rfl (Or.inl rfl)) pgs_nil))) (fun _ _ _ _ _ => pts_nil) (fun _ _ _ _ _ => T.l_plus.c0 G2 hr (pa_cons (pv 5) (pa_cons (pv 6) pa_nil)))) pa_nil))))), ?_⟩
    have la := al.1
    have la' := al'.1
    refine ⟨_, rfl, l, ws, rfl, .inl (SqL.of hl), _, rfl, l', ws', rfl, .inl (SqL.of hl'), (by show 2 ≤ sizeLine; decide), fun y ny => ?_⟩
    have s1 := Same.new (o := .lst [.int ((ws.length : Nat) : Int), .int ((ws'.length : Nat) : Int)]) ny
    have ey : upd H y (.lst [.int ((ws.length : Nat) : Int), .int ((ws'.length : Nat) : Int)]) y = some (.lst [.int ((ws.length : Nat) : Int), .int ((ws'.length : Nat) : Int)]) := upd_same
    generalize upd H y (.lst [.int ((ws.length : Nat) : Int), .int ((ws'.length : Nat) : Int)]) = H1 at s1 ey
    refine ⟨y, [((ws.length : Nat) : Int), ((ws'.length : Nat) : Int)], rfl, SqL.of ey, (by show 0 < 2; decide), fun mx mem all => ?_⟩
    have em : mx = ((max qs.length rs.length : Nat) : Int) := by
      have h1 := all ((ws.length : Nat) : Int) (by simp)
      have h2 := all ((ws'.length : Nat) : Int) (by simp)
      simp only [List.mem_cons, List.not_mem_nil, or_false] at mem
      omega
    subst em
    generalize hN : max qs.length rs.length = N at k
    have nq : qs.length ≤ N := by omega
    have nr : rs.length ≤ N := by omega
    have n4 : N ≤ 400 := by omega
    -- the first one
    refine ⟨_, rfl, (by show 2 ≤ sizeLine; decide), fun z nz => ?_⟩
    have s2 := s1.trans (Same.new (o := .tup [.int 0, .int 1]) nz)
    have ez : RV K (upd H1 z (.tup [.int 0, .int 1])) (.ref z) 0 := rv_zero (SqT.of upd_same)
    generalize upd H1 z (.tup [.int 0, .int 1]) = H2 at s2 ez
    refine ⟨(by show 1 ≤ sizeLine; decide), fun p np => ?_⟩
    have t3 := Same.new (o := .lst [.ref z]) np
    have ep : upd H2 p (.lst [.ref z]) p = some (.lst [.ref z]) := upd_same
    have s3 := s2.trans t3
    have ez3 := ez.same t3
    generalize upd H2 p (.lst [.ref z]) = H3 at ep s3 ez3
    refine ⟨_, rfl, _, rfl, l, ws, rfl, .inl (SqL.of (s3 _ _ hl)), _, _, rfl, rfl, ?_⟩
    have ek : ((N : Nat) : Int) - ((ws.length : Nat) : Int) = ((N - qs.length : Nat) : Int) := by omega
    refine ⟨p, _, _, rfl, rfl, ep, by omega, by omega, ?_, fun c nc => ?_⟩
    · rw [ek]
      show 1 * (N - qs.length) ≤ sizeLine
      rw [sizeLine_eq]
      omega
    dsimp only []
    rw [ek]
    have tn : (((N - qs.length : Nat) : Int)).toNat = N - qs.length := rfl
    rw [tn]
    have t4 := Same.new (o := .lst (List.replicate (N - qs.length) [V.ref z]).flatten) nc
    have ec : upd H3 c (.lst (List.replicate (N - qs.length) [V.ref z]).flatten) c = some (.lst (List.replicate (N - qs.length) [V.ref z]).flatten) := upd_same
    have s4 := s3.trans t4
    have ac := al_rep (k := N - qs.length) (ez3.same t4)
    generalize upd H3 c (.lst (List.replicate (N - qs.length) [V.ref z]).flatten) = H4 at ec s4 ac
    refine ⟨l, c, _, _, rfl, rfl, s4 _ _ hl, ec, ?_, fun d nd => ?_⟩
    · rw [ac.1, List.length_replicate, la, sizeLine_eq]
      omega
    have t5 := Same.new (o := .lst (ws ++ (List.replicate (N - qs.length) [V.ref z]).flatten)) nd
    have ed : upd H4 d (.lst (ws ++ (List.replicate (N - qs.length) [V.ref z]).flatten)) d = some (.lst (ws ++ (List.replicate (N - qs.length) [V.ref z]).flatten)) := upd_same
    have s5 := s4.trans t5
    have ad : Al K (upd H4 d (.lst (ws ++ (List.replicate (N - qs.length) [V.ref z]).flatten))) (ws ++ (List.replicate (N - qs.length) [V.ref z]).flatten) (padTo N qs) := Al.append (al.same s5) (ac.same t5)
    generalize upd H4 d (.lst (ws ++ (List.replicate (N - qs.length) [V.ref z]).flatten)) = H5 at ed s5 ad
    -- the second one
    refine ⟨_, rfl, (by show 2 ≤ sizeLine; decide), fun z' nz' => ?_⟩
    have t6 := Same.new (o := .tup [.int 0, .int 1]) nz'
    have ez' : RV K (upd H5 z' (.tup [.int 0, .int 1])) (.ref z') 0 := rv_zero (SqT.of upd_same)
    generalize upd H5 z' (.tup [.int 0, .int 1]) = H6 at t6 ez'
    refine ⟨(by show 1 ≤ sizeLine; decide), fun p' np' => ?_⟩
    have t7 := Same.new (o := .lst [.ref z']) np'
    have ep' : upd H6 p' (.lst [.ref z']) p' = some (.lst [.ref z']) := upd_same
    have t57 := t6.trans t7
    have ez7 := ez'.same t7
    generalize upd H6 p' (.lst [.ref z']) = H7 at ep' t57 ez7
    refine ⟨_, rfl, _, rfl, l', ws', rfl, .inl (SqL.of (t57 _ _ (s5 _ _ hl'))), _, _, rfl, rfl, ?_⟩
    have ek' : ((N : Nat) : Int) - ((ws'.length : Nat) : Int) = ((N - rs.length : Nat) : Int) := by omega
    refine ⟨p', _, _, rfl, rfl, ep', by omega, by omega, ?_, fun c' nc' => ?_⟩
    · rw [ek']
      show 1 * (N - rs.length) ≤ sizeLine
      rw [sizeLine_eq]
      omega
    dsimp only []
    rw [ek']
    have tn' : (((N - rs.length : Nat) : Int)).toNat = N - rs.length := rfl
    rw [tn']
    have t8 := Same.new (o := .lst (List.replicate (N - rs.length) [V.ref z']).flatten) nc'
    have ec' : upd H7 c' (.lst (List.replicate (N - rs.length) [V.ref z']).flatten) c' = some (.lst (List.replicate (N - rs.length) [V.ref z']).flatten) := upd_same
    have t58 := t57.trans t8
    have ac' := al_rep (k := N - rs.length) (ez7.same t8)
    generalize upd H7 c' (.lst (List.replicate (N - rs.length) [V.ref z']).flatten) = H8 at ec' t58 ac'
    refine ⟨l', c', _, _, rfl, rfl, t58 _ _ (s5 _ _ hl'), ec', ?_, fun d' nd' => ?_⟩
    · rw [ac'.1, List.length_replicate, la', sizeLine_eq]
      omega
    have t9 := Same.new (o := .lst (ws' ++ (List.replicate (N - rs.length) [V.ref z']).flatten)) nd'
    have ed' : upd H8 d' (.lst (ws' ++ (List.replicate (N - rs.length) [V.ref z']).flatten)) d' = some (.lst (ws' ++ (List.replicate (N - rs.length) [V.ref z']).flatten)) := upd_same
    have t59 := t58.trans t9
    have s9 := s5.trans t59
    have ad' : Al K (upd H8 d' (.lst (ws' ++ (List.replicate (N - rs.length) [V.ref z']).flatten))) (ws' ++ (List.replicate (N - rs.length) [V.ref z']).flatten) (padTo N rs) := Al.append (al'.same s9) (ac'.same t9)
    have ad9 := ad.same t59
    have ed9 := t59 _ _ ed
    generalize upd H8 d' (.lst (ws' ++ (List.replicate (N - rs.length) [V.ref z']).flatten)) = H9 at ed' s9 ad' ad9 ed9
    generalize ws ++ (List.replicate (N - qs.length) [V.ref z]).flatten = us at ad9 ed9
    generalize ws' ++ (List.replicate (N - rs.length) [V.ref z']).flatten = us' at ad' ed'
    refine ⟨_, _, rfl, ?_⟩
    have lus : us.length = N := ad9.1.trans (padTo_len nq)
    have lus' : us'.length = N := ad'.1.trans (padTo_len nr)
    refine ⟨_, rfl, _, rfl, d, d', us, us', rfl, SqL.of ed9, SqL.of ed', fun D hD => ?_⟩
    refine lc_mapZ (SqL.of ed9) (SqL.of ed') (by omega) (by omega) hD (fun i acc H' => Al K H' acc ((upTo N fun i => cf qs i + cf rs i).take i)) bears_al Al.nil ?_ ?_
    · intro i x y' hx hy acc H' Qk Z T' lg r s nT kk
      have lt : i < N := by
        have := (List.getElem?_eq_some_iff.mp hx).1
        omega
      have s10 := Same.new (o := .tup [x, y']) nT
      have rx := ((ad9.2 i x _ hx (at_cf (by rw [padTo_len nq]; exact lt))).same s).same s10
      have ry := ((ad'.2 i y' _ hy (at_cf (by rw [padTo_len nr]; exact lt))).same s).same s10
      rw [padTo_cf] at rx ry
      refine ⟨T', _, rfl, SqT.of upd_same, rfl, _, _, rfl, _, _, rfl, rfl, rfl, ?_⟩
      dsimp only [tYes]
      refine iteT ⟨_, rfl, _, rfl, x, y', _, _, n, m, n', m', rfl, rx.pq (zq.all n0 m0 i), ry.pq (zr.all n0' m0' i), ⟨by omega, by omega⟩, fun v' H4 s4 rv => kk _ _ (s10.trans s4) ?_⟩
      show Al K H4 (acc ++ [v']) ((upTo N fun i => cf qs i + cf rs i).take (i + 1))
      rw [take_snoc (upTo_at lt)]
      exact (Al.same (s10.trans s4) r).snoc rv
    · intro acc H' hacc lacc r s
      have r' : Al K H' acc ((upTo N fun i => cf qs i + cf rs i).take us.length) := r
      rw [lus, List.take_of_length_le (by rw [upTo_len]; exact Nat.le_refl _)] at r'
      refine ⟨_, _, rfl, ⟨D, acc, rfl, hacc, r'⟩, by rw [upTo_len]; omega, fun x H2 ts s2 lr tr ll e nw => k x H2 ts ((s9.trans s).trans s2) lr tr (by rw [upTo_len] at ll; exact ll) (fun i => ?_) fun a ea => gone_same (s9.trans s) (nw a ea)⟩
      rw [e, upTo_cf]
      intro i ge
      rw [cf_out (qs := qs) (by omega), cf_out (qs := rs) (by omega)]
      exact Rat.add_zero 0
end
end Kz
set_option linter.all false
set_option maxRecDepth 100000
set_option maxHeartbeats 4000000
namespace Kz
open PySem PySem.Spec PyProof.Rows L2
def third : Rat := Rat.divInt 1 3
theorem third_num : third.num = 1 := by decide +kernel
theorem third_den : third.den = 3 := by decide +kernel
theorem rv_third {K : PySem.W.Frag} {H : Hp} {z : Addr} (h : SqT K H z [.int 1, .int 3]) : RV K H (.ref z) third := ⟨z, rfl, by rw [third_num, third_den]; exact h⟩
theorem rv_five {K : PySem.W.Frag} {H : Hp} {z : Addr} (h : SqT K H z [.int 5, .int 1]) : RV K H (.ref z) 5 := ⟨z, rfl, h⟩
/-- what is told besides at a knot -/
def More (q : Rat) : Prop := 0 ≤ q ∧ Mz 3 2 q
theorem more0 : More 0 := ⟨Rat.le_refl, mz_zero (by decide)⟩
theorem more3 : More third := ⟨Rat.le_of_lt (divInt_pos (by decide) (by decide)), by unfold Mz; rw [third_num, third_den]; decide⟩
theorem more5 : More 5 := ⟨by decide +kernel, by decide +kernel, by decide +kernel⟩
theorem lims_pos {ks : List Rat} {ps : List (List Rat)} {k : Nat} (F : Fsz ks ps) (hk : k < ks.length) : 0 < (lims ks ps k).length := by
  have l := F.len
  have o := F.one
  unfold lims limL limR
  rw [List.length_append]
  by_cases c : 0 < k
  · rw [if_pos c]
    show 0 < 1 + _
    omega
  · have d : k < ps.length := by omega
    simp [c, d]
/-- the i-th piece that is drawn -/
def Pz (i : Nat) (p : List Rat) : Prop := (∀ j, Mz 3 7 (cf p (j + 1))) ∧ Mz (44 + 3 * i) (7 + 210 * i) (cf p 0) ∧ Tr p ∧ p.length ≤ 4
theorem Pz.all {i : Nat} {p : List Rat} (h : Pz i p) : ∀ j, Mz (44 + 3 * i) (7 + 210 * i) (cf p j)
  | 0 => h.2.1
  | j + 1 => (h.1 j).up (by omega) (by omega)
theorem Pz.ev {i : Nat} {p : List Rat} (h : Pz i p) {x : Rat} (zx : Mz 8 19 x) : Mz (45 + 3 * i) (105 + 210 * i) (ev p x) := by
  unfold Kz.ev
  rcases Nat.eq_zero_or_pos p.length with e | l
  · rw [e]
    exact mz_zero (by omega)
  · have z := (hn_mz (N := p.length) zx h.1 h.2.1 (by decide) (by omega) l (p.length - 1)).2 (by omega)
    have l1 : (p.length - 1) * (8 + 1) ≤ 3 * (8 + 1) := Nat.mul_le_mul_right _ (by have := h.2.2.2; omega)
    have l2 : (p.length - 1) * (19 + 7) ≤ 3 * (19 + 7) := Nat.mul_le_mul_right _ (by have := h.2.2.2; omega)
    exact z.up (by omega) (by omega)
theorem rsm_pz {p : List Rat} (h : ∀ i, Rsm 3 (cf p i)) (t : Tr p) (l : p.length ≤ 4) (i : Nat) : Pz i p := ⟨fun j => rsm_mz (h (j + 1)) (by decide), (rsm_mz (h 0) (by decide) : Mz 3 7 _).up (by omega) (by omega), t, l⟩
/-- the value of a polynomial, from its lowest number on -/
def pe (f : Nat → Rat) (x : Rat) : Nat → Rat
  | 0 => 0
  | N + 1 => f 0 + x * pe (fun i => f (i + 1)) x N
theorem hn_shift {f : Nat → Rat} {N : Nat} {x : Rat} : ∀ j, j ≤ N → hn f (N + 1) x j = hn (fun i => f (i + 1)) N x j
  | 0, _ => rfl
  | j + 1, h => by
    show hn f (N + 1) x j * x + f (N + 1 - 1 - j) = hn (fun i => f (i + 1)) N x j * x + f (N - 1 - j + 1)
    rw [hn_shift j (by omega), show N + 1 - 1 - j = N - 1 - j + 1 by omega]
theorem hn_pe {x : Rat} : ∀ (N : Nat) (f : Nat → Rat), hn f N x N = pe f x N
  | 0, _ => rfl
  | N + 1, f => by
    show hn f (N + 1) x N * x + f (N + 1 - 1 - N) = f 0 + x * pe (fun i => f (i + 1)) x N
    rw [hn_shift N (Nat.le_refl _), hn_pe N, show N + 1 - 1 - N = 0 by omega, Rat.add_comm, Rat.mul_comm]
theorem pe_zero {x : Rat} : ∀ (N : Nat) (f : Nat → Rat), (∀ i, f i = 0) → pe f x N = 0
  | 0, _, _ => rfl
  | N + 1, f, h => by
    show f 0 + x * pe (fun i => f (i + 1)) x N = 0
    rw [h, pe_zero N _ fun i => h (i + 1), Rat.mul_zero, Rat.add_zero]
theorem pe_cut {x : Rat} : ∀ (M N : Nat) (f : Nat → Rat), (∀ i, M ≤ i → f i = 0) → M ≤ N → pe f x N = pe f x M
  | 0, N, f, h, _ => pe_zero N f fun i => h i (Nat.zero_le _)
  | M + 1, 0, _, _, l => absurd l (Nat.not_succ_le_zero _)
  | M + 1, N + 1, f, h, l => by
    show f 0 + x * pe (fun i => f (i + 1)) x N = f 0 + x * pe (fun i => f (i + 1)) x M
    rw [pe_cut M N _ (fun i hi => h (i + 1) (by omega)) (by omega)]
theorem pe_add {x : Rat} : ∀ (N : Nat) (f g h : Nat → Rat), (∀ i, h i = f i + g i) → pe h x N = pe f x N + pe g x N
  | 0, _, _, _, _ => by show (0 : Rat) = 0 + 0; rw [Rat.add_zero]
  | N + 1, f, g, h, e => by
    show h 0 + x * pe (fun i => h (i + 1)) x N = (f 0 + x * pe (fun i => f (i + 1)) x N) + (g 0 + x * pe (fun i => g (i + 1)) x N)
    rw [e, pe_add N (fun i => f (i + 1)) (fun i => g (i + 1)) _ fun i => e (i + 1)]
    grind
theorem ev_pe {p : List Rat} {x : Rat} {N : Nat} (h : p.length ≤ N) : ev p x = pe (cf p) x N := by
  unfold ev
  rw [hn_pe, pe_cut p.length N _ (fun i hi => cf_out hi) h]
theorem ev_jump {rs js ts : List Rat} {x j : Rat} (e : ∀ i, cf ts i = cf rs i + cf js i) (e0 : cf js 0 = j) (e1 : ∀ i, cf js (i + 1) = 0) : ev ts x = ev rs x + j := by
  let N := max ts.length (max rs.length js.length)
  have h1 : ts.length ≤ N + 1 := by have := Nat.le_max_left ts.length (max rs.length js.length); omega
  have h2 : rs.length ≤ N + 1 := by
    have a := Nat.le_max_right ts.length (max rs.length js.length)
    have b := Nat.le_max_left rs.length js.length
    omega
  rw [ev_pe h1, ev_pe h2, pe_add (N + 1) (cf rs) (cf js) (cf ts) e]
  have : pe (cf js) x (N + 1) = j := by
    show cf js 0 + x * pe (fun i => cf js (i + 1)) x N = j
    rw [e0, pe_zero N _ e1, Rat.mul_zero, Rat.add_zero]
  rw [this]
/-- a plain function goes on at its knots -/
def Go (kd : Str) (ks : List Rat) (pp : List (List Rat)) (j : Nat) : Prop := kd = "plain" → 0 < j → ev (pv' pp (j - 1)) (cf ks j) = ev (pv' pp j) (cf ks j)
/-- the number at a knot, by the kind -/
structure KdAt (kd : Str) (ls : List Rat) (a : Rat) : Prop where
  lo : kd = "lower" → ∀ q ∈ ls, a ≤ q
  up : kd = "upper" → ∀ q ∈ ls, q ≤ a
  pl : kd = "plain" → ∀ q ∈ ls, q = a
theorem kd_snoc {kd : Str} {ks as : List Rat} {pp : List (List Rat)} {i : Nat} {a : Rat} (la : as.length = i) (h : ∀ j, j < i → KdAt kd (lims ks pp j) (cf as j)) (g : KdAt kd (lims ks pp i) a) : ∀ j, j < i + 1 → KdAt kd (lims ks pp j) (cf (as ++ [a]) j) := fun j hj => by
  rw [cf_snoc]
  by_cases c : j = as.length
  · rw [if_pos c, c, la]
    exact g
  · rw [if_neg c]
    exact h j (by omega)
theorem lims_plain {kd : Str} {ks : List Rat} {ps : List (List Rat)} {k : Nat} (g : k < ps.length → Go kd ks ps k) (e : kd = "plain") {q r : Rat} (hq : q ∈ lims ks ps k) (hr : r ∈ lims ks ps k) : q = r := by
  have both : ∀ q ∈ lims ks ps k, q = if 0 < k then ev (pv' ps (k - 1)) (cf ks k) else ev (pv' ps k) (cf ks k) := fun q hq => by
    unfold lims limL limR at hq
    rcases List.mem_append.mp hq with hq | hq
    · by_cases c : 0 < k
      · rw [if_pos c] at hq ⊢
        exact List.mem_singleton.mp hq
      · rw [if_neg c] at hq
        cases hq
    · by_cases d : k < ps.length
      · rw [if_pos d] at hq
        by_cases c : 0 < k
        · rw [if_pos c, g d e c]
          exact List.mem_singleton.mp hq
        · rw [if_neg c]
          exact List.mem_singleton.mp hq
      · rw [if_neg d] at hq
        cases hq
  rw [both q hq, both r hr]
section
variable {P : Program} {w : World} {K : PySem.W.Frag} {mg : Str → Option Value} {base : Heap}
def spDfun (K : PySem.W.Frag) : Sp := fun vs H Q _ => ∃ (p c : Addr) (n : Nat) (u : V) (kd : Str) (ks : List Rat), vs = [.ref p, u, .int 3, .str kd, .int 3] ∧ Pen H p c n ∧ n ≤ 800000 ∧ LR K H u ks ∧ Asc ks ∧ 2 ≤ ks.length ∧ ks.length ≤ 5 ∧ (∀ q ∈ ks, Mz 8 19 q) ∧
  ∀ t H' b d ps as, Pen H' p c (n + 100) → But p H H' → SqT K H' t [u, b, d] → LRR K H' b ps → LR K H' d as → Fsz ks ps → as.length = ks.length → (∀ q ∈ as, Mz 55 737 q) → (∀ j, j < ps.length → Pz j (pv' ps j)) → (∀ j, j < ks.length → KdAt kd (lims ks ps j) (cf as j)) → Q (.ref t) H'
abbrev nDf : List Str := ["_law_pen_here", "_law_knots", "_law_degree", "_law_kind", "_law_most", "_law_polys", "_law_at", "_law_k", "_law_numbers", "_law_j", "_law_poly_here", "_law_jump", "_law_limits", "_law_more"]
theorem sc64k : FnScope nDf ["_law_pen_here", "_law_knots", "_law_degree", "_law_kind", "_law_most"] (defScope (top 77)) := ⟨rfl, rfl, rfl, by decide +kernel, rfl, by decide +kernel, by decide +kernel⟩
theorem ok_dfun (T : Tk P K mg) : FnOk P w K mg base CX0 6 T.l_dfun.f T.l_dfun.fd ["_law_pen_here", "_law_knots", "_law_degree", "_law_kind", "_law_most"] (spDfun K) := by
  have G1 : FnOk P w K mg base CX0 1 T.l_draw.f T.l_draw.fd ["_law_pen_here", "_law_many"] spDraw := ok_ldraw T.toTu
  have G2 : FnOk P w K mg base CX0 3 T.l_ratio.f T.l_ratio.fd ["_law_pen_here", "_law_most"] (spLrat K) := ok_lratio T.toTu
  have G3 : FnOk P w K mg base CX0 1 T.l_poly.f T.l_poly.fd ["_law_numbers"] (spLpolyF K) := ok_lpolyF T.toTv
  have G4 : FnOk P w K mg base CX0 3 T.l_plus.f T.l_plus.fd ["_law_one", "_law_two"] (spL2 K cBin (fun q r => q + r)) := ok_lplus T.toTy
  have G5 : FnOk P w K mg base CX0 3 T.l_minus.f T.l_minus.fd ["_law_one", "_law_two"] (spL2 K cBin (fun q r => q - r)) := ok_lminus T.toTy
  have G6 : FnOk P w K mg base CX0 4 T.l_pat.f T.l_pat.fd ["_law_one", "_law_point"] (spLat K) := ok_lat T.toTv
  have G7 : FnOk P w K mg base CX0 4 T.l_pplus.f T.l_pplus.fd ["_law_one", "_law_two"] (spLplF K (fun a b => a + b)) := ok_lpplusF T.toTv
  have G8 : FnOk P w K mg base CX0 3 T.l_sorted.f T.l_sorted.fd ["_law_some"] (spLsort K) := ok_lsort T
  have G9 : FnOk P w K mg base CX0 5 T.l_flim.f T.l_flim.fd ["_law_f", "_law_k"] (spFlim K) := ok_flim T
  have GA : FnOk P w K mg base CX0 2 T.l_pick.f T.l_pick.fd ["_law_pen_here", "_law_some"] spPick := ok_lpick T.toTu
  refine T.l_dfun.fn.ok sc64k (fun vs H Q E h => ?_) (fun cdv A outer s H vs Q E hr h => ?_)
  · obtain ⟨p, c, n, u, kd, ks, rfl, _⟩ := h
    rfl
  · obtain ⟨p, c, n, u, kd, ks, rfl, pen, hn, hk, asc, k2, k5, zk, k⟩ := h
    have hr1 : Room 1 _ := hr.mono (by decide)
    have hr2 : Room 2 _ := hr.mono (by decide)
    have hr3 : Room 3 _ := hr.mono (by decide)
    have hr4 : Room 4 _ := hr.mono (by decide)
    refine ⟨_, pss_cons (ps_par (i := 5) (j := 6) rfl sc64k.nd rfl rfl (by decide) rfl rfl (pa_cons (pe_lst pa_nil) (pa_cons (pe_lst pa_nil) pa_nil)) (by rfl))
      (pss_cons (ps_for PassesOwn.never rfl (pi_range1 rfl T.blt.range (pa_cons (pe_op op_sub (pe_callB call_len_seq (by rfl) T.blt.len PySem.boot_len (pa_cons (pv 1) pa_nil)) pe_int) pa_nil)) (pg_name (i := 7) sc64k.nd rfl (.inl rfl))
        (pss_cons (ps_setLc (i := 8) (own := [("_law_j", 9)]) (g := gName 9) (tt := tYes) rfl sc64k.nd rfl rfl (sw_true rfl rfl rfl (by decide +kernel)) (pi_range1 rfl T.blt.range (pa_cons (pe_op op_add pe_int (T.l_draw.c0 G1 hr1 (pa_cons (pv 0) (pa_cons (pe_op op_add (pv 2) pe_int) pa_nil)))) pa_nil))
          (blkOk_by (own := [("_law_j", 9)]) (N := nDf) (sc := defScope (top 77)) (by decide +kernel))
          (fun _ _ _ _ _ => pg_name (i := 9) sc64k.nd rfl (Or.inl rfl)) (fun _ _ _ _ _ => pts_nil) (fun _ _ _ _ _ => T.l_ratio.c0 G2 hr3 (pa_cons (pv 0) (pa_cons (pv 4) pa_nil))))
        (pss_cons (ps_set (i := 10) sc64k.nd rfl (.inl rfl) (T.l_poly.c0 G3 hr1 (pa_cons (pv 8) pa_nil)))
        (C8.pss_cut (ps_if (PW.pt (pw_and (pt_cmpR op_eq (pv 3) pe_str (nomark _)) (pw_and1 (pt_cmpR op_gt (pv 7) pe_int (nomark _)))))
          (pss_cons (ps_set (i := 11) sc64k.nd rfl (.inl rfl) (T.l_minus.c0 G5 hr3 (pa_cons (T.l_pat.c0 G6 hr4 (pa_cons (pe_ix ix_list (pv 5) (pe_un un_neg pe_int) (fun _ _ => rfl)) (pa_cons (pe_ix ix_list (pv 1) (pv 7) (fun _ _ => rfl)) pa_nil)))
              (pa_cons (T.l_pat.c0 G6 hr4 (pa_cons (pv 10) (pa_cons (pe_ix ix_list (pv 1) (pv 7) (fun _ _ => rfl)) pa_nil))) pa_nil))))
          (pss_one (ps_set (i := 10) sc64k.nd rfl (.inl rfl) (T.l_pplus.c0 G7 hr4 (pa_cons (pv 10) (pa_cons (T.l_poly.c0 G3 hr1 (pa_cons (pe_lst (pa_cons (pv 11) pa_nil)) pa_nil)) pa_nil)))))) pss_nil)
        (pss_one (ps_expr (pe_bm PySem.F.plainAttrs_list PySem.F.slot_list_append PySem.F.type_list_append mt_append (pv 5) (pa_cons (pv 10) pa_nil))))))))
      (pss_cons (ps_for PassesOwn.never rfl (pi_range1 rfl T.blt.range (pa_cons (pe_callB call_len_seq (by rfl) T.blt.len PySem.boot_len (pa_cons (pv 1) pa_nil)) pa_nil)) (pg_name (i := 7) sc64k.nd rfl (.inl rfl))
        (pss_cons (ps_set (i := 12) sc64k.nd rfl (.inl rfl) (T.l_sorted.c0 G8 hr3 (pa_cons (T.l_flim.c0 G9 hr (pa_cons (pe_tup (pa_cons (pv 1) (pa_cons (pv 5) (pa_cons (pe_lst pa_nil) pa_nil)))) (pa_cons (pv 7) pa_nil))) pa_nil)))
        (C8.pss_cut (ps_set (i := 13) sc64k.nd rfl (.inl rfl) (pe_ifExp (pt_cmpR op_ne (pv 3) pe_str (nomark _)) (T.l_pick.c0 GA hr2 (pa_cons (pv 0) (pa_cons (pe_lst (pa_cons (pe_tup (pa_cons pe_int (pa_cons pe_int pa_nil))) (pa_cons (pe_tup (pa_cons pe_int (pa_cons pe_int pa_nil)))
              (pa_cons (pe_tup (pa_cons pe_int (pa_cons pe_int pa_nil))) (pa_cons (pe_tup (pa_cons pe_int (pa_cons pe_int pa_nil))) pa_nil))))) pa_nil))) (pe_tup (pa_cons pe_int (pa_cons pe_int pa_nil)))))
        (pss_one (ps_expr (pe_bm PySem.F.plainAttrs_list PySem.F.slot_list_append PySem.F.type_list_append mt_append (pv 6) (pa_cons
          (pe_ifExp (pt_cmpR op_eq (pv 3) pe_str (nomark _)) (T.l_minus.c0 G5 hr3 (pa_cons (pe_ix ix_list (pv 12) pe_int (fun _ _ => rfl)) (pa_cons (pv 13) pa_nil)))
            (T.l_plus.c0 G4 hr3 (pa_cons (pe_ix ix_list (pv 12) (pe_un un_neg pe_int) (fun _ _ => rfl)) (pa_cons (pv 13) pa_nil)))) pa_nil)))))))
      (pss_one (ps_ret (pe_tup (pa_cons (pv 1) (pa_cons (pv 5) (pa_cons (pv 6) pa_nil)))))))), ?_⟩
    obtain ⟨lk, wk, rfl, hlk, alk⟩ := id hk
    have lw := alk.1
    refine ⟨(by show 0 ≤ sizeLine; decide), fun g ng => ?_⟩
    have s1 := Same.new (o := .lst []) ng
    have e1 : upd H g (.lst []) g = some (.lst []) := upd_same
    have gH : ∀ c u, H c = some u → c ≠ g := fun c u e => ne_of_none e ng
    have gp := pen.newP ng
    have gc := pen.newC ng
    generalize upd H g (.lst []) = H0 at s1 e1
    refine ⟨(by show 0 ≤ sizeLine; decide), fun h nh => ?_⟩
    have s2 := s1.trans (Same.new (o := .lst []) nh)
    have e2 : upd H0 h (.lst []) h = some (.lst []) := upd_same
    have e1' : upd H0 h (.lst []) g = some (.lst []) := (upd_ne (ne_of_none e1 nh)).trans e1
    have hgn : h ≠ g := (ne_of_none e1 nh).symm
    have hH : ∀ c u, H c = some u → c ≠ h := fun c u e => ne_of_none (s1 _ _ e) nh
    have pen0 := pen.same s1
    have hp := pen0.newP nh
    have hc := pen0.newC nh
    have pen1 := pen.same s2
    generalize upd H0 h (.lst []) = H1 at s2 e2 e1' pen1
    refine ⟨_, _, rfl, ?_⟩
    refine ⟨_, rfl, lk, wk, rfl, .inl (SqL.of (s2 _ _ hlk)), _, _, rfl, rfl, ((wk.length : Nat) : Int) - 1, rfl, by omega, by omega, ?_⟩
    refine for_range (lo := 0) (n := (((wk.length : Nat) : Int) - 1).toNat) (fun i σ H' => ∃ v7 v8 v10 v11 vs pp, σ = [some (.ref p), some (.ref lk), some (.int 3), some (.str kd), some (.int 3), some (.ref g), some (.ref h), v7, v8, none, v10, v11, none, none] ∧ Pen H' p c (n + 16 * i) ∧
        H' g = some (.lst vs) ∧ Rows K g H' vs pp ∧ pp.length = i ∧ (∀ j, j < i → Pz j (pv' pp j) ∧ Go kd ks pp j) ∧ B2 p g H1 H' ∧ ∀ u ∈ vs, u ≠ .ref h)
      ⟨none, none, none, none, [], [], rfl, pen1, e1', Rows.nil, rfl, (fun j h => absurd h (Nat.not_lt_zero _)), B2.refl, fun u hu => absurd hu List.not_mem_nil⟩ ?_ ?_
    · rintro i σ H2 hi ⟨v7, v8, v10, v11, vs, pp, rfl, pen2, hg, rows, lp, pz, b2, noh⟩
      have hi' : i + 1 < ks.length := by
        have : i < (((wk.length : Nat) : Int) - 1).toNat := hi
        omega
      rw [Int.zero_add]
      refine ⟨_, rfl, _, rfl, _, _, rfl, rfl, p, c, _, _, rfl, pen2, by omega, (by show (0 : Int) < 3 + 1; decide), (by show (3 : Int) + 1 < 1073741824; decide), fun z H3 z0 z1 pen3 but3 => ?_⟩
      have z1' : z < 3 + 1 := z1
      refine ⟨_, _, rfl, rfl, _, rfl, by omega, by omega, fun D hD => ?_⟩
      have nDp : D ≠ p := pen3.newP hD
      have nDc : D ≠ c := pen3.newC hD
      have b3 : B2 p g H1 H3 := b2.but but3
      have hg3 := pen2.lst but3 hg
      have rows3 : Rows K g H3 vs pp := rows.b2 (g := g) pen2 hg (fun c o e n1 _ => but3 c o e n1)
      refine lc_mapRP (lo := 0) (n := ((1 + z : Int)).toNat) (p := p) (by omega) hD nDp (fun j acc H' => Pen H' p c (n + 16 * i + 1 + 3 * j) ∧ ∃ qs, Al K H' acc qs ∧ ∀ q ∈ qs, Rsm 3 q) ?_ ⟨pen3, [], Al.nil, fun q hq => by cases hq⟩ ?_ ?_
      · rintro j acc H4 H5 l b ⟨pn, qs, al, hq⟩
        exact ⟨bear_pen l nDc b pn, qs, ⟨al.1, fun j v q e1 e2 => bear_rv l b (al.2 j v q e1 e2)⟩, hq⟩
      · rintro j lt acc H4 Qk Z lg ⟨pn, qs, al, hq⟩ s hacc kk
        refine ⟨rfl, ?_⟩
        dsimp only [tYes]
        refine iteT ⟨_, rfl, _, rfl, p, c, _, 3, rfl, pn, by omega, by decide, by decide, fun u H5 q pn5 b5 rv sm => kk _ _ b5 ⟨pn5, qs ++ [q], (pn.al b5 al).snoc rv, fun r hr => ?_⟩⟩
        rcases List.mem_append.mp hr with h | h
        · exact hq r h
        · rw [List.mem_singleton.mp h]
          exact sm
      · rintro acc H4 hacc lacc ⟨pn, qs, al, hq⟩ b4
        have lq : qs.length = acc.length := al.1.symm
        have lz : (1 + z : Int).toNat ≤ 5 := by omega
        have b34 : B2 p g H1 H4 := b3.but b4
        have hg4 := pen3.lst b4 hg3
        have rows4 : Rows K g H4 vs pp := rows3.b2 (g := g) pen3 hg3 (fun c o e n1 _ => b4 c o e n1)
        refine ⟨_, rfl, .ref D, qs, rfl, ⟨D, acc, rfl, hacc, al⟩, by omega, fun y H5 rs s5 ll_lr tr ll e nw => ?_⟩
        have sm : ∀ i, Rsm 3 (cf rs i) := fun i => by
          rw [e]
          rcases Nat.lt_or_ge i qs.length with lt | ge
          · exact hq _ (mem_cf lt)
          · rw [cf_out ge]
            exact Rsm.zero
        have pzr : Pz 0 rs := rsm_pz sm tr (by omega) 0
        have hg5 := s5 _ _ hg4
        have b5 : B2 p g H1 H5 := fun c o e n1 n2 => s5 _ _ (b34 c o e n1 n2)
        have rows5 := rows4.same s5
        have pen5 := pn.same s5
        have yg : y ≠ .ref g := fun e => by
          have := nw g e
          rw [hg4] at this
          cases this
        have yh : y ≠ .ref h := fun e => by
          have := nw h e
          rw [b34 _ _ e2 hp hgn] at this
          cases this
        have hk5 : LR K H5 (.ref lk) ks := b5.lr pen1 e1' (hk.same s2) fun z => gH _ _ hlk (V.ref.inj z)
        refine ⟨fun σ H' => ∃ w10 w11 ts, σ = [some (.ref p), some (.ref lk), some (.int 3), some (.str kd), some (.int 3), some (.ref g), some (.ref h), some (.int (i : Nat)), some (.ref D), none, some w10, w11, none, none] ∧ Same H5 H' ∧ LR K H' w10 ts ∧ Pz i ts ∧ (kd = "plain" → 0 < i → ev (pv' pp (i - 1)) (cf ks i) = ev ts (cf ks i)) ∧ w10 ≠ .ref g ∧ w10 ≠ .ref h, ?_, ?_⟩
        · have skip : ¬ (kd = "plain" ∧ 0 < i) → ∃ w10 w11 ts, [some (V.ref p), some (.ref lk), some (.int 3), some (.str kd), some (.int 3), some (.ref g), some (.ref h), some (.int (i : Nat)), some (.ref D), none, some y, v11, none, none] = [some (.ref p), some (.ref lk), some (.int 3), some (.str kd), some (.int 3), some (.ref g), some (.ref h), some (.int (i : Nat)), some (.ref D), none, some w10, w11, none, none] ∧ Same H5 H5 ∧ LR K H5 w10 ts ∧ Pz i ts ∧ (kd = "plain" → 0 < i → ev (pv' pp (i - 1)) (cf ks i) = ev ts (cf ks i)) ∧ w10 ≠ .ref g ∧ w10 ≠ .ref h := fun no =>
            ⟨y, v11, rs, rfl, Same.refl _, ll_lr, rsm_pz sm tr (by omega) i, fun a b => absurd ⟨a, b⟩ no, yg, yh⟩
          refine ⟨_, rfl, rfl, _, rfl, ?_⟩
          by_cases ek : V.str kd = V.str "plain"
          · rw [decide_eq_true ek]
            refine iteT ⟨_, rfl, _, _, rfl, rfl, _, rfl, ite2 (fun lt => ?_) fun ge => skip fun z => ge (decide_eq_true (by have := z.2; omega))⟩
            have lt' : 0 < i := by
              have := of_decide_eq_true lt
              omega
            have i3 : i ≤ 3 := by omega
            obtain ⟨lk', wk', ekk, hk5', alk5⟩ := id hk5
            cases ekk
            obtain ⟨xk, exk, rxk⟩ := alk5.get (i := i) (by omega)
            have zxk := zk _ (cf_mem (show i < ks.length by omega))
            have vl : vs.length = i := by rw [rows.1, lp]
            obtain ⟨ul, eul⟩ : ∃ ul, vs[i - 1]? = some ul := ⟨_, List.getElem?_eq_getElem (by omega)⟩
            obtain ⟨lrl, _⟩ := rows5.2 (i - 1) ul _ eul (pv_at (by omega))
            have pzl := (pz (i - 1) (by omega)).1
            have zl : SzA 960 900 (pv' pp (i - 1)) := fun j _ => ((pzl.all j).up (a' := 60) (m' := 900) (by omega) (by omega)).sz
            have zr : SzA 960 900 rs := fun j _ => ((pzr.all j).up (a' := 60) (m' := 900) (by omega) (by omega)).sz
            have l5 := pzl.2.2.2
            have l5' := pzr.2.2.2
            have m1 : ((pv' pp (i - 1)).length + 1) * (20 + 900) ≤ 6 * (20 + 900) := Nat.mul_le_mul_right _ (by omega)
            have m2 : (rs.length + 1) * (20 + 900) ≤ 6 * (20 + 900) := Nat.mul_le_mul_right _ (by omega)
            refine ⟨_, rfl, _, rfl, g, vs, _, _, rfl, rfl, SqL.of hg5, atI_last (by rw [vl]; exact eul), _, rfl, _, rfl, lk, wk', _, _, rfl, rfl, SqL.of hk5', atI_nat exk, ?_⟩
            refine ⟨ul, xk, pv' pp (i - 1), 960, 900, 27, 19, cf ks i, rfl, lrl, zl, rxk, zxk.sz, by decide, by decide, by omega, by omega, by decide, by decide, fun y1 H6 s6 ry1 => ?_⟩
            refine ⟨_, rfl, _, rfl, _, rfl, lk, wk', _, _, rfl, rfl, SqL.of (s6 _ _ hk5'), atI_nat exk, ?_⟩
            refine ⟨y, xk, rs, 960, 900, 27, 19, cf ks i, rfl, ll_lr.same s6, zr, rxk.same s6, zxk.sz, by decide, by decide, by omega, by omega, by decide, by decide, fun y2 H7 s7 ry2 => ?_⟩
            have zv1 : Mz (45 + 3 * (i - 1)) (105 + 210 * (i - 1)) (ev (pv' pp (i - 1)) (cf ks i)) := pzl.ev zxk
            have zv2 : Mz (45 + 3 * 0) (105 + 210 * 0) (ev rs (cf ks i)) := pzr.ev zxk
            have ry1' : RV K H7 y1 (ev (pv' pp (i - 1)) (cf ks i)) := ry1.same s7
            have ry2' : RV K H7 y2 (ev rs (cf ks i)) := ry2
            refine ⟨y1, y2, _, _, _, _, _, _, rfl, ry1'.pq zv1.sz, ry2'.pq zv2.sz, ⟨by omega, by omega⟩, fun y3 H8 s8 ry3 => ?_⟩
            have zj : Mz (46 + 3 * (i - 1)) (210 + 210 * (i - 1)) (ev (pv' pp (i - 1)) (cf ks i) - ev rs (cf ks i)) := (sub_mz zv1 zv2).up (by omega) (by omega)
            have ry3' : RV K H8 y3 (ev (pv' pp (i - 1)) (cf ks i) - ev rs (cf ks i)) := ry3
            have ejump : ev (pv' pp (i - 1)) (cf ks i) = ev rs (cf ks i) + (ev (pv' pp (i - 1)) (cf ks i) - ev rs (cf ks i)) := by grind
            generalize ev (pv' pp (i - 1)) (cf ks i) - ev rs (cf ks i) = jump at zj ry3' ejump
            refine ⟨_, rfl, _, rfl, (by show 1 ≤ sizeLine; decide), fun q nq => ?_⟩
            have s9 := Same.new (o := .lst [y3]) nq
            have lq : LR K (upd H8 q (.lst [y3])) (.ref q) [jump] := ⟨q, [y3], rfl, upd_same, Al.snoc (Al.nil (H := upd H8 q (.lst [y3]))) (ry3'.same s9)⟩
            generalize upd H8 q (.lst [y3]) = H9 at s9 lq
            refine ⟨.ref q, [jump], rfl, lq, (by show 1 ≤ 1000; decide), fun y4 HA js sA ljs tjs lenj ej nwj => ?_⟩
            have s5A : Same H5 HA := (((s6.trans s7).trans s8).trans s9).trans sA
            have cj : ∀ j, cf js (j + 1) = 0 := fun j => by
              rw [ej]
              exact cf_out (by simp)
            have cj0 : cf js 0 = jump := by
              rw [ej]
              rfl
            have zjs : SzA (256 + 213 * i) (210 + 210 * i) js := fun j hj => by
              have : j = 0 := by
                have : js.length ≤ 1 := lenj
                omega
              rw [this, cj0]
              exact zj.sz.up (by omega) (by omega)
            refine ⟨y, y4, rs, js, 960, 900, _, _, rfl, ll_lr.same s5A, ljs, zr, zjs, by decide, by decide, by omega, by omega, by omega, by omega, by omega, by have : js.length ≤ 1 := lenj; omega, fun y5 HB ts sB lts tts lent et nwt => ?_⟩
            refine ⟨y5, some y3, ts, rfl, s5A.trans sB, lts, ⟨fun j => ?_, ?_, tts, ?_⟩, fun _ _ => ejump.trans (ev_jump et cj0 cj).symm, fun e => ?_, fun e => ?_⟩
            · rw [et, cj]
              show Mz 3 7 (cf rs (j + 1) + 0)
              rw [Rat.add_zero]
              exact pzr.1 j
            · rw [et, cj0]
              have z0 : Mz 3 7 (cf rs 0) := rsm_mz (sm 0) (by decide)
              exact (add_mz z0 zj).up (by omega) (by omega)
            · have : js.length ≤ 1 := lenj
              omega
            · have := nwt g e
              rw [s5A _ _ hg5] at this
              cases this
            · have := nwt h e
              rw [s5A _ _ (b5 _ _ e2 hp hgn)] at this
              cases this
          · rw [decide_eq_false ek]
            exact iteF (iteF (skip fun z => ek (congrArg V.str z.1)))
        · rintro σ H6 ⟨w10, w11, ts, rfl, s6, lr6, pz6, go6, ng6, nh6⟩
          have hg6 := s6 _ _ hg5
          have vl : vs.length = i := by rw [rows.1, lp]
          refine ⟨_, rfl, .inl ⟨rfl, _, SqL.of hg6⟩, _, rfl, g, vs, w10, rfl, rfl, hg6, le1000 (by omega), ?_⟩
          have pen6 := pen5.same s6
          have b7 : B2 p g H6 (upd H6 g (.lst (vs ++ [w10]))) := B2.refl.set
          refine ⟨_, _, _, _, vs ++ [w10], pp ++ [ts], rfl, (pen6.set gp gc).more (by omega), upd_same, ((rows5.same s6).snoc lr6 ng6).b2 pen6 hg6 b7, by simp [lp], fun j hj => ?_, fun c o e n1 n2 => b7 _ _ (s6 _ _ (b5 _ _ e n1 n2)) n1 n2, fun u hu => ?_⟩
          rotate_left
          · rcases List.mem_append.mp hu with hu | hu
            · exact noh u hu
            · rw [List.mem_singleton.mp hu]
              exact nh6
          have go : Go kd ks (pp ++ [ts]) j := fun e j0 => by
            rw [pv_snoc, pv_snoc, if_neg (by omega)]
            by_cases cm : j = pp.length
            · rw [if_pos cm, cm, lp]
              exact go6 e (by omega)
            · rw [if_neg cm]
              exact (pz j (by omega)).2 e j0
          refine ⟨?_, go⟩
          rw [pv_snoc]
          by_cases cm : j = pp.length
          · rw [if_pos cm, cm, lp]
            exact pz6
          · rw [if_neg cm]
            exact (pz j (by omega)).1
    · rintro σ H2 ⟨v7, v8, v10, v11, vs, pp, rfl, pen2, hg, rows, lp, pz, b2, noh⟩
      have en : (((wk.length : Nat) : Int) - 1).toNat = ks.length - 1 := by omega
      rw [en] at pen2 lp pz
      have zs : ∀ j, j < pp.length → Pz j (pv' pp j) := fun j hj => (pz j (by omega)).1
      have F : Fsz ks pp := ⟨by omega, by omega, by omega, asc, fun q hq => (zk q hq).up (by decide) (by decide), fun q hq => by
        obtain ⟨j, hj, ej⟩ := List.getElem_of_mem hq
        have e : pv' pp j = q := by
          have := pv_at hj
          rw [List.getElem?_eq_getElem hj, ej] at this
          exact (Option.some.inj this).symm
        have z := (pz j (by omega)).1
        rw [e] at z
        exact ⟨fun i => (z.1 i).up (by decide) (by decide), z.2.1.up (by omega) (by omega), z.2.2.1, by have := z.2.2.2; omega⟩⟩
      have h2 : H2 h = some (.lst []) := b2 _ _ e2 hp hgn
      have hk2 : LR K H2 (.ref lk) ks := b2.lr pen1 e1' (hk.same s2) fun z => gH _ _ hlk (V.ref.inj z)
      have hkh : (V.ref lk) ≠ .ref h := fun z => hH _ _ hlk (V.ref.inj z)
      have gh : g ≠ h := hgn.symm
      -- none of the rows is at h, or at least they stay
      have rowsh : Rows K h H2 vs pp := ⟨rows.1, fun i u q a b => ⟨(rows.2 i u q a b).1, noh u (List.mem_of_getElem? a)⟩⟩
      have hlk2 : H2 lk = some (.lst wk) := by
        obtain ⟨_, _, e, hl, _⟩ := id hk2
        cases e
        have : H1 lk = some (.lst wk) := s2 _ _ hlk
        exact b2 _ _ this (pen1.off this fun _ z => nomatch z) (gH _ _ hlk)
      refine ⟨_, rfl, lk, wk, rfl, .inl (SqL.of hlk2), ((wk.length : Nat) : Int), rfl, by omega, by omega, ?_⟩
      refine for_range (lo := 0) (n := ((wk.length : Nat) : Int).toNat) (fun i σ H' => ∃ v7 v12 v13 vs2 as, σ = [some (.ref p), some (.ref lk), some (.int 3), some (.str kd), some (.int 3), some (.ref g), some (.ref h), v7, v8, none, v10, v11, v12, v13] ∧ Pen H' p c (n + 64 + 2 * i) ∧
          H' h = some (.lst vs2) ∧ Al K H' vs2 as ∧ as.length = i ∧ (∀ q ∈ as, Mz 55 737 q) ∧ B2 p h H2 H' ∧ ∀ j, j < i → KdAt kd (lims ks pp j) (cf as j))
        ⟨v7, none, none, [], [], rfl, pen2.more (by omega), h2, Al.nil, rfl, (fun q hq => absurd hq List.not_mem_nil), B2.refl, fun j h => absurd h (Nat.not_lt_zero _)⟩ ?_ ?_
      · rintro i σ H3 hi ⟨v7', v12, v13, vs2, as, rfl, pen3, hh, al3, la, za, b3, kda⟩
        have hi' : i < ks.length := by
          have : i < wk.length := hi
          omega
        rw [Int.zero_add]
        have hk3 : LR K H3 (.ref lk) ks := b3.lr pen2 h2 hk2 hkh
        have hg3 : H3 g = some (.lst vs) := b3 _ _ hg gp gh
        have rows3 : Rows K h H3 vs pp := rowsh.b2 (g := h) pen2 h2 b3
        refine ⟨_, rfl, _, rfl, (by show 0 ≤ sizeLine; decide), fun q nq => ?_⟩
        have s4 := Same.new (o := .lst []) nq
        have e4 : upd H3 q (.lst []) q = some (.lst []) := upd_same
        generalize upd H3 q (.lst []) = H4 at s4 e4
        refine ⟨(by show 3 ≤ sizeLine; decide), fun t nt => ?_⟩
        have s5 := s4.trans (Same.new (o := .tup [.ref lk, .ref g, .ref q]) nt)
        have e5 : upd H4 t (.tup [.ref lk, .ref g, .ref q]) t = some (.tup [.ref lk, .ref g, .ref q]) := upd_same
        have e4' := Same.new (o := .tup [.ref lk, .ref g, .ref q]) nt _ _ e4
        generalize upd H4 t (.tup [.ref lk, .ref g, .ref q]) = H5 at s5 e5 e4'
        refine ⟨_, rfl, .ref t, ks, pp, [], i, rfl, ⟨t, _, _, _, rfl, SqT.of e5, hk3.same s5, (rows3.same s5).lrr (s5 _ _ hg3), ⟨q, [], rfl, e4', Al.nil⟩⟩, F, hi', fun u6 H6 s6 lr6 => ?_⟩
        have zls : ∀ x ∈ lims ks pp i, Mz 54 735 x := fun x hx => by
          obtain ⟨j, hj, e⟩ := lims_mem hx F.len hi'
          have hp4 : j ≤ 3 := by omega
          rw [e]
          exact ((zs j hj).ev (zk _ (cf_mem hi'))).up (by omega) (by omega)
        refine ⟨u6, lims ks pp i, 789, 735, rfl, lr6, by have := lims_len (ks := ks) (ps := pp) (k := i); omega, fun j hj => (zls _ (cf_mem hj)).sz, by decide, by decide, fun u7 H7 rs s7 lr7 asc7 mem7 => ?_⟩
        have s37 := (s5.trans s6).trans s7
        have zrs : ∀ x ∈ rs, Mz 54 735 x := fun x hx => zls x ((mem7 x).mp hx)
        have rs0 : 0 < rs.length := by
          rcases Nat.eq_zero_or_pos rs.length with e | l
          · have e' := List.length_eq_zero_iff.mp e
            have hne : ∃ x, x ∈ lims ks pp i := ⟨_, cf_mem (lims_pos F hi')⟩
            obtain ⟨x, hx⟩ := hne
            have := (mem7 x).mpr hx
            rw [e'] at this
            cases this
          · exact l
        have pen7 := pen3.same s37
        have hh7 := s37 _ _ hh
        have al7 := al3.same s37
        have b7 : B2 p h H2 H7 := fun c o e n1 n2 => s37 _ _ (b3 _ _ e n1 n2)
        refine ⟨fun σ H' => ∃ mv q, σ = [some (.ref p), some (.ref lk), some (.int 3), some (.str kd), some (.int 3), some (.ref g), some (.ref h), some (.int (i : Nat)), v8, none, v10, v11, some u7, some mv] ∧ RV K H' mv q ∧ More q ∧ Pen H' p c (n + 64 + 2 * i + 1) ∧ But p H7 H' ∧ (kd = "plain" → q = 0), ?_, ?_⟩
        · refine ⟨_, rfl, rfl, _, rfl, ?_⟩
          by_cases ek : V.str kd = V.str "plain"
          · refine iteNS ek ⟨(by show 2 ≤ sizeLine; decide), fun z nz => ?_⟩
            have s8 := Same.new (o := .tup [.int 0, .int 1]) nz
            exact ⟨.ref z, 0, rfl, rv_zero (SqT.of upd_same), more0, (pen7.same s8).more (by omega), But.ofSame s8, fun _ => rfl⟩
          · rw [decide_eq_false ek]
            refine iteT ⟨_, rfl, (by show 2 ≤ sizeLine; decide), fun z1 n1 => ?_⟩
            have s8 := Same.new (o := .tup [.int 0, .int 1]) n1
            have r1 : RV K (upd H7 z1 (.tup [.int 0, .int 1])) (.ref z1) 0 := rv_zero (SqT.of upd_same)
            generalize upd H7 z1 (.tup [.int 0, .int 1]) = H8 at s8 r1
            refine ⟨(by show 2 ≤ sizeLine; decide), fun z2 n2 => ?_⟩
            have t9 := Same.new (o := .tup [.int 0, .int 1]) n2
            have r2 : RV K (upd H8 z2 (.tup [.int 0, .int 1])) (.ref z2) 0 := rv_zero (SqT.of upd_same)
            have s9 := s8.trans t9
            have r1 := r1.same t9
            generalize upd H8 z2 (.tup [.int 0, .int 1]) = H9 at t9 s9 r1 r2
            refine ⟨(by show 2 ≤ sizeLine; decide), fun z3 n3 => ?_⟩
            have tA := Same.new (o := .tup [.int 1, .int 3]) n3
            have r3 : RV K (upd H9 z3 (.tup [.int 1, .int 3])) (.ref z3) third := rv_third (SqT.of upd_same)
            have sA := s9.trans tA
            have r1 := r1.same tA
            have r2 := r2.same tA
            generalize upd H9 z3 (.tup [.int 1, .int 3]) = HA at tA sA r1 r2 r3
            refine ⟨(by show 2 ≤ sizeLine; decide), fun z4 n4 => ?_⟩
            have tB := Same.new (o := .tup [.int 5, .int 1]) n4
            have r4 : RV K (upd HA z4 (.tup [.int 5, .int 1])) (.ref z4) 5 := rv_five (SqT.of upd_same)
            have sB := sA.trans tB
            have r1 := r1.same tB
            have r2 := r2.same tB
            have r3 := r3.same tB
            generalize upd HA z4 (.tup [.int 5, .int 1]) = HB at tB sB r1 r2 r3 r4
            refine ⟨(by show 4 ≤ sizeLine; decide), fun l nl => ?_⟩
            have tC := Same.new (o := .lst [.ref z1, .ref z2, .ref z3, .ref z4]) nl
            have sC := sB.trans tC
            have r1 := r1.same tC
            have r2 := r2.same tC
            have r3 := r3.same tC
            have r4 := r4.same tC
            have penC := pen7.same sC
            refine ⟨p, c, l, _, _, rfl, penC, by omega, upd_same, (by show 0 < 4; decide), (by show 4 < 1000000; decide), fun j v HD hj penD butD => ?_⟩
            have mem := mem_of_at hj
            simp only [List.mem_cons, List.not_mem_nil, or_false] at mem
            have bD := (But.ofSame (p := p) sC).trans butD
            rcases mem with rfl | rfl | rfl | rfl
            · exact ⟨_, 0, rfl, penC.rv butD r1, more0, penD, bD, fun e => absurd (congrArg V.str e) ek⟩
            · exact ⟨_, 0, rfl, penC.rv butD r2, more0, penD, bD, fun e => absurd (congrArg V.str e) ek⟩
            · exact ⟨_, third, rfl, penC.rv butD r3, more3, penD, bD, fun e => absurd (congrArg V.str e) ek⟩
            · exact ⟨_, 5, rfl, penC.rv butD r4, more5, penD, bD, fun e => absurd (congrArg V.str e) ek⟩
        · rintro σ H8 ⟨mv, mq, rfl, rm, mo, pen8, b8, mq0⟩
          have gok : i < pp.length → Go kd ks pp i := fun c => (pz i (by omega)).2
          obtain ⟨l7, w7, rfl, hl7, alr⟩ := lr7
          have hl8 := pen7.lst b8 hl7
          have alr8 := pen7.al b8 alr
          have hh8 := pen7.lst b8 hh7
          have al8 := pen7.al b8 al7
          have b28 : B2 p h H2 H8 := b7.but b8
          have lr' := alr.1
          have lal : vs2.length = i := by rw [al3.1, la]
          refine ⟨_, rfl, .inl ⟨rfl, _, SqL.of hh8⟩, _, rfl, rfl, _, rfl, ?_⟩
          by_cases el : V.str kd = V.str "lower"
          · rw [decide_eq_true el]
            obtain ⟨va, ea, ra⟩ := alr8.get rs0
            refine iteT ⟨_, rfl, l7, w7, _, _, rfl, rfl, SqL.of hl8, atI_nat (j := 0) ea, _, rfl, va, mv, _, _, _, _, _, _, rfl, ra.pq (zrs _ (cf_mem rs0)).sz, rm.pq mo.2.sz, ⟨by decide, by decide⟩, fun y H9 s9 ry => ?_⟩
            have zy : Mz 55 737 (cf rs 0 - mq) := (sub_mz (zrs _ (cf_mem rs0)) mo.2).up (by decide) (by decide)
            have hh9 := s9 _ _ hh8
            have bu : B2 p h H9 (upd H9 h (.lst (vs2 ++ [y]))) := B2.refl.set
            have pen9 := pen8.same s9
            refine ⟨h, vs2, y, rfl, rfl, hh9, le1000 (by omega), _, _, _, vs2 ++ [y], as ++ [cf rs 0 - mq], rfl, (pen9.set hp hc).more (by omega), upd_same, Al.snoc (bu.al pen9 hh9 (al8.same s9)) (bu.rv pen9 hh9 ry), by simp [la], fun x hx => ?_, fun c o e n1 n2 => bu _ _ (s9 _ _ (b28 _ _ e n1 n2)) n1 n2, kd_snoc la kda ⟨fun _ q hq => ?_, fun e => absurd ((V.str.inj el).symm.trans e) (by decide +kernel), fun e => absurd ((V.str.inj el).symm.trans e) (by decide +kernel)⟩⟩
            rotate_left
            · obtain ⟨j, hj, ej⟩ := List.getElem_of_mem ((mem7 q).mpr hq)
              have ej' : cf rs j = q := cf_at (by rw [List.getElem?_eq_getElem hj, ej])
              have a := asc_le asc7 (Nat.zero_le j) hj
              rw [ej'] at a
              have b := mo.1
              grind
            rcases List.mem_append.mp hx with hx | hx
            · exact za x hx
            · rw [List.mem_singleton.mp hx]
              exact zy
          · rw [decide_eq_false el]
            have lst : rs.length - 1 < rs.length := by omega
            obtain ⟨va, ea, ra⟩ := alr8.get lst
            refine iteF ⟨_, rfl, _, rfl, l7, w7, _, _, rfl, rfl, SqL.of hl8, atI_last (by rw [lr']; exact ea), _, rfl, va, mv, _, _, _, _, _, _, rfl, ra.pq (zrs _ (cf_mem lst)).sz, rm.pq mo.2.sz, ⟨by decide, by decide⟩, fun y H9 s9 ry => ?_⟩
            have zy : Mz 55 737 (cf rs (rs.length - 1) + mq) := (add_mz (zrs _ (cf_mem lst)) mo.2).up (by decide) (by decide)
            have hh9 := s9 _ _ hh8
            have bu : B2 p h H9 (upd H9 h (.lst (vs2 ++ [y]))) := B2.refl.set
            have pen9 := pen8.same s9
            refine ⟨h, vs2, y, rfl, rfl, hh9, le1000 (by omega), _, _, _, vs2 ++ [y], as ++ [cf rs (rs.length - 1) + mq], rfl, (pen9.set hp hc).more (by omega), upd_same, Al.snoc (bu.al pen9 hh9 (al8.same s9)) (bu.rv pen9 hh9 ry), by simp [la], fun x hx => ?_, fun c o e n1 n2 => bu _ _ (s9 _ _ (b28 _ _ e n1 n2)) n1 n2, kd_snoc la kda ⟨fun e => absurd (congrArg V.str e) el, fun _ q hq => ?_, fun e q hq => ?_⟩⟩
            rotate_left
            · obtain ⟨j, hj, ej⟩ := List.getElem_of_mem ((mem7 q).mpr hq)
              have ej' : cf rs j = q := cf_at (by rw [List.getElem?_eq_getElem hj, ej])
              have a := asc_le asc7 (show j ≤ rs.length - 1 by omega) lst
              rw [ej'] at a
              have b := mo.1
              grind
            · rw [mq0 e, Rat.add_zero]
              exact lims_plain gok e hq ((mem7 _).mp (cf_mem lst))
            rcases List.mem_append.mp hx with hx | hx
            · exact za x hx
            · rw [List.mem_singleton.mp hx]
              exact zy
      · rintro σ H3 ⟨v7', v12, v13, vs2, as, rfl, pen3, hh, al3, la, za, b3, kda⟩
        rw [show ((wk.length : Nat) : Int).toNat = ks.length from lw] at pen3 la
        have hk3 : LR K H3 (.ref lk) ks := b3.lr pen2 h2 hk2 hkh
        have hg3 : H3 g = some (.lst vs) := b3 _ _ hg gp gh
        have rows3 : Rows K h H3 vs pp := rowsh.b2 (g := h) pen2 h2 b3
        refine ⟨_, rfl, _, rfl, _, rfl, (by show 3 ≤ sizeLine; decide), fun t nt => ?_⟩
        have s4 := Same.new (o := .tup [.ref lk, .ref g, .ref h]) nt
        have pen4 := pen3.same s4
        refine k t _ (.ref g) (.ref h) pp as (pen4.more (by omega)) (fun c o e np => s4 _ _ (b3 _ _ (b2 _ _ (s2 _ _ e) np (gH _ _ e)) np (hH _ _ e))) (SqT.of upd_same) ((rows3.same s4).lrr (s4 _ _ hg3)) ⟨h, vs2, rfl, s4 _ _ hh, al3.same s4⟩ F la za zs (fun j hj => kda j (by omega))
end
end Kz
set_option linter.all false
set_option maxRecDepth 100000
set_option maxHeartbeats 4000000
namespace Kz
open PySem PySem.Spec PyProof.Rows L2
theorem cover {ks : List Rat} {x : Rat} (lo : cf ks 0 ≤ x) : ∀ n, x ≤ cf ks n → (∃ k, k < n ∧ Within ks x k) ∨ ∃ k, k ≤ n ∧ cf ks k = x
  | 0, h => .inr ⟨0, Nat.le_refl _, Rat.le_antisymm lo h⟩
  | n + 1, h => by
    by_cases e : cf ks (n + 1) = x
    · exact .inr ⟨n + 1, Nat.le_refl _, e⟩
    · have lt : x < cf ks (n + 1) := Rat.lt_of_le_of_ne h fun z => e z.symm
      by_cases c : x ≤ cf ks n
      · rcases cover lo n c with ⟨k, hk, w⟩ | ⟨k, hk, w⟩
        · exact .inl ⟨k, by omega, w⟩
        · exact .inr ⟨k, by omega, w⟩
      · exact .inl ⟨n, by omega, Rat.not_le.mp c, lt⟩
/-- a function that is drawn, all of it -/
structure Fok (x wd : Rat) (ks : List Rat) (ps : List (List Rat)) (as : List Rat) : Prop where
  F : Fsz ks ps
  la : as.length = ks.length
  za : ∀ q ∈ as, Mz 190 1600 q
  lo : cf ks 0 = x
  hi : cf ks ps.length = x + wd
  zk : ∀ q ∈ ks, Mz 8 20 q
  few : ps.length ≤ 5
  zs : ∀ q ∈ ps, ∀ j, Mz 3 7 (cf q (j + 1))
  frm : ∀ q ∈ ks, Twf x wd q
end Kz
set_option linter.all false
set_option maxRecDepth 100000
set_option maxHeartbeats 4000000
namespace Kz
open PySem PySem.Spec PyProof.Rows L2
section
variable {P : Program} {w : World} {K : PySem.W.Frag} {mg : Str → Option Value} {base : Heap}
theorem Pen.lrr {H H' : Hp} {p c : Addr} {n : Nat} {v : V} {ps : List (List Rat)} (b : But p H H') (pen : Pen H p c n) (h : LRR K H v ps) : LRR K H' v ps := by
  obtain ⟨l, vs, e, hl, m, al⟩ := h
  exact ⟨l, vs, e, pen.lst b hl, m, fun i u q a d => pen.lr b (al i u q a d)⟩
theorem Pen.fnv {H H' : Hp} {p c : Addr} {n : Nat} {v : V} {ks as : List Rat} {ps : List (List Rat)} (b : But p H H') (pen : Pen H p c n) (h : FnV K H v ks ps as) : FnV K H' v ks ps as := by
  obtain ⟨t, x, y, z, e, ht, h1, h2, h3⟩ := h
  exact ⟨t, x, y, z, e, pen.seqT b ht, pen.lr b h1, pen.lrr b h2, pen.lr b h3⟩
end
end Kz
set_option linter.all false
set_option maxRecDepth 100000
set_option maxHeartbeats 4000000
namespace Kz
open PySem PySem.Spec PyProof.Rows L2
/-- the two limits at a place, None for one that is none -/
def Due (K : PySem.W.Frag) (H : Hp) (ks : List Rat) (ps : List (List Rat)) (as : List Rat) (x : Rat) (l r : V) : Prop :=
  (∃ k, k < ps.length ∧ Within ks x k ∧ RV K H l (ev (pv' ps k) x) ∧ RV K H r (ev (pv' ps k) x)) ∨
  (∃ k, k < ks.length ∧ cf ks k = x ∧ (k = 0 → l = .non) ∧ (0 < k → RV K H l (ev (pv' ps (k - 1)) x)) ∧ (k = ps.length → r = .non) ∧ (k < ps.length → RV K H r (ev (pv' ps k) x)))
theorem Due.same {K : PySem.W.Frag} {H H' : Hp} {ks as : List Rat} {ps : List (List Rat)} {x : Rat} {l r : V} (s : Same H H') (h : Due K H ks ps as x l r) : Due K H' ks ps as x l r := by
  rcases h with ⟨k, a, b, c, d⟩ | ⟨k, a, b, c, d, e, f⟩
  · exact .inl ⟨k, a, b, c.same s, d.same s⟩
  · exact .inr ⟨k, a, b, c, fun h => (d h).same s, e, fun h => (f h).same s⟩
section
variable {P : Program} {w : World} {K : PySem.W.Frag} {mg : Str → Option Value} {base : Heap}
end
end Kz
set_option linter.all false
set_option maxRecDepth 100000
set_option maxHeartbeats 4000000
namespace Kz
open PySem PySem.Spec PyProof.Rows L2
abbrev sB (i : Nat) : Stmt := inClass (top 34) i
/-! ### the program's broken functions -/
structure Tb (P : Program) (K : PySem.W.Frag) (mg : Str → Option Value) extends Tk P K mg where
  mAny : mg "any" = none
  ascends : Df K mg "ascends" (top 19) ["row"]
  told_row : Df K mg "told_row" (top 20) ["row"]
  is_rowp : Df K mg "is_row_of_polys" (top 35) ["value"]
  place_in : Df K mg "place_in" (top 36) ["f", "x"]
  piece_from : Df K mg "piece_from" (top 37) ["f", "place"]
  klimits : Df K mg "knot_limits" (top 38) ["f", "index"]
  nlims : Df K mg "numbers_and_limits" (top 39) ["f"]
  cB : Addr
  mgB : mg "Broken" = some (.ref cB)
  clB : Cls K cB
  nB1 : NoAttr K cB "knots"
  nB2 : NoAttr K cB "polys"
  nB3 : NoAttr K cB "at"
  b_init : Dm K cB "__init__" "Broken.__init__" (sB 0) ["self", "knots", "polys", "at"]
  mkB : Mk K cB b_init.f
  b_value : Dm K cB "value" "Broken.value" (sB 2) ["self", "x"]
  b_upper : Dm K cB "is_upper" "Broken.is_upper" (sB 5) ["self"]
  b_lower : Dm K cB "is_lower" "Broken.is_lower" (sB 6) ["self"]
/-- a comprehension over two lists, the second one the shorter -/
theorem lc_mapU {K : PySem.W.Frag} {a b : Addr} {xs ys : List V} {g : TG} {te : TE} {vs : List Nat} {σ : L2.St} {H1 : Hp} {D : Addr} {Qd : Hp → Prop} (hx : SqL K H1 a xs) (hy : SqL K H1 b ys) (le : ys.length ≤ xs.length) (len : xs.length ≤ 1000) (hD : H1 D = none)
    (R : Nat → List V → Hp → Prop) (br : Bears D R) (h0 : R 0 [] H1)
    (step : ∀ (i : Nat) (x y : V), xs[i]? = some x → ys[i]? = some y → ∀ (acc : List V) (H' : Hp) (Qk : VK) (Z : Hp → Prop) (T : Addr), acc.length = i → R i acc H' → Same H1 H' → H' T = none → (∀ u H4, Same H' H4 → R (i + 1) (acc ++ [u]) H4 → Qk u H4) →
      g (.ref T) (wipe σ vs) (upd H' T (.tup [x, y])) fun σ2 H2 => wipe σ2 vs = wipe σ vs ∧ tYes σ2 H2 fun b H3 => if b = true then te σ2 H3 Qk else Z H3)
    (fin : ∀ acc H', H' D = some (.lst acc) → acc.length = ys.length → R ys.length acc H' → Same H1 H' → Qd H') : ∃ W : Nat → Nat → Hp → Prop, (∃ m, W 0 m (upd H1 D (.lst []))) ∧ ∀ i m H, W i m H →
      ((Itz K a b).stop i H ∧ Qd H) ∨ ((Itz K a b).go i H ∧ ∃ Nx : Hp → Prop, (∀ H', Nx H' → ∃ m', m' < m ∧ W (i + 1) m' H') ∧ ∀ x H', (Itz K a b).yld i H x H' → g x (wipe σ vs) H' fun σ2 H2 => wipe σ2 vs = wipe σ vs ∧ tYes σ2 H2 fun b H3 =>
        if b = true then te σ2 H3 fun y H4 => ∃ acc, H4 D = some (.lst acc) ∧ acc.length < sizeLine ∧ Nx (upd H4 D (.lst (acc ++ [y]))) else Nx H3) := by
  refine ⟨fun i m H => m = ys.length - i ∧ i ≤ ys.length ∧ ∃ acc, H D = some (.lst acc) ∧ acc.length = i ∧ R i acc H ∧ Same H1 H, ⟨_, rfl, Nat.zero_le _, [], upd_same, rfl, br _ _ _ _ (fun o e => by rw [hD] at e; cases e) But.refl.set h0, Same.new hD⟩, ?_⟩
  rintro i m H ⟨rfl, hi, acc, e, l, r, s⟩
  have sx := Same.seq s hx
  have sy := Same.seq s hy
  rcases Nat.lt_or_ge i ys.length with lty | ge
  · right
    have lt : i < xs.length := by omega
    refine ⟨⟨xs, ys, _, _, sx, sy, List.getElem?_eq_getElem lt, List.getElem?_eq_getElem lty⟩, fun H' => i + 1 ≤ ys.length ∧ ∃ acc, H' D = some (.lst acc) ∧ acc.length = i + 1 ∧ R (i + 1) acc H' ∧ Same H1 H', fun H' p => ⟨_, by omega, rfl, p⟩, ?_⟩
    rintro v H' ⟨T, x, y, rfl, nT, rfl, fx, fy⟩
    refine step i x y (fx xs sx) (fy ys sy) acc H _ _ T l r s nT fun u H4 s4 r4 => ⟨acc, s4 _ _ e, le1000 (by omega), lty, acc ++ [u], upd_same, by simp [l], br _ _ _ _ (fun o e4 => ?_) But.refl.set r4, fun c o ec => ?_⟩
    · rw [s4 _ _ e] at e4
      cases e4
      exact ⟨_, rfl⟩
    · rw [upd_ne (ne_of_none ec hD)]
      exact s4 _ _ (s _ _ ec)
  · left
    have ei : i = ys.length := by omega
    subst ei
    exact ⟨⟨xs, ys, sx, sy, .inr (Nat.le_refl _)⟩, fin acc H e l r s⟩
/-- whether a row ascends -/
def ascB (qs : List Rat) : Bool := (List.range (qs.length - 1)).all fun i => decide (cf qs i < cf qs (i + 1))
theorem asc_step {qs : List Rat} (h : ∀ i, i + 1 < qs.length → cf qs i < cf qs (i + 1)) : ∀ j i, i < j → j < qs.length → cf qs i < cf qs j
  | 0, _, l, _ => absurd l (Nat.not_lt_zero _)
  | j + 1, i, l, hj => by
    rcases Nat.lt_or_ge i j with c | c
    · exact Std.lt_trans (asc_step h j i c (by omega)) (h j hj)
    · rw [show i = j by omega]
      exact h j hj
theorem ascB_true {qs : List Rat} : ascB qs = true ↔ Asc qs := by
  unfold ascB
  rw [List.all_eq_true]
  constructor
  · intro h
    have h' : ∀ i, i + 1 < qs.length → cf qs i < cf qs (i + 1) := fun i hi => of_decide_eq_true (h i (List.mem_range.mpr (by omega)))
    unfold Asc
    rw [List.pairwise_iff_getElem]
    intro i j hi hj l
    have z := asc_step h' j i l hj
    rw [cf_at (List.getElem?_eq_getElem hi), cf_at (List.getElem?_eq_getElem hj)] at z
    exact z
  · intro h i hi
    exact decide_eq_true (asc_lt h (Nat.lt_succ_self i) (by have := List.mem_range.mp hi; omega))
section
variable {P : Program} {w : World} {K : PySem.W.Frag} {mg : Str → Option Value} {base : Heap}
def spAsc (K : PySem.W.Frag) : Sp := fun vs H Q _ => ∃ a us n m qs, vs = [.ref a] ∧ SqL K H a us ∧ AlA K H us n m qs ∧ n ≤ 100000 ∧ m ≤ 4000 ∧ us.length ≤ 1000 ∧ ∀ H', Same H H' → Q (.bl (ascB qs)) H'
abbrev nAs : List Str := ["row", "one", "other"]
theorem sc19k : FnScope nAs ["row"] (defScope (top 19)) := ⟨rfl, rfl, rfl, by decide +kernel, rfl, by decide +kernel, by decide +kernel⟩
theorem ok_asc (T : Tb P K mg) : FnOk P w K mg base CX0 6 T.ascends.f T.ascends.fd ["row"] (spAsc K) := by
  have G : FnOk P w K mg base (CX P w) 5 T.lower.f T.lower.fd ["one", "other"] (spTwo K T.cN cBin (fun _ v q r => v = .bl (decide (q < r)))) := ok_lower T.toTx
  refine T.ascends.fn.ok sc19k (fun vs H Q E h => ?_) (fun cdv A outer s H vs Q E hr h => ?_)
  · obtain ⟨a, us, n, m, qs, rfl, _⟩ := h
    rfl
  · obtain ⟨a, us, n, m, qs, rfl, hs, al, n4, m4, len, k⟩ := h
    refine ⟨_, pss_one (ps_ret (pe_callB (cr_all rfl) (by rfl) T.mAll boot_all (pa_cons (pe_lc (own := [("one", 1), ("other", 2)]) (g := gTup K 2 (gCons (gName 1) (gCons (gName 2) gNil))) (tt := tYes) rfl sc19k.nd (pi_zip (by rfl) T.mZip (pa_cons (pv 0) (pa_cons (pe_slice sl_list (pv 0) (po_some pe_int) po_none) pa_nil)))
        (blkOk_by (own := [("one", 1), ("other", 2)]) (N := nAs) (sc := defScope (top 19)) (by decide +kernel))
        (fun _ _ _ _ _ => pg_tup (by rfl) (pgs_cons (pg_name (i := 1) sc19k.nd rfl (Or.inl rfl)) (pgs_cons (pg_name (i := 2) sc19k.nd rfl (Or.inl rfl)) pgs_nil))) (fun _ _ _ _ _ => pts_nil) (fun _ _ _ _ _ => T.lower.cX G hr (pa_cons (pv 1) (pa_cons (pv 2) pa_nil)))) pa_nil))), ?_⟩
    have lu := al.1
    refine ⟨_, rfl, _, rfl, _, rfl, a, us, rfl, hs, fun p np => ?_⟩
    rw [cut_drop]
    have s1 := Same.new (o := .lst (us.drop 1)) np
    have ep : upd H p (.lst (us.drop 1)) p = some (.lst (us.drop 1)) := upd_same
    have hs1 := Same.seq s1 hs
    have al1 := al.same s1
    generalize upd H p (.lst (us.drop 1)) = H1 at s1 ep hs1 al1
    refine ⟨a, p, us, us.drop 1, rfl, hs1, SqL.of ep, fun D hD => ?_⟩
    refine lc_mapU hs1 (SqL.of ep) (by rw [List.length_drop]; omega) len hD (fun i acc _ => acc = ((List.range i).map fun j => decide (cf qs j < cf qs (j + 1))).map V.bl) (fun _ _ _ _ _ _ h => h) rfl ?_ ?_
    · rintro i x y hx hy acc H' Qk Z tt lac eacc s2 ntt kk
      rw [List.getElem?_drop, Nat.add_comm] at hy
      have lt : i + 1 < qs.length := by
        have := (List.getElem?_eq_some_iff.mp hy).1
        omega
      have s3 := Same.new (o := .tup [x, y]) ntt
      have rx := ((al1.2 i x _ hx (at_cf (by omega))).same s2).same s3
      have ry := ((al1.2 (i + 1) y _ hy (at_cf lt)).same s2).same s3
      refine ⟨tt, _, rfl, SqT.of upd_same, rfl, _, _, rfl, _, _, rfl, rfl, rfl, ?_⟩
      dsimp only [tYes]
      refine iteT ⟨_, rfl, _, rfl, x, y, rfl, .inl ⟨_, _, n, m, n, m, rx, ry, by omega, by omega, ⟨by omega, by omega⟩, fun v H4 s4 ev => ?_⟩⟩
      subst ev
      refine kk _ _ (s3.trans s4) ?_
      subst eacc
      show _ ++ [_] = _
      rw [List.range_succ, List.map_append, List.map_append]
      rfl
    · rintro acc H2 hacc lacc eacc s2
      have eacc' : acc = ((List.range (us.drop 1).length).map fun j => decide (cf qs j < cf qs (j + 1))).map V.bl := eacc
      refine ⟨D, (List.range (us.drop 1).length).map fun j => decide (cf qs j < cf qs (j + 1)), rfl, ?_, ?_⟩
      · rw [← eacc']
        exact SqL.of hacc
      · have e : ((List.range (us.drop 1).length).map fun j => decide (cf qs j < cf qs (j + 1))).all id = ascB qs := by
          unfold ascB
          rw [List.length_drop, lu, List.all_map]
          rfl
        rw [e]
        exact k H2 (s1.trans s2)
abbrev nTr : List Str := ["row", "number"]
theorem sc20k : FnScope nTr ["row"] (defScope (top 20)) := ⟨rfl, rfl, rfl, by decide +kernel, rfl, by decide +kernel, by decide +kernel⟩
end
end Kz
set_option linter.all false
set_option maxRecDepth 100000
set_option maxHeartbeats 4000000
namespace Kz
open PySem PySem.Spec PyProof.Rows L2
/-! ### the program's functions as objects -/
abbrev bF (x y z : V) : List (Str × V) := [("knots", x), ("polys", y), ("at", z)]
theorem lkB1 {x y z : V} : (bF x y z).lookup ("knots" : Str) = some x := by simp [List.lookup]
theorem lkB2 {x y z : V} : (bF x y z).lookup ("polys" : Str) = some y := by
  have h1 : (("polys" : Str) == "knots") = false := by decide +kernel
  simp [List.lookup, h1]
theorem lkB3 {x y z : V} : (bF x y z).lookup ("at" : Str) = some z := by
  have h1 : (("at" : Str) == "knots") = false := by decide +kernel
  have h2 : (("at" : Str) == "polys") = false := by decide +kernel
  simp [List.lookup, h1, h2]
def PLs (K : PySem.W.Frag) (cP : Addr) (H : Hp) (us : List V) (ps : List (List Rat)) : Prop := us.length = ps.length ∧ ∀ (i : Nat) (u : V) (p : List Rat), us[i]? = some u → ps[i]? = some p → PolyAt K cP H u p
theorem PLs.same {K : PySem.W.Frag} {cP : Addr} {H H' : Hp} {us : List V} {ps : List (List Rat)} (s : Same H H') (h : PLs K cP H us ps) : PLs K cP H' us ps := ⟨h.1, fun i u p a b => (h.2 i u p a b).same s⟩
def BrkAt (K : PySem.W.Frag) (cB cP : Addr) (H : Hp) (v : V) (ks : List Rat) (ps : List (List Rat)) (as : List Rat) : Prop := ∃ a dx t1 t2 t3 w1 us w3, v = .ref a ∧ H a = some (.ins cB dx (bF (.ref t1) (.ref t2) (.ref t3))) ∧ SqT K H t1 w1 ∧ Al K H w1 ks ∧ SqT K H t2 us ∧ PLs K cP H us ps ∧ SqT K H t3 w3 ∧ Al K H w3 as
theorem BrkAt.same {K : PySem.W.Frag} {cB cP : Addr} {H H' : Hp} {v : V} {ks as : List Rat} {ps : List (List Rat)} (s : Same H H') (h : BrkAt K cB cP H v ks ps as) : BrkAt K cB cP H' v ks ps as := by
  obtain ⟨a, dx, t1, t2, t3, w1, us, w3, e, ha, h1, a1, h2, p2, h3, a3⟩ := h
  exact ⟨a, dx, t1, t2, t3, w1, us, w3, e, s _ _ ha, Kz.Same.seqT s h1, a1.same s, Kz.Same.seqT s h2, p2.same s, Kz.Same.seqT s h3, a3.same s⟩
def rIsiQ (K : PySem.W.Frag) : List V → Hp → VK → Prop := rIsi K
theorem call_isiK {X : Cx} {K' : PySem.W.Frag} (e : X.K = K' := by rfl) : CallR X (.builtin "isinstance") (rIsiQ K') := by
  subst e
  exact call_isi
/-- whether a value is a Poly -/
def PB (K : PySem.W.Frag) (cP : Addr) (H : Hp) (u : V) (b : Bool) : Prop := (b = true ∧ ∃ qs, PolyAt K cP H u qs) ∨ (b = false ∧ ∃ t, TyN K H u t)
theorem PB.same {K : PySem.W.Frag} {cP : Addr} {H H' : Hp} {u : V} {b : Bool} (s : Same H H') (h : PB K cP H u b) : PB K cP H' u b := by
  rcases h with ⟨e, qs, p⟩ | ⟨e, t, ty⟩
  · exact .inl ⟨e, qs, p.same s⟩
  · exact .inr ⟨e, t, ty.same s⟩
section
variable {P : Program} {w : World} {K : PySem.W.Frag} {mg : Str → Option Value} {base : Heap}
def spRowp (K : PySem.W.Frag) (cP : Addr) : Sp := fun vs H Q _ => ∃ v, vs = [v] ∧ ((∃ t, TyN K H v t ∧ (t == "tuple") = false ∧ (t == "list") = false ∧ ∀ H', Same H H' → Q (.bl false) H') ∨
  (∃ (a : Addr) (us : List V) (bs : List Bool), v = .ref a ∧ SqL K H a us ∧ us.length ≤ 1000 ∧ (bs.length = us.length ∧ ∀ (i : Nat) (u : V) (b : Bool), us[i]? = some u → bs[i]? = some b → PB K cP H u b) ∧ ∀ H', Same H H' → Q (.bl (bs.all id)) H'))
abbrev nRp : List Str := ["value", "poly"]
theorem sc31k : FnScope nRp ["value"] (defScope (top 35)) := ⟨rfl, rfl, rfl, by decide +kernel, rfl, by decide +kernel, by decide +kernel⟩
theorem ok_rowp (T : Tb P K mg) : FnOk P w K mg base CX0 1 T.is_rowp.f T.is_rowp.fd ["value"] (spRowp K T.cP) := by
  refine T.is_rowp.fn.ok sc31k (fun vs H Q E h => ?_) (fun cdv A outer s H vs Q E hr h => ?_)
  · obtain ⟨v, rfl, _⟩ := h
    rfl
  · obtain ⟨v, rfl, h⟩ := h
    refine ⟨_, pss_one (ps_ret (pe_and (pe_callB call_isiT (by rfl) T.mIsi boot_isi (pa_cons (pv 0) (pa_cons (pe_tup (pa_cons (pe_bltn (v := .ty "tuple") (by rfl) T.mTuple boot_ttuple rfl) (pa_cons (pe_bltn (v := .ty "list") (by rfl) T.blt.list boot_tlist rfl) pa_nil))) pa_nil)))
      (pe_one (pe_callB (cr_all rfl) (by rfl) T.mAll boot_all (pa_cons (pe_lc (own := [("poly", 1)]) (g := gName 1) (tt := tYes) rfl sc31k.nd (pi_list (pv 0)) (blkOk_by (own := [("poly", 1)]) (N := nRp) (sc := defScope (top 35)) (by decide +kernel))
        (fun _ _ _ _ _ => pg_name (i := 1) sc31k.nd rfl (Or.inl rfl)) (fun _ _ _ _ _ => pts_nil) (fun _ _ _ _ _ => pe_callB (call_isiK (K' := K)) (by rfl) T.mIsi boot_isi (pa_cons (pv 1) (pa_cons (pe_glob (v := .ref T.cP) rfl T.mgP rfl) pa_nil)))) pa_nil))))), ?_⟩
    refine ⟨v, rfl, ?_⟩
    refine ⟨(by show 2 ≤ sizeLine; decide), fun p hp => ?_⟩
    have s1 : Same H (upd H p (.tup [.ty "tuple", .ty "list"])) := Same.new hp
    have hp1 : upd H p (.tup [.ty "tuple", .ty "list"]) p = some (.tup [.ty "tuple", .ty "list"]) := upd_same
    generalize upd H p (.tup [.ty "tuple", .ty "list"]) = H1 at s1 hp1
    rcases h with ⟨t, ty, n1, n2, q⟩ | ⟨a, us, bs, rfl, hs, len, ⟨lb, rb⟩, q⟩
    · refine ⟨v, p, _, _, _, _, rfl, hp1, clsTL, (ty.same s1).1, kit_tl ty.2, _, rfl, ?_⟩
      rw [n1, n2]
      exact iteF (q _ s1)
    · have hs1 := Same.seq s1 hs
      obtain ⟨t, ty, e1, e2⟩ := (show Sq K H1 a us from .inl hs1).ty
      refine ⟨_, p, _, _, _, _, rfl, hp1, clsTL, ty.1, kit_tl ty.2, _, rfl, ?_⟩
      rw [e1]
      refine iteT ⟨_, rfl, a, rfl, ⟨_, hs1⟩, fun D hD => ?_⟩
      refine lc_mapL hs1 len hD (fun i acc _ => acc = (bs.take i).map V.bl) (fun _ _ _ _ _ _ h => h) rfl ?_ ?_
      · rintro i x hx acc H' Qk Z la r s2 kk
        have lt : i < bs.length := by
          have := (List.getElem?_eq_some_iff.mp hx).1
          omega
        have pb := ((rb i x _ hx (List.getElem?_eq_getElem lt)).same s1).same s2
        refine ⟨rfl, ?_⟩
        dsimp only [tYes]
        have fin : ∀ b, b = bs[i] → Qk (.bl b) H' := fun b e => kk _ _ (Same.refl _) (by
          show acc ++ [V.bl b] = (bs.take (i + 1)).map V.bl
          rw [take_snoc (List.getElem?_eq_getElem lt), List.map_append, e]
          exact congrArg (· ++ [V.bl bs[i]]) r)
        rcases pb with ⟨e, qs, a1, dx, t1, ws, rfl, ha, r2⟩ | ⟨e, t1, ty1⟩
        · exact iteT ⟨_, rfl, _, _, _, _, true, rfl, .own _, poly_ty T.toTz ha, kit_self, fin _ e.symm⟩
        · exact iteT ⟨_, rfl, _, _, _, _, false, rfl, .own _, ty1.1, T.notP t1 ty1.2, fin _ e.symm⟩
      · rintro acc H2 hacc lacc r s2
        have r' : acc = (bs.take us.length).map V.bl := r
        rw [← lb, List.take_length] at r'
        refine ⟨D, bs, rfl, ?_, q H2 (s1.trans s2)⟩
        rw [← r']
        exact SqL.of hacc
end
end Kz
set_option linter.all false
set_option maxRecDepth 100000
set_option maxHeartbeats 4000000
namespace Kz
open PySem PySem.Spec PyProof.Rows L2
section
variable {P : Program} {w : World} {K : PySem.W.Frag} {mg : Str → Option Value} {base : Heap}
/-- what is no place of the stretch -/
def NoPl (K : PySem.W.Frag) (H : Hp) (v : V) (ks : List Rat) : Prop := Odd K H v ∨ ∃ q n m, ArgQ K H v n m q ∧ n ≤ 4000 ∧ m ≤ 4000 ∧ (q < cf ks 0 ∨ cf ks (ks.length - 1) < q)
theorem NoPl.same {H H' : Hp} {v : V} {ks : List Rat} (s : Same H H') (h : NoPl K H v ks) : NoPl K H' v ks := by
  rcases h with h | ⟨q, n, m, h, r⟩
  · exact .inl (h.same s)
  · exact .inr ⟨q, n, m, h.same s, r⟩
def spPlace (K : PySem.W.Frag) (cB cP cN : Addr) : Sp := fun vs H Q E => ∃ f v ks ps as, vs = [f, v] ∧ BrkAt K cB cP H f ks ps as ∧ Fsz ks ps ∧
  ((∃ q n m, ArgQ K H v n m q ∧ n ≤ 4000 ∧ m ≤ 4000 ∧ cf ks 0 ≤ q ∧ q ≤ cf ks (ks.length - 1) ∧ ∀ u H', Same H H' → RV K H' u q → Q u H') ∨ (NoPl K H v ks ∧ ErN cN H E "x" v))
abbrev nPl' : List Str := ["f", "x"]
theorem sc32k : FnScope nPl' ["f", "x"] (defScope (top 36)) := ⟨rfl, rfl, rfl, by decide +kernel, rfl, by decide +kernel, by decide +kernel⟩
theorem ok_place (T : Tb P K mg) : FnOk P w K mg base (CX P w) 6 T.place_in.f T.place_in.fd ["f", "x"] (spPlace K T.cB T.cP T.cN) := by
  have G1 : FnOk P w K mg base CX0 3 T.is_ratio.f T.is_ratio.fd ["value"] (spRatio K) := ok_ratio T.toTx
  have G2 : FnOk P w K mg base (CX P w) 5 T.lower.f T.lower.fd ["one", "other"] (spTwo K T.cN cBin (fun _ v q r => v = .bl (decide (q < r)))) := ok_lower T.toTx
  have G3 : FnOk P w K mg base (CX P w) 4 T.told.f T.told.fd ["value", "what"] (spTold K T.cN) := ok_told T.toTx
  refine T.place_in.fn.okX sc32k (fun vs H Q E h => ?_) (fun cdv A outer s H vs Q E hr h => ?_)
  · obtain ⟨f, v, ks, ps, as, rfl, _⟩ := h
    rfl
  · obtain ⟨f, v, ks, ps, as, rfl, ⟨a, dx, t1, t2, t3, w1, us, w3, rfl, ha, h1, a1, h2, p2, h3, a3⟩, F, h⟩ := h
    have hr3 : Room 3 _ := hr.mono (by decide)
    have hr4 : Room 4 _ := hr.mono (by decide)
    have tk := takes_of (X := cxOf (CX P w) P w K mg base nPl' "place_in" (defScope (top 36)) T.place_in.f cdv A outer s H E) (E := E) rfl rfl rfl rfl
    refine ⟨_, pss_cons (ps_if (PW.pt (pw_or (pt_not (pt_val (T.is_ratio.c0 G1 hr3 (pa_cons (pv 1) pa_nil))))
          (pw_or (pt_val (T.lower.cX G2 hr (pa_cons (pv 1) (pa_cons (pe_ix ix_tup (pe_fld (pv 0) (by rfl)) pe_int (fun _ _ => rfl)) pa_nil))))
            (pw_or1 (pt_val (T.lower.cX G2 hr (pa_cons (pe_ix ix_tup (pe_fld (pv 0) (by rfl)) (pe_un un_neg pe_int) (fun _ _ => rfl)) (pa_cons (pv 1) pa_nil))))))))
        (pss_one (ps_raise rfl tk (pmk_oex (CX := CX0) T.eN.o T.iN.i T.iN.t (ok_i3 T.iN.fn) (hr.mono (by decide)) T.bN .nil pass0 rfl T.eN.g (pa_cons pe_str (pa_cons (pv 1) pa_nil))))) pss_nil)
      (pss_one (ps_ret (T.told.cS G3 hr4 tk (pa_cons (pv 1) (pa_cons pe_str pa_nil))))), ?_⟩
    have lk := F.len
    have l1 := a1.1
    have len0 : 0 < ks.length := by omega
    obtain ⟨v0, e0, r0⟩ := a1.get (i := 0) len0
    obtain ⟨vl, el, rl⟩ := a1.get (i := ks.length - 1) (by omega)
    have z0 := F.kz (i := 0) len0
    have zl := F.kz (i := ks.length - 1) (by omega)
    have refuse : ∀ (H1 : Hp), Same H H1 → ErN T.cN H E "x" v → _ := fun H1 s1 er => raised2 (H := H1) (v := .str "x") (u := v) (Q := E) T.eN.o T.nN1 T.nN2 fun d H' s' e => er d H' (s1.trans s') e
    -- a ratio: how it stands to both ends
    rcases h with ⟨q, n, m, aq, n4, m4, lo, hi, k⟩ | ⟨od | ⟨q, n, m, aq, n4, m4, out⟩, er⟩
    · obtain ⟨tt, b, ty, pr, eb⟩ := aq.rb
      refine ⟨_, rfl, v, tt, b, rfl, ty, pr, fun H1 s1 => ?_⟩
      rw [← eb]
      refine ⟨_, rfl, iteF ⟨_, rfl, _, rfl, a, T.cB, dx, _, _, rfl, s1 _ _ ha, T.clB, T.nB1, lkB1, t1, w1, _, _, rfl, rfl, Kz.Same.seqT s1 h1, atI_nat (j := 0) e0, ?_⟩⟩
      refine ⟨v, v0, rfl, .inl ⟨q, cf ks 0, n, m, 60, 40, aq.same s1, (r0.same s1).arg z0, by omega, by decide, ⟨by omega, by omega⟩, fun b1 H2 s2 eb1 => ?_⟩⟩
      subst eb1
      have s12 := s1.trans s2
      have n1 : ¬ (q < cf ks 0) := Rat.not_lt.mpr lo
      have n2 : ¬ (cf ks (ks.length - 1) < q) := Rat.not_lt.mpr hi
      rw [decide_eq_false n1]
      refine ⟨_, rfl, iteF ⟨_, rfl, a, T.cB, dx, _, _, rfl, s12 _ _ ha, T.clB, T.nB1, lkB1, _, rfl, t1, w1, _, _, rfl, rfl, Kz.Same.seqT s12 h1, atI_last (by rw [l1]; exact el), _, rfl, ?_⟩⟩
      refine ⟨vl, v, rfl, .inl ⟨_, q, 60, 40, n, m, (rl.same s12).arg zl, aq.same s12, by decide, by omega, ⟨by omega, by omega⟩, fun b2 H3 s3 eb2 => ?_⟩⟩
      subst eb2
      rw [decide_eq_false n2]
      have s13 := s12.trans s3
      exact ⟨_, rfl, iteF ⟨_, rfl, _, _, rfl, .inl ⟨q, n, m, aq.same s13, by omega, fun u H4 s4 ru => k u H4 (s13.trans s4) ru⟩⟩⟩
    · obtain ⟨tt, b, ty, pr, eb⟩ := od.rb
      refine ⟨_, rfl, v, tt, b, rfl, ty, pr, fun H1 s1 => ?_⟩
      rw [← eb]
      exact ⟨_, rfl, iteT (iteT ⟨_, rfl, refuse H1 s1 er⟩)⟩
    · obtain ⟨tt, b, ty, pr, eb⟩ := aq.rb
      refine ⟨_, rfl, v, tt, b, rfl, ty, pr, fun H1 s1 => ?_⟩
      rw [← eb]
      refine ⟨_, rfl, iteF ⟨_, rfl, _, rfl, a, T.cB, dx, _, _, rfl, s1 _ _ ha, T.clB, T.nB1, lkB1, t1, w1, _, _, rfl, rfl, Kz.Same.seqT s1 h1, atI_nat (j := 0) e0, ?_⟩⟩
      refine ⟨v, v0, rfl, .inl ⟨q, cf ks 0, n, m, 60, 40, aq.same s1, (r0.same s1).arg z0, by omega, by decide, ⟨by omega, by omega⟩, fun b1 H2 s2 eb1 => ?_⟩⟩
      subst eb1
      have s12 := s1.trans s2
      by_cases c1 : q < cf ks 0
      · rw [decide_eq_true c1]
        exact ⟨_, rfl, iteT (iteT ⟨_, rfl, refuse H2 s12 er⟩)⟩
      · rw [decide_eq_false c1]
        have c2 := out.resolve_left c1
        refine ⟨_, rfl, iteF ⟨_, rfl, a, T.cB, dx, _, _, rfl, s12 _ _ ha, T.clB, T.nB1, lkB1, _, rfl, t1, w1, _, _, rfl, rfl, Kz.Same.seqT s12 h1, atI_last (by rw [l1]; exact el), _, rfl, ?_⟩⟩
        refine ⟨vl, v, rfl, .inl ⟨_, q, 60, 40, n, m, (rl.same s12).arg zl, aq.same s12, by decide, by omega, ⟨by omega, by omega⟩, fun b2 H3 s3 eb2 => ?_⟩⟩
        subst eb2
        rw [decide_eq_true c2]
        exact ⟨_, rfl, iteT ⟨_, rfl, refuse H3 (s12.trans s3) er⟩⟩
/-- the index of the piece that goes on from a place -/
def spFrom (K : PySem.W.Frag) (cB cP : Addr) : Sp := fun vs H Q _ => ∃ f v ks ps as q n m, vs = [f, v] ∧ BrkAt K cB cP H f ks ps as ∧ Fsz ks ps ∧ RV K H v q ∧ Sz n m q ∧ n ≤ 4000 ∧ m ≤ 4000 ∧ q < cf ks ps.length ∧
  ∀ (i : Nat) H', Same H H' → i < ps.length → q < cf ks (i + 1) → (∀ j, j < i → cf ks (j + 1) ≤ q) → Q (.int (i : Nat)) H'
abbrev nPf : List Str := ["f", "place", "index"]
theorem sc33k : FnScope nPf ["f", "place"] (defScope (top 37)) := ⟨rfl, rfl, rfl, by decide +kernel, rfl, by decide +kernel, by decide +kernel⟩
theorem ok_from (T : Tb P K mg) : FnOk P w K mg base CX0 6 T.piece_from.f T.piece_from.fd ["f", "place"] (spFrom K T.cB T.cP) := by
  have G2 : FnOk P w K mg base (CX P w) 5 T.lower.f T.lower.fd ["one", "other"] (spTwo K T.cN cBin (fun _ v q r => v = .bl (decide (q < r)))) := ok_lower T.toTx
  refine T.piece_from.fn.ok sc33k (fun vs H Q E h => ?_) (fun cdv A outer s H vs Q E hr h => ?_)
  · obtain ⟨f, v, ks, ps, as, q, n, m, rfl, _⟩ := h
    rfl
  · obtain ⟨f, v, ks, ps, as, q, n, m, rfl, ⟨a, dx, t1, t2, t3, w1, us, w3, rfl, ha, h1, a1, h2, p2, h3, a3⟩, F, rq, zq, n4, m4, hi, k⟩ := h
    refine ⟨_, pss_cons (ps_set (i := 2) sc33k.nd rfl (.inl rfl) pe_int)
      (pss_cons (ps_while PassesOwn.never (pt_not (pt_val (T.lower.cX G2 hr (pa_cons (pv 1) (pa_cons (pe_ix ix_tup (pe_fld (pv 0) (by rfl)) (pe_op op_add (pv 2) pe_int) (fun _ _ => rfl)) pa_nil)))))
        (pss_one (ps_set (i := 2) sc33k.nd rfl (.inl rfl) (pe_op op_add (pv 2) pe_int))))
      (pss_one (ps_ret (pv 2)))), ?_⟩
    have lk := F.len
    have l1 := a1.1
    have f1 := F.one
    refine while_by (fun σ H' => Same H H' ∧ ∃ i : Nat, σ = [some (.ref a), some v, some (.int (i : Nat))] ∧ i < ps.length ∧ ∀ j, j < i → cf ks (j + 1) ≤ q)
      (fun σ _ => match σ with | [_, _, some (.int i)] => ps.length - i.toNat | _ => 0) ⟨Same.refl _, 0, rfl, f1, fun j h => absurd h (Nat.not_lt_zero _)⟩ ?_ ?_
    · rintro σ H1 ⟨s1, i, rfl, hi', no⟩
      obtain ⟨v1, e1, r1⟩ := a1.get (i := i + 1) (by omega)
      have z1 := F.kz (i := i + 1) (by omega)
      refine ⟨_, rfl, _, rfl, a, T.cB, dx, _, _, rfl, s1 _ _ ha, T.clB, T.nB1, lkB1, _, rfl, _, _, rfl, rfl, t1, w1, _, _, rfl, rfl, Kz.Same.seqT s1 h1, atI_nat (j := i + 1) e1, ?_⟩
      refine ⟨v, v1, rfl, .inl ⟨q, cf ks (i + 1), n, m, 60, 40, (rq.same s1).arg zq, (r1.same s1).arg z1, by omega, by decide, ⟨by omega, by omega⟩, fun b1 H2 s2 eb1 => ?_⟩⟩
      subst eb1
      by_cases c : q < cf ks (i + 1)
      · rw [decide_eq_true c]
        exact ⟨_, rfl, iteF ⟨_, rfl, k i H2 (s1.trans s2) hi' c no⟩⟩
      · rw [decide_eq_false c]
        have ge : cf ks (i + 1) ≤ q := Rat.not_lt.mp c
        have i2 : i + 1 < ps.length := by
          rcases Nat.lt_or_ge (i + 1) ps.length with l | l
          · exact l
          · have : i + 1 = ps.length := by omega
            rw [this] at ge
            exact absurd (Std.lt_of_lt_of_le hi ge) Rat.lt_irrefl
        refine ⟨_, rfl, iteT ⟨_, rfl, _, _, rfl, rfl, ⟨s1.trans s2, i + 1, rfl, i2, fun j hj => ?_⟩, ?_⟩⟩
        · rcases Nat.lt_or_ge j i with l | l
          · exact no j l
          · rw [show j = i by omega]
            exact ge
        · show ps.length - (((i : Nat) : Int) + 1).toNat < ps.length - (((i : Nat) : Int)).toNat
          omega
    · intro σ H Q Q' imp h
      obtain ⟨v1, e1, v0, e0, a, C, dx, fs, x, ex, ea, c1, c2, lk, v2, e2, i, j, ei, ej, t, xs, i', y, et, ei', ht, hat, u1, u2, eu, h⟩ := h
      refine ⟨v1, e1, v0, e0, a, C, dx, fs, x, ex, ea, c1, c2, lk, v2, e2, i, j, ei, ej, t, xs, i', y, et, ei', ht, hat, u1, u2, eu, ?_⟩
      rcases h with ⟨q, r, n, m, n', m', k1, k2, k3, k4, k5, k6⟩ | h
      · exact .inl ⟨q, r, n, m, n', m', k1, k2, k3, k4, k5, fun v' H' s r => let ⟨d, ed, hd⟩ := k6 v' H' s r; ⟨d, ed, imp _ _ hd⟩⟩
      · exact .inr h
end
end Kz
set_option linter.all false
set_option maxRecDepth 100000
set_option maxHeartbeats 4000000
namespace Kz
open PySem PySem.Spec PyProof.Rows L2
theorem lkPat {v : V} : ([(("numbers" : Str), v)] : List (Str × V)).lookup ("at" : Str) = none := by
  have e : ((("at" : Str)) == (("numbers" : Str))) = false := by decide +kernel
  simp [List.lookup, e]
/-- the limits at the knot i -/
def KL (K : PySem.W.Frag) (H : Hp) (ks : List Rat) (ps : List (List Rat)) (i : Nat) (l r : V) : Prop :=
  (i = 0 → l = .non) ∧ (0 < i → RV K H l (ev (pv' ps (i - 1)) (cf ks i))) ∧ (i = ps.length → r = .non) ∧ (i < ps.length → RV K H r (ev (pv' ps i) (cf ks i)))
theorem KL.same {K : PySem.W.Frag} {H H' : Hp} {ks : List Rat} {ps : List (List Rat)} {i : Nat} {l r : V} (s : Same H H') (h : KL K H ks ps i l r) : KL K H' ks ps i l r := ⟨h.1, fun z => (h.2.1 z).same s, h.2.2.1, fun z => (h.2.2.2 z).same s⟩
section
variable {P : Program} {w : World} {K : PySem.W.Frag} {mg : Str → Option Value} {base : Heap}
/-- Poly.at at a ratio, as it is used here -/
theorem at_reads {cP cN : Addr} {H : Hp} {Q : VK} {E : XK} {p v : V} {qs : List Rat} {x : Rat} {α β : Nat} (hp : PolyAt K cP H p qs) (z : SzA 960 900 qs) (l : qs.length ≤ 6) (rx : RV K H v x) (zx : Sz α β x) (a0 : 0 < α) (a1 : α ≤ 1000) (b : β ≤ 400)
    (k : ∀ u H', Same H H' → RV K H' u (ev qs x) → Q u H') : spAt K cP cN [p, v] H Q E := by
  have m1 : 900 * qs.length ≤ 900 * 6 := Nat.mul_le_mul_left _ l
  have m2 : β * qs.length ≤ 400 * 6 := Nat.mul_le_mul b l
  exact ⟨p, v, qs, 960, 900, rfl, hp, z, by decide, by decide, by omega, by omega, .inl ⟨x, α, β, rx.arg zx, a0, a1, by omega, k⟩⟩
def spKlim (K : PySem.W.Frag) (cB cP : Addr) : Sp := fun vs H Q _ => ∃ f ks ps as, ∃ i : Nat, vs = [f, .int (i : Nat)] ∧ BrkAt K cB cP H f ks ps as ∧ Fsz ks ps ∧ i < ks.length ∧ ∀ t H' l r, Same H H' → SqT K H' t [l, r] → KL K H' ks ps i l r → Q (.ref t) H'
abbrev nKl : List Str := ["f", "index", "left", "right"]
theorem sc34k : FnScope nKl ["f", "index"] (defScope (top 38)) := ⟨rfl, rfl, rfl, by decide +kernel, rfl, by decide +kernel, by decide +kernel⟩
theorem ok_klim (T : Tb P K mg) : FnOk P w K mg base CX0 6 T.klimits.f T.klimits.fd ["f", "index"] (spKlim K T.cB T.cP) := by
  have Gat : FnOk P w K mg base (CX P w) 5 T.p_at.f T.p_at.fd ["self", "place"] (spAt K T.cP T.cN) := ok_at T.toTz
  refine T.klimits.fn.ok sc34k (fun vs H Q E h => ?_) (fun cdv A outer s H vs Q E hr h => ?_)
  · obtain ⟨f, ks, ps, as, i, rfl, _⟩ := h
    rfl
  · obtain ⟨f, ks, ps, as, i, rfl, ⟨a, dx, t1, t2, t3, w1, us, w3, rfl, ha, h1, a1, h2, ⟨lu, p2⟩, h3, a3⟩, F, hi, k⟩ := h
    refine ⟨_, pss_cons (ps_set (i := 2) sc34k.nd rfl (.inl rfl) pe_non) (pss_cons (ps_set (i := 3) sc34k.nd rfl (.inl rfl) pe_non)
      (C8.pss_cut (ps_if (pt_cmpR op_gt (pv 1) pe_int (nomark _)) (pss_one (ps_set (i := 2) sc34k.nd rfl (.inl rfl) (pe_meth (pe_ix ix_tup (pe_fld (pv 0) (by rfl)) (pe_op op_sub (pv 1) pe_int) (fun _ _ => rfl)) T.clP T.p_at.me Gat hr T.p_at.b .nil passL
          (pa_cons (pe_ix ix_tup (pe_fld (pv 0) (by rfl)) (pv 1) (fun _ _ => rfl)) pa_nil)))) pss_nil)
      (C8.pss_cut (ps_if (pt_cmpR op_lt (pv 1) (pe_callB call_len_seq (by rfl) T.blt.len PySem.boot_len (pa_cons (pe_fld (pv 0) (by rfl)) pa_nil)) (nomark _)) (pss_one (ps_set (i := 3) sc34k.nd rfl (.inl rfl) (pe_meth (pe_ix ix_tup (pe_fld (pv 0) (by rfl)) (pv 1) (fun _ _ => rfl)) T.clP T.p_at.me Gat hr T.p_at.b .nil passL
          (pa_cons (pe_ix ix_tup (pe_fld (pv 0) (by rfl)) (pv 1) (fun _ _ => rfl)) pa_nil)))) pss_nil)
      (pss_one (ps_ret (pe_tup (pa_cons (pv 2) (pa_cons (pv 3) pa_nil)))))))), ?_⟩
    have lk := F.len
    have l1 := a1.1
    obtain ⟨x, ex, rx⟩ := a1.get (i := i) hi
    have zx := F.kz hi
    refine ⟨fun σ H' => ∃ l, σ = [some (.ref a), some (.int (i : Nat)), some l, some .non] ∧ Same H H' ∧ (i = 0 → l = .non) ∧ (0 < i → RV K H' l (ev (pv' ps (i - 1)) (cf ks i))), ?_, ?_⟩
    · refine ⟨_, rfl, _, _, rfl, rfl, _, rfl, ite2 (fun lt => ?_) fun ge => ?_⟩
      · have lt' : 0 < i := by
          have := of_decide_eq_true lt
          omega
        obtain ⟨up, eup⟩ : ∃ up, us[i - 1]? = some up := ⟨_, List.getElem?_eq_getElem (by omega)⟩
        have pp := p2 (i - 1) up _ eup (pv_at (by omega))
        obtain ⟨zp, tp, lp⟩ := F.pz (k := i - 1) (by omega)
        obtain ⟨ap, dp, tp', wp, rfl, hap, rp⟩ := id pp
        refine ⟨_, rfl, a, T.cB, dx, _, _, rfl, ha, T.clB, T.nB2, lkB2, _, rfl, _, _, rfl, rfl, t2, us, _, _, rfl, rfl, h2, by rw [show ((i : Nat) : Int) - 1 = ((i - 1 : Nat) : Int) by omega]; exact atI_nat eup,
          ap, dp, _, rfl, hap, lkPat, _, rfl, a, T.cB, dx, _, _, rfl, ha, T.clB, T.nB1, lkB1, _, rfl, t1, w1, _, _, rfl, rfl, h1, atI_nat ex, ?_⟩
        exact at_reads pp zp lp rx zx (by decide) (by decide) (by decide) fun u H1 s1 ru => ⟨u, rfl, s1, fun z => by omega, fun _ => ru⟩
      · have ge' : ¬ (0 < i) := fun z => ge (decide_eq_true (by omega))
        exact ⟨.non, rfl, Same.refl _, fun _ => rfl, fun z => absurd z ge'⟩
    · rintro σ H1 ⟨l, rfl, s1, l0, lr⟩
      refine ⟨fun σ H' => ∃ r, σ = [some (.ref a), some (.int (i : Nat)), some l, some r] ∧ Same H1 H' ∧ (i = ps.length → r = .non) ∧ (i < ps.length → RV K H' r (ev (pv' ps i) (cf ks i))), ?_, ?_⟩
      · refine ⟨_, rfl, _, rfl, a, T.cB, dx, _, _, rfl, s1 _ _ ha, T.clB, T.nB2, lkB2, t2, us, rfl, .inr (Kz.Same.seqT s1 h2), _, _, rfl, rfl, _, rfl, ite2 (fun lt => ?_) fun ge => ?_⟩
        · have lt' : i < ps.length := by
            have := of_decide_eq_true lt
            omega
          obtain ⟨up, eup⟩ : ∃ up, us[i]? = some up := ⟨_, List.getElem?_eq_getElem (by omega)⟩
          have pp := (p2 i up _ eup (pv_at lt')).same s1
          obtain ⟨zp, tp, lp⟩ := F.pz (k := i) lt'
          obtain ⟨ap, dp, tp', wp, rfl, hap, rp⟩ := id pp
          refine ⟨_, rfl, a, T.cB, dx, _, _, rfl, s1 _ _ ha, T.clB, T.nB2, lkB2, _, rfl, t2, us, _, _, rfl, rfl, Kz.Same.seqT s1 h2, atI_nat eup,
            ap, dp, _, rfl, hap, lkPat, _, rfl, a, T.cB, dx, _, _, rfl, s1 _ _ ha, T.clB, T.nB1, lkB1, _, rfl, t1, w1, _, _, rfl, rfl, Kz.Same.seqT s1 h1, atI_nat ex, ?_⟩
          exact at_reads pp zp lp (rx.same s1) zx (by decide) (by decide) (by decide) fun u H2 s2 ru => ⟨u, rfl, s2, fun z => by omega, fun _ => ru⟩
        · have ge' : ¬ (i < ps.length) := fun z => ge (decide_eq_true (by omega))
          exact ⟨.non, rfl, Same.refl _, fun _ => rfl, fun z => absurd z ge'⟩
      · rintro σ H2 ⟨r, rfl, s2, r0, rr⟩
        refine ⟨_, rfl, _, rfl, (by show 2 ≤ sizeLine; decide), fun tt nt => ?_⟩
        have s3 := Same.new (o := .tup [l, r]) nt
        exact k tt _ l r ((s1.trans s2).trans s3) (SqT.of upd_same) ⟨l0, fun z => ((lr z).same s2).same s3, r0, fun z => (rr z).same s3⟩
end
end Kz
set_option linter.all false
set_option maxRecDepth 100000
set_option maxHeartbeats 4000000
namespace Kz
open PySem PySem.Spec PyProof.Rows L2
/-! ### `in` and `.index` of a tuple of data -/
section
variable {X : Cx}
def rInDT (K : PySem.W.Frag) : R2 := fun x y H Q => ∃ d ds, Dp K H x d ∧ Dp K H y (.tuple ds) ∧ SeqAt.shaped d = true ∧ SeqAt.shaped (.tuple ds) = true ∧ Q (.bl (ds.any fun z => PyData.eqv z d)) H
theorem op_inDT (hu : X.A.units + 65 < cLine) : OpR X (compareOp .In) (rInDT X.K) := by
  intro pins s σ H x y v u Q I rx ry h
  obtain ⟨d, ds, hd, he, sd, se, q⟩ := h
  obtain ⟨as, r1⟩ := Dp.reads I d x v hd rx
  obtain ⟨bs, r2⟩ := Dp.reads I (.tuple ds) y u he ry
  exact SeqAt.in_tuple_reads r2 r1 (SeqAt.canLay_of_shaped se) (SeqAt.canLay_of_shaped sd) (room_in_shaped sd hu) ⟨.bl _, H, I, rfl, q⟩
def rIndexDT (K : PySem.W.Frag) : V → List V → Hp → VK → Prop := fun x xs H Q => ∃ (a : Addr) (y : V) (d : PyData) (ds : List PyData) (j : Nat) (z : PyData), x = V.ref a ∧ xs = [y] ∧ Dp K H (V.ref a) (.tuple ds) ∧ Dp K H y d ∧
  SeqAt.shaped (.tuple ds) = true ∧ SeqAt.shaped d = true ∧ ds[j]? = some z ∧ PyData.eqv z d = true ∧ (∀ (m : Nat) (z' : PyData), m < j → ds[m]? = some z' → PyData.eqv z' d = false) ∧ Q (.int (j : Nat)) H
theorem mt_indexDT (hu : X.A.units + 65 < cLine) : MtR X "tuple.index" (rIndexDT X.K) := by
  intro pins s σ H x xs v us Q I rx rxs h
  obtain ⟨a, y, d, ds, j, z, rfl, rfl, hl, hy, sl, sd, hz, hzj, hno, q⟩ := h
  cases rx
  cases rxs with
  | cons ry rt =>
    rename_i uy ut
    cases rt
    obtain ⟨bs, r1⟩ := Dp.reads I d y uy hy ry
    have hxs : PyData.canLayAll0 ds = true := SeqAt.canLay_of_shaped sl
    have hroom : X.A.units + 1 + min (PyData.depthAll ds) d.depth < cLine := room_in_shaped sd hu
    cases hl with
    | tup hs ha =>
      obtain ⟨its, rv, pl, hlen⟩ := I.tuple hs
      obtain ⟨⟨cls, dd, data, sls⟩, ho, hc, n, hdt⟩ := pl
      simp only at hc hdt
      subst hc hdt
      obtain ⟨as, h4⟩ := Dp.readsAll I ds _ its ha rv
      have hn : its.length = ds.length := SeqAt.ReadsAll.length ds its as h4
      have hmap : its.map (SeqAt.readOf s.heap) = ds := SeqAt.readsAll_map ds its as hxs h4
      obtain ⟨hjd, _⟩ := List.getElem?_eq_some_iff.mp hz
      have hjl : j < its.length := by omega
      have hj : j < its.toArray.size := by simpa using hjl
      have at_ : ∀ (m : Nat) (hm : m < its.toArray.size) (z' : PyData), ds[m]? = some z' → SeqAt.readOf s.heap its.toArray[m] = z' := by
        intro m hm z' hz'
        have hml : m < its.length := by simpa using hm
        rw [← hmap, List.getElem?_map, List.getElem?_eq_getElem hml] at hz'
        have e1 : SeqAt.readOf s.heap its[m] = z' := Option.some.inj (show some (SeqAt.readOf s.heap its[m]) = some z' from hz')
        simpa using e1
      refine call_meets PySem.F.slot_tuple_index ⟨_, ho, rfl⟩ PySem.F.entry_tuple_index (PySem.F.args_tuple_index_2 _ _)
        (TI.tuple_indexAt a its.toArray n dd sls uy (fun u => PyData.eqv (SeqAt.readOf s.heap u) d) j hj ?_ ?_) ⟨ho, SeqAt.items_eqAt (vs := its.toArray) (show ReadsAll s.heap its.toArray.toList ds as from h4) r1 hxs (SeqAt.canLay_of_shaped sd) hroom, ?_⟩
      · show PyData.eqv (SeqAt.readOf s.heap its.toArray[j]) d = true
        rw [at_ j hj z hz]
        exact hzj
      · intro m hm hmj
        have hmd : m < ds.length := by omega
        have hz' : ds[m]? = some ds[m] := List.getElem?_eq_getElem hmd
        show PyData.eqv (SeqAt.readOf s.heap its.toArray[m]) d = false
        rw [at_ m hm _ hz']
        exact hno m _ hmj hz'
      · exact ⟨.int (j : Nat), H, I.tok _, ⟨_, rfl⟩, q⟩
end
theorem pdT_shaped (qs : List Rat) : SeqAt.shaped (.tuple (qs.map pdQ)) = true := by
  obtain ⟨h1, h2⟩ := pdQ_lay qs
  unfold SeqAt.shaped
  simp only [PyData.canLay0, PyData.depth, h1, Bool.true_and]
  exact decide_eq_true (by omega)
/-- whether a place is a knot -/
def atKn (ks : List Rat) (q : Rat) : Bool := decide (q ∈ ks)
theorem pdQ_any {ks : List Rat} {q : Rat} : ((ks.map pdQ).any fun z => PyData.eqv z (pdQ q)) = atKn ks q := by
  unfold atKn
  rw [Bool.eq_iff_iff, List.any_eq_true, decide_eq_true_iff]
  constructor
  · rintro ⟨z, hz, e⟩
    obtain ⟨r, hr, rfl⟩ := List.mem_map.mp hz
    rw [pdQ_eqv] at e
    rw [← of_decide_eq_true e]
    exact hr
  · intro h
    exact ⟨pdQ q, List.mem_map_of_mem h, by rw [pdQ_eqv]; exact decide_eq_true rfl⟩
theorem in_kn {K : PySem.W.Frag} {H : Hp} {t : Addr} {ws : List V} {ks : List Rat} {v : V} {q : Rat} {Q : VK} (ht : SqT K H t ws) (al : Al K H ws ks) (rv : RV K H v q) (k : Q (.bl (atKn ks q)) H) : rInDT K v (.ref t) H Q :=
  ⟨pdQ q, ks.map pdQ, rv.dp, .tup ht al.dp, pdQ_shaped q, pdT_shaped ks, by rw [pdQ_any]; exact k⟩
theorem index_kn {K : PySem.W.Frag} {H : Hp} {t : Addr} {ws : List V} {ks : List Rat} {v : V} {q : Rat} {Q : VK} {j : Nat} (ht : SqT K H t ws) (al : Al K H ws ks) (rv : RV K H v q) (asc : Asc ks) (hj : j < ks.length) (e : cf ks j = q) (k : Q (.int (j : Nat)) H) :
    rIndexDT K (.ref t) [v] H Q := by
  refine ⟨t, v, pdQ q, ks.map pdQ, j, pdQ (cf ks j), rfl, rfl, .tup ht al.dp, rv.dp, pdT_shaped ks, pdQ_shaped q, pdQ_at hj, by rw [pdQ_eqv, decide_eq_true e], fun m z' hm hz => ?_, k⟩
  rw [pdQ_at (by omega)] at hz
  cases hz
  rw [pdQ_eqv]
  refine decide_eq_false fun e' => ?_
  have := asc_inj asc (by omega) hj (e'.trans e.symm)
  omega
end Kz
set_option linter.all false
set_option maxRecDepth 100000
set_option maxHeartbeats 4000000
namespace Kz
open PySem PySem.Spec PyProof.Rows L2
theorem for_enumT {K : PySem.W.Frag} {a : Addr} {xs : List V} {g : TG} {tb : TS} {D : Ends} {σ : L2.St} {H : Hp} (Pv : Nat → L2.St → Hp → Prop) (h0 : Pv 0 σ H) (hq : ∀ i σ H, Pv i σ H → SqT K H a xs)
    (hs : ∀ (i : Nat) (x : V) (T : Addr) (σ : L2.St) (H : Hp), xs[i]? = some x → Pv i σ H → H T = none → g (.ref T) σ (upd H T (.tup [.int (i : Nat), x])) fun σ2 H2 => tb { D with nx := Pv (i + 1), ct := Pv (i + 1), bk := D.nx } σ2 H2)
    (hd : ∀ σ H, Pv xs.length σ H → D.nx σ H) : ∃ W : Nat → Nat → L2.St → Hp → Prop, (∃ m, W 0 m σ H) ∧ ∀ i m σ H, W i m σ H →
      ((IteT K a).stop i H ∧ D.nx σ H) ∨ ((IteT K a).go i H ∧ ∃ N : L2.St → Hp → Prop, (∀ σ' H', N σ' H' → ∃ m', m' < m ∧ W (i + 1) m' σ' H') ∧ ∀ v H', (IteT K a).yld i H v H' → g v σ H' fun σ2 H2 => tb { D with nx := N, ct := N, bk := D.nx } σ2 H2) := by
  refine ⟨fun i m σ H => m = xs.length - i ∧ i ≤ xs.length ∧ Pv i σ H, ⟨_, rfl, Nat.zero_le _, h0⟩, ?_⟩
  rintro i m σ H ⟨rfl, le, p⟩
  rcases Nat.lt_or_ge i xs.length with lt | ge
  · right
    refine ⟨⟨xs, _, hq i σ H p, List.getElem?_eq_getElem lt⟩, Pv (i + 1), ?_, ?_⟩
    · intro σ' H' p'
      exact ⟨xs.length - (i + 1), by omega, rfl, lt, p'⟩
    · rintro v H' ⟨T, x, rfl, hT, rfl, f⟩
      exact hs i x T σ H (f xs (hq i σ H p)) p hT
  · left
    have e : i = xs.length := by omega
    subst e
    exact ⟨⟨xs, hq _ σ H p, rfl⟩, hd σ H p⟩
/-- a pair of ratios -/
def PRt (K : PySem.W.Frag) (H : Hp) (u : V) (p : Rat × Rat) : Prop := ∃ t v1 v2, u = .ref t ∧ SqT K H t [v1, v2] ∧ RV K H v1 p.1 ∧ RV K H v2 p.2
theorem PRt.same {K : PySem.W.Frag} {H H' : Hp} {u : V} {p : Rat × Rat} (s : Same H H') (h : PRt K H u p) : PRt K H' u p := by
  obtain ⟨t, v1, v2, e, a, b, c⟩ := h
  exact ⟨t, v1, v2, e, Kz.Same.seqT s a, b.same s, c.same s⟩
theorem bearT {K : PySem.W.Frag} {D t : Addr} {xs : List V} {H H' : Hp} (l : ∀ o, H D = some o → ∃ us, o = .lst us) (b : But D H H') (r : SqT K H t xs) : SqT K H' t xs := by
  rcases r with (r | ⟨o', r⟩) | r
  · exact .inl (.inl (b _ _ r (fun e => by obtain ⟨us, eu⟩ := l _ (e ▸ r); cases eu)))
  · exact .inl (.inr ⟨o', b _ _ r (fun e => by obtain ⟨us, eu⟩ := l _ (e ▸ r); cases eu)⟩)
  · exact .inr r
theorem PRt.bear {K : PySem.W.Frag} {D : Addr} {H H' : Hp} {u : V} {p : Rat × Rat} (l : ∀ o, H D = some o → ∃ us, o = .lst us) (b : But D H H') (h : PRt K H u p) : PRt K H' u p := by
  obtain ⟨t, v1, v2, e, a, b1, c⟩ := h
  exact ⟨t, v1, v2, e, bearT l b a, bear_rv l b b1, bear_rv l b c⟩
def PrL (K : PySem.W.Frag) (H : Hp) (us : List V) (ps : List (Rat × Rat)) : Prop := us.length = ps.length ∧ ∀ (i : Nat) (u : V) (p : Rat × Rat), us[i]? = some u → ps[i]? = some p → PRt K H u p
theorem PrL.nil {K : PySem.W.Frag} {H : Hp} : PrL K H [] [] := ⟨rfl, fun i u p h => by simp at h⟩
theorem PrL.same {K : PySem.W.Frag} {H H' : Hp} {us : List V} {ps : List (Rat × Rat)} (s : Same H H') (h : PrL K H us ps) : PrL K H' us ps := ⟨h.1, fun i u p a b => (h.2 i u p a b).same s⟩
theorem PrL.bear {K : PySem.W.Frag} {D : Addr} {H H' : Hp} {us : List V} {ps : List (Rat × Rat)} (l : ∀ o, H D = some o → ∃ us, o = .lst us) (b : But D H H') (h : PrL K H us ps) : PrL K H' us ps := ⟨h.1, fun i u p a c => (h.2 i u p a c).bear l b⟩
theorem PrL.snoc {K : PySem.W.Frag} {H : Hp} {us : List V} {ps : List (Rat × Rat)} {u : V} {p : Rat × Rat} (h : PrL K H us ps) (r : PRt K H u p) : PrL K H (us ++ [u]) (ps ++ [p]) := by
  refine ⟨by simp [h.1], fun i v' q' a b => ?_⟩
  rcases Nat.lt_or_ge i us.length with lt | ge
  · rw [List.getElem?_append_left lt] at a
    rw [List.getElem?_append_left (by rw [← h.1]; exact lt)] at b
    exact h.2 i _ _ a b
  · rw [List.getElem?_append_right ge] at a
    rw [List.getElem?_append_right (by rw [← h.1]; exact ge), ← h.1] at b
    cases z : i - us.length with
    | zero =>
      rw [z] at a b
      cases a
      cases b
      exact r
    | succ k =>
      rw [z] at a
      cases a
/-- the number at a knot with each limit there -/
def prK (ks : List Rat) (ps : List (List Rat)) (as : List Rat) (i : Nat) : List (Rat × Rat) := (lims ks ps i).map fun q => (cf as i, q)
def prsOf (ks : List Rat) (ps : List (List Rat)) (as : List Rat) (n : Nat) : List (Rat × Rat) := (List.range n).flatMap (prK ks ps as)
theorem prsOf_snoc {ks : List Rat} {ps : List (List Rat)} {as : List Rat} {i : Nat} : prsOf ks ps as (i + 1) = prsOf ks ps as i ++ prK ks ps as i := by
  unfold prsOf
  rw [List.range_succ, List.flatMap_append]
  simp
theorem prsOf_len {ks : List Rat} {ps : List (List Rat)} {as : List Rat} : ∀ {n : Nat}, (prsOf ks ps as n).length ≤ 2 * n
  | 0 => Nat.le_refl _
  | n + 1 => by
    rw [prsOf_snoc, List.length_append]
    have := prsOf_len (ks := ks) (ps := ps) (as := as) (n := n)
    have z : (prK ks ps as n).length ≤ 2 := by
      unfold prK
      rw [List.length_map]
      exact lims_len
    omega
theorem prs_above {ks : List Rat} {ps : List (List Rat)} {as : List Rat} {n : Nat} : (prsOf ks ps as n).any (fun p => decide (p.1 < p.2)) = abv ks ps as n := by
  unfold prsOf abv prK
  rw [List.any_flatMap]
  congr 1
  funext i
  rw [List.any_map]
  rfl
theorem prs_below {ks : List Rat} {ps : List (List Rat)} {as : List Rat} {n : Nat} : (prsOf ks ps as n).any (fun p => decide (p.2 < p.1)) = blw ks ps as n := by
  unfold prsOf blw prK
  rw [List.any_flatMap]
  congr 1
  funext i
  rw [List.any_map]
  rfl
/-- what stands behind a knot's first j limits, None among them -/
def prJ (ks : List Rat) (ps : List (List Rat)) (as : List Rat) (i : Nat) : Nat → List (Rat × Rat)
  | 0 => []
  | 1 => (limL ks ps i).map fun q => (cf as i, q)
  | _ => prK ks ps as i
section
variable {P : Program} {w : World} {K : PySem.W.Frag} {mg : Str → Option Value} {base : Heap}
def spNlims (K : PySem.W.Frag) (cB cP : Addr) : Sp := fun vs H Q _ => ∃ f ks ps as, vs = [f] ∧ BrkAt K cB cP H f ks ps as ∧ Fsz ks ps ∧ as.length = ks.length ∧ ∀ l us H', Same H H' → H' l = some (.lst us) → PrL K H' us (prsOf ks ps as ks.length) → Q (.ref l) H'
abbrev nNl : List Str := ["f", "found", "index", "number", "limit"]
theorem sc35k : FnScope nNl ["f"] (defScope (top 39)) := ⟨rfl, rfl, rfl, by decide +kernel, rfl, by decide +kernel, by decide +kernel⟩
theorem ok_nlims (T : Tb P K mg) : FnOk P w K mg base CX0 7 T.nlims.f T.nlims.fd ["f"] (spNlims K T.cB T.cP) := by
  have G : FnOk P w K mg base CX0 6 T.klimits.f T.klimits.fd ["f", "index"] (spKlim K T.cB T.cP) := ok_klim T
  refine T.nlims.fn.ok sc35k (fun vs H Q E h => ?_) (fun cdv A outer s H vs Q E hr h => ?_)
  · obtain ⟨f, ks, ps, as, rfl, _⟩ := h
    rfl
  · obtain ⟨f, ks, ps, as, rfl, hB, F, las, k⟩ := h
    have hB0 := hB
    obtain ⟨a, dx, t1, t2, t3, w1, us, w3, rfl, ha, h1, a1, h2, p2, h3, a3⟩ := hB
    refine ⟨_, pss_cons (ps_set (i := 1) sc35k.nd rfl (.inl rfl) (pe_lst pa_nil))
      (pss_cons (ps_for PassesOwn.never rfl (pi_enumT (by rfl) T.mEnum (pa_cons (pe_fld (pv 0) (by rfl)) pa_nil)) (pg_tup (by rfl) (pgs_cons (pg_name (i := 2) sc35k.nd rfl (.inl rfl)) (pgs_cons (pg_name (i := 3) sc35k.nd rfl (.inl rfl)) pgs_nil)))
        (pss_one (ps_for PassesOwn.never rfl (pi_tup (T.klimits.c0 G hr (pa_cons (pv 0) (pa_cons (pv 2) pa_nil)))) (pg_name (i := 4) sc35k.nd rfl (.inl rfl))
          (pss_one (ps_if (pt_cmpR op_notN (pv 4) pe_non (nomark _))
            (pss_one (ps_expr (pe_bm PySem.F.plainAttrs_list PySem.F.slot_list_append PySem.F.type_list_append mt_append (pv 1) (pa_cons (pe_tup (pa_cons (pv 3) (pa_cons (pv 4) pa_nil))) pa_nil)))) pss_nil)))))
      (pss_one (ps_ret (pv 1)))), ?_⟩
    have few := F.few
    have lk0 := F.len
    have l1 := a3.1
    refine ⟨(by show 0 ≤ sizeLine; decide), fun g ng => ?_⟩
    have s1 := Same.new (o := .lst []) ng
    have e1 : upd H g (.lst []) g = some (.lst []) := upd_same
    have gH : ∀ c u, H c = some u → c ≠ g := fun c u e => ne_of_none e ng
    generalize upd H g (.lst []) = H1 at s1 e1
    refine ⟨_, rfl, a, T.cB, dx, _, _, rfl, s1 _ _ ha, T.clB, T.nB3, lkB3, t3, w3, rfl, Kz.Same.seqT s1 h3, ?_⟩
    refine for_enumT (K := K) (a := t3) (xs := w3) (fun i σ H' => i ≤ ks.length ∧ ∃ v2 v3 v4 vs, σ = [some (.ref a), some (.ref g), v2, v3, v4] ∧ H' g = some (.lst vs) ∧ PrL K H' vs (prsOf ks ps as i) ∧ Same H H')
      ⟨Nat.zero_le _, none, none, none, [], rfl, e1, PrL.nil, s1⟩ (fun i σ H' ⟨_, _, _, _, _, _, _, _, s⟩ => Kz.Same.seqT s h3) ?_ ?_
    · rintro i x tt σ H2 hx ⟨_, v2, v3, v4, vs, rfl, hg, pr, s2⟩ ntt
      have hi : i < ks.length := by
        have := (List.getElem?_eq_some_iff.mp hx).1
        omega
      have s3 := Same.new (o := .tup [.int (i : Nat), x]) ntt
      have et : SqT K (upd H2 tt (.tup [.int (i : Nat), x])) tt [.int (i : Nat), x] := SqT.of upd_same
      have rx := ((a3.2 i x _ hx (at_cf (by omega))).same s2).same s3
      have hg3 := s3 _ _ hg
      have pr3 := pr.same s3
      have s23 := s2.trans s3
      generalize upd H2 tt (.tup [.int (i : Nat), x]) = H3 at s3 et rx hg3 pr3 s23
      refine ⟨tt, _, rfl, et, rfl, _, _, rfl, _, _, rfl, rfl, ?_⟩
      refine ⟨_, rfl, _, rfl, _, ks, ps, as, i, rfl, hB0.same s23, F, hi, fun t H4 l r s4 hl kl => ?_⟩
      have s14 := s23.trans s4
      have hg4 := s4 _ _ hg3
      have gt : ∀ c, SqT K H4 c [l, r] → SqT K H4 c [l, r] := fun c h => h
      refine ⟨t, rfl, ⟨_, hl⟩, for_tup (K := K) (a := t) (xs := [l, r]) (fun j σ H' => j ≤ 2 ∧ ∃ v4 us, σ = [some (.ref a), some (.ref g), some (.int (i : Nat)), some x, v4] ∧ H' g = some (.lst us) ∧ PrL K H' us (prsOf ks ps as i ++ prJ ks ps as i j) ∧ Same H H' ∧ But g H4 H')
        ⟨Nat.zero_le _, v4, vs, rfl, hg4, by rw [show prJ ks ps as i 0 = [] from rfl, List.append_nil]; exact pr3.same s4, s14, But.refl⟩ (fun j σ H' _ ⟨_, _, _, _, _, _, _, b⟩ => bearT (fun o e => by rw [hg4] at e; cases e; exact ⟨_, rfl⟩) b hl) ?_ ?_⟩
      · rintro j y σ H5 hy ⟨_, v4, us, rfl, hg5, pr5, s5, b5⟩
        have lu5 : us.length ≤ 990 := by
          have h0 := pr5.1
          rw [List.length_append] at h0
          have h9 := prsOf_len (ks := ks) (ps := ps) (as := as) (n := i)
          have h8 : (prJ ks ps as i j).length ≤ 2 := by
            unfold prJ
            split
            · exact Nat.zero_le _
            · rw [List.length_map]
              unfold limL
              split <;> simp
            · unfold prK
              rw [List.length_map]
              exact lims_len
          omega
        have lst5 : ∀ o, H4 g = some o → ∃ us, o = .lst us := fun o e => by rw [hg4] at e; cases e; exact ⟨_, rfl⟩
        have key : j + 1 ≤ 2 ∧ ((y = .non ∧ prJ ks ps as i (j + 1) = prJ ks ps as i j) ∨ ∃ q, RV K H5 y q ∧ prJ ks ps as i (j + 1) = prJ ks ps as i j ++ [(cf as i, q)]) := by
          obtain ⟨k1, k2, k3, k4⟩ := kl
          match j, hy with
          | 0, hy =>
            cases hy
            refine ⟨by decide, ?_⟩
            by_cases c : 0 < i
            · refine .inr ⟨_, bear_rv lst5 b5 (k2 c), ?_⟩
              show (limL ks ps i).map _ = [] ++ _
              unfold limL
              rw [if_pos c]
              rfl
            · refine .inl ⟨k1 (by omega), ?_⟩
              show (limL ks ps i).map _ = []
              unfold limL
              rw [if_neg c]
              rfl
          | 1, hy =>
            cases hy
            refine ⟨by decide, ?_⟩
            have lk := F.len
            by_cases c : i < ps.length
            · refine .inr ⟨_, bear_rv lst5 b5 (k4 c), ?_⟩
              show (limL ks ps i ++ limR ks ps i).map _ = (limL ks ps i).map _ ++ _
              unfold limR
              rw [if_pos c, List.map_append]
              rfl
            · refine .inl ⟨k3 (by omega), ?_⟩
              show (limL ks ps i ++ limR ks ps i).map _ = (limL ks ps i).map _
              unfold limR
              rw [if_neg c, List.append_nil]
          | j + 2, hy => exact absurd hy (by simp)
        obtain ⟨j2, ⟨rfl, eq⟩ | ⟨q, rq, eq⟩⟩ := key
        · refine ⟨_, rfl, rfl, _, rfl, ite2 (fun z => by cases z) fun _ => ?_⟩
          refine ⟨j2, _, us, rfl, hg5, ?_, s5, b5⟩
          rw [eq]
          exact pr5
        · refine ⟨_, rfl, rfl, _, rfl, ite2 (fun _ => ?_) fun z => ?_⟩
          · refine ⟨_, rfl, .inl ⟨rfl, _, SqL.of hg5⟩, _, rfl, _, rfl, (by show 2 ≤ sizeLine; decide), fun z nz => ?_⟩
            have s6 := Same.new (o := .tup [x, y]) nz
            have hz : SqT K (upd H5 z (.tup [x, y])) z [x, y] := SqT.of upd_same
            have hg6 := s6 _ _ hg5
            have pr6 := pr5.same s6
            have rx6 := ((bear_rv lst5 b5 (rx.same s4)).same s6)
            have rq6 := rq.same s6
            have s06 := s5.trans s6
            have b46 : But g H4 (upd H5 z (.tup [x, y])) := fun c o e n => s6 _ _ (b5 c o e n)
            generalize upd H5 z (.tup [x, y]) = H6 at s6 hz hg6 pr6 rx6 rq6 s06 b46
            have b6 : But g H6 (upd H6 g (.lst (us ++ [.ref z]))) := But.refl.set
            have l6 : ∀ o, H6 g = some o → ∃ us, o = .lst us := fun o e => by rw [hg6] at e; cases e; exact ⟨_, rfl⟩
            refine ⟨g, us, _, rfl, rfl, hg6, le1000 (by omega), j2, _, _, rfl, upd_same, ?_, fun c o e => b6 _ _ (s06 _ _ e) (gH c o e), fun c o e n => b6 _ _ (b46 c o e n) n⟩
            rw [eq, ← List.append_assoc]
            exact (pr6.bear l6 b6).snoc ⟨z, x, y, rfl, bearT l6 b6 hz, bear_rv l6 b6 rx6, bear_rv l6 b6 rq6⟩
          · obtain ⟨t', rfl, _⟩ := rq
            exact absurd rfl z
      · rintro σ H5 ⟨_, v4, us, rfl, hg5, pr5, s5, b5⟩
        refine ⟨hi, _, _, _, us, rfl, hg5, ?_, s5⟩
        rw [prsOf_snoc]
        exact pr5
    · rintro σ H2 ⟨_, v2, v3, v4, vs, rfl, hg, pr, s2⟩
      rw [l1, las] at pr
      exact ⟨_, rfl, k g vs H2 s2 hg pr⟩
end
end Kz
set_option linter.all false
set_option maxRecDepth 100000
set_option maxHeartbeats 4000000
namespace Kz
open PySem PySem.Spec PyProof.Rows L2
/-! ### a tuple whose object is known: its methods may be called -/
def TpN (H : Hp) (t : Addr) (xs : List V) : Prop := ∃ o : Obj, H t = some (.frz o (.tup xs)) ∧ o.dict = none
theorem TpN.seqT {K : PySem.W.Frag} {H : Hp} {t : Addr} {xs : List V} (h : TpN H t xs) : SqT K H t xs := by
  obtain ⟨o, e, _⟩ := h
  exact .inl (.inr ⟨o, e⟩)
theorem TpN.same {H H' : Hp} {t : Addr} {xs : List V} (s : Same H H') (h : TpN H t xs) : TpN H' t xs := by
  obtain ⟨o, e, d⟩ := h
  exact ⟨o, s _ _ e, d⟩
section
variable {X : Cx}
/-- tuple(l), the new tuple's object being known -/
theorem call_tuple_ofN : CallR X (.type "tuple") (fun xs H Q => ∃ p ys, xs = [.ref p] ∧ SqL X.K H p ys ∧ ∀ l H', H l = none → Same H H' → TpN H' l ys → Q (.ref l) H') := by
  intro pins s σ H xs us Q I r h
  obtain ⟨p, ys, rfl, hq, q⟩ := h
  obtain ⟨u, rfl, t, rest⟩ := vals1 r
  obtain ⟨its, r', pl, hz⟩ := I.list hq
  have hlen := r'.length
  refine call_tuple_list pl.isList (fun h' kp => ?_) (by simp only [List.size_toArray] <;> omega)
  have I1 : Inv X pins σ H { s with heap := h' } := I.kept (t' := s.toks) kp
  have new : (h'.push { cls := .type "tuple", data := .seq its.toArray }).get? h'.objs.size = some { cls := .type "tuple", data := .seq its.toArray } := Heap.get?_push_size h' (o := { cls := .type "tuple", data := .seq its.toArray }) rfl
  have I2 : Inv X pins σ (upd H h'.objs.size (.frz { cls := .type "tuple", data := .seq its.toArray } (.tup ys))) { s with heap := h'.push { cls := .type "tuple", data := .seq its.toArray } } :=
    I1.laid (t' := s.toks) (fun b o e => Heap.get?_push_of_some _ e) (Nat.le_refl _) (show ObjOk X.prog X.w _ _ _ (.frz _ (.tup ys)) from ⟨new, hz, its, r', IsTup.new _ _⟩)
  have fr : H h'.objs.size = none := I1.hok.fresh (Nat.le_refl _)
  exact ⟨.ref h'.objs.size, _, I2, rfl, q _ _ fr (Same.new fr) ⟨_, upd_same, rfl⟩⟩
/-- t.m(x), t a tuple whose object is known -/
def tBMT (r : V → List V → Hp → VK → Prop) (to : TE) (t : TA) : TE := fun σ H Q => to σ H fun x H1 => (∃ p xs, x = .ref p ∧ TpN H1 p xs) ∧ t σ H1 fun xs H2 => r x xs H2 Q
variable {o e : Expr} {es : List Expr} {to : TE} {t : TA} {name : Str} {apos cpos : Pos} {id : String} {r : V → List V → Hp → VK → Prop}
theorem pe_bmT (pa : PlainAttrs "tuple") (slot : Slot "tuple" name id) (hty : typeOf (.builtin id) = pure (.type "method_descriptor")) (hm : MtR X id r) (ho : PE X o to) (ha : PA X (e :: es) t)
    (hbase : attributeBase o name X.env (eval o X.env) = eval o X.env := by rfl)
    (hfew : ((backTo cpos (starEach (e :: es) X.env)).all (fun x => !x.1) && (backToKw cpos (keywordEach [] X.env)).all (fun x => x.1.isSome)
      && decide ((e :: es).length + ([] : List Keyword).length + (if ([] : List Keyword).isEmpty then 0 else 1) < 30)) = true := by rfl)
    (hline : (apos.endLine == cpos.line) = true := by rfl) (hs : starEach (e :: es) X.env = (false, eval e X.env) :: starEach es X.env := by rfl) (hplain : (backTo cpos (starEach es X.env)).any (·.1) = false := by rfl) :
    PE X (.Call (.Attribute o name apos) (e :: es) [] cpos) (tBMT r to t) := by
  refine ⟨fun pins s σ H Q I h => ?_⟩
  refine wpAny_Call_method_late hbase hfew hline rfl (thn (ho.run pins s σ H _ I h) fun v s1 ⟨x, H1, I1, r1, ty, q1⟩ => ?_)
  obtain ⟨p, xs, rfl, ob, ep, dn⟩ := ty
  cases r1
  obtain ⟨eo, _, its, _, ⟨o', ho', hc, hn⟩⟩ := I1.hok p _ ep
  have ee : o' = ob := by
    rw [eo] at ho'
    exact (Option.some.inj ho').symm
  subst ee
  refine ⟨"tuple", id, pa, slot, hty, ⟨o', ho', hc⟩, fun a e => by cases e; exact ⟨o', ho', dn⟩, ?_⟩
  have hA := ha.run cpos pins s1 σ H1 _ I1 q1
  rw [hs] at hA ⊢
  refine Calls.callWith_builtin (by show (false || (backTo cpos (starEach es X.env)).any (·.1)) = false; rw [hplain] <;> rfl) (Calls.evalArgs_plain ?_)
  exact thn hA fun us s2 ⟨vs, H2, I2, r2, q2⟩ => hm pins s2 σ H2 (.ref p) vs (.ref p) us Q I2 rfl r2 q2
end
/-- the knots of a function, as a tuple whose object is known -/
def KnF (H : Hp) (v : V) : Prop := ∃ a C dx t1 y z w, v = .ref a ∧ H a = some (.ins C dx (bF (.ref t1) y z)) ∧ TpN H t1 w
theorem KnF.same {H H' : Hp} {v : V} (s : Same H H') (h : KnF H v) : KnF H' v := by
  obtain ⟨a, C, dx, t1, y, z, w, e, ha, ht⟩ := h
  exact ⟨a, C, dx, t1, y, z, w, e, s _ _ ha, ht.same s⟩
theorem KnF.at {H : Hp} {a C dx t1 : Addr} {y z : V} (h : KnF H (.ref a)) (ha : H a = some (.ins C dx (bF (.ref t1) y z))) : ∃ w, TpN H t1 w := by
  obtain ⟨a', C', dx', t1', y', z', w, e, ha', ht⟩ := h
  cases e
  rw [ha] at ha'
  cases ha'
  exact ⟨w, ht⟩
section
variable {P : Program} {w : World} {K : PySem.W.Frag} {mg : Str → Option Value} {base : Heap}
/-- a row, told, as a tuple whose object is known -/
def spTrowN (K : PySem.W.Frag) : Sp := fun vs H Q _ => ∃ a us n m qs, vs = [.ref a] ∧ (SqL K H a us ∨ SqT K H a us) ∧ AlA K H us n m qs ∧ m ≤ 9000 ∧ us.length ≤ 1000 ∧ ∀ t H' ws, Same H H' → TpN H' t ws → Al K H' ws qs → Q (.ref t) H'
theorem ok_trowN (T : Tb P K mg) : FnOk P w K mg base CX0 5 T.told_row.f T.told_row.fd ["row"] (spTrowN K) := by
  have G : FnOk P w K mg base (CX P w) 4 T.told.f T.told.fd ["value", "what"] (spTold K T.cN) := ok_told T.toTx
  refine T.told_row.fn.ok sc20k (fun vs H Q E h => ?_) (fun cdv A outer s H vs Q E hr h => ?_)
  · obtain ⟨a, us, n, m, qs, rfl, _⟩ := h
    rfl
  · obtain ⟨a, us, n, m, qs, rfl, hs, al, m4, len, k⟩ := h
    refine ⟨_, pss_one (ps_ret (pe_callTy call_tuple_ofN (by rfl) T.mTuple boot_ttuple (pa_cons (pe_lc (own := [("number", 1)]) (g := gName 1) (tt := tYes) rfl sc20k.nd (pi_or (pi_list (pv 0)) (pi_tup (pv 0))) (blkOk_by (own := [("number", 1)]) (N := nTr) (sc := defScope (top 20)) (by decide +kernel))
        (fun _ _ _ _ _ => pg_name (i := 1) sc20k.nd rfl (Or.inl rfl)) (fun _ _ _ _ _ => pts_nil) (fun _ _ _ _ _ => T.told.cX G hr (pa_cons (pv 1) (pa_cons pe_str pa_nil)))) pa_nil))), ?_⟩
    have lu := al.1
    have step : ∀ (i : Nat) (x : V), us[i]? = some x → ∀ (acc : List V) (H' : Hp) (Qk : VK), Al K H' acc (qs.take i) → Same H H' → (∀ v' H4, Same H' H4 → Al K H4 (acc ++ [v']) (qs.take (i + 1)) → Qk v' H4) →
        spTold K T.cN [x, .str "number"] H' Qk (fun _ _ _ => False) := by
      intro i x hx acc H' Qk r s1 kk
      have lt : i < qs.length := by
        have := (List.getElem?_eq_some_iff.mp hx).1
        omega
      refine ⟨_, _, rfl, .inl ⟨_, n, m, (al.2 i x _ hx (at_cf lt)).same s1, m4, fun v' H4 s4 rv => kk _ _ s4 ?_⟩⟩
      rw [take_snoc (at_cf lt)]
      exact (Al.same s4 r).snoc rv
    have fin : ∀ (D : Addr) acc H2, H2 D = some (.lst acc) → Al K H2 acc (qs.take us.length) → Same H H2 → ∃ p ys, [V.ref D] = [V.ref p] ∧ SqL K H2 p ys ∧ ∀ l H', H2 l = none → Same H2 H' → TpN H' l ys → Q (.ref l) H' := by
      intro D acc H2 hacc r s2
      rw [lu, List.take_length] at r
      exact ⟨D, acc, rfl, SqL.of hacc, fun t H' nt s3 tn => k t H' acc (s2.trans s3) tn (r.same s3)⟩
    rcases hs with hs | hs
    · refine .inl ⟨_, rfl, a, rfl, ⟨_, hs⟩, fun D hD => ?_⟩
      refine lc_mapL hs len hD (fun i acc H' => Al K H' acc (qs.take i)) bears_al Al.nil ?_ ?_
      · rintro i x hx acc H' Qk Z la r s1 kk
        refine ⟨rfl, ?_⟩
        dsimp only [tYes]
        exact iteT ⟨_, rfl, step i x hx acc H' Qk r s1 kk⟩
      · rintro acc H2 hacc lacc r s2
        exact fin D acc H2 hacc r s2
    · refine .inr ⟨_, rfl, a, rfl, ⟨_, hs⟩, fun D hD => ?_⟩
      refine lc_mapT hs len hD (fun i acc H' => Al K H' acc (qs.take i)) bears_al Al.nil ?_ ?_
      · rintro i x hx acc H' Qk Z la r s1 kk
        refine ⟨rfl, ?_⟩
        dsimp only [tYes]
        exact iteT ⟨_, rfl, step i x hx acc H' Qk r s1 kk⟩
      · rintro acc H2 hacc lacc r s2
        exact fin D acc H2 hacc r s2
end
end Kz
set_option linter.all false
set_option maxRecDepth 100000
set_option maxHeartbeats 4000000
namespace Kz
open PySem PySem.Spec PyProof.Rows L2
theorem atKn_true {ks : List Rat} {q : Rat} (h : atKn ks q = true) : ∃ j, j < ks.length ∧ cf ks j = q := by
  have m : q ∈ ks := of_decide_eq_true h
  obtain ⟨j, hj, e⟩ := List.getElem_of_mem m
  exact ⟨j, hj, by rw [cf_at (List.getElem?_eq_getElem hj)]; exact e⟩
theorem atKn_false {ks : List Rat} {q : Rat} (h : atKn ks q = false) {j : Nat} (hj : j < ks.length) : cf ks j ≠ q := fun e => of_decide_eq_false h (e ▸ cf_mem hj)
theorem from_within {ks : List Rat} {ps : List (List Rat)} {q : Rat} {i : Nat} (F : Fsz ks ps) (lo : cf ks 0 ≤ q) (no : atKn ks q = false) (hi : i < ps.length) (a : q < cf ks (i + 1)) (b : ∀ j, j < i → cf ks (j + 1) ≤ q) : Within ks q i := by
  have lk := F.len
  refine ⟨?_, a⟩
  have ne := atKn_false no (j := i) (by omega)
  have le : cf ks i ≤ q := by
    cases i with
    | zero => exact lo
    | succ i => exact b i (Nat.lt_succ_self i)
  exact Rat.lt_of_le_of_ne le ne
section
variable {P : Program} {w : World} {K : PySem.W.Frag} {mg : Str → Option Value} {base : Heap}
theorem Room.u65 {n : Nat} {A : Around} (h : Room n A) : A.units + 65 < cLine := by
  have := h.un
  omega
/-- where a place may be asked for -/
def PlQ (K : PySem.W.Frag) (H : Hp) (v : V) (ks : List Rat) (q : Rat) : Prop := ∃ n m, ArgQ K H v n m q ∧ Sz n m q ∧ 0 < n ∧ n ≤ 1000 ∧ m ≤ 400 ∧ cf ks 0 ≤ q ∧ q ≤ cf ks (ks.length - 1)
def spBval (K : PySem.W.Frag) (cB cP cN : Addr) : Sp := fun vs H Q E => ∃ f v ks ps as, vs = [f, v] ∧ BrkAt K cB cP H f ks ps as ∧ KnF H f ∧ Fsz ks ps ∧ as.length = ks.length ∧
  ((∃ q, PlQ K H v ks q ∧ ∀ u H' r, Same H H' → RV K H' u r → Vat ks ps as q r → Q u H') ∨ (NoPl K H v ks ∧ ErN cN H E "x" v))
abbrev nBv : List Str := ["self", "x", "place"]
theorem scB2 : FnScope nBv ["self", "x"] (defScope (sB 2)) := ⟨rfl, rfl, rfl, by decide +kernel, rfl, by decide +kernel, by decide +kernel⟩
theorem ok_bval (T : Tb P K mg) : FnOk P w K mg base (CX P w) 7 T.b_value.f T.b_value.fd ["self", "x"] (spBval K T.cB T.cP T.cN) := by
  have G1 : FnOk P w K mg base (CX P w) 6 T.place_in.f T.place_in.fd ["f", "x"] (spPlace K T.cB T.cP T.cN) := ok_place T
  have G2 : FnOk P w K mg base CX0 6 T.piece_from.f T.piece_from.fd ["f", "place"] (spFrom K T.cB T.cP) := ok_from T
  have Gat : FnOk P w K mg base (CX P w) 5 T.p_at.f T.p_at.fd ["self", "place"] (spAt K T.cP T.cN) := ok_at T.toTz
  refine T.b_value.fn.okX scB2 (fun vs H Q E h => ?_) (fun cdv A outer s H vs Q E hr h => ?_)
  · obtain ⟨f, v, ks, ps, as, rfl, _⟩ := h
    rfl
  · obtain ⟨f, v, ks, ps, as, rfl, hB, kn, F, las, h⟩ := h
    have hB0 := hB
    obtain ⟨a, dx, t1, t2, t3, w1, us, w3, rfl, ha, h1, a1, h2, ⟨lu, p2⟩, h3, a3⟩ := hB
    have hu := Room.u65 hr
    have hr5 : Room 5 _ := hr.mono (by decide)
    have tk := takes_of (X := cxOf (CX P w) P w K mg base nBv "Broken.value" (defScope (sB 2)) T.b_value.f cdv A outer s H E) (E := E) rfl rfl rfl rfl
    refine ⟨_, pss_cons (ps_set (i := 2) scB2.nd rfl (.inl rfl) (T.place_in.cS G1 hr tk (pa_cons (pv 0) (pa_cons (pv 1) pa_nil))))
      (pss_cons (ps_if (pt_cmpR (op_inDT hu) (pv 2) (pe_fld (pv 0) (by rfl)) (by rfl))
        (pss_one (ps_ret (pe_ix ix_tup (pe_fld (pv 0) (by rfl)) (pe_bmT PySem.F.plainAttrs_tuple PySem.F.slot_tuple_index PySem.F.type_tuple_index (mt_indexDT hu) (pe_fld (pv 0) (by rfl)) (pa_cons (pv 2) pa_nil)) (fun _ _ => rfl)))) pss_nil)
      (pss_one (ps_ret (pe_meth (pe_ix ix_tup (pe_fld (pv 0) (by rfl)) (T.piece_from.c0 G2 hr (pa_cons (pv 0) (pa_cons (pv 2) pa_nil))) (fun _ _ => rfl)) T.clP T.p_at.me Gat hr5 T.p_at.b .nil passL (pa_cons (pv 2) pa_nil))))), ?_⟩
    have lk := F.len
    have l1 := a1.1
    have l3 := a3.1
    obtain ⟨wk, htk⟩ := kn.at ha
    rcases h with ⟨q, ⟨n, m, aq, zq, n0, n1, m1, lo, hi⟩, k⟩ | ⟨no, er⟩
    · refine ⟨_, rfl, _, rfl, .ref a, v, ks, ps, as, rfl, hB0, F, .inl ⟨q, n, m, aq, by omega, by omega, lo, hi, fun u H1 s1 ru => ?_⟩⟩
      refine ⟨_, rfl, _, rfl, a, T.cB, dx, _, _, rfl, s1 _ _ ha, T.clB, T.nB1, lkB1, in_kn (Kz.Same.seqT s1 h1) (a1.same s1) ru ?_⟩
      cases e : atKn ks q with
      | true =>
        obtain ⟨j, hj, ej⟩ := atKn_true e
        obtain ⟨uc, euc⟩ : ∃ uc, w3[j]? = some uc := ⟨_, List.getElem?_eq_getElem (by omega)⟩
        refine ⟨_, rfl, iteT ⟨_, rfl, a, T.cB, dx, _, _, rfl, s1 _ _ ha, T.clB, T.nB3, lkB3, _, rfl, a, T.cB, dx, _, _, rfl, s1 _ _ ha, T.clB, T.nB1, lkB1, ⟨t1, wk, rfl, htk.same s1⟩, _, rfl, ?_⟩⟩
        dsimp only [tNil]
        refine index_kn (Kz.Same.seqT s1 h1) (a1.same s1) ru F.asc hj ej ?_
        refine ⟨t3, w3, _, _, rfl, rfl, Kz.Same.seqT s1 h3, atI_nat euc, ?_⟩
        exact k uc H1 _ s1 ((a3.2 j uc _ euc (at_cf (by omega))).same s1) (.inr ⟨j, hj, ej, rfl⟩)
      | false =>
        have hi' : q < cf ks ps.length := by
          rw [show ps.length = ks.length - 1 by omega]
          exact Rat.lt_of_le_of_ne hi fun z => atKn_false e (j := ks.length - 1) (by omega) z.symm
        refine ⟨_, rfl, iteF ⟨_, rfl, a, T.cB, dx, _, _, rfl, s1 _ _ ha, T.clB, T.nB2, lkB2, _, rfl, _, rfl, .ref a, u, ks, ps, as, q, n, m, rfl, hB0.same s1, F, ru, zq, by omega, by omega, hi', fun i H2 s2 hi2 ub lb => ?_⟩⟩
        have s12 := s1.trans s2
        obtain ⟨up, eup⟩ : ∃ up, us[i]? = some up := ⟨_, List.getElem?_eq_getElem (by omega)⟩
        have pp := (p2 i up _ eup (pv_at hi2)).same s12
        obtain ⟨zp, tp, lp⟩ := F.pz (k := i) hi2
        obtain ⟨ap, dp, tp', wp, rfl, hap, rp⟩ := id pp
        refine ⟨t2, us, _, _, rfl, rfl, Kz.Same.seqT s12 h2, atI_nat eup, ap, dp, _, rfl, hap, lkPat, _, rfl, ?_⟩
        exact at_reads pp zp lp (ru.same s2) zq n0 n1 m1 fun y H3 s3 ry => k y H3 _ (s12.trans s3) ry (.inl ⟨i, hi2, from_within F lo e hi2 ub lb, rfl⟩)
    · exact ⟨_, rfl, _, rfl, .ref a, v, ks, ps, as, rfl, hB0, F, .inr ⟨no, er⟩⟩
end
end Kz
set_option linter.all false
set_option maxRecDepth 100000
set_option maxHeartbeats 4000000
namespace Kz
open PySem PySem.Spec PyProof.Rows L2
theorem boot_any : bootBuiltins "any" = some (.builtin "any") := by decide +kernel
theorem prs_at {ks : List Rat} {ps : List (List Rat)} {as : List Rat} {n i : Nat} {p : Rat × Rat} (h : (prsOf ks ps as n)[i]? = some p) : ∃ k, k < n ∧ p.1 = cf as k ∧ p.2 ∈ lims ks ps k := by
  have m := List.mem_of_getElem? h
  obtain ⟨k, hk, hp⟩ := List.mem_flatMap.mp m
  obtain ⟨q, hq, rfl⟩ := List.mem_map.mp hp
  exact ⟨k, List.mem_range.mp hk, rfl, hq⟩
section
variable {P : Program} {w : World} {K : PySem.W.Frag} {mg : Str → Option Value} {base : Heap}
/-- a function as its kinds ask of it -/
def BrkZ (K : PySem.W.Frag) (cB cP : Addr) (H : Hp) (f : V) (ks : List Rat) (ps : List (List Rat)) (as : List Rat) : Prop := BrkAt K cB cP H f ks ps as ∧ Fsz ks ps ∧ as.length = ks.length ∧ ∀ q ∈ as, Mz 190 1600 q
theorem BrkZ.same {cB cP : Addr} {H H' : Hp} {f : V} {ks as : List Rat} {ps : List (List Rat)} (s : Same H H') (h : BrkZ K cB cP H f ks ps as) : BrkZ K cB cP H' f ks ps as := ⟨h.1.same s, h.2⟩
def spBkind (K : PySem.W.Frag) (cB cP : Addr) (r : List Rat → List (List Rat) → List Rat → Bool) : Sp := fun vs H Q _ => ∃ f ks ps as, vs = [f] ∧ BrkZ K cB cP H f ks ps as ∧ ∀ H', Same H H' → Q (.bl (r ks ps as)) H'
abbrev nBu : List Str := ["self", "number", "limit"]
theorem scB5 : FnScope nBu ["self"] (defScope (sB 5)) := ⟨rfl, rfl, rfl, by decide +kernel, rfl, by decide +kernel, by decide +kernel⟩
theorem ok_bupper (T : Tb P K mg) : FnOk P w K mg base CX0 8 T.b_upper.f T.b_upper.fd ["self"] (spBkind K T.cB T.cP fun ks ps as => !abv ks ps as ks.length) := by
  have G1 : FnOk P w K mg base CX0 7 T.nlims.f T.nlims.fd ["f"] (spNlims K T.cB T.cP) := ok_nlims T
  have G2 : FnOk P w K mg base (CX P w) 5 T.lower.f T.lower.fd ["one", "other"] (spTwo K T.cN cBin (fun _ v q r => v = .bl (decide (q < r)))) := ok_lower T.toTx
  refine T.b_upper.fn.ok scB5 (fun vs H Q E h => ?_) (fun cdv A outer s H vs Q E hr h => ?_)
  · obtain ⟨f, ks, ps, as, rfl, _⟩ := h
    rfl
  · obtain ⟨f, ks, ps, as, rfl, ⟨hB, F, las, za⟩, k⟩ := h
    have hr5 : Room 5 _ := hr.mono (by decide)
    refine ⟨_, pss_one (ps_ret (pe_not (pe_callB (cr_any rfl) (by rfl) T.mAny boot_any (pa_cons (pe_lc (own := [("number", 1), ("limit", 2)]) (g := gTup K 2 (gCons (gName 1) (gCons (gName 2) gNil))) (tt := tYes) rfl scB5.nd (pi_list (T.nlims.c0 G1 hr (pa_cons (pv 0) pa_nil)))
        (blkOk_by (own := [("number", 1), ("limit", 2)]) (N := nBu) (sc := defScope (sB 5)) (by decide +kernel))
        (fun _ _ _ _ _ => pg_tup (by rfl) (pgs_cons (pg_name (i := 1) scB5.nd rfl (Or.inl rfl)) (pgs_cons (pg_name (i := 2) scB5.nd rfl (Or.inl rfl)) pgs_nil))) (fun _ _ _ _ _ => pts_nil) (fun _ _ _ _ _ => T.lower.cX G2 hr5 (pa_cons (pv 1) (pa_cons (pv 2) pa_nil)))) pa_nil)))), ?_⟩
    refine ⟨_, rfl, f, ks, ps, as, rfl, hB, F, las, fun l us H1 s1 hl pr => ⟨l, rfl, ⟨_, SqL.of hl⟩, fun D hD => ?_⟩⟩
    have lk := F.len
    have few := F.few
    have len := prsOf_len (ks := ks) (ps := ps) (as := as) (n := ks.length)
    have lp := pr.1
    refine lc_mapL (SqL.of hl) (by omega) hD (fun i acc _ => acc = ((prsOf ks ps as ks.length).take i).map fun p => V.bl (decide (p.1 < p.2))) (fun _ _ _ _ _ _ h => h) rfl ?_ ?_
    · rintro i x hx acc H' Qk Z la r s2 kk
      have lt : i < (prsOf ks ps as ks.length).length := by
        have := (List.getElem?_eq_some_iff.mp hx).1
        omega
      have ep := List.getElem?_eq_getElem lt
      obtain ⟨k', hk', e1, e2⟩ := prs_at ep
      obtain ⟨t, v1, v2, rfl, ht, r1, r2⟩ := (pr.2 i x _ hx ep).same s2
      have z1 : Sz 1790 1600 ((prsOf ks ps as ks.length)[i]).1 := by
        rw [e1]
        exact (za _ (cf_mem (by omega))).sz
      have z2 : Sz 1400 1210 ((prsOf ks ps as ks.length)[i]).2 := ((F.lim hk' e2).up (by decide) (by decide) : Mz 190 1210 _).sz
      refine ⟨t, _, rfl, ht, rfl, _, _, rfl, _, _, rfl, rfl, rfl, ?_⟩
      dsimp only [tYes]
      refine iteT ⟨_, rfl, _, rfl, v1, v2, rfl, .inl ⟨_, _, 1790, 1600, 1400, 1210, r1.arg z1, r2.arg z2, by decide, by decide, ⟨by decide, by decide⟩, fun v H4 s4 ev => ?_⟩⟩
      subst ev
      refine kk _ _ s4 ?_
      show acc ++ [_] = ((prsOf ks ps as ks.length).take (i + 1)).map _
      rw [take_snoc ep, List.map_append, r]
      rfl
    · rintro acc H2 hacc lacc r s2
      have r' : acc = ((prsOf ks ps as ks.length).take us.length).map fun p => V.bl (decide (p.1 < p.2)) := r
      rw [lp, List.take_length] at r'
      refine ⟨D, (prsOf ks ps as ks.length).map fun p => decide (p.1 < p.2), rfl, ?_, _, rfl, ?_⟩
      · rw [List.map_map]
        exact r' ▸ SqL.of hacc
      · rw [show ((prsOf ks ps as ks.length).map fun p => decide (p.1 < p.2)).any id = abv ks ps as ks.length by rw [List.any_map]; exact prs_above]
        exact k H2 (s1.trans s2)
end
end Kz
set_option linter.all false
set_option maxRecDepth 100000
set_option maxHeartbeats 4000000
namespace Kz
open PySem PySem.Spec PyProof.Rows L2
theorem lkBup {x y z : V} : (bF x y z).lookup ("is_upper" : Str) = none := by
  have h1 : (("is_upper" : Str) == "knots") = false := by decide +kernel
  have h2 : (("is_upper" : Str) == "polys") = false := by decide +kernel
  have h3 : (("is_upper" : Str) == "at") = false := by decide +kernel
  simp [List.lookup, h1, h2, h3]
theorem lkBlo {x y z : V} : (bF x y z).lookup ("is_lower" : Str) = none := by
  have h1 : (("is_lower" : Str) == "knots") = false := by decide +kernel
  have h2 : (("is_lower" : Str) == "polys") = false := by decide +kernel
  have h3 : (("is_lower" : Str) == "at") = false := by decide +kernel
  simp [List.lookup, h1, h2, h3]
section
variable {P : Program} {w : World} {K : PySem.W.Frag} {mg : Str → Option Value} {base : Heap}
abbrev nBo : List Str := ["self", "number", "limit"]
theorem scB6 : FnScope nBo ["self"] (defScope (sB 6)) := ⟨rfl, rfl, rfl, by decide +kernel, rfl, by decide +kernel, by decide +kernel⟩
theorem ok_blower (T : Tb P K mg) : FnOk P w K mg base CX0 8 T.b_lower.f T.b_lower.fd ["self"] (spBkind K T.cB T.cP fun ks ps as => !blw ks ps as ks.length) := by
  have G1 : FnOk P w K mg base CX0 7 T.nlims.f T.nlims.fd ["f"] (spNlims K T.cB T.cP) := ok_nlims T
  have G2 : FnOk P w K mg base (CX P w) 5 T.lower.f T.lower.fd ["one", "other"] (spTwo K T.cN cBin (fun _ v q r => v = .bl (decide (q < r)))) := ok_lower T.toTx
  refine T.b_lower.fn.ok scB6 (fun vs H Q E h => ?_) (fun cdv A outer s H vs Q E hr h => ?_)
  · obtain ⟨f, ks, ps, as, rfl, _⟩ := h
    rfl
  · obtain ⟨f, ks, ps, as, rfl, ⟨hB, F, las, za⟩, k⟩ := h
    have hr5 : Room 5 _ := hr.mono (by decide)
    refine ⟨_, pss_one (ps_ret (pe_not (pe_callB (cr_any rfl) (by rfl) T.mAny boot_any (pa_cons (pe_lc (own := [("number", 1), ("limit", 2)]) (g := gTup K 2 (gCons (gName 1) (gCons (gName 2) gNil))) (tt := tYes) rfl scB6.nd (pi_list (T.nlims.c0 G1 hr (pa_cons (pv 0) pa_nil)))
        (blkOk_by (own := [("number", 1), ("limit", 2)]) (N := nBo) (sc := defScope (sB 6)) (by decide +kernel))
        (fun _ _ _ _ _ => pg_tup (by rfl) (pgs_cons (pg_name (i := 1) scB6.nd rfl (Or.inl rfl)) (pgs_cons (pg_name (i := 2) scB6.nd rfl (Or.inl rfl)) pgs_nil))) (fun _ _ _ _ _ => pts_nil) (fun _ _ _ _ _ => T.lower.cX G2 hr5 (pa_cons (pv 2) (pa_cons (pv 1) pa_nil)))) pa_nil)))), ?_⟩
    refine ⟨_, rfl, f, ks, ps, as, rfl, hB, F, las, fun l us H1 s1 hl pr => ⟨l, rfl, ⟨_, SqL.of hl⟩, fun D hD => ?_⟩⟩
    have lk := F.len
    have few := F.few
    have len := prsOf_len (ks := ks) (ps := ps) (as := as) (n := ks.length)
    have lp := pr.1
    refine lc_mapL (SqL.of hl) (by omega) hD (fun i acc _ => acc = ((prsOf ks ps as ks.length).take i).map fun p => V.bl (decide (p.2 < p.1))) (fun _ _ _ _ _ _ h => h) rfl ?_ ?_
    · rintro i x hx acc H' Qk Z la r s2 kk
      have lt : i < (prsOf ks ps as ks.length).length := by
        have := (List.getElem?_eq_some_iff.mp hx).1
        omega
      have ep := List.getElem?_eq_getElem lt
      obtain ⟨k', hk', e1, e2⟩ := prs_at ep
      obtain ⟨t, v1, v2, rfl, ht, r1, r2⟩ := (pr.2 i x _ hx ep).same s2
      have z1 : Sz 1790 1600 ((prsOf ks ps as ks.length)[i]).1 := by
        rw [e1]
        exact (za _ (cf_mem (by omega))).sz
      have z2 : Sz 1400 1210 ((prsOf ks ps as ks.length)[i]).2 := ((F.lim hk' e2).up (by decide) (by decide) : Mz 190 1210 _).sz
      refine ⟨t, _, rfl, ht, rfl, _, _, rfl, _, _, rfl, rfl, rfl, ?_⟩
      dsimp only [tYes]
      refine iteT ⟨_, rfl, _, rfl, v2, v1, rfl, .inl ⟨_, _, 1400, 1210, 1790, 1600, r2.arg z2, r1.arg z1, by decide, by decide, ⟨by decide, by decide⟩, fun v H4 s4 ev => ?_⟩⟩
      subst ev
      refine kk _ _ s4 ?_
      show acc ++ [_] = ((prsOf ks ps as ks.length).take (i + 1)).map _
      rw [take_snoc ep, List.map_append, r]
      rfl
    · rintro acc H2 hacc lacc r s2
      have r' : acc = ((prsOf ks ps as ks.length).take us.length).map fun p => V.bl (decide (p.2 < p.1)) := r
      rw [lp, List.take_length] at r'
      refine ⟨D, (prsOf ks ps as ks.length).map fun p => decide (p.2 < p.1), rfl, ?_, _, rfl, ?_⟩
      · rw [List.map_map]
        exact r' ▸ SqL.of hacc
      · rw [show ((prsOf ks ps as ks.length).map fun p => decide (p.2 < p.1)).any id = blw ks ps as ks.length by rw [List.any_map]; exact prs_below]
        exact k H2 (s1.trans s2)
end
end Kz
set_option linter.all false
set_option maxRecDepth 100000
set_option maxHeartbeats 4000000
namespace Kz
open PySem PySem.Spec PyProof.Rows L2
theorem TpN.off {H H' : Hp} {x a C dx : Addr} {fs : List (Str × V)} {xs : List V} (hx : H x = some (.ins C dx fs)) (b : But x H H') (h : TpN H a xs) : TpN H' a xs := by
  obtain ⟨o, e, d⟩ := h
  exact ⟨o, b _ _ e (ne_of e hx (fun z => nomatch z)), d⟩
theorem But.trans' {x : Addr} {H H1 H2 : Hp} (a : But x H H1) (b : But x H1 H2) : But x H H2 := fun c o e n => b c o (a c o e n) n
theorem sameOff {x : Addr} {H0 H H' : Hp} (s : Same H0 H) (n : H0 x = none) (b : But x H H') : Same H0 H' := fun c o e => b c o (s _ _ e) (ne_of_none e n)
/-- a list of ratios, passed -/
def KnOk (K : PySem.W.Frag) (H : Hp) (v : V) (qs : List Rat) : Prop := ∃ a us n m, v = .ref a ∧ SqL K H a us ∧ AlA K H us n m qs ∧ n ≤ 100000 ∧ m ≤ 4000 ∧ us.length ≤ 1000
theorem KnOk.same {K : PySem.W.Frag} {H H' : Hp} {v : V} {qs : List Rat} (s : Same H H') (h : KnOk K H v qs) : KnOk K H' v qs := by
  obtain ⟨a, us, n, m, e, hs, al, r⟩ := h
  exact ⟨a, us, n, m, e, Same.seq s hs, al.same s, r⟩
theorem KnOk.row {K : PySem.W.Frag} {H : Hp} {v : V} {qs : List Rat} {Q : VK} {E : XK} (h : KnOk K H v qs) (k : ∀ H', Same H H' → Q (.bl true) H') : spRow K [v] H Q E := by
  obtain ⟨a, us, n, m, rfl, hs, al, n4, m4, len⟩ := h
  have rbs : RBs K H us (List.replicate us.length true) := ⟨List.length_replicate, fun i u b e1 e2 => by
    have lt : i < us.length := (List.getElem?_eq_some_iff.mp e1).1
    rw [List.getElem?_replicate, if_pos lt] at e2
    cases e2
    exact (al.2 i u _ e1 (at_cf (by rw [← al.1]; exact lt))).rb⟩
  have all1 : (List.replicate us.length true).all id = true := by simp
  exact ⟨.ref a, rfl, .inr ⟨a, us, _, rfl, .inl hs, len, rbs, fun H' s => by rw [all1]; exact k H' s⟩⟩
theorem NotRow.row {K : PySem.W.Frag} {H : Hp} {v : V} {Q : VK} {E : XK} (h : NotRow K H v) (k : ∀ H', Same H H' → Q (.bl false) H') : spRow K [v] H Q E := by
  rcases h with ⟨t, ty, n1, n2⟩ | ⟨a, us, bs, rfl, hs, len, rb, f⟩
  · exact ⟨v, rfl, .inl ⟨t, ty, n1, n2, k⟩⟩
  · exact ⟨_, rfl, .inr ⟨a, us, bs, rfl, hs, len, rb, fun H' s => by rw [f]; exact k H' s⟩⟩
theorem KnOk.len {K : PySem.W.Frag} {H : Hp} {v : V} {qs : List Rat} (h : KnOk K H v qs) : ∃ a us, v = .ref a ∧ SqL K H a us ∧ us.length = qs.length ∧ us.length ≤ 1000 := by
  obtain ⟨a, us, n, m, rfl, hs, al, n4, m4, len⟩ := h
  exact ⟨a, us, rfl, hs, al.1, len⟩
theorem KnOk.ascQ {K : PySem.W.Frag} {H : Hp} {v : V} {qs : List Rat} {Q : VK} {E : XK} (h : KnOk K H v qs) (k : ∀ H', Same H H' → Q (.bl (ascB qs)) H') : spAsc K [v] H Q E := by
  obtain ⟨a, us, n, m, rfl, hs, al, n4, m4, len⟩ := h
  exact ⟨a, us, n, m, qs, rfl, hs, al, n4, m4, len, k⟩
theorem KnOk.told {K : PySem.W.Frag} {H : Hp} {v : V} {qs : List Rat} {Q : VK} {E : XK} (h : KnOk K H v qs) (k : ∀ t H' ws, Same H H' → TpN H' t ws → Al K H' ws qs → Q (.ref t) H') : spTrowN K [v] H Q E := by
  obtain ⟨a, us, n, m, rfl, hs, al, n4, m4, len⟩ := h
  exact ⟨a, us, n, m, qs, rfl, .inl hs, al, by omega, len, k⟩
/-- a list, each item of it a Poly or not -/
def PlL (K : PySem.W.Frag) (cP : Addr) (H : Hp) (v : V) (us : List V) (bs : List Bool) : Prop := ∃ a, v = .ref a ∧ SqL K H a us ∧ us.length ≤ 1000 ∧ bs.length = us.length ∧ ∀ (i : Nat) (u : V) (b : Bool), us[i]? = some u → bs[i]? = some b → PB K cP H u b
theorem PlL.same {K : PySem.W.Frag} {cP : Addr} {H H' : Hp} {v : V} {us : List V} {bs : List Bool} (s : Same H H') (h : PlL K cP H v us bs) : PlL K cP H' v us bs := by
  obtain ⟨a, e, hs, l, lb, r⟩ := h
  exact ⟨a, e, Same.seq s hs, l, lb, fun i u b x y => (r i u b x y).same s⟩
theorem PlL.row {K : PySem.W.Frag} {cP : Addr} {H : Hp} {v : V} {us : List V} {bs : List Bool} {Q : VK} {E : XK} (h : PlL K cP H v us bs) (k : ∀ H', Same H H' → Q (.bl (bs.all id)) H') : spRowp K cP [v] H Q E := by
  obtain ⟨a, rfl, hs, l, lb, r⟩ := h
  exact ⟨.ref a, rfl, .inr ⟨a, us, bs, rfl, hs, l, ⟨lb, r⟩, k⟩⟩
/-- a list of Polys -/
theorem PLs.all {K : PySem.W.Frag} {cP : Addr} {H : Hp} {us : List V} {ps : List (List Rat)} {a : Addr} (h : PLs K cP H us ps) (hs : SqL K H a us) (l : us.length ≤ 1000) : PlL K cP H (.ref a) us (List.replicate us.length true) := by
  refine ⟨a, rfl, hs, l, List.length_replicate, fun i u b e1 e2 => ?_⟩
  have lt : i < us.length := (List.getElem?_eq_some_iff.mp e1).1
  rw [List.getElem?_replicate, if_pos lt] at e2
  cases e2
  obtain ⟨p, ep⟩ : ∃ p, ps[i]? = some p := ⟨_, List.getElem?_eq_getElem (by rw [← h.1]; exact lt)⟩
  exact .inl ⟨rfl, p, h.2 i u p e1 ep⟩
/-- knots that are none -/
def KnBad (K : PySem.W.Frag) (H : Hp) (v : V) : Prop := NotRow K H v ∨ ∃ ks, KnOk K H v ks ∧ (ks.length < 2 ∨ ascB ks = false)
/-- pieces that are none, for n knots -/
def PlBad (K : PySem.W.Frag) (cP : Addr) (H : Hp) (v : V) (n : Nat) : Prop := (∃ t, TyN K H v t ∧ (t == "tuple") = false ∧ (t == "list") = false) ∨ ∃ us bs, PlL K cP H v us bs ∧ (bs.all id = false ∨ us.length + 1 ≠ n)
/-- numbers that are none, for n knots -/
def AtBad (K : PySem.W.Frag) (H : Hp) (v : V) (n : Nat) : Prop := NotRow K H v ∨ ∃ qs, KnOk K H v qs ∧ qs.length ≠ n
section
variable {P : Program} {w : World} {K : PySem.W.Frag} {mg : Str → Option Value} {base : Heap}
def spBinit (K : PySem.W.Frag) (cB cP cR : Addr) : Sp := fun vs H Q E => ∃ x dx kv pv av H0, vs = [.ref x, kv, pv, av] ∧ H x = some (.ins cB dx []) ∧ Same H0 H ∧ H0 x = none ∧
  ((KnBad K H0 kv ∧ ErR cR H E kv) ∨ ∃ ks, KnOk K H0 kv ks ∧ 2 ≤ ks.length ∧ ascB ks = true ∧
    ((PlBad K cP H0 pv ks.length ∧ ErR cR H E pv) ∨ ∃ b us ps, pv = .ref b ∧ SqL K H0 b us ∧ PLs K cP H0 us ps ∧ us.length + 1 = ks.length ∧
      ((AtBad K H0 av ks.length ∧ ErR cR H E av) ∨ ∃ as, KnOk K H0 av as ∧ as.length = ks.length ∧
        ∀ H' t1 t2 t3 w1 w3, But x H H' → H' x = some (.ins cB dx (bF (.ref t1) (.ref t2) (.ref t3))) → TpN H' t1 w1 → Al K H' w1 ks → SqT K H' t2 us → PLs K cP H' us ps → TpN H' t3 w3 → Al K H' w3 as → Q .non H')))
abbrev nB0 : List Str := ["self", "knots", "polys", "at"]
theorem scB0 : FnScope nB0 ["self", "knots", "polys", "at"] (defScope (sB 0)) := ⟨rfl, rfl, rfl, by decide +kernel, rfl, by decide +kernel, by decide +kernel⟩
theorem neT {i j : Int} (h : i ≠ j) : (!decide (V.int i = V.int j)) = true := by
  rw [dec_int]
  simp [h]
theorem neF {i j : Int} (h : i = j) : (!decide (V.int i = V.int j)) = false := by
  rw [dec_int]
  simp [h]
theorem putB2 {x y : V} : putF "polys" y [(("knots" : Str), x)] = [(("knots" : Str), x), (("polys" : Str), y)] := by
  unfold putF
  rw [if_neg (by decide +kernel)]
  rfl
theorem putB3 {x y z : V} : putF "at" z [(("knots" : Str), x), (("polys" : Str), y)] = bF x y z := by
  unfold putF
  rw [if_neg (by decide +kernel)]
  unfold putF
  rw [if_neg (by decide +kernel)]
  rfl
theorem ok_binit (T : Tb P K mg) : FnOk P w K mg base (CX P w) 7 T.b_init.f T.b_init.fd ["self", "knots", "polys", "at"] (spBinit K T.cB T.cP T.cR) := by
  have G1 : FnOk P w K mg base CX0 4 T.is_row.f T.is_row.fd ["value"] (spRow K) := ok_row T.toTz
  have G2 : FnOk P w K mg base CX0 6 T.ascends.f T.ascends.fd ["row"] (spAsc K) := ok_asc T
  have G3 : FnOk P w K mg base CX0 1 T.is_rowp.f T.is_rowp.fd ["value"] (spRowp K T.cP) := ok_rowp T
  have G4 : FnOk P w K mg base CX0 5 T.told_row.f T.told_row.fd ["row"] (spTrowN K) := ok_trowN T
  refine T.b_init.fn.okX scB0 (fun vs H Q E h => ?_) (fun cdv A outer s H vs Q E hr h => ?_)
  · obtain ⟨x, dx, kv, pv, av, H0, rfl, _⟩ := h
    rfl
  · obtain ⟨x, dx, kv, pv', av, H0, rfl, hx, s0, n0, h⟩ := h
    have hr4 : Room 4 _ := hr.mono (by decide)
    have hr5 : Room 5 _ := hr.mono (by decide)
    have hr1 : Room 1 _ := hr.mono (by decide)
    have tk := takes_of (X := cxOf (CX P w) P w K mg base nB0 "Broken.__init__" (defScope (sB 0)) T.b_init.f cdv A outer s H E) (E := E) rfl rfl rfl rfl
    refine ⟨_, pss_cons (ps_if (PW.pt (pw_or (pt_not (pt_val (T.is_row.c0 G1 hr4 (pa_cons (pv 1) pa_nil))))
          (pw_or (pt_cmpR op_lt (pe_callB call_len_seq (by rfl) T.blt.len PySem.boot_len (pa_cons (pv 1) pa_nil)) pe_int (nomark _))
            (pw_or1 (pt_not (pt_val (T.ascends.c0 G2 hr (pa_cons (pv 1) pa_nil))))))))
        (pss_one (ps_raise rfl tk (pmk_oex (CX := CX0) T.eR.o T.iR.i T.iR.t (ok_i4 T.iR.fn) (hr.mono (by decide)) T.bR .nil pass0 rfl T.eR.g (pa_cons (pv 1) pa_nil)))) pss_nil)
      (pss_cons (ps_if (PW.pt (pw_or (pt_not (pt_val (T.is_rowp.c0 G3 hr1 (pa_cons (pv 2) pa_nil))))
          (pw_or1 (pt_cmpR op_ne (pe_callB call_len_seq (by rfl) T.blt.len PySem.boot_len (pa_cons (pv 2) pa_nil)) (pe_op op_sub (pe_callB call_len_seq (by rfl) T.blt.len PySem.boot_len (pa_cons (pv 1) pa_nil)) pe_int) (nomark _)))))
        (pss_one (ps_raise rfl tk (pmk_oex (CX := CX0) T.eR.o T.iR.i T.iR.t (ok_i4 T.iR.fn) (hr.mono (by decide)) T.bR .nil pass0 rfl T.eR.g (pa_cons (pv 2) pa_nil)))) pss_nil)
      (pss_cons (ps_if (PW.pt (pw_or (pt_not (pt_val (T.is_row.c0 G1 hr4 (pa_cons (pv 3) pa_nil))))
          (pw_or1 (pt_cmpR op_ne (pe_callB call_len_seq (by rfl) T.blt.len PySem.boot_len (pa_cons (pv 3) pa_nil)) (pe_callB call_len_seq (by rfl) T.blt.len PySem.boot_len (pa_cons (pv 1) pa_nil)) (nomark _)))))
        (pss_one (ps_raise rfl tk (pmk_oex (CX := CX0) T.eR.o T.iR.i T.iR.t (ok_i4 T.iR.fn) (hr.mono (by decide)) T.bR .nil pass0 rfl T.eR.g (pa_cons (pv 3) pa_nil)))) pss_nil)
      (pss_cons (ps_fld (pv 0) (T.told_row.c0 G4 hr5 (pa_cons (pv 1) pa_nil)) (by rfl))
      (pss_cons (ps_fld (pv 0) (pe_callTy call_tuple_of (by rfl) T.mTuple boot_ttuple (pa_cons (pv 2) pa_nil)) (by rfl))
      (pss_one (ps_fld (pv 0) (T.told_row.c0 G4 hr5 (pa_cons (pv 3) pa_nil)) (by rfl))))))), ?_⟩
    rcases h with ⟨bad, er⟩ | ⟨ks, hk, k2, asc, h⟩
    · rcases bad with nr | ⟨ks, hk, bad⟩
      · refine ⟨_, rfl, ?_⟩
        dsimp only [tNil]
        refine (nr.same s0).row fun H1 s1 => ?_
        exact ⟨_, rfl, iteT (iteT ⟨_, rfl, raised1 T.eR.o T.nR1 fun d H' s' e => er d H' (s1.trans s') e⟩)⟩
      · refine ⟨_, rfl, ?_⟩
        dsimp only [tNil]
        refine (hk.same s0).row fun H1 s1 => ?_
        refine ⟨_, rfl, iteF ?_⟩
        obtain ⟨a, us, rfl, hs, lu, _⟩ := ((hk.same s0).same s1).len
        refine ⟨_, rfl, a, us, rfl, .inl hs, _, _, rfl, rfl, _, rfl, ?_⟩
        by_cases c : ks.length < 2
        · rw [decide_eq_true (show ((us.length : Nat) : Int) < 2 by omega)]
          exact iteT (iteT ⟨_, rfl, raised1 T.eR.o T.nR1 fun d H' s' e => er d H' (s1.trans s') e⟩)
        · have f := bad.resolve_left c
          rw [decide_eq_false (show ¬ ((us.length : Nat) : Int) < 2 by omega)]
          refine iteF ⟨_, rfl, ?_⟩
          dsimp only [tNil]
          refine ((hk.same s0).same s1).ascQ fun H2 s2 => ?_
          rw [f]
          exact ⟨_, rfl, iteT ⟨_, rfl, raised1 T.eR.o T.nR1 fun d H' s' e => er d H' ((s1.trans s2).trans s') e⟩⟩
    · -- the knots are right
      refine ⟨_, rfl, ?_⟩
      dsimp only [tNil]
      refine (hk.same s0).row fun H1 s1 => ?_
      refine ⟨_, rfl, iteF ?_⟩
      have s01 := s0.trans s1
      obtain ⟨a, us1, rfl, hs, lu, _⟩ := (hk.same s01).len
      refine ⟨_, rfl, a, us1, rfl, .inl hs, _, _, rfl, rfl, _, rfl, ?_⟩
      rw [decide_eq_false (show ¬ ((us1.length : Nat) : Int) < 2 by omega)]
      refine iteF ⟨_, rfl, ?_⟩
      dsimp only [tNil]
      refine (hk.same s01).ascQ fun H2 s2 => ?_
      rw [asc]
      refine ⟨_, rfl, iteF ?_⟩
      have s12 := s1.trans s2
      have s02 := s01.trans s2
      have hs2 := Same.seq s2 hs
      rcases h with ⟨bad, er⟩ | ⟨b, us, ps, rfl, hb, hp, lp, h⟩
      · rcases bad with ⟨t, ty, n1, n2⟩ | ⟨us, bs, hl, bad⟩
        · refine ⟨_, rfl, _, rfl, .inl ⟨t, ty.same s02, n1, n2, fun H3 s3 => ?_⟩⟩
          exact ⟨_, rfl, iteT (iteT ⟨_, rfl, raised1 T.eR.o T.nR1 fun d H' s' e => er d H' ((s12.trans s3).trans s') e⟩)⟩
        · refine ⟨_, rfl, ?_⟩
          dsimp only [tNil]
          refine (hl.same s02).row fun H3 s3 => ?_
          have s13 := s12.trans s3
          cases e : bs.all id with
          | false => exact ⟨_, rfl, iteT (iteT ⟨_, rfl, raised1 T.eR.o T.nR1 fun d H' s' e => er d H' (s13.trans s') e⟩)⟩
          | true =>
            have ne := bad.resolve_left (by rw [e]; exact Bool.noConfusion)
            obtain ⟨c, rfl, hc, lc, _⟩ := (hl.same s02).same s3
            refine ⟨_, rfl, iteF ?_⟩
            refine ⟨_, rfl, c, us, rfl, .inl hc, _, rfl, a, us1, rfl, .inl (Same.seq s3 hs2), _, _, rfl, rfl, rfl, _, rfl, ?_⟩
            rw [neT (show ((us.length : Nat) : Int) ≠ ((us1.length : Nat) : Int) - 1 by omega)]
            exact iteT ⟨_, rfl, raised1 T.eR.o T.nR1 fun d H' s' e => er d H' (s13.trans s') e⟩
      · -- the pieces are right
        have lp' := hp.1
        obtain ⟨_, _, lb1⟩ : ∃ (_ : True) (_ : True), us.length ≤ 1000 := ⟨trivial, trivial, by
          obtain ⟨a', us', e', hs', lu', l'⟩ := hk.len
          omega⟩
        refine ⟨_, rfl, ?_⟩
        dsimp only [tNil]
        refine ((hp.all hb lb1).same s02).row fun H3 s3 => ?_
        have all1 : (List.replicate us.length true).all id = true := by simp
        rw [all1]
        have s13 := s12.trans s3
        have s03 := s02.trans s3
        refine ⟨_, rfl, iteF ?_⟩
        refine ⟨_, rfl, b, us, rfl, .inl (Same.seq s03 hb), _, rfl, a, us1, rfl, .inl (Same.seq s3 hs2), _, _, rfl, rfl, rfl, _, rfl, ?_⟩
        rw [neF (show ((us.length : Nat) : Int) = ((us1.length : Nat) : Int) - 1 by omega)]
        refine iteF ?_
        rcases h with ⟨bad, er⟩ | ⟨as, ha, las, k⟩
        · rcases bad with nr | ⟨qs, hq, ne⟩
          · refine ⟨_, rfl, ?_⟩
            dsimp only [tNil]
            refine (nr.same s03).row fun H4 s4 => ?_
            exact ⟨_, rfl, iteT (iteT ⟨_, rfl, raised1 T.eR.o T.nR1 fun d H' s' e => er d H' ((s13.trans s4).trans s') e⟩)⟩
          · refine ⟨_, rfl, ?_⟩
            dsimp only [tNil]
            refine (hq.same s03).row fun H4 s4 => ?_
            obtain ⟨c, us4, rfl, hc, lc, _⟩ := ((hq.same s03).same s4).len
            refine ⟨_, rfl, iteF ⟨_, rfl, c, us4, rfl, .inl hc, _, rfl, a, us1, rfl, .inl (Same.seq s4 (Same.seq s3 hs2)), rfl, _, rfl, ?_⟩⟩
            rw [neT (show ((us4.length : Nat) : Int) ≠ ((us1.length : Nat) : Int) by omega)]
            exact iteT ⟨_, rfl, raised1 T.eR.o T.nR1 fun d H' s' e => er d H' ((s13.trans s4).trans s') e⟩
        · -- all is right
          refine ⟨_, rfl, ?_⟩
          dsimp only [tNil]
          refine (ha.same s03).row fun H4 s4 => ?_
          have s14 := s13.trans s4
          have s04 := s03.trans s4
          obtain ⟨c, us4, rfl, hc, lc, _⟩ := (ha.same s04).len
          refine ⟨_, rfl, iteF ⟨_, rfl, c, us4, rfl, .inl hc, _, rfl, a, us1, rfl, .inl (Same.seq s4 (Same.seq s3 hs2)), rfl, _, rfl, ?_⟩⟩
          rw [neF (show ((us4.length : Nat) : Int) = ((us1.length : Nat) : Int) by omega)]
          refine iteF ⟨_, rfl, ?_⟩
          dsimp only [tNil]
          refine (hk.same s04).told fun t1 H5 w1 s5 ht1 al1 => ?_
          have hx5 := (s14.trans s5) _ _ hx
          have s05 := s04.trans s5
          refine ⟨_, rfl, x, T.cB, dx, [], rfl, hx5, T.clB, T.nB1, by decide, ?_⟩
          have b5 : But x H5 (upd H5 x (.ins T.cB dx (putF "knots" (.ref t1) []))) := But.refl.set
          have b05 : But x H (upd H5 x (.ins T.cB dx (putF "knots" (.ref t1) []))) := fun c o e n => b5 c o ((s14.trans s5) _ _ e) n
          have s06 : Same H0 _ := sameOff s05 n0 b5
          have ht6 := ht1.off hx5 b5
          have al6 := al1.off hx5 b5
          have hx6 : upd H5 x (.ins T.cB dx (putF "knots" (.ref t1) [])) x = some (.ins T.cB dx [(("knots" : Str), .ref t1)]) := upd_same
          generalize upd H5 x (.ins T.cB dx (putF "knots" (.ref t1) [])) = H6 at b05 s06 ht6 al6 hx6
          refine ⟨_, rfl, b, us, rfl, .inl ⟨Same.seq s06 hb, fun t2 n2 => ?_⟩⟩
          have s7 := Same.new (o := .tup us) n2
          have ht2 : SqT K (upd H6 t2 (.tup us)) t2 us := SqT.of upd_same
          have b07 : But x H (upd H6 t2 (.tup us)) := fun c o e n => s7 _ _ (b05 c o e n)
          have s07 := s06.trans s7
          have hx7 := s7 _ _ hx6
          have ht7 := ht6.same s7
          have al7 := al6.same s7
          generalize upd H6 t2 (.tup us) = H7 at b07 s07 ht7 al7 hx7 ht2
          refine ⟨_, rfl, x, T.cB, dx, _, rfl, hx7, T.clB, T.nB2, (by show 1 < 1000; decide), ?_⟩
          rw [putB2]
          have b8 : But x H7 (upd H7 x (.ins T.cB dx [(("knots" : Str), .ref t1), (("polys" : Str), .ref t2)])) := But.refl.set
          have b08 := But.trans' b07 b8
          have s08 := sameOff s07 n0 b8
          have ht8 := ht7.off hx7 b8
          have al8 := al7.off hx7 b8
          have ht28 := Kz.SqT.off hx7 b8 ht2
          have hx8 : upd H7 x (.ins T.cB dx [(("knots" : Str), .ref t1), (("polys" : Str), .ref t2)]) x = some (.ins T.cB dx [(("knots" : Str), .ref t1), (("polys" : Str), .ref t2)]) := upd_same
          generalize upd H7 x (.ins T.cB dx [(("knots" : Str), .ref t1), (("polys" : Str), .ref t2)]) = H8 at b08 s08 ht8 al8 hx8 ht28
          refine ⟨_, rfl, ?_⟩
          dsimp only [tNil]
          refine (ha.same s08).told fun t3 H9 w3 s9 ht3 al3 => ?_
          have hx9 := s9 _ _ hx8
          refine ⟨_, rfl, x, T.cB, dx, _, rfl, hx9, T.clB, T.nB3, (by show 2 < 1000; decide), ?_⟩
          rw [putB3]
          have b10 : But x H9 (upd H9 x (.ins T.cB dx (bF (.ref t1) (.ref t2) (.ref t3)))) := But.refl.set
          exact k _ t1 t2 t3 w1 w3 (fun c o e n => b10 c o (s9 _ _ (b08 c o e n)) n) upd_same ((ht8.same s9).off hx9 b10) ((al8.same s9).off hx9 b10) (Kz.SqT.off hx9 b10 (Kz.Same.seqT s9 ht28)) (hp.same (sameOff (s08.trans s9) n0 b10)) (ht3.off hx9 b10) (al3.off hx9 b10)
end
end Kz
set_option linter.all false
set_option maxRecDepth 100000
set_option maxHeartbeats 4000000
/-! == of two tuples of Polys, equal or not. -/
namespace GQ
open PySem PySem.SeqAt
open AutoSeq1 (wpAny_loadPart')
open MeetsSeq MeetsSeq2 MeetsSeq3 SeqRoads2
section
variable {prog : Program} {w : World} {A : Around} {R : Result → Shared → Prop}
end
section
variable {prog : Program} {w : World} {A : Around} {E : Value → Shared → Prop} {s : Shared}
end
end GQ
set_option linter.all false
set_option maxRecDepth 100000
set_option maxHeartbeats 4000000
namespace Kz
open PySem PySem.Spec PyProof.Rows L2
section
variable {X : Cx} {P : Program} {w : World} {K : PySem.W.Frag} {mg : Str → Option Value} {base : Heap}
end
end Kz
set_option linter.all false
set_option maxRecDepth 100000
set_option maxHeartbeats 4000000
namespace Kz
open PySem PySem.Spec PyProof.Rows L2
structure Tc (P : Program) (K : PySem.W.Frag) (mg : Str → Option Value) extends Tb P K mg where
  iB : PySem.W.findIn K (.ref cB) "__class__" = some (some (.builtin "object.__class__"))
  oB : PySem.W.mroIn K cB (.type "object") = some true
  notB : ∀ t ∈ tyNames, PySem.W.kitOne K (.type t) (.ref cB) = some false
  nIB : PySem.W.subIn K (.type "int") (.ref cB) = some false
  nTB : PySem.W.subIn K (.type "tuple") (.ref cB) = some false
section
variable {P : Program} {w : World} {K : PySem.W.Frag} {mg : Str → Option Value} {base : Heap}
theorem brk_ty (T : Tc P K mg) {H : Hp} {a dx : Addr} {fs : List (Str × V)} (h : H a = some (.ins T.cB dx fs)) : TyX K H (.ref a) (.ref T.cB) := .base (.ins h T.clB T.iB T.gP T.tP T.oB)
end
end Kz
set_option linter.all false
set_option maxRecDepth 100000
set_option maxHeartbeats 4000000
namespace Kz
open PySem PySem.Spec PyProof.Rows L2
section
variable {P : Program} {w : World} {K : PySem.W.Frag} {mg : Str → Option Value} {base : Heap}
end
end Kz
set_option linter.all false
set_option maxRecDepth 100000
set_option maxHeartbeats 4000000
namespace Kz
open PySem PySem.Spec PyProof.Rows L2
/-! ### a comprehension whose test never holds -/
section
variable {K : PySem.W.Frag} {a : Addr} {xs : List V} {g : TG} {tt : TT} {te : TE} {vs : List Nat} {σ : L2.St} {H1 : Hp} {D : Addr} {Qd : Hp → Prop}
end
section
variable {P : Program} {w : World} {K : PySem.W.Frag} {mg : Str → Option Value} {base : Heap}
/-- a row that is new -/
def LRn (K : PySem.W.Frag) (H H' : Hp) (v : V) (qs : List Rat) : Prop := ∃ l ws, v = .ref l ∧ H l = none ∧ H' l = some (.lst ws) ∧ Al K H' ws qs
theorem LRn.lr {H H' : Hp} {v : V} {qs : List Rat} (h : LRn K H H' v qs) : LR K H' v qs := by
  obtain ⟨l, ws, e, _, hl, al⟩ := h
  exact ⟨l, ws, e, hl, al⟩
end
end Kz
set_option linter.all false
set_option maxRecDepth 100000
set_option maxHeartbeats 4000000
namespace Kz
open PySem PySem.Spec PyProof.Rows L2
/-- rows made so far, none of them at D -/
def RwD (K : PySem.W.Frag) (D : Addr) (ps : List (List Rat)) (i : Nat) (acc : List V) (H : Hp) : Prop := acc.length = i ∧ ∀ (j : Nat) (v : V) (p : List Rat), acc[j]? = some v → ps[j]? = some p → ∃ l ws, v = .ref l ∧ l ≠ D ∧ H l = some (.lst ws) ∧ Al K H ws p
theorem RwD.bears {K : PySem.W.Frag} {D : Addr} {ps : List (List Rat)} : Bears D (RwD K D ps) := fun i acc H H' l b h => ⟨h.1, fun j v p e1 e2 => by
  obtain ⟨a, ws, e, n, ha, al⟩ := h.2 j v p e1 e2
  refine ⟨a, ws, e, n, b _ _ ha n, al.1, fun k u q x y => ?_⟩
  exact bear_rv l b (al.2 k u q x y)⟩
theorem RwD.same {K : PySem.W.Frag} {D : Addr} {ps : List (List Rat)} {i : Nat} {acc : List V} {H H' : Hp} (s : Same H H') (h : RwD K D ps i acc H) : RwD K D ps i acc H' := ⟨h.1, fun j v p e1 e2 => by
  obtain ⟨a, ws, e, n, ha, al⟩ := h.2 j v p e1 e2
  exact ⟨a, ws, e, n, s _ _ ha, al.same s⟩⟩
theorem RwD.snoc {K : PySem.W.Frag} {D l : Addr} {ps : List (List Rat)} {i : Nat} {acc ws : List V} {H : Hp} {p : List Rat} (h : RwD K D ps i acc H) (hp : ps[i]? = some p) (n : l ≠ D) (hl : H l = some (.lst ws)) (al : Al K H ws p) : RwD K D ps (i + 1) (acc ++ [.ref l]) H := by
  refine ⟨by rw [List.length_append, h.1]; rfl, fun j v q e1 e2 => ?_⟩
  rcases Nat.lt_or_ge j acc.length with lt | ge
  · rw [List.getElem?_append_left lt] at e1
    exact h.2 j v q e1 e2
  · have z := (List.getElem?_eq_some_iff.mp e1).1
    rw [List.length_append] at z
    have ej : j = acc.length := by
      have : [V.ref l].length = 1 := rfl
      omega
    subst ej
    rw [List.getElem?_append_right (Nat.le_refl _), Nat.sub_self] at e1
    cases e1
    rw [h.1, hp] at e2
    cases e2
    exact ⟨l, ws, rfl, n, hl, al⟩
section
variable {K : PySem.W.Frag} {a : Addr} {xs : List V} {g : TG} {te : TE} {vs : List Nat} {σ : L2.St} {H1 : Hp} {D : Addr} {Qd : Hp → Prop}
/-- a comprehension over a tuple; each turn knows where the row stands -/
theorem lc_mapTD (hl : SqT K H1 a xs) (len : xs.length ≤ 1000) (hD : H1 D = none) (R : Nat → List V → Hp → Prop) (br : Bears D R) (h0 : R 0 [] H1)
    (step : ∀ (i : Nat) (x : V), xs[i]? = some x → ∀ (acc : List V) (H' : Hp) (Qk : VK) (Z : Hp → Prop), H' D = some (.lst acc) → acc.length = i → R i acc H' → Same H1 H' → (∀ y H4, Same H' H4 → R (i + 1) (acc ++ [y]) H4 → Qk y H4) →
      g x (wipe σ vs) H' fun σ2 H2 => wipe σ2 vs = wipe σ vs ∧ tYes σ2 H2 fun b H3 => if b = true then te σ2 H3 Qk else Z H3)
    (fin : ∀ acc H', H' D = some (.lst acc) → acc.length = xs.length → R xs.length acc H' → Same H1 H' → Qd H') : ∃ W : Nat → Nat → Hp → Prop, (∃ m, W 0 m (upd H1 D (.lst []))) ∧ ∀ i m H, W i m H →
      ((Itt K a).stop i H ∧ Qd H) ∨ ((Itt K a).go i H ∧ ∃ Nx : Hp → Prop, (∀ H', Nx H' → ∃ m', m' < m ∧ W (i + 1) m' H') ∧ ∀ x H', (Itt K a).yld i H x H' → g x (wipe σ vs) H' fun σ2 H2 => wipe σ2 vs = wipe σ vs ∧ tYes σ2 H2 fun b H3 =>
        if b = true then te σ2 H3 fun y H4 => ∃ acc, H4 D = some (.lst acc) ∧ acc.length < sizeLine ∧ Nx (upd H4 D (.lst (acc ++ [y]))) else Nx H3) := by
  refine lc_tup (fun i H' => ∃ acc, H' D = some (.lst acc) ∧ acc.length = i ∧ i ≤ xs.length ∧ R i acc H' ∧ Same H1 H') ⟨[], upd_same, rfl, Nat.zero_le _, br _ _ _ _ (fun o e => by rw [hD] at e; cases e) (But.refl.set) h0, Same.new hD⟩
    (fun i H' _ ⟨acc, _, _, _, _, s⟩ => Kz.Same.seqT s hl) ?_ fun H' ⟨acc, e, l, _, r, s⟩ => fin acc H' e l r s
  rintro i x H' hx ⟨acc, e, l, le, r, s⟩
  have lt : i < xs.length := (List.getElem?_eq_some_iff.mp hx).1
  refine step i x hx acc H' _ _ e l r s fun y H4 s4 r4 => ⟨acc, s4 _ _ e, le1000 (by omega), acc ++ [y], upd_same, by simp [l], lt, br _ _ _ _ (fun o e4 => ?_) But.refl.set r4, fun c u ec => ?_⟩
  · rw [s4 _ _ e] at e4
    cases e4
    exact ⟨_, rfl⟩
  · rw [upd_ne (ne_of_none ec hD)]
    exact s4 _ _ (s _ _ ec)
end
section
variable {P : Program} {w : World} {K : PySem.W.Frag} {mg : Str → Option Value} {base : Heap}
/-- the law's own form of a function -/
def spToldF (K : PySem.W.Frag) (cB cP : Addr) : Sp := fun vs H Q _ => ∃ f ks ps as m, vs = [f] ∧ BrkAt K cB cP H f ks ps as ∧ Fsz ks ps ∧ as.length = ks.length ∧ (∀ q ∈ as, q.den < 2 ^ m) ∧ m ≤ 9000 ∧ ∀ u H', Same H H' → FnV K H' u ks ps as → Q u H'
end
end Kz
set_option linter.all false
set_option maxRecDepth 100000
set_option maxHeartbeats 4000000
namespace Kz
open PySem PySem.Spec PyProof.Rows L2
/-- the scope of the outer comprehension of made_function -/
abbrev scIn : Scope := { kind := .function, names := [((".0" : Str), .local), (("_law_p" : Str), .local), (("Poly" : Str), .globalImplicit), (("_law_pen_here" : Str), .cell)], isGenerator := false, isCoroutine := false }
theorem pi_listK {X : Cx} {K' : PySem.W.Frag} {tg l : Expr} {tl : TE} (hl : PE X l tl) (e : X.K = K' := by rfl) : PI X tg l (iList K' tl) := by
  subst e
  exact pi_list hl
section
variable {P : Program} {w : World} {K : PySem.W.Frag} {mg : Str → Option Value} {base : Heap}
abbrev nMf : List Str := ["_law_pen_here", "_law_f", "_law_polys", "_law_p", "_law_number", "_law_x"]
theorem sc62k : FnScope nMf ["_law_pen_here", "_law_f"] (defScope (top 74)) := ⟨rfl, rfl, rfl, by decide +kernel, rfl, by decide +kernel, by decide +kernel⟩
/-- ratios that were passed so far -/
def PassR (K : PySem.W.Frag) (p c D : Addr) (m α β : Nat) (qs : List Rat) (i : Nat) (acc : List V) (H : Hp) : Prop := Pen H p c (m + 3 * i) ∧ AlA K H acc (α + 2) (β + 2) (qs.take i) ∧ ∀ u ∈ acc, u ≠ .ref D
theorem PassR.bears {p c D : Addr} {m α β : Nat} {qs : List Rat} (nc : D ≠ c) : Bears D (PassR K p c D m α β qs) := fun i acc H H' l b ⟨pn, aa, hq⟩ =>
  ⟨bear_pen l nc b pn, ⟨aa.1, fun x v q e1 e2 => bear_argQ l (hq v (List.mem_of_getElem? e1)) b (aa.2 x v q e1 e2)⟩, hq⟩
theorem pass_step {p c D : Addr} {m α β : Nat} {xs : List V} {qs : List Rat} {H1 : Hp} (pen : Pen H1 p c m) (al : Al K H1 xs qs) (zq : SzA α β qs) (a0 : 0 < α) (b0 : 0 < β) (a1 : α ≤ 1800) (b1 : β ≤ 1800) (len : m + 3 * qs.length ≤ 900000) {i : Nat} {x : V} (hx : xs[i]? = some x)
    {acc : List V} {H' : Hp} (r : PassR K p c D m α β qs i acc H') (b : But p H1 H') (e : H' D = some (.lst acc)) {Qk : VK} {E : XK} (kk : ∀ y H4, But p H' H4 → PassR K p c D m α β qs (i + 1) (acc ++ [y]) H4 → Qk y H4) : spPassed K [.ref p, x] H' Qk E := by
  obtain ⟨pn, aa, hq⟩ := r
  have lt : i < qs.length := by
    have := (List.getElem?_eq_some_iff.mp hx).1
    rw [← al.1]
    exact this
  refine ⟨p, c, _, x, cf qs i, α, β, rfl, pn, by omega, pen.rv b (al.2 i x _ hx (at_cf lt)), zq i lt, a0, b0, a1, b1, fun u H4 pn4 b4 aq _ fresh => kk u H4 b4 ⟨pn4, ?_, fun w hw => ?_⟩⟩
  · rw [take_snoc (at_cf lt)]
    exact (pn.alA b4 aa).snoc aq
  · rcases List.mem_append.mp hw with h | h
    · exact hq w h
    · rw [List.mem_singleton.mp h]
      intro z
      have := fresh D z
      rw [e] at this
      cases this
theorem bear_poly {cP D : Addr} {H H' : Hp} {v : V} {q : List Rat} (l : ∀ o, H D = some o → ∃ us, o = .lst us) (b : But D H H') (h : PolyAt K cP H v q) : PolyAt K cP H' v q := by
  obtain ⟨a, dx, t, ws, e, ha, ht, al, tr⟩ := h
  refine ⟨a, dx, t, ws, e, b _ _ ha (fun z => ?_), bearT l b ht, ⟨al.1, fun i v q x y => bear_rv l b (al.2 i v q x y)⟩, tr⟩
  obtain ⟨us, eu⟩ := l _ (z ▸ ha)
  cases eu
/-- Polys made so far -/
def PolR (K : PySem.W.Frag) (cP p c : Addr) (m : Nat) (ps : List (List Rat)) (i : Nat) (acc : List V) (H : Hp) : Prop := Pen H p c (m + 24 * i) ∧ PLs K cP H acc (ps.take i)
theorem PolR.bears {cP p c D : Addr} {m : Nat} {ps : List (List Rat)} (nc : D ≠ c) : Bears D (PolR K cP p c m ps) := fun i acc H H' l b ⟨pn, aa⟩ =>
  ⟨bear_pen l nc b pn, aa.1, fun j u q x y => bear_poly l b (aa.2 j u q x y)⟩
theorem PLs.snoc {cP : Addr} {H : Hp} {us : List V} {ps : List (List Rat)} {u : V} {p : List Rat} (h : PLs K cP H us ps) (r : PolyAt K cP H u p) : PLs K cP H (us ++ [u]) (ps ++ [p]) := by
  refine ⟨by simp [h.1], fun i v' q' a b => ?_⟩
  rcases Nat.lt_or_ge i us.length with lt | ge
  · rw [List.getElem?_append_left lt] at a
    rw [List.getElem?_append_left (by rw [← h.1]; exact lt)] at b
    exact h.2 i _ _ a b
  · rw [List.getElem?_append_right ge] at a
    rw [List.getElem?_append_right (by rw [← h.1]; exact ge), ← h.1] at b
    cases z : i - us.length with
    | zero =>
      rw [z] at a b
      cases a
      cases b
      exact r
    | succ k =>
      rw [z] at a
      cases a
theorem Pen.pls {cP p c : Addr} {n : Nat} {H H' : Hp} {us : List V} {ps : List (List Rat)} (b : But p H H') (pen : Pen H p c n) (h : PLs K cP H us ps) : PLs K cP H' us ps := ⟨h.1, fun i u q x y => pen.poly b (h.2 i u q x y)⟩
/-- sizes of a function's numbers at its knots -/
def Azs (as : List Rat) : Prop := ∀ q ∈ as, Mz 192 1606 q
def spMkf (K : PySem.W.Frag) (cB cP : Addr) : Sp := fun vs H Q _ => ∃ (p c : Addr) (n : Nat) (v : V) (ks : List Rat) (ps : List (List Rat)) (as : List Rat), vs = [.ref p, v] ∧ Pen H p c n ∧ n ≤ 800000 ∧ FnV K H v ks ps as ∧ Fsz ks ps ∧ as.length = ks.length ∧ Azs as ∧
  ∀ u H', Pen H' p c (n + 300) → But p H H' → BrkAt K cB cP H' u ks ps as → KnF H' u → Q u H'
theorem ok_mkf (T : Tc P K mg) : FnOk P w K mg base CX0 9 T.l_mkf.f T.l_mkf.fd ["_law_pen_here", "_law_f"] (spMkf K T.cB T.cP) := by
  have G1 : FnOk P w K mg base CX0 3 T.l_passed.f T.l_passed.fd ["_law_pen_here", "_law_ratio_here"] (spPassed K) := ok_lpassed T.toTu
  refine T.l_mkf.fn.ok sc62k (fun vs H Q E h => ?_) (fun cdv A outer s H vs Q E hr h => ?_)
  · obtain ⟨p, c, n, v, ks, ps, as, rfl, _⟩ := h
    rfl
  · obtain ⟨p, c, n, v, ks, ps, as, rfl, pen, n8, hf, F, las, za, k⟩ := h
    have hr3 : Room 3 _ := hr.mono (by decide)
    have hr6 : Room 6 _ := hr.mono (by decide)
    have hb : FnOk P w K mg base (CX P w) 7 T.b_init.f T.b_init.fd ["self", "knots", "polys", "at"] (spBinit K T.cB T.cP T.cR) := ok_binit T.toTb
    refine ⟨_, pss_cons (ps_setLc (i := 2) (own := [("_law_p", 3)]) (g := gName 3) (tt := tYes) rfl sc62k.nd rfl rfl (sw_true rfl rfl rfl (by decide +kernel)) (pi_list (pe_ix ix_tup (pv 1) pe_int (fun _ _ => rfl))) (blkOk_by (own := [("_law_p", 3)]) (N := nMf) (sc := defScope (top 74)) (by decide +kernel))
        (fun _ _ _ _ _ => pg_name (i := 3) sc62k.nd rfl (Or.inl rfl)) (fun _ _ _ _ _ => pts_nil) (fun _ _ _ _ _ => T.cPoly hr6 (pa_cons (pe_lc (own := [("_law_number", 4)]) (g := gName 4) (tt := tYes) rfl sc62k.nd (pi_listK (K' := K) (pv 3)) (blkOk_by (own := [("_law_number", 4)]) (N := nMf) (sc := scIn) (by decide +kernel))
          (fun _ _ _ _ _ => pg_name (i := 4) sc62k.nd rfl (Or.inl rfl)) (fun _ _ _ _ _ => pts_nil) (fun _ _ _ _ _ => T.l_passed.c0 G1 hr3 (pa_cons (pv 0) (pa_cons (pv 4) pa_nil)))) pa_nil)))
      (pss_one (ps_ret (pe_make T.mkB hb hr (by rfl) T.mgB T.b_init.b .nil passL (pa_cons (pe_lc (own := [("_law_x", 5)]) (g := gName 5) (tt := tYes) rfl sc62k.nd (pi_list (pe_ix ix_tup (pv 1) pe_int (fun _ _ => rfl))) (blkOk_by (own := [("_law_x", 5)]) (N := nMf) (sc := defScope (top 74)) (by decide +kernel))
          (fun _ _ _ _ _ => pg_name (i := 5) sc62k.nd rfl (Or.inl rfl)) (fun _ _ _ _ _ => pts_nil) (fun _ _ _ _ _ => T.l_passed.c0 G1 hr3 (pa_cons (pv 0) (pa_cons (pv 5) pa_nil))))
        (pa_cons (pv 2) (pa_cons (pe_lc (own := [("_law_number", 4)]) (g := gName 4) (tt := tYes) rfl sc62k.nd (pi_list (pe_ix ix_tup (pv 1) pe_int (fun _ _ => rfl))) (blkOk_by (own := [("_law_number", 4)]) (N := nMf) (sc := defScope (top 74)) (by decide +kernel))
          (fun _ _ _ _ _ => pg_name (i := 4) sc62k.nd rfl (Or.inl rfl)) (fun _ _ _ _ _ => pts_nil) (fun _ _ _ _ _ => T.l_passed.c0 G1 hr3 (pa_cons (pv 0) (pa_cons (pv 4) pa_nil)))) pa_nil)))))), ?_⟩
    have hf0 := hf
    obtain ⟨t, x1, x2, x3, rfl, ht, ⟨la, wa, rfl, ha, ala⟩, ⟨lb, wb, rfl, hb2, lnb, alb⟩, ⟨lc, wc, rfl, hc, alc⟩⟩ := hf
    have few := F.few
    have lk := F.len
    refine ⟨_, rfl, t, _, _, _, rfl, rfl, ht, rfl, lb, rfl, ⟨_, SqL.of hb2⟩, fun D hD => ?_⟩
    have nDp := pen.newP hD
    have nDc := pen.newC hD
    refine lc_mapLP pen (SqL.of hb2) (by omega) hD nDp (PolR K T.cP p c n ps) (PolR.bears nDc) ⟨pen, rfl, fun j u q e => by simp at e⟩ ?_ ?_
    · rintro i x hx acc H1 Qk Z la1 ⟨pn1, pl1⟩ b1 eD kk
      have lt : i < ps.length := by
        have := (List.getElem?_eq_some_iff.mp hx).1
        omega
      obtain ⟨l2, w2, rfl, hl2, al2⟩ := pen.lr b1 (alb i x _ hx (pv_at lt))
      obtain ⟨zp, tp, lp⟩ := F.pz (k := i) lt
      refine ⟨rfl, ?_⟩
      dsimp only [tYes]
      refine iteT ⟨_, rfl, l2, rfl, ⟨_, SqL.of hl2⟩, fun D2 hD2 => ?_⟩
      have nD2p := pn1.newP hD2
      have nD2c := pn1.newC hD2
      have l2' := al2.1
      refine lc_mapLP pn1 (SqL.of hl2) (by omega) hD2 nD2p (PassR K p c D2 (n + 24 * i) 960 900 (pv' ps i)) (PassR.bears nD2c) ⟨pn1, AlA.nil, fun u h => by cases h⟩ ?_ ?_
      · rintro j y hy ac H2 Qk2 Z2 lac r2 b2 e2 kk2
        refine ⟨rfl, ?_⟩
        dsimp only [tYes]
        refine iteT ⟨_, rfl, _, rfl, ?_⟩
        exact pass_step (E := fun _ _ _ => False) pn1 al2 zp (by decide) (by decide) (by decide) (by decide) (by omega) hy r2 b2 e2 kk2
      · rintro ac H2 e2 lac ⟨pn2, aa2, hq2⟩ b2
        have aa2 : AlA K H2 ac 962 902 ((pv' ps i).take w2.length) := aa2
        rw [l2', List.take_length] at aa2
        have pn2' : Pen H2 p c (n + 24 * (i + 1)) := pn2.more (by omega)
        refine poly_made' (Q := fun v H4 => Qk (.ref v) H4) (.inl (SqL.of e2)) aa2 (by decide) (by omega) fun v H3 rs s3 pp _ ec => ?_
        have er : rs = pv' ps i := tr_ext pp.tr tp ec
        subst er
        refine kk _ _ (b2.trans (But.ofSame s3)) ⟨pn2'.same s3, ?_⟩
        rw [take_snoc (pv_at lt)]
        exact ((pn1.pls b2 pl1).same s3).snoc pp
    · rintro acc H1 eD lacc ⟨pn1, pl1⟩ b1
      have pl1 : PLs K T.cP H1 acc (ps.take wb.length) := pl1
      rw [lnb, List.take_length] at pl1
      have pn1 : Pen H1 p c (n + 200) := pn1.more (by omega)
      have ht1 := pen.seqT b1 ht
      have ha1 := pen.lst b1 ha
      have hc1 := pen.lst b1 hc
      have al1 := pen.al b1 ala
      have cl1 := pen.al b1 alc
      have lwa := ala.1
      have lwc := alc.1
      have zk : SzA 60 40 ks := fun j hj => F.kz hj
      have za' : SzA 1798 1606 as := fun j hj => (za _ (cf_mem hj)).sz
      refine ⟨_, rfl, t, _, _, _, rfl, rfl, ht1, rfl, la, rfl, ⟨_, SqL.of ha1⟩, fun D3 hD3 => ?_⟩
      have nD3p := pn1.newP hD3
      have nD3c := pn1.newC hD3
      refine lc_mapLP pn1 (SqL.of ha1) (by omega) hD3 nD3p (PassR K p c D3 (n + 200) 60 40 ks) (PassR.bears nD3c) ⟨pn1, AlA.nil, fun u h => by cases h⟩ ?_ ?_
      · rintro j y hy ac H2 Qk2 Z2 lac r2 b2 e2 kk2
        refine ⟨rfl, ?_⟩
        dsimp only [tYes]
        refine iteT ⟨_, rfl, _, rfl, ?_⟩
        exact pass_step (E := fun _ _ _ => False) pn1 al1 zk (by decide) (by decide) (by decide) (by decide) (by omega) hy r2 b2 e2 kk2
      · rintro ac3 H2 e3 lac3 ⟨pn2, aa2, hq2⟩ b2
        have aa2 : AlA K H2 ac3 62 42 (ks.take wa.length) := aa2
        rw [lwa, List.take_length] at aa2
        have pn2 : Pen H2 p c (n + 240) := pn2.more (by omega)
        have eD2 := pn1.lst b2 eD
        have pl2 := pn1.pls b2 pl1
        have ht2 := pn1.seqT b2 ht1
        have hc2 := pn1.lst b2 hc1
        have cl2 := pn1.al b2 cl1
        refine ⟨_, rfl, ?_⟩
        refine ⟨_, rfl, t, _, _, _, rfl, rfl, ht2, rfl, lc, rfl, ⟨_, SqL.of hc2⟩, fun D4 hD4 => ?_⟩
        have nD4p := pn2.newP hD4
        have nD4c := pn2.newC hD4
        refine lc_mapLP pn2 (SqL.of hc2) (by omega) hD4 nD4p (PassR K p c D4 (n + 240) 1798 1606 as) (PassR.bears nD4c) ⟨pn2, AlA.nil, fun u h => by cases h⟩ ?_ ?_
        · rintro j y hy ac H3 Qk2 Z2 lac r3 b3 e3' kk2
          refine ⟨rfl, ?_⟩
          dsimp only [tYes]
          refine iteT ⟨_, rfl, _, rfl, ?_⟩
          exact pass_step (E := fun _ _ _ => False) pn2 cl2 za' (by decide) (by decide) (by decide) (by decide) (by omega) hy r3 b3 e3' kk2
        · rintro ac4 H3 e4 lac4 ⟨pn3, aa3, hq3⟩ b3
          have aa3 : AlA K H3 ac4 1800 1608 (as.take wc.length) := aa3
          rw [lwc, List.take_length] at aa3
          have pn3 : Pen H3 p c (n + 300) := pn3.more (by omega)
          have eD3 := pn2.lst b3 eD2
          have pl3 := pn2.pls b3 pl2
          have e33 := pn2.lst b3 e3
          have aa23 := pn2.alA b3 aa2
          intro x dx nx ndx ne
          have s4 : Same H3 (upd (upd H3 dx (.own x)) x (.ins T.cB dx [])) := fun z u e => by
            rw [upd_ne (ne_of_none e nx), upd_ne (ne_of_none e ndx)]
            exact e
          have one := F.one
          have l3 : ac3.length ≤ 1000 := by omega
          have l4 : ac4.length ≤ 1000 := by omega
          have k2 : 2 ≤ ks.length := by omega
          refine ⟨x, dx, .ref D3, .ref D, .ref D4, H3, rfl, upd_same, s4, nx, .inr ⟨ks, ⟨D3, ac3, 62, 42, rfl, SqL.of e33, aa23, by decide, by decide, l3⟩, k2, ascB_true.mpr F.asc, .inr ⟨D, acc, ps, rfl, SqL.of eD3, pl3, by have := pl3.1; omega,
            .inr ⟨as, ⟨D4, ac4, 1800, 1608, rfl, SqL.of e4, aa3, by decide, by decide, l4⟩, las, fun H5 t1 t2 t3 w1 w3 b5 hx5 ht1' al1' ht2' pl5 ht3' al3' => ⟨rfl, ?_⟩⟩⟩⟩⟩
          have s5 : Same H3 H5 := sameOff s4 nx b5
          refine k _ H5 (pn3.same s5) (((b1.trans b2).trans b3).trans (But.ofSame s5)) ⟨x, dx, t1, t2, t3, w1, acc, w3, rfl, hx5, ht1'.seqT, al1', ht2', pl5, ht3'.seqT, al3'⟩ ⟨x, T.cB, dx, t1, .ref t2, .ref t3, w1, rfl, hx5, ht1'⟩
end
end Kz
set_option linter.all false
set_option maxRecDepth 100000
set_option maxHeartbeats 4000000
namespace Kz
open PySem PySem.Spec PyProof.Rows L2
theorem subU {G H : Hp} {R : Addr} {o : HO} (g : Same G H) (n : G R = none) : Same G (upd H R o) := fun b u e => by
  rw [upd_ne (ne_of_none e n)]
  exact g b u e
theorem sub_none {G H : Hp} {R : Addr} (g : Same G H) (n : H R = none) : G R = none := by
  cases e : G R with
  | none => rfl
  | some o => rw [g _ _ e] at n; cases n
/-- what a call that makes an object leaves -/
theorem make_same {H : Hp} {x dx C : Addr} (nx : H x = none) (ndx : H dx = none) : Same H (upd (upd H dx (.own x)) x (.ins C dx [])) := fun z u e => by
  rw [upd_ne (ne_of_none e nx), upd_ne (ne_of_none e ndx)]
  exact e
def fnD (ks : List Rat) (ps : List (List Rat)) (as : List Rat) : PyData := .tuple [pdR ks, .list (ps.map pdR), pdR as]
theorem LRR.dpAll {K : PySem.W.Frag} {H : Hp} : ∀ {vs : List V} {ps : List (List Rat)}, vs.length = ps.length → (∀ (i : Nat) (u : V) (p : List Rat), vs[i]? = some u → ps[i]? = some p → LR K H u p) → DpAll K H vs (ps.map pdR)
  | [], [], _, _ => .nil
  | [], _ :: _, e, _ => by cases e
  | _ :: _, [], e, _ => by cases e
  | v :: vs, p :: ps, e, h => by
    obtain ⟨l, ws, rfl, hl, al⟩ := h 0 v p rfl rfl
    exact .cons (.lst (SqL.of hl) al.dp) (LRR.dpAll (Nat.succ.inj e) fun i u q a b => h (i + 1) u q a b)
theorem FnV.dp {K : PySem.W.Frag} {H : Hp} {v : V} {ks as : List Rat} {ps : List (List Rat)} (h : FnV K H v ks ps as) : Dp K H v (fnD ks ps as) := by
  obtain ⟨t, a, b, c, rfl, ht, ⟨la, wa, rfl, ha, ala⟩, ⟨lb, wb, rfl, hb, lnb, alb⟩, ⟨lc, wc, rfl, hc, alc⟩⟩ := h
  exact .tup ht (.cons (.lst (SqL.of ha) ala.dp) (.cons (.lst (SqL.of hb) (LRR.dpAll lnb alb)) (.cons (.lst (SqL.of hc) alc.dp) .nil)))
theorem pdR_lay (qs : List Rat) : (pdR qs).canLay0 = true ∧ (pdR qs).depth ≤ 2 := by
  obtain ⟨h1, h2⟩ := pdQ_lay qs
  unfold pdR
  exact ⟨by simpa only [PyData.canLay0] using h1, by simp only [PyData.depth]; omega⟩
theorem fnD_shaped (ks : List Rat) (ps : List (List Rat)) (as : List Rat) : SeqAt.shaped (fnD ks ps as) = true := by
  obtain ⟨h1, h2⟩ := pdR_lay ks
  obtain ⟨h3, h4⟩ := pdR_lay as
  have h5 : (PyData.list (ps.map pdR)).canLay0 = true ∧ (PyData.list (ps.map pdR)).depth ≤ 61 := by
    have h : PyData.canLayAll0 (ps.map pdR) = true ∧ PyData.depthAll (ps.map pdR) ≤ 60 := by
      induction ps with
      | nil => exact ⟨rfl, by decide⟩
      | cons p ps ih =>
        obtain ⟨q1, q2⟩ := pdR_lay p
        refine ⟨?_, ?_⟩
        · simp only [List.map_cons, PyData.canLayAll0, q1, ih.1, Bool.and_self]
        · simp only [List.map_cons, PyData.depthAll]
          exact Nat.max_le.mpr ⟨by omega, ih.2⟩
    exact ⟨by simpa only [PyData.canLay0] using h.1, by simp only [PyData.depth]; omega⟩
  unfold SeqAt.shaped fnD
  have c1 : (PyData.tuple [pdR ks, .list (ps.map pdR), pdR as]).canLay0 = true := by
    have e : (PyData.tuple [pdR ks, .list (ps.map pdR), pdR as]).canLay0 = ((pdR ks).canLay0 && ((PyData.list (ps.map pdR)).canLay0 && ((pdR as).canLay0 && true))) := by simp only [PyData.canLay0, PyData.canLayAll0]
    rw [e, h1, h3, h5.1]
    rfl
  have c2 : (PyData.tuple [pdR ks, .list (ps.map pdR), pdR as]).depth ≤ 64 := by
    have e : (PyData.tuple [pdR ks, .list (ps.map pdR), pdR as]).depth = PyData.depthAll [pdR ks, .list (ps.map pdR), pdR as] + 1 := by simp only [PyData.depth]
    rw [e]
    simp only [PyData.depthAll]
    have := h5.2
    omega
  rw [c1, Bool.true_and]
  exact decide_eq_true c2
theorem eqvAll_rows (ps : List (List Rat)) : PyData.eqvAll (ps.map pdR) (ps.map pdR) = true := by
  induction ps with
  | nil => rfl
  | cons p ps ih =>
    have e : PyData.eqv (pdR p) (pdR p) = true := by
      show PyData.eqvAll (p.map pdQ) (p.map pdQ) = true
      rw [eqv_row, decide_eq_true rfl]
    simp only [List.map_cons, PyData.eqvAll, e, ih, Bool.and_self]
theorem fnD_eqv (ks : List Rat) (ps : List (List Rat)) (as : List Rat) : PyData.eqv (fnD ks ps as) (fnD ks ps as) = true := by
  have e : ∀ p, PyData.eqvAll (List.map pdQ p) (p.map pdQ) = true := fun p => by rw [eqv_row, decide_eq_true rfl]
  unfold fnD pdR
  simp only [PyData.eqv, PyData.eqvAll, e, Bool.and_true]
  exact eqvAll_rows ps
theorem call_listK {X : Cx} {K' : PySem.W.Frag} (e : X.K = K' := by rfl) : CallR X (.type "list") (fun xs H Q => ∃ p ys, xs = [.ref p] ∧ (SqL K' H p ys ∨ SqT K' H p ys) ∧ ∀ l, H l = none → Q (.ref l) (upd H l (.lst ys))) := by
  subst e
  exact call_list_of
theorem cl_self {p : Addr} {H : Hp} : Kz.cl p H p = none := by
  unfold Kz.cl
  rw [if_pos rfl]
theorem subB {p : Addr} {G H H' : Hp} (g : Same G H) (np : G p = none) (b : But p H H') : Same G H' := fun c o e => b c o (g c o e) (ne_of_none e np)
section
variable {K : PySem.W.Frag} {p c : Addr} {n : Nat} {H : Hp}
theorem Pen.cLrr {v : V} {ps : List (List Rat)} (pen : Pen H p c n) (h : LRR K H v ps) : LRR K (Kz.cl p H) v ps := by
  obtain ⟨l, vs, e, hl, m, al⟩ := h
  exact ⟨l, vs, e, pen.cHas hl (fun _ z => nomatch z) (fun _ z => nomatch z), m, fun i u q a d => pen.cLr (al i u q a d)⟩
theorem Pen.cFnv {v : V} {ks as : List Rat} {ps : List (List Rat)} (pen : Pen H p c n) (h : FnV K H v ks ps as) : FnV K (Kz.cl p H) v ks ps as := by
  obtain ⟨t, x, y, z, e, ht, h1, h2, h3⟩ := h
  exact ⟨t, x, y, z, e, pen.cT ht, pen.cLr h1, pen.cLrr h2, pen.cLr h3⟩
end
theorem lkBva {x y z : V} : (bF x y z).lookup ("value" : Str) = none := by
  have h1 : (("value" : Str) == ("knots" : Str)) = false := by decide +kernel
  have h2 : (("value" : Str) == ("polys" : Str)) = false := by decide +kernel
  have h3 : (("value" : Str) == ("at" : Str)) = false := by decide +kernel
  simp [bF, List.lookup, h1, h2, h3]
theorem PlQ.same {K : PySem.W.Frag} {H H' : Hp} {v : V} {ks : List Rat} {q : Rat} (s : Same H H') (h : PlQ K H v ks q) : PlQ K H' v ks q := by
  obtain ⟨n, m, a, r⟩ := h
  exact ⟨n, m, a.same s, r⟩
end Kz
set_option linter.all false
set_option maxRecDepth 100000
set_option maxHeartbeats 4000000
namespace Kz
open PySem PySem.Spec PyProof.Rows L2
abbrev sS (i : Nat) : Stmt := inClass (top 41) i
abbrev sT (i : Nat) : Stmt := inClass (top 42) i
/-! ### shares and told means -/
structure Tg (P : Program) (K : PySem.W.Frag) (mg : Str → Option Value) extends Tc P K mg where
  mSum : mg "sum" = none
  gap_of : Df K mg "gap_of" (top 16) ["bits"]
  sum_of : Df K mg "sum_of" (top 21) ["row"]
  whole_parts : Df K mg "are_whole_parts" (top 22) ["row"]
  jsums : Df K mg "joint_sums" (top 24) ["rows", "amounts"]
  jsum : Df K mg "joint_sum" (top 25) ["row", "amounts"]
  fU : Addr
  dU : FuncData
  iU : InitT K P "Unlike.__init__" sI6 cU fU dU
  bU : Binds K dU ["self", "what"] []
  nU1 : PySem.W.findIn K (.ref cU) "what" = some none
  ft : Addr
  ftd : FuncData
  ftF : FunD K "fits" "fits" (defArgs (top 52)) (defBody (top 52)) (defScope (top 52)) [V.non] [] ft ftd
  mgF : mg "fits" = some (.ref ft)
  cS : Addr
  mgS : mg "Share" = some (.ref cS)
  clS : Cls K cS
  nSh1 : NoAttr K cS "places"
  nSh2 : NoAttr K cS "parts"
  s_init : Dm K cS "__init__" "Share.__init__" (sS 0) ["self", "places", "parts"]
  mkS : Mk K cS s_init.f
  cT : Addr
  mgT : mg "Told" = some (.ref cT)
  clT : Cls K cT
  nTo1 : NoAttr K cT "function"
  nTo2 : NoAttr K cT "least"
  nTo3 : NoAttr K cT "most"
  t_init : Dm K cT "__init__" "Told.__init__" (sT 0) ["self", "function", "least", "most"]
  mkT : Mk K cT t_init.f
  are_parts : Df K mg "are_parts" (top 43) ["value", "many"]
  is_bk : Df K mg "is_bounded_kind" (top 44) ["function"]
  is_within : Df K mg "is_within" (top 45) ["share", "low", "high"]
  means_of : Df K mg "means_of" (top 46) ["share", "functions"]
  check_st : Df K mg "check_one_stretch" (top 47) ["functions"]
  funcs_of : Df K mg "functions_of" (top 48) ["rows"]
  gap_missed : Df K mg "gap_missed" (top 49) ["found", "rows"]
  check_pl : Df K mg "check_places" (top 50) ["share", "rows"]
  missed : Df K mg "missed" (top 51) ["share", "rows"]
  l_interval : Df K mg "_law_interval" (top 65) ["_law_pen_here", "_law_most"]
  l_fof : Df K mg "_law_f_of" (top 75) ["_law_told"]
  l_smean : Df K mg "_law_share_mean" (top 78) ["_law_given", "_law_f"]
  l_dshare : Df K mg "_law_drawn_share" (top 79) ["_law_pen_here", "_law_low", "_law_high", "_law_many"]
  l_mtold : Df K mg "_law_made_told" (top 80) ["_law_pen_here", "_law_row_here"]
  l_prow : Df K mg "_law_passed_row" (top 81) ["_law_pen_here", "_law_row_here"]
  l_mshare : Df K mg "_law_made_share" (top 82) ["_law_pen_here", "_law_share"]
  l_row : Df K mg "_law_row" (top 83) ["_law_pen_here", "_law_knots", "_law_share"]
theorem boot_sumK : bootBuiltins "sum" = some (.builtin "sum") := by decide +kernel
def sumR : List Rat → Rat
  | [] => 0
  | q :: qs => q + sumR qs
theorem sum_tops {L : Nat} : ∀ {qs : List Rat}, (∀ q ∈ qs, q.den ∣ L) → (((qs.map (topOf L)).sum : Int) : Rat) = sumR qs * (L : Rat)
  | [], _ => by show ((0 : Int) : Rat) = 0 * (L : Rat); rw [Rat.zero_mul]; rfl
  | q :: qs, h => by
    show ((topOf L q + (qs.map (topOf L)).sum : Int) : Rat) = (q + sumR qs) * (L : Rat)
    rw [Rat.intCast_add, topOf_eq (h q List.mem_cons_self), sum_tops fun r hr => h r (List.mem_cons_of_mem _ hr), Rat.add_mul]
theorem divInt_of {z : Int} {L : Nat} {q : Rat} (L0 : 0 < L) (h : (z : Rat) = q * (L : Rat)) : Rat.divInt z ((L : Nat) : Int) = q := by
  rw [Rat.divInt_eq_div, h, Rat.intCast_natCast]
  have n0 : (L : Rat) ≠ 0 := fun z => by have := Rat.natCast_eq_zero_iff.mp z; omega
  rw [Rat.div_def, Rat.mul_assoc, Rat.mul_inv_cancel _ n0, Rat.mul_one]
section
variable {P : Program} {w : World} {K : PySem.W.Frag} {mg : Str → Option Value} {base : Heap}
def spSumOf (K : PySem.W.Frag) : Sp := fun vs H Q _ => ∃ a us n m qs, vs = [.ref a] ∧ (SqL K H a us ∨ SqT K H a us) ∧ AlA K H us n m qs ∧ m ≤ 1000 ∧ n ≤ 100000 ∧ us.length ≤ 100 ∧ m * us.length + 2 ≤ 8000 ∧
  ∀ v H', Same H H' → RV K H' v (sumR qs) → Q v H'
abbrev nSog : List Str := ["row", "tops", "bottom"]
theorem sc21g : FnScope nSog ["row"] (defScope (top 21)) := ⟨rfl, rfl, rfl, by decide +kernel, rfl, by decide +kernel, by decide +kernel⟩
theorem ok_sumof (T : Tg P K mg) : FnOk P w K mg base CX0 6 T.sum_of.f T.sum_of.fd ["row"] (spSumOf K) := by
  have G1 : FnOk P w K mg base CX0 5 T.told_row.f T.told_row.fd ["row"] (spTrowN K) := ok_trowN T.toTb
  have G2 : FnOk P w K mg base CX0 1 T.over_one.f T.over_one.fd ["pairs"] (spOver K) := ok_over T.toTz
  have G3 : FnOk P w K mg base CX0 1 T.lowest.f T.lowest.fd ["top", "bottom"] (spLow K) := ok_low T.toTx
  refine T.sum_of.fn.ok sc21g (fun vs H Q E h => ?_) (fun cdv A outer s H vs Q E hr h => ?_)
  · obtain ⟨a, us, n, m, qs, rfl, _⟩ := h
    rfl
  · obtain ⟨a, us, n, m, qs, rfl, hs, al, m1, n1, len, ml, k⟩ := h
    have hr1 : Room 1 _ := hr.mono (by decide)
    refine ⟨_, pss_cons (ps_asg (T.over_one.c0 G2 hr1 (pa_cons (T.told_row.c0 G1 hr (pa_cons (pv 0) pa_nil)) pa_nil)) (pg_tup (by rfl) (pgs_cons (pg_name (i := 1) sc21g.nd rfl (.inl rfl)) (pgs_cons (pg_name (i := 2) sc21g.nd rfl (.inl rfl)) pgs_nil))))
      (pss_one (ps_ret (T.lowest.c0 G3 hr1 (pa_cons (pe_callB (cr_sum rfl) (by rfl) T.mSum boot_sumK (pa_cons (pv 1) pa_nil)) (pa_cons (pv 2) pa_nil))))), ?_⟩
    have lu := al.1
    have zq : SzA n m qs := fun i hi => (al.2 i _ _ (List.getElem?_eq_getElem (by omega)) (at_cf hi)).sz
    refine ⟨_, rfl, a, us, n, m, qs, rfl, hs, al, by omega, by omega, fun t H1 ws s1 ht aw => ?_⟩
    refine ⟨t, ws, qs, n, m, rfl, ht.seqT, aw, zq, by omega, by omega, by rw [← lu]; omega, by omega, fun p l H2 s2 hp hl _ => ?_⟩
    refine ⟨p, _, rfl, hp, rfl, _, _, rfl, _, _, rfl, rfl, ?_⟩
    have L0 := lcs_pos qs
    have Lb : lcs qs < 2 ^ 9000 := Nat.lt_of_lt_of_le (lcs_lt qs zq.mem) (pow_up (by rw [← lu]; omega))
    refine ⟨_, rfl, l, _, rfl, SqL.of hl, _, rfl, _, _, rfl, by exact_mod_cast L0, by simpa using Lb, fun v H3 s3 rv => ?_⟩
    have e : Rat.divInt (topsOf qs).sum ((lcs qs : Nat) : Int) = sumR qs := divInt_of L0 (sum_tops (lcs_dvd qs))
    rw [e] at rv
    exact k v H3 ((s1.trans s2).trans s3) rv
end
end Kz
set_option linter.all false
set_option maxRecDepth 100000
set_option maxHeartbeats 4000000
namespace Kz
open PySem PySem.Spec PyProof.Rows L2
def dotR : List Rat → List Rat → Rat
  | v :: vs, p :: ps => v * p + dotR vs ps
  | _, _ => 0
def tw (L M : Nat) (vs ps : List Rat) : List Int := List.zipWith (fun v p => topOf L v * topOf M p) vs ps
theorem sum_tw {L M : Nat} : ∀ {vs ps : List Rat}, (∀ q ∈ vs, q.den ∣ L) → (∀ q ∈ ps, q.den ∣ M) → (((tw L M vs ps).sum : Int) : Rat) = dotR vs ps * ((L * M : Nat) : Rat)
  | [], _, _, _ => by
    show ((0 : Int) : Rat) = (0 : Rat) * _
    rw [Rat.zero_mul]
    rfl
  | _ :: _, [], _, _ => by
    show ((0 : Int) : Rat) = (0 : Rat) * _
    rw [Rat.zero_mul]
    rfl
  | v :: vs, p :: ps, h, g => by
    show ((topOf L v * topOf M p + (tw L M vs ps).sum : Int) : Rat) = (v * p + dotR vs ps) * ((L * M : Nat) : Rat)
    rw [Rat.intCast_add, Rat.intCast_mul, topOf_eq (h v List.mem_cons_self), topOf_eq (g p List.mem_cons_self), sum_tw (fun r hr => h r (List.mem_cons_of_mem _ hr)) (fun r hr => g r (List.mem_cons_of_mem _ hr)), Rat.natCast_mul, Rat.add_mul]
    congr 1
    grind
theorem tw_len {L M : Nat} {vs ps : List Rat} (h : vs.length = ps.length) : (tw L M vs ps).length = vs.length := by
  unfold tw
  rw [List.length_zipWith]
  omega
theorem tw_at {L M : Nat} {vs ps : List Rat} {i : Nat} (h : i < vs.length) (g : i < ps.length) : (tw L M vs ps)[i]? = some (topOf L (cf vs i) * topOf M (cf ps i)) := by
  unfold tw
  rw [List.getElem?_zipWith, at_cf h, at_cf g]
theorem topOf_lt {n m k L : Nat} {q : Rat} (z : Sz n m q) (h : L < 2 ^ k) : (topOf L q).natAbs < 2 ^ (n + k) := by
  unfold topOf
  exact wide_lt z.1 (by
    have : (((L / q.den : Nat) : Int)).natAbs = L / q.den := rfl
    rw [this]
    exact Nat.lt_of_le_of_lt (Nat.div_le_self _ _) h)
section
variable {P : Program} {w : World} {K : PySem.W.Frag} {mg : Str → Option Value} {base : Heap}
def spOverL (K : PySem.W.Frag) : Sp := fun vs H Q _ => ∃ t ws qs n m, vs = [.ref t] ∧ SqL K H t ws ∧ Al K H ws qs ∧ SzA n m qs ∧ m ≤ 9000 ∧ qs.length ≤ 1000 ∧ m * qs.length + 2 ≤ 13000 ∧ n ≤ 400000 ∧
  ∀ p l H', Same H H' → SqT K H' p [.ref l, .int ((lcs qs : Nat) : Int)] → H' l = some (.lst ((topsOf qs).map V.int)) → H l = none → Q (.ref p) H'
theorem ok_overL (T : Tz P K mg) : FnOk P w K mg base CX0 1 T.over_one.f T.over_one.fd ["pairs"] (spOverL K) := by
  refine T.over_one.fn.ok sc28 (fun vs H Q E h => ?_) (fun cdv A outer s H vs Q E hr h => ?_)
  · obtain ⟨t, ws, qs, n, m, rfl, _⟩ := h
    rfl
  · obtain ⟨t, ws, qs, n, m, rfl, ht, al, zq, m9, len, lm, nn, q⟩ := h
    refine ⟨_, pss_cons (ps_set (i := 1) sc28.nd rfl (.inr rfl) pe_int)
      (pss_cons (ps_for PassesOwn.never rfl (pi_list (pv 0)) (pg_tup (by rfl) (pgs_cons (pg_name (i := 2) sc28.nd rfl (.inl rfl)) (pgs_cons (pg_name (i := 3) sc28.nd rfl (.inl rfl)) pgs_nil)))
        (pss_one (ps_set (i := 1) sc28.nd rfl (.inr rfl) (pe_callBfun cr_lcm (by rfl) T.mLcm (pa_cons (pv 1) (pa_cons (pv 3) pa_nil))))))
      (pss_one (ps_ret (pe_tup (pa_cons (pe_lc (own := [("top", 4), ("bottom", 3)]) (g := gTup K 2 (gCons (gName 4) (gCons (gName 3) gNil))) (tt := tYes) rfl sc28.nd (pi_list (pv 0)) (blkOk_by (own := [("top", 4), ("bottom", 3)]) (N := nOv) (sc := defScope (top 23)) (by decide +kernel))
        (fun _ _ _ _ _ => pg_tup (by rfl) (pgs_cons (pg_name (i := 4) sc28.nd rfl (Or.inl rfl)) (pgs_cons (pg_name (i := 3) sc28.nd rfl (Or.inl rfl)) pgs_nil))) (fun _ _ _ _ _ => pts_nil) (fun _ _ _ _ _ => pe_op op_mulW (pv 4) (pe_op op_fdivF (pv 1) (pv 3)))) (pa_cons (pv 1) pa_nil)))))), ?_⟩
    have lt2 : ∀ i, i ≤ qs.length → lcs (qs.take i) < 2 ^ 12999 := fun i hi => by
      have z : ∀ q ∈ qs.take i, Sz n m q := fun q hq => zq.mem q (List.mem_of_mem_take hq)
      refine Nat.lt_of_lt_of_le (lcs_lt _ z) (pow_up ?_)
      have : (qs.take i).length ≤ qs.length := by rw [List.length_take]; omega
      have := Nat.mul_le_mul_left m this
      omega
    refine ⟨_, rfl, t, rfl, ⟨_, ht⟩, for_list (K := K) (a := t) (xs := ws) (fun i σ H' => H' = H ∧ i ≤ ws.length ∧ ∃ v v', σ = [some (.ref t), some (.int ((lcs (qs.take i) : Nat) : Int)), v, v', none]) ⟨rfl, Nat.zero_le _, none, none, rfl⟩ (fun i σ H' _ ⟨e, _⟩ => e ▸ ht) ?_ ?_⟩
    · rintro i x σ H' hx ⟨rfl, le, v, v', rfl⟩
      have lt : i < ws.length := (List.getElem?_eq_some_iff.mp hx).1
      have ltq : i < qs.length := by rw [← al.1]; exact lt
      obtain ⟨t', rfl, ht'⟩ := al.2 i x _ hx (at_cf ltq)
      refine ⟨t', _, rfl, ht', rfl, _, _, rfl, _, _, rfl, rfl, ?_⟩
      have zi := (zq i ltq).2
      refine ⟨_, rfl, _, rfl, _, _, rfl, ?_, ?_, rfl, lt, some (.int (cf qs i).num), some (.int ((cf qs i).den : Int)), ?_⟩
      · exact Nat.lt_of_lt_of_le (lt2 i (by omega)) (pow_up (by decide))
      · exact Nat.lt_of_lt_of_le zi (pow_up (by omega))
      · rw [take_snoc (at_cf ltq), lcs_snoc]
        rfl
    · rintro σ H' ⟨rfl, _, v, v', rfl⟩
      rw [al.1, List.take_length]
      refine ⟨_, rfl, t, rfl, ⟨_, ht⟩, fun D hD => ?_⟩
      refine lc_mapL ht (by rw [al.1]; exact len) hD (fun i acc _ => acc = ((topsOf qs).take i).map V.int) bears_pure rfl ?_ ?_
      · intro i x hx acc H2 Qk Z l r s k
        have lt : i < ws.length := (List.getElem?_eq_some_iff.mp hx).1
        have ltq : i < qs.length := by rw [← al.1]; exact lt
        obtain ⟨t', rfl, ht'⟩ := (al.2 i x _ hx (at_cf ltq)).same s
        refine ⟨t', _, rfl, ht', rfl, _, _, rfl, _, _, rfl, rfl, rfl, ?_⟩
        dsimp only [tYes]
        have zi := zq i ltq
        have dv : (((lcs qs : Nat) : Int)).fdiv (((cf qs i).den : Nat) : Int) = ((lcs qs / (cf qs i).den : Nat) : Int) := by
          rw [Int.fdiv_eq_ediv_of_nonneg _ (Int.natCast_nonneg _), ← Int.natCast_ediv]
        have lL := lt2 qs.length (Nat.le_refl _)
        rw [List.take_length] at lL
        refine iteT ⟨_, rfl, _, rfl, _, rfl, _, _, rfl, rfl, cdivF (Int.ne_of_gt (den_pos' _)) (up_lt (den_abs zi) m9), _, _, rfl, rfl, ?_, k _ _ (Same.refl _) ?_⟩
        · rw [dv]
          refine cmulW zi.1 (b := 13000) ?_ (by omega)
          refine Nat.lt_of_le_of_lt (Nat.div_le_self _ _) (Nat.lt_of_lt_of_le lL (pow_up (by decide)))
        · show acc ++ [V.int ((cf qs i).num * _)] = ((topsOf qs).take (i + 1)).map V.int
          rw [dv, take_snoc (tops_get ltq), List.map_append, r]
          rfl
      · intro acc H2 hacc lacc r s
        have r' : acc = ((topsOf qs).take ws.length).map V.int := r
        have ln : (topsOf qs).length = qs.length := List.length_map _
        rw [al.1, ← ln, List.take_length] at r'
        subst r'
        refine ⟨_, rfl, (by show 2 ≤ sizeLine; decide), fun p hp => ?_⟩
        refine q p D _ (s.trans (Same.new hp)) (SqT.of upd_same) ?_ hD
        rw [upd_ne (ne_of_none hacc hp)]
        exact hacc

def spJs (K : PySem.W.Frag) : Sp := fun vs H Q _ => ∃ r l t us vals ws parts n m n' m', vs = [.ref r, .ref t] ∧ SqL K H r [.ref l] ∧ SqL K H l us ∧ Al K H us vals ∧ SzA n m vals ∧ SqT K H t ws ∧ Al K H ws parts ∧ SzA n' m' parts ∧ vals.length = parts.length ∧ vals.length ≤ 20 ∧
  m ≤ 1000 ∧ m' ≤ 1000 ∧ n ≤ 100000 ∧ n' ≤ 100000 ∧ m * vals.length + m' * vals.length + 2 ≤ 8000 ∧ ∀ p v H', Same H H' → H' p = some (.lst [v]) → RV K H' v (dotR vals parts) → Q (.ref p) H'
abbrev nJs : List Str := ["rows", "amounts", "factors", "below", "found", "row", "tops", "bottom", "top", "factor"]
theorem sc24g : FnScope nJs ["rows", "amounts"] (defScope (top 24)) := ⟨rfl, rfl, rfl, by decide +kernel, rfl, by decide +kernel, by decide +kernel⟩
theorem ok_jsums (T : Tg P K mg) : FnOk P w K mg base CX0 2 T.jsums.f T.jsums.fd ["rows", "amounts"] (spJs K) := by
  have G1 : FnOk P w K mg base CX0 1 T.over_one.f T.over_one.fd ["pairs"] (spOver K) := ok_over T.toTz
  have G2 : FnOk P w K mg base CX0 1 T.over_one.f T.over_one.fd ["pairs"] (spOverL K) := ok_overL T.toTz
  have G3 : FnOk P w K mg base CX0 1 T.lowest.f T.lowest.fd ["top", "bottom"] (spLow K) := ok_low T.toTx
  refine T.jsums.fn.ok sc24g (fun vs H Q E h => ?_) (fun cdv A outer s H vs Q E hr h => ?_)
  · obtain ⟨r, l, t, us, vals, ws, parts, n, m, n', m', rfl, _⟩ := h
    rfl
  · obtain ⟨r, l, t, us, vals, ws, parts, n, m, n', m', rfl, hr0, hl, al, zv, ht, aw, zp, len, l20, m1, m2, n1, n2, mm, k⟩ := h
    refine ⟨_, pss_cons (ps_asg (T.over_one.c0 G1 hr (pa_cons (pv 1) pa_nil)) (pg_tup (by rfl) (pgs_cons (pg_name (i := 2) sc24g.nd rfl (.inl rfl)) (pgs_cons (pg_name (i := 3) sc24g.nd rfl (.inl rfl)) pgs_nil))))
      (pss_cons (ps_set (i := 4) sc24g.nd rfl (.inl rfl) (pe_lst pa_nil))
      (pss_cons (ps_for PassesOwn.never rfl (pi_list (pv 0)) (pg_name (i := 5) sc24g.nd rfl (.inl rfl))
        (pss_cons (ps_asg (T.over_one.c0 G2 hr (pa_cons (pv 5) pa_nil)) (pg_tup (by rfl) (pgs_cons (pg_name (i := 6) sc24g.nd rfl (.inl rfl)) (pgs_cons (pg_name (i := 7) sc24g.nd rfl (.inl rfl)) pgs_nil))))
        (pss_one (ps_expr (pe_bm PySem.F.plainAttrs_list PySem.F.slot_list_append PySem.F.type_list_append mt_append (pv 4) (pa_cons (T.lowest.c0 G3 hr (pa_cons (pe_callB (cr_sum rfl) (by rfl) T.mSum boot_sumK (pa_cons
          (pe_lc (own := [("top", 8), ("factor", 9)]) (g := gTup K 2 (gCons (gName 8) (gCons (gName 9) gNil))) (tt := tYes) rfl sc24g.nd (pi_zip (by rfl) T.mZip (pa_cons (pv 6) (pa_cons (pv 2) pa_nil))) (blkOk_by (own := [("top", 8), ("factor", 9)]) (N := nJs) (sc := defScope (top 24)) (by decide +kernel))
            (fun _ _ _ _ _ => pg_tup (by rfl) (pgs_cons (pg_name (i := 8) sc24g.nd rfl (Or.inl rfl)) (pgs_cons (pg_name (i := 9) sc24g.nd rfl (Or.inl rfl)) pgs_nil))) (fun _ _ _ _ _ => pts_nil) (fun _ _ _ _ _ => pe_op op_mulW (pv 8) (pv 9))) pa_nil))
          (pa_cons (pe_op op_mulW (pv 7) (pv 3)) pa_nil))) pa_nil))))))
      (pss_one (ps_ret (pv 4))))), ?_⟩
    have Lp := lcs_pos parts
    have Lv := lcs_pos vals
    have bp : lcs parts < 2 ^ (m' * parts.length + 1) := lcs_lt parts zp.mem
    have bv : lcs vals < 2 ^ (m * vals.length + 1) := lcs_lt vals zv.mem
    refine ⟨_, rfl, t, ws, parts, n', m', rfl, ht, aw, zp, by omega, by omega, by rw [← len]; omega, by omega, fun p1 l1 H1 s1 hp1 hl1 _ => ?_⟩
    refine ⟨p1, _, rfl, hp1, rfl, _, _, rfl, _, _, rfl, rfl, ?_⟩
    refine ⟨(by show 0 ≤ sizeLine; decide), fun g ng => ?_⟩
    have s2 := Same.new (o := (HO.lst [])) ng
    have e2 : upd H1 g (HO.lst []) g = some (HO.lst []) := upd_same
    generalize upd H1 g (HO.lst []) = H2 at s2 e2 ⊢
    have s02 := s1.trans s2
    have hl1' := s2 _ _ hl1
    have nl1 := ne_of_none hl1 ng
    refine ⟨_, rfl, r, rfl, ⟨_, Same.seq s02 hr0⟩, ?_⟩
    refine for_list (K := K) (a := r) (xs := [.ref l]) (fun j σ H' => ∃ v5 v6 v7, σ = [some (.ref r), some (.ref t), some (.ref l1), some (.int ((lcs parts : Nat) : Int)), some (.ref g), v5, v6, v7, none, none] ∧ Same H H' ∧
        ((j = 0 ∧ H' g = some (.lst []) ∧ Same H1 H') ∨ (0 < j ∧ ∃ v, H' g = some (.lst [v]) ∧ RV K H' v (dotR vals parts)))) ⟨_, _, _, rfl, s02, .inl ⟨rfl, e2, s2⟩⟩ (fun j σ H' _ ⟨_, _, _, _, s, _⟩ => Same.seq s hr0) ?_ ?_
    · rintro j x σ H3 hx ⟨v5, v6, v7, rfl, s3, hj⟩
      match j, hx, hj with
      | j + 1, hx, _ => cases hx
      | 0, hx, .inr ⟨z, _⟩ => exact absurd z (Nat.lt_irrefl 0)
      | 0, hx, .inl ⟨_, hg, s13⟩ =>
        cases hx
        refine ⟨_, rfl, l, us, vals, n, m, rfl, Same.seq s3 hl, al.same s3, zv, by omega, by omega, by omega, by omega, fun p4 l4 H4 s4 hp4 hl4 _ => ?_⟩
        refine ⟨p4, _, rfl, hp4, rfl, _, _, rfl, _, _, rfl, rfl, ?_⟩
        have s04 := s3.trans s4
        have hl14 := (s13.trans s4) _ _ hl1
        refine ⟨_, rfl, .inl ⟨rfl, _, SqL.of (s4 _ _ hg)⟩, _, rfl, _, rfl, ?_⟩
        have lt1 : (topsOf vals).length = vals.length := List.length_map _
        have lt2 : (topsOf parts).length = parts.length := List.length_map _
        refine ⟨l4, l1, _, _, rfl, SqL.of hl4, SqL.of hl14, fun D hD => ?_⟩
        refine lc_mapZ (SqL.of hl4) (SqL.of hl14) (by rw [List.length_map, List.length_map, lt1, lt2, len]) (by rw [List.length_map, lt1]; omega) hD (fun i acc _ => acc = ((tw (lcs vals) (lcs parts) vals parts).take i).map V.int) bears_pure rfl ?_ ?_
        · rintro i x y hx hy acc H5 Qk Z tt lac eacc s5 ntt kk
          have li : i < vals.length := by
            have := (List.getElem?_eq_some_iff.mp hx).1
            rw [List.length_map, lt1] at this
            exact this
          have lj : i < parts.length := by omega
          rw [List.getElem?_map, tops_get li] at hx
          rw [List.getElem?_map, tops_get lj] at hy
          cases hx
          cases hy
          have s6 := Same.new (o := .tup [.int (topOf (lcs vals) (cf vals i)), .int (topOf (lcs parts) (cf parts i))]) ntt
          refine ⟨tt, _, rfl, SqT.of upd_same, rfl, _, _, rfl, _, _, rfl, rfl, rfl, ?_⟩
          dsimp only [tYes]
          refine iteT ⟨_, rfl, _, rfl, _, _, rfl, rfl, cmulW (topOf_lt (zv i li) bv) (topOf_lt (zp i lj) bp) (by rw [← len]; omega), kk _ _ s6 ?_⟩
          show acc ++ [V.int (topOf (lcs vals) (cf vals i) * topOf (lcs parts) (cf parts i))] = ((tw (lcs vals) (lcs parts) vals parts).take (i + 1)).map V.int
          rw [take_snoc (tw_at li lj), List.map_append, eacc]
          rfl
        · rintro acc H5 hacc lacc eacc s5
          have eacc : acc = ((tw (lcs vals) (lcs parts) vals parts).take ((topsOf vals).map V.int).length).map V.int := eacc
          rw [List.length_map, lt1, ← tw_len (L := lcs vals) (M := lcs parts) len, List.take_length] at eacc
          subst eacc
          refine ⟨D, _, rfl, SqL.of hacc, _, rfl, _, rfl, _, _, rfl, rfl, cmulW (by simpa using bv) (by simpa using bp) (by rw [← len]; omega), _, _, rfl, by exact_mod_cast Nat.mul_pos Lv Lp, ?_, fun v H6 s6 rv => ?_⟩
          · have := wide_lt (i := ((lcs vals : Nat) : Int)) (j := ((lcs parts : Nat) : Int)) (by simpa using bv) (by simpa using bp)
            exact Nat.lt_of_lt_of_le this (pow_up (by rw [← len]; omega))
          have e : Rat.divInt (tw (lcs vals) (lcs parts) vals parts).sum (((lcs vals : Nat) : Int) * ((lcs parts : Nat) : Int)) = dotR vals parts := by
            have := divInt_of (Nat.mul_pos Lv Lp) (sum_tw (lcs_dvd vals) (lcs_dvd parts))
            exact this
          rw [e] at rv
          have hg6 := (s4.trans (s5.trans s6)) _ _ hg
          have bg : But g H6 (upd H6 g (.lst ([] ++ [v]))) := But.refl.set
          refine ⟨g, [], v, rfl, rfl, hg6, (by show 0 < sizeLine; decide), _, _, _, rfl, fun c o e => ?_, .inr ⟨Nat.one_pos, v, upd_same, RV.bear hg6 bg rv⟩⟩
          exact bg _ _ ((s04.trans (s5.trans s6)) _ _ e) (ne_of_none (s1 _ _ e) ng)
    · rintro σ H3 ⟨v5, v6, v7, rfl, s3, hj⟩
      rcases hj with ⟨z, _⟩ | ⟨_, v, hg, rv⟩
      · cases z
      · exact ⟨_, rfl, k g v H3 s3 hg rv⟩
end
end Kz
set_option linter.all false
set_option maxRecDepth 100000
set_option maxHeartbeats 4000000
namespace Kz
open PySem PySem.Spec PyProof.Rows L2
/-! ### zip of a list with a tuple -/
def ItzM (K : PySem.W.Frag) (a b : Addr) : It where
  go i H := ∃ (xs ys : List V) (x y : V), SqL K H a xs ∧ SqT K H b ys ∧ xs[i]? = some x ∧ ys[i]? = some y
  yld i H v H' := ∃ (p : Addr) (x y : V), v = .ref p ∧ H p = none ∧ H' = upd H p (.tup [x, y]) ∧ (∀ xs, SqL K H a xs → xs[i]? = some x) ∧ ∀ ys, SqT K H b ys → ys[i]? = some y
  stop i H := ∃ xs ys : List V, SqL K H a xs ∧ SqT K H b ys ∧ xs.length = i ∧ ys.length = i
def TnM (z TI TO i1 i2 a b : Addr) (i : Nat) (h : Heap) : Prop := IsZip h z TI TO .none ∧ IsTupOf2 h TI (.ref i1) (.ref i2) ∧ (∃ x y, IsTupOf2 h TO x y) ∧ h.IsListIter i1 a i ∧ h.IsTupleIter i2 b i
theorem TnM.lt {z TI TO i1 i2 a b c : Addr} {i : Nat} {h : Heap} (t : TnM z TI TO i1 i2 a b i h) (m : c ∈ [z, TI, TO, i1, i2]) : ∃ o, h.get? c = some o ∧ ∀ v, o.data ≠ .cell v := by
  obtain ⟨q1, q2, ⟨x, y, q3⟩, ⟨o4, q4, _, d4⟩, ⟨o5, q5, _, d5⟩⟩ := t
  simp only [List.mem_cons, List.not_mem_nil, or_false] at m
  rcases m with e | e | e | e | e
  · exact ⟨_, e ▸ q1, fun v n => by cases n⟩
  · exact ⟨_, e ▸ q2, fun v n => by cases n⟩
  · exact ⟨_, e ▸ q3, fun v n => by cases n⟩
  · exact ⟨o4, e ▸ q4, fun v n => by rw [d4] at n; cases n⟩
  · exact ⟨o5, e ▸ q5, fun v n => by rw [d5] at n; cases n⟩
theorem wr_sub {z TI TO i1 i2 c : Addr} (m : c ∈ [z, TO, i1, i2]) : c ∈ [z, TI, TO, i1, i2] := by
  simp only [List.mem_cons, List.not_mem_nil, or_false] at m ⊢
  rcases m with e | e | e | e
  · exact .inl e
  · exact .inr (.inr (.inl e))
  · exact .inr (.inr (.inr (.inl e)))
  · exact .inr (.inr (.inr (.inr e)))
theorem turn_zipM {P : Program} {w : World} {K : PySem.W.Frag} {elts : List Expr} {kk : Nat} {tpos : Pos} {a b z TI TO i1 i2 : Addr} (S : ZipSep2 z TI TO i1 i2 [i1, a] [i2, b]) (na : a ≠ i1) (nb : b ≠ i2) :
    Turn P w K (.Tuple elts kk tpos) (ItzM K a b) [z, TI, TO, i1, i2] z (TnM z TI TO i1 i2 a b) where
  mem := List.mem_cons_self
  obj _ _ t _ m := t.lt m
  keep i h h' t k := by
    obtain ⟨q1, q2, ⟨x, y, q3⟩, q4, q5⟩ := t
    exact ⟨k z (by simp) _ q1, k TI (by simp) _ q2, ⟨x, y, k TO (by simp) _ q3⟩, q4.at (k i1 (by simp)), q5.at (k i2 (by simp))⟩
  self A i s Q E t h := wpAny_pyIter_zip t.1 h
  item := by
    intro X hP hw hK hc i pins s σ H E I hf t g
    cases hP
    cases hw
    cases hK
    obtain ⟨xs, ys, x, y, qa, qb, ex, ey⟩ := g
    obtain ⟨us, ra, pa', _⟩ := I.list qa
    obtain ⟨vs, rb, pb, _⟩ := I.tuple qb
    obtain ⟨u, eu, ru⟩ := ra.get ex
    obtain ⟨v, ev, rv⟩ := rb.get ey
    have hd : X.A.handled = none := I.ok.hd hc
    have W := WalksT.zipD2 (prog := X.prog) (w := X.w) (A := X.A) S (Draws.list (A := X.A.in1) hd i1 a na us.toArray) (Draws.tuple (A := X.A.in1) hd i2 b nb vs.toArray)
    have lu : i < us.toArray.size := by have := (List.getElem?_eq_some_iff.mp eu).1; simpa using this
    have lv : i < vs.toArray.size := by have := (List.getElem?_eq_some_iff.mp ev).1; simpa using this
    refine W.item i s _ _ (Nat.lt_min.mpr ⟨lu, lv⟩) ⟨t.1, t.2.1, t.2.2.1, ⟨t.2.2.2.1, pa'.isList⟩, ⟨t.2.2.2.2, pb⟩⟩ fun T vals h' tk hp new hT mid k' => ?_
    obtain ⟨x1, x2, e1, e2, rfl⟩ := hp
    have f1 : x1 = u := by
      have : us[i]? = some x1 := by simpa using e1
      rw [eu] at this
      exact (Option.some.inj this).symm
    have f2 : x2 = v := by
      have : vs[i]? = some x2 := by simpa using e2
      rw [ev] at this
      exact (Option.some.inj this).symm
    subst f1 f2
    refine ⟨.ref T, rfl, W.go elts kk tpos i T { s with heap := h', toks := tk } _ _ mid fun h2 st2 k2 => ?_⟩
    have hT2 : h2.IsTuple T #[x1, x2] := hT.at (k2 T · (W.apart i T h' mid))
    have hn : H T = none := I.hok.fresh new
    have lt : ∀ c ∈ [z, TI, TO, i1, i2], c ≠ T := fun c m => by
      obtain ⟨o, e, _⟩ := t.lt m
      exact Nat.ne_of_lt (Nat.lt_of_lt_of_le (Heap.lt_size e) new)
    obtain ⟨oT, eT, cT, nT, dT⟩ := hT2
    refine ⟨.ref T, upd H T (.tup [x, y]), I.turnedNew (ch := [z, TI, TO, i1, i2]) (fun c o m e => k2 c o (fun r => m (wr_sub r)) (k' c o (fun r => m (wr_sub r)) e)) hf new ⟨(by show 2 ≤ sizeLine; decide), [x1, x2], .cons ru (.cons rv .nil), ⟨oT, eT, cT, nT, dT⟩⟩, rfl,
      ⟨T, x, y, rfl, hn, rfl, fun l q => by rw [I.list_inj q qa]; exact ex, fun l q => by rw [I.tuple_inj q qb]; exact ey⟩, ⟨st2.1, st2.2.1, st2.2.2.1, st2.2.2.2.1.1, st2.2.2.2.2.1⟩, fun c m => ?_⟩
    rw [upd_ne (lt c m)]
    exact (hf c m).1
  done := by
    intro X hP hw hK hc i pins s σ H E I hf t g
    cases hP
    cases hw
    cases hK
    obtain ⟨xs, ys, qa, qb, l1, l2⟩ := g
    obtain ⟨us, ra, pa', _⟩ := I.list qa
    obtain ⟨vs, rb, pb, _⟩ := I.tuple qb
    have hd : X.A.handled = none := I.ok.hd hc
    have m1 : us.toArray.size = i := by have := ra.length; simp only [List.size_toArray]; omega
    have m2 : vs.toArray.size = i := by have := rb.length; simp only [List.size_toArray]; omega
    obtain ⟨x, y, q3⟩ := t.2.2.1
    refine wpAny_pyNext_zipD2_end S (Draws.list (A := X.A.in1) hd i1 a na us.toArray) (Draws.tuple (A := X.A.in1) hd i2 b nb vs.toArray) t.1 t.2.1 q3 ⟨t.2.2.2.1, pa'.isList⟩ ⟨t.2.2.2.2, pb⟩ (Nat.le_of_eq m1.symm) (Nat.le_of_eq m2.symm) (.inl m1.symm) fun h' tk k' => ?_
    exact ⟨rfl, I.turnedL (ch := [z, TI, TO, i1, i2]) (fun c o m e => k' c o (fun r => m (by rw [r]; simp)) (fun r => m (by rw [r]; simp)) (fun r => m (by rw [r]; simp)) (fun r => m (by rw [r]; simp)) e) hf⟩
def iZipM (K : PySem.W.Frag) (ta : TA) : TI := fun σ H R => ta σ H fun vs H1 => ∃ a b xs ys, vs = [.ref a, .ref b] ∧ SqL K H1 a xs ∧ ((SqL K H1 b ys ∧ R (Itz K a b) H1) ∨ (SqT K H1 b ys ∧ R (ItzM K a b) H1))
theorem zfive {N c : Nat} (m : c ∈ [N + 4, N + 2, N + 3, N, N + 1]) : N ≤ c := by
  simp only [List.mem_cons, List.not_mem_nil, or_false] at m
  omega
theorem pi_zipM {X : Cx} {e e2 : Expr} {ta : TA} {p pos tpos : Pos} {elts : List Expr} {kk : Nat} (hg : Gl X "zip") (hm : X.mg "zip" = none) (ha : PA X [e, e2] ta)
    (hs : starEach [e, e2] X.env = (false, eval e X.env) :: starEach [e2] X.env := by rfl) (hpl : (backTo pos (starEach [e2] X.env)).any (·.1) = false := by rfl) :
    PI X (.Tuple elts kk tpos) (.Call (.Name "zip" p) [e, e2] [] pos) (iZipM X.K ta) where
  run pins s σ H R I h := by
    refine Call_ (ld_blt I hg hm PyProof.Rows.boot_zip (PyProof.Rows.callWith_type1 (thn (ha.run pos pins s σ H _ I h) ?_) hs hpl))
    rintro us s1 ⟨_, H1, I1, r1, a, b, xs, ys, rfl, qa, q⟩
    match us, r1 with
    | [_, _], .cons ra (.cons rb .nil) =>
      cases ra
      cases rb
      obtain ⟨ia, va, pa', _⟩ := I1.list qa
      have fr : ∀ c ∈ [s1.heap.objs.size + 4, s1.heap.objs.size + 2, s1.heap.objs.size + 3, s1.heap.objs.size, s1.heap.objs.size + 1], FpOk X pins H1 c := fun c m => I1.fpOk (zfive m) (I1.hok.fresh (zfive m))
      rcases q with ⟨qb, k⟩ | ⟨qb, k⟩
      · obtain ⟨ib, vb, pb, _⟩ := I1.list qb
        refine call_zip_2 pa'.isList pb.isList fun h' z1 z2 z3 z4 z5 _ hk => wpAny_pyIter_zip z1 ?_
        exact ⟨_, _, _, _, H1, rfl, I1.kept (t' := s1.toks) hk, turn_zip (PySem.W.ktu_apart s1.heap.objs.size a b pa'.lt pb.lt), ⟨z1, z2, ⟨_, _, z3⟩, z4, z5⟩, fr, k⟩
      · obtain ⟨ib, vb, pb, _⟩ := I1.tuple qb
        obtain ⟨ob, eb, _⟩ := id pb
        have lb : b < s1.heap.objs.size := Heap.lt_size eb
        refine zip_begins2 (begins_list a ia.toArray) (begins_tuple b ib.toArray) pa'.isList pb fun h' z1 z2 z3 z4 z5 _ hk => wpAny_pyIter_zip z1 ?_
        have S := zip_sep2 (N := s1.heap.objs.size) (fp1 := [a]) (fp2 := [b]) (fun c m => by rw [List.mem_singleton.mp m]; exact pa'.lt) (fun c m => by rw [List.mem_singleton.mp m]; exact lb)
        exact ⟨_, _, _, _, H1, rfl, I1.kept (t' := s1.toks) hk, turn_zipM S (Nat.ne_of_lt pa'.lt) (Nat.ne_of_lt (Nat.lt_succ_of_lt lb)), ⟨z1, z2, ⟨_, _, z3⟩, ⟨_, z4, rfl, rfl⟩, ⟨_, z5, rfl, rfl⟩⟩, fr, k⟩
/-- a loop over zip of a list and of a list or a tuple, both of one length -/
theorem for_zipM {K : PySem.W.Frag} {a b : Addr} {xs ys : List V} {g : TG} {tb : TS} {D : Ends} {σ : L2.St} {H : Hp} (hl : xs.length = ys.length) (Pv : Nat → L2.St → Hp → Prop) (h0 : Pv 0 σ H) (hq : ∀ i σ H, Pv i σ H → SqL K H a xs ∧ SqT K H b ys)
    (hs : ∀ (i : Nat) (x y : V) (p : Addr) (σ : L2.St) (H : Hp), xs[i]? = some x → ys[i]? = some y → Pv i σ H → H p = none → g (.ref p) σ (upd H p (.tup [x, y])) fun σ2 H2 => tb { D with nx := Pv (i + 1), ct := Pv (i + 1), bk := D.nx } σ2 H2) (hd : ∀ σ H, Pv xs.length σ H → D.nx σ H) :
    ∃ W : Nat → Nat → L2.St → Hp → Prop, (∃ m, W 0 m σ H) ∧ ∀ i m σ H, W i m σ H →
      ((ItzM K a b).stop i H ∧ D.nx σ H) ∨ ((ItzM K a b).go i H ∧ ∃ N : L2.St → Hp → Prop, (∀ σ' H', N σ' H' → ∃ m', m' < m ∧ W (i + 1) m' σ' H') ∧ ∀ v H', (ItzM K a b).yld i H v H' → g v σ H' fun σ2 H2 => tb { D with nx := N, ct := N, bk := D.nx } σ2 H2) := by
  refine ⟨fun i m σ H => m + i = xs.length ∧ Pv i σ H, ⟨xs.length, rfl, h0⟩, ?_⟩
  intro i m σ H ⟨em, p⟩
  have q := hq i σ H p
  match m, em with
  | 0, em =>
    have e : xs.length = i := by omega
    exact .inl ⟨⟨xs, ys, q.1, q.2, e, by omega⟩, hd σ H (e.symm ▸ p)⟩
  | m + 1, em =>
    have lx : i < xs.length := by omega
    have ly : i < ys.length := by omega
    refine .inr ⟨⟨xs, ys, _, _, q.1, q.2, List.getElem?_eq_getElem lx, List.getElem?_eq_getElem ly⟩, Pv (i + 1), fun σ' H' p' => ⟨m, Nat.lt_succ_self m, by omega, p'⟩, ?_⟩
    rintro v H' ⟨c, x, y, rfl, n, rfl, f1, f2⟩
    exact hs i x y c σ H (f1 _ q.1) (f2 _ q.2) p n
end Kz
set_option linter.all false
set_option maxRecDepth 100000
set_option maxHeartbeats 4000000
namespace Kz
open PySem PySem.Spec PyProof.Rows L2
/-- a comprehension over two tuples, the second one the shorter -/
theorem lc_mapV {K : PySem.W.Frag} {a b : Addr} {xs ys : List V} {g : TG} {te : TE} {vs : List Nat} {σ : L2.St} {H1 : Hp} {D : Addr} {Qd : Hp → Prop} (hx : SqT K H1 a xs) (hy : SqT K H1 b ys) (le : ys.length ≤ xs.length) (len : xs.length ≤ 1000) (hD : H1 D = none)
    (R : Nat → List V → Hp → Prop) (br : Bears D R) (h0 : R 0 [] H1)
    (step : ∀ (i : Nat) (x y : V), xs[i]? = some x → ys[i]? = some y → ∀ (acc : List V) (H' : Hp) (Qk : VK) (Z : Hp → Prop) (T : Addr), acc.length = i → R i acc H' → Same H1 H' → H' T = none → (∀ u H4, Same H' H4 → R (i + 1) (acc ++ [u]) H4 → Qk u H4) →
      g (.ref T) (wipe σ vs) (upd H' T (.tup [x, y])) fun σ2 H2 => wipe σ2 vs = wipe σ vs ∧ tYes σ2 H2 fun b H3 => if b = true then te σ2 H3 Qk else Z H3)
    (fin : ∀ acc H', H' D = some (.lst acc) → acc.length = ys.length → R ys.length acc H' → Same H1 H' → Qd H') : ∃ W : Nat → Nat → Hp → Prop, (∃ m, W 0 m (upd H1 D (.lst []))) ∧ ∀ i m H, W i m H →
      ((RZ.ItzT K a b).stop i H ∧ Qd H) ∨ ((RZ.ItzT K a b).go i H ∧ ∃ Nx : Hp → Prop, (∀ H', Nx H' → ∃ m', m' < m ∧ W (i + 1) m' H') ∧ ∀ x H', (RZ.ItzT K a b).yld i H x H' → g x (wipe σ vs) H' fun σ2 H2 => wipe σ2 vs = wipe σ vs ∧ tYes σ2 H2 fun b H3 =>
        if b = true then te σ2 H3 fun y H4 => ∃ acc, H4 D = some (.lst acc) ∧ acc.length < sizeLine ∧ Nx (upd H4 D (.lst (acc ++ [y]))) else Nx H3) := by
  refine ⟨fun i m H => m = ys.length - i ∧ i ≤ ys.length ∧ ∃ acc, H D = some (.lst acc) ∧ acc.length = i ∧ R i acc H ∧ Same H1 H, ⟨_, rfl, Nat.zero_le _, [], upd_same, rfl, br _ _ _ _ (fun o e => by rw [hD] at e; cases e) But.refl.set h0, Same.new hD⟩, ?_⟩
  rintro i m H ⟨rfl, hi, acc, e, l, r, s⟩
  have sx := Kz.Same.seqT s hx
  have sy := Kz.Same.seqT s hy
  rcases Nat.lt_or_ge i ys.length with lty | ge
  · right
    have lt : i < xs.length := by omega
    refine ⟨⟨xs, ys, _, _, sx, sy, List.getElem?_eq_getElem lt, List.getElem?_eq_getElem lty⟩, fun H' => i + 1 ≤ ys.length ∧ ∃ acc, H' D = some (.lst acc) ∧ acc.length = i + 1 ∧ R (i + 1) acc H' ∧ Same H1 H', fun H' p => ⟨_, by omega, rfl, p⟩, ?_⟩
    rintro v H' ⟨T, x, y, rfl, nT, rfl, fx, fy⟩
    refine step i x y (fx xs sx) (fy ys sy) acc H _ _ T l r s nT fun u H4 s4 r4 => ⟨acc, s4 _ _ e, le1000 (by omega), lty, acc ++ [u], upd_same, by simp [l], br _ _ _ _ (fun o e4 => ?_) But.refl.set r4, fun c o ec => ?_⟩
    · rw [s4 _ _ e] at e4
      cases e4
      exact ⟨_, rfl⟩
    · rw [upd_ne (ne_of_none ec hD)]
      exact s4 _ _ (s _ _ ec)
  · left
    have ei : i = ys.length := by omega
    subst ei
    exact ⟨⟨xs, ys, sx, sy, .inr (Nat.le_refl _)⟩, fin acc H e l r s⟩
/-- a list or a tuple of ratios, passed -/
def Rw (K : PySem.W.Frag) (H : Hp) (v : V) (qs : List Rat) : Prop := ∃ a us n m, v = .ref a ∧ (SqL K H a us ∨ SqT K H a us) ∧ AlA K H us n m qs ∧ n ≤ 2000 ∧ m ≤ 100 ∧ us.length ≤ 20
theorem Sq.same2 {K : PySem.W.Frag} {H H' : Hp} {a : Addr} {us : List V} (s : Same H H') (h : SqL K H a us ∨ SqT K H a us) : SqL K H' a us ∨ SqT K H' a us := h.imp (Same.seq s) (Kz.Same.seqT s)
theorem Rw.same {K : PySem.W.Frag} {H H' : Hp} {v : V} {qs : List Rat} (s : Same H H') (h : Rw K H v qs) : Rw K H' v qs := by
  obtain ⟨a, us, n, m, e, hs, al, r⟩ := h
  exact ⟨a, us, n, m, e, Sq.same2 s hs, al.same s, r⟩
theorem Rw.row {K : PySem.W.Frag} {H : Hp} {v : V} {qs : List Rat} {Q : VK} {E : XK} (h : Rw K H v qs) (k : ∀ H', Same H H' → Q (.bl true) H') : spRow K [v] H Q E := by
  obtain ⟨a, us, n, m, rfl, hs, al, n4, m4, len⟩ := h
  have rbs : RBs K H us (List.replicate us.length true) := ⟨List.length_replicate, fun i u b e1 e2 => by
    have lt : i < us.length := (List.getElem?_eq_some_iff.mp e1).1
    rw [List.getElem?_replicate, if_pos lt] at e2
    cases e2
    exact (al.2 i u _ e1 (at_cf (by rw [← al.1]; exact lt))).rb⟩
  have all1 : (List.replicate us.length true).all id = true := by simp
  exact ⟨.ref a, rfl, .inr ⟨a, us, _, rfl, hs, by omega, rbs, fun H' s => by rw [all1]; exact k H' s⟩⟩
theorem Rw.len {K : PySem.W.Frag} {H : Hp} {v : V} {qs : List Rat} (h : Rw K H v qs) : ∃ a us, v = .ref a ∧ (SqL K H a us ∨ SqT K H a us) ∧ us.length = qs.length ∧ us.length ≤ 20 := by
  obtain ⟨a, us, n, m, rfl, hs, al, n4, m4, len⟩ := h
  exact ⟨a, us, rfl, hs, al.1, len⟩
theorem Rw.told {K : PySem.W.Frag} {H : Hp} {v : V} {qs : List Rat} {Q : VK} {E : XK} (h : Rw K H v qs) (k : ∀ t H' ws, Same H H' → TpN H' t ws → Al K H' ws qs → Q (.ref t) H') : spTrowN K [v] H Q E := by
  obtain ⟨a, us, n, m, rfl, hs, al, n4, m4, len⟩ := h
  exact ⟨a, us, n, m, qs, rfl, hs, al, by omega, by omega, k⟩
theorem Rw.sum {K : PySem.W.Frag} {H : Hp} {v : V} {qs : List Rat} {Q : VK} {E : XK} (h : Rw K H v qs) (k : ∀ v' H', Same H H' → RV K H' v' (sumR qs) → Q v' H') : spSumOf K [v] H Q E := by
  obtain ⟨a, us, n, m, rfl, hs, al, n4, m4, len⟩ := h
  refine ⟨a, us, n, m, qs, rfl, hs, al, by omega, by omega, by omega, ?_, k⟩
  have := Nat.mul_le_mul m4 len
  omega
section
variable {P : Program} {w : World} {K : PySem.W.Frag} {mg : Str → Option Value} {base : Heap}
def spAscR (K : PySem.W.Frag) : Sp := fun vs H Q _ => ∃ v qs, vs = [v] ∧ Rw K H v qs ∧ 0 < qs.length ∧ ∀ H', Same H H' → Q (.bl (ascB qs)) H'
theorem ok_ascR (T : Tb P K mg) : FnOk P w K mg base CX0 6 T.ascends.f T.ascends.fd ["row"] (spAscR K) := by
  have G : FnOk P w K mg base (CX P w) 5 T.lower.f T.lower.fd ["one", "other"] (spTwo K T.cN cBin (fun _ v q r => v = .bl (decide (q < r)))) := ok_lower T.toTx
  refine T.ascends.fn.ok sc19k (fun vs H Q E h => ?_) (fun cdv A outer s H vs Q E hr h => ?_)
  · obtain ⟨v, qs, rfl, _⟩ := h
    rfl
  · obtain ⟨v, qs, rfl, ⟨a, us, n, m, rfl, hs, al, n4, m4, len⟩, pos, k⟩ := h
    refine ⟨_, pss_one (ps_ret (pe_callB (cr_all rfl) (by rfl) T.mAll boot_all (pa_cons (pe_lc (own := [("one", 1), ("other", 2)]) (g := gTup K 2 (gCons (gName 1) (gCons (gName 2) gNil))) (tt := tYes) rfl sc19k.nd (pi_or (pi_zip (by rfl) T.mZip (pa_cons (pv 0) (pa_cons (pe_slice sl_list (pv 0) (po_some pe_int) po_none) pa_nil)))
          (RZ.pi_zipA (by rfl) T.mZip (pa_cons (pv 0) (pa_cons (pe_slice sl_tupA (pv 0) (po_some pe_int) po_none) pa_nil))))
        (blkOk_by (own := [("one", 1), ("other", 2)]) (N := nAs) (sc := defScope (top 19)) (by decide +kernel))
        (fun _ _ _ _ _ => pg_tup (by rfl) (pgs_cons (pg_name (i := 1) sc19k.nd rfl (Or.inl rfl)) (pgs_cons (pg_name (i := 2) sc19k.nd rfl (Or.inl rfl)) pgs_nil))) (fun _ _ _ _ _ => pts_nil) (fun _ _ _ _ _ => T.lower.cX G hr (pa_cons (pv 1) (pa_cons (pv 2) pa_nil)))) pa_nil))), ?_⟩
    have lu := al.1
    have step : ∀ (H1 : Hp) (p : Addr), Same H H1 → ∀ (i : Nat) (x y : V), us[i]? = some x → (us.drop 1)[i]? = some y → ∀ (acc : List V) (H' : Hp) (Qk : VK) (Z : Hp → Prop) (tt : Addr), acc = ((List.range i).map fun j => decide (cf qs j < cf qs (j + 1))).map V.bl → Same H1 H' → H' tt = none →
        (∀ u H4, Same H' H4 → (acc ++ [u]) = ((List.range (i + 1)).map fun j => decide (cf qs j < cf qs (j + 1))).map V.bl → Qk u H4) →
        ∃ w1 w2, Same H' (upd H' tt (.tup [x, y])) ∧ SqT K (upd H' tt (.tup [x, y])) tt [x, y] ∧ w1 = x ∧ w2 = y ∧ spTwo K T.cN cBin (fun _ v q r => v = .bl (decide (q < r))) [x, y] (upd H' tt (.tup [x, y])) Qk (fun _ _ _ => False) := by
      intro H1 p s1 i x y hx hy acc H' Qk Z tt eacc s2 ntt kk
      rw [List.getElem?_drop, Nat.add_comm] at hy
      have lt : i + 1 < qs.length := by
        have := (List.getElem?_eq_some_iff.mp hy).1
        omega
      have s3 := Same.new (o := .tup [x, y]) ntt
      have rx := (((al.2 i x _ hx (at_cf (by omega))).same s1).same s2).same s3
      have ry := (((al.2 (i + 1) y _ hy (at_cf lt)).same s1).same s2).same s3
      refine ⟨x, y, s3, SqT.of upd_same, rfl, rfl, x, y, rfl, .inl ⟨_, _, n, m, n, m, rx, ry, by omega, by omega, ⟨by omega, by omega⟩, fun v H4 s4 ev => ?_⟩⟩
      subst ev
      refine kk _ _ (s3.trans s4) ?_
      subst eacc
      show _ ++ [_] = _
      rw [List.range_succ, List.map_append, List.map_append]
      rfl
    have fin : ∀ (D : Addr) (H1 : Hp), Same H H1 → ∀ acc H2, H2 D = some (.lst acc) → acc = ((List.range (us.drop 1).length).map fun j => decide (cf qs j < cf qs (j + 1))).map V.bl → Same H1 H2 → ∃ (a : Addr) (bs : List Bool), [V.ref D] = [V.ref a] ∧ SqL K H2 a (bs.map V.bl) ∧ Q (.bl (bs.all id)) H2 := by
      intro D H1 s1 acc H2 hacc eacc s2
      refine ⟨D, (List.range (us.drop 1).length).map fun j => decide (cf qs j < cf qs (j + 1)), rfl, ?_, ?_⟩
      · rw [← eacc]
        exact SqL.of hacc
      · have e : ((List.range (us.drop 1).length).map fun j => decide (cf qs j < cf qs (j + 1))).all id = ascB qs := by
          unfold ascB
          rw [List.length_drop, lu, List.all_map]
          rfl
        rw [e]
        exact k H2 (s1.trans s2)
    rcases hs with hs | hs
    · refine .inl ⟨_, rfl, _, rfl, _, rfl, a, us, rfl, hs, fun p np => ?_⟩
      rw [cut_drop]
      have s1 := Same.new (o := .lst (us.drop 1)) np
      have ep : upd H p (.lst (us.drop 1)) p = some (.lst (us.drop 1)) := upd_same
      have hs1 := Same.seq s1 hs
      generalize upd H p (.lst (us.drop 1)) = H1 at s1 ep hs1
      refine ⟨a, p, us, us.drop 1, rfl, hs1, SqL.of ep, fun D hD => ?_⟩
      refine lc_mapU hs1 (SqL.of ep) (by rw [List.length_drop]; omega) (by omega) hD (fun i acc _ => acc = ((List.range i).map fun j => decide (cf qs j < cf qs (j + 1))).map V.bl) (fun _ _ _ _ _ _ h => h) rfl ?_ ?_
      · rintro i x y hx hy acc H' Qk Z tt lac eacc s2 ntt kk
        obtain ⟨_, _, s3, st, _, _, g⟩ := step H1 p s1 i x y hx hy acc H' Qk Z tt eacc s2 ntt kk
        refine ⟨tt, _, rfl, st, rfl, _, _, rfl, _, _, rfl, rfl, rfl, ?_⟩
        dsimp only [tYes]
        exact iteT ⟨_, rfl, _, rfl, g⟩
      · rintro acc H2 hacc lacc eacc s2
        exact fin D H1 s1 acc H2 hacc eacc s2
    · have h1 : HT.sIx us.length 0 (some 1) = 1 := by
        show (if (1 : Int) < 0 then ((1 : Int) + (us.length : Int)).toNat else min (1 : Int).toNat us.length) = 1
        rw [if_neg (by decide)]
        show min 1 us.length = 1
        omega
      refine .inr ⟨_, rfl, _, rfl, _, rfl, a, us, rfl, hs, (fun z => by rw [h1] at z; cases z.1), fun _ p np => ?_⟩
      rw [cut_drop]
      have s1 := Same.new (o := .tup (us.drop 1)) np
      have ep : upd H p (.tup (us.drop 1)) p = some (.tup (us.drop 1)) := upd_same
      have hs1 := Kz.Same.seqT s1 hs
      generalize upd H p (.tup (us.drop 1)) = H1 at s1 ep hs1
      refine ⟨a, p, us, us.drop 1, rfl, .inr ⟨hs1, SqT.of ep, fun D hD => ?_⟩⟩
      refine lc_mapV hs1 (SqT.of ep) (by rw [List.length_drop]; omega) (by omega) hD (fun i acc _ => acc = ((List.range i).map fun j => decide (cf qs j < cf qs (j + 1))).map V.bl) (fun _ _ _ _ _ _ h => h) rfl ?_ ?_
      · rintro i x y hx hy acc H' Qk Z tt lac eacc s2 ntt kk
        obtain ⟨_, _, s3, st, _, _, g⟩ := step H1 p s1 i x y hx hy acc H' Qk Z tt eacc s2 ntt kk
        refine ⟨tt, _, rfl, st, rfl, _, _, rfl, _, _, rfl, rfl, rfl, ?_⟩
        dsimp only [tYes]
        exact iteT ⟨_, rfl, _, rfl, g⟩
      · rintro acc H2 hacc lacc eacc s2
        exact fin D H1 s1 acc H2 hacc eacc s2
/-- the sum of one row's items times amounts -/
def spJ1 (K : PySem.W.Frag) : Sp := fun vs H Q _ => ∃ l t us vals ws parts n m n' m', vs = [.ref l, .ref t] ∧ SqL K H l us ∧ Al K H us vals ∧ SzA n m vals ∧ SqT K H t ws ∧ Al K H ws parts ∧ SzA n' m' parts ∧ vals.length = parts.length ∧ vals.length ≤ 20 ∧
  m ≤ 1000 ∧ m' ≤ 1000 ∧ n ≤ 100000 ∧ n' ≤ 100000 ∧ m * vals.length + m' * vals.length + 2 ≤ 8000 ∧ ∀ v H', Same H H' → RV K H' v (dotR vals parts) → Q v H'
theorem sc25g : FnScope ["row", "amounts"] ["row", "amounts"] (defScope (top 25)) := ⟨rfl, rfl, rfl, by decide +kernel, rfl, by decide +kernel, by decide +kernel⟩
theorem ok_j1 (T : Tg P K mg) : FnOk P w K mg base CX0 3 T.jsum.f T.jsum.fd ["row", "amounts"] (spJ1 K) := by
  have G : FnOk P w K mg base CX0 2 T.jsums.f T.jsums.fd ["rows", "amounts"] (spJs K) := ok_jsums T
  refine T.jsum.fn.ok sc25g (fun vs H Q E h => ?_) (fun cdv A outer s H vs Q E hr h => ?_)
  · obtain ⟨l, t, us, vals, ws, parts, n, m, n', m', rfl, _⟩ := h
    rfl
  · obtain ⟨l, t, us, vals, ws, parts, n, m, n', m', rfl, hl, al, zv, ht, aw, zp, len, l20, m1, m2, n1, n2, mm, k⟩ := h
    refine ⟨_, pss_one (ps_ret (pe_ix ix_list (T.jsums.c0 G hr (pa_cons (pe_lst (pa_cons (pv 0) pa_nil)) (pa_cons (pv 1) pa_nil))) pe_int (fun _ _ => rfl))), ?_⟩
    refine ⟨_, rfl, (by show 1 ≤ sizeLine; decide), fun r nr => ?_⟩
    have s1 := Same.new (o := .lst [V.ref l]) nr
    have e1 : upd H r (.lst [V.ref l]) r = some (.lst [V.ref l]) := upd_same
    generalize upd H r (.lst [V.ref l]) = H1 at s1 e1 ⊢
    refine ⟨_, rfl, r, l, t, us, vals, ws, parts, n, m, n', m', rfl, SqL.of e1, Same.seq s1 hl, al.same s1, zv, Kz.Same.seqT s1 ht, aw.same s1, zp, len, l20, m1, m2, n1, n2, mm, fun p v H2 s2 hp rv => ?_⟩
    exact ⟨p, _, _, _, rfl, rfl, SqL.of hp, rfl, k v H2 (s1.trans s2) rv⟩
/-- whether parts are above 0 and add up to 1 -/
def wpB (qs : List Rat) : Bool := (qs.map fun q => decide (0 < q)).all id && decide (sumR qs = 1)
def spWp (K : PySem.W.Frag) : Sp := fun vs H Q _ => ∃ v qs, vs = [v] ∧ Rw K H v qs ∧ ∀ H', Same H H' → Q (.bl (wpB qs)) H'
abbrev nWp : List Str := ["row", "part"]
theorem sc22g : FnScope nWp ["row"] (defScope (top 22)) := ⟨rfl, rfl, rfl, by decide +kernel, rfl, by decide +kernel, by decide +kernel⟩
theorem ok_wp (T : Tg P K mg) : FnOk P w K mg base CX0 7 T.whole_parts.f T.whole_parts.fd ["row"] (spWp K) := by
  have G : FnOk P w K mg base (CX P w) 5 T.lower.f T.lower.fd ["one", "other"] (spTwo K T.cN cBin (fun _ v q r => v = .bl (decide (q < r)))) := ok_lower T.toTx
  have G2 : FnOk P w K mg base CX0 6 T.sum_of.f T.sum_of.fd ["row"] (spSumOf K) := ok_sumof T
  refine T.whole_parts.fn.ok sc22g (fun vs H Q E h => ?_) (fun cdv A outer s H vs Q E hr h => ?_)
  · obtain ⟨v, qs, rfl, _⟩ := h
    rfl
  · obtain ⟨v, qs, rfl, hv, k⟩ := h
    have hu := hr.units
    have hr5 : Room 5 _ := hr.mono (by decide)
    refine ⟨_, pss_one (ps_ret (pe_and (pe_callB (cr_all rfl) (by rfl) T.mAll boot_all (pa_cons (pe_lc (own := [("part", 1)]) (g := gName 1) (tt := tYes) rfl sc22g.nd (pi_or (pi_list (pv 0)) (pi_tup (pv 0)))
        (blkOk_by (own := [("part", 1)]) (N := nWp) (sc := defScope (top 22)) (by decide +kernel))
        (fun _ _ _ _ _ => pg_name (i := 1) sc22g.nd rfl (Or.inl rfl)) (fun _ _ _ _ _ => pts_nil) (fun _ _ _ _ _ => T.lower.cX G hr5 (pa_cons pe_int (pa_cons (pv 1) pa_nil)))) pa_nil))
      (pe_one (pe_cmpR (op_eqD hu) (T.sum_of.c0 G2 hr (pa_cons (pv 0) pa_nil)) (pe_tup (pa_cons pe_int (pa_cons pe_int pa_nil))) (nomark _))))), ?_⟩
    have hv' := hv
    have key : ∀ D acc H2, H2 D = some (.lst acc) → acc = (qs.map fun q => decide (0 < q)).map V.bl → Same H H2 → ∃ (a : Addr) (bs : List Bool), [V.ref D] = [V.ref a] ∧ SqL K H2 a (bs.map V.bl) ∧ ∃ c, V.bl (bs.all id) = .bl c ∧ (if c = true then tOp (rEqD K) (tCall (spSumOf K) [] (fun _ _ _ => False) (tCons (tVar 0) tNil)) (tTup (tCons (tC (V.int 1)) (tCons (tC (V.int 1)) tNil))) (L2.start nWp [v]) H2 Q else Q (.bl false) H2) := by
      intro D acc H2 hacc eacc s2
      refine ⟨D, _, rfl, by rw [← eacc]; exact SqL.of hacc, _, rfl, ?_⟩
      cases c : ((qs.map fun q => decide (0 < q)).all id) with
      | false =>
        have e : wpB qs = false := by unfold wpB; rw [c]; rfl
        rw [e] at k
        exact iteF (k H2 s2)
      | true =>
        have e : wpB qs = decide (sumR qs = 1) := by unfold wpB; rw [c]; rfl
        rw [e] at k
        refine iteT ⟨_, rfl, ?_⟩
        dsimp only [tNil]
        refine (hv.same s2).sum fun v' H3 s3 rv => ?_
        refine ⟨(by show 2 ≤ sizeLine; decide), fun p np => ?_⟩
        have s4 := Same.new (o := .tup [V.int 1, V.int 1]) np
        have e4 : upd H3 p (.tup [V.int 1, V.int 1]) p = some (.tup [V.int 1, V.int 1]) := upd_same
        generalize upd H3 p (.tup [V.int 1, V.int 1]) = H4 at s4 e4 ⊢
        have one : RV K H4 (.ref p) 1 := ⟨p, rfl, SqT.of e4⟩
        refine ⟨_, _, (rv.same s4).dp, one.dp, pdQ_shaped _, pdQ_shaped _, ?_⟩
        rw [eqv_pdQ]
        exact k H4 ((s2.trans s3).trans s4)
    obtain ⟨a, us, n, m, rfl, hs, al, n4, m4, len⟩ := hv'
    have lu := al.1
    have step : ∀ (i : Nat) (x : V), us[i]? = some x → ∀ (acc : List V) (H' : Hp) (Qk : VK), acc = ((qs.take i).map fun q => decide (0 < q)).map V.bl → Same H H' → (∀ v' H4, Same H' H4 → (acc ++ [v']) = ((qs.take (i + 1)).map fun q => decide (0 < q)).map V.bl → Qk v' H4) →
        spTwo K T.cN cBin (fun _ v q r => v = .bl (decide (q < r))) [.int 0, x] H' Qk (fun _ _ _ => False) := by
      intro i x hx acc H' Qk r s1 kk
      have lt : i < qs.length := by
        have := (List.getElem?_eq_some_iff.mp hx).1
        omega
      refine ⟨_, _, rfl, .inl ⟨0, _, 1, 1, n, m, (arg_int (i := 0) (by decide) (by decide)), (al.2 i x _ hx (at_cf lt)).same s1, by omega, by omega, ⟨by omega, by omega⟩, fun v' H4 s4 ev => kk _ _ s4 ?_⟩⟩
      subst ev
      rw [take_snoc (at_cf lt), r, List.map_append, List.map_append]
      rfl
    rcases hs with hs | hs
    · refine .inl ⟨_, rfl, a, rfl, ⟨_, hs⟩, fun D hD => ?_⟩
      refine lc_mapL hs (by omega) hD (fun i acc _ => acc = ((qs.take i).map fun q => decide (0 < q)).map V.bl) bears_pure rfl ?_ ?_
      · rintro i x hx acc H' Qk Z la r s1 kk
        refine ⟨rfl, ?_⟩
        dsimp only [tYes]
        exact iteT ⟨_, rfl, step i x hx acc H' Qk r s1 kk⟩
      · rintro acc H2 hacc lacc r s2
        refine key D acc H2 hacc ?_ s2
        have r' : acc = ((qs.take us.length).map fun q => decide (0 < q)).map V.bl := r
        rw [lu, List.take_length] at r'
        exact r'
    · refine .inr ⟨_, rfl, a, rfl, ⟨_, hs⟩, fun D hD => ?_⟩
      refine lc_mapT hs (by omega) hD (fun i acc _ => acc = ((qs.take i).map fun q => decide (0 < q)).map V.bl) bears_pure rfl ?_ ?_
      · rintro i x hx acc H' Qk Z la r s1 kk
        refine ⟨rfl, ?_⟩
        dsimp only [tYes]
        exact iteT ⟨_, rfl, step i x hx acc H' Qk r s1 kk⟩
      · rintro acc H2 hacc lacc r s2
        refine key D acc H2 hacc ?_ s2
        have r' : acc = ((qs.take us.length).map fun q => decide (0 < q)).map V.bl := r
        rw [lu, List.take_length] at r'
        exact r'
end
end Kz
set_option linter.all false
set_option maxRecDepth 100000
set_option maxHeartbeats 4000000
namespace Kz
open PySem PySem.Spec PyProof.Rows L2
/-- the fields of a Share -/
def shF (x y : V) : List (Str × V) := [(("places" : Str), x), (("parts" : Str), y)]
theorem putS2 {x y : V} : putF "parts" y [(("places" : Str), x)] = shF x y := by
  unfold putF
  rw [if_neg (by decide +kernel)]
  rfl
theorem lkS1 {x y : V} : (shF x y).lookup ("places" : Str) = some x := by
  simp [shF, List.lookup]
theorem lkS2 {x y : V} : (shF x y).lookup ("parts" : Str) = some y := by
  have h1 : (("parts" : Str) == ("places" : Str)) = false := by decide +kernel
  simp [shF, List.lookup, h1]
def ShAt (K : PySem.W.Frag) (cS : Addr) (H : Hp) (v : V) (xs ps : List Rat) : Prop := ∃ a dx t1 t2 w1 w2, v = .ref a ∧ H a = some (.ins cS dx (shF (.ref t1) (.ref t2))) ∧ SqT K H t1 w1 ∧ Al K H w1 xs ∧ SqT K H t2 w2 ∧ Al K H w2 ps
theorem ShAt.same {K : PySem.W.Frag} {cS : Addr} {H H' : Hp} {v : V} {xs ps : List Rat} (s : Same H H') (h : ShAt K cS H v xs ps) : ShAt K cS H' v xs ps := by
  obtain ⟨a, dx, t1, t2, w1, w2, e, ha, h1, a1, h2, a2⟩ := h
  exact ⟨a, dx, t1, t2, w1, w2, e, s _ _ ha, Kz.Same.seqT s h1, a1.same s, Kz.Same.seqT s h2, a2.same s⟩
theorem beqT {i j : Int} (h : i = j) : (i == j) = true := by simp [h]
theorem beqF {i j : Int} (h : i ≠ j) : (i == j) = false := by simp [h]
section
variable {P : Program} {w : World} {K : PySem.W.Frag} {mg : Str → Option Value} {base : Heap}
def spParts (K : PySem.W.Frag) : Sp := fun vs H Q _ => ∃ v qs, ∃ many : Nat, vs = [v, .int (many : Nat)] ∧ Rw K H v qs ∧ qs.length = many ∧ ∀ H', Same H H' → Q (.bl (wpB qs)) H'
theorem sc43g : FnScope ["value", "many"] ["value", "many"] (defScope (top 43)) := ⟨rfl, rfl, rfl, by decide +kernel, rfl, by decide +kernel, by decide +kernel⟩
theorem ok_parts (T : Tg P K mg) : FnOk P w K mg base CX0 8 T.are_parts.f T.are_parts.fd ["value", "many"] (spParts K) := by
  have G1 : FnOk P w K mg base CX0 4 T.is_row.f T.is_row.fd ["value"] (spRow K) := ok_row T.toTz
  have G2 : FnOk P w K mg base CX0 7 T.whole_parts.f T.whole_parts.fd ["row"] (spWp K) := ok_wp T
  refine T.are_parts.fn.ok sc43g (fun vs H Q E h => ?_) (fun cdv A outer s H vs Q E hr h => ?_)
  · obtain ⟨v, qs, many, rfl, _⟩ := h
    rfl
  · obtain ⟨v, qs, many, rfl, hv, len, k⟩ := h
    have hr4 : Room 4 _ := hr.mono (by decide)
    refine ⟨_, pss_one (ps_ret (pe_and (T.is_row.c0 G1 hr4 (pa_cons (pv 0) pa_nil)) (pe_and (pe_cmpR op_eq (pe_callB call_len_seq (by rfl) T.blt.len PySem.boot_len (pa_cons (pv 0) pa_nil)) (pv 1) (nomark _))
      (pe_one (T.whole_parts.c0 G2 hr (pa_cons (pv 0) pa_nil)))))), ?_⟩
    refine ⟨_, rfl, ?_⟩
    dsimp only [tNil]
    refine hv.row fun H1 s1 => ?_
    refine ⟨_, rfl, iteT ?_⟩
    obtain ⟨a, us, rfl, hs, lu, _⟩ := (hv.same s1).len
    refine ⟨_, rfl, a, us, rfl, hs, _, rfl, rfl, _, rfl, ?_⟩
    rw [dec_int, beqT (show ((us.length : Nat) : Int) = ((many : Nat) : Int) by omega)]
    exact iteT ⟨_, rfl, _, qs, rfl, hv.same s1, fun H2 s2 => k H2 (s1.trans s2)⟩
def spSinit (K : PySem.W.Frag) (cS : Addr) : Sp := fun vs H Q _ => ∃ x dx xv pv H0 xs ps, vs = [.ref x, xv, pv] ∧ H x = some (.ins cS dx []) ∧ Same H0 H ∧ H0 x = none ∧ Rw K H0 xv xs ∧ 0 < xs.length ∧ ascB xs = true ∧ Rw K H0 pv ps ∧ ps.length = xs.length ∧ wpB ps = true ∧
  ∀ H' t1 t2 w1 w2, But x H H' → H' x = some (.ins cS dx (shF (.ref t1) (.ref t2))) → SqT K H' t1 w1 → Al K H' w1 xs → SqT K H' t2 w2 → Al K H' w2 ps → Q .non H'
abbrev nS0 : List Str := ["self", "places", "parts"]
theorem scS0 : FnScope nS0 ["self", "places", "parts"] (defScope (sS 0)) := ⟨rfl, rfl, rfl, by decide +kernel, rfl, by decide +kernel, by decide +kernel⟩
theorem ok_sinit (T : Tg P K mg) : FnOk P w K mg base (CX P w) 9 T.s_init.f T.s_init.fd ["self", "places", "parts"] (spSinit K T.cS) := by
  have G1 : FnOk P w K mg base CX0 4 T.is_row.f T.is_row.fd ["value"] (spRow K) := ok_row T.toTz
  have G2 : FnOk P w K mg base CX0 6 T.ascends.f T.ascends.fd ["row"] (spAscR K) := ok_ascR T.toTb
  have G3 : FnOk P w K mg base CX0 8 T.are_parts.f T.are_parts.fd ["value", "many"] (spParts K) := ok_parts T
  have G4 : FnOk P w K mg base CX0 5 T.told_row.f T.told_row.fd ["row"] (spTrowN K) := ok_trowN T.toTb
  refine T.s_init.fn.okX scS0 (fun vs H Q E h => ?_) (fun cdv A outer s H vs Q E hr h => ?_)
  · obtain ⟨x, dx, xv, pv', H0, xs, ps, rfl, _⟩ := h
    rfl
  · obtain ⟨x, dx, xv, pv', H0, xs, ps, rfl, hx, s0, n0, hv, pos, asc, hp, lp, wp, k⟩ := h
    have hr4 : Room 4 _ := hr.mono (by decide)
    have hr5 : Room 5 _ := hr.mono (by decide)
    have hr6 : Room 6 _ := hr.mono (by decide)
    have tk := takes_of (X := cxOf (CX P w) P w K mg base nS0 "Share.__init__" (defScope (sS 0)) T.s_init.f cdv A outer s H E) (E := E) rfl rfl rfl rfl
    refine ⟨_, pss_cons (ps_if (PW.pt (pw_or (pt_not (pt_val (T.is_row.c0 G1 hr4 (pa_cons (pv 1) pa_nil))))
          (pw_or (pt_cmpR op_eq (pe_callB call_len_seq (by rfl) T.blt.len PySem.boot_len (pa_cons (pv 1) pa_nil)) pe_int (nomark _))
            (pw_or1 (pt_not (pt_val (T.ascends.c0 G2 hr6 (pa_cons (pv 1) pa_nil))))))))
        (pss_one (ps_raise rfl tk (pmk_oex (CX := CX0) T.eR.o T.iR.i T.iR.t (ok_i4 T.iR.fn) (hr.mono (by decide)) T.bR .nil pass0 rfl T.eR.g (pa_cons (pv 1) pa_nil)))) pss_nil)
      (pss_cons (ps_if (pt_not (pt_val (T.are_parts.c0 G3 hr (pa_cons (pv 2) (pa_cons (pe_callB call_len_seq (by rfl) T.blt.len PySem.boot_len (pa_cons (pv 1) pa_nil)) pa_nil)))))
        (pss_one (ps_raise rfl tk (pmk_oex (CX := CX0) T.eR.o T.iR.i T.iR.t (ok_i4 T.iR.fn) (hr.mono (by decide)) T.bR .nil pass0 rfl T.eR.g (pa_cons (pv 2) pa_nil)))) pss_nil)
      (pss_cons (ps_fld (pv 0) (T.told_row.c0 G4 hr5 (pa_cons (pv 1) pa_nil)) (by rfl))
      (pss_one (ps_fld (pv 0) (T.told_row.c0 G4 hr5 (pa_cons (pv 2) pa_nil)) (by rfl))))), ?_⟩
    refine ⟨_, rfl, ?_⟩
    dsimp only [tNil]
    refine (hv.same s0).row fun H1 s1 => ?_
    refine ⟨_, rfl, iteF ?_⟩
    have s01 := s0.trans s1
    obtain ⟨a, us, rfl, hs, lu, _⟩ := (hv.same s01).len
    refine ⟨_, rfl, a, us, rfl, hs, rfl, _, rfl, ?_⟩
    rw [dec_int, beqF (show ((us.length : Nat) : Int) ≠ 0 by omega)]
    refine iteF ⟨_, rfl, _, xs, rfl, hv.same s01, pos, fun H2 s2 => ?_⟩
    rw [asc]
    refine ⟨_, rfl, iteF ?_⟩
    have s02 := s01.trans s2
    refine ⟨_, rfl, _, rfl, a, us, rfl, Sq.same2 s2 hs, ?_⟩
    refine ⟨_, ps, us.length, rfl, hp.same s02, by omega, fun H3 s3 => ?_⟩
    rw [wp]
    refine ⟨_, rfl, iteF ?_⟩
    have s03 := s02.trans s3
    refine ⟨_, rfl, ?_⟩
    dsimp only [tNil]
    refine (hv.same s03).told fun t1 H4 w1 s4 ht1 al1 => ?_
    have s04 := s03.trans s4
    have x4 := (((s1.trans s2).trans s3).trans s4) _ _ hx
    refine ⟨_, rfl, x, T.cS, dx, [], rfl, x4, T.clS, T.nSh1, by decide, ?_⟩
    have b5 : But x H4 (upd H4 x (.ins T.cS dx (putF "places" (.ref t1) []))) := But.refl.set
    have b05 : But x H (upd H4 x (.ins T.cS dx (putF "places" (.ref t1) []))) := fun c o e n => b5 c o ((((s1.trans s2).trans s3).trans s4) _ _ e) n
    have s05 := sameOff s04 n0 b5
    have ht5 := ht1.off x4 b5
    have al5 := al1.off x4 b5
    have x5 : upd H4 x (.ins T.cS dx (putF "places" (.ref t1) [])) x = some (.ins T.cS dx [(("places" : Str), .ref t1)]) := upd_same
    generalize upd H4 x (.ins T.cS dx (putF "places" (.ref t1) [])) = H5 at b05 s05 ht5 al5 x5 ⊢
    refine ⟨_, rfl, ?_⟩
    dsimp only [tNil]
    refine (hp.same s05).told fun t2 H6 w2 s6 ht2 al2 => ?_
    have x6 := s6 _ _ x5
    refine ⟨_, rfl, x, T.cS, dx, _, rfl, x6, T.clS, T.nSh2, (by show 1 < 1000; decide), ?_⟩
    rw [putS2]
    have b7 : But x H6 (upd H6 x (.ins T.cS dx (shF (.ref t1) (.ref t2)))) := But.refl.set
    exact k _ t1 t2 w1 w2 (fun c o e n => b7 c o (s6 _ _ (b05 c o e n)) n) upd_same ((ht5.same s6).off x6 b7).seqT ((al5.same s6).off x6 b7) (ht2.off x6 b7).seqT (al2.off x6 b7)
end
end Kz
set_option linter.all false
set_option maxRecDepth 100000
set_option maxHeartbeats 4000000
set_option pp.maxSteps 400
namespace Kz
open PySem PySem.Spec PyProof.Rows L2
theorem via {t : TT} {σ : L2.St} {H : Hp} {Q : Bool → Hp → Prop} (h : ∀ Q' : Bool → Hp → Prop, (∀ H', Same H H' → Q' false H') → t σ H Q') (k : ∀ H', Same H H' → Q false H') : t σ H Q := h Q k
theorem viaE {t : TE} {σ : L2.St} {H : Hp} {Q : VK} {R : V → Hp → Prop} (h : ∀ Q' : VK, (∀ v H', Same H H' → R v H' → Q' v H') → t σ H Q') (k : ∀ v H', Same H H' → R v H' → Q v H') : t σ H Q := h Q k
theorem nonT {v : V} (h : v = .non) : decide (v = V.non) = true := decide_eq_true h
theorem nonF {v : V} (h : v ≠ .non) : decide (v = V.non) = false := decide_eq_false h
/-- the fields of a Told -/
def toF (x y z : V) : List (Str × V) := [(("function" : Str), x), (("least" : Str), y), (("most" : Str), z)]
theorem putT2 {x y : V} : putF "least" y [(("function" : Str), x)] = [(("function" : Str), x), (("least" : Str), y)] := by
  unfold putF
  rw [if_neg (by decide +kernel)]
  rfl
theorem putT3 {x y z : V} : putF "most" z [(("function" : Str), x), (("least" : Str), y)] = toF x y z := by
  unfold putF
  rw [if_neg (by decide +kernel)]
  unfold putF
  rw [if_neg (by decide +kernel)]
  rfl
theorem lkT1 {x y z : V} : (toF x y z).lookup ("function" : Str) = some x := by
  simp [toF, List.lookup]
theorem lkT2 {x y z : V} : (toF x y z).lookup ("least" : Str) = some y := by
  have h1 : (("least" : Str) == ("function" : Str)) = false := by decide +kernel
  simp [toF, List.lookup, h1]
theorem lkT3 {x y z : V} : (toF x y z).lookup ("most" : Str) = some z := by
  have h1 : (("most" : Str) == ("function" : Str)) = false := by decide +kernel
  have h2 : (("most" : Str) == ("least" : Str)) = false := by decide +kernel
  simp [toF, List.lookup, h1, h2]
/-- a bound, or none -/
def OR (K : PySem.W.Frag) (H : Hp) (v : V) (o : Option Rat) : Prop := (v = .non ∧ o = none) ∨ ∃ q, o = some q ∧ RV K H v q
theorem OR.same {K : PySem.W.Frag} {H H' : Hp} {v : V} {o : Option Rat} (s : Same H H') (h : OR K H v o) : OR K H' v o := h.imp id fun ⟨q, e, r⟩ => ⟨q, e, r.same s⟩
def OA (K : PySem.W.Frag) (H : Hp) (v : V) (o : Option Rat) : Prop := (v = .non ∧ o = none) ∨ ∃ q n, o = some q ∧ ArgQ K H v n 4500 q ∧ n ≤ 10000
theorem OA.same {K : PySem.W.Frag} {H H' : Hp} {v : V} {o : Option Rat} (s : Same H H') (h : OA K H v o) : OA K H' v o := h.imp id fun ⟨q, n, e, r, l⟩ => ⟨q, n, e, r.same s, l⟩
theorem ArgQ.nn {K : PySem.W.Frag} {H : Hp} {v : V} {n m : Nat} {q : Rat} (h : ArgQ K H v n m q) : v ≠ .non := by
  obtain ⟨a, b, h, _⟩ := h
  intro e
  subst e
  cases h
theorem RV.nn {K : PySem.W.Frag} {H : Hp} {v : V} {q : Rat} (h : RV K H v q) : v ≠ .non := by
  obtain ⟨t, rfl, _⟩ := h
  exact V.noConfusion
theorem OR.off {K : PySem.W.Frag} {H H' : Hp} {x C dx : Addr} {fs : List (Str × V)} {v : V} {o : Option Rat} (hx : H x = some (.ins C dx fs)) (b : But x H H') (h : OR K H v o) : OR K H' v o := h.imp id fun ⟨q, e, t, e2, r⟩ => ⟨q, e, t, e2, Kz.SqT.off hx b r⟩
/-- whether a row of bounds is one for a function -/
structure Bds (ks : List Rat) (ps : List (List Rat)) (as : List Rat) (lo hi : Option Rat) : Prop where
  kd : abv ks ps as ks.length = false ∨ blw ks ps as ks.length = false
  up : lo ≠ none → abv ks ps as ks.length = false
  dn : hi ≠ none → blw ks ps as ks.length = false
  le : ∀ a b, lo = some a → hi = some b → ¬ b < a
  so : lo ≠ none ∨ hi ≠ none
def ToAt (K : PySem.W.Frag) (cT cB cP : Addr) (H : Hp) (v : V) (ks : List Rat) (ps : List (List Rat)) (as : List Rat) (lo hi : Option Rat) : Prop := ∃ a dx f l m, v = .ref a ∧ H a = some (.ins cT dx (toF f l m)) ∧ BrkAt K cB cP H f ks ps as ∧ KnF H f ∧ OR K H l lo ∧ OR K H m hi
theorem ToAt.same {K : PySem.W.Frag} {cT cB cP : Addr} {H H' : Hp} {v : V} {ks as : List Rat} {ps : List (List Rat)} {lo hi : Option Rat} (s : Same H H') (h : ToAt K cT cB cP H v ks ps as lo hi) : ToAt K cT cB cP H' v ks ps as lo hi := by
  obtain ⟨a, dx, f, l, m, e, ha, h1, h2, h3, h4⟩ := h
  exact ⟨a, dx, f, l, m, e, s _ _ ha, h1.same s, h2.same s, h3.same s, h4.same s⟩
section
variable {P : Program} {w : World} {K : PySem.W.Frag} {mg : Str → Option Value} {base : Heap}
def spBk (K : PySem.W.Frag) (cB cP : Addr) : Sp := fun vs H Q _ => ∃ f ks ps as, vs = [f] ∧ BrkZ K cB cP H f ks ps as ∧ (abv ks ps as ks.length = false ∨ blw ks ps as ks.length = false) ∧ ∀ H', Same H H' → Q (.bl true) H'
theorem sc44g : FnScope ["function"] ["function"] (defScope (top 44)) := ⟨rfl, rfl, rfl, by decide +kernel, rfl, by decide +kernel, by decide +kernel⟩
theorem ok_bk (T : Tg P K mg) : FnOk P w K mg base CX0 9 T.is_bk.f T.is_bk.fd ["function"] (spBk K T.cB T.cP) := by
  have G1 : FnOk P w K mg base CX0 8 T.b_upper.f T.b_upper.fd ["self"] (spBkind K T.cB T.cP fun ks ps as => !abv ks ps as ks.length) := ok_bupper T.toTb
  have G2 : FnOk P w K mg base CX0 8 T.b_lower.f T.b_lower.fd ["self"] (spBkind K T.cB T.cP fun ks ps as => !blw ks ps as ks.length) := ok_blower T.toTb
  refine T.is_bk.fn.ok sc44g (fun vs H Q E h => ?_) (fun cdv A outer s H vs Q E hr h => ?_)
  · obtain ⟨f, ks, ps, as, rfl, _⟩ := h
    rfl
  · obtain ⟨f, ks, ps, as, rfl, hf, kd, k⟩ := h
    refine ⟨_, pss_one (ps_ret (pe_and (pe_callB (call_isiK (K' := K)) (by rfl) T.mIsi boot_isi (pa_cons (pv 0) (pa_cons (pe_glob (v := .ref T.cB) rfl T.mgB rfl) pa_nil)))
      (pe_one (pe_or (pe_meth0 (pv 0) T.clB T.b_upper.me G1 hr T.b_upper.b .nil pass0) (pe_one (pe_meth0 (pv 0) T.clB T.b_lower.me G2 hr T.b_lower.b .nil pass0)))))), ?_⟩
    obtain ⟨⟨a, dx, t1, t2, t3, w1, us, w3, rfl, ha, _⟩, _⟩ := id hf
    refine ⟨_, rfl, _, _, _, _, true, rfl, .own _, brk_ty T.toTc ha, kit_self, _, rfl, ?_⟩
    refine iteT ⟨_, rfl, a, dx, _, rfl, ha, lkBup, .ref a, ks, ps, as, rfl, hf, fun H1 s1 => ?_⟩
    dsimp only
    cases c : abv ks ps as ks.length with
    | false => exact ⟨_, rfl, iteT (k H1 s1)⟩
    | true =>
      have c2 := kd.resolve_left (by rw [c]; exact Bool.noConfusion)
      refine ⟨_, rfl, iteF ⟨_, rfl, a, dx, _, rfl, s1 _ _ ha, lkBlo, .ref a, ks, ps, as, rfl, hf.same s1, fun H2 s2 => ?_⟩⟩
      dsimp only
      rw [c2]
      exact k H2 (s1.trans s2)
def spTinit (K : PySem.W.Frag) (cT cB cP : Addr) : Sp := fun vs H Q _ => ∃ x dx f lv mv H0 ks ps as lo hi, vs = [.ref x, f, lv, mv] ∧ H x = some (.ins cT dx []) ∧ Same H0 H ∧ H0 x = none ∧ BrkZ K cB cP H0 f ks ps as ∧ KnF H0 f ∧ OA K H0 lv lo ∧ OA K H0 mv hi ∧ Bds ks ps as lo hi ∧
  ∀ H' l m, But x H H' → H' x = some (.ins cT dx (toF f l m)) → OR K H' l lo → OR K H' m hi → Q .non H'
abbrev nT0 : List Str := ["self", "function", "least", "most"]
theorem scT0 : FnScope nT0 ["self", "function", "least", "most"] (defScope (sT 0)) := ⟨rfl, rfl, rfl, by decide +kernel, rfl, by decide +kernel, by decide +kernel⟩
theorem ok_tinit (T : Tg P K mg) : FnOk P w K mg base (CX P w) 10 T.t_init.f T.t_init.fd ["self", "function", "least", "most"] (spTinit K T.cT T.cB T.cP) := by
  have G1 : FnOk P w K mg base CX0 9 T.is_bk.f T.is_bk.fd ["function"] (spBk K T.cB T.cP) := ok_bk T
  have G2 : FnOk P w K mg base CX0 3 T.is_ratio.f T.is_ratio.fd ["value"] (spRatio K) := ok_ratio T.toTx
  have G3 : FnOk P w K mg base CX0 8 T.b_upper.f T.b_upper.fd ["self"] (spBkind K T.cB T.cP fun ks ps as => !abv ks ps as ks.length) := ok_bupper T.toTb
  have G4 : FnOk P w K mg base CX0 8 T.b_lower.f T.b_lower.fd ["self"] (spBkind K T.cB T.cP fun ks ps as => !blw ks ps as ks.length) := ok_blower T.toTb
  have G5 : FnOk P w K mg base (CX P w) 5 T.lower.f T.lower.fd ["one", "other"] (spTwo K T.cN cBin (fun _ v q r => v = .bl (decide (q < r)))) := ok_lower T.toTx
  have G6 : FnOk P w K mg base (CX P w) 4 T.told.f T.told.fd ["value", "what"] (spTold K T.cN) := ok_told T.toTx
  refine T.t_init.fn.okX scT0 (fun vs H Q E h => ?_) (fun cdv A outer s H vs Q E hr h => ?_)
  · obtain ⟨x, dx, f, lv, mv, H0, ks, ps, as, lo, hi, rfl, _⟩ := h
    rfl
  · obtain ⟨x, dx, f, lv, mv, H0, ks, ps, as, lo, hi, rfl, hx, s0, n0, hf, kn, hl, hm, bd, k⟩ := h
    have hr3 : Room 3 _ := hr.mono (by decide)
    have hr4 : Room 4 _ := hr.mono (by decide)
    have hr5 : Room 5 _ := hr.mono (by decide)
    have hr8 : Room 8 _ := hr.mono (by decide)
    have tk := takes_of (X := cxOf (CX P w) P w K mg base nT0 "Told.__init__" (defScope (sT 0)) T.t_init.f cdv A outer s H E) (E := E) rfl rfl rfl rfl
    refine ⟨_, pss_cons (ps_if (pt_not (pt_val (T.is_bk.c0 G1 hr (pa_cons (pv 1) pa_nil))))
        (pss_one (ps_raise rfl tk (pmk_oex (CX := CX0) T.eU.o T.iU.i T.iU.t (ok_i6 T.iU.fn) (hr.mono (by decide)) T.bU .nil pass0 rfl T.eU.g (pa_cons pe_str pa_nil)))) pss_nil)
      (pss_cons (ps_if (PW.pt (pw_and (pt_cmpR op_notN (pv 2) pe_non (nomark _)) (pw_and1 (pt_not (PW.pt (pw_and (pt_val (T.is_ratio.c0 G2 hr3 (pa_cons (pv 2) pa_nil))) (pw_and1 (pt_val (pe_meth0 (pv 1) T.clB T.b_upper.me G3 hr8 T.b_upper.b .nil pass0)))))))))
        (pss_one (ps_raise rfl tk (pmk_oex (CX := CX0) T.eN.o T.iN.i T.iN.t (ok_i3 T.iN.fn) (hr.mono (by decide)) T.bN .nil pass0 rfl T.eN.g (pa_cons pe_str (pa_cons (pv 2) pa_nil))))) pss_nil)
      (pss_cons (ps_if (PW.pt (pw_and (pt_cmpR op_notN (pv 3) pe_non (nomark _)) (pw_and1 (pt_not (PW.pt (pw_and (pt_val (T.is_ratio.c0 G2 hr3 (pa_cons (pv 3) pa_nil))) (pw_and1 (pt_val (pe_meth0 (pv 1) T.clB T.b_lower.me G4 hr8 T.b_lower.b .nil pass0)))))))))
        (pss_one (ps_raise rfl tk (pmk_oex (CX := CX0) T.eN.o T.iN.i T.iN.t (ok_i3 T.iN.fn) (hr.mono (by decide)) T.bN .nil pass0 rfl T.eN.g (pa_cons pe_str (pa_cons (pv 3) pa_nil))))) pss_nil)
      (pss_cons (ps_if (PW.pt (pw_and (pt_cmpR op_notN (pv 2) pe_non (nomark _)) (pw_and (pt_cmpR op_notN (pv 3) pe_non (nomark _)) (pw_and1 (pt_val (T.lower.cX G5 hr5 (pa_cons (pv 3) (pa_cons (pv 2) pa_nil))))))))
        (pss_one (ps_raise rfl tk (pmk_oex (CX := CX0) T.eN.o T.iN.i T.iN.t (ok_i3 T.iN.fn) (hr.mono (by decide)) T.bN .nil pass0 rfl T.eN.g (pa_cons pe_str (pa_cons (pv 3) pa_nil))))) pss_nil)
      (pss_cons (ps_if (PW.pt (pw_and (pt_cmpR op_isN (pv 2) pe_non (nomark _)) (pw_and1 (pt_cmpR op_isN (pv 3) pe_non (nomark _)))))
        (pss_one (ps_raise rfl tk (pmk_oex (CX := CX0) T.eU.o T.iU.i T.iU.t (ok_i6 T.iU.fn) (hr.mono (by decide)) T.bU .nil pass0 rfl T.eU.g (pa_cons pe_str pa_nil)))) pss_nil)
      (pss_cons (ps_fld (pv 0) (pv 1) (by rfl))
      (pss_cons (ps_fld (pv 0) (pe_ifExp (pt_cmpR op_isN (pv 2) pe_non (nomark _)) pe_non (T.told.cX G6 hr4 (pa_cons (pv 2) (pa_cons pe_str pa_nil)))) (by rfl))
      (pss_one (ps_fld (pv 0) (pe_ifExp (pt_cmpR op_isN (pv 3) pe_non (nomark _)) pe_non (T.told.cX G6 hr4 (pa_cons (pv 3) (pa_cons pe_str pa_nil)))) (by rfl))))))))), ?_⟩
    obtain ⟨⟨a, fx, t1, t2, t3, w1, us, w3, rfl, ha, _⟩, _⟩ := id hf
    refine ⟨_, rfl, _, ks, ps, as, rfl, hf.same s0, bd.kd, fun H1 s1 => ⟨_, rfl, iteF ?_⟩⟩
    have s01 := s0.trans s1
    dsimp only [tNext, tSeq, tIfS]
    refine via (t := tAnd _ _) (fun Q' k' => ?_) (fun H2 s2 => iteF ?_)
    · rcases hl with ⟨rfl, e⟩ | ⟨q, n, e, aq, nn⟩
      · refine ⟨_, rfl, rfl, _, rfl, ?_⟩
        rw [nonT rfl]
        exact iteF (k' H1 (Same.refl _))
      · refine ⟨_, rfl, rfl, _, rfl, ?_⟩
        rw [nonF aq.nn]
        obtain ⟨tt, b, ty, pr, eb⟩ := (aq.same s01).rb
        refine iteT ⟨_, rfl, lv, tt, b, rfl, ty, pr, fun H2 s2 => ?_⟩
        rw [← eb]
        refine ⟨_, rfl, iteT ⟨_, rfl, a, fx, _, rfl, (s01.trans s2) _ _ ha, lkBup, _, ks, ps, as, rfl, hf.same (s01.trans s2), fun H3 s3 => ?_⟩⟩
        dsimp only
        rw [bd.up (by rw [e]; exact Option.some_ne_none _)]
        exact ⟨_, rfl, k' H3 (s2.trans s3)⟩
    have s02 := s01.trans s2
    refine via (t := tAnd _ _) (fun Q' k' => ?_) (fun H3 s3 => iteF ?_)
    · rcases hm with ⟨rfl, e⟩ | ⟨q, n, e, aq, nn⟩
      · refine ⟨_, rfl, rfl, _, rfl, ?_⟩
        rw [nonT rfl]
        exact iteF (k' H2 (Same.refl _))
      · refine ⟨_, rfl, rfl, _, rfl, ?_⟩
        rw [nonF aq.nn]
        obtain ⟨tt, b, ty, pr, eb⟩ := (aq.same s02).rb
        refine iteT ⟨_, rfl, mv, tt, b, rfl, ty, pr, fun H3 s3 => ?_⟩
        rw [← eb]
        refine ⟨_, rfl, iteT ⟨_, rfl, a, fx, _, rfl, (s02.trans s3) _ _ ha, lkBlo, _, ks, ps, as, rfl, hf.same (s02.trans s3), fun H4 s4 => ?_⟩⟩
        dsimp only
        rw [bd.dn (by rw [e]; exact Option.some_ne_none _)]
        exact ⟨_, rfl, k' H4 (s3.trans s4)⟩
    have s03 := s02.trans s3
    refine via (t := tAnd _ _) (fun Q' k' => ?_) (fun H4 s4 => iteF ?_)
    · rcases hl with ⟨rfl, e⟩ | ⟨q, n, e, aq, nn⟩
      · refine ⟨_, rfl, rfl, _, rfl, ?_⟩
        rw [nonT rfl]
        exact iteF (k' H3 (Same.refl _))
      · refine ⟨_, rfl, rfl, _, rfl, ?_⟩
        rw [nonF aq.nn]
        refine iteT ?_
        rcases hm with ⟨rfl, e'⟩ | ⟨r, n', e', ar, nn'⟩
        · refine ⟨_, rfl, rfl, _, rfl, ?_⟩
          rw [nonT rfl]
          exact iteF (k' H3 (Same.refl _))
        · refine ⟨_, rfl, rfl, _, rfl, ?_⟩
          rw [nonF ar.nn]
          refine iteT ⟨_, rfl, _, rfl, mv, lv, rfl, .inl ⟨r, q, n', 4500, n, 4500, ar.same s03, aq.same s03, by decide, by decide, ⟨by omega, by decide⟩, fun v' H4 s4 ev => ?_⟩⟩
          subst ev
          rw [decide_eq_false (bd.le q r e e')]
          exact ⟨_, rfl, k' H4 s4⟩
    have s04 := s03.trans s4
    refine via (t := tAnd _ _) (fun Q' k' => ?_) (fun H5 s5 => iteF ?_)
    · rcases hl with ⟨rfl, e⟩ | ⟨q, n, e, aq, nn⟩
      · refine ⟨_, rfl, rfl, _, rfl, ?_⟩
        rw [nonT rfl]
        refine iteT ?_
        rcases hm with ⟨rfl, e'⟩ | ⟨r, n', e', ar, nn'⟩
        · rcases bd.so with z | z
          · exact absurd e z
          · exact absurd e' z
        · refine ⟨_, rfl, rfl, _, rfl, ?_⟩
          rw [nonF ar.nn]
          exact k' H4 (Same.refl _)
      · refine ⟨_, rfl, rfl, _, rfl, ?_⟩
        rw [nonF aq.nn]
        exact iteF (k' H4 (Same.refl _))
    have s05 := s04.trans s5
    have h05 := (((s1.trans s2).trans s3).trans s4).trans s5
    have x5 := h05 _ _ hx
    refine ⟨_, rfl, _, rfl, x, T.cT, dx, [], rfl, x5, T.clT, T.nTo1, by decide, ?_⟩
    have b6 : But x H5 (upd H5 x (.ins T.cT dx (putF "function" (.ref a) []))) := But.refl.set
    have b06 : But x H (upd H5 x (.ins T.cT dx (putF "function" (.ref a) []))) := fun c o e n => b6 c o (h05 _ _ e) n
    have s06 := sameOff s05 n0 b6
    have x6 : upd H5 x (.ins T.cT dx (putF "function" (.ref a) [])) x = some (.ins T.cT dx [(("function" : Str), .ref a)]) := upd_same
    generalize upd H5 x (.ins T.cT dx (putF "function" (.ref a) [])) = H6 at b06 s06 x6 ⊢
    dsimp only [tFld]
    refine viaE (t := tIf _ _ _) (R := fun v H' => OR K H' v lo) (fun Q' k' => ?_) (fun l H7 s7 ol => ?_)
    · rcases hl with ⟨rfl, e⟩ | ⟨q, n, e, aq, nn⟩
      · refine ⟨_, rfl, rfl, _, rfl, ?_⟩
        rw [nonT rfl]
        exact iteT (k' _ H6 (Same.refl _) (.inl ⟨rfl, e⟩))
      · refine ⟨_, rfl, rfl, _, rfl, ?_⟩
        rw [nonF aq.nn]
        exact iteF ⟨_, rfl, lv, _, rfl, .inl ⟨q, n, 4500, aq.same s06, by decide, fun v' H7 s7 rv => k' v' H7 s7 (.inr ⟨q, e, rv⟩)⟩⟩
    have s07 := s06.trans s7
    have x7 := s7 _ _ x6
    refine ⟨_, rfl, x, T.cT, dx, _, rfl, x7, T.clT, T.nTo2, (by show 1 < 1000; decide), ?_⟩
    rw [putT2]
    have b8 : But x H7 (upd H7 x (.ins T.cT dx [(("function" : Str), .ref a), (("least" : Str), l)])) := But.refl.set
    have b08 : But x H (upd H7 x (.ins T.cT dx [(("function" : Str), .ref a), (("least" : Str), l)])) := fun c o e n => b8 c o (s7 _ _ (b06 c o e n)) n
    have s08 := sameOff s07 n0 b8
    have ol8 := ol.off x7 b8
    have x8 : upd H7 x (.ins T.cT dx [(("function" : Str), .ref a), (("least" : Str), l)]) x = some (.ins T.cT dx [(("function" : Str), .ref a), (("least" : Str), l)]) := upd_same
    generalize upd H7 x (.ins T.cT dx [(("function" : Str), .ref a), (("least" : Str), l)]) = H8 at b08 s08 x8 ol8 ⊢
    dsimp only [sFld]
    refine viaE (t := tIf _ _ _) (R := fun v H' => OR K H' v hi) (fun Q' k' => ?_) (fun m H9 s9 om => ?_)
    · rcases hm with ⟨rfl, e⟩ | ⟨q, n, e, aq, nn⟩
      · refine ⟨_, rfl, rfl, _, rfl, ?_⟩
        rw [nonT rfl]
        exact iteT (k' _ H8 (Same.refl _) (.inl ⟨rfl, e⟩))
      · refine ⟨_, rfl, rfl, _, rfl, ?_⟩
        rw [nonF aq.nn]
        exact iteF ⟨_, rfl, mv, _, rfl, .inl ⟨q, n, 4500, aq.same s08, by decide, fun v' H9 s9 rv => k' v' H9 s9 (.inr ⟨q, e, rv⟩)⟩⟩
    have x9 := s9 _ _ x8
    refine ⟨_, rfl, x, T.cT, dx, _, rfl, x9, T.clT, T.nTo3, (by show 2 < 1000; decide), ?_⟩
    rw [putT3]
    have b10 : But x H9 (upd H9 x (.ins T.cT dx (toF (.ref a) l m))) := But.refl.set
    exact k _ l m (fun c o e n => b10 c o (s9 _ _ (b08 c o e n)) n) upd_same ((ol8.same s9).off x9 b10) (om.off x9 b10)
end
end Kz
set_option linter.all false
set_option maxRecDepth 100000
set_option maxHeartbeats 4000000
set_option pp.maxSteps 400
namespace Kz
open PySem PySem.Spec PyProof.Rows L2
theorem pe_fldK {X : Cx} {K' : PySem.W.Frag} {e : Expr} {ta : TE} {f : Str} {pos : Pos} (he : PE X e ta) (hb : attributeBase e f X.env (eval e X.env) = eval e X.env) (ek : X.K = K' := by rfl) : PE X (.Attribute e f pos) (tFld K' ta f) := by
  subst ek
  exact pe_fld he hb
/-- a told mean, as numbers -/
structure Rm where
  ps : List (List Rat)
  as : List Rat
  lo : Option Rat
  hi : Option Rat
def TRs (K : PySem.W.Frag) (cT cB cP : Addr) (H : Hp) (us : List V) (ks : List Rat) (ms : List Rm) : Prop := us.length = ms.length ∧ ∀ (i : Nat) (u : V) (m : Rm), us[i]? = some u → ms[i]? = some m → ToAt K cT cB cP H u ks m.ps m.as m.lo m.hi
theorem TRs.same {K : PySem.W.Frag} {cT cB cP : Addr} {H H' : Hp} {us : List V} {ks : List Rat} {ms : List Rm} (s : Same H H') (h : TRs K cT cB cP H us ks ms) : TRs K cT cB cP H' us ks ms := ⟨h.1, fun i u m a b => (h.2 i u m a b).same s⟩
def FRs (K : PySem.W.Frag) (cB cP : Addr) (H : Hp) (fs : List V) (ks : List Rat) (ms : List Rm) : Prop := fs.length = ms.length ∧ ∀ (i : Nat) (f : V) (m : Rm), fs[i]? = some f → ms[i]? = some m → BrkAt K cB cP H f ks m.ps m.as ∧ KnF H f
theorem FRs.same {K : PySem.W.Frag} {cB cP : Addr} {H H' : Hp} {fs : List V} {ks : List Rat} {ms : List Rm} (s : Same H H') (h : FRs K cB cP H fs ks ms) : FRs K cB cP H' fs ks ms := ⟨h.1, fun i u m a b => ⟨(h.2 i u m a b).1.same s, (h.2 i u m a b).2.same s⟩⟩
theorem FRs.nil {K : PySem.W.Frag} {cB cP : Addr} {H : Hp} {ks : List Rat} : FRs K cB cP H [] ks [] := ⟨rfl, fun i u m a _ => by cases a⟩
theorem FRs.snoc {K : PySem.W.Frag} {cB cP : Addr} {H : Hp} {fs : List V} {ks : List Rat} {ms : List Rm} {f : V} {m : Rm} (h : FRs K cB cP H fs ks ms) (b : BrkAt K cB cP H f ks m.ps m.as) (n : KnF H f) : FRs K cB cP H (fs ++ [f]) ks (ms ++ [m]) := by
  refine ⟨by rw [List.length_append, List.length_append, h.1]; rfl, fun i g r a c => ?_⟩
  rcases Nat.lt_or_ge i fs.length with lt | ge
  · rw [List.getElem?_append_left lt] at a
    rw [List.getElem?_append_left (by rw [← h.1]; exact lt)] at c
    exact h.2 i g r a c
  · rw [List.getElem?_append_right ge] at a
    rw [List.getElem?_append_right (by rw [← h.1]; exact ge), ← h.1] at c
    match e : i - fs.length, a, c with
    | 0, a, c =>
      cases a
      cases c
      exact ⟨b, n⟩
    | k + 1, a, c =>
      cases a
section
variable {P : Program} {w : World} {K : PySem.W.Frag} {mg : Str → Option Value} {base : Heap}
def spFo (K : PySem.W.Frag) (cT cB cP : Addr) : Sp := fun vs H Q _ => ∃ a us ks ms, vs = [.ref a] ∧ (SqL K H a us ∨ SqT K H a us) ∧ TRs K cT cB cP H us ks ms ∧ us.length ≤ 20 ∧ ∀ l fs H', Same H H' → SqL K H' l fs → FRs K cB cP H' fs ks ms → Q (.ref l) H'
abbrev nFo : List Str := ["rows", "row"]
theorem sc48g : FnScope nFo ["rows"] (defScope (top 48)) := ⟨rfl, rfl, rfl, by decide +kernel, rfl, by decide +kernel, by decide +kernel⟩
theorem ok_fo (T : Tg P K mg) : FnOk P w K mg base CX0 1 T.funcs_of.f T.funcs_of.fd ["rows"] (spFo K T.cT T.cB T.cP) := by
  refine T.funcs_of.fn.ok sc48g (fun vs H Q E h => ?_) (fun cdv A outer s H vs Q E hr h => ?_)
  · obtain ⟨a, us, ks, ms, rfl, _⟩ := h
    rfl
  · obtain ⟨a, us, ks, ms, rfl, hs, tr, len, k⟩ := h
    refine ⟨_, pss_one (ps_ret (pe_lc (own := [("row", 1)]) (g := gName 1) (tt := tYes) rfl sc48g.nd (pi_or (pi_list (pv 0)) (pi_tup (pv 0))) (blkOk_by (own := [("row", 1)]) (N := nFo) (sc := defScope (top 48)) (by decide +kernel))
        (fun _ _ _ _ _ => pg_name (i := 1) sc48g.nd rfl (Or.inl rfl)) (fun _ _ _ _ _ => pts_nil) (fun _ _ _ _ _ => pe_fldK (K' := K) (pv 1) (by rfl)))), ?_⟩
    have step : ∀ (i : Nat) (x : V), us[i]? = some x → ∀ (acc : List V) (H' : Hp) (Qk : VK), FRs K T.cB T.cP H acc ks (ms.take i) → Same H H' → (∀ v' H4, Same H' H4 → FRs K T.cB T.cP H (acc ++ [v']) ks (ms.take (i + 1)) → Qk v' H4) →
        ∃ (a : Addr) (C dx : Addr) (fs : List (Str × V)) (v : V), x = .ref a ∧ H' a = some (.ins C dx fs) ∧ Cls K C ∧ NoAttr K C "function" ∧ fs.lookup ("function" : Str) = some v ∧ Qk v H' := by
      intro i x hx acc H' Qk r s1 kk
      have lt : i < ms.length := by
        have := (List.getElem?_eq_some_iff.mp hx).1
        have := tr.1
        omega
      obtain ⟨a', dx, f, l, m, rfl, ha, hb, hn, _, _⟩ := tr.2 i x _ hx (List.getElem?_eq_getElem lt)
      refine ⟨a', T.cT, dx, _, f, rfl, s1 _ _ ha, T.clT, T.nTo1, lkT1, kk f H' (Same.refl _) ?_⟩
      rw [take_snoc (List.getElem?_eq_getElem lt)]
      exact r.snoc hb hn
    have fin : ∀ (D : Addr) acc H2, H2 D = some (.lst acc) → FRs K T.cB T.cP H acc ks (ms.take us.length) → Same H H2 → Q (.ref D) H2 := by
      intro D acc H2 hacc r s2
      rw [tr.1, List.take_length] at r
      exact k D acc H2 s2 (SqL.of hacc) (r.same s2)
    rcases hs with hs | hs
    · refine .inl ⟨_, rfl, a, rfl, ⟨_, hs⟩, fun D hD => ?_⟩
      refine lc_mapL hs (by omega) hD (fun i acc _ => FRs K T.cB T.cP H acc ks (ms.take i)) bears_pure FRs.nil ?_ ?_
      · rintro i x hx acc H' Qk Z la r s1 kk
        refine ⟨rfl, ?_⟩
        dsimp only [tYes]
        exact iteT ⟨_, rfl, step i x hx acc H' Qk r s1 kk⟩
      · rintro acc H2 hacc lacc r s2
        exact fin D acc H2 hacc r s2
    · refine .inr ⟨_, rfl, a, rfl, ⟨_, hs⟩, fun D hD => ?_⟩
      refine lc_mapT hs (by omega) hD (fun i acc _ => FRs K T.cB T.cP H acc ks (ms.take i)) bears_pure FRs.nil ?_ ?_
      · rintro i x hx acc H' Qk Z la r s1 kk
        refine ⟨rfl, ?_⟩
        dsimp only [tYes]
        exact iteT ⟨_, rfl, step i x hx acc H' Qk r s1 kk⟩
      · rintro acc H2 hacc lacc r s2
        exact fin D acc H2 hacc r s2
/-- functions on one stretch -/
def spSt (K : PySem.W.Frag) (cB cP : Addr) : Sp := fun vs H Q _ => ∃ a fs ks ms, vs = [.ref a] ∧ SqL K H a fs ∧ FRs K cB cP H fs ks ms ∧ 0 < ks.length ∧ Q .non H
abbrev nSt : List Str := ["functions", "f"]
theorem sc47g : FnScope nSt ["functions"] (defScope (top 47)) := ⟨rfl, rfl, rfl, by decide +kernel, rfl, by decide +kernel, by decide +kernel⟩
theorem ok_st (T : Tg P K mg) : FnOk P w K mg base (CX P w) 4 T.check_st.f T.check_st.fd ["functions"] (spSt K T.cB T.cP) := by
  refine T.check_st.fn.okX sc47g (fun vs H Q E h => ?_) (fun cdv A outer s H vs Q E hr h => ?_)
  · obtain ⟨a, fs, ks, ms, rfl, _⟩ := h
    rfl
  · obtain ⟨a, fs, ks, ms, rfl, hs, fr, kp, k⟩ := h
    have hu := hr.units
    have tk := takes_of (X := cxOf (CX P w) P w K mg base nSt "check_one_stretch" (defScope (top 47)) T.check_st.f cdv A outer s H E) (E := E) rfl rfl rfl rfl
    refine ⟨_, pss_one (ps_for (passes_of rfl) rfl (pi_list (pv 0)) (pg_name (i := 1) sc47g.nd rfl (.inl rfl))
      (pss_one (ps_if (PW.pt (pw_or (pt_cmpR (op_neDK (K' := K) hu) (pe_ix ix_tup (pe_fld (pv 1) (by rfl)) pe_int (fun _ _ => rfl)) (pe_ix ix_tup (pe_fld (pe_ix ix_list (pv 0) pe_int (fun _ _ => rfl)) (by rfl)) pe_int (fun _ _ => rfl)) (nomark _))
          (pw_or1 (pt_cmpR (op_neDK (K' := K) hu) (pe_ix ix_tup (pe_fld (pv 1) (by rfl)) (pe_un un_neg pe_int) (fun _ _ => rfl)) (pe_ix ix_tup (pe_fld (pe_ix ix_list (pv 0) pe_int (fun _ _ => rfl)) (by rfl)) (pe_un un_neg pe_int) (fun _ _ => rfl)) (nomark _)))))
        (pss_one (ps_raise rfl tk (pmk_oex (CX := CX0) T.eU.o T.iU.i T.iU.t (ok_i6 T.iU.fn) (hr.mono (by decide)) T.bU .nil pass0 rfl T.eU.g (pa_cons pe_str pa_nil)))) pss_nil))), ?_⟩
    refine ⟨_, rfl, a, rfl, ⟨_, hs⟩, for_list (K := K) (a := a) (xs := fs) (fun i σ H' => H' = H ∧ ∃ v, σ = [some (.ref a), v]) ⟨rfl, _, rfl⟩ (fun i σ H' _ ⟨e, _⟩ => e ▸ hs) ?_ ?_⟩
    · rintro i f σ H' hf ⟨rfl, v, rfl⟩
      have lt : i < ms.length := by
        have := (List.getElem?_eq_some_iff.mp hf).1
        have := fr.1
        omega
      obtain ⟨f0, e0⟩ : ∃ f0, fs[0]? = some f0 := ⟨_, List.getElem?_eq_getElem (by have := fr.1; omega)⟩
      obtain ⟨⟨b, dx, t1, t2, t3, w1, us, w3, rfl, hb, h1, a1, _⟩, _⟩ := fr.2 i f _ hf (List.getElem?_eq_getElem lt)
      obtain ⟨⟨b', dx', t1', t2', t3', w1', us', w3', rfl, hb', h1', a1', _⟩, _⟩ := fr.2 0 f0 _ e0 (List.getElem?_eq_getElem (by omega))
      have l1 := a1.1
      have l1' := a1'.1
      obtain ⟨v0, ev0, r0⟩ := a1.get (i := 0) kp
      obtain ⟨u0, eu0, q0⟩ := a1'.get (i := 0) kp
      obtain ⟨vl, evl, rl⟩ := a1.get (i := ks.length - 1) (by omega)
      obtain ⟨ul, eul, ql⟩ := a1'.get (i := ks.length - 1) (by omega)
      refine ⟨_, rfl, b, T.cB, dx, _, _, rfl, hb, T.clB, T.nB1, lkB1, t1, w1, _, _, rfl, rfl, h1, atI_nat (j := 0) ev0, ?_⟩
      refine ⟨_, rfl, a, fs, _, _, rfl, rfl, hs, atI_nat (j := 0) e0, b', T.cB, dx', _, _, rfl, hb', T.clB, T.nB1, lkB1, t1', w1', _, _, rfl, rfl, h1', atI_nat (j := 0) eu0, ?_⟩
      refine ⟨_, _, r0.dp, q0.dp, pdQ_shaped _, pdQ_shaped _, ?_⟩
      rw [eqv_pdQ, decide_eq_true rfl]
      refine ⟨_, rfl, iteF ?_⟩
      refine ⟨_, rfl, b, T.cB, dx, _, _, rfl, hb, T.clB, T.nB1, lkB1, _, rfl, t1, w1, _, _, rfl, rfl, h1, atI_last (by rw [l1]; exact evl), ?_⟩
      refine ⟨_, rfl, a, fs, _, _, rfl, rfl, hs, atI_nat (j := 0) e0, b', T.cB, dx', _, _, rfl, hb', T.clB, T.nB1, lkB1, _, rfl, t1', w1', _, _, rfl, rfl, h1', atI_last (by rw [l1']; exact eul), ?_⟩
      refine ⟨_, _, rl.dp, ql.dp, pdQ_shaped _, pdQ_shaped _, ?_⟩
      rw [eqv_pdQ, decide_eq_true rfl]
      exact ⟨_, rfl, iteF ⟨rfl, _, rfl⟩⟩
    · rintro σ H' ⟨rfl, v, rfl⟩
      exact k
/-- places on a stretch -/
def spIn (K : PySem.W.Frag) (cS : Addr) : Sp := fun vs H Q _ => ∃ sv u v xs parts l h, vs = [sv, u, v] ∧ ShAt K cS H sv xs parts ∧ 0 < xs.length ∧ (∀ x ∈ xs, Mz 8 19 x) ∧ RV K H u l ∧ RV K H v h ∧ Mz 20 40 l ∧ Mz 20 40 h ∧ (∀ x ∈ xs, l ≤ x ∧ x ≤ h) ∧ ∀ H', Same H H' → Q (.bl true) H'
theorem sc45g : FnScope ["share", "low", "high"] ["share", "low", "high"] (defScope (top 45)) := ⟨rfl, rfl, rfl, by decide +kernel, rfl, by decide +kernel, by decide +kernel⟩
theorem ok_in (T : Tg P K mg) : FnOk P w K mg base CX0 6 T.is_within.f T.is_within.fd ["share", "low", "high"] (spIn K T.cS) := by
  have G : FnOk P w K mg base (CX P w) 5 T.lower.f T.lower.fd ["one", "other"] (spTwo K T.cN cBin (fun _ v q r => v = .bl (decide (q < r)))) := ok_lower T.toTx
  refine T.is_within.fn.ok sc45g (fun vs H Q E h => ?_) (fun cdv A outer s H vs Q E hr h => ?_)
  · obtain ⟨sv, u, v, xs, parts, l, h, rfl, _⟩ := h
    rfl
  · obtain ⟨sv, u, v, xs, parts, lo, hi, rfl, ⟨a, dx, t1, t2, w1, w2, rfl, ha, h1, a1, h2, a2⟩, pos, zx, ru, rv, zl, zh, bd, k⟩ := h
    refine ⟨_, pss_one (ps_ret (pe_and (pe_not (T.lower.cX G hr (pa_cons (pe_ix ix_tup (pe_fld (pv 0) (by rfl)) pe_int (fun _ _ => rfl)) (pa_cons (pv 1) pa_nil))))
      (pe_one (pe_not (T.lower.cX G hr (pa_cons (pv 2) (pa_cons (pe_ix ix_tup (pe_fld (pv 0) (by rfl)) (pe_un un_neg pe_int) (fun _ _ => rfl)) pa_nil))))))), ?_⟩
    have l1 := a1.1
    obtain ⟨v0, ev0, r0⟩ := a1.get (i := 0) pos
    obtain ⟨vl, evl, rl⟩ := a1.get (i := xs.length - 1) (by omega)
    have m0 : cf xs 0 ∈ xs := cf_mem pos
    have ml : cf xs (xs.length - 1) ∈ xs := cf_mem (by omega)
    refine ⟨_, rfl, a, T.cS, dx, _, _, rfl, ha, T.clS, T.nSh1, lkS1, t1, w1, _, _, rfl, rfl, h1, atI_nat (j := 0) ev0, ?_⟩
    refine ⟨_, rfl, v0, u, rfl, .inl ⟨_, _, 27, 19, 60, 40, r0.arg (zx _ m0).sz, ru.arg zl.sz, by decide, by decide, ⟨by decide, by decide⟩, fun b1 H1 s1 e1 => ?_⟩⟩
    subst e1
    rw [decide_eq_false (Rat.not_lt.mpr (bd _ m0).1)]
    refine ⟨_, rfl, _, rfl, iteT ⟨_, rfl, _, rfl, a, T.cS, dx, _, _, rfl, s1 _ _ ha, T.clS, T.nSh1, lkS1, _, rfl, t1, w1, _, _, rfl, rfl, Kz.Same.seqT s1 h1, atI_last (by rw [l1]; exact evl), ?_⟩⟩
    refine ⟨v, vl, rfl, .inl ⟨_, _, 60, 40, 27, 19, (rv.same s1).arg zh.sz, (rl.same s1).arg (zx _ ml).sz, by decide, by decide, ⟨by decide, by decide⟩, fun b2 H2 s2 e2 => ?_⟩⟩
    subst e2
    rw [decide_eq_false (Rat.not_lt.mpr (bd _ ml).2)]
    exact ⟨_, rfl, k H2 (s1.trans s2)⟩
end
end Kz
set_option linter.all false
set_option maxRecDepth 100000
set_option maxHeartbeats 4000000
set_option pp.maxSteps 400
namespace Kz
open PySem PySem.Spec PyProof.Rows L2
theorem pi_tupK {X : Cx} {K' : PySem.W.Frag} {tg e : Expr} {ta : TE} (he : PE X e ta) (ek : X.K = K' := by rfl) : PI X tg e (iTup K' ta) := by
  subst ek
  exact pi_tup he
open Classical in
/-- the value at a place -/
noncomputable def vq (ks : List Rat) (ps : List (List Rat)) (as : List Rat) (x : Rat) : Rat := if h : ∃ y, Vat ks ps as x y then Classical.choose h else 0
theorem vq_of {ks : List Rat} {ps : List (List Rat)} {as : List Rat} {x y : Rat} (F : Fsz ks ps) (h : Vat ks ps as x y) : vq ks ps as x = y := by
  have e : ∃ y, Vat ks ps as x y := ⟨y, h⟩
  unfold vq
  rw [dif_pos e]
  exact vat_one F (Classical.choose_spec e) h
/-- the share, as numbers -/
structure ShOk (xs parts : List Rat) : Prop where
  pos : 0 < xs.length
  few : xs.length ≤ 6
  len : parts.length = xs.length
  zx : ∀ x ∈ xs, Mz 8 19 x
  zp : ∀ p ∈ parts, Mz 1 6 p
structure RmOk (ks xs : List Rat) (m : Rm) : Prop where
  F : Fsz ks m.ps
  kf : ks.length ≤ 5
  la : m.as.length = ks.length
  za : ∀ q ∈ m.as, Mz 55 737 q
  pz : ∀ j, j < m.ps.length → Pz j (pv' m.ps j)
  rg : ∀ x ∈ xs, cf ks 0 ≤ x ∧ x ≤ cf ks (ks.length - 1)
theorem RmOk.vz {ks xs : List Rat} {m : Rm} (h : RmOk ks xs m) {x y : Rat} (zx : Mz 8 19 x) (v : Vat ks m.ps m.as x y) : Mz 55 737 y := by
  rcases v with ⟨k, hk, _, rfl⟩ | ⟨k, hk, _, rfl⟩
  · have l := h.F.len
    have f := h.kf
    exact ((h.pz k hk).ev zx).up (by omega) (by omega)
  · exact h.za _ (mem_cf (by rw [h.la]; exact hk))
noncomputable def mnQ (ks xs parts : List Rat) (m : Rm) : Rat := dotR (xs.map (vq ks m.ps m.as)) parts
theorem dot_mz : ∀ {vs ps : List Rat}, (∀ v ∈ vs, Mz 55 737 v) → (∀ p ∈ ps, Mz 1 6 p) → Mz (57 + vs.length) (1 + 743 * vs.length) (dotR vs ps)
  | [], _, _, _ => mz_zero (by omega)
  | _ :: _, [], _, _ => mz_zero (by omega)
  | v :: vs, p :: ps, h, g => by
    have ih := dot_mz (vs := vs) (ps := ps) (fun q hq => h q (List.mem_cons_of_mem _ hq)) (fun q hq => g q (List.mem_cons_of_mem _ hq))
    have a := mul_mz (h v List.mem_cons_self) (g p List.mem_cons_self)
    refine (add_mz a ih).up ?_ ?_
    · simp only [List.length_cons]
      omega
    · simp only [List.length_cons]
      omega
section
variable {P : Program} {w : World} {K : PySem.W.Frag} {mg : Str → Option Value} {base : Heap}
def spMo (K : PySem.W.Frag) (cS cB cP : Addr) : Sp := fun vs H Q _ => ∃ sv a fs xs parts ks ms, vs = [sv, .ref a] ∧ ShAt K cS H sv xs parts ∧ ShOk xs parts ∧ SqL K H a fs ∧ FRs K cB cP H fs ks ms ∧ fs.length ≤ 20 ∧ (∀ m ∈ ms, RmOk ks xs m) ∧
  ∀ l us H', Same H H' → SqL K H' l us → Al K H' us (ms.map (mnQ ks xs parts)) → (∀ m ∈ ms, ∀ x ∈ xs, Vat ks m.ps m.as x (vq ks m.ps m.as x)) → Q (.ref l) H'
abbrev nMn : List Str := ["share", "functions", "f", "place"]
def scMo : Scope := { kind := ScopeKind.function, names := [((".0" : Str), .local), ("f", .cell), ("joint_sum", .globalImplicit), ("share", .free)], isGenerator := false, isCoroutine := false }
theorem sc46g : FnScope nMn ["share", "functions"] (defScope (top 46)) := ⟨rfl, rfl, rfl, by decide +kernel, rfl, by decide +kernel, by decide +kernel⟩
theorem ok_mo (T : Tg P K mg) : FnOk P w K mg base CX0 9 T.means_of.f T.means_of.fd ["share", "functions"] (spMo K T.cS T.cB T.cP) := by
  have Gv : FnOk P w K mg base (CX P w) 7 T.b_value.f T.b_value.fd ["self", "x"] (spBval K T.cB T.cP T.cN) := ok_bval T.toTb
  have Gj : FnOk P w K mg base CX0 3 T.jsum.f T.jsum.fd ["row", "amounts"] (spJ1 K) := ok_j1 T
  refine T.means_of.fn.ok sc46g (fun vs H Q E h => ?_) (fun cdv A outer s H vs Q E hr h => ?_)
  · obtain ⟨sv, a, fs, xs, parts, ks, ms, rfl, _⟩ := h
    rfl
  · obtain ⟨sv, a, fs, xs, parts, ks, ms, rfl, sh, so, hs, fr, len, mo, k⟩ := h
    have hr7 : Room 7 _ := hr.mono (by decide)
    have hr3 : Room 3 _ := hr.mono (by decide)
    refine ⟨_, pss_one (ps_ret (pe_lc (own := [("f", 2)]) (g := gName 2) (tt := tYes) rfl sc46g.nd (pi_list (pv 1)) (blkOk_by (own := [("f", 2)]) (N := nMn) (sc := defScope (top 46)) (by decide +kernel))
        (fun _ _ _ _ _ => pg_name (i := 2) sc46g.nd rfl (Or.inr rfl)) (fun _ _ _ _ _ => pts_nil)
        (fun _ _ _ _ _ => T.jsum.c0 Gj hr3 (pa_cons (pe_lc (own := [("place", 3)]) (g := gName 3) (tt := tYes) rfl sc46g.nd (pi_tupK (K' := K) (pe_fldK (K' := K) (pv 0) (by rfl))) (blkOk_by (own := [("place", 3)]) (N := nMn) (sc := relS scMo (defScope (top 46))) (by decide +kernel))
            (fun _ _ _ _ _ => pg_name (i := 3) sc46g.nd rfl (Or.inl rfl)) (fun _ _ _ _ _ => pts_nil)
            (fun _ _ _ _ _ => pe_meth (pv 2) T.clB T.b_value.me Gv hr7 T.b_value.b .nil passL (pa_cons (pv 3) pa_nil)))
          (pa_cons (pe_fldK (K' := K) (pv 0) (by rfl)) pa_nil))))), ?_⟩
    obtain ⟨sa, sx, t1, t2, w1, w2, rfl, hsa, h1, a1, h2, a2⟩ := id sh
    have lf := fr.1
    have l1 := a1.1
    have zpp : ∀ p ∈ parts, Mz 1 6 p := so.zp
    have zx27 : ∀ x ∈ xs, Sz 27 19 x := fun x hx => (so.zx x hx).sz
    refine ⟨_, rfl, a, rfl, ⟨_, hs⟩, fun D hD => ?_⟩
    have vatAll : ∀ i (h : i < ms.length), (∀ x ∈ xs, ∃ y, Vat ks (ms[i]).ps (ms[i]).as x y) → ∀ x ∈ xs, Vat ks (ms[i]).ps (ms[i]).as x (vq ks (ms[i]).ps (ms[i]).as x) := fun i h g x hx => by
      obtain ⟨y, hy⟩ := g x hx
      rw [vq_of (mo _ (List.getElem_mem h)).F hy]
      exact hy
    refine lc_mapL hs (by omega) hD (fun i acc H' => Al K H' acc ((ms.map (mnQ ks xs parts)).take i) ∧ ∀ m ∈ ms.take i, ∀ x ∈ xs, Vat ks m.ps m.as x (vq ks m.ps m.as x)) (fun i acc H H' l b h => ⟨bears_al i acc H H' l b h.1, h.2⟩) ⟨Al.nil, fun m hm => by cases hm⟩ ?_ ?_
    · rintro i x hx acc H1 Qk Z la ⟨r, rv⟩ s1 kk
      have lt : i < ms.length := by
        have := (List.getElem?_eq_some_iff.mp hx).1
        omega
      have em : ms[i]? = some ms[i] := List.getElem?_eq_getElem lt
      obtain ⟨hb, hn⟩ := fr.2 i x _ hx em
      have mk := mo _ (List.getElem_mem lt)
      generalize em' : ms[i] = m at *
      refine ⟨rfl, ?_⟩
      dsimp only [tYes]
      refine iteT ⟨_, rfl, sa, T.cS, sx, _, _, rfl, s1 _ _ hsa, T.clS, T.nSh1, lkS1, t1, rfl, ⟨_, Kz.Same.seqT s1 h1⟩, fun D2 hD2 => ?_⟩
      refine lc_mapT (Kz.Same.seqT s1 h1) (by have := so.few; omega) hD2 (fun j ac H' => Al K H' ac ((xs.map (vq ks m.ps m.as)).take j) ∧ ∀ x ∈ xs.take j, Vat ks m.ps m.as x (vq ks m.ps m.as x)) (fun i acc H H' l b h => ⟨bears_al i acc H H' l b h.1, h.2⟩) ⟨Al.nil, fun x hx => by cases hx⟩ ?_ ?_
      · rintro j y hy ac H2 Qj Zj lj ⟨rj, vj⟩ s2 kj
        have s12 := s1.trans s2
        have ltj : j < xs.length := by
          have := (List.getElem?_eq_some_iff.mp hy).1
          omega
        have ry := (a1.2 j y _ hy (at_cf ltj)).same s12
        have mem : cf xs j ∈ xs := cf_mem ltj
        obtain ⟨b, dx, q1, q2, q3, v1, vs2, v3, rfl, hbb, _⟩ := id hb
        refine ⟨rfl, ?_⟩
        dsimp only [tYes]
        refine iteT ⟨_, rfl, b, dx, _, rfl, s12 _ _ hbb, lkBva, _, rfl, .ref b, y, ks, m.ps, m.as, rfl, hb.same s12, hn.same s12, mk.F, mk.la, .inl ⟨cf xs j, ⟨27, 19, ry.arg (zx27 _ mem), zx27 _ mem, by decide, by decide, by decide, mk.rg _ mem⟩, fun u H3 rr s3 ru va => ?_⟩⟩
        have e := vq_of mk.F va
        subst e
        refine kj u H3 s3 ⟨?_, ?_⟩
        · have e2 : (xs.map (vq ks m.ps m.as))[j]? = some (vq ks m.ps m.as (cf xs j)) := by rw [List.getElem?_map, at_cf ltj]; rfl
          rw [take_snoc e2]
          exact (rj.same s3).snoc ru
        · rw [take_snoc (at_cf ltj)]
          intro z hz
          rcases List.mem_append.mp hz with hz | hz
          · exact vj z hz
          · rw [List.mem_singleton.mp hz]
            exact va
      · rintro ac H2 hac lac ⟨rj, vj⟩ s2
        have s12 := s1.trans s2
        have lm : (xs.map (vq ks m.ps m.as)).length = xs.length := List.length_map _
        rw [l1, List.take_length] at vj
        rw [l1, ← lm, List.take_length] at rj
        have zv : ∀ v ∈ xs.map (vq ks m.ps m.as), Mz 55 737 v := fun v hv => by
          obtain ⟨x, hx, rfl⟩ := List.mem_map.mp hv
          exact mk.vz (so.zx x hx) (vj x hx)
        refine ⟨_, rfl, sa, T.cS, sx, _, _, rfl, s12 _ _ hsa, T.clS, T.nSh2, lkS2, ?_⟩
        refine ⟨D2, t2, ac, xs.map (vq ks m.ps m.as), w2, parts, 792, 737, 7, 6, rfl, SqL.of hac, rj, fun i hi => (zv _ (cf_mem hi)).sz, Kz.Same.seqT s12 h2, a2.same s12, fun i hi => (zpp _ (cf_mem hi)).sz, by rw [lm, so.len], by rw [lm]; have := so.few; omega, by decide, by decide, by decide, by decide, ?_, fun v H3 s3 rr => ?_⟩
        · rw [lm]
          have := so.few
          omega
        · have e2 : (ms.map (mnQ ks xs parts))[i]? = some (mnQ ks xs parts m) := by rw [List.getElem?_map, em]; rfl
          refine kk v H3 (s2.trans s3) ⟨?_, ?_⟩
          · rw [take_snoc e2]
            exact (r.same (s2.trans s3)).snoc rr
          · rw [take_snoc em]
            intro z hz
            rcases List.mem_append.mp hz with hz | hz
            · exact rv z hz
            · rw [List.mem_singleton.mp hz]
              exact vj
    · rintro acc H2 hacc lacc ⟨r, rv⟩ s2
      have lm : (ms.map (mnQ ks xs parts)).length = ms.length := List.length_map _
      rw [lf, List.take_length] at rv
      rw [lf, ← lm, List.take_length] at r
      exact k D acc H2 s2 (SqL.of hacc) r rv
end
end Kz
set_option linter.all false
set_option maxRecDepth 100000
set_option maxHeartbeats 4000000
set_option pp.maxSteps 400
namespace Kz
open PySem PySem.Spec PyProof.Rows L2
theorem viaS {t : TS} {D : Ends} {σ : L2.St} {H : Hp} (R : L2.St → Hp → Prop) (h : ∀ D' : Ends, (∀ σ' H', Same H H' → R σ' H' → D'.nx σ' H') → t D' σ H) (k : ∀ σ' H', Same H H' → R σ' H' → D.nx σ' H') : t D σ H := h D k
/-- by how much a number is missed, at least g -/
def up1 (g x : Rat) : Rat := if g < x then x else g
def gs (g q : Rat) (m : Rm) : Rat :=
  let g1 := match m.lo with
    | none => g
    | some b => up1 g (b - q)
  match m.hi with
  | none => g1
  | some b => up1 g1 (q - b)
def gapT (qs : List Rat) (ms : List Rm) (i : Nat) : Rat := ((qs.zip ms).take i).foldl (fun g p => gs g p.1 p.2) 0
theorem gapT_snoc {qs : List Rat} {ms : List Rm} {i : Nat} {q : Rat} {m : Rm} (hq : qs[i]? = some q) (hm : ms[i]? = some m) : gapT qs ms (i + 1) = gs (gapT qs ms i) q m := by
  have e : (qs.zip ms)[i]? = some (q, m) := by
    rw [List.getElem?_zip_eq_some]
    exact ⟨hq, hm⟩
  unfold gapT
  rw [take_snoc e, List.foldl_append]
  rfl
/-- the sizes of what is compared -/
structure Gsz (q : Rat) (m : Rm) : Prop where
  zq : Mz 64 4459 q
  zl : ∀ b, m.lo = some b → Sz 10000 4500 b ∧ Mz 60 60 (b - q)
  zh : ∀ b, m.hi = some b → Sz 10000 4500 b ∧ Mz 60 60 (q - b)
theorem up1_mz {a m : Nat} {g x : Rat} (h : Mz a m g) (h' : Mz a m x) : Mz a m (up1 g x) := by
  unfold up1
  by_cases c : g < x
  · rw [if_pos c]; exact h'
  · rw [if_neg c]; exact h
section
variable {P : Program} {w : World} {K : PySem.W.Frag} {mg : Str → Option Value} {base : Heap}
def spGm (K : PySem.W.Frag) (cT cB cP : Addr) : Sp := fun vs H Q _ => ∃ l a nums us qs ks ms, vs = [.ref l, .ref a] ∧ SqL K H l nums ∧ Al K H nums qs ∧ (SqL K H a us ∨ SqT K H a us) ∧ TRs K cT cB cP H us ks ms ∧ qs.length = ms.length ∧
  (∀ (i : Nat) (q : Rat) (m : Rm), qs[i]? = some q → ms[i]? = some m → Gsz q m) ∧ ∀ v H', Same H H' → RV K H' v (gapT qs ms ms.length) → Q v H'
abbrev nGm : List Str := ["found", "rows", "most", "number", "row"]
theorem sc49g : FnScope nGm ["found", "rows"] (defScope (top 49)) := ⟨rfl, rfl, rfl, by decide +kernel, rfl, by decide +kernel, by decide +kernel⟩
theorem ok_gm (T : Tg P K mg) : FnOk P w K mg base CX0 6 T.gap_missed.f T.gap_missed.fd ["found", "rows"] (spGm K T.cT T.cB T.cP) := by
  have G1 : FnOk P w K mg base (CX P w) 5 T.lower.f T.lower.fd ["one", "other"] (spTwo K T.cN cBin (fun _ v q r => v = .bl (decide (q < r)))) := ok_lower T.toTx
  have G2 : FnOk P w K mg base (CX P w) 5 T.minus.f T.minus.fd ["one", "other"] (spTwo K T.cN cBin (fun H v q r => RV K H v (q - r))) := ok_minus T.toTx
  refine T.gap_missed.fn.ok sc49g (fun vs H Q E h => ?_) (fun cdv A outer s H vs Q E hr h => ?_)
  · obtain ⟨l, a, nums, us, qs, ks, ms, rfl, _⟩ := h
    rfl
  · obtain ⟨l, a, nums, us, qs, ks, ms, rfl, hl, al, hs, tr, len, gz, k⟩ := h
    refine ⟨_, pss_cons (ps_set (i := 2) sc49g.nd rfl (.inl rfl) (pe_tup (pa_cons pe_int (pa_cons pe_int pa_nil))))
      (pss_cons (ps_for PassesOwn.never rfl (pi_zipM (by rfl) T.mZip (pa_cons (pv 0) (pa_cons (pv 1) pa_nil))) (pg_tup (by rfl) (pgs_cons (pg_name (i := 3) sc49g.nd rfl (.inl rfl)) (pgs_cons (pg_name (i := 4) sc49g.nd rfl (.inl rfl)) pgs_nil)))
        (pss_cons (ps_if (PW.pt (pw_and (pt_cmpR op_notN (pe_fld (pv 4) (by rfl)) pe_non (nomark _)) (pw_and1 (pt_val (T.lower.cX G1 hr (pa_cons (pv 2) (pa_cons (T.minus.cX G2 hr (pa_cons (pe_fld (pv 4) (by rfl)) (pa_cons (pv 3) pa_nil))) pa_nil)))))))
            (pss_one (ps_set (i := 2) sc49g.nd rfl (.inl rfl) (T.minus.cX G2 hr (pa_cons (pe_fld (pv 4) (by rfl)) (pa_cons (pv 3) pa_nil))))) pss_nil)
        (pss_one (ps_if (PW.pt (pw_and (pt_cmpR op_notN (pe_fld (pv 4) (by rfl)) pe_non (nomark _)) (pw_and1 (pt_val (T.lower.cX G1 hr (pa_cons (pv 2) (pa_cons (T.minus.cX G2 hr (pa_cons (pv 3) (pa_cons (pe_fld (pv 4) (by rfl)) pa_nil))) pa_nil)))))))
            (pss_one (ps_set (i := 2) sc49g.nd rfl (.inl rfl) (T.minus.cX G2 hr (pa_cons (pv 3) (pa_cons (pe_fld (pv 4) (by rfl)) pa_nil))))) pss_nil))))
      (pss_one (ps_ret (pv 2)))), ?_⟩
    refine ⟨(by show 2 ≤ sizeLine; decide), fun p0 n0 => ?_⟩
    have s1 := Same.new (o := .tup [V.int 0, V.int 1]) n0
    have e1 : upd H p0 (.tup [V.int 0, V.int 1]) p0 = some (.tup [V.int 0, V.int 1]) := upd_same
    generalize upd H p0 (.tup [V.int 0, V.int 1]) = H1 at s1 e1 ⊢
    have r0 : RV K H1 (.ref p0) 0 := ⟨p0, rfl, SqT.of e1⟩
    have ln : nums.length = us.length := by have := al.1; have := tr.1; omega
    have zG : ∀ i, i ≤ ms.length → Mz 60 60 (gapT qs ms i) := by
      intro i
      induction i with
      | zero => exact fun _ => mz_zero (by decide)
      | succ i ih =>
        intro hi
        have eq := at_cf (qs := qs) (i := i) (by omega)
        have em : ms[i]? = some ms[i] := List.getElem?_eq_getElem (by omega)
        have z := gz i _ _ eq em
        rw [gapT_snoc eq em]
        unfold gs
        cases el : (ms[i]).lo with
        | none =>
          cases eh : (ms[i]).hi with
          | none => exact ih (by omega)
          | some b => exact up1_mz (ih (by omega)) (z.zh b eh).2
        | some b =>
          cases eh : (ms[i]).hi with
          | none => exact up1_mz (ih (by omega)) (z.zl b el).2
          | some c => exact up1_mz (up1_mz (ih (by omega)) (z.zl b el).2) (z.zh c eh).2
    refine ⟨_, rfl, _, rfl, l, a, nums, us, rfl, Same.seq s1 hl, ?_⟩
    rcases hs with hs | hs
    · refine .inl ⟨Same.seq s1 hs, RZ.for_zipL (K := K) (a := l) (b := a) (xs := nums) (ys := us) ln (fun i σ H' => ∃ mv n3 n4, σ = [some (.ref l), some (.ref a), some mv, n3, n4] ∧ Same H H' ∧ RV K H' mv (gapT qs ms i)) ⟨_, _, _, rfl, s1, r0⟩ (fun i σ H' ⟨_, _, _, _, s, _⟩ => ⟨Same.seq s hl, Same.seq s hs⟩) ?_ ?_⟩
      · rintro i x y p σ H2 hx hy ⟨mv, n3, n4, rfl, s2, rm⟩ np
        have s3 := Same.new (o := .tup [x, y]) np
        have ep : upd H2 p (.tup [x, y]) p = some (.tup [x, y]) := upd_same
        have ly : i < ms.length := by
          have := (List.getElem?_eq_some_iff.mp hy).1
          have := tr.1
          omega
        have eq := at_cf (qs := qs) (i := i) (by omega)
        have em : ms[i]? = some ms[i] := List.getElem?_eq_getElem ly
        have z := gz i _ _ eq em
        have s23 := s2.trans s3
        have rx := (al.2 i x _ hx eq).same s23
        obtain ⟨ta, tx, f, lv, hv, rfl, hta, _, _, ol, oh⟩ := (tr.2 i y _ hy em).same s23
        have gi := zG i (by omega)
        have rm' := rm.same s3
        have gn := gapT_snoc eq em
        refine ⟨p, _, rfl, SqT.of upd_same, rfl, _, _, rfl, _, _, rfl, rfl, ?_⟩
        generalize upd H2 p (.tup [x, V.ref ta]) = H3 at s3 ep s23 rx hta ol oh rm' ⊢
        generalize ms[i] = m at *
        generalize cf qs i = q at *
        have zq := z.zq.sz
        dsimp only [tSeq]
        refine viaS (t := tIfS _ _ _) (R := fun σ' H' => ∃ mv', σ' = [some (.ref l), some (.ref a), some mv', some x, some (.ref ta)] ∧ RV K H' mv' (match m.lo with | none => gapT qs ms i | some b => up1 (gapT qs ms i) (b - q))) (fun D' k' => ?_) ?_
        · rcases ol with ⟨rfl, e⟩ | ⟨b, e, rb⟩
          · rw [e] at k'
            refine ⟨_, rfl, ta, T.cT, tx, _, _, rfl, hta, T.clT, T.nTo2, lkT2, rfl, _, rfl, ?_⟩
            rw [nonT rfl]
            exact iteF (iteF (k' _ _ (Same.refl _) ⟨mv, rfl, rm'⟩))
          · rw [e] at k'
            obtain ⟨zb, zd⟩ := z.zl b e
            refine ⟨_, rfl, ta, T.cT, tx, _, _, rfl, hta, T.clT, T.nTo2, lkT2, rfl, _, rfl, ?_⟩
            rw [nonF rb.nn]
            refine iteT ⟨_, rfl, _, rfl, ta, T.cT, tx, _, _, rfl, hta, T.clT, T.nTo2, lkT2, _, rfl, lv, x, rfl, .inl ⟨b, q, 10000, 4500, 64 + 4459, 4459, rb.arg zb, rx.arg zq, by decide, by decide, ⟨by decide, by decide⟩, fun v' H4 s4 rv => ?_⟩⟩
            refine ⟨mv, v', rfl, .inl ⟨gapT qs ms i, b - q, 120, 60, 120, 60, (rm'.same s4).arg gi.sz, rv.arg zd.sz, by decide, by decide, ⟨by decide, by decide⟩, fun v2 H5 s5 e2 => ?_⟩⟩
            subst e2
            have s35 := s4.trans s5
            refine ⟨_, rfl, ?_⟩
            by_cases c : gapT qs ms i < b - q
            · rw [decide_eq_true c]
              refine iteT ⟨_, rfl, ta, T.cT, tx, _, _, rfl, s35 _ _ hta, T.clT, T.nTo2, lkT2, _, rfl, lv, x, rfl, .inl ⟨b, q, 10000, 4500, 64 + 4459, 4459, (rb.same s35).arg zb, (rx.same s35).arg zq, by decide, by decide, ⟨by decide, by decide⟩, fun v3 H6 s6 rv3 => ?_⟩⟩
              refine k' _ _ (s35.trans s6) ⟨v3, rfl, ?_⟩
              show RV K H6 v3 (up1 _ _)
              unfold up1
              rw [if_pos c]
              exact rv3
            · rw [decide_eq_false c]
              refine iteF (k' _ _ s35 ⟨mv, rfl, ?_⟩)
              show RV K H5 mv (up1 _ _)
              unfold up1
              rw [if_neg c]
              exact rm'.same s35
        · rintro σ' H4 s4 ⟨mw, rfl, rw1⟩
          have g1 : Mz 60 60 (match m.lo with | none => gapT qs ms i | some b => up1 (gapT qs ms i) (b - q)) := by
            cases e : m.lo with
            | none => exact gi
            | some b => exact up1_mz gi (z.zl b e).2
          have gn' : gapT qs ms (i + 1) = match m.hi with | none => (match m.lo with | none => gapT qs ms i | some b => up1 (gapT qs ms i) (b - q)) | some c => up1 (match m.lo with | none => gapT qs ms i | some b => up1 (gapT qs ms i) (b - q)) (q - c) := gn
          generalize (match m.lo with | none => gapT qs ms i | some b => up1 (gapT qs ms i) (b - q)) = gg at g1 rw1 gn'
          have hta4 := s4 _ _ hta
          have rx4 := rx.same s4
          have oh4 := oh.same s4
          have s24 := s23.trans s4
          rcases oh4 with ⟨rfl, e⟩ | ⟨b, e, rb⟩
          · rw [e] at gn'
            refine ⟨_, rfl, ta, T.cT, tx, _, _, rfl, hta4, T.clT, T.nTo3, lkT3, rfl, _, rfl, ?_⟩
            rw [nonT rfl]
            exact iteF (iteF ⟨mw, _, _, rfl, s24, by rw [gn']; exact rw1⟩)
          · rw [e] at gn'
            obtain ⟨zb, zd⟩ := z.zh b e
            refine ⟨_, rfl, ta, T.cT, tx, _, _, rfl, hta4, T.clT, T.nTo3, lkT3, rfl, _, rfl, ?_⟩
            rw [nonF rb.nn]
            refine iteT ⟨_, rfl, _, rfl, _, rfl, ta, T.cT, tx, _, _, rfl, hta4, T.clT, T.nTo3, lkT3, x, hv, rfl, .inl ⟨q, b, 64 + 4459, 4459, 10000, 4500, rx4.arg zq, rb.arg zb, by decide, by decide, ⟨by decide, by decide⟩, fun v' H5 s5 rv => ?_⟩⟩
            refine ⟨mw, v', rfl, .inl ⟨gg, q - b, 120, 60, 120, 60, (rw1.same s5).arg g1.sz, rv.arg zd.sz, by decide, by decide, ⟨by decide, by decide⟩, fun v2 H6 s6 e2 => ?_⟩⟩
            subst e2
            have s46 := s5.trans s6
            refine ⟨_, rfl, ?_⟩
            by_cases c : gg < q - b
            · rw [decide_eq_true c]
              refine iteT ⟨_, rfl, _, rfl, ta, T.cT, tx, _, _, rfl, s46 _ _ hta4, T.clT, T.nTo3, lkT3, x, hv, rfl, .inl ⟨q, b, 64 + 4459, 4459, 10000, 4500, (rx4.same s46).arg zq, (rb.same s46).arg zb, by decide, by decide, ⟨by decide, by decide⟩, fun v3 H7 s7 rv3 => ?_⟩⟩
              refine ⟨v3, _, _, rfl, (s24.trans s46).trans s7, ?_⟩
              rw [gn']
              show RV K H7 v3 (up1 _ _)
              unfold up1
              rw [if_pos c]
              exact rv3
            · rw [decide_eq_false c]
              refine iteF ⟨mw, _, _, rfl, s24.trans s46, ?_⟩
              rw [gn']
              show RV K H6 mw (up1 _ _)
              unfold up1
              rw [if_neg c]
              exact rw1.same s46
      · rintro σ H2 ⟨mv, n3, n4, rfl, s2, rm⟩
        rw [show nums.length = ms.length by have := al.1; omega] at rm
        exact ⟨_, rfl, k mv H2 s2 rm⟩
    · refine .inr ⟨Kz.Same.seqT s1 hs, for_zipM (K := K) (a := l) (b := a) (xs := nums) (ys := us) ln (fun i σ H' => ∃ mv n3 n4, σ = [some (.ref l), some (.ref a), some mv, n3, n4] ∧ Same H H' ∧ RV K H' mv (gapT qs ms i)) ⟨_, _, _, rfl, s1, r0⟩ (fun i σ H' ⟨_, _, _, _, s, _⟩ => ⟨Same.seq s hl, Kz.Same.seqT s hs⟩) ?_ ?_⟩
      · rintro i x y p σ H2 hx hy ⟨mv, n3, n4, rfl, s2, rm⟩ np
        have s3 := Same.new (o := .tup [x, y]) np
        have ep : upd H2 p (.tup [x, y]) p = some (.tup [x, y]) := upd_same
        have ly : i < ms.length := by
          have := (List.getElem?_eq_some_iff.mp hy).1
          have := tr.1
          omega
        have eq := at_cf (qs := qs) (i := i) (by omega)
        have em : ms[i]? = some ms[i] := List.getElem?_eq_getElem ly
        have z := gz i _ _ eq em
        have s23 := s2.trans s3
        have rx := (al.2 i x _ hx eq).same s23
        obtain ⟨ta, tx, f, lv, hv, rfl, hta, _, _, ol, oh⟩ := (tr.2 i y _ hy em).same s23
        have gi := zG i (by omega)
        have rm' := rm.same s3
        have gn := gapT_snoc eq em
        refine ⟨p, _, rfl, SqT.of upd_same, rfl, _, _, rfl, _, _, rfl, rfl, ?_⟩
        generalize upd H2 p (.tup [x, V.ref ta]) = H3 at s3 ep s23 rx hta ol oh rm' ⊢
        generalize ms[i] = m at *
        generalize cf qs i = q at *
        have zq := z.zq.sz
        dsimp only [tSeq]
        refine viaS (t := tIfS _ _ _) (R := fun σ' H' => ∃ mv', σ' = [some (.ref l), some (.ref a), some mv', some x, some (.ref ta)] ∧ RV K H' mv' (match m.lo with | none => gapT qs ms i | some b => up1 (gapT qs ms i) (b - q))) (fun D' k' => ?_) ?_
        · rcases ol with ⟨rfl, e⟩ | ⟨b, e, rb⟩
          · rw [e] at k'
            refine ⟨_, rfl, ta, T.cT, tx, _, _, rfl, hta, T.clT, T.nTo2, lkT2, rfl, _, rfl, ?_⟩
            rw [nonT rfl]
            exact iteF (iteF (k' _ _ (Same.refl _) ⟨mv, rfl, rm'⟩))
          · rw [e] at k'
            obtain ⟨zb, zd⟩ := z.zl b e
            refine ⟨_, rfl, ta, T.cT, tx, _, _, rfl, hta, T.clT, T.nTo2, lkT2, rfl, _, rfl, ?_⟩
            rw [nonF rb.nn]
            refine iteT ⟨_, rfl, _, rfl, ta, T.cT, tx, _, _, rfl, hta, T.clT, T.nTo2, lkT2, _, rfl, lv, x, rfl, .inl ⟨b, q, 10000, 4500, 64 + 4459, 4459, rb.arg zb, rx.arg zq, by decide, by decide, ⟨by decide, by decide⟩, fun v' H4 s4 rv => ?_⟩⟩
            refine ⟨mv, v', rfl, .inl ⟨gapT qs ms i, b - q, 120, 60, 120, 60, (rm'.same s4).arg gi.sz, rv.arg zd.sz, by decide, by decide, ⟨by decide, by decide⟩, fun v2 H5 s5 e2 => ?_⟩⟩
            subst e2
            have s35 := s4.trans s5
            refine ⟨_, rfl, ?_⟩
            by_cases c : gapT qs ms i < b - q
            · rw [decide_eq_true c]
              refine iteT ⟨_, rfl, ta, T.cT, tx, _, _, rfl, s35 _ _ hta, T.clT, T.nTo2, lkT2, _, rfl, lv, x, rfl, .inl ⟨b, q, 10000, 4500, 64 + 4459, 4459, (rb.same s35).arg zb, (rx.same s35).arg zq, by decide, by decide, ⟨by decide, by decide⟩, fun v3 H6 s6 rv3 => ?_⟩⟩
              refine k' _ _ (s35.trans s6) ⟨v3, rfl, ?_⟩
              show RV K H6 v3 (up1 _ _)
              unfold up1
              rw [if_pos c]
              exact rv3
            · rw [decide_eq_false c]
              refine iteF (k' _ _ s35 ⟨mv, rfl, ?_⟩)
              show RV K H5 mv (up1 _ _)
              unfold up1
              rw [if_neg c]
              exact rm'.same s35
        · rintro σ' H4 s4 ⟨mw, rfl, rw1⟩
          have g1 : Mz 60 60 (match m.lo with | none => gapT qs ms i | some b => up1 (gapT qs ms i) (b - q)) := by
            cases e : m.lo with
            | none => exact gi
            | some b => exact up1_mz gi (z.zl b e).2
          have gn' : gapT qs ms (i + 1) = match m.hi with | none => (match m.lo with | none => gapT qs ms i | some b => up1 (gapT qs ms i) (b - q)) | some c => up1 (match m.lo with | none => gapT qs ms i | some b => up1 (gapT qs ms i) (b - q)) (q - c) := gn
          generalize (match m.lo with | none => gapT qs ms i | some b => up1 (gapT qs ms i) (b - q)) = gg at g1 rw1 gn'
          have hta4 := s4 _ _ hta
          have rx4 := rx.same s4
          have oh4 := oh.same s4
          have s24 := s23.trans s4
          rcases oh4 with ⟨rfl, e⟩ | ⟨b, e, rb⟩
          · rw [e] at gn'
            refine ⟨_, rfl, ta, T.cT, tx, _, _, rfl, hta4, T.clT, T.nTo3, lkT3, rfl, _, rfl, ?_⟩
            rw [nonT rfl]
            exact iteF (iteF ⟨mw, _, _, rfl, s24, by rw [gn']; exact rw1⟩)
          · rw [e] at gn'
            obtain ⟨zb, zd⟩ := z.zh b e
            refine ⟨_, rfl, ta, T.cT, tx, _, _, rfl, hta4, T.clT, T.nTo3, lkT3, rfl, _, rfl, ?_⟩
            rw [nonF rb.nn]
            refine iteT ⟨_, rfl, _, rfl, _, rfl, ta, T.cT, tx, _, _, rfl, hta4, T.clT, T.nTo3, lkT3, x, hv, rfl, .inl ⟨q, b, 64 + 4459, 4459, 10000, 4500, rx4.arg zq, rb.arg zb, by decide, by decide, ⟨by decide, by decide⟩, fun v' H5 s5 rv => ?_⟩⟩
            refine ⟨mw, v', rfl, .inl ⟨gg, q - b, 120, 60, 120, 60, (rw1.same s5).arg g1.sz, rv.arg zd.sz, by decide, by decide, ⟨by decide, by decide⟩, fun v2 H6 s6 e2 => ?_⟩⟩
            subst e2
            have s46 := s5.trans s6
            refine ⟨_, rfl, ?_⟩
            by_cases c : gg < q - b
            · rw [decide_eq_true c]
              refine iteT ⟨_, rfl, _, rfl, ta, T.cT, tx, _, _, rfl, s46 _ _ hta4, T.clT, T.nTo3, lkT3, x, hv, rfl, .inl ⟨q, b, 64 + 4459, 4459, 10000, 4500, (rx4.same s46).arg zq, (rb.same s46).arg zb, by decide, by decide, ⟨by decide, by decide⟩, fun v3 H7 s7 rv3 => ?_⟩⟩
              refine ⟨v3, _, _, rfl, (s24.trans s46).trans s7, ?_⟩
              rw [gn']
              show RV K H7 v3 (up1 _ _)
              unfold up1
              rw [if_pos c]
              exact rv3
            · rw [decide_eq_false c]
              refine iteF ⟨mw, _, _, rfl, s24.trans s46, ?_⟩
              rw [gn']
              show RV K H6 mw (up1 _ _)
              unfold up1
              rw [if_neg c]
              exact rw1.same s46
      · rintro σ H2 ⟨mv, n3, n4, rfl, s2, rm⟩
        rw [show nums.length = ms.length by have := al.1; omega] at rm
        exact ⟨_, rfl, k mv H2 s2 rm⟩
end
end Kz
set_option linter.all false
set_option maxRecDepth 100000
set_option maxHeartbeats 4000000
set_option pp.maxSteps 400
namespace Kz
open PySem PySem.Spec PyProof.Rows L2
/-- the gap of some bits -/
def gp (k : Nat) : Rat := { num := 1, den := 2 ^ k, den_nz := Nat.ne_of_gt (Nat.two_pow_pos k), reduced := by simp }
theorem gp_sz {k : Nat} (h : k ≤ 60) : Sz 2 61 (gp k) := ⟨by show (1 : Int).natAbs < 2 ^ 2; decide, Nat.pow_lt_pow_right (by decide) (by omega)⟩
theorem gp_rv {K : PySem.W.Frag} {H : Hp} {p : Addr} {k : Nat} (e : H p = some (.tup [.int 1, .int (2 ^ k)])) : RV K H (.ref p) (gp k) := by
  refine ⟨p, rfl, ?_⟩
  have : ((2 ^ k : Nat) : Int) = (2 : Int) ^ k := by simp
  show SqT K H p [.int 1, .int ((2 ^ k : Nat) : Int)]
  rw [this]
  exact SqT.of e
section
variable {P : Program} {w : World} {K : PySem.W.Frag} {mg : Str → Option Value} {base : Heap}
def spGp (K : PySem.W.Frag) : Sp := fun vs H Q _ => ∃ k : Nat, vs = [.int (k : Nat)] ∧ k ≤ 60 ∧ ∀ v H', Same H H' → RV K H' v (gp k) → Q v H'
theorem sc16g : FnScope ["bits"] ["bits"] (defScope (top 16)) := ⟨rfl, rfl, rfl, by decide +kernel, rfl, by decide +kernel, by decide +kernel⟩
theorem ok_gp (T : Tg P K mg) : FnOk P w K mg base (CX P w) 4 T.gap_of.f T.gap_of.fd ["bits"] (spGp K) := by
  have G : FnOk P w K mg base CX0 1 T.is_whole.f T.is_whole.fd ["value"] (spWhole K) := ok_whole T.toTx
  refine T.gap_of.fn.okX sc16g (fun vs H Q E h => ?_) (fun cdv A outer s H vs Q E hr h => ?_)
  · obtain ⟨k, rfl, _⟩ := h
    rfl
  · obtain ⟨k, rfl, k6, q⟩ := h
    have hr1 : Room 1 _ := hr.mono (by decide)
    have tk := takes_of (X := cxOf (CX P w) P w K mg base ["bits"] "gap_of" (defScope (top 16)) T.gap_of.f cdv A outer s H E) (E := E) rfl rfl rfl rfl
    refine ⟨_, pss_cons (ps_if (PW.pt (pw_or (pt_not (pt_val (T.is_whole.c0 G hr1 (pa_cons (pv 0) pa_nil)))) (pw_or (pt_cmpR op_lt (pv 0) pe_int (nomark _)) (pw_or1 (pt_cmpR op_gt (pv 0) pe_int (nomark _))))))
        (pss_one (ps_raise rfl tk (pmk_oex (CX := CX0) T.eN.o T.iN.i T.iN.t (ok_i3 T.iN.fn) (hr.mono (by decide)) T.bN .nil pass0 rfl T.eN.g (pa_cons pe_str (pa_cons (pv 0) pa_nil))))) pss_nil)
      (pss_one (ps_ret (pe_tup (pa_cons pe_int (pa_cons (pe_op op_oneShl pe_int (pv 0)) pa_nil))))), ?_⟩
    refine ⟨_, rfl, _, "int", rfl, ty_int, _, rfl, iteF ⟨_, rfl, _, _, rfl, rfl, _, rfl, ?_⟩⟩
    rw [decide_eq_false (show ¬ ((k : Nat) : Int) < 0 by omega)]
    refine iteF ⟨_, rfl, _, _, rfl, rfl, _, rfl, ?_⟩
    rw [decide_eq_false (show ¬ ((k : Nat) : Int) > 60 by omega)]
    refine iteF ⟨_, rfl, k, rfl, rfl, by omega, (by show 2 ≤ sizeLine; decide), fun p np => ?_⟩
    exact q _ _ (Same.new np) (gp_rv upd_same)
def spCp (K : PySem.W.Frag) (cS cT cB cP : Addr) : Sp := fun vs H Q _ => ∃ sv a us xs parts ks ms, vs = [sv, .ref a] ∧ ShAt K cS H sv xs parts ∧ ShOk xs parts ∧ (SqL K H a us ∨ SqT K H a us) ∧ TRs K cT cB cP H us ks ms ∧ (∀ m ∈ ms, RmOk ks xs m) ∧ ∀ H', Same H H' → Q .non H'
abbrev nCp : List Str := ["share", "rows", "knots"]
theorem sc50g : FnScope nCp ["share", "rows"] (defScope (top 50)) := ⟨rfl, rfl, rfl, by decide +kernel, rfl, by decide +kernel, by decide +kernel⟩
theorem ok_cp (T : Tg P K mg) : FnOk P w K mg base (CX P w) 7 T.check_pl.f T.check_pl.fd ["share", "rows"] (spCp K T.cS T.cT T.cB T.cP) := by
  have G : FnOk P w K mg base CX0 6 T.is_within.f T.is_within.fd ["share", "low", "high"] (spIn K T.cS) := ok_in T
  refine T.check_pl.fn.okX sc50g (fun vs H Q E h => ?_) (fun cdv A outer s H vs Q E hr h => ?_)
  · obtain ⟨sv, a, us, xs, parts, ks, ms, rfl, _⟩ := h
    rfl
  · obtain ⟨sv, a, us, xs, parts, ks, ms, rfl, sh, so, hs, tr, mo, k⟩ := h
    have tk := takes_of (X := cxOf (CX P w) P w K mg base nCp "check_places" (defScope (top 50)) T.check_pl.f cdv A outer s H E) (E := E) rfl rfl rfl rfl
    refine ⟨_, pss_one (ps_if (pt_cmpR op_gt (pe_callB call_len_seq (by rfl) T.blt.len PySem.boot_len (pa_cons (pv 1) pa_nil)) pe_int (nomark _))
        (pss_cons (ps_set (i := 2) sc50g.nd rfl (.inl rfl) (pe_fld (pe_fld (pe_ix ix_seq (pv 1) pe_int (fun _ _ => rfl)) (by rfl)) (by rfl)))
        (pss_one (ps_if (pt_not (pt_val (T.is_within.c0 G hr (pa_cons (pv 0) (pa_cons (pe_ix ix_tup (pv 2) pe_int (fun _ _ => rfl)) (pa_cons (pe_ix ix_tup (pv 2) (pe_un un_neg pe_int) (fun _ _ => rfl)) pa_nil))))))
          (pss_one (ps_raise rfl tk (pmk_oex (CX := CX0) T.eU.o T.iU.i T.iU.t (ok_i6 T.iU.fn) (hr.mono (by decide)) T.bU .nil pass0 rfl T.eU.g (pa_cons pe_str pa_nil)))) pss_nil))) pss_nil), ?_⟩
    refine ⟨_, rfl, a, us, rfl, hs, _, _, rfl, rfl, _, rfl, ?_⟩
    by_cases c : us.length = 0
    · rw [decide_eq_false (show ¬ ((us.length : Nat) : Int) > 0 by omega)]
      exact iteF (k H (Same.refl _))
    · rw [decide_eq_true (show ((us.length : Nat) : Int) > 0 by omega)]
      have lu := tr.1
      have e0 : us[0]? = some us[0] := List.getElem?_eq_getElem (by omega)
      have em : ms[0]? = some ms[0] := List.getElem?_eq_getElem (by omega)
      obtain ⟨ta, tx, f, lv, hv, et, hta, hb, _, _, _⟩ := tr.2 0 _ _ e0 em
      have mk := mo _ (List.getElem_mem (show 0 < ms.length by omega))
      obtain ⟨b, dx, t1, t2, t3, w1, vs2, w3, rfl, hbb, h1, a1, _⟩ := hb
      have lk := mk.F.len
      have one := mk.F.one
      have l1 := a1.1
      obtain ⟨v0, ev0, r0⟩ := a1.get (i := 0) (by omega)
      obtain ⟨vl, evl, rl⟩ := a1.get (i := ks.length - 1) (by omega)
      refine iteT ⟨_, rfl, Sq.ix hs (atI_nat (j := 0) e0) ?_⟩
      rw [et]
      refine ⟨ta, T.cT, tx, _, _, rfl, hta, T.clT, T.nTo1, lkT1, b, T.cB, dx, _, _, rfl, hbb, T.clB, T.nB1, lkB1, ?_⟩
      have mz0 := mk.F.zk _ (cf_mem (show 0 < ks.length by omega))
      have mzl := mk.F.zk _ (cf_mem (show ks.length - 1 < ks.length by omega))
      refine ⟨_, rfl, _, rfl, t1, w1, _, _, rfl, rfl, h1, atI_nat (j := 0) ev0, _, rfl, _, rfl, t1, w1, _, _, rfl, rfl, h1, atI_last (by rw [l1]; exact evl), ?_⟩
      refine ⟨sv, v0, vl, xs, parts, _, _, rfl, sh, so.pos, so.zx, r0, rl, mz0, mzl, mk.rg, fun H1 s1 => ?_⟩
      exact ⟨_, rfl, iteF (k H1 s1)⟩
def spMi (K : PySem.W.Frag) (cS cT cB cP : Addr) : Sp := fun vs H Q _ => ∃ sv a us xs parts ks ms, vs = [sv, .ref a] ∧ ShAt K cS H sv xs parts ∧ ShOk xs parts ∧ (SqL K H a us ∨ SqT K H a us) ∧ TRs K cT cB cP H us ks ms ∧ us.length ≤ 20 ∧ 0 < ks.length ∧ (∀ m ∈ ms, RmOk ks xs m) ∧
  (∀ m ∈ ms, Gsz (mnQ ks xs parts m) m) ∧ ∀ v H', Same H H' → RV K H' v (gapT (ms.map (mnQ ks xs parts)) ms ms.length) → Q v H'
theorem gsz_at {ks xs parts : List Rat} {ms : List Rm} (h : ∀ m ∈ ms, Gsz (mnQ ks xs parts m) m) : ∀ (i : Nat) (q : Rat) (m : Rm), (ms.map (mnQ ks xs parts))[i]? = some q → ms[i]? = some m → Gsz q m := fun i q m e1 e2 => by
  rw [List.getElem?_map, e2] at e1
  cases e1
  exact h m (List.mem_of_getElem? e2)
theorem sc51g : FnScope ["share", "rows"] ["share", "rows"] (defScope (top 51)) := ⟨rfl, rfl, rfl, by decide +kernel, rfl, by decide +kernel, by decide +kernel⟩
theorem ok_mi (T : Tg P K mg) : FnOk P w K mg base CX0 10 T.missed.f T.missed.fd ["share", "rows"] (spMi K T.cS T.cT T.cB T.cP) := by
  have G1 : FnOk P w K mg base CX0 1 T.funcs_of.f T.funcs_of.fd ["rows"] (spFo K T.cT T.cB T.cP) := ok_fo T
  have G2 : FnOk P w K mg base (CX P w) 4 T.check_st.f T.check_st.fd ["functions"] (spSt K T.cB T.cP) := ok_st T
  have G3 : FnOk P w K mg base (CX P w) 7 T.check_pl.f T.check_pl.fd ["share", "rows"] (spCp K T.cS T.cT T.cB T.cP) := ok_cp T
  have G4 : FnOk P w K mg base CX0 9 T.means_of.f T.means_of.fd ["share", "functions"] (spMo K T.cS T.cB T.cP) := ok_mo T
  have G5 : FnOk P w K mg base CX0 6 T.gap_missed.f T.gap_missed.fd ["found", "rows"] (spGm K T.cT T.cB T.cP) := ok_gm T
  refine T.missed.fn.ok sc51g (fun vs H Q E h => ?_) (fun cdv A outer s H vs Q E hr h => ?_)
  · obtain ⟨sv, a, us, xs, parts, ks, ms, rfl, _⟩ := h
    rfl
  · obtain ⟨sv, a, us, xs, parts, ks, ms, rfl, sh, so, hs, tr, len, kp, mo, gz, k⟩ := h
    have hr1 : Room 1 _ := hr.mono (by decide)
    have hr4 : Room 4 _ := hr.mono (by decide)
    have hr6 : Room 6 _ := hr.mono (by decide)
    have hr7 : Room 7 _ := hr.mono (by decide)
    refine ⟨_, pss_cons (ps_expr (T.check_st.cX G2 hr4 (pa_cons (T.funcs_of.c0 G1 hr1 (pa_cons (pv 1) pa_nil)) pa_nil)))
      (pss_cons (ps_expr (T.check_pl.cX G3 hr7 (pa_cons (pv 0) (pa_cons (pv 1) pa_nil))))
      (pss_one (ps_ret (T.gap_missed.c0 G5 hr6 (pa_cons (T.means_of.c0 G4 hr (pa_cons (pv 0) (pa_cons (T.funcs_of.c0 G1 hr1 (pa_cons (pv 1) pa_nil)) pa_nil))) (pa_cons (pv 1) pa_nil)))))), ?_⟩
    refine ⟨_, rfl, a, us, ks, ms, rfl, hs, tr, len, fun l fs H1 s1 hl1 f1 => ?_⟩
    refine ⟨l, fs, ks, ms, rfl, hl1, f1, kp, ?_⟩
    refine ⟨_, rfl, _, rfl, sv, a, us, xs, parts, ks, ms, rfl, sh.same s1, so, Sq.same2 s1 hs, tr.same s1, mo, fun H2 s2 => ?_⟩
    have s12 := s1.trans s2
    refine ⟨_, rfl, _, rfl, a, us, ks, ms, rfl, Sq.same2 s12 hs, tr.same s12, len, fun l2 fs2 H3 s3 hl3 f3 => ?_⟩
    have s13 := s12.trans s3
    refine ⟨sv, l2, fs2, xs, parts, ks, ms, rfl, sh.same s13, so, hl3, f3, by have := f3.1; have := tr.1; omega, mo, fun l4 nums H4 s4 hl4 al4 _ => ?_⟩
    have s14 := s13.trans s4
    exact ⟨_, rfl, l4, a, nums, us, _, ks, ms, rfl, hl4, al4, Sq.same2 s14 hs, tr.same s14, List.length_map _, gsz_at gz, fun v H5 s5 rv => k v H5 (s14.trans s5) rv⟩
/-- the gap that is let -/
def gpO : Option Nat → Rat
  | none => 0
  | some k => gp k
def bitV : Option Nat → V
  | none => .non
  | some k => .int (k : Nat)
def spFi (K : PySem.W.Frag) (cS cT cB cP : Addr) : Sp := fun vs H Q _ => ∃ sv a us xs parts ks ms o, vs = [sv, .ref a, bitV o] ∧ ShAt K cS H sv xs parts ∧ ShOk xs parts ∧ (SqL K H a us ∨ SqT K H a us) ∧ TRs K cT cB cP H us ks ms ∧ us.length ≤ 20 ∧ 0 < ks.length ∧ (∀ m ∈ ms, RmOk ks xs m) ∧
  (∀ m ∈ ms, Gsz (mnQ ks xs parts m) m) ∧ (∀ k, o = some k → k ≤ 60) ∧ Mz 60 60 (gapT (ms.map (mnQ ks xs parts)) ms ms.length) ∧ ∀ H', Same H H' → Q (.bl (!decide (gpO o < gapT (ms.map (mnQ ks xs parts)) ms ms.length))) H'
abbrev nFit : List Str := ["share", "rows", "bits", "gap"]
theorem sc52g : FnScope nFit ["share", "rows", "bits"] (defScope (top 52)) := ⟨rfl, rfl, rfl, by decide +kernel, rfl, by decide +kernel, by decide +kernel⟩
theorem ok_fi (T : Tg P K mg) : FnOk P w K mg base CX0 10 T.ft T.ftd ["share", "rows", "bits"] (spFi K T.cS T.cT T.cB T.cP) := by
  have G1 : FnOk P w K mg base CX0 1 T.funcs_of.f T.funcs_of.fd ["rows"] (spFo K T.cT T.cB T.cP) := ok_fo T
  have G2 : FnOk P w K mg base (CX P w) 4 T.check_st.f T.check_st.fd ["functions"] (spSt K T.cB T.cP) := ok_st T
  have G3 : FnOk P w K mg base (CX P w) 7 T.check_pl.f T.check_pl.fd ["share", "rows"] (spCp K T.cS T.cT T.cB T.cP) := ok_cp T
  have G4 : FnOk P w K mg base CX0 9 T.means_of.f T.means_of.fd ["share", "functions"] (spMo K T.cS T.cB T.cP) := ok_mo T
  have G5 : FnOk P w K mg base CX0 6 T.gap_missed.f T.gap_missed.fd ["found", "rows"] (spGm K T.cT T.cB T.cP) := ok_gm T
  have G6 : FnOk P w K mg base (CX P w) 4 T.gap_of.f T.gap_of.fd ["bits"] (spGp K) := ok_gp T
  have G7 : FnOk P w K mg base (CX P w) 5 T.lower.f T.lower.fd ["one", "other"] (spTwo K T.cN cBin (fun _ v q r => v = .bl (decide (q < r)))) := ok_lower T.toTx
  refine T.ftF.ok sc52g (fun vs H Q E h => ?_) (fun cdv A outer s H vs Q E hr h => ?_)
  · obtain ⟨sv, a, us, xs, parts, ks, ms, o, rfl, _⟩ := h
    rfl
  · obtain ⟨sv, a, us, xs, parts, ks, ms, o, rfl, sh, so, hs, tr, len, kp, mo, gz, o6, zg, k⟩ := h
    have hr1 : Room 1 _ := hr.mono (by decide)
    have hr4 : Room 4 _ := hr.mono (by decide)
    have hr5 : Room 5 _ := hr.mono (by decide)
    have hr6 : Room 6 _ := hr.mono (by decide)
    have hr7 : Room 7 _ := hr.mono (by decide)
    refine ⟨_, pss_cons (ps_expr (T.check_st.cX G2 hr4 (pa_cons (T.funcs_of.c0 G1 hr1 (pa_cons (pv 1) pa_nil)) pa_nil)))
      (pss_cons (ps_set (i := 3) sc52g.nd rfl (.inl rfl) (pe_ifExp (pt_cmpR op_isN (pv 2) pe_non (nomark _)) (pe_tup (pa_cons pe_int (pa_cons pe_int pa_nil))) (T.gap_of.cX G6 hr4 (pa_cons (pv 2) pa_nil))))
      (pss_cons (ps_expr (T.check_pl.cX G3 hr7 (pa_cons (pv 0) (pa_cons (pv 1) pa_nil))))
      (pss_one (ps_ret (pe_not (T.lower.cX G7 hr5 (pa_cons (pv 3) (pa_cons (T.gap_missed.c0 G5 hr6 (pa_cons (T.means_of.c0 G4 hr (pa_cons (pv 0) (pa_cons (T.funcs_of.c0 G1 hr1 (pa_cons (pv 1) pa_nil)) pa_nil))) (pa_cons (pv 1) pa_nil))) pa_nil)))))))), ?_⟩
    refine ⟨_, rfl, a, us, ks, ms, rfl, hs, tr, len, fun l fs H1 s1 hl1 f1 => ?_⟩
    refine ⟨l, fs, ks, ms, rfl, hl1, f1, kp, ?_⟩
    dsimp only [tNext, tSeq, tAsg]
    refine viaE (t := tIf _ _ _) (R := fun v H' => RV K H' v (gpO o)) (fun Q' k' => ?_) (fun gv H2 s2 rg => ?_)
    · cases o with
      | none =>
        refine ⟨_, rfl, rfl, _, rfl, ?_⟩
        rw [nonT (show bitV none = .non from rfl)]
        refine iteT ⟨(by show 2 ≤ sizeLine; decide), fun p np => ?_⟩
        exact k' _ _ (Same.new np) ⟨p, rfl, SqT.of upd_same⟩
      | some b =>
        refine ⟨_, rfl, rfl, _, rfl, ?_⟩
        rw [nonF (show bitV (some b) ≠ .non from V.noConfusion)]
        exact iteF ⟨_, rfl, b, rfl, o6 b rfl, fun v H2 s2 rv => k' v H2 s2 rv⟩
    · have s02 := s1.trans s2
      refine ⟨_, rfl, _, rfl, sv, a, us, xs, parts, ks, ms, rfl, sh.same s02, so, Sq.same2 s02 hs, tr.same s02, mo, fun H3 s3 => ?_⟩
      have s03 := s02.trans s3
      refine ⟨_, rfl, _, rfl, _, rfl, a, us, ks, ms, rfl, Sq.same2 s03 hs, tr.same s03, len, fun l2 fs2 H4 s4 hl4 f4 => ?_⟩
      have s04 := s03.trans s4
      refine ⟨sv, l2, fs2, xs, parts, ks, ms, rfl, sh.same s04, so, hl4, f4, by have := f4.1; have := tr.1; omega, mo, fun l5 nums H5 s5 hl5 al5 _ => ?_⟩
      have s05 := s04.trans s5
      refine ⟨_, rfl, l5, a, nums, us, _, ks, ms, rfl, hl5, al5, Sq.same2 s05 hs, tr.same s05, List.length_map _, gsz_at gz, fun v H6 s6 rv => ?_⟩
      have zo : Sz 2 61 (gpO o) := by
        cases o with
        | none => exact ⟨by decide, by decide⟩
        | some b => exact gp_sz (o6 b rfl)
      have rg6 := ((rg.same s3).same ((s4.trans s5).trans s6))
      refine ⟨gv, v, rfl, .inl ⟨gpO o, _, 2, 61, 120, 60, rg6.arg zo, rv.arg zg.sz, by decide, by decide, ⟨by decide, by decide⟩, fun v2 H7 s7 e2 => ?_⟩⟩
      subst e2
      exact ⟨_, rfl, k H7 ((s05.trans s6).trans s7)⟩
end
end Kz
set_option linter.all false
set_option maxRecDepth 100000
set_option maxHeartbeats 4000000
set_option pp.maxSteps 400
namespace Kz
open PySem PySem.Spec PyProof.Rows L2
theorem den_mul_dvd {q : Rat} {L : Nat} {z : Int} (L0 : 0 < L) (h : (z : Rat) = q * (L : Rat)) : q.den ∣ L := by
  have e := divInt_of L0 h
  rw [← e]
  have d := low_den (a := z) (b := ((L : Nat) : Int)) (by exact_mod_cast L0)
  rw [Int.fdiv_eq_ediv_of_nonneg _ (Int.natCast_nonneg _), ← Int.natCast_ediv] at d
  have d' : L / Nat.gcd z.natAbs ((L : Nat) : Int).natAbs = (Rat.divInt z ((L : Nat) : Int)).den := by exact_mod_cast d
  rw [← d']
  exact Nat.div_dvd_of_dvd (Nat.gcd_dvd_right _ _)
theorem num_of (q : Rat) : q * (q.den : Rat) = (q.num : Rat) := by
  rw [← topOf_eq (Nat.dvd_refl q.den)]
  unfold topOf
  rw [Nat.div_self q.den_pos]
  simp
/-- a place between two, by its denominator -/
theorem mix_den {x y : Rat} {t b : Int} (b0 : 0 < b) : (x + (y - x) * Rat.divInt t b).den ∣ x.den * y.den * b.toNat := by
  have hb : ((b.toNat : Nat) : Rat) = (b : Rat) := by
    have : ((b.toNat : Nat) : Int) = b := Int.toNat_of_nonneg (by omega)
    exact_mod_cast this
  have n0 : (b : Rat) ≠ 0 := fun z => by
    have : b = 0 := by exact_mod_cast z
    omega
  have ht : Rat.divInt t b * (b : Rat) = (t : Rat) := by
    rw [Rat.divInt_eq_div, Rat.div_def, Rat.mul_assoc, Rat.inv_mul_cancel _ n0, Rat.mul_one]
  have hx : x * (x.den : Rat) = (x.num : Rat) := num_of _
  have hy : y * (y.den : Rat) = (y.num : Rat) := num_of _
  refine den_mul_dvd (z := x.num * y.den * b + (y.num * x.den - x.num * y.den) * t) ?_ ?_
  · have := x.den_pos
    have := y.den_pos
    exact Nat.mul_pos (Nat.mul_pos x.den_pos y.den_pos) (by omega)
  · rw [Rat.natCast_mul, Rat.natCast_mul, hb]
    simp only [Rat.intCast_add, Rat.intCast_mul, Rat.intCast_sub, Rat.intCast_natCast]
    rw [← hx, ← hy, ← ht]
    grind
section
variable {P : Program} {w : World} {K : PySem.W.Frag} {mg : Str → Option Value} {base : Heap}
/-- a ratio of any size, passed in any way -/
def spPassW (K : PySem.W.Frag) : Sp := fun vs H Q _ => ∃ (p c : Addr) (n : Nat) (v : V) (q : Rat) (i j : Nat), vs = [.ref p, v] ∧ Pen H p c n ∧ n ≤ 900000 ∧ RV K H v q ∧ Sz i j q ∧ 0 < i ∧ 0 < j ∧ i ≤ 100000 ∧ j ≤ 8000 ∧
  ∀ u H', Pen H' p c (n + 3) → But p H H' → ArgQ K H' u (i + 2) (j + 2) q → (∀ a, u = .ref a → H a = none) → Q u H'
theorem ok_passW (T : Tu P K mg) : FnOk P w K mg base CX0 3 T.l_passed.f T.l_passed.fd ["_law_pen_here", "_law_ratio_here"] (spPassW K) := by
  have G1 : FnOk P w K mg base CX0 1 T.l_draw.f T.l_draw.fd ["_law_pen_here", "_law_many"] spDraw := ok_ldraw T
  have G2 : FnOk P w K mg base CX0 2 T.l_pick.f T.l_pick.fd ["_law_pen_here", "_law_some"] spPick := ok_lpick T
  refine T.l_passed.fn.ok sc46 (fun vs H Q E h => ?_) (fun cdv A outer s H vs Q E hr h => ?_)
  · obtain ⟨p, c, n, v, q, i, j, rfl, _⟩ := h
    rfl
  · obtain ⟨p, c, n, v, q, i, j, rfl, pen, hn, rv, zq, i0, j0, i1, j1, k⟩ := h
    have hr1 : Room 1 _ := hr.mono (by decide)
    refine ⟨_, C8.pss_cut (ps_if (PW.pt (pw_and (pt_cmpR op_eq (pe_ix ix_tup (pv 1) pe_int (fun _ _ => rfl)) pe_int (nomark _)) (pw_and1 (pt_cmpR op_eq (T.l_draw.c0 G1 hr1 (pa_cons (pv 0) (pa_cons pe_int pa_nil))) pe_int (nomark _)))))
        (pss_one (ps_ret (pe_ix ix_tup (pv 1) pe_int (fun _ _ => rfl)))) pss_nil)
      (pss_cons (ps_set (i := 2) sc46.nd rfl (.inl rfl) (T.l_pick.c0 G2 hr (pa_cons (pv 0) (pa_cons (pe_lst (pa_cons pe_int (pa_cons pe_int (pa_cons pe_int (pa_cons pe_int pa_nil))))) pa_nil))))
      (pss_one (ps_ret (T.l_pick.c0 G2 hr (pa_cons (pv 0) (pa_cons (pe_lst (pa_cons
        (pe_tup (pa_cons (pe_op op_mulW (pe_ix ix_tup (pv 1) pe_int (fun _ _ => rfl)) (pv 2)) (pa_cons (pe_op op_mulW (pe_ix ix_tup (pv 1) pe_int (fun _ _ => rfl)) (pv 2)) pa_nil)))
        (pa_cons (pe_lstN (pa_cons (pe_op op_mulW (pe_ix ix_tup (pv 1) pe_int (fun _ _ => rfl)) (pv 2)) (pa_cons (pe_op op_mulW (pe_ix ix_tup (pv 1) pe_int (fun _ _ => rfl)) (pv 2)) pa_nil))) pa_nil))) pa_nil)))))), ?_⟩
    obtain ⟨t, rfl, ht⟩ := rv
    have d0 := den_pos' q
    refine ⟨fun σ H' => σ = [some (.ref p), some (.ref t), none] ∧ ∃ m, m ≤ n + 1 ∧ Pen H' p c m ∧ But p H H', ?_, ?_⟩
    · refine ⟨_, rfl, _, _, _, _, rfl, rfl, ht, rfl, rfl, _, rfl, ?_⟩
      by_cases e1 : V.int (q.den : Int) = V.int 1
      · rw [decide_eq_true e1]
        refine iteT ⟨_, rfl, p, c, n, 2, rfl, pen, by omega, by decide, by decide, fun d H1 d0 d1 pen1 but1 => ?_⟩
        refine ⟨rfl, _, rfl, ?_⟩
        refine ite2 (fun _ => ?_) (fun _ => ⟨rfl, n + 1, Nat.le_refl _, pen1, but1⟩)
        refine ⟨_, rfl, _, _, _, _, rfl, rfl, pen.seqT but1 ht, rfl, ?_⟩
        have e1' : (q.den : Int) = 1 := V.int.inj e1
        refine k _ _ (pen1.more (by omega)) but1 ⟨q.num, 1, .int, ?_, up_lt zq.1 (by omega), ?_⟩ (fun _ z => nomatch z)
        · have := Rat.num_divInt_den q
          rw [e1'] at this
          exact this.symm
        · show (1 : Nat) < 2 ^ (j + 2)
          exact Nat.one_lt_two_pow (by omega)
      · rw [decide_eq_false e1]
        exact iteF (iteF ⟨rfl, n, by omega, pen, But.refl⟩)
    · rintro σ H1 ⟨rfl, m, hm, pen1, but1⟩
      have ht1 := pen.seqT but1 ht
      refine ⟨_, rfl, (by show 4 ≤ sizeLine; decide), fun l nl => ?_⟩
      refine ⟨p, c, l, m, _, rfl, pen1.new nl, by omega, upd_same, by decide, by decide, fun z v H2 hz pen2 but2 => ?_⟩
      have three : ∃ b : Int, v = .int b ∧ 0 < b ∧ b ≤ 3 := by
        have mem := mem_of_at hz
        simp only [List.mem_cons, List.not_mem_nil, or_false] at mem
        rcases mem with rfl | rfl | rfl | rfl
        · exact ⟨1, rfl, by decide, by decide⟩
        · exact ⟨1, rfl, by decide, by decide⟩
        · exact ⟨2, rfl, by decide, by decide⟩
        · exact ⟨3, rfl, by decide, by decide⟩
      obtain ⟨b, rfl, b0, b3⟩ := three
      have but02 : But p H H2 := (but1.trans (But.ofSame (Same.new nl))).trans but2
      have ht2 := pen.seqT but02 ht
      have bb : b.natAbs < 2 ^ 2 := by
        have : (2 : Nat) ^ 2 = 4 := by decide
        omega
      have w1 : (q.num * b).natAbs < 2 ^ (i + 2) := wide_lt zq.1 bb
      have w2 : ((q.den : Int) * b).natAbs < 2 ^ (j + 2) := wide_lt (den_abs zq) bb
      have c1 : CMulW q.num b := cmulW zq.1 bb (by omega)
      have c2 : CMulW (q.den : Int) b := cmulW (den_abs zq) bb (by omega)
      have pos : 0 < (q.den : Int) * b := Int.mul_pos d0 b0
      have eq : q = Rat.divInt (q.num * b) ((q.den : Int) * b) := by
        rw [Rat.divInt_mul_right (by omega), Rat.num_divInt_den]
      refine ⟨_, rfl, _, rfl, ?_⟩
      refine ⟨_, _, _, _, rfl, rfl, ht2, rfl, _, rfl, _, _, rfl, rfl, c1, _, rfl, _, _, _, _, rfl, rfl, ht2, rfl, _, rfl, _, _, rfl, rfl, c2, (by show 2 ≤ sizeLine; decide), fun a na => ?_⟩
      have s3 := Same.new (o := .tup [.int (q.num * b), .int ((q.den : Int) * b)]) na
      have e3 : upd H2 a (.tup [.int (q.num * b), .int ((q.den : Int) * b)]) a = some (.tup [.int (q.num * b), .int ((q.den : Int) * b)]) := upd_same
      have pen3 := pen2.same s3
      have but3 := but02.trans (.ofSame s3)
      generalize upd H2 a (.tup [.int (q.num * b), .int ((q.den : Int) * b)]) = H3 at s3 e3 pen3 but3
      have ht3 := Kz.Same.seqT s3 ht2
      refine ⟨_, rfl, _, _, _, _, rfl, rfl, ht3, rfl, _, rfl, _, _, rfl, rfl, c1, _, rfl, _, _, _, _, rfl, rfl, ht3, rfl, _, rfl, _, _, rfl, rfl, c2, (by show 2 ≤ sizeLine; decide), fun d nd nm => ?_⟩
      have s4 := Same.new (o := .lst [.int (q.num * b), .int ((q.den : Int) * b)]) nd
      have e4 : upd H3 d (.lst [.int (q.num * b), .int ((q.den : Int) * b)]) d = some (.lst [.int (q.num * b), .int ((q.den : Int) * b)]) := upd_same
      have pen4 := pen3.same s4
      have but4 := but3.trans (.ofSame s4)
      generalize upd H3 d (.lst [.int (q.num * b), .int ((q.den : Int) * b)]) = H4 at s4 e4 pen4 but4
      have e3' := s4 _ _ e3
      refine ⟨(by show 2 ≤ sizeLine; decide), fun g ng => ?_⟩
      have s5 := Same.new (o := .lst [.ref a, .ref d]) ng
      have pen5 := pen4.same s5
      have but5 := but4.trans (.ofSame s5)
      refine ⟨p, c, g, _, _, rfl, pen5, by omega, upd_same, (by show 0 < 2; decide), (by show 2 < 1000000; decide), fun y u H6 hy pen6 but6 => ?_⟩
      have e3'' := but6 _ _ (s5 _ _ e3') (pen5.off (s5 _ _ e3') fun _ z => nomatch z)
      have e4'' := pen5.lst but6 (s5 _ _ e4)
      have but7 := but5.trans but6
      have pen7 : Pen H6 p c (n + 3) := pen6.more (by omega)
      have mem := mem_of_at hy
      simp only [List.mem_cons, List.not_mem_nil, or_false] at mem
      rcases mem with rfl | rfl
      · refine k _ _ pen7 but7 ⟨_, _, .two (.inr (SqT.of e3'')) pos, eq, w1, w2⟩ (fun x z => by cases z; exact but02.gone pen2 na)
      · refine k _ _ pen7 but7 ⟨_, _, .two (.inl (SqL.of e4'')) pos, eq, w1, w2⟩ (fun x z => by cases z; exact but3.gone pen3 nd)
end
/-- the places of a stretch -/
theorem iv_of {x y : Rat} (zx : Mz 3 7 x) (zy : Mz 3 7 y) (h : x < y) : Iv x (y - x) := by
  have e : x + (y - x) = y := by grind
  refine ⟨by grind, zx.up (by decide) (by decide), (sub_mz zy zx).up (by decide) (by decide), by rw [e]; exact zy.up (by decide) (by decide), fun t b t0 tb b0 b24 => ?_⟩
  have zt : Mz 1 5 (Rat.divInt t b) := mz_divInt b0 (by omega) (by omega)
  refine ⟨((add_mz zx (mul_mz (sub_mz zy zx) zt)).up (a' := 8) (m' := 30) (by decide) (by decide)).1, ?_⟩
  have dv := mix_den (x := x) (y := y) (t := t) b0
  have pos : 0 < x.den * y.den * b.toNat := Nat.mul_pos (Nat.mul_pos x.den_pos y.den_pos) (by omega)
  have le := Nat.le_of_dvd pos dv
  have l1 := zx.2
  have l2 := zy.2
  have l3 : x.den * y.den < 2 ^ 14 := Nat.lt_of_lt_of_le (Nat.mul_lt_mul'' l1 l2) (by decide)
  have l4 : x.den * y.den * b.toNat < 2 ^ 14 * 2 ^ 5 := Nat.mul_lt_mul'' l3 (by omega)
  exact Nat.lt_of_le_of_lt le (Nat.lt_of_lt_of_le l4 (by decide))
theorem iv_eq {x : Rat} {d : Int} (zx : Mz 3 7 x) (d0 : 0 ≤ d) (d4 : d < 4) : Iv x (Rat.divInt 1 (1 + d)) := by
  have zd : Mz 1 3 (Rat.divInt 1 (1 + d)) := mz_divInt (by omega) (by omega) (by omega)
  refine ⟨divInt_pos (by decide) (by omega), zx.up (by decide) (by decide), zd.up (by decide) (by decide), (add_mz zx zd).up (by decide) (by decide), fun t b t0 tb b0 b24 => ?_⟩
  have zt : Mz 1 5 (Rat.divInt t b) := mz_divInt b0 (by omega) (by omega)
  exact (add_mz zx (mul_mz zd zt)).up (by decide) (by decide)
section
variable {P : Program} {w : World} {K : PySem.W.Frag} {mg : Str → Option Value} {base : Heap}
def spInt (K : PySem.W.Frag) : Sp := fun vs H Q _ => ∃ (p c : Addr) (n : Nat), vs = [.ref p, .int 4] ∧ Pen H p c n ∧ n ≤ 800000 ∧
  ∀ t a b H' x wd, Pen H' p c (n + 10) → But p H H' → SqT K H' t [a, b] → RV K H' a x → RV K H' b (x + wd) → Iv x wd → Q (.ref t) H'
abbrev nInt : List Str := ["_law_pen_here", "_law_most", "_law_one", "_law_two"]
theorem sc65g : FnScope nInt ["_law_pen_here", "_law_most"] (defScope (top 65)) := ⟨rfl, rfl, rfl, by decide +kernel, rfl, by decide +kernel, by decide +kernel⟩
theorem ok_int (T : Tg P K mg) : FnOk P w K mg base CX0 4 T.l_interval.f T.l_interval.fd ["_law_pen_here", "_law_most"] (spInt K) := by
  have G1 : FnOk P w K mg base CX0 3 T.l_ratio.f T.l_ratio.fd ["_law_pen_here", "_law_most"] (spLrat K) := ok_lratio T.toTu
  have G2 : FnOk P w K mg base CX0 1 T.l_draw.f T.l_draw.fd ["_law_pen_here", "_law_many"] spDraw := ok_ldraw T.toTu
  have G3 : FnOk P w K mg base CX0 3 T.l_plus.f T.l_plus.fd ["_law_one", "_law_two"] (spL2 K cBin (fun q r => q + r)) := ok_lplus T.toTy
  have G4 : FnOk P w K mg base CX0 1 T.l_less.f T.l_less.fd ["_law_one", "_law_two"] (spLess K) := ok_lless T.toTy
  refine T.l_interval.fn.ok sc65g (fun vs H Q E h => ?_) (fun cdv A outer s H vs Q E hr h => ?_)
  · obtain ⟨p, c, n, rfl, _⟩ := h
    rfl
  · obtain ⟨p, c, n, rfl, pen, hn, k⟩ := h
    have hu := hr.units
    have hr1 : Room 1 _ := hr.mono (by decide)
    refine ⟨_, pss_cons (ps_par (i := 2) (j := 3) rfl sc65g.nd rfl rfl (by decide) rfl rfl (pa_cons (T.l_ratio.c0 G1 hr (pa_cons (pv 0) (pa_cons (pv 1) pa_nil))) (pa_cons (T.l_ratio.c0 G1 hr (pa_cons (pv 0) (pa_cons (pv 1) pa_nil))) pa_nil)) (by rfl))
      (pss_cons (ps_if (pt_cmpR (op_eqD hu) (pv 2) (pv 3) (nomark _))
        (pss_one (ps_set (i := 3) sc65g.nd rfl (.inl rfl) (T.l_plus.c0 G3 hr (pa_cons (pv 2) (pa_cons (pe_tup (pa_cons pe_int (pa_cons (pe_op op_add pe_int (T.l_draw.c0 G2 hr1 (pa_cons (pv 0) (pa_cons pe_int pa_nil)))) pa_nil))) pa_nil))))) pss_nil)
      (pss_one (ps_ret (pe_ifExp (pt_val (T.l_less.c0 G4 hr1 (pa_cons (pv 2) (pa_cons (pv 3) pa_nil)))) (pe_tup (pa_cons (pv 2) (pa_cons (pv 3) pa_nil))) (pe_tup (pa_cons (pv 3) (pa_cons (pv 2) pa_nil))))))), ?_⟩
    have small : ∀ {q : Rat}, Rsm 4 q → Mz 3 7 q := fun h => rsm_mz h (by decide)
    refine ⟨_, rfl, _, rfl, p, c, n, 4, rfl, pen, by omega, by decide, by decide, fun u H1 x pen1 b1 rx sx => ?_⟩
    refine ⟨_, rfl, _, rfl, p, c, _, 4, rfl, pen1, by omega, by decide, by decide, fun v H2 y pen2 b2 ry sy => ?_⟩
    have zx := small sx
    have zy := small sy
    have rx2 := pen1.rv b2 rx
    have b02 := b1.trans b2
    refine ⟨_, _, rfl, ?_⟩
    refine ⟨_, rfl, _, rfl, _, _, rx2.dp, ry.dp, pdQ_shaped _, pdQ_shaped _, ?_⟩
    rw [eqv_pdQ]
    by_cases c1 : x = y
    · rw [decide_eq_true c1]
      refine ⟨_, rfl, iteT ⟨_, rfl, _, rfl, p, c, _, 4, rfl, pen2, by omega, by decide, by decide, fun d H3 d0 d4 pen3 b3 => ?_⟩⟩
      have rx3 := pen2.rv b3 rx2
      refine ⟨_, _, rfl, rfl, (by show 2 ≤ sizeLine; decide), fun a na => ?_⟩
      have s4 := Same.new (o := .tup [V.int 1, V.int (1 + d)]) na
      have e4 : upd H3 a (.tup [V.int 1, V.int (1 + d)]) a = some (.tup [V.int 1, V.int (1 + d)]) := upd_same
      generalize upd H3 a (.tup [V.int 1, V.int (1 + d)]) = H4 at s4 e4 ⊢
      have pq : PQ K H4 (.ref a) 1 3 (Rat.divInt 1 (1 + d)) := ⟨a, 1, 1 + d, rfl, SqT.of e4, by omega, rfl, by decide, by omega⟩
      have iv := iv_eq zx d0 d4
      refine ⟨u, .ref a, x, _, 10, 7, 1, 3, rfl, (rx3.same s4).pq zx.sz, pq, ⟨by decide, by decide⟩, fun z H5 s5 rz => ?_⟩
      generalize Rat.divInt 1 (1 + d) = wd at pq iv rz
      have s45 := s4.trans s5
      have rx5 := rx3.same s45
      have b05 := (b02.trans b3).trans (.ofSame s45)
      refine ⟨_, rfl, _, rfl, u, z, x, x + wd, _, _, _, _, rfl, rx5, rz, zx.sz, iv.zh.sz, by decide, by decide, ?_⟩
      have w0 := iv.pos
      rw [decide_eq_true (show x < x + wd by grind)]
      refine ⟨_, rfl, iteT ⟨_, rfl, _, rfl, (by show 2 ≤ sizeLine; decide), fun t nt => ?_⟩⟩
      have s6 := Same.new (o := .tup [u, z]) nt
      exact k t u z _ x wd (((pen3.same s45).same s6).more (by omega)) (b05.trans (.ofSame s6)) (SqT.of upd_same) (rx5.same s6) (rz.same s6) iv
    · rw [decide_eq_false c1]
      refine ⟨_, rfl, iteF ⟨_, rfl, _, rfl, u, v, x, y, _, _, _, _, rfl, rx2, ry, zx.sz, zy.sz, by decide, by decide, ?_⟩⟩
      by_cases c2 : x < y
      · rw [decide_eq_true c2]
        refine ⟨_, rfl, iteT ⟨_, rfl, _, rfl, (by show 2 ≤ sizeLine; decide), fun t nt => ?_⟩⟩
        have s6 := Same.new (o := .tup [u, v]) nt
        exact k t u v _ x (y - x) ((pen2.same s6).more (by omega)) (b02.trans (.ofSame s6)) (SqT.of upd_same) (rx2.same s6) (by rw [show x + (y - x) = y by grind]; exact ry.same s6) (iv_of zx zy c2)
      · rw [decide_eq_false c2]
        have c3 : y < x := Std.lt_of_le_of_ne (Rat.not_lt.mp c2) (fun e => c1 e.symm)
        refine ⟨_, rfl, iteF ⟨_, rfl, _, rfl, (by show 2 ≤ sizeLine; decide), fun t nt => ?_⟩⟩
        have s6 := Same.new (o := .tup [v, u]) nt
        exact k t v u _ y (x - y) ((pen2.same s6).more (by omega)) (b02.trans (.ofSame s6)) (SqT.of upd_same) (ry.same s6) (by rw [show y + (x - y) = x by grind]; exact rx2.same s6) (iv_of zy zx c3)
end
end Kz
set_option linter.all false
set_option maxRecDepth 100000
set_option maxHeartbeats 4000000
set_option pp.maxSteps 400
namespace Kz
open PySem PySem.Spec PyProof.Rows L2
theorem cr_sumK {X : Cx} {K' : PySem.W.Frag} (hc : X.calm = true) (e : X.K = K' := by rfl) : CallR X (.builtin "sum") (rSum K') := by
  subst e
  exact cr_sum hc
theorem part_in0 {x wd t : Rat} (h : 0 < wd) (h0 : 0 ≤ t) (h1 : t ≤ 1) : x ≤ x + wd * t ∧ x + wd * t ≤ x + wd := by
  have a : wd * 0 ≤ wd * t := Rat.mul_le_mul_of_nonneg_left h0 (Rat.le_of_lt h)
  have b : wd * t ≤ wd * 1 := Rat.mul_le_mul_of_nonneg_left h1 (Rat.le_of_lt h)
  rw [Rat.mul_one] at b
  rw [Rat.mul_zero] at a
  constructor <;> grind
theorem divInt_nn {a b : Int} (ha : 0 ≤ a) (hb : 0 < b) : 0 ≤ Rat.divInt a b := by
  rw [Rat.divInt_eq_div, Rat.div_def]
  have h1 : (0 : Rat) ≤ (a : Rat) := by exact_mod_cast ha
  have h2 : (0 : Rat) < (b : Rat) := by exact_mod_cast hb
  exact Rat.mul_nonneg h1 (Rat.le_of_lt (Rat.inv_pos.mpr h2))
def wts (ws : List Int) : List Rat := ws.map fun z => Rat.divInt z ws.sum
theorem sum_wts {T : Int} (h : T ≠ 0) : ∀ ws : List Int, sumR (ws.map fun z => Rat.divInt z T) * (T : Rat) = (ws.sum : Rat)
  | [] => by
    show (0 : Rat) * _ = ((0 : Int) : Rat)
    rw [Rat.zero_mul]
    rfl
  | z :: ws => by
    have n0 : (T : Rat) ≠ 0 := fun e => h (by exact_mod_cast e)
    show (Rat.divInt z T + sumR (ws.map fun z => Rat.divInt z T)) * (T : Rat) = ((z + ws.sum : Int) : Rat)
    rw [Rat.add_mul, sum_wts h ws, Rat.divInt_eq_div, Rat.div_def, Rat.mul_assoc, Rat.inv_mul_cancel _ n0, Rat.mul_one, Rat.intCast_add]
theorem sum_ge : ∀ {ws : List Int}, (∀ z ∈ ws, 1 ≤ z ∧ z ≤ 9) → ∀ z ∈ ws, z ≤ ws.sum
  | [], _, z, h => by cases h
  | y :: ws, g, z, h => by
    have nn : ∀ {ls : List Int}, (∀ z ∈ ls, 1 ≤ z ∧ z ≤ 9) → 0 ≤ ls.sum := by
      intro ls
      induction ls with
      | nil => exact fun _ => Int.le_refl 0
      | cons a ls ih =>
        intro hh
        have := ih fun z hz => hh z (List.mem_cons_of_mem _ hz)
        have := (hh a List.mem_cons_self).1
        rw [List.sum_cons]
        omega
    have gy := g y List.mem_cons_self
    have gt : ∀ z ∈ ws, 1 ≤ z ∧ z ≤ 9 := fun z hz => g z (List.mem_cons_of_mem _ hz)
    have := nn gt
    rw [List.sum_cons]
    rcases List.mem_cons.mp h with e | m
    · omega
    · have := sum_ge gt z m
      omega
theorem sum_le9 : ∀ {ws : List Int}, (∀ z ∈ ws, 1 ≤ z ∧ z ≤ 9) → ws.sum ≤ 9 * ws.length
  | [], _ => by decide
  | y :: ws, g => by
    have := sum_le9 (ws := ws) fun z hz => g z (List.mem_cons_of_mem _ hz)
    have := (g y List.mem_cons_self).2
    rw [List.sum_cons, List.length_cons]
    omega
theorem wts_ok {ws : List Int} (g : ∀ z ∈ ws, 1 ≤ z ∧ z ≤ 9) (pos : 0 < ws.length) (few : ws.length ≤ 6) : 0 < ws.sum ∧ ws.sum ≤ 54 ∧ wpB (wts ws) = true ∧ ∀ q ∈ wts ws, Mz 1 6 q := by
  have T0 : 0 < ws.sum := by
    have m := List.getElem_mem pos
    have := sum_ge g _ m
    have := (g _ m).1
    omega
  have T9 := sum_le9 g
  have all : ∀ q ∈ wts ws, 0 < q ∧ Mz 1 6 q := fun q hq => by
    obtain ⟨z, hz, rfl⟩ := List.mem_map.mp hq
    have := sum_ge g z hz
    have := (g z hz).1
    exact ⟨divInt_pos (by omega) T0, mz_divInt T0 (by omega) (by omega)⟩
  refine ⟨T0, by omega, ?_, fun q hq => (all q hq).2⟩
  unfold wpB
  have e1 : ((wts ws).map fun q => decide (0 < q)).all id = true := by
    rw [List.all_eq_true]
    intro b hb
    obtain ⟨q, hq, rfl⟩ := List.mem_map.mp hb
    exact decide_eq_true (all q hq).1
  have n0 : (ws.sum : Rat) ≠ 0 := fun e => by
    have : ws.sum = 0 := by exact_mod_cast e
    omega
  have e2 : sumR (wts ws) = 1 := by
    have := sum_wts (T := ws.sum) (by omega) ws
    have h2 : sumR (wts ws) * (ws.sum : Rat) * (ws.sum : Rat)⁻¹ = (ws.sum : Rat) * (ws.sum : Rat)⁻¹ := by rw [show sumR (wts ws) * (ws.sum : Rat) = (ws.sum : Rat) from this]
    rw [Rat.mul_assoc, Rat.mul_inv_cancel _ n0, Rat.mul_one] at h2
    exact h2
  rw [e1, e2]
  rfl
section
variable {P : Program} {w : World} {K : PySem.W.Frag} {mg : Str → Option Value} {base : Heap}
/-- a share as it is drawn -/
structure DrS (x wd : Rat) (xs parts : List Rat) : Prop where
  so : ShOk xs parts
  asc : Asc xs
  inn : ∀ q ∈ xs, x ≤ q ∧ q ≤ x + wd
  wp : wpB parts = true
def spDsh (K : PySem.W.Frag) : Sp := fun vs H Q _ => ∃ (p c : Addr) (n : Nat) (u v : V) (x wd : Rat), vs = [.ref p, u, v, .int 6] ∧ Pen H p c n ∧ n ≤ 800000 ∧ RV K H u x ∧ RV K H v (x + wd) ∧ Iv x wd ∧
  ∀ t a b H' xs parts, Pen H' p c (n + 20) → But p H H' → SqT K H' t [a, b] → LR K H' a xs → LR K H' b parts → DrS x wd xs parts → Q (.ref t) H'
abbrev nDsh : List Str := ["_law_pen_here", "_law_low", "_law_high", "_law_many", "_law_wide", "_law_places", "_law_k", "_law_weights", "_law_x", "_law_weight"]
theorem sc79g : FnScope nDsh ["_law_pen_here", "_law_low", "_law_high", "_law_many"] (defScope (top 79)) := ⟨rfl, rfl, rfl, by decide +kernel, rfl, by decide +kernel, by decide +kernel⟩
theorem ok_dsh (T : Tg P K mg) : FnOk P w K mg base CX0 5 T.l_dshare.f T.l_dshare.fd ["_law_pen_here", "_law_low", "_law_high", "_law_many"] (spDsh K) := by
  have G1 : FnOk P w K mg base CX0 1 T.l_draw.f T.l_draw.fd ["_law_pen_here", "_law_many"] spDraw := ok_ldraw T.toTu
  have G3 : FnOk P w K mg base CX0 2 T.l_q.f T.l_q.fd ["_law_top", "_law_bottom"] (spLq K) := ok_lq T.toTy
  have G4 : FnOk P w K mg base CX0 3 T.l_plus.f T.l_plus.fd ["_law_one", "_law_two"] (spL2 K cBin (fun q r => q + r)) := ok_lplus T.toTy
  have G5 : FnOk P w K mg base CX0 3 T.l_minus.f T.l_minus.fd ["_law_one", "_law_two"] (spL2 K cBin (fun q r => q - r)) := ok_lminus T.toTy
  have G6 : FnOk P w K mg base CX0 3 T.l_times.f T.l_times.fd ["_law_one", "_law_two"] (spL2 K cBin (fun q r => q * r)) := ok_ltimes T.toTy
  have G7 : FnOk P w K mg base CX0 3 T.l_sorted.f T.l_sorted.fd ["_law_some"] (spLsort K) := ok_lsort T.toTk
  refine T.l_dshare.fn.ok sc79g (fun vs H Q E h => ?_) (fun cdv A outer s H vs Q E hr h => ?_)
  · obtain ⟨p, c, n, u, v, x, wd, rfl, _⟩ := h
    rfl
  · obtain ⟨p, c, n, u, v, x, wd, rfl, pen, hn, ru, rv, iv, k⟩ := h
    have hr1 : Room 1 _ := hr.mono (by decide)
    have hr2 : Room 2 _ := hr.mono (by decide)
    have hr3 : Room 3 _ := hr.mono (by decide)
    refine ⟨_, pss_cons (ps_par (i := 4) (j := 5) rfl sc79g.nd rfl rfl (by decide) rfl rfl (pa_cons (T.l_minus.c0 G5 hr3 (pa_cons (pv 2) (pa_cons (pv 1) pa_nil))) (pa_cons (pe_lst pa_nil) pa_nil)) (by rfl))
      (pss_cons (ps_for PassesOwn.never rfl (pi_range1 rfl T.blt.range (pa_cons (pe_op op_add pe_int (T.l_draw.c0 G1 hr1 (pa_cons (pv 0) (pa_cons (pv 3) pa_nil)))) pa_nil)) (pg_name (i := 6) sc79g.nd rfl (.inl rfl))
        (pss_one (ps_expr (pe_bm PySem.F.plainAttrs_list PySem.F.slot_list_append PySem.F.type_list_append mt_append (pv 5) (pa_cons
          (T.l_plus.c0 G4 hr3 (pa_cons (pv 1) (pa_cons (T.l_times.c0 G6 hr3 (pa_cons (pv 4) (pa_cons (T.l_q.c0 G3 hr2 (pa_cons (T.l_draw.c0 G1 hr1 (pa_cons (pv 0) (pa_cons pe_int pa_nil))) (pa_cons pe_int pa_nil))) pa_nil))) pa_nil))) pa_nil)))))
      (pss_cons (ps_set (i := 5) sc79g.nd rfl (.inl rfl) (T.l_sorted.c0 G7 hr3 (pa_cons (pv 5) pa_nil)))
      (pss_cons (ps_set (i := 7) sc79g.nd rfl (.inr rfl) (pe_lc (own := [("_law_x", 8)]) (g := gName 8) (tt := tYes) rfl sc79g.nd (pi_list (pv 5)) (blkOk_by (own := [("_law_x", 8)]) (N := nDsh) (sc := defScope (top 79)) (by decide +kernel))
        (fun _ _ _ _ _ => pg_name (i := 8) sc79g.nd rfl (Or.inl rfl)) (fun _ _ _ _ _ => pts_nil) (fun _ _ _ _ _ => pe_op op_add pe_int (T.l_draw.c0 G1 hr1 (pa_cons (pv 0) (pa_cons pe_int pa_nil))))))
      (pss_one (ps_ret (pe_tup (pa_cons (pv 5) (pa_cons (pe_lc (own := [("_law_weight", 9)]) (g := gName 9) (tt := tYes) rfl sc79g.nd (pi_list (pv 7)) (blkOk_by (own := [("_law_weight", 9)]) (N := nDsh) (sc := defScope (top 79)) (by decide +kernel))
        (fun _ _ _ _ _ => pg_name (i := 9) sc79g.nd rfl (Or.inl rfl)) (fun _ _ _ _ _ => pts_nil) (fun _ _ _ _ _ => T.l_q.c0 G3 hr2 (pa_cons (pv 9) (pa_cons (pe_callB (cr_sumK (K' := K) rfl) (by rfl) T.mSum boot_sumK (pa_cons (pv 7) pa_nil)) pa_nil)))) pa_nil)))))))), ?_⟩
    have w0 := iv.pos
    have zw := iv.zw
    have zx := iv.zx
    have zh := iv.zh
    refine ⟨_, rfl, _, rfl, v, u, x + wd, x, _, _, _, _, rfl, rv.pq zh.sz, ru.pq zx.sz, ⟨by decide, by decide⟩, fun w H1 s1 rw' => ?_⟩
    have rw' : RV K H1 w (x + wd - x) := rw'
    have rw' : RV K H1 w wd := by rw [wd_eq] at rw'; exact rw'
    refine ⟨(by show 0 ≤ sizeLine; decide), fun g ng => ?_⟩
    have gH : ∀ c u, H c = some u → c ≠ g := fun c u e => ne_of_none (s1 _ _ e) ng
    have pen1 := pen.same s1
    have gp' := pen1.newP ng
    have gc := pen1.newC ng
    have s2 := Same.new (o := .lst []) ng
    have e2 : upd H1 g (.lst []) g = some (.lst []) := upd_same
    have pen2 := pen1.same s2
    have rw2 := rw'.same s2
    generalize upd H1 g (.lst []) = H2 at s2 e2 pen2 rw2 ⊢
    have s12 := s1.trans s2
    refine ⟨_, _, rfl, ?_⟩
    refine ⟨_, rfl, _, rfl, p, c, n, 6, rfl, pen2, by omega, by decide, by decide, fun d H3 d0 d6 pen3 b3 => ?_⟩
    have ru3 := pen2.rv b3 (ru.same s12)
    have rw3 := pen2.rv b3 rw2
    have hg3 := pen2.lst b3 e2
    refine ⟨_, _, rfl, rfl, (1 + d), rfl, by omega, by omega, ?_⟩
    refine for_range (lo := 0) (n := (1 + d).toNat) (fun i σ H' => ∃ v6 vs F, σ = [some (.ref p), some u, some v, some (.int 6), some w, some (.ref g), v6, none, none, none] ∧ Pen H' p c (n + 1 + i) ∧ H' g = some (.lst vs) ∧ Al K H' vs F ∧ F.length = i ∧
        (∀ q ∈ F, x ≤ q ∧ q ≤ x + wd ∧ Mz 8 19 q) ∧ But p H H' ∧ RV K H' w wd)
      ⟨none, [], [], rfl, pen3, hg3, Al.nil, rfl, (fun q hq => by cases hq), fun c' o e nc => b3 _ _ (s12 _ _ e) nc, rw3⟩ ?_ ?_
    · rintro i σ H4 hi ⟨v6, vs, F, rfl, pen4, hg, af, lf, inn, b4, rw4⟩
      have hi' : i < 6 := by omega
      refine ⟨_, rfl, .inl ⟨rfl, _, SqL.of hg⟩, _, rfl, _, rfl, _, rfl, p, c, _, 25, rfl, pen4, by omega, by decide, by decide, fun t H5 t0 t25 pen5 but5 => ?_⟩
      have hg5 := pen4.lst but5 hg
      refine ⟨t, 24, rfl, by decide, by exact Nat.lt_of_lt_of_le (show (24 : Int).natAbs < 2 ^ 5 by decide) (Nat.pow_le_pow_right (by decide) (by decide)), fun z H6 s6 rt => ?_⟩
      have tt0 : 0 ≤ Rat.divInt t 24 := divInt_nn (by omega) (by decide)
      have tt1 : Rat.divInt t 24 ≤ 1 := divInt_le1 (by decide) (by omega)
      have zt : Mz 1 5 (Rat.divInt t 24) := mz_divInt (by decide) (by
        show _ < 2 * 24
        omega) (by decide)
      have zq := iv.zt t 24 (by omega) (by omega) (by decide) (by decide)
      generalize Rat.divInt t 24 = tt at rt tt0 tt1 zt zq
      have rw6 := (pen4.rv but5 rw4).same s6
      refine ⟨w, z, wd, tt, _, _, _, _, rfl, rw6.pq zw.sz, rt.pq zt.sz, ⟨by decide, by decide⟩, fun y1 H7 s7 ry1 => ?_⟩
      have zy1 := mul_mz zw zt
      have s67 := s6.trans s7
      have b7 : But p H H7 := (b4.trans but5).trans (.ofSame s67)
      refine ⟨u, y1, x, wd * tt, _, _, _, _, rfl, (pen.rv b7 ru).pq zx.sz, ry1.pq zy1.sz, ⟨by decide, by decide⟩, fun y H8 s8 ry => ?_⟩
      have s68 := s67.trans s8
      have hg8 := s68 _ _ hg5
      have vl : vs.length = i := by rw [af.1, lf]
      refine ⟨g, vs, y, rfl, rfl, hg8, le1000 (by omega), ?_⟩
      have b9 : But g H8 (upd H8 g (.lst (vs ++ [y]))) := But.refl.set
      have af8 := (pen4.al but5 af).same s68
      obtain ⟨in1, in2⟩ := part_in0 (x := x) w0 tt0 tt1
      refine ⟨_, vs ++ [y], F ++ [x + wd * tt], rfl, ((pen5.same s68).set gp' gc).more (by omega), upd_same, Al.snoc (Al.bear hg8 b9 af8) (RV.bear hg8 b9 ry), by simp [lf], fun q hq => ?_, fun c' o e nc => ?_, RV.bear hg8 b9 (rw6.same (s7.trans s8))⟩
      · rcases List.mem_append.mp hq with hq | hq
        · exact inn q hq
        · rw [List.mem_singleton.mp hq]
          exact ⟨in1, in2, zq⟩
      · exact b9 _ _ (s68 _ _ (but5 _ _ (b4 _ _ e nc) nc)) (gH _ _ e)
    · rintro σ H4 ⟨v6, vs, F, rfl, pen4, hg, af, lf, inn, b4, rw4⟩
      refine ⟨_, rfl, .ref g, F, 27, 19, rfl, ⟨g, vs, rfl, hg, af⟩, by omega, fun j hj => (inn _ (cf_mem hj)).2.2.sz, by decide, by decide, fun y H5 rs s5 lr asc mem => ?_⟩
      have sub : ∀ q ∈ rs, q ∈ F := fun q hq => (mem q).mp hq
      have few : rs.length ≤ F.length := asc_sub asc sub
      have pos : 0 < rs.length := List.length_pos_of_mem ((mem _).mpr (cf_mem (qs := F) (i := 0) (by omega)))
      have pen5 := pen4.same s5
      have b5 := b4.trans (.ofSame s5)
      obtain ⟨l, us, rfl, hl, al⟩ := id lr
      have lu := al.1
      refine ⟨_, rfl, l, rfl, ⟨_, SqL.of hl⟩, fun D hD => ?_⟩
      have nDp := pen5.newP hD
      have nDc := pen5.newC hD
      refine lc_mapLP pen5 (SqL.of hl) (by omega) hD nDp (fun j acc H' => Pen H' p c (n + 8 + j) ∧ ∃ ws : List Int, acc = ws.map V.int ∧ ws.length = j ∧ ∀ z ∈ ws, 1 ≤ z ∧ z ≤ 9) ?_ ⟨pen5.more (by omega), [], rfl, rfl, fun z hz => by cases hz⟩ ?_ ?_
      · rintro j acc H6 H7 lD b ⟨pn, r⟩
        exact ⟨bear_pen lD nDc b pn, r⟩
      · rintro j z hz acc H6 Qk Z la ⟨pn, ws, rfl, lw, gw⟩ b6 eD kk
        have lt := (List.getElem?_eq_some_iff.mp hz).1
        refine ⟨rfl, ?_⟩
        dsimp only [tYes]
        refine iteT ⟨_, rfl, p, c, _, 9, rfl, pn, by omega, by decide, by decide, fun t H7 t0 t9 pen7 but7 => ⟨_, _, rfl, rfl, kk _ _ but7 ⟨pen7, ws ++ [1 + t], by simp, by simp [lw], fun z hz => ?_⟩⟩⟩
        rcases List.mem_append.mp hz with hz | hz
        · exact gw z hz
        · rw [List.mem_singleton.mp hz]
          omega
      · rintro acc H6 eD lacc ⟨pn, ws, rfl, lw, gw⟩ b6
        obtain ⟨T0, T54, wp, zp⟩ := wts_ok gw (by omega) (by omega)
        have hl6 := pen5.lst b6 hl
        have al6 := pen5.al b6 al
        have b06 := b5.trans b6
        refine ⟨_, rfl, _, rfl, D, rfl, ⟨_, SqL.of eD⟩, fun D2 hD2 => ?_⟩
        refine lc_mapL (SqL.of eD) (by rw [List.length_map]; omega) hD2 (fun j ac H' => Al K H' ac ((wts ws).take j)) bears_al Al.nil ?_ ?_
        · rintro j z hz ac H7 Qk Z la r s7 kk
          rw [List.getElem?_map] at hz
          have lt : j < ws.length := by
            rcases Nat.lt_or_ge j ws.length with h | h
            · exact h
            · rw [List.getElem?_eq_none h] at hz
              cases hz
          have ej : ws[j]? = some ws[j] := List.getElem?_eq_getElem lt
          rw [ej] at hz
          cases hz
          refine ⟨rfl, ?_⟩
          dsimp only [tYes]
          refine iteT ⟨_, rfl, _, rfl, D, ws, rfl, SqL.of (s7 _ _ eD), ws[j], ws.sum, rfl, by omega, ?_, fun v' H8 s8 rr => kk v' H8 s8 ?_⟩
          · exact Nat.lt_of_lt_of_le (show ws.sum.natAbs < 2 ^ 6 by omega) (Nat.pow_le_pow_right (by decide) (by decide))
          · have e2 : (wts ws)[j]? = some (Rat.divInt ws[j] ws.sum) := by
              unfold wts
              rw [List.getElem?_map, ej]
              rfl
            show Al K H8 (ac ++ [v']) ((wts ws).take (j + 1))
            rw [take_snoc e2]
            exact (Al.same s8 r).snoc rr
        · rintro ac H7 hac lac r s7
          have r : Al K H7 ac ((wts ws).take (ws.map V.int).length) := r
          have lq : (wts ws).length = (ws.map V.int).length := by unfold wts; rw [List.length_map, List.length_map]
          rw [← lq, List.take_length] at r
          refine ⟨(by show 2 ≤ sizeLine; decide), fun t nt => ?_⟩
          have s8 := Same.new (o := .tup [V.ref l, V.ref D2]) nt
          have s78 := s7.trans s8
          refine k t (.ref l) (.ref D2) _ rs (wts ws) ((pn.same s78).more (by omega)) (b06.trans (.ofSame s78)) (SqT.of upd_same) ⟨l, us, rfl, s78 _ _ hl6, al6.same s78⟩ ⟨D2, ac, rfl, s8 _ _ hac, r.same s8⟩ ⟨⟨pos, by omega, ?_, fun q hq => (inn q (sub q hq)).2.2, zp⟩, asc, fun q hq => ⟨(inn q (sub q hq)).1, (inn q (sub q hq)).2.1⟩, wp⟩
          unfold wts
          rw [List.length_map]
          omega
end
end Kz
set_option linter.all false
set_option maxRecDepth 100000
set_option maxHeartbeats 4000000
set_option pp.maxSteps 400
namespace Kz
open PySem PySem.Spec PyProof.Rows L2
theorem dotR_snoc {v p : Rat} : ∀ {vs ps : List Rat}, vs.length = ps.length → dotR (vs ++ [v]) (ps ++ [p]) = dotR vs ps + v * p
  | [], [], _ => by
    show v * p + 0 = 0 + v * p
    rw [Rat.add_zero, Rat.zero_add]
  | [], _ :: _, h => by cases h
  | _ :: _, [], h => by cases h
  | a :: vs, b :: ps, h => by
    show a * b + dotR (vs ++ [v]) (ps ++ [p]) = a * b + dotR vs ps + v * p
    rw [dotR_snoc (Nat.succ.inj h), Rat.add_assoc]
theorem dot_mz1 : ∀ {vs ps : List Rat}, vs.length = ps.length → 0 < vs.length → (∀ v ∈ vs, Mz 55 737 v) → (∀ p ∈ ps, Mz 1 6 p) → Mz (57 + vs.length) (743 * vs.length) (dotR vs ps)
  | [], _, _, h, _, _ => absurd h (Nat.lt_irrefl 0)
  | [_], [], h, _, _, _ => by cases h
  | [v], p :: ps, _, _, h, g => by
    have a := mul_mz (h v List.mem_cons_self) (g p List.mem_cons_self)
    have e : dotR [v] (p :: ps) = v * p := by
      show v * p + dotR [] ps = v * p
      show v * p + 0 = v * p
      rw [Rat.add_zero]
    rw [e]
    exact a.up (by simp) (by simp)
  | _ :: _ :: _, [], h, _, _, _ => by cases h
  | v :: u :: vs, p :: ps, l, _, h, g => by
    have ih := dot_mz1 (vs := u :: vs) (ps := ps) (Nat.succ.inj l) (Nat.succ_pos _) (fun q hq => h q (List.mem_cons_of_mem _ hq)) (fun q hq => g q (List.mem_cons_of_mem _ hq))
    have a := mul_mz (h v List.mem_cons_self) (g p List.mem_cons_self)
    refine (add_mz a ih).up ?_ ?_
    · simp only [List.length_cons]
      omega
    · simp only [List.length_cons]
      omega
section
variable {P : Program} {w : World} {K : PySem.W.Frag} {mg : Str → Option Value} {base : Heap}
def spSm (K : PySem.W.Frag) : Sp := fun vs H Q _ => ∃ (t : Addr) (f a b : V) (xs parts ks : List Rat) (m : Rm), vs = [.ref t, f] ∧ SqT K H t [a, b] ∧ LR K H a xs ∧ LR K H b parts ∧ ShOk xs parts ∧ FnV K H f ks m.ps m.as ∧ RmOk ks xs m ∧
  ∀ v H', Same H H' → RV K H' v (mnQ ks xs parts m) → Mz 64 4458 (mnQ ks xs parts m) → Q v H'
abbrev nSm : List Str := ["_law_given", "_law_f", "_law_amount", "_law_x", "_law_part"]
theorem sc78g : FnScope nSm ["_law_given", "_law_f"] (defScope (top 78)) := ⟨rfl, rfl, rfl, by decide +kernel, rfl, by decide +kernel, by decide +kernel⟩
theorem ok_sm (T : Tg P K mg) : FnOk P w K mg base CX0 6 T.l_smean.f T.l_smean.fd ["_law_given", "_law_f"] (spSm K) := by
  have G1 : FnOk P w K mg base CX0 5 T.l_fat.f T.l_fat.fd ["_law_f", "_law_x"] (spFat K) := ok_fat T.toTk
  have G4 : FnOk P w K mg base CX0 3 T.l_plus.f T.l_plus.fd ["_law_one", "_law_two"] (spL2 K cBin (fun q r => q + r)) := ok_lplus T.toTy
  have G6 : FnOk P w K mg base CX0 3 T.l_times.f T.l_times.fd ["_law_one", "_law_two"] (spL2 K cBin (fun q r => q * r)) := ok_ltimes T.toTy
  refine T.l_smean.fn.ok sc78g (fun vs H Q E h => ?_) (fun cdv A outer s H vs Q E hr h => ?_)
  · obtain ⟨t, f, a, b, xs, parts, ks, m, rfl, _⟩ := h
    rfl
  · obtain ⟨t, f, a, b, xs, parts, ks, m, rfl, ht, ha, hb, so, hf, mk, k⟩ := h
    have hr3 : Room 3 _ := hr.mono (by decide)
    refine ⟨_, pss_cons (ps_set (i := 2) sc78g.nd rfl (.inl rfl) (pe_tup (pa_cons pe_int (pa_cons pe_int pa_nil))))
      (pss_cons (ps_for PassesOwn.never rfl (pi_zip (by rfl) T.mZip (pa_cons (pe_ix ix_tup (pv 0) pe_int (fun _ _ => rfl)) (pa_cons (pe_ix ix_tup (pv 0) pe_int (fun _ _ => rfl)) pa_nil))) (pg_tup (by rfl) (pgs_cons (pg_name (i := 3) sc78g.nd rfl (.inl rfl)) (pgs_cons (pg_name (i := 4) sc78g.nd rfl (.inl rfl)) pgs_nil)))
        (pss_one (ps_set (i := 2) sc78g.nd rfl (.inl rfl) (T.l_plus.c0 G4 hr3 (pa_cons (pv 2) (pa_cons (T.l_times.c0 G6 hr3 (pa_cons (pv 4) (pa_cons (T.l_fat.c0 G1 hr (pa_cons (pv 1) (pa_cons (pv 3) pa_nil))) pa_nil))) pa_nil))))))
      (pss_one (ps_ret (pv 2)))), ?_⟩
    refine ⟨(by show 2 ≤ sizeLine; decide), fun p0 n0 => ?_⟩
    have s1 := Same.new (o := .tup [V.int 0, V.int 1]) n0
    have e1 : upd H p0 (.tup [V.int 0, V.int 1]) p0 = some (.tup [V.int 0, V.int 1]) := upd_same
    generalize upd H p0 (.tup [V.int 0, V.int 1]) = H1 at s1 e1 ⊢
    have r0 : RV K H1 (.ref p0) 0 := ⟨p0, rfl, SqT.of e1⟩
    obtain ⟨la, us, rfl, hla, ala⟩ := id ha
    obtain ⟨lb, ws, rfl, hlb, alb⟩ := id hb
    have l1 := ala.1
    have l2 := alb.1
    have l3 := so.len
    have zpp : ∀ p ∈ parts, Mz 1 6 p := so.zp
    have ht1 := Kz.Same.seqT s1 ht
    refine ⟨_, rfl, t, _, _, _, rfl, rfl, ht1, rfl, _, rfl, t, _, _, _, rfl, rfl, ht1, rfl, ?_⟩
    refine ⟨la, lb, us, ws, rfl, SqL.of (s1 _ _ hla), SqL.of (s1 _ _ hlb), RZ.for_zipL (K := K) (a := la) (b := lb) (xs := us) (ys := ws) (by omega) (fun i σ H' => ∃ mv n3 n4, σ = [some (.ref t), some f, some mv, n3, n4] ∧ Same H H' ∧ RV K H' mv (dotR ((xs.map (vq ks m.ps m.as)).take i) (parts.take i)) ∧ ∀ x ∈ xs.take i, Vat ks m.ps m.as x (vq ks m.ps m.as x))
      ⟨_, _, _, rfl, s1, r0, fun x hx => by cases hx⟩ (fun i σ H' ⟨_, _, _, _, s, _, _⟩ => ⟨SqL.of (s _ _ hla), SqL.of (s _ _ hlb)⟩) ?_ ?_⟩
    · rintro i x y p σ H2 hx hy ⟨mv, n3, n4, rfl, s2, rm, vv⟩ np
      have lt : i < xs.length := by
        have := (List.getElem?_eq_some_iff.mp hx).1
        omega
      have s3 := Same.new (o := .tup [x, y]) np
      have s23 := s2.trans s3
      have rx := (ala.2 i x _ hx (at_cf lt)).same s23
      have ry := (alb.2 i y _ hy (at_cf (by omega))).same s23
      have mem : cf xs i ∈ xs := cf_mem lt
      have zx := so.zx _ mem
      obtain ⟨lo, hi⟩ := mk.rg _ mem
      have lk := mk.F.len
      have la' := mk.la
      have cov : (∃ k, k < m.ps.length ∧ Within ks (cf xs i) k) ∨ ∃ k, k < ks.length ∧ cf ks k = cf xs i := by
        rw [show ks.length - 1 = m.ps.length by omega] at hi
        rcases cover lo m.ps.length hi with h | ⟨k, hk, e⟩
        · exact .inl h
        · exact .inr ⟨k, by omega, e⟩
      refine ⟨p, _, rfl, SqT.of upd_same, rfl, _, _, rfl, _, _, rfl, rfl, ?_⟩
      generalize upd H2 p (.tup [x, y]) = H3 at s3 s23 rx ry ⊢
      refine ⟨_, rfl, _, rfl, _, rfl, _, rfl, f, x, ks, m.ps, m.as, cf xs i, rfl, hf.same s23, mk.F, mk.la, rx, zx.up (by decide) (by decide), cov, fun v' H4 q s4 rq va => ?_⟩
      have eq := vq_of mk.F va
      subst eq
      have zv := mk.vz zx va
      have zy := zpp _ (cf_mem (qs := parts) (i := i) (by omega))
      refine ⟨y, v', _, _, _, _, _, _, rfl, (ry.same s4).pq zy.sz, rq.pq zv.sz, ⟨by decide, by decide⟩, fun v5 H5 s5 r5 => ?_⟩
      have s35 := s4.trans s5
      have zacc : Mz 63 4459 (dotR ((xs.map (vq ks m.ps m.as)).take i) (parts.take i)) := by
        have few := so.few
        refine (dot_mz (vs := (xs.map (vq ks m.ps m.as)).take i) (ps := parts.take i) (fun q hq => ?_) (fun q hq => zpp q (List.mem_of_mem_take hq))).up ?_ ?_
        · rw [← List.map_take] at hq
          obtain ⟨z, hz, rfl⟩ := List.mem_map.mp hq
          exact mk.vz (so.zx z (List.mem_of_mem_take hz)) (vv z hz)
        · rw [List.length_take, List.length_map]
          omega
        · rw [List.length_take, List.length_map]
          omega
      refine ⟨mv, v5, _, _, _, _, _, _, rfl, ((rm.same s3).same s35).pq zacc.sz, r5.pq (mul_mz zy zv).sz, ⟨by decide, by decide⟩, fun v6 H6 s6 r6 => ?_⟩
      have e2 : (xs.map (vq ks m.ps m.as))[i]? = some (vq ks m.ps m.as (cf xs i)) := by rw [List.getElem?_map, at_cf lt]; rfl
      refine ⟨v6, _, _, rfl, s23.trans (s35.trans s6), ?_, ?_⟩
      · rw [take_snoc e2, take_snoc (at_cf (qs := parts) (i := i) (by omega)), dotR_snoc (by rw [List.length_take, List.length_take, List.length_map, l3]), Rat.mul_comm]
        exact r6
      · rw [take_snoc (at_cf lt)]
        intro z hz
        rcases List.mem_append.mp hz with hz | hz
        · exact vv z hz
        · rw [List.mem_singleton.mp hz]
          exact va
    · rintro σ H2 ⟨mv, n3, n4, rfl, s2, rm, vv⟩
      have e1 : (xs.map (vq ks m.ps m.as)).take us.length = xs.map (vq ks m.ps m.as) := List.take_of_length_le (by rw [List.length_map]; omega)
      have e2 : parts.take us.length = parts := List.take_of_length_le (by omega)
      have e3 : xs.take us.length = xs := List.take_of_length_le (by omega)
      rw [e3] at vv
      rw [e1, e2] at rm
      refine ⟨_, rfl, k mv H2 s2 rm ?_⟩
      have few := so.few
      refine (dot_mz1 (vs := xs.map (vq ks m.ps m.as)) (ps := parts) (by rw [List.length_map, l3]) (by rw [List.length_map]; exact so.pos) (fun q hq => ?_) zpp).up ?_ ?_
      · obtain ⟨z, hz, rfl⟩ := List.mem_map.mp hq
        exact mk.vz (so.zx z hz) (vv z hz)
      · rw [List.length_map]
        omega
      · rw [List.length_map]
        omega
end
end Kz
set_option linter.all false
set_option maxRecDepth 100000
set_option maxHeartbeats 4000000
set_option pp.maxSteps 400
namespace Kz
open PySem PySem.Spec PyProof.Rows L2
theorem Sq.off2 {K : PySem.W.Frag} {p c a : Addr} {n : Nat} {H H' : Hp} {us : List V} (b : But p H H') (pen : Pen H p c n) (h : SqL K H a us ∨ SqT K H a us) : SqL K H' a us ∨ SqT K H' a us := h.imp (pen.seqL b) (pen.seqT b)
theorem Rw.pen {K : PySem.W.Frag} {p c : Addr} {n : Nat} {H H' : Hp} {v : V} {qs : List Rat} (b : But p H H') (pen : Pen H p c n) (h : Rw K H v qs) : Rw K H' v qs := by
  obtain ⟨a, us, n', m, e, hs, al, r⟩ := h
  exact ⟨a, us, n', m, e, Sq.off2 b pen hs, pen.alA b al, r⟩
section
variable {P : Program} {w : World} {K : PySem.W.Frag} {mg : Str → Option Value} {base : Heap}
def spPr (K : PySem.W.Frag) : Sp := fun vs H Q _ => ∃ (p c : Addr) (n : Nat) (v : V) (qs : List Rat) (α β : Nat), vs = [.ref p, v] ∧ Pen H p c n ∧ n ≤ 800000 ∧ LR K H v qs ∧ SzA α β qs ∧ 0 < α ∧ 0 < β ∧ α ≤ 1000 ∧ β ≤ 90 ∧ qs.length ≤ 20 ∧
  ∀ u H', Pen H' p c (n + 70) → But p H H' → Rw K H' u qs → Q u H'
abbrev nPr' : List Str := ["_law_pen_here", "_law_row_here", "_law_found", "_law_one"]
theorem sc81g : FnScope nPr' ["_law_pen_here", "_law_row_here"] (defScope (top 81)) := ⟨rfl, rfl, rfl, by decide +kernel, rfl, by decide +kernel, by decide +kernel⟩
theorem ok_pr (T : Tg P K mg) : FnOk P w K mg base CX0 4 T.l_prow.f T.l_prow.fd ["_law_pen_here", "_law_row_here"] (spPr K) := by
  have G1 : FnOk P w K mg base CX0 3 T.l_passed.f T.l_passed.fd ["_law_pen_here", "_law_ratio_here"] (spPassed K) := ok_lpassed T.toTu
  have G2 : FnOk P w K mg base CX0 2 T.l_pick.f T.l_pick.fd ["_law_pen_here", "_law_some"] spPick := ok_lpick T.toTu
  refine T.l_prow.fn.ok sc81g (fun vs H Q E h => ?_) (fun cdv A outer s H vs Q E hr h => ?_)
  · obtain ⟨p, c, n, v, qs, α, β, rfl, _⟩ := h
    rfl
  · obtain ⟨p, c, n, v, qs, α, β, rfl, pen, n8, lr, zq, a0, b0, a1, b1, len, k⟩ := h
    have hr2 : Room 2 _ := hr.mono (by decide)
    refine ⟨_, pss_cons (ps_setLc (i := 2) (own := [("_law_one", 3)]) (g := gName 3) (tt := tYes) rfl sc81g.nd rfl rfl (sw_true rfl rfl rfl (by decide +kernel)) (pi_list (pv 1)) (blkOk_by (own := [("_law_one", 3)]) (N := nPr') (sc := defScope (top 81)) (by decide +kernel))
        (fun _ _ _ _ _ => pg_name (i := 3) sc81g.nd rfl (Or.inl rfl)) (fun _ _ _ _ _ => pts_nil) (fun _ _ _ _ _ => T.l_passed.c0 G1 hr (pa_cons (pv 0) (pa_cons (pv 3) pa_nil))))
      (pss_one (ps_ret (T.l_pick.c0 G2 hr2 (pa_cons (pv 0) (pa_cons (pe_lst (pa_cons (pv 2) (pa_cons (pe_callTy call_tuple_of (by rfl) T.mTuple boot_ttuple (pa_cons (pv 2) pa_nil)) pa_nil))) pa_nil))))), ?_⟩
    obtain ⟨l, us, rfl, hl, al⟩ := id lr
    have lu := al.1
    refine ⟨_, rfl, l, rfl, ⟨_, SqL.of hl⟩, fun D hD => ?_⟩
    have nDp := pen.newP hD
    have nDc := pen.newC hD
    refine lc_mapLP pen (SqL.of hl) (by omega) hD nDp (PassR K p c D n α β qs) (PassR.bears nDc) ⟨pen, AlA.nil, fun u h => by cases h⟩ ?_ ?_
    · rintro j y hy ac H2 Qk Z lac r b e kk
      refine ⟨rfl, ?_⟩
      dsimp only [tYes]
      refine iteT ⟨_, rfl, _, rfl, ?_⟩
      exact pass_step (E := fun _ _ _ => False) pen al zq a0 b0 (by omega) (by omega) (by omega) hy r b e kk
    · rintro ac H2 e2 lac ⟨pn, aa, hq⟩ b2
      have aa : AlA K H2 ac (α + 2) (β + 2) (qs.take us.length) := aa
      rw [lu, List.take_length] at aa
      have pn : Pen H2 p c (n + 60) := pn.more (by omega)
      refine ⟨_, rfl, _, rfl, _, rfl, D, ac, rfl, .inl ⟨SqL.of e2, fun tt nt => ?_⟩⟩
      have s3 := Same.new (o := .tup ac) nt
      have e3 : upd H2 tt (.tup ac) tt = some (.tup ac) := upd_same
      generalize upd H2 tt (.tup ac) = H3 at s3 e3 ⊢
      refine ⟨(by show 2 ≤ sizeLine; decide), fun g ng => ?_⟩
      have s4 := Same.new (o := .lst [V.ref D, V.ref tt]) ng
      have e4 : upd H3 g (.lst [V.ref D, V.ref tt]) g = some (.lst [V.ref D, V.ref tt]) := upd_same
      generalize upd H3 g (.lst [V.ref D, V.ref tt]) = H4 at s4 e4 ⊢
      have s34 := s3.trans s4
      have pn4 := pn.same s34
      refine ⟨p, c, g, _, _, rfl, pn4, by omega, e4, (by show 0 < 2; decide), (by show 2 < 1000000; decide), fun z v H5 hz pen5 but5 => ?_⟩
      have b5 := (b2.trans (.ofSame s34)).trans but5
      have aa4 := aa.same s34
      have mem := mem_of_at hz
      simp only [List.mem_cons, List.not_mem_nil, or_false] at mem
      have pen5 := pen5.more (k := n + 70) (by omega)
      rcases mem with rfl | rfl
      · exact k _ H5 pen5 b5 ⟨D, ac, _, _, rfl, .inl (pn4.seqL but5 (SqL.of (s34 _ _ e2))), pn4.alA but5 aa4, by omega, by omega, by omega⟩
      · exact k _ H5 pen5 b5 ⟨tt, ac, _, _, rfl, .inr (pn4.seqT but5 (Kz.Same.seqT s4 (SqT.of e3))), pn4.alA but5 aa4, by omega, by omega, by omega⟩
def spMs (K : PySem.W.Frag) (cS : Addr) : Sp := fun vs H Q _ => ∃ (p c : Addr) (n : Nat) (t : Addr) (a b : V) (xs parts : List Rat), vs = [.ref p, .ref t] ∧ Pen H p c n ∧ n ≤ 700000 ∧ SqT K H t [a, b] ∧ LR K H a xs ∧ LR K H b parts ∧ ShOk xs parts ∧ Asc xs ∧ wpB parts = true ∧
  ∀ u H', Pen H' p c (n + 140) → But p H H' → ShAt K cS H' u xs parts → Q u H'
theorem sc82g : FnScope ["_law_pen_here", "_law_share"] ["_law_pen_here", "_law_share"] (defScope (top 82)) := ⟨rfl, rfl, rfl, by decide +kernel, rfl, by decide +kernel, by decide +kernel⟩
theorem ok_ms (T : Tg P K mg) : FnOk P w K mg base CX0 11 T.l_mshare.f T.l_mshare.fd ["_law_pen_here", "_law_share"] (spMs K T.cS) := by
  have G1 : FnOk P w K mg base CX0 4 T.l_prow.f T.l_prow.fd ["_law_pen_here", "_law_row_here"] (spPr K) := ok_pr T
  have G2 : FnOk P w K mg base (CX P w) 9 T.s_init.f T.s_init.fd ["self", "places", "parts"] (spSinit K T.cS) := ok_sinit T
  refine T.l_mshare.fn.ok sc82g (fun vs H Q E h => ?_) (fun cdv A outer s H vs Q E hr h => ?_)
  · obtain ⟨p, c, n, t, a, b, xs, parts, rfl, _⟩ := h
    rfl
  · obtain ⟨p, c, n, t, a, b, xs, parts, rfl, pen, n7, ht, ha, hb, so, asc, wp, k⟩ := h
    have hr4 : Room 4 _ := hr.mono (by decide)
    have hr9 : Room 9 _ := hr.mono (by decide)
    have hb' : FnOk P w K mg base (CX P w) 9 T.s_init.f T.s_init.fd ["self", "places", "parts"] (spSinit K T.cS) := G2
    refine ⟨_, pss_one (ps_ret (pe_make T.mkS hb' hr (by rfl) T.mgS T.s_init.b .nil passL (pa_cons (T.l_prow.c0 G1 hr4 (pa_cons (pv 0) (pa_cons (pe_ix ix_tup (pv 1) pe_int (fun _ _ => rfl)) pa_nil))) (pa_cons (T.l_prow.c0 G1 hr4 (pa_cons (pv 0) (pa_cons (pe_ix ix_tup (pv 1) pe_int (fun _ _ => rfl)) pa_nil))) pa_nil)))), ?_⟩
    have few := so.few
    have lp := so.len
    have zx : SzA 27 19 xs := fun i hi => (so.zx _ (cf_mem hi)).sz
    have zp : SzA 7 6 parts := fun i hi => (so.zp _ (cf_mem hi)).sz
    refine ⟨_, rfl, _, rfl, t, _, _, _, rfl, rfl, ht, rfl, p, c, n, a, xs, 27, 19, rfl, pen, by omega, ha, zx, by decide, by decide, by decide, by decide, by omega, fun u H1 pen1 b1 r1 => ?_⟩
    have ht1 := pen.seqT b1 ht
    have hb1 := pen.lr b1 hb
    refine ⟨_, rfl, _, rfl, t, _, _, _, rfl, rfl, ht1, rfl, p, c, _, b, parts, 7, 6, rfl, pen1, by omega, hb1, zp, by decide, by decide, by decide, by decide, by omega, fun v H2 pen2 b2 r2 => ?_⟩
    have r1' := r1.pen b2 pen1
    intro x dx nx ndx ne
    have s4 := make_same (C := T.cS) nx ndx
    refine ⟨x, dx, u, v, H2, xs, parts, rfl, upd_same, s4, nx, r1', so.pos, ascB_true.mpr asc, r2, lp, wp, fun H5 t1 t2 w1 w2 b5 hx5 h1 a1 h2 a2 => ⟨rfl, ?_⟩⟩
    have s5 : Same H2 H5 := sameOff s4 nx b5
    exact k _ H5 ((pen2.same s5).more (by omega)) ((b1.trans b2).trans (.ofSame s5)) ⟨x, dx, t1, t2, w1, w2, rfl, hx5, h1, a1, h2, a2⟩
end
end Kz
set_option linter.all false
set_option maxRecDepth 100000
set_option maxHeartbeats 4000000
set_option pp.maxSteps 400
namespace Kz
open PySem PySem.Spec PyProof.Rows L2
section
variable {K : PySem.W.Frag} {a : Addr} {xs : List V} {g : TG} {te : TE} {vs : List Nat} {σ : L2.St} {H1 : Hp} {D p c : Addr} {n0 : Nat} {Qd : Hp → Prop}
theorem lc_mapTP (pen : Pen H1 p c n0) (hl : SqT K H1 a xs) (len : xs.length ≤ 1000) (hD : H1 D = none) (np : D ≠ p) (R : Nat → List V → Hp → Prop) (br : Bears D R) (h0 : R 0 [] H1) (step : ∀ i x, xs[i]? = some x → StepBut p D g te vs σ H1 R i x)
    (fin : ∀ acc H', H' D = some (.lst acc) → acc.length = xs.length → R xs.length acc H' → But p H1 H' → Qd H') : ∃ W : Nat → Nat → Hp → Prop, (∃ m, W 0 m (upd H1 D (.lst []))) ∧ ∀ i m H, W i m H →
      ((Itt K a).stop i H ∧ Qd H) ∨ ((Itt K a).go i H ∧ ∃ Nx : Hp → Prop, (∀ H', Nx H' → ∃ m', m' < m ∧ W (i + 1) m' H') ∧ ∀ x H', (Itt K a).yld i H x H' → g x (wipe σ vs) H' fun σ2 H2 => wipe σ2 vs = wipe σ vs ∧ tYes σ2 H2 fun b H3 =>
        if b = true then te σ2 H3 fun y H4 => ∃ acc, H4 D = some (.lst acc) ∧ acc.length < sizeLine ∧ Nx (upd H4 D (.lst (acc ++ [y]))) else Nx H3) := by
  refine lc_tup (fun i H' => ∃ acc, H' D = some (.lst acc) ∧ acc.length = i ∧ i ≤ xs.length ∧ R i acc H' ∧ But p H1 H') ⟨[], upd_same, rfl, Nat.zero_le _, br _ _ _ _ (fun o e => by rw [hD] at e; cases e) (But.refl.set) h0, But.refl.new hD⟩
    (fun i H' _ ⟨acc, _, _, _, _, s⟩ => pen.seqT s hl) ?_ fun H' ⟨acc, e, l, _, r, s⟩ => fin acc H' e l r s
  rintro i x H' hx ⟨acc, e, l, le, r, s⟩
  have lt : i < xs.length := (List.getElem?_eq_some_iff.mp hx).1
  refine step i x hx acc H' _ _ l r s e fun y H4 s4 r4 => ⟨acc, s4 _ _ e np, le1000 (by omega), acc ++ [y], upd_same, by simp [l], lt, br _ _ _ _ (fun o e4 => ?_) But.refl.set r4, fun c u ec nc => ?_⟩
  · rw [s4 _ _ e np] at e4
    cases e4
    exact ⟨_, rfl⟩
  · rw [upd_ne (ne_of_none ec hD)]
    exact s4 _ _ (s _ _ ec nc) nc
end
/-- bounds passed so far -/
def BdR (K : PySem.W.Frag) (p c D : Addr) (n : Nat) (os : List (Option Rat)) (i : Nat) (acc : List V) (H : Hp) : Prop := Pen H p c (n + 3 * i) ∧ acc.length = i ∧ ∀ (j : Nat) (v : V) (o : Option Rat), acc[j]? = some v → os[j]? = some o → OA K H v o ∧ v ≠ .ref D
theorem BdR.bears {K : PySem.W.Frag} {p c D : Addr} {n : Nat} {os : List (Option Rat)} (nc : D ≠ c) : Bears D (BdR K p c D n os) := fun i acc H H' l b ⟨pn, la, h⟩ =>
  ⟨bear_pen l nc b pn, la, fun j v o e1 e2 => ⟨(h j v o e1 e2).1.imp id fun ⟨q, m, e, r, z⟩ => ⟨q, m, e, bear_argQ l (h j v o e1 e2).2 b r, z⟩, (h j v o e1 e2).2⟩⟩
theorem OA.pen {K : PySem.W.Frag} {p c : Addr} {n : Nat} {H H' : Hp} {v : V} {o : Option Rat} (b : But p H H') (pen : Pen H p c n) (h : OA K H v o) : OA K H' v o := h.imp id fun ⟨q, m, e, r, z⟩ => ⟨q, m, e, pen.argQ b r, z⟩
theorem OR.pen {K : PySem.W.Frag} {p c : Addr} {n : Nat} {H H' : Hp} {v : V} {o : Option Rat} (b : But p H H') (pen : Pen H p c n) (h : OR K H v o) : OR K H' v o := h.imp id fun ⟨q, e, r⟩ => ⟨q, e, pen.rv b r⟩
section
variable {P : Program} {w : World} {K : PySem.W.Frag} {mg : Str → Option Value} {base : Heap}
def spMt (K : PySem.W.Frag) (cT cB cP : Addr) : Sp := fun vs H Q _ => ∃ (p c : Addr) (n : Nat) (t : Addr) (fv lv hv : V) (ks : List Rat) (m : Rm), vs = [.ref p, .ref t] ∧ Pen H p c n ∧ n ≤ 700000 ∧ SqT K H t [fv, lv, hv] ∧ FnV K H fv ks m.ps m.as ∧ Fsz ks m.ps ∧ m.as.length = ks.length ∧ (∀ q ∈ m.as, Mz 55 737 q) ∧
  OR K H lv m.lo ∧ OR K H hv m.hi ∧ (∀ q, m.lo = some q → Sz 9000 4498 q) ∧ (∀ q, m.hi = some q → Sz 9000 4498 q) ∧ Bds ks m.ps m.as m.lo m.hi ∧
  ∀ u H', Pen H' p c (n + 320) → But p H H' → ToAt K cT cB cP H' u ks m.ps m.as m.lo m.hi → Q u H'
abbrev nMt : List Str := ["_law_pen_here", "_law_row_here", "_law_bounds", "_law_bound"]
theorem sc80g : FnScope nMt ["_law_pen_here", "_law_row_here"] (defScope (top 80)) := ⟨rfl, rfl, rfl, by decide +kernel, rfl, by decide +kernel, by decide +kernel⟩
theorem ok_mt (T : Tg P K mg) : FnOk P w K mg base CX0 12 T.l_mtold.f T.l_mtold.fd ["_law_pen_here", "_law_row_here"] (spMt K T.cT T.cB T.cP) := by
  have G1 : FnOk P w K mg base CX0 3 T.l_passed.f T.l_passed.fd ["_law_pen_here", "_law_ratio_here"] (spPassW K) := ok_passW T.toTu
  have G2 : FnOk P w K mg base CX0 9 T.l_mkf.f T.l_mkf.fd ["_law_pen_here", "_law_f"] (spMkf K T.cB T.cP) := ok_mkf T.toTc
  have G3 : FnOk P w K mg base (CX P w) 10 T.t_init.f T.t_init.fd ["self", "function", "least", "most"] (spTinit K T.cT T.cB T.cP) := ok_tinit T
  refine T.l_mtold.fn.ok sc80g (fun vs H Q E h => ?_) (fun cdv A outer s H vs Q E hr h => ?_)
  · obtain ⟨p, c, n, t, fv, lv, hv, ks, m, rfl, _⟩ := h
    rfl
  · obtain ⟨p, c, n, t, fv, lv, hv, ks, m, rfl, pen, n7, ht, hf, F, la, za, ol, oh, zl, zh, bd, k⟩ := h
    have hr3 : Room 3 _ := hr.mono (by decide)
    have hr9 : Room 9 _ := hr.mono (by decide)
    refine ⟨_, pss_cons (ps_setLc (i := 2) (own := [("_law_bound", 3)]) (g := gName 3) (tt := tYes) rfl sc80g.nd rfl rfl (sw_true rfl rfl rfl (by decide +kernel)) (pi_tup (pe_slice sl_tup (pv 1) (po_some pe_int) po_none)) (blkOk_by (own := [("_law_bound", 3)]) (N := nMt) (sc := defScope (top 80)) (by decide +kernel))
        (fun _ _ _ _ _ => pg_name (i := 3) sc80g.nd rfl (Or.inl rfl)) (fun _ _ _ _ _ => pts_nil) (fun _ _ _ _ _ => pe_ifExp (pt_cmpR op_isN (pv 3) pe_non (nomark _)) pe_non (T.l_passed.c0 G1 hr3 (pa_cons (pv 0) (pa_cons (pv 3) pa_nil)))))
      (pss_one (ps_ret (pe_make T.mkT G3 hr (by rfl) T.mgT T.t_init.b .nil passL (pa_cons (T.l_mkf.c0 G2 hr9 (pa_cons (pv 0) (pa_cons (pe_ix ix_tup (pv 1) pe_int (fun _ _ => rfl)) pa_nil)))
        (pa_cons (pe_ix ix_list (pv 2) pe_int (fun _ _ => rfl)) (pa_cons (pe_ix ix_list (pv 2) pe_int (fun _ _ => rfl)) pa_nil)))))), ?_⟩
    have h1 : HT.sIx 3 0 (some 1) = 1 := by decide
    refine ⟨_, rfl, _, rfl, t, _, rfl, ht, (fun z => absurd (h1.symm.trans z.1) (by decide)), fun tp ntp => ?_⟩
    rw [cut_drop]
    have s1 := Same.new (o := .tup ([fv, lv, hv].drop 1)) ntp
    have e1 : upd H tp (.tup ([fv, lv, hv].drop 1)) tp = some (.tup [lv, hv]) := upd_same
    generalize upd H tp (.tup ([fv, lv, hv].drop 1)) = H1 at s1 e1 ⊢
    have pen1 := pen.same s1
    refine ⟨tp, rfl, ⟨_, SqT.of e1⟩, fun D hD => ?_⟩
    have nDp := pen1.newP hD
    have nDc := pen1.newC hD
    have os : ∀ (j : Nat) (v : V) (o : Option Rat), [lv, hv][j]? = some v → [m.lo, m.hi][j]? = some o → OR K H1 v o ∧ ∀ q, o = some q → Sz 9000 4498 q := by
      intro j v o a b
      match j, a, b with
      | 0, a, b =>
        cases a
        cases b
        exact ⟨ol.same s1, zl⟩
      | 1, a, b =>
        cases a
        cases b
        exact ⟨oh.same s1, zh⟩
      | j + 2, a, b => cases a
    refine lc_mapTP pen1 (SqT.of e1) (by show 2 ≤ 1000; decide) hD nDp (BdR K p c D n [m.lo, m.hi]) (BdR.bears nDc) ⟨pen1, rfl, fun j v o a _ => by cases a⟩ ?_ ?_
    · rintro j y hy ac H2 Qk Z lac ⟨pn, lj, r⟩ b e kk
      have j2 : j < 2 := (List.getElem?_eq_some_iff.mp hy).1
      obtain ⟨o, eo⟩ : ∃ o, [m.lo, m.hi][j]? = some o := ⟨_, List.getElem?_eq_getElem j2⟩
      obtain ⟨oy, zy⟩ := os j y o hy eo
      have next : ∀ (v' : V) (H4 : Hp), But p H2 H4 → Pen H4 p c (n + 3 * (j + 1)) → OA K H4 v' o → v' ≠ .ref D → BdR K p c D n [m.lo, m.hi] (j + 1) (ac ++ [v']) H4 := fun v' H4 b4 pn4 oa nd => by
        refine ⟨pn4, by rw [List.length_append, lj]; rfl, fun i v o' a1 a2 => ?_⟩
        rcases Nat.lt_or_ge i ac.length with lt | ge
        · rw [List.getElem?_append_left lt] at a1
          obtain ⟨x1, x2⟩ := r i v o' a1 a2
          exact ⟨x1.pen b4 pn, x2⟩
        · have z := (List.getElem?_eq_some_iff.mp a1).1
          rw [List.length_append] at z
          have ei : i = ac.length := by
            have : [v'].length = 1 := rfl
            omega
          subst ei
          rw [List.getElem?_append_right (Nat.le_refl _), Nat.sub_self] at a1
          cases a1
          rw [lj, eo] at a2
          cases a2
          exact ⟨oa, nd⟩
      refine ⟨rfl, ?_⟩
      dsimp only [tYes]
      refine iteT ⟨_, rfl, rfl, _, rfl, ?_⟩
      rcases oy with ⟨rfl, e0⟩ | ⟨q, e0, rq⟩
      · rw [nonT rfl]
        refine iteT (kk _ _ But.refl (next _ _ But.refl (pn.more (by omega)) (.inl ⟨rfl, e0⟩) V.noConfusion))
      · rw [nonF rq.nn]
        refine iteF ⟨_, rfl, _, rfl, p, c, _, y, q, 9000, 4498, rfl, pn, by omega, pen1.rv b rq, zy q e0, by decide, by decide, by decide, by decide, fun u H4 pn4 b4 aq fresh => ?_⟩
        refine kk u H4 b4 (next u H4 b4 (pn4.more (by omega)) (.inr ⟨q, 9002, e0, aq, by decide⟩) fun z => ?_)
        have := fresh D z
        rw [e] at this
        cases this
    · rintro ac H2 e2 lac ⟨pn, lj, r⟩ b2
      have l2 : ac.length = 2 := lac
      obtain ⟨v0, v1, rfl⟩ : ∃ v0 v1, ac = [v0, v1] := by
        match ac, l2 with
        | [a, b], _ => exact ⟨a, b, rfl⟩
      have o0 := (r 0 v0 m.lo rfl rfl).1
      have o1 := (r 1 v1 m.hi rfl rfl).1
      have ht2 := pen1.seqT b2 (Kz.Same.seqT s1 ht)
      have hf2 := pen1.fnv b2 (hf.same s1)
      have pn2 : Pen H2 p c (n + 6) := pn
      have azs : Azs m.as := fun q hq => (za q hq).up (by decide) (by decide)
      refine ⟨_, rfl, _, rfl, t, _, _, _, rfl, rfl, ht2, rfl, p, c, _, fv, ks, m.ps, m.as, rfl, pn2, by omega, hf2, F, la, azs, fun f H3 pen3 b3 hb kn => ?_⟩
      have e3 := pn2.lst b3 e2
      have o0' := o0.pen b3 pn2
      have o1' := o1.pen b3 pn2
      refine ⟨_, rfl, D, _, _, _, rfl, rfl, SqL.of e3, rfl, _, rfl, D, _, _, _, rfl, rfl, SqL.of e3, rfl, ?_⟩
      intro x dx nx ndx ne
      have s4 := make_same (C := T.cT) nx ndx
      have bz : BrkZ K T.cB T.cP H3 f ks m.ps m.as := ⟨hb, F, la, fun q hq => (za q hq).up (by decide) (by decide)⟩
      refine ⟨x, dx, f, v0, v1, H3, ks, m.ps, m.as, m.lo, m.hi, rfl, upd_same, s4, nx, bz, kn, o0', o1', bd, fun H5 l h b5 hx5 oll ohh => ⟨rfl, ?_⟩⟩
      have s5 : Same H3 H5 := sameOff s4 nx b5
      exact k _ H5 ((pen3.same s5).more (by omega)) (((But.ofSame s1).trans b2).trans (b3.trans (.ofSame s5))) ⟨x, dx, f, l, h, rfl, hx5, hb.same s5, kn.same s5, oll, ohh⟩
/-- the law's own form of a function -/
abbrev nFof : List Str := ["_law_told", "_law_p"]
theorem sc75g : FnScope nFof ["_law_told"] (defScope (top 75)) := ⟨rfl, rfl, rfl, by decide +kernel, rfl, by decide +kernel, by decide +kernel⟩
theorem ok_fof (T : Tg P K mg) : FnOk P w K mg base CX0 2 T.l_fof.f T.l_fof.fd ["_law_told"] (spToldF K T.cB T.cP) := by
  refine T.l_fof.fn.ok sc75g (fun vs H Q E h => ?_) (fun cdv A outer s H vs Q E hr h => ?_)
  · obtain ⟨f, ks, ps, as, m, rfl, _⟩ := h
    rfl
  · obtain ⟨f, ks, ps, as, m, rfl, ⟨a, dx, t1, t2, t3, w1, us, w3, rfl, ha, h1, a1, h2, ⟨lu, p2⟩, h3, a3⟩, F, las, zas, m9, k⟩ := h
    refine ⟨_, pss_one (ps_ret (pe_tup (pa_cons (pe_callTy call_list_of (by rfl) T.blt.list boot_tlist (pa_cons (pe_fld (pv 0) (by rfl)) pa_nil))
      (pa_cons (pe_lc (own := [("_law_p", 1)]) (g := gName 1) (tt := tYes) rfl sc75g.nd (pi_tup (pe_fld (pv 0) (by rfl))) (blkOk_by (own := [("_law_p", 1)]) (N := nFof) (sc := defScope (top 75)) (by decide +kernel))
        (fun _ _ _ _ _ => pg_name (i := 1) sc75g.nd rfl (Or.inl rfl)) (fun _ _ _ _ _ => pts_nil) (fun _ _ _ _ _ => pe_callTy (call_listK (K' := K)) (by rfl) T.blt.list boot_tlist (pa_cons (pe_fldK (K' := K) (pv 1) (by rfl)) pa_nil)))
      (pa_cons (pe_callTy call_list_of (by rfl) T.blt.list boot_tlist (pa_cons (pe_fld (pv 0) (by rfl)) pa_nil)) pa_nil))))), ?_⟩
    have few := F.few
    refine ⟨_, rfl, a, T.cB, dx, _, _, rfl, ha, T.clB, T.nB1, lkB1, t1, w1, rfl, .inr h1, fun y1 n1 => ?_⟩
    have s1 := Same.new (o := .lst w1) n1
    have e1 : upd H y1 (.lst w1) y1 = some (.lst w1) := upd_same
    generalize upd H y1 (.lst w1) = H1 at s1 e1 ⊢
    refine ⟨_, rfl, a, T.cB, dx, _, _, rfl, s1 _ _ ha, T.clB, T.nB2, lkB2, t2, rfl, ⟨_, Kz.Same.seqT s1 h2⟩, fun D2 hD2 => ?_⟩
    refine lc_mapTD (Kz.Same.seqT s1 h2) (by omega) hD2 (RwD K D2 ps) RwD.bears ⟨rfl, fun j v p e1 => by simp at e1⟩ ?_ ?_
    · rintro i x hx acc H' Qk Z eD la r s6 kk
      have lt : i < ps.length := by
        have := (List.getElem?_eq_some_iff.mp hx).1
        omega
      obtain ⟨b, bx, tn, wn, rfl, hb, hn, an, _⟩ := (p2 i x _ hx (pv_at lt)).same (s1.trans s6)
      refine ⟨rfl, ?_⟩
      dsimp only [tYes]
      refine iteT ⟨_, rfl, b, T.cP, bx, _, _, rfl, hb, T.clP, T.nP, lkN, tn, wn, rfl, .inr hn, fun l nl => ?_⟩
      have s7 := Same.new (o := .lst wn) nl
      exact kk _ _ s7 ((r.same s7).snoc (pv_at lt) (ne_of_none eD nl).symm upd_same (an.same s7))
    · rintro acc H6 hacc lacc r s6
      have r' : RwD K D2 ps ps.length acc H6 := by
        rw [← lu]
        exact r
      have s16 := s1.trans s6
      refine ⟨_, rfl, a, T.cB, dx, _, _, rfl, s16 _ _ ha, T.clB, T.nB3, lkB3, t3, w3, rfl, .inr (Kz.Same.seqT s16 h3), fun y3 n3 => ?_⟩
      have s7 := Same.new (o := .lst w3) n3
      have e3 : upd H6 y3 (.lst w3) y3 = some (.lst w3) := upd_same
      generalize upd H6 y3 (.lst w3) = H7 at s7 e3 ⊢
      refine ⟨(by show 3 ≤ sizeLine; decide), fun t nt => ?_⟩
      have s8 := Same.new (o := .tup [V.ref y1, V.ref D2, V.ref y3]) nt
      have s18 := (s16.trans s7).trans s8
      refine k (.ref t) _ s18 ⟨t, _, _, _, rfl, SqT.of upd_same, ⟨y1, w1, rfl, ((s6.trans s7).trans s8) _ _ e1, a1.same s18⟩, ⟨D2, acc, rfl, (s7.trans s8) _ _ hacc, r'.1, fun j v p x y => ?_⟩, ⟨y3, w3, rfl, s8 _ _ e3, a3.same s18⟩⟩
      obtain ⟨l, ws, e, _, hl, al⟩ := r'.2 j v p x y
      exact ⟨l, ws, e, (s7.trans s8) _ _ hl, al.same (s7.trans s8)⟩
end
end Kz
set_option linter.all false
set_option maxRecDepth 100000
set_option maxHeartbeats 4000000
set_option pp.maxSteps 400
namespace Kz
open PySem PySem.Spec PyProof.Rows L2
theorem viaG {t : TS} {D : Ends} {σ : L2.St} {H : Hp} (R : L2.St → Hp → Prop) (h : ∀ D' : Ends, (∀ σ' H', R σ' H' → D'.nx σ' H') → t D' σ H) (k : ∀ σ' H', R σ' H' → D.nx σ' H') : t D σ H := h D k
theorem abv_f {ks as : List Rat} {ps : List (List Rat)} (h : ∀ j, j < ks.length → ∀ q ∈ lims ks ps j, q ≤ cf as j) : abv ks ps as ks.length = false := by
  unfold abv
  rw [List.any_eq_false]
  intro j hj
  rw [Bool.not_eq_true, List.any_eq_false]
  intro q hq
  rw [decide_eq_true_iff]
  exact Rat.not_lt.mpr (h j (List.mem_range.mp hj) q hq)
theorem blw_f {ks as : List Rat} {ps : List (List Rat)} (h : ∀ j, j < ks.length → ∀ q ∈ lims ks ps j, cf as j ≤ q) : blw ks ps as ks.length = false := by
  unfold blw
  rw [List.any_eq_false]
  intro j hj
  rw [Bool.not_eq_true, List.any_eq_false]
  intro q hq
  rw [decide_eq_true_iff]
  exact Rat.not_lt.mpr (h j (List.mem_range.mp hj) q hq)
theorem p20 : (2 : Int) ^ 20 = 1048576 := by decide
theorem p12 : (10 : Int) ^ (12 : Int).toNat = 1000000000000 := by decide
/-- what a told mean is missed by -/
def missQ (h : Rat) (lo hi : Option Rat) : List Rat := 0 :: ((lo.toList.map fun b => b - h) ++ hi.toList.map fun b => h - b)
/-- the bounds of a row about h -/
structure Bc (h d u : Rat) (lo hi : Option Rat) : Prop where
  l : lo = none ∨ lo = some (h + d)
  h : hi = none ∨ hi = some (h - u)
  so : lo ≠ none ∨ hi ≠ none
  le : ∀ a b, lo = some a → hi = some b → ¬ b < a
structure RowOk (ks xs parts : List Rat) (m : Rm) : Prop where
  rk : RmOk ks xs m
  bd : Bds ks m.ps m.as m.lo m.hi
  zl : ∀ q, m.lo = some q → Sz 9000 4498 q
  zh : ∀ q, m.hi = some q → Sz 9000 4498 q
  gz : Gsz (mnQ ks xs parts m) m
def GapV (K : PySem.W.Frag) (H : Hp) (v : V) : Prop := ∃ d, RV K H v d ∧ Mz 3 40 d
theorem GapV.same {K : PySem.W.Frag} {H H' : Hp} {v : V} (s : Same H H') (h : GapV K H v) : GapV K H' v := by
  obtain ⟨d, r, z⟩ := h
  exact ⟨d, r.same s, z⟩
theorem gap_of {K : PySem.W.Frag} {H : Hp} {a : Addr} {x : Int} {y : Nat} (q : Rat) (h : H a = some (.tup [.int x, .int (y : Int)])) (e1 : q.num = x) (e2 : q.den = y) (z : Mz 3 40 q) : GapV K H (.ref a) := by
  refine ⟨q, ⟨a, rfl, ?_⟩, z⟩
  rw [e1, e2]
  exact SqT.of h
section
variable {P : Program} {w : World} {K : PySem.W.Frag} {mg : Str → Option Value} {base : Heap}
def spRw (K : PySem.W.Frag) : Sp := fun vs H Q _ => ∃ (p c : Addr) (n : Nat) (kv : V) (t : Addr) (a b : V) (ks xs parts : List Rat), vs = [.ref p, kv, .ref t] ∧ Pen H p c n ∧ n ≤ 700000 ∧ LR K H kv ks ∧ SqT K H t [a, b] ∧ LR K H a xs ∧ LR K H b parts ∧ ShOk xs parts ∧
  Asc ks ∧ 2 ≤ ks.length ∧ ks.length ≤ 5 ∧ (∀ q ∈ ks, Mz 8 19 q) ∧ (∀ x ∈ xs, cf ks 0 ≤ x ∧ x ≤ cf ks (ks.length - 1)) ∧
  ∀ (tt rt : Addr) (mv fv lv hv : V) (m : Rm) (H' : Hp), Pen H' p c (n + 110) → But p H H' → SqT K H' tt [.ref rt, mv] → SqT K H' rt [fv, lv, hv] → FnV K H' fv ks m.ps m.as → OR K H' lv m.lo → OR K H' hv m.hi →
    LR K H' mv (missQ (mnQ ks xs parts m) m.lo m.hi) → (∀ q ∈ missQ (mnQ ks xs parts m) m.lo m.hi, Mz 3 40 q) → RowOk ks xs parts m → Q (.ref tt) H'
abbrev nRw' : List Str := ["_law_pen_here", "_law_knots", "_law_share", "_law_kind", "_law_f", "_law_here", "_law_gaps", "_law_down", "_law_up", "_law_least", "_law_most", "_law_misses"]
theorem sc83g : FnScope nRw' ["_law_pen_here", "_law_knots", "_law_share"] (defScope (top 83)) := ⟨rfl, rfl, rfl, by decide +kernel, rfl, by decide +kernel, by decide +kernel⟩
theorem ok_rw (T : Tg P K mg) : FnOk P w K mg base CX0 7 T.l_row.f T.l_row.fd ["_law_pen_here", "_law_knots", "_law_share"] (spRw K) := by
  have G1 : FnOk P w K mg base CX0 1 T.l_draw.f T.l_draw.fd ["_law_pen_here", "_law_many"] spDraw := ok_ldraw T.toTu
  have G2 : FnOk P w K mg base CX0 2 T.l_pick.f T.l_pick.fd ["_law_pen_here", "_law_some"] spPick := ok_lpick T.toTu
  have G3 : FnOk P w K mg base CX0 6 T.l_dfun.f T.l_dfun.fd ["_law_pen_here", "_law_knots", "_law_degree", "_law_kind", "_law_most"] (spDfun K) := ok_dfun T.toTk
  have G4 : FnOk P w K mg base CX0 6 T.l_smean.f T.l_smean.fd ["_law_given", "_law_f"] (spSm K) := ok_sm T
  have G5 : FnOk P w K mg base CX0 3 T.l_plus.f T.l_plus.fd ["_law_one", "_law_two"] (spL2 K cBin (fun q r => q + r)) := ok_lplus T.toTy
  have G6 : FnOk P w K mg base CX0 3 T.l_minus.f T.l_minus.fd ["_law_one", "_law_two"] (spL2 K cBin (fun q r => q - r)) := ok_lminus T.toTy
  have G7 : FnOk P w K mg base CX0 1 T.l_less.f T.l_less.fd ["_law_one", "_law_two"] (spLess K) := ok_lless T.toTy
  refine T.l_row.fn.ok sc83g (fun vs H Q E h => ?_) (fun cdv A outer s H vs Q E hr h => ?_)
  · obtain ⟨p, c, n, kv, t, a, b, ks, xs, parts, rfl, _⟩ := h
    rfl
  · obtain ⟨p, c, n, kv, t, a, b, ks, xs, parts, rfl, pen, n7, hk, ht, ha, hb, so, asc, k2, k5, zk, rg, k⟩ := h
    have hr1 : Room 1 _ := hr.mono (by decide)
    have hr2 : Room 2 _ := hr.mono (by decide)
    have hr3 : Room 3 _ := hr.mono (by decide)
    refine ⟨_, pss_cons (ps_set (i := 3) sc83g.nd rfl (.inl rfl) (T.l_pick.c0 G2 hr2 (pa_cons (pv 0) (pa_cons (pe_lst (pa_cons pe_str (pa_cons pe_str (pa_cons pe_str (pa_cons pe_str pa_nil))))) pa_nil))))
      (pss_cons (ps_set (i := 4) sc83g.nd rfl (.inl rfl) (T.l_dfun.c0 G3 hr (pa_cons (pv 0) (pa_cons (pv 1) (pa_cons pe_int (pa_cons (pv 3) (pa_cons pe_int pa_nil)))))))
      (pss_cons (ps_par (i := 5) (j := 6) rfl sc83g.nd rfl rfl (by decide) rfl rfl (pa_cons (T.l_smean.c0 G4 hr (pa_cons (pv 2) (pa_cons (pv 4) pa_nil))) (pa_cons (pe_lst (pa_cons (pe_tup (pa_cons pe_int (pa_cons pe_int pa_nil))) (pa_cons (pe_tup (pa_cons pe_int (pa_cons pe_int pa_nil)))
          (pa_cons (pe_tup (pa_cons pe_int (pa_cons (pe_op op_oneShl pe_int pe_int) pa_nil))) (pa_cons (pe_tup (pa_cons (pe_un un_neg pe_int) (pa_cons pe_int pa_nil))) (pa_cons (pe_tup (pa_cons (pe_un un_neg pe_int) (pa_cons pe_int pa_nil)))
          (pa_cons (pe_tup (pa_cons pe_int (pa_cons (pe_op op_pow pe_int pe_int) pa_nil))) (pa_cons (pe_tup (pa_cons pe_int (pa_cons pe_int pa_nil))) pa_nil)))))))) pa_nil)) (by rfl))
      (pss_cons (ps_par (i := 7) (j := 8) rfl sc83g.nd rfl rfl (by decide) rfl rfl (pa_cons (T.l_pick.c0 G2 hr2 (pa_cons (pv 0) (pa_cons (pv 6) pa_nil))) (pa_cons (T.l_pick.c0 G2 hr2 (pa_cons (pv 0) (pa_cons (pv 6) pa_nil))) pa_nil)) (by rfl))
      (pss_cons (ps_par (i := 9) (j := 10) rfl sc83g.nd rfl rfl (by decide) rfl rfl (pa_cons (T.l_plus.c0 G5 hr3 (pa_cons (pv 5) (pa_cons (pv 7) pa_nil))) (pa_cons (T.l_minus.c0 G6 hr3 (pa_cons (pv 5) (pa_cons (pv 8) pa_nil))) pa_nil)) (by rfl))
      (pss_cons (ps_if (pt_val (T.l_less.c0 G7 hr1 (pa_cons (pv 10) (pa_cons (pv 9) pa_nil))))
        (pss_one (ps_asg (pe_ifExp (pt_cmpR op_eq (T.l_draw.c0 G1 hr1 (pa_cons (pv 0) (pa_cons pe_int pa_nil))) pe_int (nomark _)) (pe_tup (pa_cons pe_non (pa_cons (pv 10) pa_nil))) (pe_tup (pa_cons (pv 9) (pa_cons pe_non pa_nil)))) (pg_tup (by rfl) (pgs_cons (pg_name (i := 9) sc83g.nd rfl (.inl rfl)) (pgs_cons (pg_name (i := 10) sc83g.nd rfl (.inl rfl)) pgs_nil))))) pss_nil)
      (pss_cons (ps_if (pt_cmpR op_eq (pv 3) pe_str (nomark _))
        (pss_one (ps_par (i := 9) (j := 10) rfl sc83g.nd rfl rfl (by decide) rfl rfl (pa_cons (T.l_plus.c0 G5 hr3 (pa_cons (pv 5) (pa_cons (pv 7) pa_nil))) (pa_cons pe_non pa_nil)) (by rfl))) pss_nil)
      (pss_cons (ps_if (pt_cmpR op_eq (pv 3) pe_str (nomark _))
        (pss_one (ps_par (i := 9) (j := 10) rfl sc83g.nd rfl rfl (by decide) rfl rfl (pa_cons pe_non (pa_cons (T.l_minus.c0 G6 hr3 (pa_cons (pv 5) (pa_cons (pv 8) pa_nil))) pa_nil)) (by rfl))) pss_nil)
      (pss_cons (ps_set (i := 11) sc83g.nd rfl (.inl rfl) (pe_lst (pa_cons (pe_tup (pa_cons pe_int (pa_cons pe_int pa_nil))) pa_nil)))
      (pss_cons (ps_if (pt_cmpR op_notN (pv 9) pe_non (nomark _))
        (pss_one (ps_expr (pe_bm PySem.F.plainAttrs_list PySem.F.slot_list_append PySem.F.type_list_append mt_append (pv 11) (pa_cons (T.l_minus.c0 G6 hr3 (pa_cons (pv 9) (pa_cons (pv 5) pa_nil))) pa_nil)))) pss_nil)
      (pss_cons (ps_if (pt_cmpR op_notN (pv 10) pe_non (nomark _))
        (pss_one (ps_expr (pe_bm PySem.F.plainAttrs_list PySem.F.slot_list_append PySem.F.type_list_append mt_append (pv 11) (pa_cons (T.l_minus.c0 G6 hr3 (pa_cons (pv 5) (pa_cons (pv 10) pa_nil))) pa_nil)))) pss_nil)
      (pss_one (ps_ret (pe_tup (pa_cons (pe_tup (pa_cons (pv 4) (pa_cons (pv 9) (pa_cons (pv 10) pa_nil)))) (pa_cons (pv 11) pa_nil))))))))))))))), ?_⟩
    refine ⟨_, rfl, (by show 4 ≤ sizeLine; decide), fun g0 ng0 => ?_⟩
    have s1 := Same.new (o := (.lst [V.str "plain", V.str "plain", V.str "upper", V.str "lower"])) ng0
    have e1 : upd H g0 (.lst [V.str "plain", V.str "plain", V.str "upper", V.str "lower"]) g0 = some (.lst [V.str "plain", V.str "plain", V.str "upper", V.str "lower"]) := upd_same
    generalize upd H g0 (.lst [V.str "plain", V.str "plain", V.str "upper", V.str "lower"]) = H1 at s1 e1 ⊢
    refine ⟨p, c, g0, n, _, rfl, pen.same s1, by omega, e1, (by show 0 < 4; decide), (by show 4 < 1000000; decide), fun j v H2 hv pen2 b2 => ?_⟩
    obtain ⟨kd, rfl, hkd⟩ : ∃ kd : Str, v = .str kd ∧ (kd = "plain" ∨ kd = "upper" ∨ kd = "lower") := by
      have mem := mem_of_at hv
      simp only [List.mem_cons, List.not_mem_nil, or_false] at mem
      rcases mem with rfl | rfl | rfl | rfl
      · exact ⟨_, rfl, .inl rfl⟩
      · exact ⟨_, rfl, .inl rfl⟩
      · exact ⟨_, rfl, .inr (.inl rfl)⟩
      · exact ⟨_, rfl, .inr (.inr rfl)⟩
    have b02 : But p H H2 := (But.ofSame s1).trans b2
    refine ⟨_, rfl, _, rfl, _, rfl, p, c, _, kv, kd, ks, rfl, pen2, by omega, pen.lr b02 hk, asc, k2, k5, zk, fun ft H3 fb fd ps as pen3 b3 hft lrr lrd F las zas pz kds => ?_⟩
    have b03 := b02.trans b3
    have mk : RmOk ks xs ⟨ps, as, none, none⟩ := ⟨F, k5, las, zas, pz, rg⟩
    have hf3 : FnV K H3 (.ref ft) ks ps as := ⟨ft, kv, fb, fd, rfl, hft, pen.lr b03 hk, lrr, lrd⟩
    refine ⟨_, rfl, _, rfl, t, .ref ft, a, b, xs, parts, ks, ⟨ps, as, none, none⟩, rfl, pen.seqT b03 ht, pen.lr b03 ha, pen.lr b03 hb, so, hf3, mk, fun hv4 H4 s4 rh zmn => ?_⟩
    have pen4 := pen3.same s4
    have b04 := b03.trans (.ofSame s4)
    have hf4 := hf3.same s4
    have emn : ∀ lo hi, mnQ ks xs parts ⟨ps, as, lo, hi⟩ = mnQ ks xs parts ⟨ps, as, none, none⟩ := fun lo hi => rfl
    generalize emn' : mnQ ks xs parts ⟨ps, as, none, none⟩ = mn at rh zmn emn
    refine ⟨(by show 2 ≤ sizeLine; decide), fun a1 n1 => ?_⟩
    have q1 := Same.new (o := (.tup [V.int 0, V.int 1])) n1
    have d1 : upd H4 a1 (.tup [V.int 0, V.int 1]) a1 = some (.tup [V.int 0, V.int 1]) := upd_same
    generalize upd H4 a1 (.tup [V.int 0, V.int 1]) = H5 at q1 d1 ⊢
    refine ⟨(by show 2 ≤ sizeLine; decide), fun a2 n2 => ?_⟩
    have q2 := Same.new (o := (.tup [V.int 1, V.int 8])) n2
    have d2 : upd H5 a2 (.tup [V.int 1, V.int 8]) a2 = some (.tup [V.int 1, V.int 8]) := upd_same
    generalize upd H5 a2 (.tup [V.int 1, V.int 8]) = H6 at q2 d2 ⊢
    refine ⟨20, rfl, rfl, by decide, (by show 2 ≤ sizeLine; decide), fun a3 n3 => ?_⟩
    have q3 := Same.new (o := (.tup [V.int 1, V.int (2 ^ 20)])) n3
    have d3 : upd H6 a3 (.tup [V.int 1, V.int (2 ^ 20)]) a3 = some (.tup [V.int 1, V.int (2 ^ 20)]) := upd_same
    generalize upd H6 a3 (.tup [V.int 1, V.int (2 ^ 20)]) = H7 at q3 d3 ⊢
    refine ⟨_, rfl, (by show 2 ≤ sizeLine; decide), fun a4 n4 => ?_⟩
    have q4 := Same.new (o := (.tup [V.int (-1), V.int 3])) n4
    have d4 : upd H7 a4 (.tup [V.int (-1), V.int 3]) a4 = some (.tup [V.int (-1), V.int 3]) := upd_same
    generalize upd H7 a4 (.tup [V.int (-1), V.int 3]) = H8 at q4 d4 ⊢
    refine ⟨_, rfl, (by show 2 ≤ sizeLine; decide), fun a5 n5 => ?_⟩
    have q5 := Same.new (o := (.tup [V.int (-5), V.int 1])) n5
    have d5 : upd H8 a5 (.tup [V.int (-5), V.int 1]) a5 = some (.tup [V.int (-5), V.int 1]) := upd_same
    generalize upd H8 a5 (.tup [V.int (-5), V.int 1]) = H9 at q5 d5 ⊢
    refine ⟨_, _, rfl, rfl, ⟨by decide, by decide, by decide⟩, (by show 2 ≤ sizeLine; decide), fun a6 n6 => ?_⟩
    have q6 := Same.new (o := (.tup [V.int 1, V.int ((10 : Int) ^ (12 : Int).toNat)])) n6
    have d6 : upd H9 a6 (.tup [V.int 1, V.int ((10 : Int) ^ (12 : Int).toNat)]) a6 = some (.tup [V.int 1, V.int ((10 : Int) ^ (12 : Int).toNat)]) := upd_same
    generalize upd H9 a6 (.tup [V.int 1, V.int ((10 : Int) ^ (12 : Int).toNat)]) = H10 at q6 d6 ⊢
    rw [p12] at d6
    rw [p20] at d3
    refine ⟨(by show 2 ≤ sizeLine; decide), fun a7 n7' => ?_⟩
    have q7 := Same.new (o := (.tup [V.int 2, V.int 1])) n7'
    have d7 : upd H10 a7 (.tup [V.int 2, V.int 1]) a7 = some (.tup [V.int 2, V.int 1]) := upd_same
    generalize upd H10 a7 (.tup [V.int 2, V.int 1]) = H11 at q7 d7 ⊢
    have gv : ∀ v ∈ [V.ref a1, V.ref a2, V.ref a3, V.ref a4, V.ref a5, V.ref a6, V.ref a7], GapV K H11 v := by
      intro v hv
      simp only [List.mem_cons, List.not_mem_nil, or_false] at hv
      rcases hv with rfl | rfl | rfl | rfl | rfl | rfl | rfl
      · exact (gap_of (y := 1) ⟨0, 1, by decide, by decide⟩ d1 rfl rfl ⟨by decide, by decide⟩).same ((((((q2.trans q3).trans q4).trans q5).trans q6).trans q7))
      · exact (gap_of (y := 8) ⟨1, 8, by decide, by decide⟩ d2 rfl rfl ⟨by decide, by decide⟩).same (((((q3.trans q4).trans q5).trans q6).trans q7))
      · exact (gap_of (y := 1048576) ⟨1, 1048576, by decide, by decide⟩ d3 rfl rfl ⟨by decide, by decide⟩).same ((((q4.trans q5).trans q6).trans q7))
      · exact (gap_of (y := 3) ⟨-1, 3, by decide, by decide⟩ d4 rfl rfl ⟨by decide, by decide⟩).same (((q5.trans q6).trans q7))
      · exact (gap_of (y := 1) ⟨-5, 1, by decide, by decide⟩ d5 rfl rfl ⟨by decide, by decide⟩).same ((q6.trans q7))
      · exact (gap_of (y := 1000000000000) ⟨1, 1000000000000, by decide, by decide⟩ d6 rfl rfl ⟨by decide, by decide⟩).same q7
      · exact gap_of (y := 1) ⟨2, 1, by decide, by decide⟩ d7 rfl rfl ⟨by decide, by decide⟩
    have q17 : Same H4 H11 := (((((q1.trans q2).trans q3).trans q4).trans q5).trans q6).trans q7
    clear q1 q2 q3 q4 q5 q6 q7 d1 d2 d3 d4 d5 d6 d7
    refine ⟨(by show 7 ≤ sizeLine; decide), fun g1 m1 => ?_⟩
    have s12 := Same.new (o := (.lst [V.ref a1, V.ref a2, V.ref a3, V.ref a4, V.ref a5, V.ref a6, V.ref a7])) m1
    have e12 : upd H11 g1 (.lst [V.ref a1, V.ref a2, V.ref a3, V.ref a4, V.ref a5, V.ref a6, V.ref a7]) g1 = some (.lst [V.ref a1, V.ref a2, V.ref a3, V.ref a4, V.ref a5, V.ref a6, V.ref a7]) := upd_same
    generalize upd H11 g1 (.lst [V.ref a1, V.ref a2, V.ref a3, V.ref a4, V.ref a5, V.ref a6, V.ref a7]) = H12 at s12 e12 ⊢
    have s412 := q17.trans s12
    have pen12 := pen4.same s412
    have gv12 : ∀ v ∈ [V.ref a1, V.ref a2, V.ref a3, V.ref a4, V.ref a5, V.ref a6, V.ref a7], GapV K H12 v := fun v hv => (gv v hv).same s12
    refine ⟨_, _, rfl, ?_⟩
    refine ⟨_, rfl, _, rfl, p, c, g1, _, _, rfl, pen12, by omega, e12, (by show 0 < 7; decide), (by show 7 < 1000000; decide), fun j1 dv H13 hd pen13 b13 => ?_⟩
    obtain ⟨d, rd, zd⟩ := gv12 _ (mem_of_at hd)
    have e13 := pen12.lst b13 e12
    refine ⟨_, rfl, _, rfl, p, c, g1, _, _, rfl, pen13, by omega, e13, (by show 0 < 7; decide), (by show 7 < 1000000; decide), fun j2 uv H14 hu' pen14 b14 => ?_⟩
    obtain ⟨u, ru, zu⟩ := gv12 _ (mem_of_at hu')
    have b1214 := b13.trans b14
    have rd14 := pen12.rv b1214 rd
    have ru14 := pen12.rv b1214 ru
    have rh14 := pen12.rv b1214 (rh.same s412)
    have hf14 := pen12.fnv b1214 (hf4.same s412)
    have b014 := (b04.trans (.ofSame s412)).trans b1214
    refine ⟨_, _, rfl, ?_⟩
    have zl := add_mz zmn zd
    have zm := sub_mz zmn zu
    refine ⟨_, rfl, _, rfl, hv4, dv, mn, d, _, _, _, _, rfl, rh14.pq zmn.sz, rd14.pq zd.sz, ⟨by decide, by decide⟩, fun lv H15 s15 rl => ?_⟩
    refine ⟨_, rfl, _, rfl, hv4, uv, mn, u, _, _, _, _, rfl, (rh14.same s15).pq zmn.sz, (ru14.same s15).pq zu.sz, ⟨by decide, by decide⟩, fun mv H16 s16 rm => ?_⟩
    have s1416 := s15.trans s16
    have pen16 := pen14.same s1416
    have hf16 := hf14.same s1416
    have rh16 := rh14.same s1416
    have rd16 := rd14.same s1416
    have ru16 := ru14.same s1416
    have rl16 := rl.same s16
    have b016 := b014.trans (.ofSame s1416)
    clear gv gv12 e13 rd14 ru14 rh14 hf14 b1214 s412 q17
    refine ⟨_, _, rfl, ?_⟩
    dsimp only [tNext, tSeq]
    have bc0 : ∀ lo hi, (lo = none ∨ lo = some (mn + d)) → (hi = none ∨ hi = some (mn - u)) → (lo = none ∧ hi ≠ none ∨ hi = none ∧ lo ≠ none) → Bc mn d u lo hi := fun lo hi h1 h2 h3 => ⟨h1, h2, by
      rcases h3 with h | h
      · exact .inr h.2
      · exact .inl h.2, fun x y ex ey => by
      rcases h3 with h | h
      · rw [h.1] at ex
        cases ex
      · rw [h.1] at ey
        cases ey⟩
    refine viaG (t := tIfS _ _ _) (R := fun σ' H' => ∃ (l m : V) (lo hi : Option Rat), σ' = [some (.ref p), some kv, some (.ref t), some (.str kd), some (.ref ft), some hv4, some (.ref g1), some dv, some uv, some l, some m, none] ∧ Pen H' p c (n + 105) ∧ But p H16 H' ∧ OR K H' l lo ∧ OR K H' m hi ∧ Bc mn d u lo hi) (fun D' k' => ?_) ?_
    · refine ⟨_, rfl, _, rfl, mv, lv, mn - u, mn + d, _, _, _, _, rfl, rm, rl16, zm.sz, zl.sz, by decide, by decide, _, rfl, ?_⟩
      by_cases c1 : mn - u < mn + d
      · rw [decide_eq_true c1]
        refine iteT ⟨_, rfl, p, c, _, 2, rfl, pen16, by omega, by decide, by decide, fun z H17 z0 z2 pen17 b17 => ?_⟩
        have rm17 := pen16.rv b17 rm
        have rl17 := pen16.rv b17 rl16
        refine ⟨rfl, _, rfl, ?_⟩
        rw [dec_int]
        by_cases c2 : z = 0
        · rw [beqT c2]
          refine iteT ⟨_, rfl, (by show 2 ≤ sizeLine; decide), fun tt nt => ?_⟩
          have s18 := Same.new (o := .tup [V.non, mv]) nt
          refine ⟨tt, _, rfl, SqT.of upd_same, rfl, _, _, rfl, _, _, rfl, rfl, ?_⟩
          exact k' _ _ ⟨.non, mv, none, some (mn - u), rfl, (pen17.same s18).more (by omega), b17.trans (.ofSame s18), .inl ⟨rfl, rfl⟩, .inr ⟨_, rfl, rm17.same s18⟩, bc0 _ _ (.inl rfl) (.inr rfl) (.inl ⟨rfl, Option.some_ne_none _⟩)⟩
        · rw [beqF c2]
          refine iteF ⟨_, rfl, (by show 2 ≤ sizeLine; decide), fun tt nt => ?_⟩
          have s18 := Same.new (o := .tup [lv, V.non]) nt
          refine ⟨tt, _, rfl, SqT.of upd_same, rfl, _, _, rfl, _, _, rfl, rfl, ?_⟩
          exact k' _ _ ⟨lv, .non, some (mn + d), none, rfl, (pen17.same s18).more (by omega), b17.trans (.ofSame s18), .inr ⟨_, rfl, rl17.same s18⟩, .inl ⟨rfl, rfl⟩, bc0 _ _ (.inr rfl) (.inl rfl) (.inr ⟨rfl, Option.some_ne_none _⟩)⟩
      · rw [decide_eq_false c1]
        exact iteF (k' _ _ ⟨lv, mv, some (mn + d), some (mn - u), rfl, pen16.more (by omega), But.refl, .inr ⟨_, rfl, rl16⟩, .inr ⟨_, rfl, rm⟩, ⟨.inr rfl, .inr rfl, .inl (Option.some_ne_none _), fun x y ex ey => by
          cases ex
          cases ey
          exact c1⟩⟩)
    rintro σ1 H17 ⟨l, m, lo, hi, rfl, pen17, b17, ol, om, bc⟩
    dsimp only
    refine viaG (t := tIfS _ _ _) (R := fun σ' H' => ∃ (l m : V) (lo hi : Option Rat), σ' = [some (.ref p), some kv, some (.ref t), some (.str kd), some (.ref ft), some hv4, some (.ref g1), some dv, some uv, some l, some m, none] ∧ Pen H' p c (n + 105) ∧ But p H16 H' ∧ OR K H' l lo ∧ OR K H' m hi ∧ Bc mn d u lo hi ∧ (kd = "upper" → hi = none)) (fun D' k' => ?_) ?_
    · refine ⟨_, rfl, rfl, _, rfl, ?_⟩
      by_cases e : kd = "upper"
      · rw [decide_eq_true (congrArg V.str e)]
        refine iteT ⟨_, rfl, _, rfl, hv4, dv, mn, d, _, _, _, _, rfl, (pen16.rv b17 rh16).pq zmn.sz, (pen16.rv b17 rd16).pq zd.sz, ⟨by decide, by decide⟩, fun l2 H18 s18 rl2 => ?_⟩
        refine ⟨_, _, rfl, ?_⟩
        exact k' _ _ ⟨l2, .non, some (mn + d), none, rfl, pen17.same s18, b17.trans (.ofSame s18), .inr ⟨_, rfl, rl2⟩, .inl ⟨rfl, rfl⟩, bc0 _ _ (.inr rfl) (.inl rfl) (.inr ⟨rfl, Option.some_ne_none _⟩), fun _ => rfl⟩
      · rw [decide_eq_false (fun z => e (V.str.inj z))]
        exact iteF (k' _ _ ⟨l, m, lo, hi, rfl, pen17, b17, ol, om, bc, fun z => absurd z e⟩)
    clear pen17 b17 ol om bc l m lo hi
    rintro σ1 H17 ⟨l, m, lo, hi, rfl, pen17, b17, ol, om, bc, hup⟩
    dsimp only
    refine viaG (t := tIfS _ _ _) (R := fun σ' H' => ∃ (l m : V) (lo hi : Option Rat), σ' = [some (.ref p), some kv, some (.ref t), some (.str kd), some (.ref ft), some hv4, some (.ref g1), some dv, some uv, some l, some m, none] ∧ Pen H' p c (n + 105) ∧ But p H16 H' ∧ OR K H' l lo ∧ OR K H' m hi ∧ Bc mn d u lo hi ∧ (kd = "upper" → hi = none) ∧ (kd = "lower" → lo = none)) (fun D' k' => ?_) ?_
    · refine ⟨_, rfl, rfl, _, rfl, ?_⟩
      by_cases e : kd = "lower"
      · rw [decide_eq_true (congrArg V.str e)]
        refine iteT ⟨_, rfl, _, rfl, hv4, uv, mn, u, _, _, _, _, rfl, (pen16.rv b17 rh16).pq zmn.sz, (pen16.rv b17 ru16).pq zu.sz, ⟨by decide, by decide⟩, fun m2 H18 s18 rm2 => ?_⟩
        refine ⟨_, _, rfl, ?_⟩
        exact k' _ _ ⟨.non, m2, none, some (mn - u), rfl, pen17.same s18, b17.trans (.ofSame s18), .inl ⟨rfl, rfl⟩, .inr ⟨_, rfl, rm2⟩, bc0 _ _ (.inl rfl) (.inr rfl) (.inl ⟨rfl, Option.some_ne_none _⟩), fun z => by
          rw [e] at z
          exact absurd z (by decide +kernel), fun _ => rfl⟩
      · rw [decide_eq_false (fun z => e (V.str.inj z))]
        exact iteF (k' _ _ ⟨l, m, lo, hi, rfl, pen17, b17, ol, om, bc, hup, fun z => absurd z e⟩)
    clear pen17 b17 ol om bc l m lo hi hup
    rintro σ1 H17 ⟨l, m, lo, hi, rfl, pen17, b17, ol, om, bc, hup, hlo⟩
    have szl : ∀ q, lo = some q → Sz 9000 4498 q ∧ Mz 3 40 (q - mn) ∧ Mz 65 4498 q := fun q e => by
      rcases bc.l with h | h
      · rw [h] at e
        cases e
      · rw [h] at e
        cases e
        exact ⟨zl.sz.up (by decide) (by decide), by rw [show mn + d - mn = d by grind]; exact zd, zl.up (by decide) (by decide)⟩
    have szm : ∀ q, hi = some q → Sz 9000 4498 q ∧ Mz 3 40 (mn - q) ∧ Mz 65 4498 q := fun q e => by
      rcases bc.h with h | h
      · rw [h] at e
        cases e
      · rw [h] at e
        cases e
        exact ⟨zm.sz.up (by decide) (by decide), by rw [show mn - (mn - u) = u by grind]; exact zu, zm.up (by decide) (by decide)⟩
    have rh17 := pen16.rv b17 rh16
    have hf17 := pen16.fnv b17 hf16
    have b017 := b016.trans b17
    refine ⟨(by show 2 ≤ sizeLine; decide), fun az naz => ?_⟩
    have s18 := Same.new (o := (.tup [V.int 0, V.int 1])) naz
    have e18 : upd H17 az (.tup [V.int 0, V.int 1]) az = some (.tup [V.int 0, V.int 1]) := upd_same
    generalize upd H17 az (.tup [V.int 0, V.int 1]) = H18 at s18 e18 ⊢
    have r0 : RV K H18 (.ref az) 0 := ⟨az, rfl, SqT.of e18⟩
    refine ⟨(by show 1 ≤ sizeLine; decide), fun gm ngm => ?_⟩
    have ngm17 : H17 gm = none := sub_none s18 ngm
    have gp' := (pen17.same s18).newP ngm
    have gc' := (pen17.same s18).newC ngm
    have s19 := Same.new (o := (.lst [V.ref az])) ngm
    have e19 : upd H18 gm (.lst [V.ref az]) gm = some (.lst [V.ref az]) := upd_same
    generalize upd H18 gm (.lst [V.ref az]) = H19 at s19 e19 ⊢
    have s1719 := s18.trans s19
    have pen19 := pen17.same s1719
    have r019 := r0.same s19
    dsimp only [tNext, tSeq, gName]
    refine viaG (t := tIfS _ _ _) (R := fun σ' H' => ∃ vs, σ' = [some (.ref p), some kv, some (.ref t), some (.str kd), some (.ref ft), some hv4, some (.ref g1), some dv, some uv, some l, some m, some (.ref gm)] ∧ Pen H' p c (n + 105) ∧ Same H17 H' ∧ H' gm = some (.lst vs) ∧ Al K H' vs (0 :: (lo.toList.map fun b => b - mn))) (fun D' k' => ?_) ?_
    · rcases ol with ⟨rfl, e⟩ | ⟨q, e, rq⟩
      · refine ⟨_, rfl, rfl, _, rfl, ?_⟩
        rw [nonT rfl]
        refine iteF (k' _ _ ⟨_, rfl, pen19, s1719, e19, ?_⟩)
        rw [e]
        exact Al.snoc Al.nil r019
      · refine ⟨_, rfl, rfl, _, rfl, ?_⟩
        rw [nonF rq.nn]
        obtain ⟨_, zd1, zq1⟩ := szl q e
        refine iteT ⟨_, rfl, .inl ⟨rfl, _, SqL.of e19⟩, _, rfl, _, rfl, l, hv4, q, mn, _, _, _, _, rfl, (rq.same s1719).pq zq1.sz, (rh17.same s1719).pq zmn.sz, ⟨by decide, by decide⟩, fun y H20 s20 ry => ?_⟩
        have e20 := s20 _ _ e19
        refine ⟨gm, _, y, rfl, rfl, e20, (by show 1 < sizeLine; decide), ?_⟩
        have b21 : But gm H20 (upd H20 gm (.lst ([V.ref az] ++ [y]))) := But.refl.set
        refine k' _ _ ⟨_, rfl, (pen19.same s20).set gp' gc', fun c' o e' => b21 _ _ ((s1719.trans s20) _ _ e') (ne_of_none e' ngm17), upd_same, ?_⟩
        rw [e]
        exact Al.snoc (Al.snoc Al.nil (RV.bear e20 b21 (r019.same s20))) (RV.bear e20 b21 ry)
    rintro σ1 H20 ⟨vs, rfl, pen20, s20, e20, al20⟩
    dsimp only
    refine viaG (t := tIfS _ _ _) (R := fun σ' H' => ∃ vs, σ' = [some (.ref p), some kv, some (.ref t), some (.str kd), some (.ref ft), some hv4, some (.ref g1), some dv, some uv, some l, some m, some (.ref gm)] ∧ Pen H' p c (n + 105) ∧ Same H17 H' ∧ H' gm = some (.lst vs) ∧ Al K H' vs (missQ mn lo hi)) (fun D' k' => ?_) ?_
    · rcases om with ⟨rfl, e⟩ | ⟨q, e, rq⟩
      · refine ⟨_, rfl, rfl, _, rfl, ?_⟩
        rw [nonT rfl]
        refine iteF (k' _ _ ⟨_, rfl, pen20, s20, e20, ?_⟩)
        rw [e]
        unfold missQ
        simp only [Option.toList, List.map_nil, List.append_nil]
        exact al20
      · refine ⟨_, rfl, rfl, _, rfl, ?_⟩
        rw [nonF rq.nn]
        obtain ⟨_, zd1, zq1⟩ := szm q e
        refine iteT ⟨_, rfl, .inl ⟨rfl, _, SqL.of e20⟩, _, rfl, _, rfl, hv4, m, mn, q, _, _, _, _, rfl, (rh17.same s20).pq zmn.sz, (rq.same s20).pq zq1.sz, ⟨by decide, by decide⟩, fun y H21 s21 ry => ?_⟩
        have e21 := s21 _ _ e20
        have lv : vs.length ≤ 2 := by
          rw [al20.1]
          cases lo <;> simp [Option.toList]
        refine ⟨gm, _, y, rfl, rfl, e21, le1000 (by omega), ?_⟩
        have b22 : But gm H21 (upd H21 gm (.lst (vs ++ [y]))) := But.refl.set
        refine k' _ _ ⟨_, rfl, (pen20.same s21).set gp' gc', fun c' o e' => b22 _ _ ((s20.trans s21) _ _ e') (ne_of_none e' ngm17), upd_same, ?_⟩
        have em : missQ mn lo hi = (0 :: (lo.toList.map fun b => b - mn)) ++ [mn - q] := by
          rw [e]
          rfl
        rw [em]
        exact Al.snoc (Al.bear e21 b22 (al20.same s21)) (RV.bear e21 b22 ry)
    rintro σ1 H21 ⟨vs', rfl, pen21, s21, e21, al21⟩
    dsimp only
    refine ⟨_, rfl, _, rfl, _, rfl, (by show 3 ≤ sizeLine; decide), fun rt nrt => ?_⟩
    have s22 := Same.new (o := (.tup [V.ref ft, l, m])) nrt
    have e22 : upd H21 rt (.tup [V.ref ft, l, m]) rt = some (.tup [V.ref ft, l, m]) := upd_same
    generalize upd H21 rt (.tup [V.ref ft, l, m]) = H22 at s22 e22 ⊢
    refine ⟨_, rfl, (by show 2 ≤ sizeLine; decide), fun tt ntt => ?_⟩
    have s23 := Same.new (o := .tup [V.ref rt, V.ref gm]) ntt
    have s2123 := s22.trans s23
    have s1723 := s21.trans s2123
    have kup : kd ≠ "lower" → abv ks ps as ks.length = false := fun ne => abv_f fun j hj q hq => by
      have kk := kds j hj
      rcases hkd with e | e | e
      · rw [kk.pl e q hq]
        exact Rat.le_refl
      · exact kk.up e q hq
      · exact absurd e ne
    have kdn : kd ≠ "upper" → blw ks ps as ks.length = false := fun ne => blw_f fun j hj q hq => by
      have kk := kds j hj
      rcases hkd with e | e | e
      · rw [kk.pl e q hq]
        exact Rat.le_refl
      · exact absurd e ne
      · exact kk.lo e q hq
    have lu : ("lower" : Str) ≠ "upper" := by decide +kernel
    have bds : Bds ks ps as lo hi := ⟨by
      by_cases e : kd = "lower"
      · exact .inr (kdn (by rw [e]; exact lu))
      · exact .inl (kup e), fun h => kup fun e => h (hlo e), fun h => kdn fun e => h (hup e), bc.le, bc.so⟩
    have rk : RmOk ks xs ⟨ps, as, lo, hi⟩ := ⟨F, k5, las, zas, pz, rg⟩
    refine k tt rt (.ref gm) (.ref ft) l m ⟨ps, as, lo, hi⟩ _ ((pen21.same s2123).more (by omega)) (b017.trans (.ofSame s1723)) (SqT.of upd_same) (Kz.Same.seqT s23 (SqT.of e22)) (hf17.same s1723) (ol.same s1723) (om.same s1723) ?_ ?_ ?_
    · rw [emn]
      exact ⟨gm, vs', rfl, s2123 _ _ e21, al21.same s2123⟩
    · rw [emn]
      intro q hq
      rcases List.mem_cons.mp hq with rfl | hq
      · exact mz_zero (by decide)
      · rcases List.mem_append.mp hq with hq | hq
        · obtain ⟨b, hb, rfl⟩ := List.mem_map.mp hq
          exact (szl b (Option.mem_toList.mp hb)).2.1
        · obtain ⟨b, hb, rfl⟩ := List.mem_map.mp hq
          exact (szm b (Option.mem_toList.mp hb)).2.1
    · refine ⟨rk, bds, fun q e => (szl q e).1, fun q e => (szm q e).1, ?_⟩
      rw [emn]
      exact ⟨zmn.up (by decide) (by decide), fun q e => ⟨(szl q e).1.up (by decide) (by decide), (szl q e).2.1.up (by decide) (by decide)⟩, fun q e => ⟨(szm q e).1.up (by decide) (by decide), (szm q e).2.1.up (by decide) (by decide)⟩⟩
end
end Kz
set_option linter.all false
set_option maxRecDepth 100000
set_option maxHeartbeats 4000000
set_option pp.maxSteps 400
namespace Kz
open PySem PySem.Spec PyProof.Rows L2
/-! ### the gap, as the law has it -/
theorem up1_le {g x : Rat} : g ≤ up1 g x ∧ x ≤ up1 g x ∧ (up1 g x = g ∨ up1 g x = x) := by
  unfold up1
  by_cases c : g < x
  · rw [if_pos c]
    exact ⟨Rat.le_of_lt c, Rat.le_refl, .inr rfl⟩
  · rw [if_neg c]
    exact ⟨Rat.le_refl, Rat.not_lt.mp c, .inl rfl⟩
theorem gs_max {g q : Rat} {m : Rm} (g0 : 0 ≤ g) : g ≤ gs g q m ∧ (∀ x ∈ missQ q m.lo m.hi, x ≤ gs g q m) ∧ (gs g q m = g ∨ gs g q m ∈ missQ q m.lo m.hi) := by
  obtain ⟨ps, as, lo, hi⟩ := m
  unfold missQ gs
  cases lo with
  | none =>
    cases hi with
    | none =>
      refine ⟨Rat.le_refl, fun x hx => ?_, .inl rfl⟩
      rw [List.mem_singleton.mp hx]
      exact g0
    | some b =>
      obtain ⟨a1, a2, a3⟩ := up1_le (g := g) (x := q - b)
      refine ⟨a1, fun x hx => ?_, ?_⟩
      · rcases List.mem_cons.mp hx with rfl | hx
        · exact Rat.le_trans g0 a1
        · rw [List.mem_singleton.mp hx]
          exact a2
      · rcases a3 with h | h
        · exact .inl h
        · exact .inr (by simp [Option.toList]; exact .inr h)
  | some a =>
    cases hi with
    | none =>
      obtain ⟨a1, a2, a3⟩ := up1_le (g := g) (x := a - q)
      refine ⟨a1, fun x hx => ?_, ?_⟩
      · rcases List.mem_cons.mp hx with rfl | hx
        · exact Rat.le_trans g0 a1
        · rw [List.mem_singleton.mp hx]
          exact a2
      · rcases a3 with h | h
        · exact .inl h
        · exact .inr (by simp [Option.toList]; exact .inr h)
    | some b =>
      obtain ⟨a1, a2, a3⟩ := up1_le (g := g) (x := a - q)
      obtain ⟨b1, b2, b3⟩ := up1_le (g := up1 g (a - q)) (x := q - b)
      refine ⟨Rat.le_trans a1 b1, fun x hx => ?_, ?_⟩
      · simp only [Option.toList, List.map_cons, List.map_nil, List.cons_append, List.nil_append, List.mem_cons, List.not_mem_nil, or_false] at hx
        rcases hx with rfl | rfl | rfl
        · exact Rat.le_trans g0 (Rat.le_trans a1 b1)
        · exact Rat.le_trans a2 b1
        · exact b2
      · simp only [Option.toList, List.map_cons, List.map_nil, List.cons_append, List.nil_append, List.mem_cons, List.not_mem_nil, or_false]
        rcases b3 with h | h
        · rcases a3 with h' | h'
          · exact .inl (h.trans h')
          · exact .inr (.inr (.inl (h.trans h')))
        · exact .inr (.inr (.inr h))
/-- all that rows are missed by -/
noncomputable def allQ (ks xs parts : List Rat) (ms : List Rm) : List Rat := 0 :: ms.flatMap fun m => missQ (mnQ ks xs parts m) m.lo m.hi
theorem allQ_snoc {ks xs parts : List Rat} {ms : List Rm} {m : Rm} : allQ ks xs parts (ms ++ [m]) = allQ ks xs parts ms ++ missQ (mnQ ks xs parts m) m.lo m.hi := by
  unfold allQ
  simp
theorem gap_max {ks xs parts : List Rat} {ms : List Rm} : ∀ i, i ≤ ms.length → 0 ≤ gapT (ms.map (mnQ ks xs parts)) ms i ∧ (∀ x ∈ allQ ks xs parts (ms.take i), x ≤ gapT (ms.map (mnQ ks xs parts)) ms i) ∧ gapT (ms.map (mnQ ks xs parts)) ms i ∈ allQ ks xs parts (ms.take i)
  | 0, _ => by
    have e : gapT (ms.map (mnQ ks xs parts)) ms 0 = 0 := rfl
    rw [e]
    refine ⟨Rat.le_refl, fun x hx => ?_, ?_⟩
    · rw [List.take_zero] at hx
      rw [show x = 0 from List.mem_singleton.mp hx]
      exact Rat.le_refl
    · exact List.mem_cons_self
  | i + 1, h => by
    obtain ⟨h0, h1, h2⟩ := gap_max (ks := ks) (xs := xs) (parts := parts) (ms := ms) i (by omega)
    have em : ms[i]? = some ms[i] := List.getElem?_eq_getElem (by omega)
    have eq : (ms.map (mnQ ks xs parts))[i]? = some (mnQ ks xs parts ms[i]) := by rw [List.getElem?_map, em]; rfl
    rw [gapT_snoc eq em, take_snoc em, allQ_snoc]
    obtain ⟨a1, a2, a3⟩ := gs_max (q := mnQ ks xs parts ms[i]) (m := ms[i]) h0
    refine ⟨Rat.le_trans h0 a1, fun x hx => ?_, ?_⟩
    · rcases List.mem_append.mp hx with hx | hx
      · exact Rat.le_trans (h1 x hx) a1
      · exact a2 x hx
    · rcases a3 with h | h
      · rw [h]
        exact List.mem_append_left _ h2
      · exact List.mem_append_right _ h
/-- the last of the sorted ones is the gap -/
theorem gap_last {ks xs parts : List Rat} {ms : List Rm} {rs : List Rat} (asc : Asc rs) (mem : ∀ q, q ∈ rs ↔ q ∈ allQ ks xs parts ms) : 0 < rs.length ∧ cf rs (rs.length - 1) = gapT (ms.map (mnQ ks xs parts)) ms ms.length := by
  obtain ⟨h0, h1, h2⟩ := gap_max (ks := ks) (xs := xs) (parts := parts) (ms := ms) ms.length (Nat.le_refl _)
  rw [List.take_length] at h1 h2
  have g := (mem _).mpr h2
  have pos := List.length_pos_of_mem g
  refine ⟨pos, Rat.le_antisymm (h1 _ ((mem _).mp (cf_mem (by omega)))) ?_⟩
  obtain ⟨j, hj, e⟩ := List.getElem_of_mem g
  have ec : cf rs j = gapT (ms.map (mnQ ks xs parts)) ms ms.length := by rw [cf_at (List.getElem?_eq_getElem hj)]; exact e
  rw [← ec]
  rcases Nat.lt_or_ge j (rs.length - 1) with lt | ge
  · exact Rat.le_of_lt (asc_lt asc lt (by omega))
  · rw [show j = rs.length - 1 by omega]
    exact Rat.le_refl
section
variable {P : Program} {w : World} {K : PySem.W.Frag} {mg : Str → Option Value}
theorem fits_b3 (T : Tg P K mg) : Binds K T.ftd ["share", "rows", "bits"] [] := by
  obtain ⟨ds, hv, hb⟩ := T.ftF.binds1 (ps := ["share", "rows", "bits"]) 3 1 (by simp) rfl (fun Ta kV doc pm an cdv ct us its l1 l2 => by
    match us, l1, its, l2 with
    | [a, b, c], _, [d], _ => exact ⟨_, rfl, rfl⟩)
  cases hv
  exact hb
theorem fits_b2 (T : Tg P K mg) : ∃ ds, Vals [V.non] ds ∧ Binds K T.ftd ["share", "rows", "bits"] ds :=
  T.ftF.binds1 (ps := ["share", "rows", "bits"]) 2 0 (by simp) rfl (fun Ta kV doc pm an cdv ct us its l1 l2 => by
    match us, l1, its, l2 with
    | [a, b], _, [d], _ => exact ⟨_, rfl, rfl⟩)
theorem fits_kb (T : Tg P K mg) : ∃ its : List Value, KBn K T.ftd ["share", "rows", "bits"] 2 ["bits"] (fun us ws => us ++ ws) (fun vs zs => vs ++ zs) := by
  obtain ⟨its, h⟩ := T.ftF.kbindsD (ps := ["share", "rows", "bits"]) 2 ["bits"] (fun us _ ws => us ++ ws) (by simp) (fun a _ b => a.append b) (fun Ta kV doc pm an cdv ct us its ws l1 l2 l3 => by
    match us, l1, its, l2, ws, l3 with
    | [a, b], _, [d], _, [e], _ => exact ⟨_, rfl, rfl⟩)
  exact ⟨its, h⟩
end
end Kz
set_option linter.all false
set_option maxRecDepth 100000
set_option maxHeartbeats 4000000
set_option pp.maxSteps 400
namespace Kz
open PySem PySem.Spec PyProof.Rows L2
/-- all that is no list, no dict and no table stands as it did -/
def NL (H H' : Hp) : Prop := ∀ b o, H b = some o → (∀ us, o ≠ .lst us) → (∀ ks, o ≠ .dK ks) → (∀ ps, o ≠ .tbl ps) → H' b = some o
theorem Same.nl {H H' : Hp} (s : Same H H') : NL H H' := fun b o e _ _ _ => s b o e
theorem NL.lstB {D : Addr} {H H' : Hp} (l : ∀ o, H D = some o → ∃ us, o = .lst us) (b : But D H H') : NL H H' := fun c o e n _ _ => b c o e fun z => by
  obtain ⟨us, eu⟩ := l o (z ▸ e)
  exact n us eu
theorem NL.penB {p c : Addr} {n : Nat} {H H' : Hp} (pen : Pen H p c n) (b : But p H H') : NL H H' := fun a o e _ d _ => b a o e fun z => by
  obtain ⟨ns, i, x, m, f, e1, _⟩ := pen
  rw [z, e1] at e
  cases e
  exact d _ rfl
theorem NL.cl {p c : Addr} {n : Nat} {H : Hp} (pen : Pen H p c n) : NL H (Kz.cl p H) := fun a o e _ d t => cl_at (fun z => by
  obtain ⟨ns, i, x, m, f, e1, _⟩ := pen
  rw [z, e1] at e
  cases e
  exact d _ rfl) e t
section
variable {K : PySem.W.Frag} {H H' : Hp}
theorem SqT.nl {a : Addr} {xs : List V} (g : NL H H') (h : SqT K H a xs) : SqT K H' a xs := by
  rcases h with (h | ⟨o, h⟩) | h
  · exact .inl (.inl (g _ _ h (fun _ z => nomatch z) (fun _ z => nomatch z) (fun _ z => nomatch z)))
  · exact .inl (.inr ⟨o, g _ _ h (fun _ z => nomatch z) (fun _ z => nomatch z) (fun _ z => nomatch z)⟩)
  · exact .inr h
theorem RV.nl {v : V} {q : Rat} (g : NL H H') (h : RV K H v q) : RV K H' v q := by
  obtain ⟨t, e, h⟩ := h
  exact ⟨t, e, Kz.SqT.nl g h⟩
theorem Al.nl {vs : List V} {qs : List Rat} (g : NL H H') (h : Al K H vs qs) : Al K H' vs qs := ⟨h.1, fun i v q a b => (h.2 i v q a b).nl g⟩
theorem PolyAt.nl {cP : Addr} {v : V} {q : List Rat} (g : NL H H') (h : PolyAt K cP H v q) : PolyAt K cP H' v q := by
  obtain ⟨a, dx, t, ws, e, ha, ht, al, tr⟩ := h
  exact ⟨a, dx, t, ws, e, g _ _ ha (fun _ z => nomatch z) (fun _ z => nomatch z) (fun _ z => nomatch z), Kz.SqT.nl g ht, al.nl g, tr⟩
theorem BrkAt.nl {cB cP : Addr} {v : V} {ks as : List Rat} {ps : List (List Rat)} (g : NL H H') (h : BrkAt K cB cP H v ks ps as) : BrkAt K cB cP H' v ks ps as := by
  obtain ⟨a, dx, t1, t2, t3, w1, us, w3, e, ha, h1, a1, h2, p2, h3, a3⟩ := h
  exact ⟨a, dx, t1, t2, t3, w1, us, w3, e, g _ _ ha (fun _ z => nomatch z) (fun _ z => nomatch z) (fun _ z => nomatch z), Kz.SqT.nl g h1, a1.nl g, Kz.SqT.nl g h2, ⟨p2.1, fun i u q x y => (p2.2 i u q x y).nl g⟩, Kz.SqT.nl g h3, a3.nl g⟩
theorem KnF.nl {v : V} (g : NL H H') (h : KnF H v) : KnF H' v := by
  obtain ⟨a, C, dx, t1, y, z, w, e, ha, o, ho, d⟩ := h
  exact ⟨a, C, dx, t1, y, z, w, e, g _ _ ha (fun _ z => nomatch z) (fun _ z => nomatch z) (fun _ z => nomatch z), o, g _ _ ho (fun _ z => nomatch z) (fun _ z => nomatch z) (fun _ z => nomatch z), d⟩
theorem OR.nl {v : V} {o : Option Rat} (g : NL H H') (h : OR K H v o) : OR K H' v o := h.imp id fun ⟨q, e, r⟩ => ⟨q, e, r.nl g⟩
theorem ToAt.nl {cT cB cP : Addr} {v : V} {ks as : List Rat} {ps : List (List Rat)} {lo hi : Option Rat} (g : NL H H') (h : ToAt K cT cB cP H v ks ps as lo hi) : ToAt K cT cB cP H' v ks ps as lo hi := by
  obtain ⟨a, dx, f, l, m, e, ha, h1, h2, h3, h4⟩ := h
  exact ⟨a, dx, f, l, m, e, g _ _ ha (fun _ z => nomatch z) (fun _ z => nomatch z) (fun _ z => nomatch z), h1.nl g, h2.nl g, h3.nl g, h4.nl g⟩
theorem TRs.nl {cT cB cP : Addr} {us : List V} {ks : List Rat} {ms : List Rm} (g : NL H H') (h : TRs K cT cB cP H us ks ms) : TRs K cT cB cP H' us ks ms := ⟨h.1, fun i u m a b => (h.2 i u m a b).nl g⟩
theorem ShAt.nl {cS : Addr} {v : V} {xs ps : List Rat} (g : NL H H') (h : ShAt K cS H v xs ps) : ShAt K cS H' v xs ps := by
  obtain ⟨a, dx, t1, t2, w1, w2, e, ha, h1, a1, h2, a2⟩ := h
  exact ⟨a, dx, t1, t2, w1, w2, e, g _ _ ha (fun _ z => nomatch z) (fun _ z => nomatch z) (fun _ z => nomatch z), Kz.SqT.nl g h1, a1.nl g, Kz.SqT.nl g h2, a2.nl g⟩
theorem TRs.nil {cT cB cP : Addr} {ks : List Rat} : TRs K cT cB cP H [] ks [] := ⟨rfl, fun i u m a _ => by cases a⟩
theorem TRs.snoc {cT cB cP : Addr} {us : List V} {ks : List Rat} {ms : List Rm} {u : V} {m : Rm} (h : TRs K cT cB cP H us ks ms) (t : ToAt K cT cB cP H u ks m.ps m.as m.lo m.hi) : TRs K cT cB cP H (us ++ [u]) ks (ms ++ [m]) := by
  refine ⟨by rw [List.length_append, List.length_append, h.1]; rfl, fun i g r a c => ?_⟩
  rcases Nat.lt_or_ge i us.length with lt | ge
  · rw [List.getElem?_append_left lt] at a
    rw [List.getElem?_append_left (by rw [← h.1]; exact lt)] at c
    exact h.2 i g r a c
  · rw [List.getElem?_append_right ge] at a
    rw [List.getElem?_append_right (by rw [← h.1]; exact ge), ← h.1] at c
    match e : i - us.length, a, c with
    | 0, a, c =>
      cases a
      cases c
      exact t
    | k + 1, a, c => cases a
/-- a row of the law: a function, and bounds -/
def RwV (K : PySem.W.Frag) (H : Hp) (u : V) (ks : List Rat) (m : Rm) : Prop := ∃ (rt : Addr) (fv lv hv : V), u = .ref rt ∧ SqT K H rt [fv, lv, hv] ∧ FnV K H fv ks m.ps m.as ∧ OR K H lv m.lo ∧ OR K H hv m.hi
theorem RwV.same {u : V} {ks : List Rat} {m : Rm} (s : Same H H') (h : RwV K H u ks m) : RwV K H' u ks m := by
  obtain ⟨rt, fv, lv, hv, e, h1, h2, h3, h4⟩ := h
  exact ⟨rt, fv, lv, hv, e, Kz.Same.seqT s h1, h2.same s, h3.same s, h4.same s⟩
theorem RwV.pen {p c : Addr} {n : Nat} {u : V} {ks : List Rat} {m : Rm} (b : But p H H') (pen : Pen H p c n) (h : RwV K H u ks m) : RwV K H' u ks m := by
  obtain ⟨rt, fv, lv, hv, e, h1, h2, h3, h4⟩ := h
  exact ⟨rt, fv, lv, hv, e, pen.seqT b h1, pen.fnv b h2, h3.pen b pen, h4.pen b pen⟩
theorem RwV.cl {p c : Addr} {n : Nat} {u : V} {ks : List Rat} {m : Rm} (pen : Pen H p c n) (h : RwV K H u ks m) : RwV K (Kz.cl p H) u ks m := by
  obtain ⟨rt, fv, lv, hv, e, h1, h2, h3, h4⟩ := h
  exact ⟨rt, fv, lv, hv, e, pen.cT h1, pen.cFnv h2, h3.nl (NL.cl pen), h4.nl (NL.cl pen)⟩
def RRs (K : PySem.W.Frag) (H : Hp) (us : List V) (ks : List Rat) (ms : List Rm) : Prop := us.length = ms.length ∧ ∀ (i : Nat) (u : V) (m : Rm), us[i]? = some u → ms[i]? = some m → RwV K H u ks m
theorem RRs.same {us : List V} {ks : List Rat} {ms : List Rm} (s : Same H H') (h : RRs K H us ks ms) : RRs K H' us ks ms := ⟨h.1, fun i u m a b => (h.2 i u m a b).same s⟩
theorem RRs.pen {p c : Addr} {n : Nat} {us : List V} {ks : List Rat} {ms : List Rm} (b : But p H H') (pen : Pen H p c n) (h : RRs K H us ks ms) : RRs K H' us ks ms := ⟨h.1, fun i u m x y => (h.2 i u m x y).pen b pen⟩
theorem RRs.cl {p c : Addr} {n : Nat} {us : List V} {ks : List Rat} {ms : List Rm} (pen : Pen H p c n) (h : RRs K H us ks ms) : RRs K (Kz.cl p H) us ks ms := ⟨h.1, fun i u m x y => (h.2 i u m x y).cl pen⟩
theorem RRs.nil {ks : List Rat} : RRs K H [] ks [] := ⟨rfl, fun i u m a _ => by cases a⟩
theorem RRs.snoc {us : List V} {ks : List Rat} {ms : List Rm} {u : V} {m : Rm} (h : RRs K H us ks ms) (t : RwV K H u ks m) : RRs K H (us ++ [u]) ks (ms ++ [m]) := by
  refine ⟨by rw [List.length_append, List.length_append, h.1]; rfl, fun i g r a c => ?_⟩
  rcases Nat.lt_or_ge i us.length with lt | ge
  · rw [List.getElem?_append_left lt] at a
    rw [List.getElem?_append_left (by rw [← h.1]; exact lt)] at c
    exact h.2 i g r a c
  · rw [List.getElem?_append_right ge] at a
    rw [List.getElem?_append_right (by rw [← h.1]; exact ge), ← h.1] at c
    match e : i - us.length, a, c with
    | 0, a, c =>
      cases a
      cases c
      exact t
    | k + 1, a, c => cases a
/-- a bound, as data -/
def pdO : Option Rat → PyData
  | none => .none
  | some q => pdQ q
theorem OR.dp {v : V} {o : Option Rat} (h : OR K H v o) : Dp K H v (pdO o) := by
  rcases h with ⟨rfl, rfl⟩ | ⟨q, rfl, r⟩
  · exact .non
  · exact r.dp
theorem pdO_shaped (a b : Option Rat) : SeqAt.shaped (.tuple [pdO a, pdO b]) = true := by
  have h : ∀ o : Option Rat, (pdO o).canLay0 = true ∧ (pdO o).depth ≤ 2 := fun o => by
    cases o with
    | none => exact ⟨rfl, by decide⟩
    | some q => exact ⟨by simp [pdO, pdQ, PyData.canLay0, PyData.canLayAll0], by simp [pdO, pdQ, PyData.depth, PyData.depthAll]⟩
  have c1 : (PyData.tuple [pdO a, pdO b]).canLay0 = true := by
    simp only [PyData.canLay0, PyData.canLayAll0, (h a).1, (h b).1, Bool.and_self]
  have c2 : (PyData.tuple [pdO a, pdO b]).depth ≤ 64 := by
    simp only [PyData.depth, PyData.depthAll]
    have := (h a).2
    have := (h b).2
    omega
  unfold SeqAt.shaped
  rw [c1, Bool.true_and]
  exact decide_eq_true c2
theorem pdO_eqv (a b : Option Rat) : PyData.eqv (.tuple [pdO a, pdO b]) (.tuple [pdO a, pdO b]) = true := by
  have h : ∀ o : Option Rat, PyData.eqv (pdO o) (pdO o) = true := fun o => by
    cases o with
    | none => rfl
    | some q =>
      show PyData.eqv (pdQ q) (pdQ q) = true
      rw [eqv_pdQ, decide_eq_true rfl]
  simp only [PyData.eqv, PyData.eqvAll, h, Bool.and_self]
end
end Kz
set_option linter.all false
set_option maxRecDepth 100000
set_option maxHeartbeats 4000000
set_option pp.maxSteps 500
namespace Kz
open PySem PySem.Spec PyProof.Rows L2
abbrev sLaw : Stmt := top 84
abbrev nLw : List Str := ["_law_script", "_law_pen_here", "_law_lap", "_law_low", "_law_high", "_law_share", "_law_knots", "_law_rows", "_law_misses", "_law_k", "_law_row_here", "_law_more", "_law_due", "_law_made", "_law_told", "_law_there", "_law_answers", "_law_many", "_law_answer"]
theorem sc84g : FnScope nLw ["_law_script"] (defScope (top 84)) := ⟨rfl, rfl, rfl, by decide +kernel, rfl, by decide +kernel, by decide +kernel⟩
theorem neg_ne {b : Bool} : decide (V.bl (!b) = V.bl b) = false := by cases b <;> rfl
section
variable {P : Program} {w : World} {K : PySem.W.Frag} {mg : Str → Option Value} {base : Heap}
def spLaw (K : PySem.W.Frag) : Sp := fun vs H Q _ => ∃ (a : Addr) (ns : List Int), vs = [.ref a] ∧ SqL K H a (ns.map V.int) ∧ ∀ H', Q (.bl true) H'
theorem ok_law {f : Addr} {fd : FuncData} (Fl : Fun K "law" "law" sLaw f fd) (T : Tg P K mg) : FnG P w K mg base CX0 14 f fd ["_law_script"] (spLaw K) := by
  have Gpen : FnOk P w K mg base CX0 1 T.l_pen.f T.l_pen.fd ["_law_script"] (spPen K) := ok_lpen T.toTu
  have Gdraw : FnOk P w K mg base CX0 1 T.l_draw.f T.l_draw.fd ["_law_pen_here", "_law_many"] spDraw := ok_ldraw T.toTu
  have Gpick : FnOk P w K mg base CX0 2 T.l_pick.f T.l_pick.fd ["_law_pen_here", "_law_some"] spPick := ok_lpick T.toTu
  have Gint : FnOk P w K mg base CX0 4 T.l_interval.f T.l_interval.fd ["_law_pen_here", "_law_most"] (spInt K) := ok_int T
  have Gdsh : FnOk P w K mg base CX0 5 T.l_dshare.f T.l_dshare.fd ["_law_pen_here", "_law_low", "_law_high", "_law_many"] (spDsh K) := ok_dsh T
  have Gdkn : FnOk P w K mg base CX0 5 T.l_dknots.f T.l_dknots.fd ["_law_pen_here", "_law_low", "_law_high", "_law_many"] (spDknots K) := ok_dknots T.toTk
  have Grow : FnOk P w K mg base CX0 7 T.l_row.f T.l_row.fd ["_law_pen_here", "_law_knots", "_law_share"] (spRw K) := ok_rw T
  have Gsort : FnOk P w K mg base CX0 3 T.l_sorted.f T.l_sorted.fd ["_law_some"] (spLsort K) := ok_lsort T.toTk
  have Gmt : FnOk P w K mg base CX0 12 T.l_mtold.f T.l_mtold.fd ["_law_pen_here", "_law_row_here"] (spMt K T.cT T.cB T.cP) := ok_mt T
  have Gfof : FnOk P w K mg base CX0 2 T.l_fof.f T.l_fof.fd ["_law_told"] (spToldF K T.cB T.cP) := ok_fof T
  have Gms : FnOk P w K mg base CX0 11 T.l_mshare.f T.l_mshare.fd ["_law_pen_here", "_law_share"] (spMs K T.cS) := ok_ms T
  have Gmi : FnOk P w K mg base CX0 10 T.missed.f T.missed.fd ["share", "rows"] (spMi K T.cS T.cT T.cB T.cP) := ok_mi T
  have Gfi : FnOk P w K mg base CX0 10 T.ft T.ftd ["share", "rows", "bits"] (spFi K T.cS T.cT T.cB T.cP) := ok_fi T
  have Gless : FnOk P w K mg base CX0 1 T.l_less.f T.l_less.fd ["_law_one", "_law_two"] (spLess K) := ok_lless T.toTy
  have b3 := fits_b3 T
  obtain ⟨ds, hds, b2⟩ := fits_b2 T
  obtain ⟨its, kb⟩ := fits_kb T
  refine fnG_of Fl sc84g (fun vs H Q E h => ?_) (fun cdv A outer s H vs Q E hg hr h => ?_)
  · obtain ⟨a, ns, rfl, _⟩ := h
    rfl
  · obtain ⟨sa, ss, rfl, hS, k⟩ := h
    have hr1 : Room 1 _ := hr.mono (by decide)
    have hr2 : Room 2 _ := hr.mono (by decide)
    have hr3 : Room 3 _ := hr.mono (by decide)
    have hr4 : Room 4 _ := hr.mono (by decide)
    have hr5 : Room 5 _ := hr.mono (by decide)
    have hr7 : Room 7 _ := hr.mono (by decide)
    have hr10 : Room 10 _ := hr.mono (by decide)
    have hr11 : Room 11 _ := hr.mono (by decide)
    have hr12 : Room 12 _ := hr.mono (by decide)
    have hu := hr.units
    have hu4 : (A.deeper (envOfC (Str.ofString "law") (defScope (top 84)) s.heap.objs.size f cdv)).units + 64 < cLine := hu
    refine ⟨_, PSs.nox (pss_cons (ps_set (i := 1) sc84g.nd rfl (.inr rfl) (T.l_pen.c0 Gpen hr1 (pa_cons (pv 0) pa_nil)))
      (pss_cons (ps_for PassesOwn.never rfl (pi_range1 rfl T.blt.range (pa_cons pe_int pa_nil)) (pg_name (i := 2) sc84g.nd rfl (.inl rfl))
        (pss_cons (ps_asg (T.l_interval.c0 Gint hr4 (pa_cons (pv 1) (pa_cons pe_int pa_nil))) (pg_tup (by rfl) (pgs_cons (pg_name (i := 3) sc84g.nd rfl (.inl rfl)) (pgs_cons (pg_name (i := 4) sc84g.nd rfl (.inl rfl)) pgs_nil))))
        (pss_cons (ps_par (i := 5) (j := 6) rfl sc84g.nd rfl rfl (by decide) rfl rfl (pa_cons (T.l_dshare.c0 Gdsh hr5 (pa_cons (pv 1) (pa_cons (pv 3) (pa_cons (pv 4) (pa_cons pe_int pa_nil))))) (pa_cons (T.l_dknots.c0 Gdkn hr5 (pa_cons (pv 1) (pa_cons (pv 3) (pa_cons (pv 4) (pa_cons pe_int pa_nil))))) pa_nil)) (by rfl))
        (pss_cons (ps_par (i := 7) (j := 8) rfl sc84g.nd rfl rfl (by decide) rfl rfl (pa_cons (pe_lst pa_nil) (pa_cons (pe_lst (pa_cons (pe_tup (pa_cons pe_int (pa_cons pe_int pa_nil))) pa_nil)) pa_nil)) (by rfl))
        (pss_cons (ps_for PassesOwn.never rfl (pi_range1 rfl T.blt.range (pa_cons (T.l_draw.c0 Gdraw hr1 (pa_cons (pv 1) (pa_cons pe_int pa_nil))) pa_nil)) (pg_name (i := 9) sc84g.nd rfl (.inl rfl))
          (pss_cons (ps_asg (T.l_row.c0 Grow hr7 (pa_cons (pv 1) (pa_cons (pv 6) (pa_cons (pv 5) pa_nil)))) (pg_tup (by rfl) (pgs_cons (pg_name (i := 10) sc84g.nd rfl (.inl rfl)) (pgs_cons (pg_name (i := 11) sc84g.nd rfl (.inl rfl)) pgs_nil))))
          (pss_one (ps_par (i := 7) (j := 8) rfl sc84g.nd rfl rfl (by decide) rfl rfl (pa_cons (pe_op op_cat (pv 7) (pe_lst (pa_cons (pv 10) pa_nil))) (pa_cons (pe_op op_cat (pv 8) (pv 11)) pa_nil)) (by rfl)))))
        (pss_cons (ps_set (i := 12) sc84g.nd rfl (.inl rfl) (pe_ix ix_list (T.l_sorted.c0 Gsort hr3 (pa_cons (pv 8) pa_nil)) (pe_un un_neg pe_int) (fun _ _ => rfl)))
        (pss_cons (ps_setLc (i := 13) (own := [("_law_row_here", 10)]) (g := gName 10) (tt := tYes) rfl sc84g.nd rfl rfl (sw_true rfl rfl rfl (by decide +kernel)) (pi_list (pv 7)) (blkOk_by (own := [("_law_row_here", 10)]) (N := nLw) (sc := defScope (top 84)) (by decide +kernel))
          (fun _ _ _ _ _ => pg_name (i := 10) sc84g.nd rfl (Or.inl rfl)) (fun _ _ _ _ _ => pts_nil) (fun _ _ _ _ _ => T.l_mtold.c0 Gmt hr12 (pa_cons (pv 1) (pa_cons (pv 10) pa_nil))))
        (pss_cons (ps_for PassesOwn.never rfl (pi_zip (by rfl) T.mZip (pa_cons (pv 7) (pa_cons (pv 13) pa_nil))) (pg_tup (by rfl) (pgs_cons (pg_name (i := 10) sc84g.nd rfl (.inl rfl)) (pgs_cons (pg_name (i := 14) sc84g.nd rfl (.inl rfl)) pgs_nil)))
          (pss_cons (ps_if (PW.pt (pw_or (pt_cmpR (op_neDK (K' := K) hu4) (pe_tup (pa_cons (pe_fld (pv 14) (by rfl)) (pa_cons (pe_fld (pv 14) (by rfl)) pa_nil))) (pe_slice sl_tup (pv 10) (po_some pe_int) po_none) (nomark _))
              (pw_or1 (pt_not (pt_val (pe_callB (call_isiK (K' := K)) (by rfl) T.mIsi boot_isi (pa_cons (pe_fld (pv 14) (by rfl)) (pa_cons (pe_glob (v := .ref T.cB) rfl T.mgB rfl) pa_nil)))))))) (pss_one (ps_ret pe_bl)) pss_nil)
          (pss_one (ps_if (pt_cmpR (op_neDK (K' := K) hu4) (T.l_fof.c0 Gfof hr2 (pa_cons (pe_fld (pv 14) (by rfl)) pa_nil))
              (pe_tup (pa_cons (pe_callTy call_list_of (by rfl) T.blt.list boot_tlist (pa_cons (pe_ix ix_tup (pe_ix ix_tup (pv 10) pe_int (fun _ _ => rfl)) pe_int (fun _ _ => rfl)) pa_nil)) (pa_cons (pe_ix ix_tup (pe_ix ix_tup (pv 10) pe_int (fun _ _ => rfl)) pe_int (fun _ _ => rfl)) (pa_cons (pe_ix ix_tup (pe_ix ix_tup (pv 10) pe_int (fun _ _ => rfl)) pe_int (fun _ _ => rfl)) pa_nil)))) (nomark _)) (pss_one (ps_ret pe_bl)) pss_nil))))
        (pss_cons (ps_set (i := 15) sc84g.nd rfl (.inl rfl) (T.l_mshare.c0 Gms hr11 (pa_cons (pv 1) (pa_cons (pv 5) pa_nil))))
        (pss_cons (ps_if (pt_cmpR (op_neDK (K' := K) hu4) (T.missed.c0 Gmi hr10 (pa_cons (pv 15) (pa_cons (T.l_pick.c0 Gpick hr2 (pa_cons (pv 1) (pa_cons (pe_lst (pa_cons (pv 13) (pa_cons (pe_callTy call_tuple_of (by rfl) T.mTuple boot_ttuple (pa_cons (pv 13) pa_nil)) pa_nil))) pa_nil))) pa_nil))) (pv 12) (nomark _)) (pss_one (ps_ret pe_bl)) pss_nil)
        (pss_cons (ps_set (i := 16) sc84g.nd rfl (.inl rfl) (pe_tup (pa_cons (pe_call Gfi hr10 rfl T.mgF T.ftF.kp b2 hds pass0 (pa_cons (pv 15) (pa_cons (pv 13) pa_nil)))
            (pa_cons (pe_call Gfi hr10 rfl T.mgF T.ftF.kp b3 .nil pass0 (pa_cons (pv 15) (pa_cons (pe_callTy call_tuple_of (by rfl) T.mTuple boot_ttuple (pa_cons (pv 13) pa_nil)) (pa_cons pe_non pa_nil)))) pa_nil))))
        (pss_cons (ps_if (pt_cmpR op_ne (pe_callB (call_reprK (K := K) rfl hg hu) (by rfl) T.mRepr boot_repr' (pa_cons (pv 16) pa_nil))
            (pe_callB (call_reprK (K := K) rfl hg hu) (by rfl) T.mRepr boot_repr' (pa_cons (pe_tup (pa_cons (pe_cmpR (op_eqD hu) (pv 12) (pe_tup (pa_cons pe_int (pa_cons pe_int pa_nil))) (nomark _)) (pa_cons (pe_cmpR (op_eqD hu) (pv 12) (pe_tup (pa_cons pe_int (pa_cons pe_int pa_nil))) (nomark _)) pa_nil))) pa_nil)) (nomark _)) (pss_one (ps_ret pe_bl)) pss_nil)
        (pss_one (ps_for PassesOwn.never rfl (pi_list (pe_lst (pa_cons pe_int (pa_cons pe_int (pa_cons pe_int (pa_cons pe_int (pa_cons (T.l_draw.c0 Gdraw hr1 (pa_cons (pv 1) (pa_cons pe_int pa_nil))) pa_nil))))))) (pg_name (i := 17) sc84g.nd rfl (.inl rfl))
          (pss_cons (ps_set (i := 18) sc84g.nd rfl (.inl rfl) (pe_call Gfi hr10 rfl T.mgF T.ftF.kp b3 .nil pass0 (pa_cons (pv 15) (pa_cons (pv 13) (pa_cons (pv 17) pa_nil)))))
          (pss_cons (ps_if (PW.pt (pw_or (pt_not (pt_val (pe_callB call_isi (by rfl) T.mIsi boot_isi (pa_cons (pv 18) (pa_cons (pe_bltn (v := .ty "bool") (by rfl) T.mBool boot_tbool rfl) pa_nil)))))
              (pw_or1 (pt_cmpR op_eq (pv 18) (T.l_less.c0 Gless hr1 (pa_cons (pe_tup (pa_cons pe_int (pa_cons (pe_op op_oneShl pe_int (pv 17)) pa_nil))) (pa_cons (pv 12) pa_nil))) (nomark _))))) (pss_one (ps_ret pe_bl)) pss_nil)
          (pss_one (ps_if (pt_cmpR op_ne (pe_callN Gfi hr10 rfl T.mgF T.ftF.kp kb pass0 (pa_cons (pv 15) (pa_cons (pv 13) pa_nil)) (pk_cons (pv 17) pk_nil)) (pv 18) (nomark _)) (pss_one (ps_ret pe_bl)) pss_nil))))))))))))))))))
      (pss_one (ps_ret pe_bl)))), ?_⟩
    refine ⟨_, rfl, sa, ss, rfl, hS, fun p c H1 np s1 pen1 => ?_⟩
    refine ⟨(3 : Int), rfl, by decide, by decide, for_range (lo := 0) (n := 3) (fun i σ G => ∃ v2 v3 v4 v5 v6 v7 v8 v9 v10 v11 v12 v13 v14 v15 v16 v17 v18 : Option V, σ = [some (.ref sa), some (.ref p), v2, v3, v4, v5, v6, v7, v8, v9, v10, v11, v12, v13, v14, v15, v16, v17, v18] ∧ Pen G p c (5000 * i))
      ⟨none, none, none, none, none, none, none, none, none, none, none, none, none, none, none, none, none, rfl, pen1⟩ ?_ ?_⟩
    rotate_left
    · rintro σ G ⟨v2, v3, v4, v5, v6, v7, v8, v9, v10, v11, v12, v13, v14, v15, v16, v17, v18, rfl, pn⟩
      exact k G
    · rintro i σ G hi ⟨v2, v3, v4, v5, v6, v7, v8, v9, v10, v11, v12, v13, v14, v15, v16, v17, v18, rfl, pn⟩
      have hi3 : i < 3 := hi
      refine ⟨_, rfl, p, c, _, rfl, pn, by omega, fun t0 lo hi' G1 x wd pn1 b1 ht0 rlo rhi iv => ?_⟩
      refine ⟨t0, _, rfl, ht0, rfl, _, _, rfl, _, _, rfl, rfl, ?_⟩
      refine ⟨_, rfl, _, rfl, _, rfl, p, c, _, lo, hi', x, wd, rfl, pn1, by omega, rlo, rhi, iv, fun st sx sp G2 xs parts pn2 b2 hst hsx hsp dr => ?_⟩
      have rlo2 := pn1.rv b2 rlo
      have rhi2 := pn1.rv b2 rhi
      refine ⟨_, rfl, _, rfl, _, rfl, p, c, _, 3, lo, hi', x, wd, rfl, pn2, by omega, by decide, rlo2, rhi2, iv, fun kv G3 ks pn3 b3 hks kn => ?_⟩
      have hst3 := pn2.seqT b3 hst
      have hsx3 := pn2.lr b3 hsx
      have hsp3 := pn2.lr b3 hsp
      have pn3 : Pen G3 p c (5000 * i + 40) := pn3.more (by omega)
      have so := dr.so
      clear rlo rhi rlo2 rhi2 ht0 pn1 pn2 b1 b2 b3 hst hsx hsp pn
      refine ⟨_, _, rfl, ?_⟩
      have klo : cf ks 0 ≤ x ∧ x + wd ≤ cf ks (ks.length - 1) := by
        have two := kn.two
        obtain ⟨j, hj, e⟩ := List.getElem_of_mem kn.lo
        obtain ⟨j2, hj2, e2⟩ := List.getElem_of_mem kn.hi
        have ej : cf ks j = x := by rw [cf_at (List.getElem?_eq_getElem hj)]; exact e
        have ej2 : cf ks j2 = x + wd := by rw [cf_at (List.getElem?_eq_getElem hj2)]; exact e2
        constructor
        · rw [← ej]
          exact asc_le kn.asc (Nat.zero_le _) hj
        · rw [← ej2]
          exact asc_le kn.asc (by omega) (by omega)
      have rg : ∀ z ∈ xs, cf ks 0 ≤ z ∧ z ≤ cf ks (ks.length - 1) := fun z hz => ⟨Rat.le_trans klo.1 (dr.inn z hz).1, Rat.le_trans (dr.inn z hz).2 klo.2⟩
      have two := kn.two
      have few := kn.few
      have zk : ∀ q ∈ ks, Mz 8 19 q := fun q hq => (kn.in_ q hq).2.2
      refine ⟨(by show 0 ≤ sizeLine; decide), fun R nR => ?_⟩
      have s4 := Same.new (o := (.lst [])) nR
      have e4 : upd G3 R (.lst []) R = some (.lst []) := upd_same
      generalize upd G3 R (.lst []) = G4 at s4 e4 ⊢
      refine ⟨(by show 2 ≤ sizeLine; decide), fun az naz => ?_⟩
      have s5 := Same.new (o := (.tup [V.int 0, V.int 1])) naz
      have e5 : upd G4 az (.tup [V.int 0, V.int 1]) az = some (.tup [V.int 0, V.int 1]) := upd_same
      generalize upd G4 az (.tup [V.int 0, V.int 1]) = G5 at s5 e5 ⊢
      refine ⟨(by show 1 ≤ sizeLine; decide), fun M nM => ?_⟩
      have s6 := Same.new (o := (.lst [V.ref az])) nM
      have e6 : upd G5 M (.lst [V.ref az]) M = some (.lst [V.ref az]) := upd_same
      generalize upd G5 M (.lst [V.ref az]) = G6 at s6 e6 ⊢
      have s36 := (s4.trans s5).trans s6
      have eR : G6 R = some (.lst []) := (s5.trans s6) _ _ e4
      have r0 : RV K G6 (.ref az) 0 := ⟨az, rfl, SqT.of (s6 _ _ e5)⟩
      have pn6 := pn3.same s36
      refine ⟨_, _, rfl, ?_⟩
      refine ⟨_, rfl, p, c, _, 6, rfl, pn6, by omega, by decide, by decide, fun z G7 z0 z6 pn7 b7 => ?_⟩
      have hst7 := pn6.seqT b7 (Kz.Same.seqT s36 hst3)
      have hsx7 := pn6.lr b7 (hsx3.same s36)
      have hsp7 := pn6.lr b7 (hsp3.same s36)
      have hks7 := pn6.lr b7 (hks.same s36)
      have eR7 := pn6.lst b7 eR
      have eM7 : LR K G7 (.ref M) [0] := pn6.lr b7 ⟨M, [.ref az], rfl, e6, Al.snoc Al.nil r0⟩
      clear hst3 hsx3 hsp3 hks e4 e5 e6 eR r0 nR naz nM s36 pn3 pn6 s4 s5 s6
      refine ⟨z, rfl, by omega, by omega, ?_⟩
      refine for_range (lo := 0) (n := z.toNat) (fun j σ H' => ∃ (R M : Addr) (v9 v10 v11 : Option V) (us : List V) (ms : List Rm),
        σ = [some (.ref sa), some (.ref p), some (.int (0 + i)), some lo, some hi', some (.ref st), some kv, some (.ref R), some (.ref M), v9, v10, v11, v12, v13, v14, v15, v16, v17, v18] ∧ Pen H' p c (5000 * i + 50 + 120 * j) ∧ H' R = some (.lst us) ∧ RRs K H' us ks ms ∧ ms.length = j ∧ LR K H' (.ref M) (allQ ks xs parts ms) ∧ (∀ q ∈ allQ ks xs parts ms, Mz 3 40 q) ∧ (∀ m ∈ ms, RowOk ks xs parts m) ∧ But p G7 H' ∧ (allQ ks xs parts ms).length ≤ 1 + 3 * j) ⟨R, M, _, _, _, [], [], rfl, pn7.more (by omega), eR7, RRs.nil, rfl, eM7, fun q hq => by
          rw [List.mem_singleton.mp hq]
          exact mz_zero (by decide), (fun m hm => by cases hm), But.refl, Nat.le_refl _⟩ ?_ ?_
      · rintro j σ H8 hj ⟨R, M, v9, v10, v11, us, ms, rfl, pn8, eR8, rr8, lm, lM8, zq8, ok8, b8, len8⟩
        have hj5 : j < 5 := by omega
        refine ⟨_, rfl, _, rfl, _, rfl, p, c, _, kv, st, sx, sp, ks, xs, parts, rfl, pn8, by omega, pn7.lr b8 hks7, pn7.seqT b8 hst7, pn7.lr b8 hsx7, pn7.lr b8 hsp7, so, kn.asc, two, few, zk, rg, fun tt rt mv fv lv hv m H9 pn9 b9 htt hrt hfn ol oh lrm zm rok => ?_⟩
        refine ⟨tt, _, rfl, htt, rfl, _, _, rfl, _, _, rfl, rfl, ?_⟩
        obtain ⟨ml, wm, rfl, hml, alm⟩ := lrm
        obtain ⟨_, wM, eM, hM, alM⟩ := pn8.lr b9 lM8
        cases eM
        have eR9 := pn8.lst b9 eR8
        have rr9 := rr8.pen b9 pn8
        have rv9 : RwV K H9 (.ref rt) ks m := ⟨rt, fv, lv, hv, rfl, hrt, hfn, ol, oh⟩
        have lq : (missQ (mnQ ks xs parts m) m.lo m.hi).length ≤ 3 := by
          unfold missQ
          rw [List.length_cons, List.length_append, List.length_map, List.length_map]
          cases m.lo <;> cases m.hi <;> simp [Option.toList]
        have lu := rr8.1
        have lwM := alM.1
        have lwm := alm.1
        refine ⟨_, rfl, _, rfl, (by show 1 ≤ sizeLine; decide), fun y ny => ?_⟩
        have s10 := Same.new (o := (.lst [V.ref rt])) ny
        have e10 : upd H9 y (.lst [V.ref rt]) y = some (.lst [V.ref rt]) := upd_same
        generalize upd H9 y (.lst [V.ref rt]) = H10 at s10 e10 ⊢
        refine ⟨R, y, us, [.ref rt], rfl, rfl, s10 _ _ eR9, e10, (by
          rw [sizeLine_eq, List.length_singleton]
          omega), fun R2 nR2 => ?_⟩
        have s11 := Same.new (o := (.lst (us ++ [V.ref rt]))) nR2
        have e11 : upd H10 R2 (.lst (us ++ [V.ref rt])) R2 = some (.lst (us ++ [V.ref rt])) := upd_same
        generalize upd H10 R2 (.lst (us ++ [V.ref rt])) = H11 at s11 e11 ⊢
        have s911 := s10.trans s11
        refine ⟨_, rfl, _, rfl, M, ml, wM, wm, rfl, rfl, s911 _ _ hM, s911 _ _ hml, (by
          rw [sizeLine_eq]
          omega), fun M2 nM2 => ?_⟩
        have s12 := Same.new (o := (.lst (wM ++ wm))) nM2
        have e12 : upd H11 M2 (.lst (wM ++ wm)) M2 = some (.lst (wM ++ wm)) := upd_same
        generalize upd H11 M2 (.lst (wM ++ wm)) = H12 at s12 e12 ⊢
        have s912 := s911.trans s12
        refine ⟨_, _, rfl, ?_⟩
        refine ⟨R2, M2, _, _, _, us ++ [.ref rt], ms ++ [m], rfl, (pn9.same s912).more (by omega), s12 _ _ e11, (rr9.same s912).snoc (rv9.same s912), by rw [List.length_append, lm]; rfl, ?_, ?_, ?_, b8.trans (b9.trans (.ofSame s912)), ?_⟩
        · rw [allQ_snoc]
          exact ⟨M2, wM ++ wm, rfl, e12, Al.append (alM.same s912) (alm.same s912)⟩
        · rw [allQ_snoc]
          intro q hq
          rcases List.mem_append.mp hq with hq | hq
          · exact zq8 q hq
          · exact zm q hq
        · intro r hr'
          rcases List.mem_append.mp hr' with h | h
          · exact ok8 r h
          · rw [List.mem_singleton.mp h]
            exact rok
        · rw [allQ_snoc, List.length_append]
          omega
      · rintro σ H8 ⟨R, M, v9, v10, v11, us, ms, rfl, pn8, eR8, rr8, lm, lM8, zq8, ok8, b8, len8⟩
        have l5 : ms.length ≤ 5 := by omega
        refine ⟨_, rfl, .ref M, allQ ks xs parts ms, 43, 40, rfl, lM8, by omega, fun q hq => (zq8 _ (cf_mem hq)).sz, by decide, by decide, fun u H9 rs s9 lr asc mem => ?_⟩
        obtain ⟨pos, last⟩ := gap_last asc mem
        obtain ⟨l, ws, rfl, hl, al⟩ := lr
        obtain ⟨du, edu, rdu⟩ := al.get (i := rs.length - 1) (by omega)
        have zdue : Mz 3 40 (gapT (ms.map (mnQ ks xs parts)) ms ms.length) := by
          rw [← last]
          exact zq8 _ ((mem _).mp (cf_mem (by omega)))
        have due0 := (gap_max (ks := ks) (xs := xs) (parts := parts) (ms := ms) ms.length (Nat.le_refl _)).1
        rw [last] at rdu
        have lws := al.1
        refine ⟨_, rfl, l, ws, _, du, rfl, rfl, SqL.of hl, atI_last (by rw [lws]; exact edu), ?_⟩
        have pn9 : Pen H9 p c (5000 * i + 700) := (pn8.same s9).more (by omega)
        have eR9 := s9 _ _ eR8
        have rr9 := rr8.same s9
        have lu := rr8.1
        have b79 := b8.trans (.ofSame s9)
        clear hl al edu asc mem lM8 zq8 eR8 rr8 pn8 b8
        refine ⟨_, rfl, R, rfl, ⟨_, SqL.of eR9⟩, fun D hD => ?_⟩
        have nDp := pn9.newP hD
        have nDc := pn9.newC hD
        refine lc_mapLP pn9 (SqL.of eR9) (by omega) hD nDp (fun j acc H' => Pen H' p c (5000 * i + 700 + 330 * j) ∧ TRs K T.cT T.cB T.cP H' acc ks (ms.take j)) (fun j acc H H' l b h => ⟨bear_pen l nDc b h.1, h.2.nl (NL.lstB l b)⟩) ⟨pn9, TRs.nil⟩ ?_ ?_
        · rintro j y hy acc H10 Qk Z la ⟨pn10, tr10⟩ b10 eD kk
          have lt : j < ms.length := by
            have := (List.getElem?_eq_some_iff.mp hy).1
            omega
          have em : ms[j]? = some ms[j] := List.getElem?_eq_getElem lt
          obtain ⟨rt, fv, lv, hv, rfl, hrt, hfn, ol, oh⟩ := (rr9.2 j y _ hy em).pen b10 pn9
          have rok := ok8 _ (List.getElem_mem lt)
          refine ⟨rfl, ?_⟩
          dsimp only [tYes]
          refine iteT ⟨_, rfl, _, rfl, p, c, _, rt, fv, lv, hv, ks, ms[j], rfl, pn10, by omega, hrt, hfn, rok.rk.F, rok.rk.la, rok.rk.za, ol, oh, rok.zl, rok.zh, rok.bd, fun u H11 pn11 b11 ta => kk u H11 b11 ⟨pn11.more (by omega), ?_⟩⟩
          rw [take_snoc em]
          exact (tr10.nl (NL.penB pn10 b11)).snoc ta
        rintro acc H10 eD lacc ⟨pn10, tr10⟩ b10
        have tr10 : TRs K T.cT T.cB T.cP H10 acc ks (ms.take us.length) := tr10
        rw [lu, List.take_length] at tr10
        have pn10 : Pen H10 p c (5000 * i + 2500) := pn10.more (by omega)
        have eR10 := pn9.lst b10 eR9
        have rr10 := rr9.pen b10 pn9
        have rdu10 := pn9.rv b10 rdu
        have b710 := b79.trans b10
        have hst10 := pn7.seqT b710 hst7
        have hsx10 := pn7.lr b710 hsx7
        have hsp10 := pn7.lr b710 hsp7
        clear hst7 hsx7 hsp7 hks7 eR7 eM7 pn7 b7 b79 b710 b10 pn9 eR9 rr9 rdu s9 hD
        refine ⟨_, rfl, _, rfl, R, D, us, acc, rfl, SqL.of eR10, SqL.of eD, RZ.for_zipL (K := K) (a := R) (b := D) (xs := us) (ys := acc) (by have := tr10.1; omega) (fun j σ H' => ∃ a10 a14 : Option V, σ = [some (.ref sa), some (.ref p), some (.int (0 + i)), some lo, some hi', some (.ref st), some kv, some (.ref R), some (.ref M), v9, a10, v11, some du, some (.ref D), a14, v15, v16, v17, v18] ∧ Same H10 H') ⟨_, _, rfl, Same.refl _⟩ (fun j σ H' ⟨_, _, _, s⟩ => ⟨SqL.of (s _ _ eR10), SqL.of (s _ _ eD)⟩) ?_ ?_⟩
        · rintro j y z q σ H11 hy hz ⟨a10, a14, rfl, s11⟩ nq
          have lt : j < ms.length := by
            have := (List.getElem?_eq_some_iff.mp hy).1
            omega
          have em : ms[j]? = some ms[j] := List.getElem?_eq_getElem lt
          have rok := ok8 _ (List.getElem_mem lt)
          have s12 := Same.new (o := .tup [y, z]) nq
          obtain ⟨rt, fv, lv, hv, rfl, hrt, hfn, ol, oh⟩ := ((rr10.2 j y _ hy em).same s11).same s12
          obtain ⟨ta, tx, f', l', m', rfl, hta, hbk, hkn, ol', oh'⟩ := ((tr10.2 j z _ hz em).same s11).same s12
          refine ⟨q, _, rfl, SqT.of upd_same, rfl, _, _, rfl, _, _, rfl, rfl, ?_⟩
          have s1012 := s11.trans s12
          generalize upd H11 q (.tup [V.ref rt, V.ref ta]) = H12 at s12 s1012 hrt hfn ol oh hta hbk hkn ol' oh' ⊢
          refine ⟨_, rfl, ta, T.cT, tx, _, _, rfl, hta, T.clT, T.nTo2, lkT2, _, rfl, ta, T.cT, tx, _, _, rfl, hta, T.clT, T.nTo3, lkT3, (by show 2 ≤ sizeLine; decide), fun t1 nt1 => ?_⟩
          have s13 := Same.new (o := (.tup [l', m'])) nt1
          have e13 : upd H12 t1 (.tup [l', m']) t1 = some (.tup [l', m']) := upd_same
          generalize upd H12 t1 (.tup [l', m']) = H13 at s13 e13 ⊢
          have h1 : HT.sIx 3 0 (some 1) = 1 := by decide
          refine ⟨_, rfl, _, rfl, rt, _, rfl, Kz.Same.seqT s13 hrt, (fun z => absurd (h1.symm.trans z.1) (by decide)), fun t2 nt2 => ?_⟩
          rw [cut_drop]
          have s14 := Same.new (o := .tup ([fv, lv, hv].drop 1)) nt2
          have e14 : upd H13 t2 (.tup ([fv, lv, hv].drop 1)) t2 = some (.tup [lv, hv]) := upd_same
          generalize upd H13 t2 (.tup ([fv, lv, hv].drop 1)) = H14 at s14 e14 ⊢
          have s1214 := s13.trans s14
          refine ⟨_, _, .tup (SqT.of (s14 _ _ e13)) (.cons (ol'.same s1214).dp (.cons (oh'.same s1214).dp .nil)), .tup (SqT.of e14) (.cons (ol.same s1214).dp (.cons (oh.same s1214).dp .nil)), pdO_shaped _ _, pdO_shaped _ _, ?_⟩
          rw [pdO_eqv]
          refine ⟨_, rfl, iteF ?_⟩
          obtain ⟨fa, fx, q1, q2, q3, x1, x2, x3, rfl, hfa, hrest⟩ := id (hbk.same s1214)
          refine ⟨_, rfl, ta, T.cT, tx, _, _, rfl, s1214 _ _ hta, T.clT, T.nTo1, lkT1, _, _, _, _, true, rfl, .own _, brk_ty T.toTc hfa, kit_self, _, rfl, ?_⟩
          refine iteF ?_
          refine ⟨_, rfl, ta, T.cT, tx, _, _, rfl, s1214 _ _ hta, T.clT, T.nTo1, lkT1, .ref fa, ks, _, _, 737, rfl, hbk.same s1214, rok.rk.F, rok.rk.la, fun q hq => (rok.rk.za q hq).2, by decide, fun uf H15 s15 fnu => ?_⟩
          have s1215 := s1214.trans s15
          obtain ⟨tF, fA, fB, fC, rfl, hft, ⟨la, wa, rfl, hla, ala⟩, lrb, lrc⟩ := hfn.same s1215
          have hrt15 := Kz.Same.seqT s1215 hrt
          refine ⟨_, rfl, rt, _, _, _, rfl, rfl, hrt15, rfl, tF, _, _, _, rfl, rfl, hft, rfl, la, wa, rfl, .inl (SqL.of hla), fun y1 ny1 => ?_⟩
          have s16 := Same.new (o := (.lst wa)) ny1
          have e16 : upd H15 y1 (.lst wa) y1 = some (.lst wa) := upd_same
          generalize upd H15 y1 (.lst wa) = H16 at s16 e16 ⊢
          have hrt16 := Kz.Same.seqT s16 hrt15
          have hft16 := Kz.Same.seqT s16 hft
          refine ⟨_, rfl, rt, _, _, _, rfl, rfl, hrt16, rfl, tF, _, _, _, rfl, rfl, hft16, rfl, _, rfl, rt, _, _, _, rfl, rfl, hrt16, rfl, tF, _, _, _, rfl, rfl, hft16, rfl, (by show 3 ≤ sizeLine; decide), fun t3 nt3 => ?_⟩
          have s17 := Same.new (o := (.tup [V.ref y1, fB, fC])) nt3
          have e17 : upd H16 t3 (.tup [V.ref y1, fB, fC]) t3 = some (.tup [V.ref y1, fB, fC]) := upd_same
          generalize upd H16 t3 (.tup [V.ref y1, fB, fC]) = H17 at s17 e17 ⊢
          have s1517 := s16.trans s17
          have fn2 : FnV K H17 (.ref t3) ks ms[j].ps ms[j].as := ⟨t3, .ref y1, fB, fC, rfl, SqT.of e17, ⟨y1, wa, rfl, s17 _ _ e16, ala.same s1517⟩, lrb.same s1517, lrc.same s1517⟩
          refine ⟨_, _, (fnu.same s1517).dp, fn2.dp, fnD_shaped _ _ _, fnD_shaped _ _ _, ?_⟩
          rw [fnD_eqv]
          exact ⟨_, rfl, iteF ⟨_, _, rfl, s1012.trans (s1215.trans s1517)⟩⟩
        rintro σ H11 ⟨a10, a14, rfl, s11⟩
        have pn11 := pn10.same s11
        refine ⟨_, rfl, _, rfl, p, c, _, st, sx, sp, xs, parts, rfl, pn11, by omega, Kz.Same.seqT s11 hst10, hsx10.same s11, hsp10.same s11, so, dr.asc, dr.wp, fun sv H12 pn12 b12 hsh => ?_⟩
        have g12 : Same (Kz.cl p H12) H12 := cl_sub
        have gp : Kz.cl p H12 p = none := cl_self
        have eD12 := pn11.lst b12 (s11 _ _ eD)
        have csh := hsh.nl (NL.cl pn12)
        have ctr := (((tr10.same s11).nl (NL.penB pn11 b12))).nl (NL.cl pn12)
        have cD : Kz.cl p H12 D = some (.lst acc) := pn12.cHas eD12 (fun _ z => nomatch z) (fun _ z => nomatch z)
        have cdu := pn12.cRv (pn11.rv b12 (rdu10.same s11))
        generalize Kz.cl p H12 = Gc at g12 gp csh ctr cD cdu
        have pn12 : Pen H12 p c (5000 * i + 2700) := pn12.more (by omega)
        clear hst10 hsx10 hsp10 rr10 tr10 eR10 eD eD12 hsh rdu10 pn11 pn10 b12 s11
        have kp0 : 0 < ks.length := by omega
        have la20 : acc.length ≤ 20 := by have := ctr.1; omega
        have rko : ∀ m ∈ ms, RmOk ks xs m := fun m hm => (ok8 m hm).rk
        have gzo : ∀ m ∈ ms, Gsz (mnQ ks xs parts m) m := fun m hm => (ok8 m hm).gz
        have zG : Mz 60 60 (gapT (ms.map (mnQ ks xs parts)) ms ms.length) := zdue.up (by decide) (by decide)
        have eb : decide (gapT (ms.map (mnQ ks xs parts)) ms ms.length = 0) = !decide (gpO none < gapT (ms.map (mnQ ks xs parts)) ms ms.length) := by
          by_cases c0 : gapT (ms.map (mnQ ks xs parts)) ms ms.length = 0
          · rw [decide_eq_true c0, decide_eq_false (show ¬ gpO none < gapT (ms.map (mnQ ks xs parts)) ms ms.length by rw [c0]; exact Rat.lt_irrefl)]
            rfl
          · rw [decide_eq_false c0, decide_eq_true (show gpO none < gapT (ms.map (mnQ ks xs parts)) ms ms.length from Std.lt_of_le_of_ne due0 fun e => c0 e.symm)]
            rfl
        refine ⟨_, rfl, _, rfl, _, rfl, _, rfl, D, acc, rfl, .inl ⟨SqL.of (g12 _ _ cD), fun tt nt => ?_⟩⟩
        have s13 := Same.new (o := (.tup acc)) nt
        have e13 : upd H12 tt (.tup acc) tt = some (.tup acc) := upd_same
        generalize upd H12 tt (.tup acc) = H13 at s13 e13 ⊢
        refine ⟨(by show 2 ≤ sizeLine; decide), fun g ng => ?_⟩
        have s14 := Same.new (o := (.lst [V.ref D, V.ref tt])) ng
        have e14 : upd H13 g (.lst [V.ref D, V.ref tt]) g = some (.lst [V.ref D, V.ref tt]) := upd_same
        generalize upd H13 g (.lst [V.ref D, V.ref tt]) = H14 at s14 e14 ⊢
        have s1214 := s13.trans s14
        have pn14 := pn12.same s1214
        have g14 := g12.trans s1214
        refine ⟨p, c, g, _, _, rfl, pn14, by omega, e14, (by show 0 < 2; decide), (by show 2 < 1000000; decide), fun jj v H15 hv pn15 b15 => ?_⟩
        have g15 := subB g14 gp b15
        obtain ⟨a, rfl, hsa⟩ : ∃ a, v = .ref a ∧ (SqL K H15 a acc ∨ SqT K H15 a acc) := by
          have mem := mem_of_at hv
          simp only [List.mem_cons, List.not_mem_nil, or_false] at mem
          rcases mem with rfl | rfl
          · exact ⟨D, rfl, .inl (SqL.of (g15 _ _ cD))⟩
          · exact ⟨tt, rfl, .inr (pn14.seqT b15 (SqT.of (s14 _ _ e13)))⟩
        refine ⟨sv, a, acc, xs, parts, ks, ms, rfl, csh.same g15, so, hsa, ctr.same g15, la20, kp0, rko, gzo, fun v H16 s16 rv => ?_⟩
        have g16 := g15.trans s16
        have pn16 := pn15.same s16
        refine ⟨_, rfl, _, _, rv.dp, (cdu.same g16).dp, pdQ_shaped _, pdQ_shaped _, ?_⟩
        rw [eqv_pdQ, decide_eq_true rfl]
        refine ⟨_, rfl, iteF ?_⟩
        clear s13 s14 s1214 s16 g12 g14 g15 pn12 pn14 pn15 e13 e14 b15 hv hsa rv
        refine ⟨_, rfl, _, rfl, sv, D, acc, xs, parts, ks, ms, none, rfl, csh.same g16, so, .inl (SqL.of (g16 _ _ cD)), ctr.same g16, la20, kp0, rko, gzo, (fun k e => by cases e), zG, fun H17 s17 => ?_⟩
        have g17 := g16.trans s17
        refine ⟨_, rfl, _, rfl, D, acc, rfl, .inl ⟨SqL.of (g17 _ _ cD), fun t2 n2 => ?_⟩⟩
        have s18 := Same.new (o := (.tup acc)) n2
        have e18 : upd H17 t2 (.tup acc) t2 = some (.tup acc) := upd_same
        generalize upd H17 t2 (.tup acc) = H18 at s18 e18 ⊢
        have g18 := g17.trans s18
        refine ⟨sv, t2, acc, xs, parts, ks, ms, none, rfl, csh.same g18, so, .inr (SqT.of e18), ctr.same g18, la20, kp0, rko, gzo, (fun k e => by cases e), zG, fun H19 s19 => ?_⟩
        generalize (!decide (gpO none < gapT (ms.map (mnQ ks xs parts)) ms ms.length)) = bb at eb ⊢
        refine ⟨(by show 2 ≤ sizeLine; decide), fun t3 n3 => ?_⟩
        have s20 := Same.new (o := (.tup [V.bl bb, V.bl bb])) n3
        have e20 : upd H19 t3 (.tup [V.bl bb, V.bl bb]) t3 = some (.tup [V.bl bb, V.bl bb]) := upd_same
        generalize upd H19 t3 (.tup [V.bl bb, V.bl bb]) = H20 at s20 e20 ⊢
        have s1620 := ((s17.trans s18).trans s19).trans s20
        have g20 := g16.trans s1620
        have pn20 := pn16.same s1620
        have sh1 : (PyData.tuple [.bool bb, .bool bb]).showable = true := by cases bb <;> rfl
        have sh2 : (PyData.tuple [.bool bb, .bool bb]).depth ≤ 60 := by cases bb <;> decide
        have sh3 : (PyData.tuple [.bool bb, .bool bb]).shown.length ≤ sizeLine := by
          rw [sizeLine_eq]
          cases bb <;> decide +kernel
        refine ⟨_, rfl, _, _, rfl, .tup (SqT.of e20) (.cons (.bl _) (.cons (.bl _) .nil)), sh1, sh2, sh3, ?_⟩
        refine ⟨_, rfl, (by show 2 ≤ sizeLine; decide), fun a1 na1 => ?_⟩
        have s21 := Same.new (o := (.tup [V.int 0, V.int 1])) na1
        have e21 : upd H20 a1 (.tup [V.int 0, V.int 1]) a1 = some (.tup [V.int 0, V.int 1]) := upd_same
        generalize upd H20 a1 (.tup [V.int 0, V.int 1]) = H21 at s21 e21 ⊢
        have z1 : RV K H21 (.ref a1) 0 := ⟨a1, rfl, SqT.of e21⟩
        have g21 := g20.trans s21
        refine ⟨_, _, (cdu.same g21).dp, z1.dp, pdQ_shaped _, pdQ_shaped _, ?_⟩
        rw [eqv_pdQ, eb]
        refine ⟨_, rfl, (by show 2 ≤ sizeLine; decide), fun a2 na2 => ?_⟩
        have s22 := Same.new (o := (.tup [V.int 0, V.int 1])) na2
        have e22 : upd H21 a2 (.tup [V.int 0, V.int 1]) a2 = some (.tup [V.int 0, V.int 1]) := upd_same
        generalize upd H21 a2 (.tup [V.int 0, V.int 1]) = H22 at s22 e22 ⊢
        have z2 : RV K H22 (.ref a2) 0 := ⟨a2, rfl, SqT.of e22⟩
        have g22 := g21.trans s22
        refine ⟨_, _, (cdu.same g22).dp, z2.dp, pdQ_shaped _, pdQ_shaped _, ?_⟩
        rw [eqv_pdQ, eb]
        refine ⟨(by show 2 ≤ sizeLine; decide), fun t4 n4 => ?_⟩
        have s23 := Same.new (o := (.tup [V.bl bb, V.bl bb])) n4
        have e23 : upd H22 t4 (.tup [V.bl bb, V.bl bb]) t4 = some (.tup [V.bl bb, V.bl bb]) := upd_same
        generalize upd H22 t4 (.tup [V.bl bb, V.bl bb]) = H23 at s23 e23 ⊢
        refine ⟨_, _, rfl, .tup (SqT.of e23) (.cons (.bl _) (.cons (.bl _) .nil)), sh1, sh2, sh3, ?_⟩
        refine ⟨rfl, _, rfl, ?_⟩
        rw [decide_eq_true rfl]
        refine iteF ?_
        have s2023 := (s21.trans s22).trans s23
        have g23 := g20.trans s2023
        have pn23 := pn20.same s2023
        clear z1 z2 e21 e22 e23 s21 s22 s23 g21 g22 g20 pn20 g18 g17 e18 s17 s18 s19 s20 pn16 g16 e20
        refine ⟨_, rfl, p, c, _, 61, rfl, pn23, by omega, by decide, by decide, fun z H24 z0 z61 pn24 b24 => ?_⟩
        have g24 := subB g23 gp b24
        refine ⟨(by show 5 ≤ sizeLine; decide), fun ls nls => ?_⟩
        have s25 := Same.new (o := (.lst [V.int 0, V.int 3, V.int 20, V.int 60, V.int z])) nls
        have e25 : upd H24 ls (.lst [V.int 0, V.int 3, V.int 20, V.int 60, V.int z]) ls = some (.lst [V.int 0, V.int 3, V.int 20, V.int 60, V.int z]) := upd_same
        generalize upd H24 ls (.lst [V.int 0, V.int 3, V.int 20, V.int 60, V.int z]) = H25 at s25 e25 ⊢
        have g25 := g24.trans s25
        have pn25 := pn24.same s25
        refine ⟨ls, rfl, ⟨_, SqL.of e25⟩, for_list (K := K) (a := ls) (xs := [V.int 0, V.int 3, V.int 20, V.int 60, V.int z]) (fun j σ H' => ∃ a17 a18 : Option V, σ = [some (.ref sa), some (.ref p), some (.int (0 + i)), some lo, some hi', some (.ref st), some kv, some (.ref R), some (.ref M), v9, a10, v11, some du, some (.ref D), a14, some sv, some (.ref t3), a17, a18] ∧ Same H25 H') ⟨_, _, rfl, Same.refl _⟩ (fun j σ H' _ ⟨_, _, _, s⟩ => SqL.of (s _ _ e25)) ?_ ?_⟩
        · rintro j y σ H26 hy ⟨a17, a18, rfl, s26⟩
          obtain ⟨kk, rfl, k60⟩ : ∃ kk : Nat, y = .int (kk : Nat) ∧ kk ≤ 60 := by
            have mem := mem_of_at hy
            simp only [List.mem_cons, List.not_mem_nil, or_false] at mem
            rcases mem with rfl | rfl | rfl | rfl | rfl
            · exact ⟨0, rfl, by decide⟩
            · exact ⟨3, rfl, by decide⟩
            · exact ⟨20, rfl, by decide⟩
            · exact ⟨60, rfl, by decide⟩
            · exact ⟨z.toNat, by rw [Int.toNat_of_nonneg z0], by omega⟩
          have g26 := g25.trans s26
          refine ⟨_, rfl, _, rfl, _, rfl, sv, D, acc, xs, parts, ks, ms, some kk, rfl, csh.same g26, so, .inl (SqL.of (g26 _ _ cD)), ctr.same g26, la20, kp0, rko, gzo, (fun k e => by cases e; exact k60), zG, fun H27 s27 => ?_⟩
          have g27 := g26.trans s27
          refine ⟨_, rfl, _, _, _, _, _, rfl, .ty _, (ty_bl (K := K) (H := H27)).1, kit_ty (kb_bool "bool" (by decide)), _, rfl, ?_⟩
          refine iteF ⟨_, rfl, _, rfl, kk, rfl, rfl, by omega, (by show 2 ≤ sizeLine; decide), fun t5 n5 => ?_⟩
          have s28 := Same.new (o := (.tup [V.int 1, V.int (2 ^ kk)])) n5
          have e28 : upd H27 t5 (.tup [V.int 1, V.int (2 ^ kk)]) t5 = some (.tup [V.int 1, V.int (2 ^ kk)]) := upd_same
          generalize upd H27 t5 (.tup [V.int 1, V.int (2 ^ kk)]) = H28 at s28 e28 ⊢
          have g28 := g27.trans s28
          refine ⟨_, rfl, .ref t5, du, Kz.gp kk, _, _, _, _, _, rfl, gp_rv e28, cdu.same g28, gp_sz k60, zdue.sz, by decide, by decide, ?_⟩
          refine ⟨rfl, _, rfl, ?_⟩
          rw [show decide (V.bl (!decide (gpO (some kk) < gapT (ms.map (mnQ ks xs parts)) ms ms.length)) = V.bl (decide (Kz.gp kk < gapT (ms.map (mnQ ks xs parts)) ms ms.length))) = false from neg_ne]
          refine iteF ⟨_, rfl, _, rfl, _, rfl, rfl, rfl, sv, D, acc, xs, parts, ks, ms, some kk, rfl, csh.same g28, so, .inl (SqL.of (g28 _ _ cD)), ctr.same g28, la20, kp0, rko, gzo, (fun k e => by cases e; exact k60), zG, fun H29 s29 => ?_⟩
          refine ⟨_, rfl, rfl, _, rfl, ?_⟩
          rw [decide_eq_true rfl]
          exact iteF ⟨_, _, rfl, (s26.trans s27).trans (s28.trans s29)⟩
        · rintro σ H26 ⟨a17, a18, rfl, s26⟩
          exact ⟨_, _, _, _, _, _, _, _, _, _, _, _, _, _, _, _, _, rfl, (pn25.same s26).more (by omega)⟩
end
end Kz
set_option linter.all false
set_option maxRecDepth 100000
set_option maxHeartbeats 4000000
namespace Kz
open PySem PySem.Spec PyProof.Rows L2
theorem funS_mk {P : Program} {K : PySem.W.Frag} {qual : Str} {st : Stmt} {C f ca cc : Addr} {oc : Value} {od an : Option Addr} {osl : Array (Option Value)} {kV doc pm ct : Value} {cl : Value} {cld : Option Addr} {csl : Array (Option Value)} {ccl : Value} {cdd : Option Addr} {vs : Array Value} {ccs : Array (Option Value)} {file : Str} {tf : Tok}
    (l : K.lookup f = some ⟨oc, od, .func (PySem.W.fnX "__init__" qual (defArgs st) (defBody st) (defScope st) [("__class__", cc)] .none kV doc pm an (.ref ca) ct), osl⟩) (c : PySem.W.codeIn K (.ref ca) qual = true)
    (lc : K.lookup cc = some ⟨cl, cld, .cell (some (.ref C)), csl⟩) (la : K.lookup ca = some ⟨ccl, cdd, .fields vs, ccs⟩) (h2 : (vs[2]? : Option Value) = some (.str file tf)) (hf : ((P.main.file : Str) == file) = true)
    (zs : PySem.W.nsIn K mainGlobals "super" = some none) (tp : (P.main.scope.names.lookup ("super" : Str)).isSome = false) (op : PySem.W.nsIn K cStatics "thirdparty.any" = some none) (cls : ∃ cd, PySem.W.clsIn K C = some cd)
    (ow : PySem.W.mroIn K C (.ref C) = some true) (nx : PySem.W.ks_superIn K C C "__init__" = some (some (.builtin "ValueError.__init__"))) (iv : PySem.W.subIn K (.ref C) (.type "ValueError") = some true) :
    FunS K P qual st C f (PySem.W.fnX "__init__" qual (defArgs st) (defBody st) (defScope st) [("__class__", cc)] .none kV doc pm an (.ref ca) ct) :=
  ⟨⟨oc, od, kV, doc, pm, an, ca, cc, ct, osl, rfl, l, c, ⟨cl, cld, csl, lc⟩, ccl, cdd, vs, ccs, file, tf, la, h2, hf⟩, fun X G => PySem.W.mg_none_of X G zs, tp, op, cls, ow, nx, iv⟩
theorem ErrT_cls {K : PySem.W.Frag} {C : Addr} {l : List Value} (h : ∃ cd, PySem.W.clsIn K C = some cd ∧ cd.mro = l) : ∃ cd, PySem.W.clsIn K C = some cd := let ⟨cd, e, _⟩ := h; ⟨cd, e⟩
end Kz
set_option linter.all false
set_option maxRecDepth 100000
set_option maxHeartbeats 0
namespace Kz
open PySem PySem.Spec PyProof.Rows L2
theorem errT_mk {K : PySem.W.Frag} {h : Heap} {mg : Str → Option Value} {x : Str} {B C : Addr} {nm q : Str} {N : Addr} {bs : List Value} {sn : List Str} {sub : List Value} {ab : Bool} {col : Option Bool} {dd : Option Addr} {m0 m1 m2 m3 m5 : Option Value}
    (X : K.In h) (G : h.Ns mainGlobals mg) (aC : PySem.W.nsIn K mainGlobals x = some (some (.ref C)))
    (xL : K.lookup C = some (excClassObj nm q C N bs [.ref B, .type "ValueError", .type "Exception", .type "BaseException", .type "object"] true sn sub ab col dd m0 m1 m2 m3 m5 "ValueError.__new__"))
    (sa : PySem.W.findIn K (.ref C) "__setattr__" = some (some (.builtin "object.__setattr__"))) (ga : PySem.W.findIn K (.ref C) "__getattribute__" = some (some (.builtin "BaseException.__getattribute__"))) (gg : PySem.W.findIn K (.ref C) "__getattr__" = some none)
    (ex : PySem.W.subIn K (.ref C) (.type "BaseException") = some true) (ty : PySem.W.typeIn K (.ref C) = some (.type "type")) (kp : PySem.W.keepIn K (.ref C) = true) (hd : PySem.W.hasDictIn K C = true)
    (ha : PySem.W.findIn K (.ref C) "__class__" = some (some (.builtin "object.__class__"))) (hn : PySem.W.specialIn K (.builtin "object.__class__") "__get__" = some (some (.builtin "getset_descriptor.__get__")))
    (ht : PySem.W.takesIn K (.builtin "object.__class__") = some true) (hm : PySem.W.mroIn K C (.type "object") = some true) : ErrT K mg x B C where
  o := ⟨⟨nm, q, N, bs, _, sn, sub, ab, col, dd, m0, m1, m2, m3, m5, xL, by first | rfl | decide +kernel⟩, sa, ex, ty, kp⟩
  xf := ⟨ga, gg, ex, hd⟩
  ex := ⟨ga, gg, ex, hd, ha, hn, ht, hm⟩
  g := PySem.W.mg_of X G aC
  mro := by
    refine ⟨{ name := nm, bases := bs, mro := [.ref C, .ref B, .type "ValueError", .type "Exception", .type "BaseException", .type "object"], ns := N, qualname := q, hasDict := true, slotNames := sn, subclasses := sub, abstract := ab, collection := col, hasDel := false }, ?_, rfl⟩
    · unfold PySem.W.clsIn
      rw [xL]

set_option maxHeartbeats 0 in
theorem all_mk {P : Program} {w : World} {K : PySem.W.Frag} {h : Heap} {mg : Str → Option Value} {fa B CN fEN caEN ccEN CR fER caER ccER CU fEU caEU ccEU f8 f9 f10 f11 f12 f14 f15 f57 f58 f59 f60 f61 f62 f18 f28 f23 f68 f69 f70 f54 f55 f56 f63 f64 f66 f67 f71 f72 f73 f74 f76 f77 f19 f20 f35 f36 f37 f38 f39 f16 f21 f22 f24 f25 f43 f44 f45 f46 f47 f48 f49 f50 f51 f65 f75 f78 f79 f80 f81 f82 f83 cP fm0 fm10 cB fq0 fq2 fq5 fq6 cS fsq0 cT ftq0 f84 f52 aT52 : Addr}
    {nmN qN : Str} {NN : Addr} {bsN : List Value} {snN : List Str} {subN : List Value} {abN : Bool} {colN : Option Bool} {ddN : Option Addr} {m0N m1N m2N m3N m5N : Option Value}
    {odEN anEN : Option Addr} {slEN : Array (Option Value)} {ocEN kVEN dcEN pmEN ctEN : Value}
    {clEN cclEN : Value} {cldEN cddEN : Option Addr} {cslEN ccsEN : Array (Option Value)} {vsEN : Array Value} {fileEN : Str} {tfEN : Tok}
    {nmR qR : Str} {NR : Addr} {bsR : List Value} {snR : List Str} {subR : List Value} {abR : Bool} {colR : Option Bool} {ddR : Option Addr} {m0R m1R m2R m3R m5R : Option Value}
    {odER anER : Option Addr} {slER : Array (Option Value)} {ocER kVER dcER pmER ctER : Value}
    {clER cclER : Value} {cldER cddER : Option Addr} {cslER ccsER : Array (Option Value)} {vsER : Array Value} {fileER : Str} {tfER : Tok}
    {nmU qU : Str} {NU : Addr} {bsU : List Value} {snU : List Str} {subU : List Value} {abU : Bool} {colU : Option Bool} {ddU : Option Addr} {m0U m1U m2U m3U m5U : Option Value}
    {odEU anEU : Option Addr} {slEU : Array (Option Value)} {ocEU kVEU dcEU pmEU ctEU : Value}
    {clEU cclEU : Value} {cldEU cddEU : Option Addr} {cslEU ccsEU : Array (Option Value)} {vsEU : Array Value} {fileEU : Str} {tfEU : Tok}
    {od8 an8 : Option Addr} {sl8 : Array (Option Value)} {oc8 kV8 dc8 pm8 cd8 ct8 : Value}
    {od9 an9 : Option Addr} {sl9 : Array (Option Value)} {oc9 kV9 dc9 pm9 cd9 ct9 : Value}
    {od10 an10 : Option Addr} {sl10 : Array (Option Value)} {oc10 kV10 dc10 pm10 cd10 ct10 : Value}
    {od11 an11 : Option Addr} {sl11 : Array (Option Value)} {oc11 kV11 dc11 pm11 cd11 ct11 : Value}
    {od12 an12 : Option Addr} {sl12 : Array (Option Value)} {oc12 kV12 dc12 pm12 cd12 ct12 : Value}
    {od14 an14 : Option Addr} {sl14 : Array (Option Value)} {oc14 kV14 dc14 pm14 cd14 ct14 : Value}
    {od15 an15 : Option Addr} {sl15 : Array (Option Value)} {oc15 kV15 dc15 pm15 cd15 ct15 : Value}
    {od57 an57 : Option Addr} {sl57 : Array (Option Value)} {oc57 kV57 dc57 pm57 cd57 ct57 : Value}
    {od58 an58 : Option Addr} {sl58 : Array (Option Value)} {oc58 kV58 dc58 pm58 cd58 ct58 : Value}
    {od59 an59 : Option Addr} {sl59 : Array (Option Value)} {oc59 kV59 dc59 pm59 cd59 ct59 : Value}
    {od60 an60 : Option Addr} {sl60 : Array (Option Value)} {oc60 kV60 dc60 pm60 cd60 ct60 : Value}
    {od61 an61 : Option Addr} {sl61 : Array (Option Value)} {oc61 kV61 dc61 pm61 cd61 ct61 : Value}
    {od62 an62 : Option Addr} {sl62 : Array (Option Value)} {oc62 kV62 dc62 pm62 cd62 ct62 : Value}
    {od18 an18 : Option Addr} {sl18 : Array (Option Value)} {oc18 kV18 dc18 pm18 cd18 ct18 : Value}
    {od28 an28 : Option Addr} {sl28 : Array (Option Value)} {oc28 kV28 dc28 pm28 cd28 ct28 : Value}
    {od23 an23 : Option Addr} {sl23 : Array (Option Value)} {oc23 kV23 dc23 pm23 cd23 ct23 : Value}
    {od68 an68 : Option Addr} {sl68 : Array (Option Value)} {oc68 kV68 dc68 pm68 cd68 ct68 : Value}
    {od69 an69 : Option Addr} {sl69 : Array (Option Value)} {oc69 kV69 dc69 pm69 cd69 ct69 : Value}
    {od70 an70 : Option Addr} {sl70 : Array (Option Value)} {oc70 kV70 dc70 pm70 cd70 ct70 : Value}
    {od54 an54 : Option Addr} {sl54 : Array (Option Value)} {oc54 kV54 dc54 pm54 cd54 ct54 : Value}
    {od55 an55 : Option Addr} {sl55 : Array (Option Value)} {oc55 kV55 dc55 pm55 cd55 ct55 : Value}
    {od56 an56 : Option Addr} {sl56 : Array (Option Value)} {oc56 kV56 dc56 pm56 cd56 ct56 : Value}
    {od63 an63 : Option Addr} {sl63 : Array (Option Value)} {oc63 kV63 dc63 pm63 cd63 ct63 : Value}
    {od64 an64 : Option Addr} {sl64 : Array (Option Value)} {oc64 kV64 dc64 pm64 cd64 ct64 : Value}
    {od66 an66 : Option Addr} {sl66 : Array (Option Value)} {oc66 kV66 dc66 pm66 cd66 ct66 : Value}
    {od67 an67 : Option Addr} {sl67 : Array (Option Value)} {oc67 kV67 dc67 pm67 cd67 ct67 : Value}
    {od71 an71 : Option Addr} {sl71 : Array (Option Value)} {oc71 kV71 dc71 pm71 cd71 ct71 : Value}
    {od72 an72 : Option Addr} {sl72 : Array (Option Value)} {oc72 kV72 dc72 pm72 cd72 ct72 : Value}
    {od73 an73 : Option Addr} {sl73 : Array (Option Value)} {oc73 kV73 dc73 pm73 cd73 ct73 : Value}
    {od74 an74 : Option Addr} {sl74 : Array (Option Value)} {oc74 kV74 dc74 pm74 cd74 ct74 : Value}
    {od76 an76 : Option Addr} {sl76 : Array (Option Value)} {oc76 kV76 dc76 pm76 cd76 ct76 : Value}
    {od77 an77 : Option Addr} {sl77 : Array (Option Value)} {oc77 kV77 dc77 pm77 cd77 ct77 : Value}
    {od19 an19 : Option Addr} {sl19 : Array (Option Value)} {oc19 kV19 dc19 pm19 cd19 ct19 : Value}
    {od20 an20 : Option Addr} {sl20 : Array (Option Value)} {oc20 kV20 dc20 pm20 cd20 ct20 : Value}
    {od35 an35 : Option Addr} {sl35 : Array (Option Value)} {oc35 kV35 dc35 pm35 cd35 ct35 : Value}
    {od36 an36 : Option Addr} {sl36 : Array (Option Value)} {oc36 kV36 dc36 pm36 cd36 ct36 : Value}
    {od37 an37 : Option Addr} {sl37 : Array (Option Value)} {oc37 kV37 dc37 pm37 cd37 ct37 : Value}
    {od38 an38 : Option Addr} {sl38 : Array (Option Value)} {oc38 kV38 dc38 pm38 cd38 ct38 : Value}
    {od39 an39 : Option Addr} {sl39 : Array (Option Value)} {oc39 kV39 dc39 pm39 cd39 ct39 : Value}
    {od16 an16 : Option Addr} {sl16 : Array (Option Value)} {oc16 kV16 dc16 pm16 cd16 ct16 : Value}
    {od21 an21 : Option Addr} {sl21 : Array (Option Value)} {oc21 kV21 dc21 pm21 cd21 ct21 : Value}
    {od22 an22 : Option Addr} {sl22 : Array (Option Value)} {oc22 kV22 dc22 pm22 cd22 ct22 : Value}
    {od24 an24 : Option Addr} {sl24 : Array (Option Value)} {oc24 kV24 dc24 pm24 cd24 ct24 : Value}
    {od25 an25 : Option Addr} {sl25 : Array (Option Value)} {oc25 kV25 dc25 pm25 cd25 ct25 : Value}
    {od43 an43 : Option Addr} {sl43 : Array (Option Value)} {oc43 kV43 dc43 pm43 cd43 ct43 : Value}
    {od44 an44 : Option Addr} {sl44 : Array (Option Value)} {oc44 kV44 dc44 pm44 cd44 ct44 : Value}
    {od45 an45 : Option Addr} {sl45 : Array (Option Value)} {oc45 kV45 dc45 pm45 cd45 ct45 : Value}
    {od46 an46 : Option Addr} {sl46 : Array (Option Value)} {oc46 kV46 dc46 pm46 cd46 ct46 : Value}
    {od47 an47 : Option Addr} {sl47 : Array (Option Value)} {oc47 kV47 dc47 pm47 cd47 ct47 : Value}
    {od48 an48 : Option Addr} {sl48 : Array (Option Value)} {oc48 kV48 dc48 pm48 cd48 ct48 : Value}
    {od49 an49 : Option Addr} {sl49 : Array (Option Value)} {oc49 kV49 dc49 pm49 cd49 ct49 : Value}
    {od50 an50 : Option Addr} {sl50 : Array (Option Value)} {oc50 kV50 dc50 pm50 cd50 ct50 : Value}
    {od51 an51 : Option Addr} {sl51 : Array (Option Value)} {oc51 kV51 dc51 pm51 cd51 ct51 : Value}
    {od65 an65 : Option Addr} {sl65 : Array (Option Value)} {oc65 kV65 dc65 pm65 cd65 ct65 : Value}
    {od75 an75 : Option Addr} {sl75 : Array (Option Value)} {oc75 kV75 dc75 pm75 cd75 ct75 : Value}
    {od78 an78 : Option Addr} {sl78 : Array (Option Value)} {oc78 kV78 dc78 pm78 cd78 ct78 : Value}
    {od79 an79 : Option Addr} {sl79 : Array (Option Value)} {oc79 kV79 dc79 pm79 cd79 ct79 : Value}
    {od80 an80 : Option Addr} {sl80 : Array (Option Value)} {oc80 kV80 dc80 pm80 cd80 ct80 : Value}
    {od81 an81 : Option Addr} {sl81 : Array (Option Value)} {oc81 kV81 dc81 pm81 cd81 ct81 : Value}
    {od82 an82 : Option Addr} {sl82 : Array (Option Value)} {oc82 kV82 dc82 pm82 cd82 ct82 : Value}
    {od83 an83 : Option Addr} {sl83 : Array (Option Value)} {oc83 kV83 dc83 pm83 cd83 ct83 : Value}
    {odm0 anm0 : Option Addr} {slm0 : Array (Option Value)} {ocm0 kVm0 dcm0 pmm0 cdm0 ctm0 : Value}
    {odm10 anm10 : Option Addr} {slm10 : Array (Option Value)} {ocm10 kVm10 dcm10 pmm10 cdm10 ctm10 : Value}
    {odq0 anq0 : Option Addr} {slq0 : Array (Option Value)} {ocq0 kVq0 dcq0 pmq0 cdq0 ctq0 : Value}
    {odq2 anq2 : Option Addr} {slq2 : Array (Option Value)} {ocq2 kVq2 dcq2 pmq2 cdq2 ctq2 : Value}
    {odq5 anq5 : Option Addr} {slq5 : Array (Option Value)} {ocq5 kVq5 dcq5 pmq5 cdq5 ctq5 : Value}
    {odq6 anq6 : Option Addr} {slq6 : Array (Option Value)} {ocq6 kVq6 dcq6 pmq6 cdq6 ctq6 : Value}
    {odsq0 ansq0 : Option Addr} {slsq0 : Array (Option Value)} {ocsq0 kVsq0 dcsq0 pmsq0 cdsq0 ctsq0 : Value}
    {odtq0 antq0 : Option Addr} {sltq0 : Array (Option Value)} {octq0 kVtq0 dctq0 pmtq0 cdtq0 cttq0 : Value}
    {od84 an84 : Option Addr} {sl84 : Array (Option Value)} {oc84 kV84 dc84 pm84 cd84 ct84 : Value}
    {od52 an52 odT52 : Option Addr} {sl52 slT52 : Array (Option Value)} {oc52 kV52 dc52 pm52 cd52 ct52 ocT52 : Value} {nT52 : Nat}
    (X : K.In h) (G : h.Ns mainGlobals mg) (hfa : mg "law" = some (.ref fa))
    (qaB : PySem.W.nsIn K mainGlobals "MeanError" = some (some (.ref B)))
    (qrB : PySem.W.readsIn K B (.type "type") = true)
    (qsB : PySem.W.specialIn K (.ref B) "__getattribute__" = some (some (.builtin "type.__getattribute__")))
    (qfB : PySem.W.findCls K (.ref B) (.type "type") "__init__" = some (.val (.builtin "ValueError.__init__")))
    (qcB : PySem.W.isClsIn K B = true)
    (qtB : PySem.W.typeIn K (.ref B) = some (.type "type"))
    (hn : PySem.W.specialIn K (.builtin "object.__class__") "__get__" = some (some (.builtin "getset_descriptor.__get__")))
    (ht : PySem.W.takesIn K (.builtin "object.__class__") = some true)
    (aCN : PySem.W.nsIn K mainGlobals "BadNumber" = some (some (.ref CN)))
    (xLN : K.lookup CN = some (excClassObj nmN qN CN NN bsN [.ref B, .type "ValueError", .type "Exception", .type "BaseException", .type "object"] true snN subN abN colN ddN m0N m1N m2N m3N m5N "ValueError.__new__"))
    (saN : PySem.W.findIn K (.ref CN) "__setattr__" = some (some (.builtin "object.__setattr__")))
    (gaN : PySem.W.findIn K (.ref CN) "__getattribute__" = some (some (.builtin "BaseException.__getattribute__")))
    (ggN : PySem.W.findIn K (.ref CN) "__getattr__" = some none)
    (exN : PySem.W.subIn K (.ref CN) (.type "BaseException") = some true)
    (tyN : PySem.W.typeIn K (.ref CN) = some (.type "type"))
    (kpN : PySem.W.keepIn K (.ref CN) = true)
    (hdN : PySem.W.hasDictIn K CN = true)
    (haN : PySem.W.findIn K (.ref CN) "__class__" = some (some (.builtin "object.__class__")))
    (hmN : PySem.W.mroIn K CN (.type "object") = some true)
    (nN1 : PySem.W.findIn K (.ref CN) "what" = some none)
    (nN2 : PySem.W.findIn K (.ref CN) "number" = some none)
    (iN : PySem.W.findIn K (.ref CN) "__init__" = some (some (.ref fEN)))
    (tN : PySem.W.typeIn K (.ref fEN) = some (.type "function"))
    (lEN : K.lookup fEN = some ⟨ocEN, odEN, .func (PySem.W.fnX "__init__" "BadNumber.__init__" (defArgs sI3) (defBody sI3) (defScope sI3) [("__class__", ccEN)] .none kVEN dcEN pmEN anEN (.ref caEN) ctEN), slEN⟩)
    (cEN : PySem.W.codeIn K (.ref caEN) "BadNumber.__init__" = true)
    (lcEN : K.lookup ccEN = some ⟨clEN, cldEN, .cell (some (.ref CN)), cslEN⟩)
    (laEN : K.lookup caEN = some ⟨cclEN, cddEN, .fields vsEN, ccsEN⟩)
    (h2EN : (vsEN[2]? : Option Value) = some (.str fileEN tfEN))
    (hfEN : ((P.main.file : Str) == fileEN) = true)
    (owEN : PySem.W.mroIn K CN (.ref CN) = some true)
    (nxEN : PySem.W.ks_superIn K CN CN "__init__" = some (some (.builtin "ValueError.__init__")))
    (ivEN : PySem.W.subIn K (.ref CN) (.type "ValueError") = some true)
    (aCR : PySem.W.nsIn K mainGlobals "BadRow" = some (some (.ref CR)))
    (xLR : K.lookup CR = some (excClassObj nmR qR CR NR bsR [.ref B, .type "ValueError", .type "Exception", .type "BaseException", .type "object"] true snR subR abR colR ddR m0R m1R m2R m3R m5R "ValueError.__new__"))
    (saR : PySem.W.findIn K (.ref CR) "__setattr__" = some (some (.builtin "object.__setattr__")))
    (gaR : PySem.W.findIn K (.ref CR) "__getattribute__" = some (some (.builtin "BaseException.__getattribute__")))
    (ggR : PySem.W.findIn K (.ref CR) "__getattr__" = some none)
    (exR : PySem.W.subIn K (.ref CR) (.type "BaseException") = some true)
    (tyR : PySem.W.typeIn K (.ref CR) = some (.type "type"))
    (kpR : PySem.W.keepIn K (.ref CR) = true)
    (hdR : PySem.W.hasDictIn K CR = true)
    (haR : PySem.W.findIn K (.ref CR) "__class__" = some (some (.builtin "object.__class__")))
    (hmR : PySem.W.mroIn K CR (.type "object") = some true)
    (nR1 : PySem.W.findIn K (.ref CR) "row" = some none)
    (iR : PySem.W.findIn K (.ref CR) "__init__" = some (some (.ref fER)))
    (tR : PySem.W.typeIn K (.ref fER) = some (.type "function"))
    (lER : K.lookup fER = some ⟨ocER, odER, .func (PySem.W.fnX "__init__" "BadRow.__init__" (defArgs sI4) (defBody sI4) (defScope sI4) [("__class__", ccER)] .none kVER dcER pmER anER (.ref caER) ctER), slER⟩)
    (cER : PySem.W.codeIn K (.ref caER) "BadRow.__init__" = true)
    (lcER : K.lookup ccER = some ⟨clER, cldER, .cell (some (.ref CR)), cslER⟩)
    (laER : K.lookup caER = some ⟨cclER, cddER, .fields vsER, ccsER⟩)
    (h2ER : (vsER[2]? : Option Value) = some (.str fileER tfER))
    (hfER : ((P.main.file : Str) == fileER) = true)
    (owER : PySem.W.mroIn K CR (.ref CR) = some true)
    (nxER : PySem.W.ks_superIn K CR CR "__init__" = some (some (.builtin "ValueError.__init__")))
    (ivER : PySem.W.subIn K (.ref CR) (.type "ValueError") = some true)
    (aCU : PySem.W.nsIn K mainGlobals "Unlike" = some (some (.ref CU)))
    (xLU : K.lookup CU = some (excClassObj nmU qU CU NU bsU [.ref B, .type "ValueError", .type "Exception", .type "BaseException", .type "object"] true snU subU abU colU ddU m0U m1U m2U m3U m5U "ValueError.__new__"))
    (saU : PySem.W.findIn K (.ref CU) "__setattr__" = some (some (.builtin "object.__setattr__")))
    (gaU : PySem.W.findIn K (.ref CU) "__getattribute__" = some (some (.builtin "BaseException.__getattribute__")))
    (ggU : PySem.W.findIn K (.ref CU) "__getattr__" = some none)
    (exU : PySem.W.subIn K (.ref CU) (.type "BaseException") = some true)
    (tyU : PySem.W.typeIn K (.ref CU) = some (.type "type"))
    (kpU : PySem.W.keepIn K (.ref CU) = true)
    (hdU : PySem.W.hasDictIn K CU = true)
    (haU : PySem.W.findIn K (.ref CU) "__class__" = some (some (.builtin "object.__class__")))
    (hmU : PySem.W.mroIn K CU (.type "object") = some true)
    (nU1 : PySem.W.findIn K (.ref CU) "what" = some none)
    (iU : PySem.W.findIn K (.ref CU) "__init__" = some (some (.ref fEU)))
    (tU : PySem.W.typeIn K (.ref fEU) = some (.type "function"))
    (lEU : K.lookup fEU = some ⟨ocEU, odEU, .func (PySem.W.fnX "__init__" "Unlike.__init__" (defArgs sI6) (defBody sI6) (defScope sI6) [("__class__", ccEU)] .none kVEU dcEU pmEU anEU (.ref caEU) ctEU), slEU⟩)
    (cEU : PySem.W.codeIn K (.ref caEU) "Unlike.__init__" = true)
    (lcEU : K.lookup ccEU = some ⟨clEU, cldEU, .cell (some (.ref CU)), cslEU⟩)
    (laEU : K.lookup caEU = some ⟨cclEU, cddEU, .fields vsEU, ccsEU⟩)
    (h2EU : (vsEU[2]? : Option Value) = some (.str fileEU tfEU))
    (hfEU : ((P.main.file : Str) == fileEU) = true)
    (owEU : PySem.W.mroIn K CU (.ref CU) = some true)
    (nxEU : PySem.W.ks_superIn K CU CU "__init__" = some (some (.builtin "ValueError.__init__")))
    (ivEU : PySem.W.subIn K (.ref CU) (.type "ValueError") = some true)
    (zs : PySem.W.nsIn K mainGlobals "super" = some none)
    (tp : (P.main.scope.names.lookup ("super" : Str)).isSome = false)
    (op : PySem.W.nsIn K cStatics "thirdparty.any" = some none)
    (z_len : PySem.W.nsIn K mainGlobals "len" = some none)
    (z_int : PySem.W.nsIn K mainGlobals "int" = some none)
    (z_list : PySem.W.nsIn K mainGlobals "list" = some none)
    (z_range : PySem.W.nsIn K mainGlobals "range" = some none)
    (z_mIsi : PySem.W.nsIn K mainGlobals "isinstance" = some none)
    (z_mBool : PySem.W.nsIn K mainGlobals "bool" = some none)
    (z_mTuple : PySem.W.nsIn K mainGlobals "tuple" = some none)
    (z_mMax : PySem.W.nsIn K mainGlobals "max" = some none)
    (z_mAll : PySem.W.nsIn K mainGlobals "all" = some none)
    (z_mEnum : PySem.W.nsIn K mainGlobals "enumerate" = some none)
    (z_mRev : PySem.W.nsIn K mainGlobals "reversed" = some none)
    (z_mZip : PySem.W.nsIn K mainGlobals "zip" = some none)
    (z_mAbs : PySem.W.nsIn K mainGlobals "abs" = some none)
    (z_mStr : PySem.W.nsIn K mainGlobals "str" = some none)
    (z_mRepr : PySem.W.nsIn K mainGlobals "repr" = some none)
    (z_mDm : PySem.W.nsIn K mainGlobals "divmod" = some none)
    (z_mNi : PySem.W.nsIn K mainGlobals "NotImplemented" = some none)
    (z_mAny : PySem.W.nsIn K mainGlobals "any" = some none)
    (z_mSum : PySem.W.nsIn K mainGlobals "sum" = some none)
    (z_gcd : PySem.W.nsIn K mainGlobals "gcd" = some (some (.builtin "math.gcd")))
    (z_lcm : PySem.W.nsIn K mainGlobals "lcm" = some (some (.builtin "math.lcm")))
    (g8 : PySem.W.nsIn K mainGlobals "is_whole" = some (some (.ref f8)))
    (l8 : K.lookup f8 = some ⟨oc8, od8, .func (PySem.W.fnOf "is_whole" "is_whole" (defArgs (top 8)) (defBody (top 8)) (defScope (top 8)) .none kV8 dc8 pm8 an8 cd8 ct8), sl8⟩)
    (c8 : PySem.W.codeIn K cd8 "is_whole" = true)
    (k8 : PySem.W.keepIn K (.ref f8) = true)
    (g9 : PySem.W.nsIn K mainGlobals "is_pair" = some (some (.ref f9)))
    (l9 : K.lookup f9 = some ⟨oc9, od9, .func (PySem.W.fnOf "is_pair" "is_pair" (defArgs (top 9)) (defBody (top 9)) (defScope (top 9)) .none kV9 dc9 pm9 an9 cd9 ct9), sl9⟩)
    (c9 : PySem.W.codeIn K cd9 "is_pair" = true)
    (k9 : PySem.W.keepIn K (.ref f9) = true)
    (g10 : PySem.W.nsIn K mainGlobals "is_ratio" = some (some (.ref f10)))
    (l10 : K.lookup f10 = some ⟨oc10, od10, .func (PySem.W.fnOf "is_ratio" "is_ratio" (defArgs (top 10)) (defBody (top 10)) (defScope (top 10)) .none kV10 dc10 pm10 an10 cd10 ct10), sl10⟩)
    (c10 : PySem.W.codeIn K cd10 "is_ratio" = true)
    (k10 : PySem.W.keepIn K (.ref f10) = true)
    (g11 : PySem.W.nsIn K mainGlobals "lowest" = some (some (.ref f11)))
    (l11 : K.lookup f11 = some ⟨oc11, od11, .func (PySem.W.fnOf "lowest" "lowest" (defArgs (top 11)) (defBody (top 11)) (defScope (top 11)) .none kV11 dc11 pm11 an11 cd11 ct11), sl11⟩)
    (c11 : PySem.W.codeIn K cd11 "lowest" = true)
    (k11 : PySem.W.keepIn K (.ref f11) = true)
    (g12 : PySem.W.nsIn K mainGlobals "told" = some (some (.ref f12)))
    (l12 : K.lookup f12 = some ⟨oc12, od12, .func (PySem.W.fnOf "told" "told" (defArgs (top 12)) (defBody (top 12)) (defScope (top 12)) .none kV12 dc12 pm12 an12 cd12 ct12), sl12⟩)
    (c12 : PySem.W.codeIn K cd12 "told" = true)
    (k12 : PySem.W.keepIn K (.ref f12) = true)
    (g14 : PySem.W.nsIn K mainGlobals "minus" = some (some (.ref f14)))
    (l14 : K.lookup f14 = some ⟨oc14, od14, .func (PySem.W.fnOf "minus" "minus" (defArgs (top 14)) (defBody (top 14)) (defScope (top 14)) .none kV14 dc14 pm14 an14 cd14 ct14), sl14⟩)
    (c14 : PySem.W.codeIn K cd14 "minus" = true)
    (k14 : PySem.W.keepIn K (.ref f14) = true)
    (g15 : PySem.W.nsIn K mainGlobals "lower" = some (some (.ref f15)))
    (l15 : K.lookup f15 = some ⟨oc15, od15, .func (PySem.W.fnOf "lower" "lower" (defArgs (top 15)) (defBody (top 15)) (defScope (top 15)) .none kV15 dc15 pm15 an15 cd15 ct15), sl15⟩)
    (c15 : PySem.W.codeIn K cd15 "lower" = true)
    (k15 : PySem.W.keepIn K (.ref f15) = true)
    (g57 : PySem.W.nsIn K mainGlobals "_law_gcd" = some (some (.ref f57)))
    (l57 : K.lookup f57 = some ⟨oc57, od57, .func (PySem.W.fnOf "_law_gcd" "_law_gcd" (defArgs (top 57)) (defBody (top 57)) (defScope (top 57)) .none kV57 dc57 pm57 an57 cd57 ct57), sl57⟩)
    (c57 : PySem.W.codeIn K cd57 "_law_gcd" = true)
    (k57 : PySem.W.keepIn K (.ref f57) = true)
    (g58 : PySem.W.nsIn K mainGlobals "_law_q" = some (some (.ref f58)))
    (l58 : K.lookup f58 = some ⟨oc58, od58, .func (PySem.W.fnOf "_law_q" "_law_q" (defArgs (top 58)) (defBody (top 58)) (defScope (top 58)) .none kV58 dc58 pm58 an58 cd58 ct58), sl58⟩)
    (c58 : PySem.W.codeIn K cd58 "_law_q" = true)
    (k58 : PySem.W.keepIn K (.ref f58) = true)
    (g59 : PySem.W.nsIn K mainGlobals "_law_plus" = some (some (.ref f59)))
    (l59 : K.lookup f59 = some ⟨oc59, od59, .func (PySem.W.fnOf "_law_plus" "_law_plus" (defArgs (top 59)) (defBody (top 59)) (defScope (top 59)) .none kV59 dc59 pm59 an59 cd59 ct59), sl59⟩)
    (c59 : PySem.W.codeIn K cd59 "_law_plus" = true)
    (k59 : PySem.W.keepIn K (.ref f59) = true)
    (g60 : PySem.W.nsIn K mainGlobals "_law_minus" = some (some (.ref f60)))
    (l60 : K.lookup f60 = some ⟨oc60, od60, .func (PySem.W.fnOf "_law_minus" "_law_minus" (defArgs (top 60)) (defBody (top 60)) (defScope (top 60)) .none kV60 dc60 pm60 an60 cd60 ct60), sl60⟩)
    (c60 : PySem.W.codeIn K cd60 "_law_minus" = true)
    (k60 : PySem.W.keepIn K (.ref f60) = true)
    (g61 : PySem.W.nsIn K mainGlobals "_law_times" = some (some (.ref f61)))
    (l61 : K.lookup f61 = some ⟨oc61, od61, .func (PySem.W.fnOf "_law_times" "_law_times" (defArgs (top 61)) (defBody (top 61)) (defScope (top 61)) .none kV61 dc61 pm61 an61 cd61 ct61), sl61⟩)
    (c61 : PySem.W.codeIn K cd61 "_law_times" = true)
    (k61 : PySem.W.keepIn K (.ref f61) = true)
    (g62 : PySem.W.nsIn K mainGlobals "_law_less" = some (some (.ref f62)))
    (l62 : K.lookup f62 = some ⟨oc62, od62, .func (PySem.W.fnOf "_law_less" "_law_less" (defArgs (top 62)) (defBody (top 62)) (defScope (top 62)) .none kV62 dc62 pm62 an62 cd62 ct62), sl62⟩)
    (c62 : PySem.W.codeIn K cd62 "_law_less" = true)
    (k62 : PySem.W.keepIn K (.ref f62) = true)
    (g18 : PySem.W.nsIn K mainGlobals "is_row" = some (some (.ref f18)))
    (l18 : K.lookup f18 = some ⟨oc18, od18, .func (PySem.W.fnOf "is_row" "is_row" (defArgs (top 18)) (defBody (top 18)) (defScope (top 18)) .none kV18 dc18 pm18 an18 cd18 ct18), sl18⟩)
    (c18 : PySem.W.codeIn K cd18 "is_row" = true)
    (k18 : PySem.W.keepIn K (.ref f18) = true)
    (g28 : PySem.W.nsIn K mainGlobals "many_needed" = some (some (.ref f28)))
    (l28 : K.lookup f28 = some ⟨oc28, od28, .func (PySem.W.fnOf "many_needed" "many_needed" (defArgs (top 28)) (defBody (top 28)) (defScope (top 28)) .none kV28 dc28 pm28 an28 cd28 ct28), sl28⟩)
    (c28 : PySem.W.codeIn K cd28 "many_needed" = true)
    (k28 : PySem.W.keepIn K (.ref f28) = true)
    (g23 : PySem.W.nsIn K mainGlobals "over_one_bottom" = some (some (.ref f23)))
    (l23 : K.lookup f23 = some ⟨oc23, od23, .func (PySem.W.fnOf "over_one_bottom" "over_one_bottom" (defArgs (top 23)) (defBody (top 23)) (defScope (top 23)) .none kV23 dc23 pm23 an23 cd23 ct23), sl23⟩)
    (c23 : PySem.W.codeIn K cd23 "over_one_bottom" = true)
    (k23 : PySem.W.keepIn K (.ref f23) = true)
    (g68 : PySem.W.nsIn K mainGlobals "_law_poly" = some (some (.ref f68)))
    (l68 : K.lookup f68 = some ⟨oc68, od68, .func (PySem.W.fnOf "_law_poly" "_law_poly" (defArgs (top 68)) (defBody (top 68)) (defScope (top 68)) .none kV68 dc68 pm68 an68 cd68 ct68), sl68⟩)
    (c68 : PySem.W.codeIn K cd68 "_law_poly" = true)
    (k68 : PySem.W.keepIn K (.ref f68) = true)
    (g69 : PySem.W.nsIn K mainGlobals "_law_p_plus" = some (some (.ref f69)))
    (l69 : K.lookup f69 = some ⟨oc69, od69, .func (PySem.W.fnOf "_law_p_plus" "_law_p_plus" (defArgs (top 69)) (defBody (top 69)) (defScope (top 69)) .none kV69 dc69 pm69 an69 cd69 ct69), sl69⟩)
    (c69 : PySem.W.codeIn K cd69 "_law_p_plus" = true)
    (k69 : PySem.W.keepIn K (.ref f69) = true)
    (g70 : PySem.W.nsIn K mainGlobals "_law_p_at" = some (some (.ref f70)))
    (l70 : K.lookup f70 = some ⟨oc70, od70, .func (PySem.W.fnOf "_law_p_at" "_law_p_at" (defArgs (top 70)) (defBody (top 70)) (defScope (top 70)) .none kV70 dc70 pm70 an70 cd70 ct70), sl70⟩)
    (c70 : PySem.W.codeIn K cd70 "_law_p_at" = true)
    (k70 : PySem.W.keepIn K (.ref f70) = true)
    (g54 : PySem.W.nsIn K mainGlobals "_law_pen" = some (some (.ref f54)))
    (l54 : K.lookup f54 = some ⟨oc54, od54, .func (PySem.W.fnOf "_law_pen" "_law_pen" (defArgs (top 54)) (defBody (top 54)) (defScope (top 54)) .none kV54 dc54 pm54 an54 cd54 ct54), sl54⟩)
    (c54 : PySem.W.codeIn K cd54 "_law_pen" = true)
    (k54 : PySem.W.keepIn K (.ref f54) = true)
    (g55 : PySem.W.nsIn K mainGlobals "_law_draw" = some (some (.ref f55)))
    (l55 : K.lookup f55 = some ⟨oc55, od55, .func (PySem.W.fnOf "_law_draw" "_law_draw" (defArgs (top 55)) (defBody (top 55)) (defScope (top 55)) .none kV55 dc55 pm55 an55 cd55 ct55), sl55⟩)
    (c55 : PySem.W.codeIn K cd55 "_law_draw" = true)
    (k55 : PySem.W.keepIn K (.ref f55) = true)
    (g56 : PySem.W.nsIn K mainGlobals "_law_pick" = some (some (.ref f56)))
    (l56 : K.lookup f56 = some ⟨oc56, od56, .func (PySem.W.fnOf "_law_pick" "_law_pick" (defArgs (top 56)) (defBody (top 56)) (defScope (top 56)) .none kV56 dc56 pm56 an56 cd56 ct56), sl56⟩)
    (c56 : PySem.W.codeIn K cd56 "_law_pick" = true)
    (k56 : PySem.W.keepIn K (.ref f56) = true)
    (g63 : PySem.W.nsIn K mainGlobals "_law_passed" = some (some (.ref f63)))
    (l63 : K.lookup f63 = some ⟨oc63, od63, .func (PySem.W.fnOf "_law_passed" "_law_passed" (defArgs (top 63)) (defBody (top 63)) (defScope (top 63)) .none kV63 dc63 pm63 an63 cd63 ct63), sl63⟩)
    (c63 : PySem.W.codeIn K cd63 "_law_passed" = true)
    (k63 : PySem.W.keepIn K (.ref f63) = true)
    (g64 : PySem.W.nsIn K mainGlobals "_law_ratio" = some (some (.ref f64)))
    (l64 : K.lookup f64 = some ⟨oc64, od64, .func (PySem.W.fnOf "_law_ratio" "_law_ratio" (defArgs (top 64)) (defBody (top 64)) (defScope (top 64)) .none kV64 dc64 pm64 an64 cd64 ct64), sl64⟩)
    (c64 : PySem.W.codeIn K cd64 "_law_ratio" = true)
    (k64 : PySem.W.keepIn K (.ref f64) = true)
    (g66 : PySem.W.nsIn K mainGlobals "_law_lower_one" = some (some (.ref f66)))
    (l66 : K.lookup f66 = some ⟨oc66, od66, .func (PySem.W.fnOf "_law_lower_one" "_law_lower_one" (defArgs (top 66)) (defBody (top 66)) (defScope (top 66)) .none kV66 dc66 pm66 an66 cd66 ct66), sl66⟩)
    (c66 : PySem.W.codeIn K cd66 "_law_lower_one" = true)
    (k66 : PySem.W.keepIn K (.ref f66) = true)
    (g67 : PySem.W.nsIn K mainGlobals "_law_sorted" = some (some (.ref f67)))
    (l67 : K.lookup f67 = some ⟨oc67, od67, .func (PySem.W.fnOf "_law_sorted" "_law_sorted" (defArgs (top 67)) (defBody (top 67)) (defScope (top 67)) .none kV67 dc67 pm67 an67 cd67 ct67), sl67⟩)
    (c67 : PySem.W.codeIn K cd67 "_law_sorted" = true)
    (k67 : PySem.W.keepIn K (.ref f67) = true)
    (g71 : PySem.W.nsIn K mainGlobals "_law_f_piece" = some (some (.ref f71)))
    (l71 : K.lookup f71 = some ⟨oc71, od71, .func (PySem.W.fnOf "_law_f_piece" "_law_f_piece" (defArgs (top 71)) (defBody (top 71)) (defScope (top 71)) .none kV71 dc71 pm71 an71 cd71 ct71), sl71⟩)
    (c71 : PySem.W.codeIn K cd71 "_law_f_piece" = true)
    (k71 : PySem.W.keepIn K (.ref f71) = true)
    (g72 : PySem.W.nsIn K mainGlobals "_law_f_at" = some (some (.ref f72)))
    (l72 : K.lookup f72 = some ⟨oc72, od72, .func (PySem.W.fnOf "_law_f_at" "_law_f_at" (defArgs (top 72)) (defBody (top 72)) (defScope (top 72)) .none kV72 dc72 pm72 an72 cd72 ct72), sl72⟩)
    (c72 : PySem.W.codeIn K cd72 "_law_f_at" = true)
    (k72 : PySem.W.keepIn K (.ref f72) = true)
    (g73 : PySem.W.nsIn K mainGlobals "_law_f_limits" = some (some (.ref f73)))
    (l73 : K.lookup f73 = some ⟨oc73, od73, .func (PySem.W.fnOf "_law_f_limits" "_law_f_limits" (defArgs (top 73)) (defBody (top 73)) (defScope (top 73)) .none kV73 dc73 pm73 an73 cd73 ct73), sl73⟩)
    (c73 : PySem.W.codeIn K cd73 "_law_f_limits" = true)
    (k73 : PySem.W.keepIn K (.ref f73) = true)
    (g74 : PySem.W.nsIn K mainGlobals "_law_made_function" = some (some (.ref f74)))
    (l74 : K.lookup f74 = some ⟨oc74, od74, .func (PySem.W.fnOf "_law_made_function" "_law_made_function" (defArgs (top 74)) (defBody (top 74)) (defScope (top 74)) .none kV74 dc74 pm74 an74 cd74 ct74), sl74⟩)
    (c74 : PySem.W.codeIn K cd74 "_law_made_function" = true)
    (k74 : PySem.W.keepIn K (.ref f74) = true)
    (g76 : PySem.W.nsIn K mainGlobals "_law_drawn_knots" = some (some (.ref f76)))
    (l76 : K.lookup f76 = some ⟨oc76, od76, .func (PySem.W.fnOf "_law_drawn_knots" "_law_drawn_knots" (defArgs (top 76)) (defBody (top 76)) (defScope (top 76)) .none kV76 dc76 pm76 an76 cd76 ct76), sl76⟩)
    (c76 : PySem.W.codeIn K cd76 "_law_drawn_knots" = true)
    (k76 : PySem.W.keepIn K (.ref f76) = true)
    (g77 : PySem.W.nsIn K mainGlobals "_law_drawn_function" = some (some (.ref f77)))
    (l77 : K.lookup f77 = some ⟨oc77, od77, .func (PySem.W.fnOf "_law_drawn_function" "_law_drawn_function" (defArgs (top 77)) (defBody (top 77)) (defScope (top 77)) .none kV77 dc77 pm77 an77 cd77 ct77), sl77⟩)
    (c77 : PySem.W.codeIn K cd77 "_law_drawn_function" = true)
    (k77 : PySem.W.keepIn K (.ref f77) = true)
    (g19 : PySem.W.nsIn K mainGlobals "ascends" = some (some (.ref f19)))
    (l19 : K.lookup f19 = some ⟨oc19, od19, .func (PySem.W.fnOf "ascends" "ascends" (defArgs (top 19)) (defBody (top 19)) (defScope (top 19)) .none kV19 dc19 pm19 an19 cd19 ct19), sl19⟩)
    (c19 : PySem.W.codeIn K cd19 "ascends" = true)
    (k19 : PySem.W.keepIn K (.ref f19) = true)
    (g20 : PySem.W.nsIn K mainGlobals "told_row" = some (some (.ref f20)))
    (l20 : K.lookup f20 = some ⟨oc20, od20, .func (PySem.W.fnOf "told_row" "told_row" (defArgs (top 20)) (defBody (top 20)) (defScope (top 20)) .none kV20 dc20 pm20 an20 cd20 ct20), sl20⟩)
    (c20 : PySem.W.codeIn K cd20 "told_row" = true)
    (k20 : PySem.W.keepIn K (.ref f20) = true)
    (g35 : PySem.W.nsIn K mainGlobals "is_row_of_polys" = some (some (.ref f35)))
    (l35 : K.lookup f35 = some ⟨oc35, od35, .func (PySem.W.fnOf "is_row_of_polys" "is_row_of_polys" (defArgs (top 35)) (defBody (top 35)) (defScope (top 35)) .none kV35 dc35 pm35 an35 cd35 ct35), sl35⟩)
    (c35 : PySem.W.codeIn K cd35 "is_row_of_polys" = true)
    (k35 : PySem.W.keepIn K (.ref f35) = true)
    (g36 : PySem.W.nsIn K mainGlobals "place_in" = some (some (.ref f36)))
    (l36 : K.lookup f36 = some ⟨oc36, od36, .func (PySem.W.fnOf "place_in" "place_in" (defArgs (top 36)) (defBody (top 36)) (defScope (top 36)) .none kV36 dc36 pm36 an36 cd36 ct36), sl36⟩)
    (c36 : PySem.W.codeIn K cd36 "place_in" = true)
    (k36 : PySem.W.keepIn K (.ref f36) = true)
    (g37 : PySem.W.nsIn K mainGlobals "piece_from" = some (some (.ref f37)))
    (l37 : K.lookup f37 = some ⟨oc37, od37, .func (PySem.W.fnOf "piece_from" "piece_from" (defArgs (top 37)) (defBody (top 37)) (defScope (top 37)) .none kV37 dc37 pm37 an37 cd37 ct37), sl37⟩)
    (c37 : PySem.W.codeIn K cd37 "piece_from" = true)
    (k37 : PySem.W.keepIn K (.ref f37) = true)
    (g38 : PySem.W.nsIn K mainGlobals "knot_limits" = some (some (.ref f38)))
    (l38 : K.lookup f38 = some ⟨oc38, od38, .func (PySem.W.fnOf "knot_limits" "knot_limits" (defArgs (top 38)) (defBody (top 38)) (defScope (top 38)) .none kV38 dc38 pm38 an38 cd38 ct38), sl38⟩)
    (c38 : PySem.W.codeIn K cd38 "knot_limits" = true)
    (k38 : PySem.W.keepIn K (.ref f38) = true)
    (g39 : PySem.W.nsIn K mainGlobals "numbers_and_limits" = some (some (.ref f39)))
    (l39 : K.lookup f39 = some ⟨oc39, od39, .func (PySem.W.fnOf "numbers_and_limits" "numbers_and_limits" (defArgs (top 39)) (defBody (top 39)) (defScope (top 39)) .none kV39 dc39 pm39 an39 cd39 ct39), sl39⟩)
    (c39 : PySem.W.codeIn K cd39 "numbers_and_limits" = true)
    (k39 : PySem.W.keepIn K (.ref f39) = true)
    (g16 : PySem.W.nsIn K mainGlobals "gap_of" = some (some (.ref f16)))
    (l16 : K.lookup f16 = some ⟨oc16, od16, .func (PySem.W.fnOf "gap_of" "gap_of" (defArgs (top 16)) (defBody (top 16)) (defScope (top 16)) .none kV16 dc16 pm16 an16 cd16 ct16), sl16⟩)
    (c16 : PySem.W.codeIn K cd16 "gap_of" = true)
    (k16 : PySem.W.keepIn K (.ref f16) = true)
    (g21 : PySem.W.nsIn K mainGlobals "sum_of" = some (some (.ref f21)))
    (l21 : K.lookup f21 = some ⟨oc21, od21, .func (PySem.W.fnOf "sum_of" "sum_of" (defArgs (top 21)) (defBody (top 21)) (defScope (top 21)) .none kV21 dc21 pm21 an21 cd21 ct21), sl21⟩)
    (c21 : PySem.W.codeIn K cd21 "sum_of" = true)
    (k21 : PySem.W.keepIn K (.ref f21) = true)
    (g22 : PySem.W.nsIn K mainGlobals "are_whole_parts" = some (some (.ref f22)))
    (l22 : K.lookup f22 = some ⟨oc22, od22, .func (PySem.W.fnOf "are_whole_parts" "are_whole_parts" (defArgs (top 22)) (defBody (top 22)) (defScope (top 22)) .none kV22 dc22 pm22 an22 cd22 ct22), sl22⟩)
    (c22 : PySem.W.codeIn K cd22 "are_whole_parts" = true)
    (k22 : PySem.W.keepIn K (.ref f22) = true)
    (g24 : PySem.W.nsIn K mainGlobals "joint_sums" = some (some (.ref f24)))
    (l24 : K.lookup f24 = some ⟨oc24, od24, .func (PySem.W.fnOf "joint_sums" "joint_sums" (defArgs (top 24)) (defBody (top 24)) (defScope (top 24)) .none kV24 dc24 pm24 an24 cd24 ct24), sl24⟩)
    (c24 : PySem.W.codeIn K cd24 "joint_sums" = true)
    (k24 : PySem.W.keepIn K (.ref f24) = true)
    (g25 : PySem.W.nsIn K mainGlobals "joint_sum" = some (some (.ref f25)))
    (l25 : K.lookup f25 = some ⟨oc25, od25, .func (PySem.W.fnOf "joint_sum" "joint_sum" (defArgs (top 25)) (defBody (top 25)) (defScope (top 25)) .none kV25 dc25 pm25 an25 cd25 ct25), sl25⟩)
    (c25 : PySem.W.codeIn K cd25 "joint_sum" = true)
    (k25 : PySem.W.keepIn K (.ref f25) = true)
    (g43 : PySem.W.nsIn K mainGlobals "are_parts" = some (some (.ref f43)))
    (l43 : K.lookup f43 = some ⟨oc43, od43, .func (PySem.W.fnOf "are_parts" "are_parts" (defArgs (top 43)) (defBody (top 43)) (defScope (top 43)) .none kV43 dc43 pm43 an43 cd43 ct43), sl43⟩)
    (c43 : PySem.W.codeIn K cd43 "are_parts" = true)
    (k43 : PySem.W.keepIn K (.ref f43) = true)
    (g44 : PySem.W.nsIn K mainGlobals "is_bounded_kind" = some (some (.ref f44)))
    (l44 : K.lookup f44 = some ⟨oc44, od44, .func (PySem.W.fnOf "is_bounded_kind" "is_bounded_kind" (defArgs (top 44)) (defBody (top 44)) (defScope (top 44)) .none kV44 dc44 pm44 an44 cd44 ct44), sl44⟩)
    (c44 : PySem.W.codeIn K cd44 "is_bounded_kind" = true)
    (k44 : PySem.W.keepIn K (.ref f44) = true)
    (g45 : PySem.W.nsIn K mainGlobals "is_within" = some (some (.ref f45)))
    (l45 : K.lookup f45 = some ⟨oc45, od45, .func (PySem.W.fnOf "is_within" "is_within" (defArgs (top 45)) (defBody (top 45)) (defScope (top 45)) .none kV45 dc45 pm45 an45 cd45 ct45), sl45⟩)
    (c45 : PySem.W.codeIn K cd45 "is_within" = true)
    (k45 : PySem.W.keepIn K (.ref f45) = true)
    (g46 : PySem.W.nsIn K mainGlobals "means_of" = some (some (.ref f46)))
    (l46 : K.lookup f46 = some ⟨oc46, od46, .func (PySem.W.fnOf "means_of" "means_of" (defArgs (top 46)) (defBody (top 46)) (defScope (top 46)) .none kV46 dc46 pm46 an46 cd46 ct46), sl46⟩)
    (c46 : PySem.W.codeIn K cd46 "means_of" = true)
    (k46 : PySem.W.keepIn K (.ref f46) = true)
    (g47 : PySem.W.nsIn K mainGlobals "check_one_stretch" = some (some (.ref f47)))
    (l47 : K.lookup f47 = some ⟨oc47, od47, .func (PySem.W.fnOf "check_one_stretch" "check_one_stretch" (defArgs (top 47)) (defBody (top 47)) (defScope (top 47)) .none kV47 dc47 pm47 an47 cd47 ct47), sl47⟩)
    (c47 : PySem.W.codeIn K cd47 "check_one_stretch" = true)
    (k47 : PySem.W.keepIn K (.ref f47) = true)
    (g48 : PySem.W.nsIn K mainGlobals "functions_of" = some (some (.ref f48)))
    (l48 : K.lookup f48 = some ⟨oc48, od48, .func (PySem.W.fnOf "functions_of" "functions_of" (defArgs (top 48)) (defBody (top 48)) (defScope (top 48)) .none kV48 dc48 pm48 an48 cd48 ct48), sl48⟩)
    (c48 : PySem.W.codeIn K cd48 "functions_of" = true)
    (k48 : PySem.W.keepIn K (.ref f48) = true)
    (g49 : PySem.W.nsIn K mainGlobals "gap_missed" = some (some (.ref f49)))
    (l49 : K.lookup f49 = some ⟨oc49, od49, .func (PySem.W.fnOf "gap_missed" "gap_missed" (defArgs (top 49)) (defBody (top 49)) (defScope (top 49)) .none kV49 dc49 pm49 an49 cd49 ct49), sl49⟩)
    (c49 : PySem.W.codeIn K cd49 "gap_missed" = true)
    (k49 : PySem.W.keepIn K (.ref f49) = true)
    (g50 : PySem.W.nsIn K mainGlobals "check_places" = some (some (.ref f50)))
    (l50 : K.lookup f50 = some ⟨oc50, od50, .func (PySem.W.fnOf "check_places" "check_places" (defArgs (top 50)) (defBody (top 50)) (defScope (top 50)) .none kV50 dc50 pm50 an50 cd50 ct50), sl50⟩)
    (c50 : PySem.W.codeIn K cd50 "check_places" = true)
    (k50 : PySem.W.keepIn K (.ref f50) = true)
    (g51 : PySem.W.nsIn K mainGlobals "missed" = some (some (.ref f51)))
    (l51 : K.lookup f51 = some ⟨oc51, od51, .func (PySem.W.fnOf "missed" "missed" (defArgs (top 51)) (defBody (top 51)) (defScope (top 51)) .none kV51 dc51 pm51 an51 cd51 ct51), sl51⟩)
    (c51 : PySem.W.codeIn K cd51 "missed" = true)
    (k51 : PySem.W.keepIn K (.ref f51) = true)
    (g65 : PySem.W.nsIn K mainGlobals "_law_interval" = some (some (.ref f65)))
    (l65 : K.lookup f65 = some ⟨oc65, od65, .func (PySem.W.fnOf "_law_interval" "_law_interval" (defArgs (top 65)) (defBody (top 65)) (defScope (top 65)) .none kV65 dc65 pm65 an65 cd65 ct65), sl65⟩)
    (c65 : PySem.W.codeIn K cd65 "_law_interval" = true)
    (k65 : PySem.W.keepIn K (.ref f65) = true)
    (g75 : PySem.W.nsIn K mainGlobals "_law_f_of" = some (some (.ref f75)))
    (l75 : K.lookup f75 = some ⟨oc75, od75, .func (PySem.W.fnOf "_law_f_of" "_law_f_of" (defArgs (top 75)) (defBody (top 75)) (defScope (top 75)) .none kV75 dc75 pm75 an75 cd75 ct75), sl75⟩)
    (c75 : PySem.W.codeIn K cd75 "_law_f_of" = true)
    (k75 : PySem.W.keepIn K (.ref f75) = true)
    (g78 : PySem.W.nsIn K mainGlobals "_law_share_mean" = some (some (.ref f78)))
    (l78 : K.lookup f78 = some ⟨oc78, od78, .func (PySem.W.fnOf "_law_share_mean" "_law_share_mean" (defArgs (top 78)) (defBody (top 78)) (defScope (top 78)) .none kV78 dc78 pm78 an78 cd78 ct78), sl78⟩)
    (c78 : PySem.W.codeIn K cd78 "_law_share_mean" = true)
    (k78 : PySem.W.keepIn K (.ref f78) = true)
    (g79 : PySem.W.nsIn K mainGlobals "_law_drawn_share" = some (some (.ref f79)))
    (l79 : K.lookup f79 = some ⟨oc79, od79, .func (PySem.W.fnOf "_law_drawn_share" "_law_drawn_share" (defArgs (top 79)) (defBody (top 79)) (defScope (top 79)) .none kV79 dc79 pm79 an79 cd79 ct79), sl79⟩)
    (c79 : PySem.W.codeIn K cd79 "_law_drawn_share" = true)
    (k79 : PySem.W.keepIn K (.ref f79) = true)
    (g80 : PySem.W.nsIn K mainGlobals "_law_made_told" = some (some (.ref f80)))
    (l80 : K.lookup f80 = some ⟨oc80, od80, .func (PySem.W.fnOf "_law_made_told" "_law_made_told" (defArgs (top 80)) (defBody (top 80)) (defScope (top 80)) .none kV80 dc80 pm80 an80 cd80 ct80), sl80⟩)
    (c80 : PySem.W.codeIn K cd80 "_law_made_told" = true)
    (k80 : PySem.W.keepIn K (.ref f80) = true)
    (g81 : PySem.W.nsIn K mainGlobals "_law_passed_row" = some (some (.ref f81)))
    (l81 : K.lookup f81 = some ⟨oc81, od81, .func (PySem.W.fnOf "_law_passed_row" "_law_passed_row" (defArgs (top 81)) (defBody (top 81)) (defScope (top 81)) .none kV81 dc81 pm81 an81 cd81 ct81), sl81⟩)
    (c81 : PySem.W.codeIn K cd81 "_law_passed_row" = true)
    (k81 : PySem.W.keepIn K (.ref f81) = true)
    (g82 : PySem.W.nsIn K mainGlobals "_law_made_share" = some (some (.ref f82)))
    (l82 : K.lookup f82 = some ⟨oc82, od82, .func (PySem.W.fnOf "_law_made_share" "_law_made_share" (defArgs (top 82)) (defBody (top 82)) (defScope (top 82)) .none kV82 dc82 pm82 an82 cd82 ct82), sl82⟩)
    (c82 : PySem.W.codeIn K cd82 "_law_made_share" = true)
    (k82 : PySem.W.keepIn K (.ref f82) = true)
    (g83 : PySem.W.nsIn K mainGlobals "_law_row" = some (some (.ref f83)))
    (l83 : K.lookup f83 = some ⟨oc83, od83, .func (PySem.W.fnOf "_law_row" "_law_row" (defArgs (top 83)) (defBody (top 83)) (defScope (top 83)) .none kV83 dc83 pm83 an83 cd83 ct83), sl83⟩)
    (c83 : PySem.W.codeIn K cd83 "_law_row" = true)
    (k83 : PySem.W.keepIn K (.ref f83) = true)
    (pG : PySem.W.nsIn K mainGlobals "Poly" = some (some (.ref cP)))
    (p1 : PySem.W.plainGet K cP Str.empty = true)
    (p2 : PySem.W.hasDictIn K cP = true)
    (p3 : PySem.W.plainOver K cP = true)
    (p4 : PySem.W.findIn K (.ref cP) "__setattr__" = some (some (.builtin "object.__setattr__")))
    (p5 : PySem.W.findIn K (.ref cP) "numbers" = some none)
    (p6 : PySem.W.findIn K (.ref cP) "__class__" = some (some (.builtin "object.__class__")))
    (p7 : PySem.W.mroIn K cP (.type "object") = some true)
    (p8 : PySem.W.makesIn K cP = true)
    (p9 : PySem.W.keepIn K (.ref cP) = true)
    (pa : PySem.W.selfFirst K cP = true)
    (pn_int : PySem.W.kitOne K (.type "int") (.ref cP) = some false)
    (pn_bool : PySem.W.kitOne K (.type "bool") (.ref cP) = some false)
    (pn_str : PySem.W.kitOne K (.type "str") (.ref cP) = some false)
    (pn_NoneType : PySem.W.kitOne K (.type "NoneType") (.ref cP) = some false)
    (pn_tuple : PySem.W.kitOne K (.type "tuple") (.ref cP) = some false)
    (pn_list : PySem.W.kitOne K (.type "list") (.ref cP) = some false)
    (pn_dict : PySem.W.kitOne K (.type "dict") (.ref cP) = some false)
    (pi1 : PySem.W.subIn K (.type "int") (.ref cP) = some false)
    (pi2 : PySem.W.subIn K (.ref cP) (.type "int") = some false)
    (pt1 : PySem.W.subIn K (.type "tuple") (.ref cP) = some false)
    (pt2 : PySem.W.subIn K (.ref cP) (.type "tuple") = some false)
    (mem0 : PySem.W.findIn K (.ref cP) "__init__" = some (some (.ref fm0)))
    (ism0 : PySem.W.isFn K (.ref fm0) = true)
    (lm0 : K.lookup fm0 = some ⟨ocm0, odm0, .func (PySem.W.fnOf "__init__" "Poly.__init__" (defArgs (sP 0)) (defBody (sP 0)) (defScope (sP 0)) .none kVm0 dcm0 pmm0 anm0 cdm0 ctm0), slm0⟩)
    (cm0 : PySem.W.codeIn K cdm0 "Poly.__init__" = true)
    (km0 : PySem.W.keepIn K (.ref fm0) = true)
    (mem10 : PySem.W.findIn K (.ref cP) "at" = some (some (.ref fm10)))
    (ism10 : PySem.W.isFn K (.ref fm10) = true)
    (lm10 : K.lookup fm10 = some ⟨ocm10, odm10, .func (PySem.W.fnOf "at" "Poly.at" (defArgs (sP 10)) (defBody (sP 10)) (defScope (sP 10)) .none kVm10 dcm10 pmm10 anm10 cdm10 ctm10), slm10⟩)
    (cm10 : PySem.W.codeIn K cdm10 "Poly.at" = true)
    (km10 : PySem.W.keepIn K (.ref fm10) = true)
    (bG : PySem.W.nsIn K mainGlobals "Broken" = some (some (.ref cB)))
    (b1 : PySem.W.plainGet K cB Str.empty = true)
    (b2 : PySem.W.hasDictIn K cB = true)
    (b3 : PySem.W.plainOver K cB = true)
    (b4 : PySem.W.findIn K (.ref cB) "__setattr__" = some (some (.builtin "object.__setattr__")))
    (b5 : PySem.W.findIn K (.ref cB) "knots" = some none)
    (b6 : PySem.W.findIn K (.ref cB) "polys" = some none)
    (b7 : PySem.W.findIn K (.ref cB) "at" = some none)
    (yb8 : PySem.W.findIn K (.ref cB) "__class__" = some (some (.builtin "object.__class__")))
    (yb9 : PySem.W.mroIn K cB (.type "object") = some true)
    (ba : PySem.W.makesIn K cB = true)
    (bb : PySem.W.keepIn K (.ref cB) = true)
    (bn_int : PySem.W.kitOne K (.type "int") (.ref cB) = some false)
    (bn_bool : PySem.W.kitOne K (.type "bool") (.ref cB) = some false)
    (bn_str : PySem.W.kitOne K (.type "str") (.ref cB) = some false)
    (bn_NoneType : PySem.W.kitOne K (.type "NoneType") (.ref cB) = some false)
    (bn_tuple : PySem.W.kitOne K (.type "tuple") (.ref cB) = some false)
    (bn_list : PySem.W.kitOne K (.type "list") (.ref cB) = some false)
    (bn_dict : PySem.W.kitOne K (.type "dict") (.ref cB) = some false)
    (bi1 : PySem.W.subIn K (.type "int") (.ref cB) = some false)
    (bt1 : PySem.W.subIn K (.type "tuple") (.ref cB) = some false)
    (meq0 : PySem.W.findIn K (.ref cB) "__init__" = some (some (.ref fq0)))
    (isq0 : PySem.W.isFn K (.ref fq0) = true)
    (lq0 : K.lookup fq0 = some ⟨ocq0, odq0, .func (PySem.W.fnOf "__init__" "Broken.__init__" (defArgs (sB 0)) (defBody (sB 0)) (defScope (sB 0)) .none kVq0 dcq0 pmq0 anq0 cdq0 ctq0), slq0⟩)
    (cq0 : PySem.W.codeIn K cdq0 "Broken.__init__" = true)
    (kq0 : PySem.W.keepIn K (.ref fq0) = true)
    (meq2 : PySem.W.findIn K (.ref cB) "value" = some (some (.ref fq2)))
    (isq2 : PySem.W.isFn K (.ref fq2) = true)
    (lq2 : K.lookup fq2 = some ⟨ocq2, odq2, .func (PySem.W.fnOf "value" "Broken.value" (defArgs (sB 2)) (defBody (sB 2)) (defScope (sB 2)) .none kVq2 dcq2 pmq2 anq2 cdq2 ctq2), slq2⟩)
    (cq2 : PySem.W.codeIn K cdq2 "Broken.value" = true)
    (kq2 : PySem.W.keepIn K (.ref fq2) = true)
    (meq5 : PySem.W.findIn K (.ref cB) "is_upper" = some (some (.ref fq5)))
    (isq5 : PySem.W.isFn K (.ref fq5) = true)
    (lq5 : K.lookup fq5 = some ⟨ocq5, odq5, .func (PySem.W.fnOf "is_upper" "Broken.is_upper" (defArgs (sB 5)) (defBody (sB 5)) (defScope (sB 5)) .none kVq5 dcq5 pmq5 anq5 cdq5 ctq5), slq5⟩)
    (cq5 : PySem.W.codeIn K cdq5 "Broken.is_upper" = true)
    (kq5 : PySem.W.keepIn K (.ref fq5) = true)
    (meq6 : PySem.W.findIn K (.ref cB) "is_lower" = some (some (.ref fq6)))
    (isq6 : PySem.W.isFn K (.ref fq6) = true)
    (lq6 : K.lookup fq6 = some ⟨ocq6, odq6, .func (PySem.W.fnOf "is_lower" "Broken.is_lower" (defArgs (sB 6)) (defBody (sB 6)) (defScope (sB 6)) .none kVq6 dcq6 pmq6 anq6 cdq6 ctq6), slq6⟩)
    (cq6 : PySem.W.codeIn K cdq6 "Broken.is_lower" = true)
    (kq6 : PySem.W.keepIn K (.ref fq6) = true)
    (osG : PySem.W.nsIn K mainGlobals "Share" = some (some (.ref cS)))
    (os1 : PySem.W.plainGet K cS Str.empty = true)
    (os2 : PySem.W.hasDictIn K cS = true)
    (os3 : PySem.W.plainOver K cS = true)
    (os4 : PySem.W.findIn K (.ref cS) "__setattr__" = some (some (.builtin "object.__setattr__")))
    (osf0 : PySem.W.findIn K (.ref cS) "places" = some none)
    (osf1 : PySem.W.findIn K (.ref cS) "parts" = some none)
    (osa : PySem.W.makesIn K cS = true)
    (osb : PySem.W.keepIn K (.ref cS) = true)
    (mesq0 : PySem.W.findIn K (.ref cS) "__init__" = some (some (.ref fsq0)))
    (issq0 : PySem.W.isFn K (.ref fsq0) = true)
    (lsq0 : K.lookup fsq0 = some ⟨ocsq0, odsq0, .func (PySem.W.fnOf "__init__" "Share.__init__" (defArgs (sS 0)) (defBody (sS 0)) (defScope (sS 0)) .none kVsq0 dcsq0 pmsq0 ansq0 cdsq0 ctsq0), slsq0⟩)
    (csq0 : PySem.W.codeIn K cdsq0 "Share.__init__" = true)
    (ksq0 : PySem.W.keepIn K (.ref fsq0) = true)
    (otG : PySem.W.nsIn K mainGlobals "Told" = some (some (.ref cT)))
    (ot1 : PySem.W.plainGet K cT Str.empty = true)
    (ot2 : PySem.W.hasDictIn K cT = true)
    (ot3 : PySem.W.plainOver K cT = true)
    (ot4 : PySem.W.findIn K (.ref cT) "__setattr__" = some (some (.builtin "object.__setattr__")))
    (otf0 : PySem.W.findIn K (.ref cT) "function" = some none)
    (otf1 : PySem.W.findIn K (.ref cT) "least" = some none)
    (otf2 : PySem.W.findIn K (.ref cT) "most" = some none)
    (ota : PySem.W.makesIn K cT = true)
    (otb : PySem.W.keepIn K (.ref cT) = true)
    (metq0 : PySem.W.findIn K (.ref cT) "__init__" = some (some (.ref ftq0)))
    (istq0 : PySem.W.isFn K (.ref ftq0) = true)
    (ltq0 : K.lookup ftq0 = some ⟨octq0, odtq0, .func (PySem.W.fnOf "__init__" "Told.__init__" (defArgs (sT 0)) (defBody (sT 0)) (defScope (sT 0)) .none kVtq0 dctq0 pmtq0 antq0 cdtq0 cttq0), sltq0⟩)
    (ctq0 : PySem.W.codeIn K cdtq0 "Told.__init__" = true)
    (ktq0 : PySem.W.keepIn K (.ref ftq0) = true)
    (g84 : PySem.W.nsIn K mainGlobals "law" = some (some (.ref f84)))
    (l84 : K.lookup f84 = some ⟨oc84, od84, .func (PySem.W.fnOf "law" "law" (defArgs (top 84)) (defBody (top 84)) (defScope (top 84)) .none kV84 dc84 pm84 an84 cd84 ct84), sl84⟩)
    (c84 : PySem.W.codeIn K cd84 "law" = true)
    (k84 : PySem.W.keepIn K (.ref f84) = true)
    (g52 : PySem.W.nsIn K mainGlobals "fits" = some (some (.ref f52)))
    (l52 : K.lookup f52 = some ⟨oc52, od52, .func (PySem.W.fnOf "fits" "fits" (defArgs (top 52)) (defBody (top 52)) (defScope (top 52)) (.ref aT52) kV52 dc52 pm52 an52 cd52 ct52), sl52⟩)
    (c52 : PySem.W.codeIn K cd52 "fits" = true)
    (k52 : PySem.W.keepIn K (.ref f52) = true)
    (lT52 : K.lookup aT52 = some ⟨ocT52, odT52, .seq #[Value.none] nT52, slT52⟩)
    (nbN : CN ≠ B)
    (nbR : CR ≠ B)
    (neRN : CR ≠ CN)
    : ∃ fd : FuncData, (∀ (s : Shared) (u : Value), BindsTo s fd ⟨[u], []⟩ [("_law_script", u)]) ∧ ∀ base : Heap, K.In base → base.Ns mainGlobals mg → FnG P w K mg base CX0 14 fa fd ["_law_script"] (spLaw K) := by
  cases hfa.symm.trans (PySem.W.mg_of X G g84)
  have TN : ErrT K mg "BadNumber" B CN := errT_mk X G aCN xLN saN gaN ggN exN tyN kpN hdN haN hn ht hmN
  have FEN := funS_mk (st := sI3) (P := P) lEN cEN lcEN laEN h2EN hfEN zs tp op (ErrT_cls TN.mro) owEN nxEN ivEN
  have bEN := FEN.binds (ps := ["self", "what", "number"]) fun _ _ _ _ _ _ _ us hl => match us, hl with | [_, _, _], _ => rfl
  have TR : ErrT K mg "BadRow" B CR := errT_mk X G aCR xLR saR gaR ggR exR tyR kpR hdR haR hn ht hmR
  have FER := funS_mk (st := sI4) (P := P) lER cER lcER laER h2ER hfER zs tp op (ErrT_cls TR.mro) owER nxER ivER
  have bER := FER.binds (ps := ["self", "row"]) fun _ _ _ _ _ _ _ us hl => match us, hl with | [_, _], _ => rfl
  have TU : ErrT K mg "Unlike" B CU := errT_mk X G aCU xLU saU gaU ggU exU tyU kpU hdU haU hn ht hmU
  have FEU := funS_mk (st := sI6) (P := P) lEU cEU lcEU laEU h2EU hfEU zs tp op (ErrT_cls TU.mro) owEU nxEU ivEU
  have bEU := FEU.binds (ps := ["self", "what"]) fun _ _ _ _ _ _ _ us hl => match us, hl with | [_, _], _ => rfl
  have F84 := fun_mk (st := top 84) l84 c84 k84
  have F52 : FunD K "fits" "fits" (defArgs (top 52)) (defBody (top 52)) (defScope (top 52)) [V.non] [] f52 _ := ⟨⟨_, _, _, _, _, _, _, _, _, _, rfl, l52, c52, .inr ⟨by simp, aT52, _, [Value.none], nT52, rfl, lT52, rfl, .cons rfl .nil⟩, .inl rfl⟩, k52⟩
  have Fsq0 := fun_mk (st := sS 0) lsq0 csq0 ksq0
  have bsq0 := Fsq0.binds (ps := ["self", "places", "parts"]) fun _ _ _ _ _ _ us hl => match us, hl with | [_, _, _], _ => rfl
  have Ftq0 := fun_mk (st := sT 0) ltq0 ctq0 ktq0
  have btq0 := Ftq0.binds (ps := ["self", "function", "least", "most"]) fun _ _ _ _ _ _ us hl => match us, hl with | [_, _, _, _], _ => rfl
  have Fq0 := fun_mk (st := sB 0) lq0 cq0 kq0
  have bq0 := Fq0.binds (ps := ["self", "knots", "polys", "at"]) fun _ _ _ _ _ _ us hl => match us, hl with | [_, _, _, _], _ => rfl
  have Fq2 := fun_mk (st := sB 2) lq2 cq2 kq2
  have bq2 := Fq2.binds (ps := ["self", "x"]) fun _ _ _ _ _ _ us hl => match us, hl with | [_, _], _ => rfl
  have Fq5 := fun_mk (st := sB 5) lq5 cq5 kq5
  have bq5 := Fq5.binds (ps := ["self"]) fun _ _ _ _ _ _ us hl => match us, hl with | [_], _ => rfl
  have Fq6 := fun_mk (st := sB 6) lq6 cq6 kq6
  have bq6 := Fq6.binds (ps := ["self"]) fun _ _ _ _ _ _ us hl => match us, hl with | [_], _ => rfl
  have F8 := fun_mk (st := top 8) l8 c8 k8
  have b8 := F8.binds (ps := ["value"]) fun _ _ _ _ _ _ us hl => match us, hl with | [_], _ => rfl
  have F9 := fun_mk (st := top 9) l9 c9 k9
  have b9 := F9.binds (ps := ["value"]) fun _ _ _ _ _ _ us hl => match us, hl with | [_], _ => rfl
  have F10 := fun_mk (st := top 10) l10 c10 k10
  have b10 := F10.binds (ps := ["value"]) fun _ _ _ _ _ _ us hl => match us, hl with | [_], _ => rfl
  have F11 := fun_mk (st := top 11) l11 c11 k11
  have b11 := F11.binds (ps := ["top", "bottom"]) fun _ _ _ _ _ _ us hl => match us, hl with | [_, _], _ => rfl
  have F12 := fun_mk (st := top 12) l12 c12 k12
  have b12 := F12.binds (ps := ["value", "what"]) fun _ _ _ _ _ _ us hl => match us, hl with | [_, _], _ => rfl
  have F14 := fun_mk (st := top 14) l14 c14 k14
  have b14 := F14.binds (ps := ["one", "other"]) fun _ _ _ _ _ _ us hl => match us, hl with | [_, _], _ => rfl
  have F15 := fun_mk (st := top 15) l15 c15 k15
  have b15 := F15.binds (ps := ["one", "other"]) fun _ _ _ _ _ _ us hl => match us, hl with | [_, _], _ => rfl
  have F57 := fun_mk (st := top 57) l57 c57 k57
  have b57 := F57.binds (ps := ["_law_one", "_law_two"]) fun _ _ _ _ _ _ us hl => match us, hl with | [_, _], _ => rfl
  have F58 := fun_mk (st := top 58) l58 c58 k58
  have b58 := F58.binds (ps := ["_law_top", "_law_bottom"]) fun _ _ _ _ _ _ us hl => match us, hl with | [_, _], _ => rfl
  have F59 := fun_mk (st := top 59) l59 c59 k59
  have b59 := F59.binds (ps := ["_law_one", "_law_two"]) fun _ _ _ _ _ _ us hl => match us, hl with | [_, _], _ => rfl
  have F60 := fun_mk (st := top 60) l60 c60 k60
  have b60 := F60.binds (ps := ["_law_one", "_law_two"]) fun _ _ _ _ _ _ us hl => match us, hl with | [_, _], _ => rfl
  have F61 := fun_mk (st := top 61) l61 c61 k61
  have b61 := F61.binds (ps := ["_law_one", "_law_two"]) fun _ _ _ _ _ _ us hl => match us, hl with | [_, _], _ => rfl
  have F62 := fun_mk (st := top 62) l62 c62 k62
  have b62 := F62.binds (ps := ["_law_one", "_law_two"]) fun _ _ _ _ _ _ us hl => match us, hl with | [_, _], _ => rfl
  have F18 := fun_mk (st := top 18) l18 c18 k18
  have b18 := F18.binds (ps := ["value"]) fun _ _ _ _ _ _ us hl => match us, hl with | [_], _ => rfl
  have F28 := fun_mk (st := top 28) l28 c28 k28
  have b28 := F28.binds (ps := ["row"]) fun _ _ _ _ _ _ us hl => match us, hl with | [_], _ => rfl
  have F23 := fun_mk (st := top 23) l23 c23 k23
  have b23 := F23.binds (ps := ["pairs"]) fun _ _ _ _ _ _ us hl => match us, hl with | [_], _ => rfl
  have F68 := fun_mk (st := top 68) l68 c68 k68
  have b68 := F68.binds (ps := ["_law_numbers"]) fun _ _ _ _ _ _ us hl => match us, hl with | [_], _ => rfl
  have F69 := fun_mk (st := top 69) l69 c69 k69
  have b69 := F69.binds (ps := ["_law_one", "_law_two"]) fun _ _ _ _ _ _ us hl => match us, hl with | [_, _], _ => rfl
  have F70 := fun_mk (st := top 70) l70 c70 k70
  have b70 := F70.binds (ps := ["_law_one", "_law_point"]) fun _ _ _ _ _ _ us hl => match us, hl with | [_, _], _ => rfl
  have F54 := fun_mk (st := top 54) l54 c54 k54
  have b54 := F54.binds (ps := ["_law_script"]) fun _ _ _ _ _ _ us hl => match us, hl with | [_], _ => rfl
  have F55 := fun_mk (st := top 55) l55 c55 k55
  have b55 := F55.binds (ps := ["_law_pen_here", "_law_many"]) fun _ _ _ _ _ _ us hl => match us, hl with | [_, _], _ => rfl
  have F56 := fun_mk (st := top 56) l56 c56 k56
  have b56 := F56.binds (ps := ["_law_pen_here", "_law_some"]) fun _ _ _ _ _ _ us hl => match us, hl with | [_, _], _ => rfl
  have F63 := fun_mk (st := top 63) l63 c63 k63
  have b63 := F63.binds (ps := ["_law_pen_here", "_law_ratio_here"]) fun _ _ _ _ _ _ us hl => match us, hl with | [_, _], _ => rfl
  have F64 := fun_mk (st := top 64) l64 c64 k64
  have b64 := F64.binds (ps := ["_law_pen_here", "_law_most"]) fun _ _ _ _ _ _ us hl => match us, hl with | [_, _], _ => rfl
  have F66 := fun_mk (st := top 66) l66 c66 k66
  have b66 := F66.binds (ps := ["_law_some"]) fun _ _ _ _ _ _ us hl => match us, hl with | [_], _ => rfl
  have F67 := fun_mk (st := top 67) l67 c67 k67
  have b67 := F67.binds (ps := ["_law_some"]) fun _ _ _ _ _ _ us hl => match us, hl with | [_], _ => rfl
  have F71 := fun_mk (st := top 71) l71 c71 k71
  have b71 := F71.binds (ps := ["_law_f", "_law_x"]) fun _ _ _ _ _ _ us hl => match us, hl with | [_, _], _ => rfl
  have F72 := fun_mk (st := top 72) l72 c72 k72
  have b72 := F72.binds (ps := ["_law_f", "_law_x"]) fun _ _ _ _ _ _ us hl => match us, hl with | [_, _], _ => rfl
  have F73 := fun_mk (st := top 73) l73 c73 k73
  have b73 := F73.binds (ps := ["_law_f", "_law_k"]) fun _ _ _ _ _ _ us hl => match us, hl with | [_, _], _ => rfl
  have F74 := fun_mk (st := top 74) l74 c74 k74
  have b74 := F74.binds (ps := ["_law_pen_here", "_law_f"]) fun _ _ _ _ _ _ us hl => match us, hl with | [_, _], _ => rfl
  have F76 := fun_mk (st := top 76) l76 c76 k76
  have b76 := F76.binds (ps := ["_law_pen_here", "_law_low", "_law_high", "_law_many"]) fun _ _ _ _ _ _ us hl => match us, hl with | [_, _, _, _], _ => rfl
  have F77 := fun_mk (st := top 77) l77 c77 k77
  have b77 := F77.binds (ps := ["_law_pen_here", "_law_knots", "_law_degree", "_law_kind", "_law_most"]) fun _ _ _ _ _ _ us hl => match us, hl with | [_, _, _, _, _], _ => rfl
  have F19 := fun_mk (st := top 19) l19 c19 k19
  have b19 := F19.binds (ps := ["row"]) fun _ _ _ _ _ _ us hl => match us, hl with | [_], _ => rfl
  have F20 := fun_mk (st := top 20) l20 c20 k20
  have b20 := F20.binds (ps := ["row"]) fun _ _ _ _ _ _ us hl => match us, hl with | [_], _ => rfl
  have F35 := fun_mk (st := top 35) l35 c35 k35
  have b35 := F35.binds (ps := ["value"]) fun _ _ _ _ _ _ us hl => match us, hl with | [_], _ => rfl
  have F36 := fun_mk (st := top 36) l36 c36 k36
  have b36 := F36.binds (ps := ["f", "x"]) fun _ _ _ _ _ _ us hl => match us, hl with | [_, _], _ => rfl
  have F37 := fun_mk (st := top 37) l37 c37 k37
  have b37 := F37.binds (ps := ["f", "place"]) fun _ _ _ _ _ _ us hl => match us, hl with | [_, _], _ => rfl
  have F38 := fun_mk (st := top 38) l38 c38 k38
  have b38 := F38.binds (ps := ["f", "index"]) fun _ _ _ _ _ _ us hl => match us, hl with | [_, _], _ => rfl
  have F39 := fun_mk (st := top 39) l39 c39 k39
  have b39 := F39.binds (ps := ["f"]) fun _ _ _ _ _ _ us hl => match us, hl with | [_], _ => rfl
  have F16 := fun_mk (st := top 16) l16 c16 k16
  have b16 := F16.binds (ps := ["bits"]) fun _ _ _ _ _ _ us hl => match us, hl with | [_], _ => rfl
  have F21 := fun_mk (st := top 21) l21 c21 k21
  have b21 := F21.binds (ps := ["row"]) fun _ _ _ _ _ _ us hl => match us, hl with | [_], _ => rfl
  have F22 := fun_mk (st := top 22) l22 c22 k22
  have b22 := F22.binds (ps := ["row"]) fun _ _ _ _ _ _ us hl => match us, hl with | [_], _ => rfl
  have F24 := fun_mk (st := top 24) l24 c24 k24
  have b24 := F24.binds (ps := ["rows", "amounts"]) fun _ _ _ _ _ _ us hl => match us, hl with | [_, _], _ => rfl
  have F25 := fun_mk (st := top 25) l25 c25 k25
  have b25 := F25.binds (ps := ["row", "amounts"]) fun _ _ _ _ _ _ us hl => match us, hl with | [_, _], _ => rfl
  have F43 := fun_mk (st := top 43) l43 c43 k43
  have b43 := F43.binds (ps := ["value", "many"]) fun _ _ _ _ _ _ us hl => match us, hl with | [_, _], _ => rfl
  have F44 := fun_mk (st := top 44) l44 c44 k44
  have b44 := F44.binds (ps := ["function"]) fun _ _ _ _ _ _ us hl => match us, hl with | [_], _ => rfl
  have F45 := fun_mk (st := top 45) l45 c45 k45
  have b45 := F45.binds (ps := ["share", "low", "high"]) fun _ _ _ _ _ _ us hl => match us, hl with | [_, _, _], _ => rfl
  have F46 := fun_mk (st := top 46) l46 c46 k46
  have b46 := F46.binds (ps := ["share", "functions"]) fun _ _ _ _ _ _ us hl => match us, hl with | [_, _], _ => rfl
  have F47 := fun_mk (st := top 47) l47 c47 k47
  have b47 := F47.binds (ps := ["functions"]) fun _ _ _ _ _ _ us hl => match us, hl with | [_], _ => rfl
  have F48 := fun_mk (st := top 48) l48 c48 k48
  have b48 := F48.binds (ps := ["rows"]) fun _ _ _ _ _ _ us hl => match us, hl with | [_], _ => rfl
  have F49 := fun_mk (st := top 49) l49 c49 k49
  have b49 := F49.binds (ps := ["found", "rows"]) fun _ _ _ _ _ _ us hl => match us, hl with | [_, _], _ => rfl
  have F50 := fun_mk (st := top 50) l50 c50 k50
  have b50 := F50.binds (ps := ["share", "rows"]) fun _ _ _ _ _ _ us hl => match us, hl with | [_, _], _ => rfl
  have F51 := fun_mk (st := top 51) l51 c51 k51
  have b51 := F51.binds (ps := ["share", "rows"]) fun _ _ _ _ _ _ us hl => match us, hl with | [_, _], _ => rfl
  have F65 := fun_mk (st := top 65) l65 c65 k65
  have b65 := F65.binds (ps := ["_law_pen_here", "_law_most"]) fun _ _ _ _ _ _ us hl => match us, hl with | [_, _], _ => rfl
  have F75 := fun_mk (st := top 75) l75 c75 k75
  have b75 := F75.binds (ps := ["_law_told"]) fun _ _ _ _ _ _ us hl => match us, hl with | [_], _ => rfl
  have F78 := fun_mk (st := top 78) l78 c78 k78
  have b78 := F78.binds (ps := ["_law_given", "_law_f"]) fun _ _ _ _ _ _ us hl => match us, hl with | [_, _], _ => rfl
  have F79 := fun_mk (st := top 79) l79 c79 k79
  have b79 := F79.binds (ps := ["_law_pen_here", "_law_low", "_law_high", "_law_many"]) fun _ _ _ _ _ _ us hl => match us, hl with | [_, _, _, _], _ => rfl
  have F80 := fun_mk (st := top 80) l80 c80 k80
  have b80 := F80.binds (ps := ["_law_pen_here", "_law_row_here"]) fun _ _ _ _ _ _ us hl => match us, hl with | [_, _], _ => rfl
  have F81 := fun_mk (st := top 81) l81 c81 k81
  have b81 := F81.binds (ps := ["_law_pen_here", "_law_row_here"]) fun _ _ _ _ _ _ us hl => match us, hl with | [_, _], _ => rfl
  have F82 := fun_mk (st := top 82) l82 c82 k82
  have b82 := F82.binds (ps := ["_law_pen_here", "_law_share"]) fun _ _ _ _ _ _ us hl => match us, hl with | [_, _], _ => rfl
  have F83 := fun_mk (st := top 83) l83 c83 k83
  have b83 := F83.binds (ps := ["_law_pen_here", "_law_knots", "_law_share"]) fun _ _ _ _ _ _ us hl => match us, hl with | [_, _, _], _ => rfl
  have Fm0 := fun_mk (st := sP 0) lm0 cm0 km0
  have bm0 := Fm0.binds (ps := ["self", "numbers"]) fun _ _ _ _ _ _ us hl => match us, hl with | [_, _], _ => rfl
  have Fm10 := fun_mk (st := sP 10) lm10 cm10 km10
  have bm10 := Fm10.binds (ps := ["self", "place"]) fun _ _ _ _ _ _ us hl => match us, hl with | [_, _], _ => rfl
  let Tx0 : Tx P K mg := { blt := ⟨PySem.W.mg_none_of X G z_len, PySem.W.mg_none_of X G z_int, PySem.W.mg_none_of X G z_list, PySem.W.mg_none_of X G z_range⟩, mIsi := PySem.W.mg_none_of X G z_mIsi, mBool := PySem.W.mg_none_of X G z_mBool, mTuple := PySem.W.mg_none_of X G z_mTuple, mMax := PySem.W.mg_none_of X G z_mMax, mAll := PySem.W.mg_none_of X G z_mAll, mEnum := PySem.W.mg_none_of X G z_mEnum, mRev := PySem.W.mg_none_of X G z_mRev, mZip := PySem.W.mg_none_of X G z_mZip, mAbs := PySem.W.mg_none_of X G z_mAbs, mStr := PySem.W.mg_none_of X G z_mStr, mRepr := PySem.W.mg_none_of X G z_mRepr, mDm := PySem.W.mg_none_of X G z_mDm, mNi := PySem.W.mg_none_of X G z_mNi, mGcd := PySem.W.mg_of X G z_gcd, mLcm := PySem.W.mg_of X G z_lcm, B := B, mc := .type "type", cN := CN, cR := CR, cI := CN, cU := CU, base := ⟨PySem.W.mg_of X G qaB, ⟨qrB, qsB⟩, qfB, qcB, qtB⟩, eN := TN, nN1 := nN1, nN2 := nN2, fN := fEN, dN := _, iN := ⟨iN, tN, FEN⟩, bN := bEN, eR := TR, nR1 := nR1, fR := fER, dR := _, iR := ⟨iR, tR, FER⟩, bR := bER, eU := TU, is_whole := ⟨f8, _, F8, PySem.W.mg_of X G g8, b8⟩, is_pair := ⟨f9, _, F9, PySem.W.mg_of X G g9, b9⟩, is_ratio := ⟨f10, _, F10, PySem.W.mg_of X G g10, b10⟩, lowest := ⟨f11, _, F11, PySem.W.mg_of X G g11, b11⟩, told := ⟨f12, _, F12, PySem.W.mg_of X G g12, b12⟩, minus := ⟨f14, _, F14, PySem.W.mg_of X G g14, b14⟩, lower := ⟨f15, _, F15, PySem.W.mg_of X G g15, b15⟩ }
  let Ty0 : Ty P K mg := { Tx0 with l_gcd := ⟨f57, _, F57, PySem.W.mg_of X G g57, b57⟩, l_q := ⟨f58, _, F58, PySem.W.mg_of X G g58, b58⟩, l_plus := ⟨f59, _, F59, PySem.W.mg_of X G g59, b59⟩, l_minus := ⟨f60, _, F60, PySem.W.mg_of X G g60, b60⟩, l_times := ⟨f61, _, F61, PySem.W.mg_of X G g61, b61⟩, l_less := ⟨f62, _, F62, PySem.W.mg_of X G g62, b62⟩ }
  have nP7 : ∀ t ∈ tyNames, PySem.W.kitOne K (.type t) (.ref cP) = some false := by
    intro t ht
    simp only [tyNames, List.mem_cons, List.not_mem_nil, or_false] at ht
    rcases ht with rfl | rfl | rfl | rfl | rfl | rfl | rfl
    · exact pn_int
    · exact pn_bool
    · exact pn_str
    · exact pn_NoneType
    · exact pn_tuple
    · exact pn_list
    · exact pn_dict
  let Tz0 : Tz P K mg := { Ty0 with cP := cP, mgP := PySem.W.mg_of X G pG, clP := ⟨p1, p2, p3, p4⟩, nP := p5, iP := p6, gP := hn, tP := ht, oP := p7, notP := nP7, mkP := ⟨p8, mem0, ism0, p9⟩, p_init := ⟨fm0, _, Fm0, ⟨mem0, ism0, km0⟩, bm0⟩, p_at := ⟨fm10, _, Fm10, ⟨mem10, ism10, km10⟩, bm10⟩, is_row := ⟨f18, _, F18, PySem.W.mg_of X G g18, b18⟩, many_needed := ⟨f28, _, F28, PySem.W.mg_of X G g28, b28⟩, over_one := ⟨f23, _, F23, PySem.W.mg_of X G g23, b23⟩ }
  let Tw0 : Tw P K mg := { Tz0 with sfP := pa, nI1 := pi1, nI2 := pi2, nT1 := pt1, nT2 := pt2 }
  let Tv0 : Tv P K mg := { Tw0 with l_poly := ⟨f68, _, F68, PySem.W.mg_of X G g68, b68⟩, l_pplus := ⟨f69, _, F69, PySem.W.mg_of X G g69, b69⟩, l_pat := ⟨f70, _, F70, PySem.W.mg_of X G g70, b70⟩ }
  let Tu0 : Tu P K mg := { Tv0 with l_pen := ⟨f54, _, F54, PySem.W.mg_of X G g54, b54⟩, l_draw := ⟨f55, _, F55, PySem.W.mg_of X G g55, b55⟩, l_pick := ⟨f56, _, F56, PySem.W.mg_of X G g56, b56⟩, l_passed := ⟨f63, _, F63, PySem.W.mg_of X G g63, b63⟩, l_ratio := ⟨f64, _, F64, PySem.W.mg_of X G g64, b64⟩, nbN := nbN, nbR := nbR, neRN := neRN }
  let Tk0 : Tk P K mg := { Tu0 with l_lo := ⟨f66, _, F66, PySem.W.mg_of X G g66, b66⟩, l_sorted := ⟨f67, _, F67, PySem.W.mg_of X G g67, b67⟩, l_fpiece := ⟨f71, _, F71, PySem.W.mg_of X G g71, b71⟩, l_fat := ⟨f72, _, F72, PySem.W.mg_of X G g72, b72⟩, l_flim := ⟨f73, _, F73, PySem.W.mg_of X G g73, b73⟩, l_mkf := ⟨f74, _, F74, PySem.W.mg_of X G g74, b74⟩, l_dknots := ⟨f76, _, F76, PySem.W.mg_of X G g76, b76⟩, l_dfun := ⟨f77, _, F77, PySem.W.mg_of X G g77, b77⟩ }
  have nB7 : ∀ t ∈ tyNames, PySem.W.kitOne K (.type t) (.ref cB) = some false := by
    intro t ht
    simp only [tyNames, List.mem_cons, List.not_mem_nil, or_false] at ht
    rcases ht with rfl | rfl | rfl | rfl | rfl | rfl | rfl
    · exact bn_int
    · exact bn_bool
    · exact bn_str
    · exact bn_NoneType
    · exact bn_tuple
    · exact bn_list
    · exact bn_dict
  let Tb0 : Tb P K mg := { Tk0 with mAny := PySem.W.mg_none_of X G z_mAny, cB := cB, mgB := PySem.W.mg_of X G bG, clB := ⟨b1, b2, b3, b4⟩, nB1 := b5, nB2 := b6, nB3 := b7, mkB := ⟨ba, meq0, isq0, bb⟩, b_init := ⟨fq0, _, Fq0, ⟨meq0, isq0, kq0⟩, bq0⟩, b_value := ⟨fq2, _, Fq2, ⟨meq2, isq2, kq2⟩, bq2⟩, b_upper := ⟨fq5, _, Fq5, ⟨meq5, isq5, kq5⟩, bq5⟩, b_lower := ⟨fq6, _, Fq6, ⟨meq6, isq6, kq6⟩, bq6⟩, ascends := ⟨f19, _, F19, PySem.W.mg_of X G g19, b19⟩, told_row := ⟨f20, _, F20, PySem.W.mg_of X G g20, b20⟩, is_rowp := ⟨f35, _, F35, PySem.W.mg_of X G g35, b35⟩, place_in := ⟨f36, _, F36, PySem.W.mg_of X G g36, b36⟩, piece_from := ⟨f37, _, F37, PySem.W.mg_of X G g37, b37⟩, klimits := ⟨f38, _, F38, PySem.W.mg_of X G g38, b38⟩, nlims := ⟨f39, _, F39, PySem.W.mg_of X G g39, b39⟩ }
  let Tc0 : Tc P K mg := { Tb0 with iB := yb8, oB := yb9, notB := nB7, nIB := bi1, nTB := bt1 }
  let Tg0 : Tg P K mg := { Tc0 with mSum := PySem.W.mg_none_of X G z_mSum, fU := fEU, dU := _, iU := ⟨iU, tU, FEU⟩, bU := bEU, nU1 := nU1, ft := f52, ftd := _, ftF := F52, mgF := PySem.W.mg_of X G g52, cS := cS, mgS := PySem.W.mg_of X G osG, clS := ⟨os1, os2, os3, os4⟩, nSh1 := osf0, nSh2 := osf1, mkS := ⟨osa, mesq0, issq0, osb⟩, s_init := ⟨fsq0, _, Fsq0, ⟨mesq0, issq0, ksq0⟩, bsq0⟩, cT := cT, mgT := PySem.W.mg_of X G otG, clT := ⟨ot1, ot2, ot3, ot4⟩, nTo1 := otf0, nTo2 := otf1, nTo3 := otf2, mkT := ⟨ota, metq0, istq0, otb⟩, t_init := ⟨ftq0, _, Ftq0, ⟨metq0, istq0, ktq0⟩, btq0⟩, gap_of := ⟨f16, _, F16, PySem.W.mg_of X G g16, b16⟩, sum_of := ⟨f21, _, F21, PySem.W.mg_of X G g21, b21⟩, whole_parts := ⟨f22, _, F22, PySem.W.mg_of X G g22, b22⟩, jsums := ⟨f24, _, F24, PySem.W.mg_of X G g24, b24⟩, jsum := ⟨f25, _, F25, PySem.W.mg_of X G g25, b25⟩, are_parts := ⟨f43, _, F43, PySem.W.mg_of X G g43, b43⟩, is_bk := ⟨f44, _, F44, PySem.W.mg_of X G g44, b44⟩, is_within := ⟨f45, _, F45, PySem.W.mg_of X G g45, b45⟩, means_of := ⟨f46, _, F46, PySem.W.mg_of X G g46, b46⟩, check_st := ⟨f47, _, F47, PySem.W.mg_of X G g47, b47⟩, funcs_of := ⟨f48, _, F48, PySem.W.mg_of X G g48, b48⟩, gap_missed := ⟨f49, _, F49, PySem.W.mg_of X G g49, b49⟩, check_pl := ⟨f50, _, F50, PySem.W.mg_of X G g50, b50⟩, missed := ⟨f51, _, F51, PySem.W.mg_of X G g51, b51⟩, l_interval := ⟨f65, _, F65, PySem.W.mg_of X G g65, b65⟩, l_fof := ⟨f75, _, F75, PySem.W.mg_of X G g75, b75⟩, l_smean := ⟨f78, _, F78, PySem.W.mg_of X G g78, b78⟩, l_dshare := ⟨f79, _, F79, PySem.W.mg_of X G g79, b79⟩, l_mtold := ⟨f80, _, F80, PySem.W.mg_of X G g80, b80⟩, l_prow := ⟨f81, _, F81, PySem.W.mg_of X G g81, b81⟩, l_mshare := ⟨f82, _, F82, PySem.W.mg_of X G g82, b82⟩, l_row := ⟨f83, _, F83, PySem.W.mg_of X G g83, b83⟩ }
  exact ⟨_, fun s u => .of_eq rfl, fun base _ _ => ok_law F84 Tg0⟩
theorem walk {l : PySem.W.OpenLaw} {q : Program} {loose : List Str} {XP : (Str → Option Value) → Heap → Prop} {YP : World → Heap → Prop} {d : DefRec} {K : Params → PySem.W.Frag} (hn : l.most = some 63) (hdf : d.params.defaults = [])
    (hY : ∀ (w : World) (h : Heap), YP w h → (K w.params).In h)
    (F : ∀ (w : World) (mg : Str → Option Value) (fa : Addr) (h : Heap), (K w.params).In h → h.Ns mainGlobals mg → mg d.name = some (.ref fa) →
      ∃ fd : FuncData, (∀ (s : Shared) (u : Value), BindsTo s fd ⟨[u], []⟩ [("_law_script", u)]) ∧ ∀ base : Heap, (K w.params).In base → base.Ns mainGlobals mg → FnG l.prog w (K w.params) mg base CX0 14 fa fd ["_law_script"] (spLaw (K w.params))) :
    PySem.W.WalkO q loose XP YP l.row.toRowW d [] (fun f vs => PySem.call f vs) :=
  walk_G (n := 63) (k := 14) (x := "_law_script") (CX := fun _ => CX0) (sp := fun w => spLaw (K w.params)) hn (by decide) hdf ⟨rfl, by decide, by decide⟩ hY F (fun _ _ a ns _ _ hS => ⟨a, ns, rfl, hS, fun _ => rfl⟩) fun _ _ _ _ _ z => z
end Kz

set_option linter.all false
set_option maxRecDepth 100000
set_option maxHeartbeats 0
namespace Kh
open PySem PySem.Spec PyProof.Rows L2 Kz
abbrev Fq : Type := Option (Str × Str × Arguments × FuncBody × Scope × Addr × Addr)
def fq (K : PySem.W.Frag) (a : Addr) : Fq := match K.lookup a with
  | some ⟨_, _, .func fd, _⟩ => some (fd.name, fd.qualname, fd.params, fd.body, fd.scope, fd.globals, fd.builtins)
  | _ => none
def fqv (x q : Str) (st : Stmt) : Fq := some (x, q, defArgs st, .stmts (defBody st), defScope st, mainGlobals, builtinsNs)
theorem fq_is {K : PySem.W.Frag} {a : Addr} {x q : Str} {st : Stmt} (e : fq K a = fqv x q st) : ∃ oc od osl cl dV kV doc pm an cdv ct, K.lookup a = some ⟨oc, od, .func (PySem.W.fnX x q (defArgs st) (defBody st) (defScope st) cl dV kV doc pm an cdv ct), osl⟩ := by
  unfold fq at e
  cases h : K.lookup a with
  | none => rw [h] at e; cases e
  | some o =>
    obtain ⟨oc, od, dt, osl⟩ := o
    rw [h] at e
    cases dt with
    | func fd =>
      obtain ⟨y1, y2, y3, y4, y5, y6, y7, y8, y9, y10, y11, y12, y13, y14, y15⟩ := fd
      have e2 : (some (y1, y2, y3, y4, y5, y6, y15) : Fq) = some (x, q, defArgs st, .stmts (defBody st), defScope st, mainGlobals, builtinsNs) := e
      rw [Option.some.injEq] at e2
      simp only [Prod.mk.injEq] at e2
      obtain ⟨h1, h2, h3, h4, h5, h6, h7⟩ := e2
      subst h1 h2 h3 h4 h5 h6 h7
      exact ⟨oc, od, osl, y7, y8, y9, y10, y11, y12, y13, y14, rfl⟩
    | _ => cases e
/-- a def without defaults or closure -/
def plB : List (Str × Addr) → Value → Bool
  | [], .none => true
  | _, _ => false
def dfB (K : PySem.W.Frag) : List (Str × Addr) → Value → Bool
  | [], .ref T => (match K.lookup T with
    | some ⟨_, _, .seq its _, _⟩ => decide (its.toList = [Value.none])
    | _ => false)
  | _, _ => false
def refA : Value → Addr
  | .ref T => T
  | _ => 0
def fp (K : PySem.W.Frag) (a : Addr) (q : Str) : Bool := PySem.W.keepIn K (.ref a) && (match K.lookup a with
  | some ⟨_, _, .func fd, _⟩ => PySem.W.codeIn K fd.code q && plB fd.closure fd.defaults
  | _ => false)
theorem fp_ok {K : PySem.W.Frag} {a : Addr} {x q : Str} {st : Stmt} (e : fq K a = fqv x q st) (c : fp K a q = true) :
    ∃ oc od osl kV doc pm an cdv ct, K.lookup a = some ⟨oc, od, .func (PySem.W.fnOf x q (defArgs st) (defBody st) (defScope st) .none kV doc pm an cdv ct), osl⟩ ∧ PySem.W.codeIn K cdv q = true ∧ PySem.W.keepIn K (.ref a) = true := by
  obtain ⟨oc, od, osl, cl, dV, kV, doc, pm, an, cdv, ct, l⟩ := fq_is e
  obtain ⟨k, c2⟩ := He.ba c
  rw [l] at c2
  obtain ⟨c3, c4⟩ := He.ba (show (PySem.W.codeIn K cdv q && plB cl dV) = true from c2)
  cases cl with
  | cons z r => cases c4
  | nil =>
    cases dV with
    | none => exact ⟨oc, od, osl, kV, doc, pm, an, cdv, ct, l, c3, k⟩
    | _ => cases c4
/-- a def with the one default None -/
def fd1 (K : PySem.W.Frag) (a : Addr) (q : Str) : Bool := PySem.W.keepIn K (.ref a) && (match K.lookup a with
  | some ⟨_, _, .func fd, _⟩ => PySem.W.codeIn K fd.code q && dfB K fd.closure fd.defaults
  | _ => false)
def dflA (K : PySem.W.Frag) (a : Addr) : Addr := match K.lookup a with
  | some ⟨_, _, .func fd, _⟩ => refA fd.defaults
  | _ => 0
theorem fd1_ok {K : PySem.W.Frag} {a : Addr} {x q : Str} {st : Stmt} (e : fq K a = fqv x q st) (c : fd1 K a q = true) :
    ∃ oc od osl kV doc pm an cdv ct oc2 od2 osl2 n2, K.lookup a = some ⟨oc, od, .func (PySem.W.fnOf x q (defArgs st) (defBody st) (defScope st) (.ref (dflA K a)) kV doc pm an cdv ct), osl⟩ ∧ PySem.W.codeIn K cdv q = true ∧ PySem.W.keepIn K (.ref a) = true ∧
      K.lookup (dflA K a) = some ⟨oc2, od2, .seq #[Value.none] n2, osl2⟩ := by
  obtain ⟨oc, od, osl, cl, dV, kV, doc, pm, an, cdv, ct, l⟩ := fq_is e
  obtain ⟨k, c2⟩ := He.ba c
  have eT : dflA K a = refA dV := by
    unfold dflA
    rw [l]
  rw [l] at c2
  obtain ⟨c3, c4⟩ := He.ba (show (PySem.W.codeIn K cdv q && dfB K cl dV) = true from c2)
  cases cl with
  | cons z r => cases c4
  | nil =>
    cases dV with
    | ref T =>
      have eT2 : dflA K a = T := eT
      rw [eT2]
      have c5 : (match K.lookup T with | some ⟨_, _, .seq its _, _⟩ => decide (its.toList = [Value.none]) | _ => false) = true := c4
      split at c5
      · rename_i oc2 od2 its n osl2 h
        have e3 : its.toList = [Value.none] := of_decide_eq_true c5
        obtain ⟨its⟩ := its
        have e4 : its = [Value.none] := e3
        subst e4
        exact ⟨oc, od, osl, kV, doc, pm, an, cdv, ct, oc2, od2, osl2, n, l, c3, k, h⟩
      · cases c5
    | _ => cases c4
/-- an error's own init: its cell, its code -/
def clA : List (Str × Addr) → Addr
  | [z] => z.2
  | _ => 0
def clB : List (Str × Addr) → Value → Value → Bool
  | [z], .none, .ref _ => decide (z.1 = "__class__")
  | _, _, _ => false
def cloA (K : PySem.W.Frag) (a : Addr) : Addr := match K.lookup a with
  | some ⟨_, _, .func fd, _⟩ => clA fd.closure
  | _ => 0
def codA (K : PySem.W.Frag) (a : Addr) : Addr := match K.lookup a with
  | some ⟨_, _, .func fd, _⟩ => refA fd.code
  | _ => 0
def fileB (F : Str) (K : PySem.W.Frag) (ca : Addr) : Bool := match K.lookup ca with
  | some ⟨_, _, .fields vs, _⟩ => (match (vs[2]? : Option Value) with
    | some (.str z _) => F == z
    | _ => false)
  | _ => false
theorem fileB_ok {F : Str} {K : PySem.W.Frag} {ca : Addr} (c : fileB F K ca = true) : ∃ oc od vs osl z tf, K.lookup ca = some ⟨oc, od, .fields vs, osl⟩ ∧ (vs[2]? : Option Value) = some (.str z tf) ∧ (F == z) = true := by
  unfold fileB at c
  split at c
  · rename_i oc od vs osl h
    split at c
    · rename_i z tf h2
      exact ⟨oc, od, vs, osl, z, tf, h, h2, c⟩
    · cases c
  · cases c
def cellB (K : PySem.W.Frag) (cc C : Addr) : Bool := match K.lookup cc with
  | some ⟨_, _, .cell (some (.ref z)), _⟩ => decide (z = C)
  | _ => false
theorem cellB_ok {K : PySem.W.Frag} {cc C : Addr} (c : cellB K cc C = true) : ∃ oc od osl, K.lookup cc = some ⟨oc, od, .cell (some (.ref C)), osl⟩ := by
  unfold cellB at c
  split at c
  · rename_i oc od z osl h
    have e : z = C := of_decide_eq_true c
    subst e
    exact ⟨oc, od, osl, h⟩
  · cases c
def fi (F : Str) (K : PySem.W.Frag) (a C : Addr) (q : Str) : Bool := (match K.lookup a with
  | some ⟨_, _, .func fd, _⟩ => clB fd.closure fd.defaults fd.code
  | _ => false) && (PySem.W.codeIn K (.ref (codA K a)) q && (cellB K (cloA K a) C && fileB F K (codA K a)))
theorem fi_ok {F : Str} {K : PySem.W.Frag} {a C : Addr} {x q : Str} {st : Stmt} (e : fq K a = fqv x q st) (c : fi F K a C q = true) :
    ∃ oc od osl kV doc pm an ct oc2 od2 osl2 oc3 od3 vs osl3 z tf, K.lookup a = some ⟨oc, od, .func (PySem.W.fnX x q (defArgs st) (defBody st) (defScope st) [("__class__", cloA K a)] .none kV doc pm an (.ref (codA K a)) ct), osl⟩ ∧ PySem.W.codeIn K (.ref (codA K a)) q = true ∧
      K.lookup (cloA K a) = some ⟨oc2, od2, .cell (some (.ref C)), osl2⟩ ∧ K.lookup (codA K a) = some ⟨oc3, od3, .fields vs, osl3⟩ ∧ (vs[2]? : Option Value) = some (.str z tf) ∧ (F == z) = true := by
  obtain ⟨oc, od, osl, cl, dV, kV, doc, pm, an, cdv, ct, l⟩ := fq_is e
  obtain ⟨c1, c2⟩ := He.ba c
  obtain ⟨c3, c4⟩ := He.ba c2
  obtain ⟨c5, c6⟩ := He.ba c4
  obtain ⟨oc2, od2, osl2, h2⟩ := cellB_ok c5
  obtain ⟨oc3, od3, vs, osl3, z, tf, h3, h4, h5⟩ := fileB_ok c6
  have eA : cloA K a = clA cl := by
    unfold cloA
    rw [l]
  have eC : codA K a = refA cdv := by
    unfold codA
    rw [l]
  rw [l] at c1
  have c7 : clB cl dV cdv = true := c1
  unfold clB at c7
  split at c7
  · rename_i z1 z2
    obtain ⟨y1, y2⟩ := z1
    have e1 : y1 = "__class__" := of_decide_eq_true c7
    subst e1
    have eA2 : cloA K a = y2 := eA
    have eC2 : codA K a = z2 := eC
    refine ⟨oc, od, osl, kV, doc, pm, an, ct, oc2, od2, osl2, oc3, od3, vs, osl3, z, tf, ?_, c3, h2, h3, h4, h5⟩
    rw [eA2, eC2]
    exact l
  · cases c7
/-- an own error right below B -/
def xc (K : PySem.W.Frag) (C B : Addr) : Bool := match K.lookup C with
  | some ⟨.type "type", _, .cls cd, sl⟩ => (match sl.toList with
    | [_, _, _, _, some (.builtin n), _] => decide (cd.mro = [.ref C, .ref B, .type "ValueError", .type "Exception", .type "BaseException", .type "object"]) && (n == "ValueError.__new__" && (!cd.hasDel && cd.hasDict))
    | _ => false)
  | _ => false
theorem xc_ok {K : PySem.W.Frag} {C B : Addr} (c : xc K C B = true) : ∃ nm q N bs sn sub ab col dd m0 m1 m2 m3 m5, K.lookup C = some (excClassObj nm q C N bs [.ref B, .type "ValueError", .type "Exception", .type "BaseException", .type "object"] true sn sub ab col dd m0 m1 m2 m3 m5 "ValueError.__new__") := by
  unfold xc at c
  split at c
  · rename_i dd cd sl h
    split at c
    · rename_i k0 k1 k2 k3 n k5 hs
      obtain ⟨c1, c2⟩ := He.ba c
      obtain ⟨c3, c4⟩ := He.ba c2
      obtain ⟨c5, c6⟩ := He.ba c4
      obtain ⟨nm, bs, mro, ns, qn, hasD, sn, sub, ab, col, del⟩ := cd
      have e1 : mro = [.ref C, .ref B, .type "ValueError", .type "Exception", .type "BaseException", .type "object"] := of_decide_eq_true c1
      have e2 : n = "ValueError.__new__" := eq_of_beq c3
      have e3 : del = false := by
        cases del
        · rfl
        · cases c5
      have e4 : hasD = true := c6
      subst e1 e2 e3 e4
      have hsl : sl = #[k0, k1, k2, k3, some (.builtin "ValueError.__new__"), k5] := by
        obtain ⟨l⟩ := sl
        simp only at hs
        rw [hs]
      subst hsl
      exact ⟨nm, qn, ns, bs, sn, sub, ab, col, dd, k0, k1, k2, k3, k5, h⟩
    · cases c
  · cases c
def cfB (a : Option PySem.W.CFound) (v : Value) : Bool := match a with
  | some (.val u) => decide (u = v)
  | _ => false
theorem cfB_ok {a : Option PySem.W.CFound} {v : Value} (c : cfB a v = true) : a = some (.val v) := by
  unfold cfB at c
  split at c
  · rw [of_decide_eq_true c]
  · cases c
/-! ### a part of the heap -/
def refsK (o : Obj) : List Addr := match o.data with
  | .dict es _ => es.toList.flatMap fun e => He.refV e.val
  | .func fd => He.refV fd.code ++ He.refV fd.defaults ++ fd.closure.map (·.2)
  | .cls cd => [cd.ns]
  | _ => []
def lv (g : Addr → Option Obj) (as : List Addr) : List Addr := as.flatMap fun a => match g a with
  | some o => refsK o
  | none => []
/-- a list of addresses, written out -/
def frL {α : Type} : List Addr → (List Addr → α) → α
  | [], k => k []
  | a :: r, k => HandSHeadRun.frNat a fun a => frL r fun r => k (a :: r)
def asH (g : Addr → Option Obj) : List Addr := frL (lv g [mainGlobals]) fun l1 => frL (lv g l1) fun l2 => frL (lv g l2) fun l3 => frL (lv g l3) fun l4 => mainGlobals :: cStatics :: (l1 ++ (l2 ++ (l3 ++ l4)))
def kOf (g : Addr → Option Obj) : PySem.W.Frag := He.frG g (asH g)
/-! ### addresses -/
def aB (K : PySem.W.Frag) : Addr := He.ga K "MeanError"
def aCN (K : PySem.W.Frag) : Addr := He.ga K "BadNumber"
def afEN (K : PySem.W.Frag) : Addr := He.ma K (aCN K) "__init__"
def accEN (K : PySem.W.Frag) : Addr := cloA K (afEN K)
def acaEN (K : PySem.W.Frag) : Addr := codA K (afEN K)
def aCR (K : PySem.W.Frag) : Addr := He.ga K "BadRow"
def afER (K : PySem.W.Frag) : Addr := He.ma K (aCR K) "__init__"
def accER (K : PySem.W.Frag) : Addr := cloA K (afER K)
def acaER (K : PySem.W.Frag) : Addr := codA K (afER K)
def aCU (K : PySem.W.Frag) : Addr := He.ga K "Unlike"
def afEU (K : PySem.W.Frag) : Addr := He.ma K (aCU K) "__init__"
def accEU (K : PySem.W.Frag) : Addr := cloA K (afEU K)
def acaEU (K : PySem.W.Frag) : Addr := codA K (afEU K)
def af8 (K : PySem.W.Frag) : Addr := He.ga K "is_whole"
def af9 (K : PySem.W.Frag) : Addr := He.ga K "is_pair"
def af10 (K : PySem.W.Frag) : Addr := He.ga K "is_ratio"
def af11 (K : PySem.W.Frag) : Addr := He.ga K "lowest"
def af12 (K : PySem.W.Frag) : Addr := He.ga K "told"
def af14 (K : PySem.W.Frag) : Addr := He.ga K "minus"
def af15 (K : PySem.W.Frag) : Addr := He.ga K "lower"
def af57 (K : PySem.W.Frag) : Addr := He.ga K "_law_gcd"
def af58 (K : PySem.W.Frag) : Addr := He.ga K "_law_q"
def af59 (K : PySem.W.Frag) : Addr := He.ga K "_law_plus"
def af60 (K : PySem.W.Frag) : Addr := He.ga K "_law_minus"
def af61 (K : PySem.W.Frag) : Addr := He.ga K "_law_times"
def af62 (K : PySem.W.Frag) : Addr := He.ga K "_law_less"
def af18 (K : PySem.W.Frag) : Addr := He.ga K "is_row"
def af28 (K : PySem.W.Frag) : Addr := He.ga K "many_needed"
def af23 (K : PySem.W.Frag) : Addr := He.ga K "over_one_bottom"
def af68 (K : PySem.W.Frag) : Addr := He.ga K "_law_poly"
def af69 (K : PySem.W.Frag) : Addr := He.ga K "_law_p_plus"
def af70 (K : PySem.W.Frag) : Addr := He.ga K "_law_p_at"
def af54 (K : PySem.W.Frag) : Addr := He.ga K "_law_pen"
def af55 (K : PySem.W.Frag) : Addr := He.ga K "_law_draw"
def af56 (K : PySem.W.Frag) : Addr := He.ga K "_law_pick"
def af63 (K : PySem.W.Frag) : Addr := He.ga K "_law_passed"
def af64 (K : PySem.W.Frag) : Addr := He.ga K "_law_ratio"
def af66 (K : PySem.W.Frag) : Addr := He.ga K "_law_lower_one"
def af67 (K : PySem.W.Frag) : Addr := He.ga K "_law_sorted"
def af71 (K : PySem.W.Frag) : Addr := He.ga K "_law_f_piece"
def af72 (K : PySem.W.Frag) : Addr := He.ga K "_law_f_at"
def af73 (K : PySem.W.Frag) : Addr := He.ga K "_law_f_limits"
def af74 (K : PySem.W.Frag) : Addr := He.ga K "_law_made_function"
def af76 (K : PySem.W.Frag) : Addr := He.ga K "_law_drawn_knots"
def af77 (K : PySem.W.Frag) : Addr := He.ga K "_law_drawn_function"
def af19 (K : PySem.W.Frag) : Addr := He.ga K "ascends"
def af20 (K : PySem.W.Frag) : Addr := He.ga K "told_row"
def af35 (K : PySem.W.Frag) : Addr := He.ga K "is_row_of_polys"
def af36 (K : PySem.W.Frag) : Addr := He.ga K "place_in"
def af37 (K : PySem.W.Frag) : Addr := He.ga K "piece_from"
def af38 (K : PySem.W.Frag) : Addr := He.ga K "knot_limits"
def af39 (K : PySem.W.Frag) : Addr := He.ga K "numbers_and_limits"
def af16 (K : PySem.W.Frag) : Addr := He.ga K "gap_of"
def af21 (K : PySem.W.Frag) : Addr := He.ga K "sum_of"
def af22 (K : PySem.W.Frag) : Addr := He.ga K "are_whole_parts"
def af24 (K : PySem.W.Frag) : Addr := He.ga K "joint_sums"
def af25 (K : PySem.W.Frag) : Addr := He.ga K "joint_sum"
def af43 (K : PySem.W.Frag) : Addr := He.ga K "are_parts"
def af44 (K : PySem.W.Frag) : Addr := He.ga K "is_bounded_kind"
def af45 (K : PySem.W.Frag) : Addr := He.ga K "is_within"
def af46 (K : PySem.W.Frag) : Addr := He.ga K "means_of"
def af47 (K : PySem.W.Frag) : Addr := He.ga K "check_one_stretch"
def af48 (K : PySem.W.Frag) : Addr := He.ga K "functions_of"
def af49 (K : PySem.W.Frag) : Addr := He.ga K "gap_missed"
def af50 (K : PySem.W.Frag) : Addr := He.ga K "check_places"
def af51 (K : PySem.W.Frag) : Addr := He.ga K "missed"
def af65 (K : PySem.W.Frag) : Addr := He.ga K "_law_interval"
def af75 (K : PySem.W.Frag) : Addr := He.ga K "_law_f_of"
def af78 (K : PySem.W.Frag) : Addr := He.ga K "_law_share_mean"
def af79 (K : PySem.W.Frag) : Addr := He.ga K "_law_drawn_share"
def af80 (K : PySem.W.Frag) : Addr := He.ga K "_law_made_told"
def af81 (K : PySem.W.Frag) : Addr := He.ga K "_law_passed_row"
def af82 (K : PySem.W.Frag) : Addr := He.ga K "_law_made_share"
def af83 (K : PySem.W.Frag) : Addr := He.ga K "_law_row"
def acP (K : PySem.W.Frag) : Addr := He.ga K "Poly"
def afm0 (K : PySem.W.Frag) : Addr := He.ma K (acP K) "__init__"
def afm10 (K : PySem.W.Frag) : Addr := He.ma K (acP K) "at"
def acB (K : PySem.W.Frag) : Addr := He.ga K "Broken"
def afq0 (K : PySem.W.Frag) : Addr := He.ma K (acB K) "__init__"
def afq2 (K : PySem.W.Frag) : Addr := He.ma K (acB K) "value"
def afq5 (K : PySem.W.Frag) : Addr := He.ma K (acB K) "is_upper"
def afq6 (K : PySem.W.Frag) : Addr := He.ma K (acB K) "is_lower"
def acS (K : PySem.W.Frag) : Addr := He.ga K "Share"
def afsq0 (K : PySem.W.Frag) : Addr := He.ma K (acS K) "__init__"
def acT (K : PySem.W.Frag) : Addr := He.ga K "Told"
def aftq0 (K : PySem.W.Frag) : Addr := He.ma K (acT K) "__init__"
def af84 (K : PySem.W.Frag) : Addr := He.ga K "law"
def af52 (K : PySem.W.Frag) : Addr := He.ga K "fits"
def aaT52 (K : PySem.W.Frag) : Addr := dflA K (af52 K)
/-! ### facts -/
def t_qaB (K : PySem.W.Frag) : Bool := decide (PySem.W.nsIn K mainGlobals "MeanError" = some (some (.ref (aB K))))
def t_qrB (K : PySem.W.Frag) : Bool := decide (PySem.W.readsIn K (aB K) (.type "type") = true)
def t_qsB (K : PySem.W.Frag) : Bool := decide (PySem.W.specialIn K (.ref (aB K)) "__getattribute__" = some (some (.builtin "type.__getattribute__")))
def t_qfB (K : PySem.W.Frag) : Bool := cfB (PySem.W.findCls K (.ref (aB K)) (.type "type") "__init__") (.builtin "ValueError.__init__")
def t_qcB (K : PySem.W.Frag) : Bool := decide (PySem.W.isClsIn K (aB K) = true)
def t_qtB (K : PySem.W.Frag) : Bool := decide (PySem.W.typeIn K (.ref (aB K)) = some (.type "type"))
def t_hn (K : PySem.W.Frag) : Bool := decide (PySem.W.specialIn K (.builtin "object.__class__") "__get__" = some (some (.builtin "getset_descriptor.__get__")))
def t_ht (K : PySem.W.Frag) : Bool := decide (PySem.W.takesIn K (.builtin "object.__class__") = some true)
def t_aCN (K : PySem.W.Frag) : Bool := decide (PySem.W.nsIn K mainGlobals "BadNumber" = some (some (.ref (aCN K))))
def t_xc_CN (K : PySem.W.Frag) : Bool := decide (xc K (aCN K) (aB K) = true)
def t_saN (K : PySem.W.Frag) : Bool := decide (PySem.W.findIn K (.ref (aCN K)) "__setattr__" = some (some (.builtin "object.__setattr__")))
def t_gaN (K : PySem.W.Frag) : Bool := decide (PySem.W.findIn K (.ref (aCN K)) "__getattribute__" = some (some (.builtin "BaseException.__getattribute__")))
def t_ggN (K : PySem.W.Frag) : Bool := decide (PySem.W.findIn K (.ref (aCN K)) "__getattr__" = some none)
def t_exN (K : PySem.W.Frag) : Bool := decide (PySem.W.subIn K (.ref (aCN K)) (.type "BaseException") = some true)
def t_tyN (K : PySem.W.Frag) : Bool := decide (PySem.W.typeIn K (.ref (aCN K)) = some (.type "type"))
def t_kpN (K : PySem.W.Frag) : Bool := decide (PySem.W.keepIn K (.ref (aCN K)) = true)
def t_hdN (K : PySem.W.Frag) : Bool := decide (PySem.W.hasDictIn K (aCN K) = true)
def t_haN (K : PySem.W.Frag) : Bool := decide (PySem.W.findIn K (.ref (aCN K)) "__class__" = some (some (.builtin "object.__class__")))
def t_hmN (K : PySem.W.Frag) : Bool := decide (PySem.W.mroIn K (aCN K) (.type "object") = some true)
def t_nN1 (K : PySem.W.Frag) : Bool := decide (PySem.W.findIn K (.ref (aCN K)) "what" = some none)
def t_nN2 (K : PySem.W.Frag) : Bool := decide (PySem.W.findIn K (.ref (aCN K)) "number" = some none)
def t_iN (K : PySem.W.Frag) : Bool := decide (PySem.W.findIn K (.ref (aCN K)) "__init__" = some (some (.ref (afEN K))))
def t_tN (K : PySem.W.Frag) : Bool := decide (PySem.W.typeIn K (.ref (afEN K)) = some (.type "function"))
def t_fi_fEN (K : PySem.W.Frag) : Bool := decide (fi PySem.Challenge.pw_toldmeans_k09_whole_fits_to_a_gap.main.file K (afEN K) (aCN K) "BadNumber.__init__" = true)
def t_owEN (K : PySem.W.Frag) : Bool := decide (PySem.W.mroIn K (aCN K) (.ref (aCN K)) = some true)
def t_nxEN (K : PySem.W.Frag) : Bool := decide (PySem.W.ks_superIn K (aCN K) (aCN K) "__init__" = some (some (.builtin "ValueError.__init__")))
def t_ivEN (K : PySem.W.Frag) : Bool := decide (PySem.W.subIn K (.ref (aCN K)) (.type "ValueError") = some true)
def t_aCR (K : PySem.W.Frag) : Bool := decide (PySem.W.nsIn K mainGlobals "BadRow" = some (some (.ref (aCR K))))
def t_xc_CR (K : PySem.W.Frag) : Bool := decide (xc K (aCR K) (aB K) = true)
def t_saR (K : PySem.W.Frag) : Bool := decide (PySem.W.findIn K (.ref (aCR K)) "__setattr__" = some (some (.builtin "object.__setattr__")))
def t_gaR (K : PySem.W.Frag) : Bool := decide (PySem.W.findIn K (.ref (aCR K)) "__getattribute__" = some (some (.builtin "BaseException.__getattribute__")))
def t_ggR (K : PySem.W.Frag) : Bool := decide (PySem.W.findIn K (.ref (aCR K)) "__getattr__" = some none)
def t_exR (K : PySem.W.Frag) : Bool := decide (PySem.W.subIn K (.ref (aCR K)) (.type "BaseException") = some true)
def t_tyR (K : PySem.W.Frag) : Bool := decide (PySem.W.typeIn K (.ref (aCR K)) = some (.type "type"))
def t_kpR (K : PySem.W.Frag) : Bool := decide (PySem.W.keepIn K (.ref (aCR K)) = true)
def t_hdR (K : PySem.W.Frag) : Bool := decide (PySem.W.hasDictIn K (aCR K) = true)
def t_haR (K : PySem.W.Frag) : Bool := decide (PySem.W.findIn K (.ref (aCR K)) "__class__" = some (some (.builtin "object.__class__")))
def t_hmR (K : PySem.W.Frag) : Bool := decide (PySem.W.mroIn K (aCR K) (.type "object") = some true)
def t_nR1 (K : PySem.W.Frag) : Bool := decide (PySem.W.findIn K (.ref (aCR K)) "row" = some none)
def t_iR (K : PySem.W.Frag) : Bool := decide (PySem.W.findIn K (.ref (aCR K)) "__init__" = some (some (.ref (afER K))))
def t_tR (K : PySem.W.Frag) : Bool := decide (PySem.W.typeIn K (.ref (afER K)) = some (.type "function"))
def t_fi_fER (K : PySem.W.Frag) : Bool := decide (fi PySem.Challenge.pw_toldmeans_k09_whole_fits_to_a_gap.main.file K (afER K) (aCR K) "BadRow.__init__" = true)
def t_owER (K : PySem.W.Frag) : Bool := decide (PySem.W.mroIn K (aCR K) (.ref (aCR K)) = some true)
def t_nxER (K : PySem.W.Frag) : Bool := decide (PySem.W.ks_superIn K (aCR K) (aCR K) "__init__" = some (some (.builtin "ValueError.__init__")))
def t_ivER (K : PySem.W.Frag) : Bool := decide (PySem.W.subIn K (.ref (aCR K)) (.type "ValueError") = some true)
def t_aCU (K : PySem.W.Frag) : Bool := decide (PySem.W.nsIn K mainGlobals "Unlike" = some (some (.ref (aCU K))))
def t_xc_CU (K : PySem.W.Frag) : Bool := decide (xc K (aCU K) (aB K) = true)
def t_saU (K : PySem.W.Frag) : Bool := decide (PySem.W.findIn K (.ref (aCU K)) "__setattr__" = some (some (.builtin "object.__setattr__")))
def t_gaU (K : PySem.W.Frag) : Bool := decide (PySem.W.findIn K (.ref (aCU K)) "__getattribute__" = some (some (.builtin "BaseException.__getattribute__")))
def t_ggU (K : PySem.W.Frag) : Bool := decide (PySem.W.findIn K (.ref (aCU K)) "__getattr__" = some none)
def t_exU (K : PySem.W.Frag) : Bool := decide (PySem.W.subIn K (.ref (aCU K)) (.type "BaseException") = some true)
def t_tyU (K : PySem.W.Frag) : Bool := decide (PySem.W.typeIn K (.ref (aCU K)) = some (.type "type"))
def t_kpU (K : PySem.W.Frag) : Bool := decide (PySem.W.keepIn K (.ref (aCU K)) = true)
def t_hdU (K : PySem.W.Frag) : Bool := decide (PySem.W.hasDictIn K (aCU K) = true)
def t_haU (K : PySem.W.Frag) : Bool := decide (PySem.W.findIn K (.ref (aCU K)) "__class__" = some (some (.builtin "object.__class__")))
def t_hmU (K : PySem.W.Frag) : Bool := decide (PySem.W.mroIn K (aCU K) (.type "object") = some true)
def t_nU1 (K : PySem.W.Frag) : Bool := decide (PySem.W.findIn K (.ref (aCU K)) "what" = some none)
def t_iU (K : PySem.W.Frag) : Bool := decide (PySem.W.findIn K (.ref (aCU K)) "__init__" = some (some (.ref (afEU K))))
def t_tU (K : PySem.W.Frag) : Bool := decide (PySem.W.typeIn K (.ref (afEU K)) = some (.type "function"))
def t_fi_fEU (K : PySem.W.Frag) : Bool := decide (fi PySem.Challenge.pw_toldmeans_k09_whole_fits_to_a_gap.main.file K (afEU K) (aCU K) "Unlike.__init__" = true)
def t_owEU (K : PySem.W.Frag) : Bool := decide (PySem.W.mroIn K (aCU K) (.ref (aCU K)) = some true)
def t_nxEU (K : PySem.W.Frag) : Bool := decide (PySem.W.ks_superIn K (aCU K) (aCU K) "__init__" = some (some (.builtin "ValueError.__init__")))
def t_ivEU (K : PySem.W.Frag) : Bool := decide (PySem.W.subIn K (.ref (aCU K)) (.type "ValueError") = some true)
def t_zs (K : PySem.W.Frag) : Bool := decide (PySem.W.nsIn K mainGlobals "super" = some none)
def t_op (K : PySem.W.Frag) : Bool := decide (PySem.W.nsIn K cStatics "thirdparty.any" = some none)
def t_z_len (K : PySem.W.Frag) : Bool := decide (PySem.W.nsIn K mainGlobals "len" = some none)
def t_z_int (K : PySem.W.Frag) : Bool := decide (PySem.W.nsIn K mainGlobals "int" = some none)
def t_z_list (K : PySem.W.Frag) : Bool := decide (PySem.W.nsIn K mainGlobals "list" = some none)
def t_z_range (K : PySem.W.Frag) : Bool := decide (PySem.W.nsIn K mainGlobals "range" = some none)
def t_z_mIsi (K : PySem.W.Frag) : Bool := decide (PySem.W.nsIn K mainGlobals "isinstance" = some none)
def t_z_mBool (K : PySem.W.Frag) : Bool := decide (PySem.W.nsIn K mainGlobals "bool" = some none)
def t_z_mTuple (K : PySem.W.Frag) : Bool := decide (PySem.W.nsIn K mainGlobals "tuple" = some none)
def t_z_mMax (K : PySem.W.Frag) : Bool := decide (PySem.W.nsIn K mainGlobals "max" = some none)
def t_z_mAll (K : PySem.W.Frag) : Bool := decide (PySem.W.nsIn K mainGlobals "all" = some none)
def t_z_mEnum (K : PySem.W.Frag) : Bool := decide (PySem.W.nsIn K mainGlobals "enumerate" = some none)
def t_z_mRev (K : PySem.W.Frag) : Bool := decide (PySem.W.nsIn K mainGlobals "reversed" = some none)
def t_z_mZip (K : PySem.W.Frag) : Bool := decide (PySem.W.nsIn K mainGlobals "zip" = some none)
def t_z_mAbs (K : PySem.W.Frag) : Bool := decide (PySem.W.nsIn K mainGlobals "abs" = some none)
def t_z_mStr (K : PySem.W.Frag) : Bool := decide (PySem.W.nsIn K mainGlobals "str" = some none)
def t_z_mRepr (K : PySem.W.Frag) : Bool := decide (PySem.W.nsIn K mainGlobals "repr" = some none)
def t_z_mDm (K : PySem.W.Frag) : Bool := decide (PySem.W.nsIn K mainGlobals "divmod" = some none)
def t_z_mNi (K : PySem.W.Frag) : Bool := decide (PySem.W.nsIn K mainGlobals "NotImplemented" = some none)
def t_z_mAny (K : PySem.W.Frag) : Bool := decide (PySem.W.nsIn K mainGlobals "any" = some none)
def t_z_mSum (K : PySem.W.Frag) : Bool := decide (PySem.W.nsIn K mainGlobals "sum" = some none)
def t_z_gcd (K : PySem.W.Frag) : Bool := decide (PySem.W.nsIn K mainGlobals "gcd" = some (some (.builtin "math.gcd")))
def t_z_lcm (K : PySem.W.Frag) : Bool := decide (PySem.W.nsIn K mainGlobals "lcm" = some (some (.builtin "math.lcm")))
def t_g8 (K : PySem.W.Frag) : Bool := decide (PySem.W.nsIn K mainGlobals "is_whole" = some (some (.ref (af8 K))))
def t_fp_f8 (K : PySem.W.Frag) : Bool := decide (fp K (af8 K) "is_whole" = true)
def t_g9 (K : PySem.W.Frag) : Bool := decide (PySem.W.nsIn K mainGlobals "is_pair" = some (some (.ref (af9 K))))
def t_fp_f9 (K : PySem.W.Frag) : Bool := decide (fp K (af9 K) "is_pair" = true)
def t_g10 (K : PySem.W.Frag) : Bool := decide (PySem.W.nsIn K mainGlobals "is_ratio" = some (some (.ref (af10 K))))
def t_fp_f10 (K : PySem.W.Frag) : Bool := decide (fp K (af10 K) "is_ratio" = true)
def t_g11 (K : PySem.W.Frag) : Bool := decide (PySem.W.nsIn K mainGlobals "lowest" = some (some (.ref (af11 K))))
def t_fp_f11 (K : PySem.W.Frag) : Bool := decide (fp K (af11 K) "lowest" = true)
def t_g12 (K : PySem.W.Frag) : Bool := decide (PySem.W.nsIn K mainGlobals "told" = some (some (.ref (af12 K))))
def t_fp_f12 (K : PySem.W.Frag) : Bool := decide (fp K (af12 K) "told" = true)
def t_g14 (K : PySem.W.Frag) : Bool := decide (PySem.W.nsIn K mainGlobals "minus" = some (some (.ref (af14 K))))
def t_fp_f14 (K : PySem.W.Frag) : Bool := decide (fp K (af14 K) "minus" = true)
def t_g15 (K : PySem.W.Frag) : Bool := decide (PySem.W.nsIn K mainGlobals "lower" = some (some (.ref (af15 K))))
def t_fp_f15 (K : PySem.W.Frag) : Bool := decide (fp K (af15 K) "lower" = true)
def t_g57 (K : PySem.W.Frag) : Bool := decide (PySem.W.nsIn K mainGlobals "_law_gcd" = some (some (.ref (af57 K))))
def t_fp_f57 (K : PySem.W.Frag) : Bool := decide (fp K (af57 K) "_law_gcd" = true)
def t_g58 (K : PySem.W.Frag) : Bool := decide (PySem.W.nsIn K mainGlobals "_law_q" = some (some (.ref (af58 K))))
def t_fp_f58 (K : PySem.W.Frag) : Bool := decide (fp K (af58 K) "_law_q" = true)
def t_g59 (K : PySem.W.Frag) : Bool := decide (PySem.W.nsIn K mainGlobals "_law_plus" = some (some (.ref (af59 K))))
def t_fp_f59 (K : PySem.W.Frag) : Bool := decide (fp K (af59 K) "_law_plus" = true)
def t_g60 (K : PySem.W.Frag) : Bool := decide (PySem.W.nsIn K mainGlobals "_law_minus" = some (some (.ref (af60 K))))
def t_fp_f60 (K : PySem.W.Frag) : Bool := decide (fp K (af60 K) "_law_minus" = true)
def t_g61 (K : PySem.W.Frag) : Bool := decide (PySem.W.nsIn K mainGlobals "_law_times" = some (some (.ref (af61 K))))
def t_fp_f61 (K : PySem.W.Frag) : Bool := decide (fp K (af61 K) "_law_times" = true)
def t_g62 (K : PySem.W.Frag) : Bool := decide (PySem.W.nsIn K mainGlobals "_law_less" = some (some (.ref (af62 K))))
def t_fp_f62 (K : PySem.W.Frag) : Bool := decide (fp K (af62 K) "_law_less" = true)
def t_g18 (K : PySem.W.Frag) : Bool := decide (PySem.W.nsIn K mainGlobals "is_row" = some (some (.ref (af18 K))))
def t_fp_f18 (K : PySem.W.Frag) : Bool := decide (fp K (af18 K) "is_row" = true)
def t_g28 (K : PySem.W.Frag) : Bool := decide (PySem.W.nsIn K mainGlobals "many_needed" = some (some (.ref (af28 K))))
def t_fp_f28 (K : PySem.W.Frag) : Bool := decide (fp K (af28 K) "many_needed" = true)
def t_g23 (K : PySem.W.Frag) : Bool := decide (PySem.W.nsIn K mainGlobals "over_one_bottom" = some (some (.ref (af23 K))))
def t_fp_f23 (K : PySem.W.Frag) : Bool := decide (fp K (af23 K) "over_one_bottom" = true)
def t_g68 (K : PySem.W.Frag) : Bool := decide (PySem.W.nsIn K mainGlobals "_law_poly" = some (some (.ref (af68 K))))
def t_fp_f68 (K : PySem.W.Frag) : Bool := decide (fp K (af68 K) "_law_poly" = true)
def t_g69 (K : PySem.W.Frag) : Bool := decide (PySem.W.nsIn K mainGlobals "_law_p_plus" = some (some (.ref (af69 K))))
def t_fp_f69 (K : PySem.W.Frag) : Bool := decide (fp K (af69 K) "_law_p_plus" = true)
def t_g70 (K : PySem.W.Frag) : Bool := decide (PySem.W.nsIn K mainGlobals "_law_p_at" = some (some (.ref (af70 K))))
def t_fp_f70 (K : PySem.W.Frag) : Bool := decide (fp K (af70 K) "_law_p_at" = true)
def t_g54 (K : PySem.W.Frag) : Bool := decide (PySem.W.nsIn K mainGlobals "_law_pen" = some (some (.ref (af54 K))))
def t_fp_f54 (K : PySem.W.Frag) : Bool := decide (fp K (af54 K) "_law_pen" = true)
def t_g55 (K : PySem.W.Frag) : Bool := decide (PySem.W.nsIn K mainGlobals "_law_draw" = some (some (.ref (af55 K))))
def t_fp_f55 (K : PySem.W.Frag) : Bool := decide (fp K (af55 K) "_law_draw" = true)
def t_g56 (K : PySem.W.Frag) : Bool := decide (PySem.W.nsIn K mainGlobals "_law_pick" = some (some (.ref (af56 K))))
def t_fp_f56 (K : PySem.W.Frag) : Bool := decide (fp K (af56 K) "_law_pick" = true)
def t_g63 (K : PySem.W.Frag) : Bool := decide (PySem.W.nsIn K mainGlobals "_law_passed" = some (some (.ref (af63 K))))
def t_fp_f63 (K : PySem.W.Frag) : Bool := decide (fp K (af63 K) "_law_passed" = true)
def t_g64 (K : PySem.W.Frag) : Bool := decide (PySem.W.nsIn K mainGlobals "_law_ratio" = some (some (.ref (af64 K))))
def t_fp_f64 (K : PySem.W.Frag) : Bool := decide (fp K (af64 K) "_law_ratio" = true)
def t_g66 (K : PySem.W.Frag) : Bool := decide (PySem.W.nsIn K mainGlobals "_law_lower_one" = some (some (.ref (af66 K))))
def t_fp_f66 (K : PySem.W.Frag) : Bool := decide (fp K (af66 K) "_law_lower_one" = true)
def t_g67 (K : PySem.W.Frag) : Bool := decide (PySem.W.nsIn K mainGlobals "_law_sorted" = some (some (.ref (af67 K))))
def t_fp_f67 (K : PySem.W.Frag) : Bool := decide (fp K (af67 K) "_law_sorted" = true)
def t_g71 (K : PySem.W.Frag) : Bool := decide (PySem.W.nsIn K mainGlobals "_law_f_piece" = some (some (.ref (af71 K))))
def t_fp_f71 (K : PySem.W.Frag) : Bool := decide (fp K (af71 K) "_law_f_piece" = true)
def t_g72 (K : PySem.W.Frag) : Bool := decide (PySem.W.nsIn K mainGlobals "_law_f_at" = some (some (.ref (af72 K))))
def t_fp_f72 (K : PySem.W.Frag) : Bool := decide (fp K (af72 K) "_law_f_at" = true)
def t_g73 (K : PySem.W.Frag) : Bool := decide (PySem.W.nsIn K mainGlobals "_law_f_limits" = some (some (.ref (af73 K))))
def t_fp_f73 (K : PySem.W.Frag) : Bool := decide (fp K (af73 K) "_law_f_limits" = true)
def t_g74 (K : PySem.W.Frag) : Bool := decide (PySem.W.nsIn K mainGlobals "_law_made_function" = some (some (.ref (af74 K))))
def t_fp_f74 (K : PySem.W.Frag) : Bool := decide (fp K (af74 K) "_law_made_function" = true)
def t_g76 (K : PySem.W.Frag) : Bool := decide (PySem.W.nsIn K mainGlobals "_law_drawn_knots" = some (some (.ref (af76 K))))
def t_fp_f76 (K : PySem.W.Frag) : Bool := decide (fp K (af76 K) "_law_drawn_knots" = true)
def t_g77 (K : PySem.W.Frag) : Bool := decide (PySem.W.nsIn K mainGlobals "_law_drawn_function" = some (some (.ref (af77 K))))
def t_fp_f77 (K : PySem.W.Frag) : Bool := decide (fp K (af77 K) "_law_drawn_function" = true)
def t_g19 (K : PySem.W.Frag) : Bool := decide (PySem.W.nsIn K mainGlobals "ascends" = some (some (.ref (af19 K))))
def t_fp_f19 (K : PySem.W.Frag) : Bool := decide (fp K (af19 K) "ascends" = true)
def t_g20 (K : PySem.W.Frag) : Bool := decide (PySem.W.nsIn K mainGlobals "told_row" = some (some (.ref (af20 K))))
def t_fp_f20 (K : PySem.W.Frag) : Bool := decide (fp K (af20 K) "told_row" = true)
def t_g35 (K : PySem.W.Frag) : Bool := decide (PySem.W.nsIn K mainGlobals "is_row_of_polys" = some (some (.ref (af35 K))))
def t_fp_f35 (K : PySem.W.Frag) : Bool := decide (fp K (af35 K) "is_row_of_polys" = true)
def t_g36 (K : PySem.W.Frag) : Bool := decide (PySem.W.nsIn K mainGlobals "place_in" = some (some (.ref (af36 K))))
def t_fp_f36 (K : PySem.W.Frag) : Bool := decide (fp K (af36 K) "place_in" = true)
def t_g37 (K : PySem.W.Frag) : Bool := decide (PySem.W.nsIn K mainGlobals "piece_from" = some (some (.ref (af37 K))))
def t_fp_f37 (K : PySem.W.Frag) : Bool := decide (fp K (af37 K) "piece_from" = true)
def t_g38 (K : PySem.W.Frag) : Bool := decide (PySem.W.nsIn K mainGlobals "knot_limits" = some (some (.ref (af38 K))))
def t_fp_f38 (K : PySem.W.Frag) : Bool := decide (fp K (af38 K) "knot_limits" = true)
def t_g39 (K : PySem.W.Frag) : Bool := decide (PySem.W.nsIn K mainGlobals "numbers_and_limits" = some (some (.ref (af39 K))))
def t_fp_f39 (K : PySem.W.Frag) : Bool := decide (fp K (af39 K) "numbers_and_limits" = true)
def t_g16 (K : PySem.W.Frag) : Bool := decide (PySem.W.nsIn K mainGlobals "gap_of" = some (some (.ref (af16 K))))
def t_fp_f16 (K : PySem.W.Frag) : Bool := decide (fp K (af16 K) "gap_of" = true)
def t_g21 (K : PySem.W.Frag) : Bool := decide (PySem.W.nsIn K mainGlobals "sum_of" = some (some (.ref (af21 K))))
def t_fp_f21 (K : PySem.W.Frag) : Bool := decide (fp K (af21 K) "sum_of" = true)
def t_g22 (K : PySem.W.Frag) : Bool := decide (PySem.W.nsIn K mainGlobals "are_whole_parts" = some (some (.ref (af22 K))))
def t_fp_f22 (K : PySem.W.Frag) : Bool := decide (fp K (af22 K) "are_whole_parts" = true)
def t_g24 (K : PySem.W.Frag) : Bool := decide (PySem.W.nsIn K mainGlobals "joint_sums" = some (some (.ref (af24 K))))
def t_fp_f24 (K : PySem.W.Frag) : Bool := decide (fp K (af24 K) "joint_sums" = true)
def t_g25 (K : PySem.W.Frag) : Bool := decide (PySem.W.nsIn K mainGlobals "joint_sum" = some (some (.ref (af25 K))))
def t_fp_f25 (K : PySem.W.Frag) : Bool := decide (fp K (af25 K) "joint_sum" = true)
def t_g43 (K : PySem.W.Frag) : Bool := decide (PySem.W.nsIn K mainGlobals "are_parts" = some (some (.ref (af43 K))))
def t_fp_f43 (K : PySem.W.Frag) : Bool := decide (fp K (af43 K) "are_parts" = true)
def t_g44 (K : PySem.W.Frag) : Bool := decide (PySem.W.nsIn K mainGlobals "is_bounded_kind" = some (some (.ref (af44 K))))
def t_fp_f44 (K : PySem.W.Frag) : Bool := decide (fp K (af44 K) "is_bounded_kind" = true)
def t_g45 (K : PySem.W.Frag) : Bool := decide (PySem.W.nsIn K mainGlobals "is_within" = some (some (.ref (af45 K))))
def t_fp_f45 (K : PySem.W.Frag) : Bool := decide (fp K (af45 K) "is_within" = true)
def t_g46 (K : PySem.W.Frag) : Bool := decide (PySem.W.nsIn K mainGlobals "means_of" = some (some (.ref (af46 K))))
def t_fp_f46 (K : PySem.W.Frag) : Bool := decide (fp K (af46 K) "means_of" = true)
def t_g47 (K : PySem.W.Frag) : Bool := decide (PySem.W.nsIn K mainGlobals "check_one_stretch" = some (some (.ref (af47 K))))
def t_fp_f47 (K : PySem.W.Frag) : Bool := decide (fp K (af47 K) "check_one_stretch" = true)
def t_g48 (K : PySem.W.Frag) : Bool := decide (PySem.W.nsIn K mainGlobals "functions_of" = some (some (.ref (af48 K))))
def t_fp_f48 (K : PySem.W.Frag) : Bool := decide (fp K (af48 K) "functions_of" = true)
def t_g49 (K : PySem.W.Frag) : Bool := decide (PySem.W.nsIn K mainGlobals "gap_missed" = some (some (.ref (af49 K))))
def t_fp_f49 (K : PySem.W.Frag) : Bool := decide (fp K (af49 K) "gap_missed" = true)
def t_g50 (K : PySem.W.Frag) : Bool := decide (PySem.W.nsIn K mainGlobals "check_places" = some (some (.ref (af50 K))))
def t_fp_f50 (K : PySem.W.Frag) : Bool := decide (fp K (af50 K) "check_places" = true)
def t_g51 (K : PySem.W.Frag) : Bool := decide (PySem.W.nsIn K mainGlobals "missed" = some (some (.ref (af51 K))))
def t_fp_f51 (K : PySem.W.Frag) : Bool := decide (fp K (af51 K) "missed" = true)
def t_g65 (K : PySem.W.Frag) : Bool := decide (PySem.W.nsIn K mainGlobals "_law_interval" = some (some (.ref (af65 K))))
def t_fp_f65 (K : PySem.W.Frag) : Bool := decide (fp K (af65 K) "_law_interval" = true)
def t_g75 (K : PySem.W.Frag) : Bool := decide (PySem.W.nsIn K mainGlobals "_law_f_of" = some (some (.ref (af75 K))))
def t_fp_f75 (K : PySem.W.Frag) : Bool := decide (fp K (af75 K) "_law_f_of" = true)
def t_g78 (K : PySem.W.Frag) : Bool := decide (PySem.W.nsIn K mainGlobals "_law_share_mean" = some (some (.ref (af78 K))))
def t_fp_f78 (K : PySem.W.Frag) : Bool := decide (fp K (af78 K) "_law_share_mean" = true)
def t_g79 (K : PySem.W.Frag) : Bool := decide (PySem.W.nsIn K mainGlobals "_law_drawn_share" = some (some (.ref (af79 K))))
def t_fp_f79 (K : PySem.W.Frag) : Bool := decide (fp K (af79 K) "_law_drawn_share" = true)
def t_g80 (K : PySem.W.Frag) : Bool := decide (PySem.W.nsIn K mainGlobals "_law_made_told" = some (some (.ref (af80 K))))
def t_fp_f80 (K : PySem.W.Frag) : Bool := decide (fp K (af80 K) "_law_made_told" = true)
def t_g81 (K : PySem.W.Frag) : Bool := decide (PySem.W.nsIn K mainGlobals "_law_passed_row" = some (some (.ref (af81 K))))
def t_fp_f81 (K : PySem.W.Frag) : Bool := decide (fp K (af81 K) "_law_passed_row" = true)
def t_g82 (K : PySem.W.Frag) : Bool := decide (PySem.W.nsIn K mainGlobals "_law_made_share" = some (some (.ref (af82 K))))
def t_fp_f82 (K : PySem.W.Frag) : Bool := decide (fp K (af82 K) "_law_made_share" = true)
def t_g83 (K : PySem.W.Frag) : Bool := decide (PySem.W.nsIn K mainGlobals "_law_row" = some (some (.ref (af83 K))))
def t_fp_f83 (K : PySem.W.Frag) : Bool := decide (fp K (af83 K) "_law_row" = true)
def t_pG (K : PySem.W.Frag) : Bool := decide (PySem.W.nsIn K mainGlobals "Poly" = some (some (.ref (acP K))))
def t_p1 (K : PySem.W.Frag) : Bool := decide (PySem.W.plainGet K (acP K) Str.empty = true)
def t_p2 (K : PySem.W.Frag) : Bool := decide (PySem.W.hasDictIn K (acP K) = true)
def t_p3 (K : PySem.W.Frag) : Bool := decide (PySem.W.plainOver K (acP K) = true)
def t_p4 (K : PySem.W.Frag) : Bool := decide (PySem.W.findIn K (.ref (acP K)) "__setattr__" = some (some (.builtin "object.__setattr__")))
def t_p5 (K : PySem.W.Frag) : Bool := decide (PySem.W.findIn K (.ref (acP K)) "numbers" = some none)
def t_p6 (K : PySem.W.Frag) : Bool := decide (PySem.W.findIn K (.ref (acP K)) "__class__" = some (some (.builtin "object.__class__")))
def t_p7 (K : PySem.W.Frag) : Bool := decide (PySem.W.mroIn K (acP K) (.type "object") = some true)
def t_p8 (K : PySem.W.Frag) : Bool := decide (PySem.W.makesIn K (acP K) = true)
def t_p9 (K : PySem.W.Frag) : Bool := decide (PySem.W.keepIn K (.ref (acP K)) = true)
def t_pa (K : PySem.W.Frag) : Bool := decide (PySem.W.selfFirst K (acP K) = true)
def t_pn_int (K : PySem.W.Frag) : Bool := decide (PySem.W.kitOne K (.type "int") (.ref (acP K)) = some false)
def t_pn_bool (K : PySem.W.Frag) : Bool := decide (PySem.W.kitOne K (.type "bool") (.ref (acP K)) = some false)
def t_pn_str (K : PySem.W.Frag) : Bool := decide (PySem.W.kitOne K (.type "str") (.ref (acP K)) = some false)
def t_pn_NoneType (K : PySem.W.Frag) : Bool := decide (PySem.W.kitOne K (.type "NoneType") (.ref (acP K)) = some false)
def t_pn_tuple (K : PySem.W.Frag) : Bool := decide (PySem.W.kitOne K (.type "tuple") (.ref (acP K)) = some false)
def t_pn_list (K : PySem.W.Frag) : Bool := decide (PySem.W.kitOne K (.type "list") (.ref (acP K)) = some false)
def t_pn_dict (K : PySem.W.Frag) : Bool := decide (PySem.W.kitOne K (.type "dict") (.ref (acP K)) = some false)
def t_pi1 (K : PySem.W.Frag) : Bool := decide (PySem.W.subIn K (.type "int") (.ref (acP K)) = some false)
def t_pi2 (K : PySem.W.Frag) : Bool := decide (PySem.W.subIn K (.ref (acP K)) (.type "int") = some false)
def t_pt1 (K : PySem.W.Frag) : Bool := decide (PySem.W.subIn K (.type "tuple") (.ref (acP K)) = some false)
def t_pt2 (K : PySem.W.Frag) : Bool := decide (PySem.W.subIn K (.ref (acP K)) (.type "tuple") = some false)
def t_mem0 (K : PySem.W.Frag) : Bool := decide (PySem.W.findIn K (.ref (acP K)) "__init__" = some (some (.ref (afm0 K))))
def t_ism0 (K : PySem.W.Frag) : Bool := decide (PySem.W.isFn K (.ref (afm0 K)) = true)
def t_fp_fm0 (K : PySem.W.Frag) : Bool := decide (fp K (afm0 K) "Poly.__init__" = true)
def t_mem10 (K : PySem.W.Frag) : Bool := decide (PySem.W.findIn K (.ref (acP K)) "at" = some (some (.ref (afm10 K))))
def t_ism10 (K : PySem.W.Frag) : Bool := decide (PySem.W.isFn K (.ref (afm10 K)) = true)
def t_fp_fm10 (K : PySem.W.Frag) : Bool := decide (fp K (afm10 K) "Poly.at" = true)
def t_bG (K : PySem.W.Frag) : Bool := decide (PySem.W.nsIn K mainGlobals "Broken" = some (some (.ref (acB K))))
def t_b1 (K : PySem.W.Frag) : Bool := decide (PySem.W.plainGet K (acB K) Str.empty = true)
def t_b2 (K : PySem.W.Frag) : Bool := decide (PySem.W.hasDictIn K (acB K) = true)
def t_b3 (K : PySem.W.Frag) : Bool := decide (PySem.W.plainOver K (acB K) = true)
def t_b4 (K : PySem.W.Frag) : Bool := decide (PySem.W.findIn K (.ref (acB K)) "__setattr__" = some (some (.builtin "object.__setattr__")))
def t_b5 (K : PySem.W.Frag) : Bool := decide (PySem.W.findIn K (.ref (acB K)) "knots" = some none)
def t_b6 (K : PySem.W.Frag) : Bool := decide (PySem.W.findIn K (.ref (acB K)) "polys" = some none)
def t_b7 (K : PySem.W.Frag) : Bool := decide (PySem.W.findIn K (.ref (acB K)) "at" = some none)
def t_yb8 (K : PySem.W.Frag) : Bool := decide (PySem.W.findIn K (.ref (acB K)) "__class__" = some (some (.builtin "object.__class__")))
def t_yb9 (K : PySem.W.Frag) : Bool := decide (PySem.W.mroIn K (acB K) (.type "object") = some true)
def t_ba (K : PySem.W.Frag) : Bool := decide (PySem.W.makesIn K (acB K) = true)
def t_bb (K : PySem.W.Frag) : Bool := decide (PySem.W.keepIn K (.ref (acB K)) = true)
def t_bn_int (K : PySem.W.Frag) : Bool := decide (PySem.W.kitOne K (.type "int") (.ref (acB K)) = some false)
def t_bn_bool (K : PySem.W.Frag) : Bool := decide (PySem.W.kitOne K (.type "bool") (.ref (acB K)) = some false)
def t_bn_str (K : PySem.W.Frag) : Bool := decide (PySem.W.kitOne K (.type "str") (.ref (acB K)) = some false)
def t_bn_NoneType (K : PySem.W.Frag) : Bool := decide (PySem.W.kitOne K (.type "NoneType") (.ref (acB K)) = some false)
def t_bn_tuple (K : PySem.W.Frag) : Bool := decide (PySem.W.kitOne K (.type "tuple") (.ref (acB K)) = some false)
def t_bn_list (K : PySem.W.Frag) : Bool := decide (PySem.W.kitOne K (.type "list") (.ref (acB K)) = some false)
def t_bn_dict (K : PySem.W.Frag) : Bool := decide (PySem.W.kitOne K (.type "dict") (.ref (acB K)) = some false)
def t_bi1 (K : PySem.W.Frag) : Bool := decide (PySem.W.subIn K (.type "int") (.ref (acB K)) = some false)
def t_bt1 (K : PySem.W.Frag) : Bool := decide (PySem.W.subIn K (.type "tuple") (.ref (acB K)) = some false)
def t_meq0 (K : PySem.W.Frag) : Bool := decide (PySem.W.findIn K (.ref (acB K)) "__init__" = some (some (.ref (afq0 K))))
def t_isq0 (K : PySem.W.Frag) : Bool := decide (PySem.W.isFn K (.ref (afq0 K)) = true)
def t_fp_fq0 (K : PySem.W.Frag) : Bool := decide (fp K (afq0 K) "Broken.__init__" = true)
def t_meq2 (K : PySem.W.Frag) : Bool := decide (PySem.W.findIn K (.ref (acB K)) "value" = some (some (.ref (afq2 K))))
def t_isq2 (K : PySem.W.Frag) : Bool := decide (PySem.W.isFn K (.ref (afq2 K)) = true)
def t_fp_fq2 (K : PySem.W.Frag) : Bool := decide (fp K (afq2 K) "Broken.value" = true)
def t_meq5 (K : PySem.W.Frag) : Bool := decide (PySem.W.findIn K (.ref (acB K)) "is_upper" = some (some (.ref (afq5 K))))
def t_isq5 (K : PySem.W.Frag) : Bool := decide (PySem.W.isFn K (.ref (afq5 K)) = true)
def t_fp_fq5 (K : PySem.W.Frag) : Bool := decide (fp K (afq5 K) "Broken.is_upper" = true)
def t_meq6 (K : PySem.W.Frag) : Bool := decide (PySem.W.findIn K (.ref (acB K)) "is_lower" = some (some (.ref (afq6 K))))
def t_isq6 (K : PySem.W.Frag) : Bool := decide (PySem.W.isFn K (.ref (afq6 K)) = true)
def t_fp_fq6 (K : PySem.W.Frag) : Bool := decide (fp K (afq6 K) "Broken.is_lower" = true)
def t_osG (K : PySem.W.Frag) : Bool := decide (PySem.W.nsIn K mainGlobals "Share" = some (some (.ref (acS K))))
def t_os1 (K : PySem.W.Frag) : Bool := decide (PySem.W.plainGet K (acS K) Str.empty = true)
def t_os2 (K : PySem.W.Frag) : Bool := decide (PySem.W.hasDictIn K (acS K) = true)
def t_os3 (K : PySem.W.Frag) : Bool := decide (PySem.W.plainOver K (acS K) = true)
def t_os4 (K : PySem.W.Frag) : Bool := decide (PySem.W.findIn K (.ref (acS K)) "__setattr__" = some (some (.builtin "object.__setattr__")))
def t_osf0 (K : PySem.W.Frag) : Bool := decide (PySem.W.findIn K (.ref (acS K)) "places" = some none)
def t_osf1 (K : PySem.W.Frag) : Bool := decide (PySem.W.findIn K (.ref (acS K)) "parts" = some none)
def t_osa (K : PySem.W.Frag) : Bool := decide (PySem.W.makesIn K (acS K) = true)
def t_osb (K : PySem.W.Frag) : Bool := decide (PySem.W.keepIn K (.ref (acS K)) = true)
def t_mesq0 (K : PySem.W.Frag) : Bool := decide (PySem.W.findIn K (.ref (acS K)) "__init__" = some (some (.ref (afsq0 K))))
def t_issq0 (K : PySem.W.Frag) : Bool := decide (PySem.W.isFn K (.ref (afsq0 K)) = true)
def t_fp_fsq0 (K : PySem.W.Frag) : Bool := decide (fp K (afsq0 K) "Share.__init__" = true)
def t_otG (K : PySem.W.Frag) : Bool := decide (PySem.W.nsIn K mainGlobals "Told" = some (some (.ref (acT K))))
def t_ot1 (K : PySem.W.Frag) : Bool := decide (PySem.W.plainGet K (acT K) Str.empty = true)
def t_ot2 (K : PySem.W.Frag) : Bool := decide (PySem.W.hasDictIn K (acT K) = true)
def t_ot3 (K : PySem.W.Frag) : Bool := decide (PySem.W.plainOver K (acT K) = true)
def t_ot4 (K : PySem.W.Frag) : Bool := decide (PySem.W.findIn K (.ref (acT K)) "__setattr__" = some (some (.builtin "object.__setattr__")))
def t_otf0 (K : PySem.W.Frag) : Bool := decide (PySem.W.findIn K (.ref (acT K)) "function" = some none)
def t_otf1 (K : PySem.W.Frag) : Bool := decide (PySem.W.findIn K (.ref (acT K)) "least" = some none)
def t_otf2 (K : PySem.W.Frag) : Bool := decide (PySem.W.findIn K (.ref (acT K)) "most" = some none)
def t_ota (K : PySem.W.Frag) : Bool := decide (PySem.W.makesIn K (acT K) = true)
def t_otb (K : PySem.W.Frag) : Bool := decide (PySem.W.keepIn K (.ref (acT K)) = true)
def t_metq0 (K : PySem.W.Frag) : Bool := decide (PySem.W.findIn K (.ref (acT K)) "__init__" = some (some (.ref (aftq0 K))))
def t_istq0 (K : PySem.W.Frag) : Bool := decide (PySem.W.isFn K (.ref (aftq0 K)) = true)
def t_fp_ftq0 (K : PySem.W.Frag) : Bool := decide (fp K (aftq0 K) "Told.__init__" = true)
def t_g84 (K : PySem.W.Frag) : Bool := decide (PySem.W.nsIn K mainGlobals "law" = some (some (.ref (af84 K))))
def t_fp_f84 (K : PySem.W.Frag) : Bool := decide (fp K (af84 K) "law" = true)
def t_g52 (K : PySem.W.Frag) : Bool := decide (PySem.W.nsIn K mainGlobals "fits" = some (some (.ref (af52 K))))
def t_fd_f52 (K : PySem.W.Frag) : Bool := decide (fd1 K (af52 K) "fits" = true)
def t_nbN (K : PySem.W.Frag) : Bool := decide ((aCN K) ≠ (aB K))
def t_nbR (K : PySem.W.Frag) : Bool := decide ((aCR K) ≠ (aB K))
def t_neRN (K : PySem.W.Frag) : Bool := decide ((aCR K) ≠ (aCN K))
def fa0 : List (PySem.W.Frag → Bool) := [t_qaB, t_qrB, t_qsB, t_qfB, t_qcB, t_qtB, t_hn, t_ht, t_aCN, t_xc_CN, t_saN, t_gaN, t_ggN, t_exN, t_tyN, t_kpN, t_hdN, t_haN, t_hmN, t_nN1, t_nN2, t_iN, t_tN, t_fi_fEN, t_owEN, t_nxEN, t_ivEN, t_aCR, t_xc_CR, t_saR]
def fa1 : List (PySem.W.Frag → Bool) := [t_gaR, t_ggR, t_exR, t_tyR, t_kpR, t_hdR, t_haR, t_hmR, t_nR1, t_iR, t_tR, t_fi_fER, t_owER, t_nxER, t_ivER, t_aCU, t_xc_CU, t_saU, t_gaU, t_ggU, t_exU, t_tyU, t_kpU, t_hdU, t_haU, t_hmU, t_nU1, t_iU, t_tU, t_fi_fEU]
def fa2 : List (PySem.W.Frag → Bool) := [t_owEU, t_nxEU, t_ivEU, t_zs, t_op, t_z_len, t_z_int, t_z_list, t_z_range, t_z_mIsi, t_z_mBool, t_z_mTuple, t_z_mMax, t_z_mAll, t_z_mEnum, t_z_mRev, t_z_mZip, t_z_mAbs, t_z_mStr, t_z_mRepr, t_z_mDm, t_z_mNi, t_z_mAny, t_z_mSum, t_z_gcd, t_z_lcm, t_g8, t_fp_f8, t_g9, t_fp_f9]
def fa3 : List (PySem.W.Frag → Bool) := [t_g10, t_fp_f10, t_g11, t_fp_f11, t_g12, t_fp_f12, t_g14, t_fp_f14, t_g15, t_fp_f15, t_g57, t_fp_f57, t_g58, t_fp_f58, t_g59, t_fp_f59, t_g60, t_fp_f60, t_g61, t_fp_f61, t_g62, t_fp_f62, t_g18, t_fp_f18, t_g28, t_fp_f28, t_g23, t_fp_f23, t_g68, t_fp_f68]
def fa4 : List (PySem.W.Frag → Bool) := [t_g69, t_fp_f69, t_g70, t_fp_f70, t_g54, t_fp_f54, t_g55, t_fp_f55, t_g56, t_fp_f56, t_g63, t_fp_f63, t_g64, t_fp_f64, t_g66, t_fp_f66, t_g67, t_fp_f67, t_g71, t_fp_f71, t_g72, t_fp_f72, t_g73, t_fp_f73, t_g74, t_fp_f74, t_g76, t_fp_f76, t_g77, t_fp_f77]
def fa5 : List (PySem.W.Frag → Bool) := [t_g19, t_fp_f19, t_g20, t_fp_f20, t_g35, t_fp_f35, t_g36, t_fp_f36, t_g37, t_fp_f37, t_g38, t_fp_f38, t_g39, t_fp_f39, t_g16, t_fp_f16, t_g21, t_fp_f21, t_g22, t_fp_f22, t_g24, t_fp_f24, t_g25, t_fp_f25, t_g43, t_fp_f43, t_g44, t_fp_f44, t_g45, t_fp_f45]
def fa6 : List (PySem.W.Frag → Bool) := [t_g46, t_fp_f46, t_g47, t_fp_f47, t_g48, t_fp_f48, t_g49, t_fp_f49, t_g50, t_fp_f50, t_g51, t_fp_f51, t_g65, t_fp_f65, t_g75, t_fp_f75, t_g78, t_fp_f78, t_g79, t_fp_f79, t_g80, t_fp_f80, t_g81, t_fp_f81, t_g82, t_fp_f82, t_g83, t_fp_f83, t_pG, t_p1]
def fa7 : List (PySem.W.Frag → Bool) := [t_p2, t_p3, t_p4, t_p5, t_p6, t_p7, t_p8, t_p9, t_pa, t_pn_int, t_pn_bool, t_pn_str, t_pn_NoneType, t_pn_tuple, t_pn_list, t_pn_dict, t_pi1, t_pi2, t_pt1, t_pt2, t_mem0, t_ism0, t_fp_fm0, t_mem10, t_ism10, t_fp_fm10, t_bG, t_b1, t_b2, t_b3]
def fa8 : List (PySem.W.Frag → Bool) := [t_b4, t_b5, t_b6, t_b7, t_yb8, t_yb9, t_ba, t_bb, t_bn_int, t_bn_bool, t_bn_str, t_bn_NoneType, t_bn_tuple, t_bn_list, t_bn_dict, t_bi1, t_bt1, t_meq0, t_isq0, t_fp_fq0, t_meq2, t_isq2, t_fp_fq2, t_meq5, t_isq5, t_fp_fq5, t_meq6, t_isq6, t_fp_fq6, t_osG]
def fa9 : List (PySem.W.Frag → Bool) := [t_os1, t_os2, t_os3, t_os4, t_osf0, t_osf1, t_osa, t_osb, t_mesq0, t_issq0, t_fp_fsq0, t_otG, t_ot1, t_ot2, t_ot3, t_ot4, t_otf0, t_otf1, t_otf2, t_ota, t_otb, t_metq0, t_istq0, t_fp_ftq0, t_g84, t_fp_f84, t_g52, t_fd_f52, t_nbN, t_nbR]
def fa10 : List (PySem.W.Frag → Bool) := [t_neRN]
def fa : List (List (PySem.W.Frag → Bool)) := [fa0, fa1, fa2, fa3, fa4, fa5, fa6, fa7, fa8, fa9, fa10]
structure Fe where
  ad : PySem.W.Frag → Addr
  x : Str
  q : Str
  st : Stmt
def d0 : Fe := ⟨afEN, "__init__", "BadNumber.__init__", sI3⟩
def d1 : Fe := ⟨afER, "__init__", "BadRow.__init__", sI4⟩
def d2 : Fe := ⟨afEU, "__init__", "Unlike.__init__", sI6⟩
def d3 : Fe := ⟨af8, "is_whole", "is_whole", top 8⟩
def d4 : Fe := ⟨af9, "is_pair", "is_pair", top 9⟩
def d5 : Fe := ⟨af10, "is_ratio", "is_ratio", top 10⟩
def d6 : Fe := ⟨af11, "lowest", "lowest", top 11⟩
def d7 : Fe := ⟨af12, "told", "told", top 12⟩
def d8 : Fe := ⟨af14, "minus", "minus", top 14⟩
def d9 : Fe := ⟨af15, "lower", "lower", top 15⟩
def d10 : Fe := ⟨af57, "_law_gcd", "_law_gcd", top 57⟩
def d11 : Fe := ⟨af58, "_law_q", "_law_q", top 58⟩
def d12 : Fe := ⟨af59, "_law_plus", "_law_plus", top 59⟩
def d13 : Fe := ⟨af60, "_law_minus", "_law_minus", top 60⟩
def d14 : Fe := ⟨af61, "_law_times", "_law_times", top 61⟩
def d15 : Fe := ⟨af62, "_law_less", "_law_less", top 62⟩
def d16 : Fe := ⟨af18, "is_row", "is_row", top 18⟩
def d17 : Fe := ⟨af28, "many_needed", "many_needed", top 28⟩
def d18 : Fe := ⟨af23, "over_one_bottom", "over_one_bottom", top 23⟩
def d19 : Fe := ⟨af68, "_law_poly", "_law_poly", top 68⟩
def d20 : Fe := ⟨af69, "_law_p_plus", "_law_p_plus", top 69⟩
def d21 : Fe := ⟨af70, "_law_p_at", "_law_p_at", top 70⟩
def d22 : Fe := ⟨af54, "_law_pen", "_law_pen", top 54⟩
def d23 : Fe := ⟨af55, "_law_draw", "_law_draw", top 55⟩
def d24 : Fe := ⟨af56, "_law_pick", "_law_pick", top 56⟩
def d25 : Fe := ⟨af63, "_law_passed", "_law_passed", top 63⟩
def d26 : Fe := ⟨af64, "_law_ratio", "_law_ratio", top 64⟩
def d27 : Fe := ⟨af66, "_law_lower_one", "_law_lower_one", top 66⟩
def d28 : Fe := ⟨af67, "_law_sorted", "_law_sorted", top 67⟩
def d29 : Fe := ⟨af71, "_law_f_piece", "_law_f_piece", top 71⟩
def d30 : Fe := ⟨af72, "_law_f_at", "_law_f_at", top 72⟩
def d31 : Fe := ⟨af73, "_law_f_limits", "_law_f_limits", top 73⟩
def d32 : Fe := ⟨af74, "_law_made_function", "_law_made_function", top 74⟩
def d33 : Fe := ⟨af76, "_law_drawn_knots", "_law_drawn_knots", top 76⟩
def d34 : Fe := ⟨af77, "_law_drawn_function", "_law_drawn_function", top 77⟩
def d35 : Fe := ⟨af19, "ascends", "ascends", top 19⟩
def d36 : Fe := ⟨af20, "told_row", "told_row", top 20⟩
def d37 : Fe := ⟨af35, "is_row_of_polys", "is_row_of_polys", top 35⟩
def d38 : Fe := ⟨af36, "place_in", "place_in", top 36⟩
def d39 : Fe := ⟨af37, "piece_from", "piece_from", top 37⟩
def d40 : Fe := ⟨af38, "knot_limits", "knot_limits", top 38⟩
def d41 : Fe := ⟨af39, "numbers_and_limits", "numbers_and_limits", top 39⟩
def d42 : Fe := ⟨af16, "gap_of", "gap_of", top 16⟩
def d43 : Fe := ⟨af21, "sum_of", "sum_of", top 21⟩
def d44 : Fe := ⟨af22, "are_whole_parts", "are_whole_parts", top 22⟩
def d45 : Fe := ⟨af24, "joint_sums", "joint_sums", top 24⟩
def d46 : Fe := ⟨af25, "joint_sum", "joint_sum", top 25⟩
def d47 : Fe := ⟨af43, "are_parts", "are_parts", top 43⟩
def d48 : Fe := ⟨af44, "is_bounded_kind", "is_bounded_kind", top 44⟩
def d49 : Fe := ⟨af45, "is_within", "is_within", top 45⟩
def d50 : Fe := ⟨af46, "means_of", "means_of", top 46⟩
def d51 : Fe := ⟨af47, "check_one_stretch", "check_one_stretch", top 47⟩
def d52 : Fe := ⟨af48, "functions_of", "functions_of", top 48⟩
def d53 : Fe := ⟨af49, "gap_missed", "gap_missed", top 49⟩
def d54 : Fe := ⟨af50, "check_places", "check_places", top 50⟩
def d55 : Fe := ⟨af51, "missed", "missed", top 51⟩
def d56 : Fe := ⟨af65, "_law_interval", "_law_interval", top 65⟩
def d57 : Fe := ⟨af75, "_law_f_of", "_law_f_of", top 75⟩
def d58 : Fe := ⟨af78, "_law_share_mean", "_law_share_mean", top 78⟩
def d59 : Fe := ⟨af79, "_law_drawn_share", "_law_drawn_share", top 79⟩
def d60 : Fe := ⟨af80, "_law_made_told", "_law_made_told", top 80⟩
def d61 : Fe := ⟨af81, "_law_passed_row", "_law_passed_row", top 81⟩
def d62 : Fe := ⟨af82, "_law_made_share", "_law_made_share", top 82⟩
def d63 : Fe := ⟨af83, "_law_row", "_law_row", top 83⟩
def d64 : Fe := ⟨afm0, "__init__", "Poly.__init__", sP 0⟩
def d65 : Fe := ⟨afm10, "at", "Poly.at", sP 10⟩
def d66 : Fe := ⟨afq0, "__init__", "Broken.__init__", sB 0⟩
def d67 : Fe := ⟨afq2, "value", "Broken.value", sB 2⟩
def d68 : Fe := ⟨afq5, "is_upper", "Broken.is_upper", sB 5⟩
def d69 : Fe := ⟨afq6, "is_lower", "Broken.is_lower", sB 6⟩
def d70 : Fe := ⟨afsq0, "__init__", "Share.__init__", sS 0⟩
def d71 : Fe := ⟨aftq0, "__init__", "Told.__init__", sT 0⟩
def d72 : Fe := ⟨af84, "law", "law", top 84⟩
def d73 : Fe := ⟨af52, "fits", "fits", top 52⟩
def fn0 : List Fe := [d0, d1, d2, d3, d4, d5, d6, d7, d8, d9, d10, d11, d12, d13, d14, d15, d16, d17, d18, d19, d20, d21, d22, d23, d24, d25, d26, d27, d28, d29]
def fn1 : List Fe := [d30, d31, d32, d33, d34, d35, d36, d37, d38, d39, d40, d41, d42, d43, d44, d45, d46, d47, d48, d49, d50, d51, d52, d53, d54, d55, d56, d57, d58, d59]
def fn2 : List Fe := [d60, d61, d62, d63, d64, d65, d66, d67, d68, d69, d70, d71, d72, d73]
def fn : List Fe := fn0 ++ (fn1 ++ (fn2))
abbrev Al : Type := Bool × List Fq
def obK (K : PySem.W.Frag) : Al := (fa.all fun l => l.all fun f => f K, fn.map fun d => fq K (d.ad K))
def vaK : Al := (true, fn.map fun d => fqv d.x d.q d.st)
def Says (K : PySem.W.Frag) : Prop := obK K = vaK
def hk : PySem.W.Hook where
  α := Al
  obs := fun s => obK (kOf s.heap.get?)
  val := fun _ => vaK
  says := fun _ h => ∃ K : PySem.W.Frag, K.In h ∧ Says K
  of := fun _ _ e => ⟨_, He.frG_in, e⟩
  keeps := fun _ _ _ ⟨Kp, inK, says⟩ kp => ⟨Kp, PySem.W.Frag.In.keeps inK kp, says⟩
def ob (s : PySem.W.SharedT) : Al := obK (kOf (HandSHeadRun.getT s))
theorem ob_eq (s : PySem.W.SharedT) : ob s = hk.obs s.abs := by
  have e : HandSHeadRun.getT s = s.abs.heap.get? := funext fun a => HandSHeadRun.getT_eq s a
  show obK (kOf (HandSHeadRun.getT s)) = obK (kOf s.abs.heap.get?)
  rw [e]
section
variable {K : PySem.W.Frag}
theorem Says.t (c : Says K) (i j : Nat) {l : List (PySem.W.Frag → Bool)} {f : PySem.W.Frag → Bool} (hl : fa[i]? = some l) (hf : l[j]? = some f) : f K = true := by
  have c1 : (fa.all fun l => l.all fun f => f K) = true := congrArg (fun z : Al => z.1) c
  exact List.all_eq_true.mp (List.all_eq_true.mp c1 l (List.mem_of_getElem? hl)) f (List.mem_of_getElem? hf)
theorem Says.fn (c : Says K) (i : Nat) {d : Fe} (h : fn[i]? = some d) : fq K (d.ad K) = fqv d.x d.q d.st := by
  have e : Kh.fn.map (fun d => fq K (d.ad K)) = Kh.fn.map fun d => fqv d.x d.q d.st := congrArg (fun z : Al => z.2) c
  have e2 : (Kh.fn.map fun d => fq K (d.ad K))[i]? = (Kh.fn.map fun d => fqv d.x d.q d.st)[i]? := by rw [e]
  rw [List.getElem?_map, h, List.getElem?_map, h] at e2
  exact Option.some.inj e2
theorem u_qaB (c : Says K) : PySem.W.nsIn K mainGlobals "MeanError" = some (some (.ref (aB K))) := of_decide_eq_true (show t_qaB K = true from c.t 0 0 rfl rfl)
theorem u_qrB (c : Says K) : PySem.W.readsIn K (aB K) (.type "type") = true := of_decide_eq_true (show t_qrB K = true from c.t 0 1 rfl rfl)
theorem u_qsB (c : Says K) : PySem.W.specialIn K (.ref (aB K)) "__getattribute__" = some (some (.builtin "type.__getattribute__")) := of_decide_eq_true (show t_qsB K = true from c.t 0 2 rfl rfl)
theorem u_qfB (c : Says K) : PySem.W.findCls K (.ref (aB K)) (.type "type") "__init__" = some (.val (.builtin "ValueError.__init__")) := cfB_ok (show t_qfB K = true from c.t 0 3 rfl rfl)
theorem u_qcB (c : Says K) : PySem.W.isClsIn K (aB K) = true := of_decide_eq_true (show t_qcB K = true from c.t 0 4 rfl rfl)
theorem u_qtB (c : Says K) : PySem.W.typeIn K (.ref (aB K)) = some (.type "type") := of_decide_eq_true (show t_qtB K = true from c.t 0 5 rfl rfl)
theorem u_hn (c : Says K) : PySem.W.specialIn K (.builtin "object.__class__") "__get__" = some (some (.builtin "getset_descriptor.__get__")) := of_decide_eq_true (show t_hn K = true from c.t 0 6 rfl rfl)
theorem u_ht (c : Says K) : PySem.W.takesIn K (.builtin "object.__class__") = some true := of_decide_eq_true (show t_ht K = true from c.t 0 7 rfl rfl)
theorem u_aCN (c : Says K) : PySem.W.nsIn K mainGlobals "BadNumber" = some (some (.ref (aCN K))) := of_decide_eq_true (show t_aCN K = true from c.t 0 8 rfl rfl)
theorem u_xc_CN (c : Says K) : xc K (aCN K) (aB K) = true := of_decide_eq_true (show t_xc_CN K = true from c.t 0 9 rfl rfl)
theorem u_saN (c : Says K) : PySem.W.findIn K (.ref (aCN K)) "__setattr__" = some (some (.builtin "object.__setattr__")) := of_decide_eq_true (show t_saN K = true from c.t 0 10 rfl rfl)
theorem u_gaN (c : Says K) : PySem.W.findIn K (.ref (aCN K)) "__getattribute__" = some (some (.builtin "BaseException.__getattribute__")) := of_decide_eq_true (show t_gaN K = true from c.t 0 11 rfl rfl)
theorem u_ggN (c : Says K) : PySem.W.findIn K (.ref (aCN K)) "__getattr__" = some none := of_decide_eq_true (show t_ggN K = true from c.t 0 12 rfl rfl)
theorem u_exN (c : Says K) : PySem.W.subIn K (.ref (aCN K)) (.type "BaseException") = some true := of_decide_eq_true (show t_exN K = true from c.t 0 13 rfl rfl)
theorem u_tyN (c : Says K) : PySem.W.typeIn K (.ref (aCN K)) = some (.type "type") := of_decide_eq_true (show t_tyN K = true from c.t 0 14 rfl rfl)
theorem u_kpN (c : Says K) : PySem.W.keepIn K (.ref (aCN K)) = true := of_decide_eq_true (show t_kpN K = true from c.t 0 15 rfl rfl)
theorem u_hdN (c : Says K) : PySem.W.hasDictIn K (aCN K) = true := of_decide_eq_true (show t_hdN K = true from c.t 0 16 rfl rfl)
theorem u_haN (c : Says K) : PySem.W.findIn K (.ref (aCN K)) "__class__" = some (some (.builtin "object.__class__")) := of_decide_eq_true (show t_haN K = true from c.t 0 17 rfl rfl)
theorem u_hmN (c : Says K) : PySem.W.mroIn K (aCN K) (.type "object") = some true := of_decide_eq_true (show t_hmN K = true from c.t 0 18 rfl rfl)
theorem u_nN1 (c : Says K) : PySem.W.findIn K (.ref (aCN K)) "what" = some none := of_decide_eq_true (show t_nN1 K = true from c.t 0 19 rfl rfl)
theorem u_nN2 (c : Says K) : PySem.W.findIn K (.ref (aCN K)) "number" = some none := of_decide_eq_true (show t_nN2 K = true from c.t 0 20 rfl rfl)
theorem u_iN (c : Says K) : PySem.W.findIn K (.ref (aCN K)) "__init__" = some (some (.ref (afEN K))) := of_decide_eq_true (show t_iN K = true from c.t 0 21 rfl rfl)
theorem u_tN (c : Says K) : PySem.W.typeIn K (.ref (afEN K)) = some (.type "function") := of_decide_eq_true (show t_tN K = true from c.t 0 22 rfl rfl)
theorem u_fi_fEN (c : Says K) : fi PySem.Challenge.pw_toldmeans_k09_whole_fits_to_a_gap.main.file K (afEN K) (aCN K) "BadNumber.__init__" = true := of_decide_eq_true (show t_fi_fEN K = true from c.t 0 23 rfl rfl)
theorem u_owEN (c : Says K) : PySem.W.mroIn K (aCN K) (.ref (aCN K)) = some true := of_decide_eq_true (show t_owEN K = true from c.t 0 24 rfl rfl)
theorem u_nxEN (c : Says K) : PySem.W.ks_superIn K (aCN K) (aCN K) "__init__" = some (some (.builtin "ValueError.__init__")) := of_decide_eq_true (show t_nxEN K = true from c.t 0 25 rfl rfl)
theorem u_ivEN (c : Says K) : PySem.W.subIn K (.ref (aCN K)) (.type "ValueError") = some true := of_decide_eq_true (show t_ivEN K = true from c.t 0 26 rfl rfl)
theorem u_aCR (c : Says K) : PySem.W.nsIn K mainGlobals "BadRow" = some (some (.ref (aCR K))) := of_decide_eq_true (show t_aCR K = true from c.t 0 27 rfl rfl)
theorem u_xc_CR (c : Says K) : xc K (aCR K) (aB K) = true := of_decide_eq_true (show t_xc_CR K = true from c.t 0 28 rfl rfl)
theorem u_saR (c : Says K) : PySem.W.findIn K (.ref (aCR K)) "__setattr__" = some (some (.builtin "object.__setattr__")) := of_decide_eq_true (show t_saR K = true from c.t 0 29 rfl rfl)
theorem u_gaR (c : Says K) : PySem.W.findIn K (.ref (aCR K)) "__getattribute__" = some (some (.builtin "BaseException.__getattribute__")) := of_decide_eq_true (show t_gaR K = true from c.t 1 0 rfl rfl)
theorem u_ggR (c : Says K) : PySem.W.findIn K (.ref (aCR K)) "__getattr__" = some none := of_decide_eq_true (show t_ggR K = true from c.t 1 1 rfl rfl)
theorem u_exR (c : Says K) : PySem.W.subIn K (.ref (aCR K)) (.type "BaseException") = some true := of_decide_eq_true (show t_exR K = true from c.t 1 2 rfl rfl)
theorem u_tyR (c : Says K) : PySem.W.typeIn K (.ref (aCR K)) = some (.type "type") := of_decide_eq_true (show t_tyR K = true from c.t 1 3 rfl rfl)
theorem u_kpR (c : Says K) : PySem.W.keepIn K (.ref (aCR K)) = true := of_decide_eq_true (show t_kpR K = true from c.t 1 4 rfl rfl)
theorem u_hdR (c : Says K) : PySem.W.hasDictIn K (aCR K) = true := of_decide_eq_true (show t_hdR K = true from c.t 1 5 rfl rfl)
theorem u_haR (c : Says K) : PySem.W.findIn K (.ref (aCR K)) "__class__" = some (some (.builtin "object.__class__")) := of_decide_eq_true (show t_haR K = true from c.t 1 6 rfl rfl)
theorem u_hmR (c : Says K) : PySem.W.mroIn K (aCR K) (.type "object") = some true := of_decide_eq_true (show t_hmR K = true from c.t 1 7 rfl rfl)
theorem u_nR1 (c : Says K) : PySem.W.findIn K (.ref (aCR K)) "row" = some none := of_decide_eq_true (show t_nR1 K = true from c.t 1 8 rfl rfl)
theorem u_iR (c : Says K) : PySem.W.findIn K (.ref (aCR K)) "__init__" = some (some (.ref (afER K))) := of_decide_eq_true (show t_iR K = true from c.t 1 9 rfl rfl)
theorem u_tR (c : Says K) : PySem.W.typeIn K (.ref (afER K)) = some (.type "function") := of_decide_eq_true (show t_tR K = true from c.t 1 10 rfl rfl)
theorem u_fi_fER (c : Says K) : fi PySem.Challenge.pw_toldmeans_k09_whole_fits_to_a_gap.main.file K (afER K) (aCR K) "BadRow.__init__" = true := of_decide_eq_true (show t_fi_fER K = true from c.t 1 11 rfl rfl)
theorem u_owER (c : Says K) : PySem.W.mroIn K (aCR K) (.ref (aCR K)) = some true := of_decide_eq_true (show t_owER K = true from c.t 1 12 rfl rfl)
theorem u_nxER (c : Says K) : PySem.W.ks_superIn K (aCR K) (aCR K) "__init__" = some (some (.builtin "ValueError.__init__")) := of_decide_eq_true (show t_nxER K = true from c.t 1 13 rfl rfl)
theorem u_ivER (c : Says K) : PySem.W.subIn K (.ref (aCR K)) (.type "ValueError") = some true := of_decide_eq_true (show t_ivER K = true from c.t 1 14 rfl rfl)
theorem u_aCU (c : Says K) : PySem.W.nsIn K mainGlobals "Unlike" = some (some (.ref (aCU K))) := of_decide_eq_true (show t_aCU K = true from c.t 1 15 rfl rfl)
theorem u_xc_CU (c : Says K) : xc K (aCU K) (aB K) = true := of_decide_eq_true (show t_xc_CU K = true from c.t 1 16 rfl rfl)
theorem u_saU (c : Says K) : PySem.W.findIn K (.ref (aCU K)) "__setattr__" = some (some (.builtin "object.__setattr__")) := of_decide_eq_true (show t_saU K = true from c.t 1 17 rfl rfl)
theorem u_gaU (c : Says K) : PySem.W.findIn K (.ref (aCU K)) "__getattribute__" = some (some (.builtin "BaseException.__getattribute__")) := of_decide_eq_true (show t_gaU K = true from c.t 1 18 rfl rfl)
theorem u_ggU (c : Says K) : PySem.W.findIn K (.ref (aCU K)) "__getattr__" = some none := of_decide_eq_true (show t_ggU K = true from c.t 1 19 rfl rfl)
theorem u_exU (c : Says K) : PySem.W.subIn K (.ref (aCU K)) (.type "BaseException") = some true := of_decide_eq_true (show t_exU K = true from c.t 1 20 rfl rfl)
theorem u_tyU (c : Says K) : PySem.W.typeIn K (.ref (aCU K)) = some (.type "type") := of_decide_eq_true (show t_tyU K = true from c.t 1 21 rfl rfl)
theorem u_kpU (c : Says K) : PySem.W.keepIn K (.ref (aCU K)) = true := of_decide_eq_true (show t_kpU K = true from c.t 1 22 rfl rfl)
theorem u_hdU (c : Says K) : PySem.W.hasDictIn K (aCU K) = true := of_decide_eq_true (show t_hdU K = true from c.t 1 23 rfl rfl)
theorem u_haU (c : Says K) : PySem.W.findIn K (.ref (aCU K)) "__class__" = some (some (.builtin "object.__class__")) := of_decide_eq_true (show t_haU K = true from c.t 1 24 rfl rfl)
theorem u_hmU (c : Says K) : PySem.W.mroIn K (aCU K) (.type "object") = some true := of_decide_eq_true (show t_hmU K = true from c.t 1 25 rfl rfl)
theorem u_nU1 (c : Says K) : PySem.W.findIn K (.ref (aCU K)) "what" = some none := of_decide_eq_true (show t_nU1 K = true from c.t 1 26 rfl rfl)
theorem u_iU (c : Says K) : PySem.W.findIn K (.ref (aCU K)) "__init__" = some (some (.ref (afEU K))) := of_decide_eq_true (show t_iU K = true from c.t 1 27 rfl rfl)
theorem u_tU (c : Says K) : PySem.W.typeIn K (.ref (afEU K)) = some (.type "function") := of_decide_eq_true (show t_tU K = true from c.t 1 28 rfl rfl)
theorem u_fi_fEU (c : Says K) : fi PySem.Challenge.pw_toldmeans_k09_whole_fits_to_a_gap.main.file K (afEU K) (aCU K) "Unlike.__init__" = true := of_decide_eq_true (show t_fi_fEU K = true from c.t 1 29 rfl rfl)
theorem u_owEU (c : Says K) : PySem.W.mroIn K (aCU K) (.ref (aCU K)) = some true := of_decide_eq_true (show t_owEU K = true from c.t 2 0 rfl rfl)
theorem u_nxEU (c : Says K) : PySem.W.ks_superIn K (aCU K) (aCU K) "__init__" = some (some (.builtin "ValueError.__init__")) := of_decide_eq_true (show t_nxEU K = true from c.t 2 1 rfl rfl)
theorem u_ivEU (c : Says K) : PySem.W.subIn K (.ref (aCU K)) (.type "ValueError") = some true := of_decide_eq_true (show t_ivEU K = true from c.t 2 2 rfl rfl)
theorem u_zs (c : Says K) : PySem.W.nsIn K mainGlobals "super" = some none := of_decide_eq_true (show t_zs K = true from c.t 2 3 rfl rfl)
theorem u_op (c : Says K) : PySem.W.nsIn K cStatics "thirdparty.any" = some none := of_decide_eq_true (show t_op K = true from c.t 2 4 rfl rfl)
theorem u_z_len (c : Says K) : PySem.W.nsIn K mainGlobals "len" = some none := of_decide_eq_true (show t_z_len K = true from c.t 2 5 rfl rfl)
theorem u_z_int (c : Says K) : PySem.W.nsIn K mainGlobals "int" = some none := of_decide_eq_true (show t_z_int K = true from c.t 2 6 rfl rfl)
theorem u_z_list (c : Says K) : PySem.W.nsIn K mainGlobals "list" = some none := of_decide_eq_true (show t_z_list K = true from c.t 2 7 rfl rfl)
theorem u_z_range (c : Says K) : PySem.W.nsIn K mainGlobals "range" = some none := of_decide_eq_true (show t_z_range K = true from c.t 2 8 rfl rfl)
theorem u_z_mIsi (c : Says K) : PySem.W.nsIn K mainGlobals "isinstance" = some none := of_decide_eq_true (show t_z_mIsi K = true from c.t 2 9 rfl rfl)
theorem u_z_mBool (c : Says K) : PySem.W.nsIn K mainGlobals "bool" = some none := of_decide_eq_true (show t_z_mBool K = true from c.t 2 10 rfl rfl)
theorem u_z_mTuple (c : Says K) : PySem.W.nsIn K mainGlobals "tuple" = some none := of_decide_eq_true (show t_z_mTuple K = true from c.t 2 11 rfl rfl)
theorem u_z_mMax (c : Says K) : PySem.W.nsIn K mainGlobals "max" = some none := of_decide_eq_true (show t_z_mMax K = true from c.t 2 12 rfl rfl)
theorem u_z_mAll (c : Says K) : PySem.W.nsIn K mainGlobals "all" = some none := of_decide_eq_true (show t_z_mAll K = true from c.t 2 13 rfl rfl)
theorem u_z_mEnum (c : Says K) : PySem.W.nsIn K mainGlobals "enumerate" = some none := of_decide_eq_true (show t_z_mEnum K = true from c.t 2 14 rfl rfl)
theorem u_z_mRev (c : Says K) : PySem.W.nsIn K mainGlobals "reversed" = some none := of_decide_eq_true (show t_z_mRev K = true from c.t 2 15 rfl rfl)
theorem u_z_mZip (c : Says K) : PySem.W.nsIn K mainGlobals "zip" = some none := of_decide_eq_true (show t_z_mZip K = true from c.t 2 16 rfl rfl)
theorem u_z_mAbs (c : Says K) : PySem.W.nsIn K mainGlobals "abs" = some none := of_decide_eq_true (show t_z_mAbs K = true from c.t 2 17 rfl rfl)
theorem u_z_mStr (c : Says K) : PySem.W.nsIn K mainGlobals "str" = some none := of_decide_eq_true (show t_z_mStr K = true from c.t 2 18 rfl rfl)
theorem u_z_mRepr (c : Says K) : PySem.W.nsIn K mainGlobals "repr" = some none := of_decide_eq_true (show t_z_mRepr K = true from c.t 2 19 rfl rfl)
theorem u_z_mDm (c : Says K) : PySem.W.nsIn K mainGlobals "divmod" = some none := of_decide_eq_true (show t_z_mDm K = true from c.t 2 20 rfl rfl)
theorem u_z_mNi (c : Says K) : PySem.W.nsIn K mainGlobals "NotImplemented" = some none := of_decide_eq_true (show t_z_mNi K = true from c.t 2 21 rfl rfl)
theorem u_z_mAny (c : Says K) : PySem.W.nsIn K mainGlobals "any" = some none := of_decide_eq_true (show t_z_mAny K = true from c.t 2 22 rfl rfl)
theorem u_z_mSum (c : Says K) : PySem.W.nsIn K mainGlobals "sum" = some none := of_decide_eq_true (show t_z_mSum K = true from c.t 2 23 rfl rfl)
theorem u_z_gcd (c : Says K) : PySem.W.nsIn K mainGlobals "gcd" = some (some (.builtin "math.gcd")) := of_decide_eq_true (show t_z_gcd K = true from c.t 2 24 rfl rfl)
theorem u_z_lcm (c : Says K) : PySem.W.nsIn K mainGlobals "lcm" = some (some (.builtin "math.lcm")) := of_decide_eq_true (show t_z_lcm K = true from c.t 2 25 rfl rfl)
theorem u_g8 (c : Says K) : PySem.W.nsIn K mainGlobals "is_whole" = some (some (.ref (af8 K))) := of_decide_eq_true (show t_g8 K = true from c.t 2 26 rfl rfl)
theorem u_fp_f8 (c : Says K) : fp K (af8 K) "is_whole" = true := of_decide_eq_true (show t_fp_f8 K = true from c.t 2 27 rfl rfl)
theorem u_g9 (c : Says K) : PySem.W.nsIn K mainGlobals "is_pair" = some (some (.ref (af9 K))) := of_decide_eq_true (show t_g9 K = true from c.t 2 28 rfl rfl)
theorem u_fp_f9 (c : Says K) : fp K (af9 K) "is_pair" = true := of_decide_eq_true (show t_fp_f9 K = true from c.t 2 29 rfl rfl)
theorem u_g10 (c : Says K) : PySem.W.nsIn K mainGlobals "is_ratio" = some (some (.ref (af10 K))) := of_decide_eq_true (show t_g10 K = true from c.t 3 0 rfl rfl)
theorem u_fp_f10 (c : Says K) : fp K (af10 K) "is_ratio" = true := of_decide_eq_true (show t_fp_f10 K = true from c.t 3 1 rfl rfl)
theorem u_g11 (c : Says K) : PySem.W.nsIn K mainGlobals "lowest" = some (some (.ref (af11 K))) := of_decide_eq_true (show t_g11 K = true from c.t 3 2 rfl rfl)
theorem u_fp_f11 (c : Says K) : fp K (af11 K) "lowest" = true := of_decide_eq_true (show t_fp_f11 K = true from c.t 3 3 rfl rfl)
theorem u_g12 (c : Says K) : PySem.W.nsIn K mainGlobals "told" = some (some (.ref (af12 K))) := of_decide_eq_true (show t_g12 K = true from c.t 3 4 rfl rfl)
theorem u_fp_f12 (c : Says K) : fp K (af12 K) "told" = true := of_decide_eq_true (show t_fp_f12 K = true from c.t 3 5 rfl rfl)
theorem u_g14 (c : Says K) : PySem.W.nsIn K mainGlobals "minus" = some (some (.ref (af14 K))) := of_decide_eq_true (show t_g14 K = true from c.t 3 6 rfl rfl)
theorem u_fp_f14 (c : Says K) : fp K (af14 K) "minus" = true := of_decide_eq_true (show t_fp_f14 K = true from c.t 3 7 rfl rfl)
theorem u_g15 (c : Says K) : PySem.W.nsIn K mainGlobals "lower" = some (some (.ref (af15 K))) := of_decide_eq_true (show t_g15 K = true from c.t 3 8 rfl rfl)
theorem u_fp_f15 (c : Says K) : fp K (af15 K) "lower" = true := of_decide_eq_true (show t_fp_f15 K = true from c.t 3 9 rfl rfl)
theorem u_g57 (c : Says K) : PySem.W.nsIn K mainGlobals "_law_gcd" = some (some (.ref (af57 K))) := of_decide_eq_true (show t_g57 K = true from c.t 3 10 rfl rfl)
theorem u_fp_f57 (c : Says K) : fp K (af57 K) "_law_gcd" = true := of_decide_eq_true (show t_fp_f57 K = true from c.t 3 11 rfl rfl)
theorem u_g58 (c : Says K) : PySem.W.nsIn K mainGlobals "_law_q" = some (some (.ref (af58 K))) := of_decide_eq_true (show t_g58 K = true from c.t 3 12 rfl rfl)
theorem u_fp_f58 (c : Says K) : fp K (af58 K) "_law_q" = true := of_decide_eq_true (show t_fp_f58 K = true from c.t 3 13 rfl rfl)
theorem u_g59 (c : Says K) : PySem.W.nsIn K mainGlobals "_law_plus" = some (some (.ref (af59 K))) := of_decide_eq_true (show t_g59 K = true from c.t 3 14 rfl rfl)
theorem u_fp_f59 (c : Says K) : fp K (af59 K) "_law_plus" = true := of_decide_eq_true (show t_fp_f59 K = true from c.t 3 15 rfl rfl)
theorem u_g60 (c : Says K) : PySem.W.nsIn K mainGlobals "_law_minus" = some (some (.ref (af60 K))) := of_decide_eq_true (show t_g60 K = true from c.t 3 16 rfl rfl)
theorem u_fp_f60 (c : Says K) : fp K (af60 K) "_law_minus" = true := of_decide_eq_true (show t_fp_f60 K = true from c.t 3 17 rfl rfl)
theorem u_g61 (c : Says K) : PySem.W.nsIn K mainGlobals "_law_times" = some (some (.ref (af61 K))) := of_decide_eq_true (show t_g61 K = true from c.t 3 18 rfl rfl)
theorem u_fp_f61 (c : Says K) : fp K (af61 K) "_law_times" = true := of_decide_eq_true (show t_fp_f61 K = true from c.t 3 19 rfl rfl)
theorem u_g62 (c : Says K) : PySem.W.nsIn K mainGlobals "_law_less" = some (some (.ref (af62 K))) := of_decide_eq_true (show t_g62 K = true from c.t 3 20 rfl rfl)
theorem u_fp_f62 (c : Says K) : fp K (af62 K) "_law_less" = true := of_decide_eq_true (show t_fp_f62 K = true from c.t 3 21 rfl rfl)
theorem u_g18 (c : Says K) : PySem.W.nsIn K mainGlobals "is_row" = some (some (.ref (af18 K))) := of_decide_eq_true (show t_g18 K = true from c.t 3 22 rfl rfl)
theorem u_fp_f18 (c : Says K) : fp K (af18 K) "is_row" = true := of_decide_eq_true (show t_fp_f18 K = true from c.t 3 23 rfl rfl)
theorem u_g28 (c : Says K) : PySem.W.nsIn K mainGlobals "many_needed" = some (some (.ref (af28 K))) := of_decide_eq_true (show t_g28 K = true from c.t 3 24 rfl rfl)
theorem u_fp_f28 (c : Says K) : fp K (af28 K) "many_needed" = true := of_decide_eq_true (show t_fp_f28 K = true from c.t 3 25 rfl rfl)
theorem u_g23 (c : Says K) : PySem.W.nsIn K mainGlobals "over_one_bottom" = some (some (.ref (af23 K))) := of_decide_eq_true (show t_g23 K = true from c.t 3 26 rfl rfl)
theorem u_fp_f23 (c : Says K) : fp K (af23 K) "over_one_bottom" = true := of_decide_eq_true (show t_fp_f23 K = true from c.t 3 27 rfl rfl)
theorem u_g68 (c : Says K) : PySem.W.nsIn K mainGlobals "_law_poly" = some (some (.ref (af68 K))) := of_decide_eq_true (show t_g68 K = true from c.t 3 28 rfl rfl)
theorem u_fp_f68 (c : Says K) : fp K (af68 K) "_law_poly" = true := of_decide_eq_true (show t_fp_f68 K = true from c.t 3 29 rfl rfl)
theorem u_g69 (c : Says K) : PySem.W.nsIn K mainGlobals "_law_p_plus" = some (some (.ref (af69 K))) := of_decide_eq_true (show t_g69 K = true from c.t 4 0 rfl rfl)
theorem u_fp_f69 (c : Says K) : fp K (af69 K) "_law_p_plus" = true := of_decide_eq_true (show t_fp_f69 K = true from c.t 4 1 rfl rfl)
theorem u_g70 (c : Says K) : PySem.W.nsIn K mainGlobals "_law_p_at" = some (some (.ref (af70 K))) := of_decide_eq_true (show t_g70 K = true from c.t 4 2 rfl rfl)
theorem u_fp_f70 (c : Says K) : fp K (af70 K) "_law_p_at" = true := of_decide_eq_true (show t_fp_f70 K = true from c.t 4 3 rfl rfl)
theorem u_g54 (c : Says K) : PySem.W.nsIn K mainGlobals "_law_pen" = some (some (.ref (af54 K))) := of_decide_eq_true (show t_g54 K = true from c.t 4 4 rfl rfl)
theorem u_fp_f54 (c : Says K) : fp K (af54 K) "_law_pen" = true := of_decide_eq_true (show t_fp_f54 K = true from c.t 4 5 rfl rfl)
theorem u_g55 (c : Says K) : PySem.W.nsIn K mainGlobals "_law_draw" = some (some (.ref (af55 K))) := of_decide_eq_true (show t_g55 K = true from c.t 4 6 rfl rfl)
theorem u_fp_f55 (c : Says K) : fp K (af55 K) "_law_draw" = true := of_decide_eq_true (show t_fp_f55 K = true from c.t 4 7 rfl rfl)
theorem u_g56 (c : Says K) : PySem.W.nsIn K mainGlobals "_law_pick" = some (some (.ref (af56 K))) := of_decide_eq_true (show t_g56 K = true from c.t 4 8 rfl rfl)
theorem u_fp_f56 (c : Says K) : fp K (af56 K) "_law_pick" = true := of_decide_eq_true (show t_fp_f56 K = true from c.t 4 9 rfl rfl)
theorem u_g63 (c : Says K) : PySem.W.nsIn K mainGlobals "_law_passed" = some (some (.ref (af63 K))) := of_decide_eq_true (show t_g63 K = true from c.t 4 10 rfl rfl)
theorem u_fp_f63 (c : Says K) : fp K (af63 K) "_law_passed" = true := of_decide_eq_true (show t_fp_f63 K = true from c.t 4 11 rfl rfl)
theorem u_g64 (c : Says K) : PySem.W.nsIn K mainGlobals "_law_ratio" = some (some (.ref (af64 K))) := of_decide_eq_true (show t_g64 K = true from c.t 4 12 rfl rfl)
theorem u_fp_f64 (c : Says K) : fp K (af64 K) "_law_ratio" = true := of_decide_eq_true (show t_fp_f64 K = true from c.t 4 13 rfl rfl)
theorem u_g66 (c : Says K) : PySem.W.nsIn K mainGlobals "_law_lower_one" = some (some (.ref (af66 K))) := of_decide_eq_true (show t_g66 K = true from c.t 4 14 rfl rfl)
theorem u_fp_f66 (c : Says K) : fp K (af66 K) "_law_lower_one" = true := of_decide_eq_true (show t_fp_f66 K = true from c.t 4 15 rfl rfl)
theorem u_g67 (c : Says K) : PySem.W.nsIn K mainGlobals "_law_sorted" = some (some (.ref (af67 K))) := of_decide_eq_true (show t_g67 K = true from c.t 4 16 rfl rfl)
theorem u_fp_f67 (c : Says K) : fp K (af67 K) "_law_sorted" = true := of_decide_eq_true (show t_fp_f67 K = true from c.t 4 17 rfl rfl)
theorem u_g71 (c : Says K) : PySem.W.nsIn K mainGlobals "_law_f_piece" = some (some (.ref (af71 K))) := of_decide_eq_true (show t_g71 K = true from c.t 4 18 rfl rfl)
theorem u_fp_f71 (c : Says K) : fp K (af71 K) "_law_f_piece" = true := of_decide_eq_true (show t_fp_f71 K = true from c.t 4 19 rfl rfl)
theorem u_g72 (c : Says K) : PySem.W.nsIn K mainGlobals "_law_f_at" = some (some (.ref (af72 K))) := of_decide_eq_true (show t_g72 K = true from c.t 4 20 rfl rfl)
theorem u_fp_f72 (c : Says K) : fp K (af72 K) "_law_f_at" = true := of_decide_eq_true (show t_fp_f72 K = true from c.t 4 21 rfl rfl)
theorem u_g73 (c : Says K) : PySem.W.nsIn K mainGlobals "_law_f_limits" = some (some (.ref (af73 K))) := of_decide_eq_true (show t_g73 K = true from c.t 4 22 rfl rfl)
theorem u_fp_f73 (c : Says K) : fp K (af73 K) "_law_f_limits" = true := of_decide_eq_true (show t_fp_f73 K = true from c.t 4 23 rfl rfl)
theorem u_g74 (c : Says K) : PySem.W.nsIn K mainGlobals "_law_made_function" = some (some (.ref (af74 K))) := of_decide_eq_true (show t_g74 K = true from c.t 4 24 rfl rfl)
theorem u_fp_f74 (c : Says K) : fp K (af74 K) "_law_made_function" = true := of_decide_eq_true (show t_fp_f74 K = true from c.t 4 25 rfl rfl)
theorem u_g76 (c : Says K) : PySem.W.nsIn K mainGlobals "_law_drawn_knots" = some (some (.ref (af76 K))) := of_decide_eq_true (show t_g76 K = true from c.t 4 26 rfl rfl)
theorem u_fp_f76 (c : Says K) : fp K (af76 K) "_law_drawn_knots" = true := of_decide_eq_true (show t_fp_f76 K = true from c.t 4 27 rfl rfl)
theorem u_g77 (c : Says K) : PySem.W.nsIn K mainGlobals "_law_drawn_function" = some (some (.ref (af77 K))) := of_decide_eq_true (show t_g77 K = true from c.t 4 28 rfl rfl)
theorem u_fp_f77 (c : Says K) : fp K (af77 K) "_law_drawn_function" = true := of_decide_eq_true (show t_fp_f77 K = true from c.t 4 29 rfl rfl)
theorem u_g19 (c : Says K) : PySem.W.nsIn K mainGlobals "ascends" = some (some (.ref (af19 K))) := of_decide_eq_true (show t_g19 K = true from c.t 5 0 rfl rfl)
theorem u_fp_f19 (c : Says K) : fp K (af19 K) "ascends" = true := of_decide_eq_true (show t_fp_f19 K = true from c.t 5 1 rfl rfl)
theorem u_g20 (c : Says K) : PySem.W.nsIn K mainGlobals "told_row" = some (some (.ref (af20 K))) := of_decide_eq_true (show t_g20 K = true from c.t 5 2 rfl rfl)
theorem u_fp_f20 (c : Says K) : fp K (af20 K) "told_row" = true := of_decide_eq_true (show t_fp_f20 K = true from c.t 5 3 rfl rfl)
theorem u_g35 (c : Says K) : PySem.W.nsIn K mainGlobals "is_row_of_polys" = some (some (.ref (af35 K))) := of_decide_eq_true (show t_g35 K = true from c.t 5 4 rfl rfl)
theorem u_fp_f35 (c : Says K) : fp K (af35 K) "is_row_of_polys" = true := of_decide_eq_true (show t_fp_f35 K = true from c.t 5 5 rfl rfl)
theorem u_g36 (c : Says K) : PySem.W.nsIn K mainGlobals "place_in" = some (some (.ref (af36 K))) := of_decide_eq_true (show t_g36 K = true from c.t 5 6 rfl rfl)
theorem u_fp_f36 (c : Says K) : fp K (af36 K) "place_in" = true := of_decide_eq_true (show t_fp_f36 K = true from c.t 5 7 rfl rfl)
theorem u_g37 (c : Says K) : PySem.W.nsIn K mainGlobals "piece_from" = some (some (.ref (af37 K))) := of_decide_eq_true (show t_g37 K = true from c.t 5 8 rfl rfl)
theorem u_fp_f37 (c : Says K) : fp K (af37 K) "piece_from" = true := of_decide_eq_true (show t_fp_f37 K = true from c.t 5 9 rfl rfl)
theorem u_g38 (c : Says K) : PySem.W.nsIn K mainGlobals "knot_limits" = some (some (.ref (af38 K))) := of_decide_eq_true (show t_g38 K = true from c.t 5 10 rfl rfl)
theorem u_fp_f38 (c : Says K) : fp K (af38 K) "knot_limits" = true := of_decide_eq_true (show t_fp_f38 K = true from c.t 5 11 rfl rfl)
theorem u_g39 (c : Says K) : PySem.W.nsIn K mainGlobals "numbers_and_limits" = some (some (.ref (af39 K))) := of_decide_eq_true (show t_g39 K = true from c.t 5 12 rfl rfl)
theorem u_fp_f39 (c : Says K) : fp K (af39 K) "numbers_and_limits" = true := of_decide_eq_true (show t_fp_f39 K = true from c.t 5 13 rfl rfl)
theorem u_g16 (c : Says K) : PySem.W.nsIn K mainGlobals "gap_of" = some (some (.ref (af16 K))) := of_decide_eq_true (show t_g16 K = true from c.t 5 14 rfl rfl)
theorem u_fp_f16 (c : Says K) : fp K (af16 K) "gap_of" = true := of_decide_eq_true (show t_fp_f16 K = true from c.t 5 15 rfl rfl)
theorem u_g21 (c : Says K) : PySem.W.nsIn K mainGlobals "sum_of" = some (some (.ref (af21 K))) := of_decide_eq_true (show t_g21 K = true from c.t 5 16 rfl rfl)
theorem u_fp_f21 (c : Says K) : fp K (af21 K) "sum_of" = true := of_decide_eq_true (show t_fp_f21 K = true from c.t 5 17 rfl rfl)
theorem u_g22 (c : Says K) : PySem.W.nsIn K mainGlobals "are_whole_parts" = some (some (.ref (af22 K))) := of_decide_eq_true (show t_g22 K = true from c.t 5 18 rfl rfl)
theorem u_fp_f22 (c : Says K) : fp K (af22 K) "are_whole_parts" = true := of_decide_eq_true (show t_fp_f22 K = true from c.t 5 19 rfl rfl)
theorem u_g24 (c : Says K) : PySem.W.nsIn K mainGlobals "joint_sums" = some (some (.ref (af24 K))) := of_decide_eq_true (show t_g24 K = true from c.t 5 20 rfl rfl)
theorem u_fp_f24 (c : Says K) : fp K (af24 K) "joint_sums" = true := of_decide_eq_true (show t_fp_f24 K = true from c.t 5 21 rfl rfl)
theorem u_g25 (c : Says K) : PySem.W.nsIn K mainGlobals "joint_sum" = some (some (.ref (af25 K))) := of_decide_eq_true (show t_g25 K = true from c.t 5 22 rfl rfl)
theorem u_fp_f25 (c : Says K) : fp K (af25 K) "joint_sum" = true := of_decide_eq_true (show t_fp_f25 K = true from c.t 5 23 rfl rfl)
theorem u_g43 (c : Says K) : PySem.W.nsIn K mainGlobals "are_parts" = some (some (.ref (af43 K))) := of_decide_eq_true (show t_g43 K = true from c.t 5 24 rfl rfl)
theorem u_fp_f43 (c : Says K) : fp K (af43 K) "are_parts" = true := of_decide_eq_true (show t_fp_f43 K = true from c.t 5 25 rfl rfl)
theorem u_g44 (c : Says K) : PySem.W.nsIn K mainGlobals "is_bounded_kind" = some (some (.ref (af44 K))) := of_decide_eq_true (show t_g44 K = true from c.t 5 26 rfl rfl)
theorem u_fp_f44 (c : Says K) : fp K (af44 K) "is_bounded_kind" = true := of_decide_eq_true (show t_fp_f44 K = true from c.t 5 27 rfl rfl)
theorem u_g45 (c : Says K) : PySem.W.nsIn K mainGlobals "is_within" = some (some (.ref (af45 K))) := of_decide_eq_true (show t_g45 K = true from c.t 5 28 rfl rfl)
theorem u_fp_f45 (c : Says K) : fp K (af45 K) "is_within" = true := of_decide_eq_true (show t_fp_f45 K = true from c.t 5 29 rfl rfl)
theorem u_g46 (c : Says K) : PySem.W.nsIn K mainGlobals "means_of" = some (some (.ref (af46 K))) := of_decide_eq_true (show t_g46 K = true from c.t 6 0 rfl rfl)
theorem u_fp_f46 (c : Says K) : fp K (af46 K) "means_of" = true := of_decide_eq_true (show t_fp_f46 K = true from c.t 6 1 rfl rfl)
theorem u_g47 (c : Says K) : PySem.W.nsIn K mainGlobals "check_one_stretch" = some (some (.ref (af47 K))) := of_decide_eq_true (show t_g47 K = true from c.t 6 2 rfl rfl)
theorem u_fp_f47 (c : Says K) : fp K (af47 K) "check_one_stretch" = true := of_decide_eq_true (show t_fp_f47 K = true from c.t 6 3 rfl rfl)
theorem u_g48 (c : Says K) : PySem.W.nsIn K mainGlobals "functions_of" = some (some (.ref (af48 K))) := of_decide_eq_true (show t_g48 K = true from c.t 6 4 rfl rfl)
theorem u_fp_f48 (c : Says K) : fp K (af48 K) "functions_of" = true := of_decide_eq_true (show t_fp_f48 K = true from c.t 6 5 rfl rfl)
theorem u_g49 (c : Says K) : PySem.W.nsIn K mainGlobals "gap_missed" = some (some (.ref (af49 K))) := of_decide_eq_true (show t_g49 K = true from c.t 6 6 rfl rfl)
theorem u_fp_f49 (c : Says K) : fp K (af49 K) "gap_missed" = true := of_decide_eq_true (show t_fp_f49 K = true from c.t 6 7 rfl rfl)
theorem u_g50 (c : Says K) : PySem.W.nsIn K mainGlobals "check_places" = some (some (.ref (af50 K))) := of_decide_eq_true (show t_g50 K = true from c.t 6 8 rfl rfl)
theorem u_fp_f50 (c : Says K) : fp K (af50 K) "check_places" = true := of_decide_eq_true (show t_fp_f50 K = true from c.t 6 9 rfl rfl)
theorem u_g51 (c : Says K) : PySem.W.nsIn K mainGlobals "missed" = some (some (.ref (af51 K))) := of_decide_eq_true (show t_g51 K = true from c.t 6 10 rfl rfl)
theorem u_fp_f51 (c : Says K) : fp K (af51 K) "missed" = true := of_decide_eq_true (show t_fp_f51 K = true from c.t 6 11 rfl rfl)
theorem u_g65 (c : Says K) : PySem.W.nsIn K mainGlobals "_law_interval" = some (some (.ref (af65 K))) := of_decide_eq_true (show t_g65 K = true from c.t 6 12 rfl rfl)
theorem u_fp_f65 (c : Says K) : fp K (af65 K) "_law_interval" = true := of_decide_eq_true (show t_fp_f65 K = true from c.t 6 13 rfl rfl)
theorem u_g75 (c : Says K) : PySem.W.nsIn K mainGlobals "_law_f_of" = some (some (.ref (af75 K))) := of_decide_eq_true (show t_g75 K = true from c.t 6 14 rfl rfl)
theorem u_fp_f75 (c : Says K) : fp K (af75 K) "_law_f_of" = true := of_decide_eq_true (show t_fp_f75 K = true from c.t 6 15 rfl rfl)
theorem u_g78 (c : Says K) : PySem.W.nsIn K mainGlobals "_law_share_mean" = some (some (.ref (af78 K))) := of_decide_eq_true (show t_g78 K = true from c.t 6 16 rfl rfl)
theorem u_fp_f78 (c : Says K) : fp K (af78 K) "_law_share_mean" = true := of_decide_eq_true (show t_fp_f78 K = true from c.t 6 17 rfl rfl)
theorem u_g79 (c : Says K) : PySem.W.nsIn K mainGlobals "_law_drawn_share" = some (some (.ref (af79 K))) := of_decide_eq_true (show t_g79 K = true from c.t 6 18 rfl rfl)
theorem u_fp_f79 (c : Says K) : fp K (af79 K) "_law_drawn_share" = true := of_decide_eq_true (show t_fp_f79 K = true from c.t 6 19 rfl rfl)
theorem u_g80 (c : Says K) : PySem.W.nsIn K mainGlobals "_law_made_told" = some (some (.ref (af80 K))) := of_decide_eq_true (show t_g80 K = true from c.t 6 20 rfl rfl)
theorem u_fp_f80 (c : Says K) : fp K (af80 K) "_law_made_told" = true := of_decide_eq_true (show t_fp_f80 K = true from c.t 6 21 rfl rfl)
theorem u_g81 (c : Says K) : PySem.W.nsIn K mainGlobals "_law_passed_row" = some (some (.ref (af81 K))) := of_decide_eq_true (show t_g81 K = true from c.t 6 22 rfl rfl)
theorem u_fp_f81 (c : Says K) : fp K (af81 K) "_law_passed_row" = true := of_decide_eq_true (show t_fp_f81 K = true from c.t 6 23 rfl rfl)
theorem u_g82 (c : Says K) : PySem.W.nsIn K mainGlobals "_law_made_share" = some (some (.ref (af82 K))) := of_decide_eq_true (show t_g82 K = true from c.t 6 24 rfl rfl)
theorem u_fp_f82 (c : Says K) : fp K (af82 K) "_law_made_share" = true := of_decide_eq_true (show t_fp_f82 K = true from c.t 6 25 rfl rfl)
theorem u_g83 (c : Says K) : PySem.W.nsIn K mainGlobals "_law_row" = some (some (.ref (af83 K))) := of_decide_eq_true (show t_g83 K = true from c.t 6 26 rfl rfl)
theorem u_fp_f83 (c : Says K) : fp K (af83 K) "_law_row" = true := of_decide_eq_true (show t_fp_f83 K = true from c.t 6 27 rfl rfl)
theorem u_pG (c : Says K) : PySem.W.nsIn K mainGlobals "Poly" = some (some (.ref (acP K))) := of_decide_eq_true (show t_pG K = true from c.t 6 28 rfl rfl)
theorem u_p1 (c : Says K) : PySem.W.plainGet K (acP K) Str.empty = true := of_decide_eq_true (show t_p1 K = true from c.t 6 29 rfl rfl)
theorem u_p2 (c : Says K) : PySem.W.hasDictIn K (acP K) = true := of_decide_eq_true (show t_p2 K = true from c.t 7 0 rfl rfl)
theorem u_p3 (c : Says K) : PySem.W.plainOver K (acP K) = true := of_decide_eq_true (show t_p3 K = true from c.t 7 1 rfl rfl)
theorem u_p4 (c : Says K) : PySem.W.findIn K (.ref (acP K)) "__setattr__" = some (some (.builtin "object.__setattr__")) := of_decide_eq_true (show t_p4 K = true from c.t 7 2 rfl rfl)
theorem u_p5 (c : Says K) : PySem.W.findIn K (.ref (acP K)) "numbers" = some none := of_decide_eq_true (show t_p5 K = true from c.t 7 3 rfl rfl)
theorem u_p6 (c : Says K) : PySem.W.findIn K (.ref (acP K)) "__class__" = some (some (.builtin "object.__class__")) := of_decide_eq_true (show t_p6 K = true from c.t 7 4 rfl rfl)
theorem u_p7 (c : Says K) : PySem.W.mroIn K (acP K) (.type "object") = some true := of_decide_eq_true (show t_p7 K = true from c.t 7 5 rfl rfl)
theorem u_p8 (c : Says K) : PySem.W.makesIn K (acP K) = true := of_decide_eq_true (show t_p8 K = true from c.t 7 6 rfl rfl)
theorem u_p9 (c : Says K) : PySem.W.keepIn K (.ref (acP K)) = true := of_decide_eq_true (show t_p9 K = true from c.t 7 7 rfl rfl)
theorem u_pa (c : Says K) : PySem.W.selfFirst K (acP K) = true := of_decide_eq_true (show t_pa K = true from c.t 7 8 rfl rfl)
theorem u_pn_int (c : Says K) : PySem.W.kitOne K (.type "int") (.ref (acP K)) = some false := of_decide_eq_true (show t_pn_int K = true from c.t 7 9 rfl rfl)
theorem u_pn_bool (c : Says K) : PySem.W.kitOne K (.type "bool") (.ref (acP K)) = some false := of_decide_eq_true (show t_pn_bool K = true from c.t 7 10 rfl rfl)
theorem u_pn_str (c : Says K) : PySem.W.kitOne K (.type "str") (.ref (acP K)) = some false := of_decide_eq_true (show t_pn_str K = true from c.t 7 11 rfl rfl)
theorem u_pn_NoneType (c : Says K) : PySem.W.kitOne K (.type "NoneType") (.ref (acP K)) = some false := of_decide_eq_true (show t_pn_NoneType K = true from c.t 7 12 rfl rfl)
theorem u_pn_tuple (c : Says K) : PySem.W.kitOne K (.type "tuple") (.ref (acP K)) = some false := of_decide_eq_true (show t_pn_tuple K = true from c.t 7 13 rfl rfl)
theorem u_pn_list (c : Says K) : PySem.W.kitOne K (.type "list") (.ref (acP K)) = some false := of_decide_eq_true (show t_pn_list K = true from c.t 7 14 rfl rfl)
theorem u_pn_dict (c : Says K) : PySem.W.kitOne K (.type "dict") (.ref (acP K)) = some false := of_decide_eq_true (show t_pn_dict K = true from c.t 7 15 rfl rfl)
theorem u_pi1 (c : Says K) : PySem.W.subIn K (.type "int") (.ref (acP K)) = some false := of_decide_eq_true (show t_pi1 K = true from c.t 7 16 rfl rfl)
theorem u_pi2 (c : Says K) : PySem.W.subIn K (.ref (acP K)) (.type "int") = some false := of_decide_eq_true (show t_pi2 K = true from c.t 7 17 rfl rfl)
theorem u_pt1 (c : Says K) : PySem.W.subIn K (.type "tuple") (.ref (acP K)) = some false := of_decide_eq_true (show t_pt1 K = true from c.t 7 18 rfl rfl)
theorem u_pt2 (c : Says K) : PySem.W.subIn K (.ref (acP K)) (.type "tuple") = some false := of_decide_eq_true (show t_pt2 K = true from c.t 7 19 rfl rfl)
theorem u_mem0 (c : Says K) : PySem.W.findIn K (.ref (acP K)) "__init__" = some (some (.ref (afm0 K))) := of_decide_eq_true (show t_mem0 K = true from c.t 7 20 rfl rfl)
theorem u_ism0 (c : Says K) : PySem.W.isFn K (.ref (afm0 K)) = true := of_decide_eq_true (show t_ism0 K = true from c.t 7 21 rfl rfl)
theorem u_fp_fm0 (c : Says K) : fp K (afm0 K) "Poly.__init__" = true := of_decide_eq_true (show t_fp_fm0 K = true from c.t 7 22 rfl rfl)
theorem u_mem10 (c : Says K) : PySem.W.findIn K (.ref (acP K)) "at" = some (some (.ref (afm10 K))) := of_decide_eq_true (show t_mem10 K = true from c.t 7 23 rfl rfl)
theorem u_ism10 (c : Says K) : PySem.W.isFn K (.ref (afm10 K)) = true := of_decide_eq_true (show t_ism10 K = true from c.t 7 24 rfl rfl)
theorem u_fp_fm10 (c : Says K) : fp K (afm10 K) "Poly.at" = true := of_decide_eq_true (show t_fp_fm10 K = true from c.t 7 25 rfl rfl)
theorem u_bG (c : Says K) : PySem.W.nsIn K mainGlobals "Broken" = some (some (.ref (acB K))) := of_decide_eq_true (show t_bG K = true from c.t 7 26 rfl rfl)
theorem u_b1 (c : Says K) : PySem.W.plainGet K (acB K) Str.empty = true := of_decide_eq_true (show t_b1 K = true from c.t 7 27 rfl rfl)
theorem u_b2 (c : Says K) : PySem.W.hasDictIn K (acB K) = true := of_decide_eq_true (show t_b2 K = true from c.t 7 28 rfl rfl)
theorem u_b3 (c : Says K) : PySem.W.plainOver K (acB K) = true := of_decide_eq_true (show t_b3 K = true from c.t 7 29 rfl rfl)
theorem u_b4 (c : Says K) : PySem.W.findIn K (.ref (acB K)) "__setattr__" = some (some (.builtin "object.__setattr__")) := of_decide_eq_true (show t_b4 K = true from c.t 8 0 rfl rfl)
theorem u_b5 (c : Says K) : PySem.W.findIn K (.ref (acB K)) "knots" = some none := of_decide_eq_true (show t_b5 K = true from c.t 8 1 rfl rfl)
theorem u_b6 (c : Says K) : PySem.W.findIn K (.ref (acB K)) "polys" = some none := of_decide_eq_true (show t_b6 K = true from c.t 8 2 rfl rfl)
theorem u_b7 (c : Says K) : PySem.W.findIn K (.ref (acB K)) "at" = some none := of_decide_eq_true (show t_b7 K = true from c.t 8 3 rfl rfl)
theorem u_yb8 (c : Says K) : PySem.W.findIn K (.ref (acB K)) "__class__" = some (some (.builtin "object.__class__")) := of_decide_eq_true (show t_yb8 K = true from c.t 8 4 rfl rfl)
theorem u_yb9 (c : Says K) : PySem.W.mroIn K (acB K) (.type "object") = some true := of_decide_eq_true (show t_yb9 K = true from c.t 8 5 rfl rfl)
theorem u_ba (c : Says K) : PySem.W.makesIn K (acB K) = true := of_decide_eq_true (show t_ba K = true from c.t 8 6 rfl rfl)
theorem u_bb (c : Says K) : PySem.W.keepIn K (.ref (acB K)) = true := of_decide_eq_true (show t_bb K = true from c.t 8 7 rfl rfl)
theorem u_bn_int (c : Says K) : PySem.W.kitOne K (.type "int") (.ref (acB K)) = some false := of_decide_eq_true (show t_bn_int K = true from c.t 8 8 rfl rfl)
theorem u_bn_bool (c : Says K) : PySem.W.kitOne K (.type "bool") (.ref (acB K)) = some false := of_decide_eq_true (show t_bn_bool K = true from c.t 8 9 rfl rfl)
theorem u_bn_str (c : Says K) : PySem.W.kitOne K (.type "str") (.ref (acB K)) = some false := of_decide_eq_true (show t_bn_str K = true from c.t 8 10 rfl rfl)
theorem u_bn_NoneType (c : Says K) : PySem.W.kitOne K (.type "NoneType") (.ref (acB K)) = some false := of_decide_eq_true (show t_bn_NoneType K = true from c.t 8 11 rfl rfl)
theorem u_bn_tuple (c : Says K) : PySem.W.kitOne K (.type "tuple") (.ref (acB K)) = some false := of_decide_eq_true (show t_bn_tuple K = true from c.t 8 12 rfl rfl)
theorem u_bn_list (c : Says K) : PySem.W.kitOne K (.type "list") (.ref (acB K)) = some false := of_decide_eq_true (show t_bn_list K = true from c.t 8 13 rfl rfl)
theorem u_bn_dict (c : Says K) : PySem.W.kitOne K (.type "dict") (.ref (acB K)) = some false := of_decide_eq_true (show t_bn_dict K = true from c.t 8 14 rfl rfl)
theorem u_bi1 (c : Says K) : PySem.W.subIn K (.type "int") (.ref (acB K)) = some false := of_decide_eq_true (show t_bi1 K = true from c.t 8 15 rfl rfl)
theorem u_bt1 (c : Says K) : PySem.W.subIn K (.type "tuple") (.ref (acB K)) = some false := of_decide_eq_true (show t_bt1 K = true from c.t 8 16 rfl rfl)
theorem u_meq0 (c : Says K) : PySem.W.findIn K (.ref (acB K)) "__init__" = some (some (.ref (afq0 K))) := of_decide_eq_true (show t_meq0 K = true from c.t 8 17 rfl rfl)
theorem u_isq0 (c : Says K) : PySem.W.isFn K (.ref (afq0 K)) = true := of_decide_eq_true (show t_isq0 K = true from c.t 8 18 rfl rfl)
theorem u_fp_fq0 (c : Says K) : fp K (afq0 K) "Broken.__init__" = true := of_decide_eq_true (show t_fp_fq0 K = true from c.t 8 19 rfl rfl)
theorem u_meq2 (c : Says K) : PySem.W.findIn K (.ref (acB K)) "value" = some (some (.ref (afq2 K))) := of_decide_eq_true (show t_meq2 K = true from c.t 8 20 rfl rfl)
theorem u_isq2 (c : Says K) : PySem.W.isFn K (.ref (afq2 K)) = true := of_decide_eq_true (show t_isq2 K = true from c.t 8 21 rfl rfl)
theorem u_fp_fq2 (c : Says K) : fp K (afq2 K) "Broken.value" = true := of_decide_eq_true (show t_fp_fq2 K = true from c.t 8 22 rfl rfl)
theorem u_meq5 (c : Says K) : PySem.W.findIn K (.ref (acB K)) "is_upper" = some (some (.ref (afq5 K))) := of_decide_eq_true (show t_meq5 K = true from c.t 8 23 rfl rfl)
theorem u_isq5 (c : Says K) : PySem.W.isFn K (.ref (afq5 K)) = true := of_decide_eq_true (show t_isq5 K = true from c.t 8 24 rfl rfl)
theorem u_fp_fq5 (c : Says K) : fp K (afq5 K) "Broken.is_upper" = true := of_decide_eq_true (show t_fp_fq5 K = true from c.t 8 25 rfl rfl)
theorem u_meq6 (c : Says K) : PySem.W.findIn K (.ref (acB K)) "is_lower" = some (some (.ref (afq6 K))) := of_decide_eq_true (show t_meq6 K = true from c.t 8 26 rfl rfl)
theorem u_isq6 (c : Says K) : PySem.W.isFn K (.ref (afq6 K)) = true := of_decide_eq_true (show t_isq6 K = true from c.t 8 27 rfl rfl)
theorem u_fp_fq6 (c : Says K) : fp K (afq6 K) "Broken.is_lower" = true := of_decide_eq_true (show t_fp_fq6 K = true from c.t 8 28 rfl rfl)
theorem u_osG (c : Says K) : PySem.W.nsIn K mainGlobals "Share" = some (some (.ref (acS K))) := of_decide_eq_true (show t_osG K = true from c.t 8 29 rfl rfl)
theorem u_os1 (c : Says K) : PySem.W.plainGet K (acS K) Str.empty = true := of_decide_eq_true (show t_os1 K = true from c.t 9 0 rfl rfl)
theorem u_os2 (c : Says K) : PySem.W.hasDictIn K (acS K) = true := of_decide_eq_true (show t_os2 K = true from c.t 9 1 rfl rfl)
theorem u_os3 (c : Says K) : PySem.W.plainOver K (acS K) = true := of_decide_eq_true (show t_os3 K = true from c.t 9 2 rfl rfl)
theorem u_os4 (c : Says K) : PySem.W.findIn K (.ref (acS K)) "__setattr__" = some (some (.builtin "object.__setattr__")) := of_decide_eq_true (show t_os4 K = true from c.t 9 3 rfl rfl)
theorem u_osf0 (c : Says K) : PySem.W.findIn K (.ref (acS K)) "places" = some none := of_decide_eq_true (show t_osf0 K = true from c.t 9 4 rfl rfl)
theorem u_osf1 (c : Says K) : PySem.W.findIn K (.ref (acS K)) "parts" = some none := of_decide_eq_true (show t_osf1 K = true from c.t 9 5 rfl rfl)
theorem u_osa (c : Says K) : PySem.W.makesIn K (acS K) = true := of_decide_eq_true (show t_osa K = true from c.t 9 6 rfl rfl)
theorem u_osb (c : Says K) : PySem.W.keepIn K (.ref (acS K)) = true := of_decide_eq_true (show t_osb K = true from c.t 9 7 rfl rfl)
theorem u_mesq0 (c : Says K) : PySem.W.findIn K (.ref (acS K)) "__init__" = some (some (.ref (afsq0 K))) := of_decide_eq_true (show t_mesq0 K = true from c.t 9 8 rfl rfl)
theorem u_issq0 (c : Says K) : PySem.W.isFn K (.ref (afsq0 K)) = true := of_decide_eq_true (show t_issq0 K = true from c.t 9 9 rfl rfl)
theorem u_fp_fsq0 (c : Says K) : fp K (afsq0 K) "Share.__init__" = true := of_decide_eq_true (show t_fp_fsq0 K = true from c.t 9 10 rfl rfl)
theorem u_otG (c : Says K) : PySem.W.nsIn K mainGlobals "Told" = some (some (.ref (acT K))) := of_decide_eq_true (show t_otG K = true from c.t 9 11 rfl rfl)
theorem u_ot1 (c : Says K) : PySem.W.plainGet K (acT K) Str.empty = true := of_decide_eq_true (show t_ot1 K = true from c.t 9 12 rfl rfl)
theorem u_ot2 (c : Says K) : PySem.W.hasDictIn K (acT K) = true := of_decide_eq_true (show t_ot2 K = true from c.t 9 13 rfl rfl)
theorem u_ot3 (c : Says K) : PySem.W.plainOver K (acT K) = true := of_decide_eq_true (show t_ot3 K = true from c.t 9 14 rfl rfl)
theorem u_ot4 (c : Says K) : PySem.W.findIn K (.ref (acT K)) "__setattr__" = some (some (.builtin "object.__setattr__")) := of_decide_eq_true (show t_ot4 K = true from c.t 9 15 rfl rfl)
theorem u_otf0 (c : Says K) : PySem.W.findIn K (.ref (acT K)) "function" = some none := of_decide_eq_true (show t_otf0 K = true from c.t 9 16 rfl rfl)
theorem u_otf1 (c : Says K) : PySem.W.findIn K (.ref (acT K)) "least" = some none := of_decide_eq_true (show t_otf1 K = true from c.t 9 17 rfl rfl)
theorem u_otf2 (c : Says K) : PySem.W.findIn K (.ref (acT K)) "most" = some none := of_decide_eq_true (show t_otf2 K = true from c.t 9 18 rfl rfl)
theorem u_ota (c : Says K) : PySem.W.makesIn K (acT K) = true := of_decide_eq_true (show t_ota K = true from c.t 9 19 rfl rfl)
theorem u_otb (c : Says K) : PySem.W.keepIn K (.ref (acT K)) = true := of_decide_eq_true (show t_otb K = true from c.t 9 20 rfl rfl)
theorem u_metq0 (c : Says K) : PySem.W.findIn K (.ref (acT K)) "__init__" = some (some (.ref (aftq0 K))) := of_decide_eq_true (show t_metq0 K = true from c.t 9 21 rfl rfl)
theorem u_istq0 (c : Says K) : PySem.W.isFn K (.ref (aftq0 K)) = true := of_decide_eq_true (show t_istq0 K = true from c.t 9 22 rfl rfl)
theorem u_fp_ftq0 (c : Says K) : fp K (aftq0 K) "Told.__init__" = true := of_decide_eq_true (show t_fp_ftq0 K = true from c.t 9 23 rfl rfl)
theorem u_g84 (c : Says K) : PySem.W.nsIn K mainGlobals "law" = some (some (.ref (af84 K))) := of_decide_eq_true (show t_g84 K = true from c.t 9 24 rfl rfl)
theorem u_fp_f84 (c : Says K) : fp K (af84 K) "law" = true := of_decide_eq_true (show t_fp_f84 K = true from c.t 9 25 rfl rfl)
theorem u_g52 (c : Says K) : PySem.W.nsIn K mainGlobals "fits" = some (some (.ref (af52 K))) := of_decide_eq_true (show t_g52 K = true from c.t 9 26 rfl rfl)
theorem u_fd_f52 (c : Says K) : fd1 K (af52 K) "fits" = true := of_decide_eq_true (show t_fd_f52 K = true from c.t 9 27 rfl rfl)
theorem u_nbN (c : Says K) : (aCN K) ≠ (aB K) := of_decide_eq_true (show t_nbN K = true from c.t 9 28 rfl rfl)
theorem u_nbR (c : Says K) : (aCR K) ≠ (aB K) := of_decide_eq_true (show t_nbR K = true from c.t 9 29 rfl rfl)
theorem u_neRN (c : Says K) : (aCR K) ≠ (aCN K) := of_decide_eq_true (show t_neRN K = true from c.t 10 0 rfl rfl)
set_option maxHeartbeats 0 in
theorem facts {w : World} {h : Heap} {mg : Str → Option Value} {fa : Addr} (X : K.In h) (G : h.Ns mainGlobals mg) (hfa : mg "law" = some (.ref fa)) (c : Says K) :
    ∃ fd : FuncData, (∀ (s : Shared) (u : Value), BindsTo s fd ⟨[u], []⟩ [("_law_script", u)]) ∧ ∀ base : Heap, K.In base → base.Ns mainGlobals mg → FnG PySem.Challenge.pw_toldmeans_k09_whole_fits_to_a_gap w K mg base CX0 14 fa fd ["_law_script"] (spLaw K) := by
  obtain ⟨_, _, _, _, _, _, _, _, _, _, _, _, _, _, xl_CN⟩ := xc_ok (C := aCN K) (B := aB K) (u_xc_CN c)
  obtain ⟨_, _, _, _, _, _, _, _, _, _, _, _, _, _, _, _, _, l_fEN, c_fEN, lc_fEN, la_fEN, h2_fEN, hf_fEN⟩ := fi_ok (x := "__init__") (q := "BadNumber.__init__") (st := sI3) (a := afEN K) (C := aCN K) (c.fn 0 rfl) (u_fi_fEN c)
  obtain ⟨_, _, _, _, _, _, _, _, _, _, _, _, _, _, xl_CR⟩ := xc_ok (C := aCR K) (B := aB K) (u_xc_CR c)
  obtain ⟨_, _, _, _, _, _, _, _, _, _, _, _, _, _, _, _, _, l_fER, c_fER, lc_fER, la_fER, h2_fER, hf_fER⟩ := fi_ok (x := "__init__") (q := "BadRow.__init__") (st := sI4) (a := afER K) (C := aCR K) (c.fn 1 rfl) (u_fi_fER c)
  obtain ⟨_, _, _, _, _, _, _, _, _, _, _, _, _, _, xl_CU⟩ := xc_ok (C := aCU K) (B := aB K) (u_xc_CU c)
  obtain ⟨_, _, _, _, _, _, _, _, _, _, _, _, _, _, _, _, _, l_fEU, c_fEU, lc_fEU, la_fEU, h2_fEU, hf_fEU⟩ := fi_ok (x := "__init__") (q := "Unlike.__init__") (st := sI6) (a := afEU K) (C := aCU K) (c.fn 2 rfl) (u_fi_fEU c)
  obtain ⟨_, _, _, _, _, _, _, _, _, l_f8, c_f8, k_f8⟩ := fp_ok (x := "is_whole") (q := "is_whole") (st := top 8) (a := af8 K) (c.fn 3 rfl) (u_fp_f8 c)
  obtain ⟨_, _, _, _, _, _, _, _, _, l_f9, c_f9, k_f9⟩ := fp_ok (x := "is_pair") (q := "is_pair") (st := top 9) (a := af9 K) (c.fn 4 rfl) (u_fp_f9 c)
  obtain ⟨_, _, _, _, _, _, _, _, _, l_f10, c_f10, k_f10⟩ := fp_ok (x := "is_ratio") (q := "is_ratio") (st := top 10) (a := af10 K) (c.fn 5 rfl) (u_fp_f10 c)
  obtain ⟨_, _, _, _, _, _, _, _, _, l_f11, c_f11, k_f11⟩ := fp_ok (x := "lowest") (q := "lowest") (st := top 11) (a := af11 K) (c.fn 6 rfl) (u_fp_f11 c)
  obtain ⟨_, _, _, _, _, _, _, _, _, l_f12, c_f12, k_f12⟩ := fp_ok (x := "told") (q := "told") (st := top 12) (a := af12 K) (c.fn 7 rfl) (u_fp_f12 c)
  obtain ⟨_, _, _, _, _, _, _, _, _, l_f14, c_f14, k_f14⟩ := fp_ok (x := "minus") (q := "minus") (st := top 14) (a := af14 K) (c.fn 8 rfl) (u_fp_f14 c)
  obtain ⟨_, _, _, _, _, _, _, _, _, l_f15, c_f15, k_f15⟩ := fp_ok (x := "lower") (q := "lower") (st := top 15) (a := af15 K) (c.fn 9 rfl) (u_fp_f15 c)
  obtain ⟨_, _, _, _, _, _, _, _, _, l_f57, c_f57, k_f57⟩ := fp_ok (x := "_law_gcd") (q := "_law_gcd") (st := top 57) (a := af57 K) (c.fn 10 rfl) (u_fp_f57 c)
  obtain ⟨_, _, _, _, _, _, _, _, _, l_f58, c_f58, k_f58⟩ := fp_ok (x := "_law_q") (q := "_law_q") (st := top 58) (a := af58 K) (c.fn 11 rfl) (u_fp_f58 c)
  obtain ⟨_, _, _, _, _, _, _, _, _, l_f59, c_f59, k_f59⟩ := fp_ok (x := "_law_plus") (q := "_law_plus") (st := top 59) (a := af59 K) (c.fn 12 rfl) (u_fp_f59 c)
  obtain ⟨_, _, _, _, _, _, _, _, _, l_f60, c_f60, k_f60⟩ := fp_ok (x := "_law_minus") (q := "_law_minus") (st := top 60) (a := af60 K) (c.fn 13 rfl) (u_fp_f60 c)
  obtain ⟨_, _, _, _, _, _, _, _, _, l_f61, c_f61, k_f61⟩ := fp_ok (x := "_law_times") (q := "_law_times") (st := top 61) (a := af61 K) (c.fn 14 rfl) (u_fp_f61 c)
  obtain ⟨_, _, _, _, _, _, _, _, _, l_f62, c_f62, k_f62⟩ := fp_ok (x := "_law_less") (q := "_law_less") (st := top 62) (a := af62 K) (c.fn 15 rfl) (u_fp_f62 c)
  obtain ⟨_, _, _, _, _, _, _, _, _, l_f18, c_f18, k_f18⟩ := fp_ok (x := "is_row") (q := "is_row") (st := top 18) (a := af18 K) (c.fn 16 rfl) (u_fp_f18 c)
  obtain ⟨_, _, _, _, _, _, _, _, _, l_f28, c_f28, k_f28⟩ := fp_ok (x := "many_needed") (q := "many_needed") (st := top 28) (a := af28 K) (c.fn 17 rfl) (u_fp_f28 c)
  obtain ⟨_, _, _, _, _, _, _, _, _, l_f23, c_f23, k_f23⟩ := fp_ok (x := "over_one_bottom") (q := "over_one_bottom") (st := top 23) (a := af23 K) (c.fn 18 rfl) (u_fp_f23 c)
  obtain ⟨_, _, _, _, _, _, _, _, _, l_f68, c_f68, k_f68⟩ := fp_ok (x := "_law_poly") (q := "_law_poly") (st := top 68) (a := af68 K) (c.fn 19 rfl) (u_fp_f68 c)
  obtain ⟨_, _, _, _, _, _, _, _, _, l_f69, c_f69, k_f69⟩ := fp_ok (x := "_law_p_plus") (q := "_law_p_plus") (st := top 69) (a := af69 K) (c.fn 20 rfl) (u_fp_f69 c)
  obtain ⟨_, _, _, _, _, _, _, _, _, l_f70, c_f70, k_f70⟩ := fp_ok (x := "_law_p_at") (q := "_law_p_at") (st := top 70) (a := af70 K) (c.fn 21 rfl) (u_fp_f70 c)
  obtain ⟨_, _, _, _, _, _, _, _, _, l_f54, c_f54, k_f54⟩ := fp_ok (x := "_law_pen") (q := "_law_pen") (st := top 54) (a := af54 K) (c.fn 22 rfl) (u_fp_f54 c)
  obtain ⟨_, _, _, _, _, _, _, _, _, l_f55, c_f55, k_f55⟩ := fp_ok (x := "_law_draw") (q := "_law_draw") (st := top 55) (a := af55 K) (c.fn 23 rfl) (u_fp_f55 c)
  obtain ⟨_, _, _, _, _, _, _, _, _, l_f56, c_f56, k_f56⟩ := fp_ok (x := "_law_pick") (q := "_law_pick") (st := top 56) (a := af56 K) (c.fn 24 rfl) (u_fp_f56 c)
  obtain ⟨_, _, _, _, _, _, _, _, _, l_f63, c_f63, k_f63⟩ := fp_ok (x := "_law_passed") (q := "_law_passed") (st := top 63) (a := af63 K) (c.fn 25 rfl) (u_fp_f63 c)
  obtain ⟨_, _, _, _, _, _, _, _, _, l_f64, c_f64, k_f64⟩ := fp_ok (x := "_law_ratio") (q := "_law_ratio") (st := top 64) (a := af64 K) (c.fn 26 rfl) (u_fp_f64 c)
  obtain ⟨_, _, _, _, _, _, _, _, _, l_f66, c_f66, k_f66⟩ := fp_ok (x := "_law_lower_one") (q := "_law_lower_one") (st := top 66) (a := af66 K) (c.fn 27 rfl) (u_fp_f66 c)
  obtain ⟨_, _, _, _, _, _, _, _, _, l_f67, c_f67, k_f67⟩ := fp_ok (x := "_law_sorted") (q := "_law_sorted") (st := top 67) (a := af67 K) (c.fn 28 rfl) (u_fp_f67 c)
  obtain ⟨_, _, _, _, _, _, _, _, _, l_f71, c_f71, k_f71⟩ := fp_ok (x := "_law_f_piece") (q := "_law_f_piece") (st := top 71) (a := af71 K) (c.fn 29 rfl) (u_fp_f71 c)
  obtain ⟨_, _, _, _, _, _, _, _, _, l_f72, c_f72, k_f72⟩ := fp_ok (x := "_law_f_at") (q := "_law_f_at") (st := top 72) (a := af72 K) (c.fn 30 rfl) (u_fp_f72 c)
  obtain ⟨_, _, _, _, _, _, _, _, _, l_f73, c_f73, k_f73⟩ := fp_ok (x := "_law_f_limits") (q := "_law_f_limits") (st := top 73) (a := af73 K) (c.fn 31 rfl) (u_fp_f73 c)
  obtain ⟨_, _, _, _, _, _, _, _, _, l_f74, c_f74, k_f74⟩ := fp_ok (x := "_law_made_function") (q := "_law_made_function") (st := top 74) (a := af74 K) (c.fn 32 rfl) (u_fp_f74 c)
  obtain ⟨_, _, _, _, _, _, _, _, _, l_f76, c_f76, k_f76⟩ := fp_ok (x := "_law_drawn_knots") (q := "_law_drawn_knots") (st := top 76) (a := af76 K) (c.fn 33 rfl) (u_fp_f76 c)
  obtain ⟨_, _, _, _, _, _, _, _, _, l_f77, c_f77, k_f77⟩ := fp_ok (x := "_law_drawn_function") (q := "_law_drawn_function") (st := top 77) (a := af77 K) (c.fn 34 rfl) (u_fp_f77 c)
  obtain ⟨_, _, _, _, _, _, _, _, _, l_f19, c_f19, k_f19⟩ := fp_ok (x := "ascends") (q := "ascends") (st := top 19) (a := af19 K) (c.fn 35 rfl) (u_fp_f19 c)
  obtain ⟨_, _, _, _, _, _, _, _, _, l_f20, c_f20, k_f20⟩ := fp_ok (x := "told_row") (q := "told_row") (st := top 20) (a := af20 K) (c.fn 36 rfl) (u_fp_f20 c)
  obtain ⟨_, _, _, _, _, _, _, _, _, l_f35, c_f35, k_f35⟩ := fp_ok (x := "is_row_of_polys") (q := "is_row_of_polys") (st := top 35) (a := af35 K) (c.fn 37 rfl) (u_fp_f35 c)
  obtain ⟨_, _, _, _, _, _, _, _, _, l_f36, c_f36, k_f36⟩ := fp_ok (x := "place_in") (q := "place_in") (st := top 36) (a := af36 K) (c.fn 38 rfl) (u_fp_f36 c)
  obtain ⟨_, _, _, _, _, _, _, _, _, l_f37, c_f37, k_f37⟩ := fp_ok (x := "piece_from") (q := "piece_from") (st := top 37) (a := af37 K) (c.fn 39 rfl) (u_fp_f37 c)
  obtain ⟨_, _, _, _, _, _, _, _, _, l_f38, c_f38, k_f38⟩ := fp_ok (x := "knot_limits") (q := "knot_limits") (st := top 38) (a := af38 K) (c.fn 40 rfl) (u_fp_f38 c)
  obtain ⟨_, _, _, _, _, _, _, _, _, l_f39, c_f39, k_f39⟩ := fp_ok (x := "numbers_and_limits") (q := "numbers_and_limits") (st := top 39) (a := af39 K) (c.fn 41 rfl) (u_fp_f39 c)
  obtain ⟨_, _, _, _, _, _, _, _, _, l_f16, c_f16, k_f16⟩ := fp_ok (x := "gap_of") (q := "gap_of") (st := top 16) (a := af16 K) (c.fn 42 rfl) (u_fp_f16 c)
  obtain ⟨_, _, _, _, _, _, _, _, _, l_f21, c_f21, k_f21⟩ := fp_ok (x := "sum_of") (q := "sum_of") (st := top 21) (a := af21 K) (c.fn 43 rfl) (u_fp_f21 c)
  obtain ⟨_, _, _, _, _, _, _, _, _, l_f22, c_f22, k_f22⟩ := fp_ok (x := "are_whole_parts") (q := "are_whole_parts") (st := top 22) (a := af22 K) (c.fn 44 rfl) (u_fp_f22 c)
  obtain ⟨_, _, _, _, _, _, _, _, _, l_f24, c_f24, k_f24⟩ := fp_ok (x := "joint_sums") (q := "joint_sums") (st := top 24) (a := af24 K) (c.fn 45 rfl) (u_fp_f24 c)
  obtain ⟨_, _, _, _, _, _, _, _, _, l_f25, c_f25, k_f25⟩ := fp_ok (x := "joint_sum") (q := "joint_sum") (st := top 25) (a := af25 K) (c.fn 46 rfl) (u_fp_f25 c)
  obtain ⟨_, _, _, _, _, _, _, _, _, l_f43, c_f43, k_f43⟩ := fp_ok (x := "are_parts") (q := "are_parts") (st := top 43) (a := af43 K) (c.fn 47 rfl) (u_fp_f43 c)
  obtain ⟨_, _, _, _, _, _, _, _, _, l_f44, c_f44, k_f44⟩ := fp_ok (x := "is_bounded_kind") (q := "is_bounded_kind") (st := top 44) (a := af44 K) (c.fn 48 rfl) (u_fp_f44 c)
  obtain ⟨_, _, _, _, _, _, _, _, _, l_f45, c_f45, k_f45⟩ := fp_ok (x := "is_within") (q := "is_within") (st := top 45) (a := af45 K) (c.fn 49 rfl) (u_fp_f45 c)
  obtain ⟨_, _, _, _, _, _, _, _, _, l_f46, c_f46, k_f46⟩ := fp_ok (x := "means_of") (q := "means_of") (st := top 46) (a := af46 K) (c.fn 50 rfl) (u_fp_f46 c)
  obtain ⟨_, _, _, _, _, _, _, _, _, l_f47, c_f47, k_f47⟩ := fp_ok (x := "check_one_stretch") (q := "check_one_stretch") (st := top 47) (a := af47 K) (c.fn 51 rfl) (u_fp_f47 c)
  obtain ⟨_, _, _, _, _, _, _, _, _, l_f48, c_f48, k_f48⟩ := fp_ok (x := "functions_of") (q := "functions_of") (st := top 48) (a := af48 K) (c.fn 52 rfl) (u_fp_f48 c)
  obtain ⟨_, _, _, _, _, _, _, _, _, l_f49, c_f49, k_f49⟩ := fp_ok (x := "gap_missed") (q := "gap_missed") (st := top 49) (a := af49 K) (c.fn 53 rfl) (u_fp_f49 c)
  obtain ⟨_, _, _, _, _, _, _, _, _, l_f50, c_f50, k_f50⟩ := fp_ok (x := "check_places") (q := "check_places") (st := top 50) (a := af50 K) (c.fn 54 rfl) (u_fp_f50 c)
  obtain ⟨_, _, _, _, _, _, _, _, _, l_f51, c_f51, k_f51⟩ := fp_ok (x := "missed") (q := "missed") (st := top 51) (a := af51 K) (c.fn 55 rfl) (u_fp_f51 c)
  obtain ⟨_, _, _, _, _, _, _, _, _, l_f65, c_f65, k_f65⟩ := fp_ok (x := "_law_interval") (q := "_law_interval") (st := top 65) (a := af65 K) (c.fn 56 rfl) (u_fp_f65 c)
  obtain ⟨_, _, _, _, _, _, _, _, _, l_f75, c_f75, k_f75⟩ := fp_ok (x := "_law_f_of") (q := "_law_f_of") (st := top 75) (a := af75 K) (c.fn 57 rfl) (u_fp_f75 c)
  obtain ⟨_, _, _, _, _, _, _, _, _, l_f78, c_f78, k_f78⟩ := fp_ok (x := "_law_share_mean") (q := "_law_share_mean") (st := top 78) (a := af78 K) (c.fn 58 rfl) (u_fp_f78 c)
  obtain ⟨_, _, _, _, _, _, _, _, _, l_f79, c_f79, k_f79⟩ := fp_ok (x := "_law_drawn_share") (q := "_law_drawn_share") (st := top 79) (a := af79 K) (c.fn 59 rfl) (u_fp_f79 c)
  obtain ⟨_, _, _, _, _, _, _, _, _, l_f80, c_f80, k_f80⟩ := fp_ok (x := "_law_made_told") (q := "_law_made_told") (st := top 80) (a := af80 K) (c.fn 60 rfl) (u_fp_f80 c)
  obtain ⟨_, _, _, _, _, _, _, _, _, l_f81, c_f81, k_f81⟩ := fp_ok (x := "_law_passed_row") (q := "_law_passed_row") (st := top 81) (a := af81 K) (c.fn 61 rfl) (u_fp_f81 c)
  obtain ⟨_, _, _, _, _, _, _, _, _, l_f82, c_f82, k_f82⟩ := fp_ok (x := "_law_made_share") (q := "_law_made_share") (st := top 82) (a := af82 K) (c.fn 62 rfl) (u_fp_f82 c)
  obtain ⟨_, _, _, _, _, _, _, _, _, l_f83, c_f83, k_f83⟩ := fp_ok (x := "_law_row") (q := "_law_row") (st := top 83) (a := af83 K) (c.fn 63 rfl) (u_fp_f83 c)
  obtain ⟨_, _, _, _, _, _, _, _, _, l_fm0, c_fm0, k_fm0⟩ := fp_ok (x := "__init__") (q := "Poly.__init__") (st := sP 0) (a := afm0 K) (c.fn 64 rfl) (u_fp_fm0 c)
  obtain ⟨_, _, _, _, _, _, _, _, _, l_fm10, c_fm10, k_fm10⟩ := fp_ok (x := "at") (q := "Poly.at") (st := sP 10) (a := afm10 K) (c.fn 65 rfl) (u_fp_fm10 c)
  obtain ⟨_, _, _, _, _, _, _, _, _, l_fq0, c_fq0, k_fq0⟩ := fp_ok (x := "__init__") (q := "Broken.__init__") (st := sB 0) (a := afq0 K) (c.fn 66 rfl) (u_fp_fq0 c)
  obtain ⟨_, _, _, _, _, _, _, _, _, l_fq2, c_fq2, k_fq2⟩ := fp_ok (x := "value") (q := "Broken.value") (st := sB 2) (a := afq2 K) (c.fn 67 rfl) (u_fp_fq2 c)
  obtain ⟨_, _, _, _, _, _, _, _, _, l_fq5, c_fq5, k_fq5⟩ := fp_ok (x := "is_upper") (q := "Broken.is_upper") (st := sB 5) (a := afq5 K) (c.fn 68 rfl) (u_fp_fq5 c)
  obtain ⟨_, _, _, _, _, _, _, _, _, l_fq6, c_fq6, k_fq6⟩ := fp_ok (x := "is_lower") (q := "Broken.is_lower") (st := sB 6) (a := afq6 K) (c.fn 69 rfl) (u_fp_fq6 c)
  obtain ⟨_, _, _, _, _, _, _, _, _, l_fsq0, c_fsq0, k_fsq0⟩ := fp_ok (x := "__init__") (q := "Share.__init__") (st := sS 0) (a := afsq0 K) (c.fn 70 rfl) (u_fp_fsq0 c)
  obtain ⟨_, _, _, _, _, _, _, _, _, l_ftq0, c_ftq0, k_ftq0⟩ := fp_ok (x := "__init__") (q := "Told.__init__") (st := sT 0) (a := aftq0 K) (c.fn 71 rfl) (u_fp_ftq0 c)
  obtain ⟨_, _, _, _, _, _, _, _, _, l_f84, c_f84, k_f84⟩ := fp_ok (x := "law") (q := "law") (st := top 84) (a := af84 K) (c.fn 72 rfl) (u_fp_f84 c)
  obtain ⟨_, _, _, _, _, _, _, _, _, _, _, _, _, l_f52, c_f52, k_f52, lT_f52⟩ := fd1_ok (x := "fits") (q := "fits") (st := top 52) (a := af52 K) (c.fn 73 rfl) (u_fd_f52 c)
  exact all_mk (P := PySem.Challenge.pw_toldmeans_k09_whole_fits_to_a_gap) X G hfa (u_qaB c) (u_qrB c) (u_qsB c) (u_qfB c) (u_qcB c) (u_qtB c) (u_hn c) (u_ht c) (u_aCN c) xl_CN (u_saN c) (u_gaN c) (u_ggN c) (u_exN c) (u_tyN c) (u_kpN c) (u_hdN c) (u_haN c) (u_hmN c) (u_nN1 c) (u_nN2 c) (u_iN c) (u_tN c) l_fEN c_fEN lc_fEN la_fEN h2_fEN hf_fEN (u_owEN c) (u_nxEN c) (u_ivEN c) (u_aCR c) xl_CR (u_saR c) (u_gaR c) (u_ggR c) (u_exR c) (u_tyR c) (u_kpR c) (u_hdR c) (u_haR c) (u_hmR c) (u_nR1 c) (u_iR c) (u_tR c) l_fER c_fER lc_fER la_fER h2_fER hf_fER (u_owER c) (u_nxER c) (u_ivER c) (u_aCU c) xl_CU (u_saU c) (u_gaU c) (u_ggU c) (u_exU c) (u_tyU c) (u_kpU c) (u_hdU c) (u_haU c) (u_hmU c) (u_nU1 c) (u_iU c) (u_tU c) l_fEU c_fEU lc_fEU la_fEU h2_fEU hf_fEU (u_owEU c) (u_nxEU c) (u_ivEU c) (u_zs c) (by kernel_rfl) (u_op c) (u_z_len c) (u_z_int c) (u_z_list c) (u_z_range c) (u_z_mIsi c) (u_z_mBool c) (u_z_mTuple c) (u_z_mMax c) (u_z_mAll c) (u_z_mEnum c) (u_z_mRev c) (u_z_mZip c) (u_z_mAbs c) (u_z_mStr c) (u_z_mRepr c) (u_z_mDm c) (u_z_mNi c) (u_z_mAny c) (u_z_mSum c) (u_z_gcd c) (u_z_lcm c) (u_g8 c) l_f8 c_f8 k_f8 (u_g9 c) l_f9 c_f9 k_f9 (u_g10 c) l_f10 c_f10 k_f10 (u_g11 c) l_f11 c_f11 k_f11 (u_g12 c) l_f12 c_f12 k_f12 (u_g14 c) l_f14 c_f14 k_f14 (u_g15 c) l_f15 c_f15 k_f15 (u_g57 c) l_f57 c_f57 k_f57 (u_g58 c) l_f58 c_f58 k_f58 (u_g59 c) l_f59 c_f59 k_f59 (u_g60 c) l_f60 c_f60 k_f60 (u_g61 c) l_f61 c_f61 k_f61 (u_g62 c) l_f62 c_f62 k_f62 (u_g18 c) l_f18 c_f18 k_f18 (u_g28 c) l_f28 c_f28 k_f28 (u_g23 c) l_f23 c_f23 k_f23 (u_g68 c) l_f68 c_f68 k_f68 (u_g69 c) l_f69 c_f69 k_f69 (u_g70 c) l_f70 c_f70 k_f70 (u_g54 c) l_f54 c_f54 k_f54 (u_g55 c) l_f55 c_f55 k_f55 (u_g56 c) l_f56 c_f56 k_f56 (u_g63 c) l_f63 c_f63 k_f63 (u_g64 c) l_f64 c_f64 k_f64 (u_g66 c) l_f66 c_f66 k_f66 (u_g67 c) l_f67 c_f67 k_f67 (u_g71 c) l_f71 c_f71 k_f71 (u_g72 c) l_f72 c_f72 k_f72 (u_g73 c) l_f73 c_f73 k_f73 (u_g74 c) l_f74 c_f74 k_f74 (u_g76 c) l_f76 c_f76 k_f76 (u_g77 c) l_f77 c_f77 k_f77 (u_g19 c) l_f19 c_f19 k_f19 (u_g20 c) l_f20 c_f20 k_f20 (u_g35 c) l_f35 c_f35 k_f35 (u_g36 c) l_f36 c_f36 k_f36 (u_g37 c) l_f37 c_f37 k_f37 (u_g38 c) l_f38 c_f38 k_f38 (u_g39 c) l_f39 c_f39 k_f39 (u_g16 c) l_f16 c_f16 k_f16 (u_g21 c) l_f21 c_f21 k_f21 (u_g22 c) l_f22 c_f22 k_f22 (u_g24 c) l_f24 c_f24 k_f24 (u_g25 c) l_f25 c_f25 k_f25 (u_g43 c) l_f43 c_f43 k_f43 (u_g44 c) l_f44 c_f44 k_f44 (u_g45 c) l_f45 c_f45 k_f45 (u_g46 c) l_f46 c_f46 k_f46 (u_g47 c) l_f47 c_f47 k_f47 (u_g48 c) l_f48 c_f48 k_f48 (u_g49 c) l_f49 c_f49 k_f49 (u_g50 c) l_f50 c_f50 k_f50 (u_g51 c) l_f51 c_f51 k_f51 (u_g65 c) l_f65 c_f65 k_f65 (u_g75 c) l_f75 c_f75 k_f75 (u_g78 c) l_f78 c_f78 k_f78 (u_g79 c) l_f79 c_f79 k_f79 (u_g80 c) l_f80 c_f80 k_f80 (u_g81 c) l_f81 c_f81 k_f81 (u_g82 c) l_f82 c_f82 k_f82 (u_g83 c) l_f83 c_f83 k_f83 (u_pG c) (u_p1 c) (u_p2 c) (u_p3 c) (u_p4 c) (u_p5 c) (u_p6 c) (u_p7 c) (u_p8 c) (u_p9 c) (u_pa c) (u_pn_int c) (u_pn_bool c) (u_pn_str c) (u_pn_NoneType c) (u_pn_tuple c) (u_pn_list c) (u_pn_dict c) (u_pi1 c) (u_pi2 c) (u_pt1 c) (u_pt2 c) (u_mem0 c) (u_ism0 c) l_fm0 c_fm0 k_fm0 (u_mem10 c) (u_ism10 c) l_fm10 c_fm10 k_fm10 (u_bG c) (u_b1 c) (u_b2 c) (u_b3 c) (u_b4 c) (u_b5 c) (u_b6 c) (u_b7 c) (u_yb8 c) (u_yb9 c) (u_ba c) (u_bb c) (u_bn_int c) (u_bn_bool c) (u_bn_str c) (u_bn_NoneType c) (u_bn_tuple c) (u_bn_list c) (u_bn_dict c) (u_bi1 c) (u_bt1 c) (u_meq0 c) (u_isq0 c) l_fq0 c_fq0 k_fq0 (u_meq2 c) (u_isq2 c) l_fq2 c_fq2 k_fq2 (u_meq5 c) (u_isq5 c) l_fq5 c_fq5 k_fq5 (u_meq6 c) (u_isq6 c) l_fq6 c_fq6 k_fq6 (u_osG c) (u_os1 c) (u_os2 c) (u_os3 c) (u_os4 c) (u_osf0 c) (u_osf1 c) (u_osa c) (u_osb c) (u_mesq0 c) (u_issq0 c) l_fsq0 c_fsq0 k_fsq0 (u_otG c) (u_ot1 c) (u_ot2 c) (u_ot3 c) (u_ot4 c) (u_otf0 c) (u_otf1 c) (u_otf2 c) (u_ota c) (u_otb c) (u_metq0 c) (u_istq0 c) l_ftq0 c_ftq0 k_ftq0 (u_g84 c) l_f84 c_f84 k_f84 (u_g52 c) l_f52 c_f52 k_f52 lT_f52 (u_nbN c) (u_nbR c) (u_neRN c)
end
def lo0 : List Str := ["_wall", "MeanError", "BadNumber", "BadRow", "Unlike", "is_whole", "is_pair", "is_ratio", "lowest", "told", "plus", "minus", "lower", "gap_of", "is_row", "ascends", "told_row", "sum_of", "are_whole_parts", "over_one_bottom", "joint_sums", "joint_sum", "Poly", "many_needed", "as_poly", "number_for", "added", "multiplied", "Broken", "is_row_of_polys"]
def lo1 : List Str := ["place_in", "piece_from", "knot_limits", "numbers_and_limits", "Share", "Told", "are_parts", "is_bounded_kind", "is_within", "means_of", "check_one_stretch", "functions_of", "gap_missed", "check_places", "missed", "fits", "_law_pen", "_law_draw", "_law_pick", "_law_gcd", "_law_q", "_law_plus", "_law_minus", "_law_times", "_law_less", "_law_passed", "_law_ratio", "_law_interval", "_law_lower_one", "_law_sorted"]
def lo2 : List Str := ["_law_poly", "_law_p_plus", "_law_p_at", "_law_f_piece", "_law_f_at", "_law_f_limits", "_law_made_function", "_law_f_of", "_law_drawn_knots", "_law_drawn_function", "_law_share_mean", "_law_drawn_share", "_law_made_told", "_law_passed_row", "_law_made_share", "_law_row"]
def loose : List Str := lo0 ++ (lo1 ++ (lo2))
abbrev R : PySem.W.OpenRow := PySem.W.OpenLaw.row PySem.Challenge.rw_toldmeans_k09_whole_fits_to_a_gap
abbrev vw : Program := PySem.W.view R.prog [0, 84]
theorem run (w : World) : HandSHeadRun.RunEqI R vw hk ob 6000 loose w := by
  unfold HandSHeadRun.RunEqI
  kernel_rfl
theorem walk_GE {l : PySem.W.OpenLaw} {n k : Nat} {q : Program} {loose : List Str} {XP : (Str → Option Value) → Heap → Prop} {YP : World → Heap → Prop} {d : DefRec} {CX : CXT} {x : Str}
    (hn : l.most = some n) (small : n ≤ sizeLine) (nodf : d.params.defaults = []) (hr : Room k callerA)
    (hF : ∀ (wo : World) (mg : Str → Option Value) (fa : Addr) (hp : Heap), YP wo hp → hp.Ns mainGlobals mg → mg d.name = some (.ref fa) →
      ∃ (Kp : PySem.W.Frag) (fd : FuncData) (sp : Sp), Kp.In hp ∧ (∀ (sh : Shared) (u : Value), BindsTo sh fd ⟨[u], []⟩ [(x, u)]) ∧
        (∀ (Ha : Hp) (a : Addr) (ns : List Int), ns.length ≤ n → Only Ha → SqL Kp Ha a (ns.map V.int) → sp [.ref a] Ha (fun v _ => v = .bl true) fun _ _ _ => False) ∧
        ∀ base : Heap, Kp.In base → base.Ns mainGlobals mg → FnG l.prog wo Kp mg base CX k fa fd [x] sp)
    (hCX : ∀ (Ha : Hp) (sh : Shared) (e : Value) (s2 : Shared), CX [] Ha sh (fun _ _ _ => False) e s2 → False) : PySem.W.WalkO q loose XP YP l.row.toRowW d [] (fun fn vs => PySem.call fn vs) := by
  refine Att.attach_call hn nodf ?_
  intro wo s₀ s₁ mg mb fa o pm cd doc a vs ns Gr Y ho hd hcd hmg hobj hints few hg
  obtain ⟨Kp, fd, sp, KX, hb, hsp, hfn⟩ := hF wo mg fa _ Y Gr.T.g hmg
  exact law_G KX Gr.T.g Gr.T.b Gr.T.builtins Gr.T.nolimit hg hobj hints (Nat.le_trans few small) hr hfn hb (fun Ha hO hS => hsp Ha a ns few hO hS) fun Ha e s2 => hCX Ha s₁ e s2
end Kh
open PySem PySem.W PyProof.Rows
set_option maxRecDepth 100000 in
set_option maxHeartbeats 0 in
theorem PySem.Challenge.cw_toldmeans_k09_whole_fits_to_a_gap_holds : PySem.Challenge.rw_toldmeans_k09_whole_fits_to_a_gap.Holds := by
  w_on; o_law
  refine HandSHeadRun.head_imp (r := Kh.R) (q := Kh.vw) (H := Kh.hk) (ob := Kh.ob) (M := 6000) (loose := Kh.loose) (d := HandSHeadRun.topDef Kh.R.prog 84) (kwd := []) Kh.ob_eq Kh.run
    (by kernel_rfl) (by kernel_rfl) (by kernel_rfl) (by rfl) (by first | assumption | decide +kernel) (by decide +kernel) ⟨rfl, rfl, rfl, rfl, rfl, by decide +kernel⟩ ?hw ?hc
  case hw => w_witness2
  case hc =>
    refine Kh.walk_GE (l := PySem.Challenge.rw_toldmeans_k09_whole_fits_to_a_gap) (n := 63) (k := 14) (x := "_law_script") (CX := L2.CX0) rfl (by decide) (by kernel_rfl) ⟨rfl, by decide, by decide⟩ ?F (fun _ _ _ _ z => z)
    intro w mg fa h Y G hmg0
    obtain ⟨K, KX, c⟩ := Y
    have hmg : mg ("law" : PySem.Str) = some (.ref fa) := by
      have e : (HandSHeadRun.topDef Kh.R.prog 84).name = ("law" : PySem.Str) := by kernel_rfl
      rw [← e]
      exact hmg0
    obtain ⟨fd, hb, hF⟩ := Kh.facts (w := w) KX G hmg c
    exact ⟨K, fd, Kz.spLaw K, KX, hb, fun H a ns _ _ hS => ⟨a, ns, rfl, hS, fun _ => rfl⟩, hF⟩
