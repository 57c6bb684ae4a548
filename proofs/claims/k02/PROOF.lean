import PyProof.Rows.All
import Wide.All
import OpenK.AllK
import Wide.FinOn
import HandS.Base
import HandS.Call
import HandS.List
import HandS.Ends
import HandS.Exc
import HandS.ExcInit
import HandS.ExcOwn
import HandS.IsInst
import HandS.Words
import HandS.WordsExc
import HandS.ExcValue
import HandS.Defaults
import HandS.HotCalls
import PyProof.ReprRoads
import HandS.Dict
import PyProof.TypeOfCall
import PyProof.GenCompD
import KE.KMathG
import KE.KNest
import HandS.Comp
import HandS.More
import HandS.AnyAll
import HandS.IntRatio
import HandS.Wide
import HandS.Gcd
import KE.KMathGC
import PyProof.EqAt
import PyProof.NeKinds
import HandS.Style
import HandS.Iter
import HandS.Conv
import KE.GoesMore
import KE.GoesZip
import HandS.EndBits
import HandS.WordsList
import HandS.HeadHook1
import HandS.HeadHook2
import HandS.Rev
import HandS.TupAny
import KE.KStateDown
import Lean
import HandS.Head0
import HandS.Head1
import HandS.Head2
import HandS.Head3
import HandS.HeadEnd
import HandS.HeadHook3
import HandS.HeadHook4
import PySem.Challenge.RW_endtellers_k02_polynomials_of_anything_v
set_option Elab.async false
set_option linter.all false
set_option maxRecDepth 100000
set_option maxHeartbeats 4000000
namespace L2
open PySem PySem.Spec PyProof.Rows
/-! ### a def's body, run in a context that is known to stand -/
section
variable {P : Program} {w : World} {K : PySem.W.Frag} {mg : Str → Option Value} {base : Heap} {A : Around} {outer : List Env} {s : Shared} {H : Hp} {args : Args} {us : List Value} {vs : List V} {Q : VK} {E : XK} {f : Addr} {name qual : Str} {params : Arguments}
  {body : List Stmt} {scope : Scope} {dvs : List V} {kws : List (Str × V)} {fd : FuncData} {N ps : List Str}
theorem FunD.runs (F : FunD K name qual params body scope dvs kws f fd) (S : FnScope N ps scope) (hd : A.depth < recursionLimit) (e0 : Env0 P w K mg base A outer s H) (hb : BindsTo s fd args (ps.zip us)) (Y : Value → Cx)
    (hI : ∀ cd s1, InCallC s s.heap.objs.size (bindL (envOfC qual scope s.heap.objs.size f cd).kindOf (ps.zip us) fun _ => none) (cellsFrom (s.heap.objs.size + 1) scope.names []) (bindC (envOfC qual scope s.heap.objs.size f cd).kindOf (ps.zip us) fun _ => none) s1 →
      Inv (Y cd) [] (start N vs) H s1)
    (hY : ∀ cd, (Y cd).prog = P ∧ (Y cd).w = w ∧ (Y cd).A = A.deeper (envOfC qual scope s.heap.objs.size f cd) ∧ (Y cd).env = envOfC qual scope s.heap.objs.size f cd ∧ (Y cd).s_0 = s ∧ (Y cd).H_0 = H ∧ (Y cd).outer = outer ∧ (Y cd).ex = [])
    (hbody : ∀ cd, ∃ t, PSs (Y cd).nox body t ∧ t { nx := fun _ H' => Q .non H', rt := Q } (start N vs) H) :
    codeAny (model P w) A (.call (.ref f) args) (CR CX0 outer P w H s Q E) s := by
  obtain ⟨oc, od, dV, kV, doc, pm, an, cdv, ct, osl, rfl, lk, hcd, _, _⟩ := F.ex
  have old : ∀ b o, base.get? b = some o → s.heap.get? b = some o := fun b o e => (e0.bs b o e).1
  have KX : K.In s.heap := e0.mod.kin.keeps old
  refine codeAny_call_function hd (KX _ _ lk) rfl S.co S.gen rfl (PySem.W.codeRec_of KX hcd) (hb _ _ _ _ ?_)
  refine wpAny_newFunctionEnv_cells S.kind (fun y hy => ?_) fun env he s1 x => ?_
  · rcases S.par y.1 (List.of_mem_zip hy).1 with q | q
    · exact .inl q
    · exact .inr ⟨q, PySem.W.cellsFrom_some _ _ _ (.inl q)⟩
  subst he
  refine ⟨(e0.mod.nolimit.keeps old).keeps x.toInCall.keep, codeAny_func ?_⟩
  obtain ⟨t, ht, hq⟩ := hbody cdv
  obtain ⟨y1, y2, y3, y4, y5, y6, y7, y8⟩ := hY cdv
  have I := hI cdv s1 x
  have z := ht.run [] s1 (start N vs) H _ (I.wish _) hq
  have z' : wpAny (model (Y cdv).prog (Y cdv).w) (Y cdv).A (execs body (Y cdv).env) (SP (Y cdv).nox [] { nx := fun _ H' => Q .non H', rt := Q }) (fun _ _ => False) s1 := z
  rw [y1, y2, y3, y4] at z'
  refine wpAny_mono z' (fun fl s' hs => ?_) fun _ _ q => q.elim
  have fin : ∀ {σ' : St} {H' : Hp} {v : V} {u : Value}, Inv (Y cdv).nox [] σ' H' s' → RelV v u → Q v H' → CE outer P w H s Q u s' := fun {σ' H' v u} J rv q => by
    have b := J.base
    have hk := J.hok
    have ho := J.os
    have b2 : Un (frs (Y cdv).outer) (Y cdv).ex (Y cdv).H_0 H' (Y cdv).s_0.heap s'.heap := b
    have hk2 : HOk (Y cdv).prog (Y cdv).w H' s'.heap := hk
    have ho2 : s'.os = (Y cdv).s_0.os := ho
    rw [y7, y8, y6, y5] at b2
    rw [y1, y2] at hk2
    rw [y5] at ho2
    exact ⟨v, H', ho2, J.bare, b2, hk2, rv, q⟩
  cases fl with
  | ret u =>
    obtain ⟨v, σ', H', J, rv, q⟩ := hs
    exact fin J rv q
  | next =>
    obtain ⟨σ', H', J, q⟩ := hs
    exact fin (v := V.non) (u := Value.none) J rfl q
  | brk =>
    obtain ⟨_, _, _, q⟩ := hs
    exact q.elim
  | cont =>
    obtain ⟨_, _, _, q⟩ := hs
    exact q.elim
end
/-! ### a def that is called with the error that an except suite holds -/
structure FnP (P : Program) (w : World) (K : PySem.W.Frag) (mg : Str → Option Value) (base : Heap) (k : Nat) (f : Addr) (fd : FuncData) (ps : List Str) (sp : Addr × Obj → Sp) : Prop where
  len : ∀ p vs H Q E, sp p vs H Q E → vs.length = ps.length
  run : ∀ (A : Around) (outer : List Env) (s : Shared) (H : Hp) (args : Args) (us : List Value) (vs : List V) (Q : VK) (p : Addr × Obj), L2H.RoomH k A → L2H.PinOk outer H s p → Env0 P w K mg base A outer s H → BindsTo s fd args (ps.zip us) → Vals vs us → sp p vs H Q E0 →
    codeAny (model P w) A (.call (.ref f) args) (CR CX0 outer P w H s Q E0) s
section
variable {P : Program} {w : World} {K : PySem.W.Frag} {mg : Str → Option Value} {base : Heap} {f : Addr} {name qual : Str} {params : Arguments} {body : List Stmt} {scope : Scope} {dvs : List V} {kws : List (Str × V)} {fd : FuncData} {N ps : List Str} {k : Nat}
theorem FunD.okP {sp : Addr × Obj → Sp} (F : FunD K name qual params body scope dvs kws f fd) (S : FnScope N ps scope) (len : ∀ p vs H Q E, sp p vs H Q E → vs.length = ps.length)
    (hbody : ∀ (cd : Value) (A : Around) (outer : List Env) (s : Shared) (H : Hp) (vs : List V) (Q : VK) (p : Addr × Obj), L2H.RoomH k (A.deeper (envOfC qual scope s.heap.objs.size f cd)) → sp p vs H Q E0 →
      ∃ t, PSs (L2H.cxH CX0 P w K mg base N qual scope f cd A outer s H E0 p).nox body t ∧ t { nx := fun _ H' => Q .non H', rt := Q } (start N vs) H) : FnP P w K mg base (k + 1) f fd ps sp :=
  ⟨len, fun A outer s H args us vs Q p hr pin e0 hb r hsp => F.runs S hr.depth e0 hb (fun cd => L2H.cxH CX0 P w K mg base N qual scope f cd A outer s H E0 p) (fun cd s1 x => L2H.inv_startH S pin e0 (len _ _ _ _ _ hsp) r x)
    (fun cd => ⟨rfl, rfl, rfl, rfl, rfl, rfl, rfl, rfl⟩) fun cd => hbody cd A outer s H vs Q p (hr.deeper _) hsp⟩
end
/-- f(e, ..) in a suite that holds p -/
def tCallP (sp : Sp) (t : TA) : TE := fun σ H Q => t σ H fun vs H1 => sp vs H1 Q E0
theorem pe_callP {X : Cx} {k : Nat} {f : Addr} {fd : FuncData} {ps : List Str} {sp : Addr × Obj → Sp} {x : Str} {q pos : Pos} {e : Expr} {es : List Expr} {t : TA} {p : Addr × Obj} (F : FnP X.prog X.w X.K X.mg X.base k f fd ps sp) (hr : L2H.RoomH k X.A) (hp : p ∈ X.pn)
    (hg : Gl X x) (hm : X.mg x = some (.ref f)) (hk : PySem.W.keepIn X.K (.ref f) = true) (hb : Binds X.K fd ps [])
    (ha : PA X (e :: es) t) (hdb : (x == ("__debug__" : Str)) = false := by decide) (he : starEach (e :: es) X.env = (false, eval e X.env) :: starEach es X.env := by rfl) (hpl : (backTo pos (starEach es X.env)).any (·.1) = false := by rfl) :
    PE X (.Call (.Name x q) (e :: es) [] pos) (tCallP (sp p) t) := by
  refine ⟨fun pins s σ H Q I h => wpAny_Call_Name_kw (ld_glob I hg hm ?_ hdb)⟩
  refine PySem.W.callWith_K (h₀ := X.base) I.ok.mod.kin hk (thn (ha.run pos pins s σ H _ I h) fun us s1 ⟨vs, H1, I1, r, h1⟩ => ⟨I1.kIn, ?_⟩) he hpl
  obtain ⟨g1, g2, g3, g4, g5⟩ := I1.pin p (List.mem_append_left _ hp)
  have hl : (us ++ []).length = ps.length := by rw [List.append_nil, ← r.length]; exact F.len _ _ _ _ _ h1
  have b := hb s1 us I1.kIn hl
  rw [List.append_nil] at b
  refine wpAny_call (codeAny_mono (F.run X.A X.stack s1 H1 ⟨us, []⟩ us vs Q p hr ⟨g1, g2, fun z => (List.mem_cons.mp (I1.stkSub _ z)).elim g3 g4, g5⟩ I1.env0 b r h1) fun r' s' hq => ?_)
  cases r' with
  | error e => exact hq.elim
  | ok fl =>
    cases fl with
    | ret u => exact I1.after hq
    | next => exact hq.elim
    | brk => exact hq.elim
    | cont => exact hq.elim
/-! ### the law's own def: nothing guards above it -/
def LawOk (P : Program) (w : World) (K : PySem.W.Frag) (mg : Str → Option Value) (base : Heap) (f : Addr) (fd : FuncData) (x : Str) (sp : Sp) : Prop :=
  ∀ (s : Shared) (H : Hp) (a : Addr), Env0 P w K mg base callerA [] s H → BindsTo s fd ⟨[.ref a], []⟩ [(x, .ref a)] → sp [.ref a] H (fun v _ => v = .bl true) E0 →
    codeAny (model P w) callerA (.call (.ref f) ⟨[.ref a], []⟩) (CR CX0 [] P w H s (fun v _ => v = .bl true) E0) s
theorem FunD.okL {P : Program} {w : World} {K : PySem.W.Frag} {mg : Str → Option Value} {base : Heap} {f : Addr} {name qual x : Str} {params : Arguments} {body : List Stmt} {scope : Scope} {dvs : List V} {kws : List (Str × V)} {fd : FuncData} {N : List Str} {k : Nat} {sp : Sp}
    (F : FunD K name qual params body scope dvs kws f fd) (S : FnScope N [x] scope) (hr : Room (k + 1) callerA)
    (hbody : ∀ (cd : Value) (s : Shared) (H : Hp) (a : Addr), Room k (callerA.deeper (envOfC qual scope s.heap.objs.size f cd)) → sp [.ref a] H (fun v _ => v = .bl true) E0 →
      ∃ t, PSs (cxOf CX0 P w K mg base N qual scope f cd callerA [] s H E0).nox body t ∧ t { nx := fun _ H' => V.non = .bl true, rt := fun v _ => v = .bl true } (start N [.ref a]) H) : LawOk P w K mg base f fd x sp :=
  fun s H a e0 hb hsp => F.runs (us := [.ref a]) S hr.depth e0 hb (fun cd => cxOf CX0 P w K mg base N qual scope f cd callerA [] s H E0) (fun cd s1 z => inv_start (vs := [.ref a]) S hr.hd e0 rfl (.cons (show RelV (.ref a) (Value.ref a) from rfl) .nil) z)
    (fun cd => ⟨rfl, rfl, rfl, rfl, rfl, rfl, rfl, rfl⟩) fun cd => hbody cd s H a (hr.deeper _) hsp

/-- what stands of the heap while a list at a is told as xs: what the module's part leans on -/
theorem law_runs {P : Program} {w : World} {K : PySem.W.Frag} {mg mb : Str → Option Value} {f a : Addr} {fd : FuncData} {x : Str} {sp : Sp} {s : Shared} {vs : List Value} {ns : List Int}
    (KX : K.In s.heap) (hns : s.heap.Ns mainGlobals mg) (hb : s.heap.Ns builtinsNs mb) (hbb : ∀ x : Str, x ≠ "__name__" → mb x = bootBuiltins x) (hlim : s.heap.NoLimit) (hg : s.gens = #[])
    (ha : s.heap.get? a = some { cls := .type "list", data := .seq vs.toArray }) (hi : IntsAre vs ns) (hl : ns.length ≤ sizeLine)
    (F : ∀ base : Heap, K.In base → base.Ns mainGlobals mg → LawOk P w K mg base f fd x sp) (hbind : ∀ (s : Shared) (u : Value), BindsTo s fd ⟨[u], []⟩ [(x, u)])
    (hsp : ∀ H : Hp, Only H → SqL K H a (ns.map V.int) → sp [.ref a] H (fun v _ => v = .bl true) E0) :
    codeAny (model P w) callerA (.call (.ref f) ⟨[.ref a], []⟩) (fun r s' => r = .ok (.ret (.bool true)) ∧ OldK s.heap s'.heap ∧ s'.os = s.os ∧ AllBare s'.gens) s := by
  have rv := vals_ints hi
  -- H tracks nothing, or the script alone
  have key : ∀ H : Hp, Only H → (∀ b u, H b = some u → b = a) → HOk P w H s.heap → SqL K H a (ns.map V.int) → (∀ u, H a = some u → K.lookup a = none) →
      codeAny (model P w) callerA (.call (.ref f) ⟨[.ref a], []⟩) (fun r s' => r = .ok (.ret (.bool true)) ∧ OldK s.heap s'.heap ∧ s'.os = s.os ∧ AllBare s'.gens) s := fun H hO only hok hS hK => by
    have into : ∀ {b : Addr} {o : Obj}, s.heap.get? b = some o → H b = none → (hidT s.heap H).get? b = some o := fun e n => hidT_get e n
    have offD : ∀ {b : Addr} {o : Obj} {es : Array DictEntry} {n : Nat}, s.heap.get? b = some o → o.data = .dict es n → H b = none := fun {b o es n} e d => by
      cases q : H b with
      | none => rfl
      | some u =>
        have z := only b u q
        subst z
        rw [ha] at e
        cases e
        cases d
    have ns' : ∀ {b : Addr} {m : Str → Option Value}, s.heap.Ns b m → (hidT s.heap H).Ns b m := fun ⟨o, es, ep, e, d, r⟩ => ⟨o, es, ep, into e (offD e d), d, r⟩
    have kb : K.In (hidT s.heap H) := fun b o e => by
      refine into (KX b o e) ?_
      cases q : H b with
      | none => rfl
      | some u =>
        have z := only b u q
        subst z
        rw [hK u q] at e
        cases e
    obtain ⟨mc, hc1, hc2⟩ := hlim
    have e0 : Env0 P w K mg (hidT s.heap H) callerA [] s H := ⟨rfl, ⟨kb, ns' hns, ⟨mb, ns' hb, hbb⟩, ⟨mc, ns' hc1, hc2⟩⟩, fun b o e => of_hidT e, Nat.le_of_eq (hidT_size _ _), trivial, fun b z => absurd (show b ∈ ([] : List Addr) from z) (by simp), hok, AllBare.of_eq hg⟩
    refine codeAny_mono (F _ kb (ns' hns) s H a e0 (hbind s _) (hsp H hO hS)) fun r s' h => ?_
    cases r with
    | error e => exact h.elim
    | ok fl =>
      cases fl with
      | ret u =>
        obtain ⟨v, H', h1, h2, un, hok', h5, h6⟩ := h
        have h6' : v = .bl true := h6
        subst h6'
        cases (show u = Value.bool true from h5)
        refine ⟨rfl, OldK.of_keep fun b o e => ?_, h1, h2⟩
        cases q : H b with
        | none => exact un.keep b o e q (fun z => absurd (show b ∈ ([] : List Addr) from z) (by simp)) (by simp)
        | some u =>
          rcases hO b with z | ⟨ob, xs, z⟩
          · rw [q] at z
            cases z
          · have e1 := (hok b _ z).1
            rw [e] at e1
            cases e1
            exact (hok' b _ (un.frzs b _ _ z)).1
      | next => exact h.elim
      | brk => exact h.elim
      | cont => exact h.elim
  have hlen : (ns.map V.int).length ≤ sizeLine := by rw [List.length_map]; exact hl
  cases hk : K.lookup a with
  | some o =>
    have e := KX a o hk
    rw [ha] at e
    cases e
    refine key (fun _ => none) (fun _ => .inl rfl) (fun b u z => absurd (show (none : Option HO) = some u from z) (by simp)) (fun b u z => absurd (show (none : Option HO) = some u from z) (by simp)) (.inr ⟨_, vs.toArray, _, hk, rfl, rfl, rfl, ?_, by simpa using rv⟩) fun u z => absurd (show (none : Option HO) = some u from z) (by simp)
    rw [List.size_toArray, hi.length]
    exact hl
  | none =>
    have at_ : (upd (fun _ => none) a (.frz { cls := .type "list", data := .seq vs.toArray } (.lst (ns.map V.int))) : Hp) a = some _ := upd_same
    have off : ∀ b u, (upd (fun _ => none) a (.frz { cls := .type "list", data := .seq vs.toArray } (.lst (ns.map V.int))) : Hp) b = some u → b = a := fun b u z => by
      by_cases e : b = a
      · exact e
      · rw [upd_ne e] at z
        cases z
    refine key (upd (fun _ => none) a (.frz { cls := .type "list", data := .seq vs.toArray } (.lst (ns.map V.int)))) (fun b => ?_) off (fun b u z => ?_) (.inl (.inr ⟨_, at_⟩)) fun _ _ => hk
    · by_cases e : b = a
      · exact .inr ⟨_, _, by rw [e]; exact at_⟩
      · exact .inl (by rw [upd_ne e])
    · have e := off b u z
      subst e
      rw [upd_same] at z
      cases z
      exact ⟨ha, hlen, vs, _, rv, ha⟩
/-- the walk of a law's def whose parameter is x: what its top left is told once, the def's own reading by `LawOk` -/
theorem walk_ofL {l : PySem.W.OpenLaw} {most : Nat} {q : Program} {loose : List Str} {XP : (Str → Option Value) → Heap → Prop} {Top : World → Heap → Prop} {d : DefRec} {x : Str}
    (hm : l.most = some most) (small : most ≤ sizeLine) (nodef : d.params.defaults = [])
    (tells : ∀ (w : World) (mg : Str → Option Value) (at_ : Addr) (hp : Heap), Top w hp → hp.Ns mainGlobals mg →
      mg d.name = some (.ref at_) → ∃ (K : PySem.W.Frag) (fn : FuncData) (sp : Sp), K.In hp ∧
        (∀ (s : Shared) (u : Value), BindsTo s fn ⟨[u], []⟩ [(x, u)]) ∧
        (∀ (H : Hp) (a : Addr) (ks : List Int), ks.length ≤ most → Only H → SqL K H a (ks.map V.int) →
          sp [.ref a] H (fun v _ => v = .bl true) E0) ∧
        ∀ b : Heap, K.In b → b.Ns mainGlobals mg → LawOk l.prog w K mg b at_ fn x sp) :
    PySem.W.WalkO q loose XP Top l.row.toRowW d []
      (fun f vs => PySem.call f vs) := by
  refine Att.attach_call hm nodef fun w _ s1 mg mb at_ o pm cd doc a us ks G Y ho hd hcd hmg hobj nums fits hg => ?_
  rcases tells w mg at_ _ Y G.T.g hmg with ⟨K, fn, sp, inK, binds, said, ok⟩
  exact law_runs inK G.T.g G.T.b G.T.builtins G.T.nolimit hg hobj nums (Nat.le_trans fits small) ok binds fun H only sq => said H a ks fits only sq
end L2
set_option Elab.async false
set_option linter.all false
set_option maxRecDepth 100000
set_option maxHeartbeats 4000000
namespace L2
open PySem PySem.Spec PyProof.Rows
/-! ### data that are tracked, dicts of none or one text key among them; every object of them keeps N -/
mutual
inductive Dq (N : Addr → Prop) (H : Hp) : V → PyData → Prop
  | non : Dq N H .non .none
  | bl (b : Bool) : Dq N H (.bl b) (.bool b)
  | int (i : Int) : Dq N H (.int i) (.int i)
  | str (x : Str) : Dq N H (.str x) (.str x)
  | lst {a : Addr} {xs : List V} {ds : List PyData} : N a → H a = some (.lst xs) → a ≠ sysModules → DqAll N H xs ds → Dq N H (.ref a) (.list ds)
  | tup {a : Addr} {xs : List V} {ds : List PyData} : N a → H a = some (.tup xs) → DqAll N H xs ds → Dq N H (.ref a) (.tuple ds)
  | dk0 {a : Addr} : N a → H a = some (.dK []) → Dq N H (.ref a) (.dict [])
  | dk1 {a : Addr} {x : Str} {v : V} {d : PyData} : N a → H a = some (.dK [(.inr x, v)]) → Dq N H v d → Dq N H (.ref a) (.dict [(.str x, d)])
inductive DqAll (N : Addr → Prop) (H : Hp) : List V → List PyData → Prop
  | nil : DqAll N H [] []
  | cons {v : V} {vs : List V} {d : PyData} {ds : List PyData} : Dq N H v d → DqAll N H vs ds → DqAll N H (v :: vs) (d :: ds)
end
section
variable {N N' : Addr → Prop} {H H' : Hp}
mutual
/-- .. in another heap, by a wider word -/
theorem Dq.to (k : ∀ b o, N b → H b = some o → N' b ∧ H' b = some o) : ∀ {d : PyData} {v : V}, Dq N H v d → Dq N' H' v d
  | .none, _, h => by cases h; exact .non
  | .bool b, _, h => by cases h; exact .bl b
  | .int i, _, h => by cases h; exact .int i
  | .str x, _, h => by cases h; exact .str x
  | .list ds, _, h => by
    cases h with
    | lst n e m a => exact .lst (k _ _ n e).1 (k _ _ n e).2 m (DqAll.to k a)
  | .tuple ds, _, h => by
    cases h with
    | tup n e a => exact .tup (k _ _ n e).1 (k _ _ n e).2 (DqAll.to k a)
  | .dict kvs, _, h => by
    cases h with
    | dk0 n e => exact .dk0 (k _ _ n e).1 (k _ _ n e).2
    | dk1 n e a => exact .dk1 (k _ _ n e).1 (k _ _ n e).2 (Dq.to k a)
theorem DqAll.to (k : ∀ b o, N b → H b = some o → N' b ∧ H' b = some o) : ∀ {ds : List PyData} {vs : List V}, DqAll N H vs ds → DqAll N' H' vs ds
  | [], _, h => by cases h; exact .nil
  | d :: ds, _, h => by
    cases h with
    | cons a b => exact .cons (Dq.to k a) (DqAll.to k b)
end
theorem Dq.same (k : Same H H') {d : PyData} {v : V} (h : Dq N H v d) : Dq N H' v d := h.to fun b o n e => ⟨n, k b o e⟩
theorem DqAll.same (k : Same H H') {d : List PyData} {v : List V} (h : DqAll N H v d) : DqAll N H' v d := h.to fun b o n e => ⟨n, k b o e⟩
theorem DqAll.length : ∀ {ds : List PyData} {vs : List V}, DqAll N H vs ds → vs.length = ds.length
  | [], _, h => by cases h; rfl
  | d :: ds, _, h => by
    cases h with
    | cons a b => exact congrArg Nat.succ (DqAll.length b)
theorem DqAll.mem : ∀ {ds : List PyData} {vs : List V} {v : V}, DqAll N H vs ds → v ∈ vs → ∃ d, d ∈ ds ∧ Dq N H v d
  | [], _, v, h, e => by cases h; cases e
  | d :: ds, _, v, h, e => by
    cases h with
    | cons a b =>
      rcases List.mem_cons.mp e with z | z
      · rw [z]
        exact ⟨d, List.mem_cons_self, a⟩
      · obtain ⟨d', m, q⟩ := DqAll.mem b z
        exact ⟨d', List.mem_cons_of_mem _ m, q⟩
theorem DqAll.append : ∀ {ds es : List PyData} {vs us : List V}, DqAll N H vs ds → DqAll N H us es → DqAll N H (vs ++ us) (ds ++ es)
  | [], _, _, _, h, g => by cases h; exact g
  | d :: ds, _, _, _, h, g => by
    cases h with
    | cons a b => exact .cons a (DqAll.append b g)
end
section
variable {X : Cx} {pins : List (Addr × Obj)} {σ : St} {H : Hp} {s : Shared} {N : Addr → Prop}
mutual
theorem Dq.reads (I : Inv X pins σ H s) : ∀ (d : PyData) (v : V) (u : Value), Dq N H v d → RelV v u → ∃ as, Reads s.heap u d as ∧ sysModules ∉ as
  | .none, _, _, h, r => by
    cases h
    cases r
    exact ⟨_, .none, by simp⟩
  | .bool b, _, _, h, r => by
    cases h
    cases r
    exact ⟨_, .bool b, by simp⟩
  | .int i, _, _, h, r => by
    cases h
    obtain ⟨t, rfl⟩ := r
    exact ⟨_, .int i t, by simp⟩
  | .str x, _, _, h, r => by
    cases h
    obtain ⟨t, rfl⟩ := r
    exact ⟨_, .str x t, by simp⟩
  | .list ds, _, _, h, r => by
    cases h with
    | lst _ e ne ha =>
      cases r
      obtain ⟨its, rv, ⟨o, n, ho, hc, _, hd⟩, _⟩ := I.list (.of e)
      obtain ⟨as, hr, na⟩ := DqAll.reads I ds _ its ha rv
      exact ⟨_, .list ho hc hd hr, fun z => (List.mem_cons.mp z).elim (fun q => ne q.symm) na⟩
  | .tuple ds, _, _, h, r => by
    cases h with
    | tup _ e ha =>
      cases r
      obtain ⟨its, rv, ⟨o, ho, hc, n, hd⟩, _⟩ := I.tuple (.of e)
      obtain ⟨as, hr, na⟩ := DqAll.reads I ds _ its ha rv
      exact ⟨_, .tuple ho hc hd hr, na⟩
  | .dict kvs, v, _, h, r => by
    cases h with
    | dk0 _ e =>
      cases r
      obtain ⟨_, ne, vs, rv, o, es, ep, ho, ⟨hc, _⟩, hd, _, pr, _⟩ := (show ObjOk X.prog X.w H s.heap _ (.dK []) from I.hok _ _ e)
      cases rv
      have e0 : es.toList = [] := by cases he : es.toList with
        | nil => rfl
        | cons x l => rw [he] at pr; cases pr
      refine ⟨_, .dict (kvs := []) ho hc hd (by rw [e0]; exact .nil) (by rw [e0]; exact .nil), ?_⟩
      intro z
      simp at z
      rw [← z] at ne
      exact absurd ne (by decide)
    | @dk1 a0 x0 v0 d0 _ e ha =>
      cases r
      obtain ⟨_, ne, vs, rv, o, es, ep, ho, ⟨hc, _⟩, hd, _, pr, _⟩ := (show ObjOk X.prog X.w H s.heap _ (.dK [(_, _)]) from I.hok _ _ e)
      cases rv with
      | cons r1 r2 =>
        cases r2
        cases he : es.toList with
        | nil => rw [he] at pr; cases pr
        | cons en l =>
          rw [he] at pr
          cases pr with
          | cons p1 p2 p3 =>
            cases p3
            obtain ⟨q1, q2⟩ := r1
            have p1' : keyIs (.inr x0) en.key = true := by
              have z := p1
              rw [← q1] at z
              exact z
            obtain ⟨t, ek⟩ := Value.isStrOf_shape p1'
            obtain ⟨as, hr, na⟩ := Dq.reads I _ _ _ ha q2
            refine ⟨_, .dict (kvs := [(.str _, _)]) ho hc hd (by rw [he]; exact .cons (d := .str x0) (as := []) (bs := []) (by show Reads _ en.key _ _; rw [ek]; exact .str x0 t) .nil) (by rw [he]; exact .cons (d := d0) (as := as) (bs := []) (by show Reads _ en.val _ _; rw [p2]; exact hr) .nil), ?_⟩
            intro z
            simp at z
            rcases z with z | z
            · rw [← z] at ne
              exact absurd ne (by decide)
            · exact na z
theorem DqAll.reads (I : Inv X pins σ H s) : ∀ (ds : List PyData) (vs : List V) (us : List Value), DqAll N H vs ds → Vals vs us → ∃ as, ReadsAll s.heap us ds as ∧ sysModules ∉ as
  | [], _, _, h, r => by
    cases h
    cases r
    exact ⟨_, .nil, by simp⟩
  | d :: ds, _, _, h, r => by
    cases h with
    | cons h1 h2 =>
      cases r with
      | cons r1 r2 =>
        obtain ⟨as, q1, n1⟩ := Dq.reads I d _ _ h1 r1
        obtain ⟨bs, q2, n2⟩ := DqAll.reads I ds _ _ h2 r2
        exact ⟨_, .cons q1 q2, fun z => (List.mem_append.mp z).elim n1 n2⟩
end
end

/-! ### repr of such data, where nothing guards above -/
def rReprD : List V → Hp → VK → Prop := fun xs H Q => ∃ v d N, xs = [v] ∧ Dq N H v d ∧ d.showable = true ∧ d.depth ≤ 20 ∧ d.shown.length ≤ sizeLine ∧ Q (.str d.shown) H
theorem call_reprD {X : Cx} (hg : X.A.guards = some []) (hu : X.A.units + 64 < cLine) : CallR X (.builtin "repr") rReprD := by
  intro pins s σ H xs us Q I r h
  obtain ⟨v, d, N, rfl, hd, hs, hz, hl, q⟩ := h
  cases r with
  | cons rv rr =>
    cases rr
    cases v with
    | non =>
      cases rv
      cases hd
      exact PySem.P.repr_of_none ⟨.str _, H, I.tok _, ⟨_, rfl⟩, q⟩
    | bl b =>
      cases rv
      cases hd
      exact PySem.P.repr_of_bool ⟨.str _, H, I.tok _, ⟨_, rfl⟩, q⟩
    | int i =>
      obtain ⟨t, rfl⟩ := rv
      cases hd
      refine PySem.P.repr_of_int (by simpa [PyData.showable] using hs) ⟨.str _, H, I.tok _, ⟨_, rfl⟩, q⟩
    | str x =>
      obtain ⟨t, rfl⟩ := rv
      cases hd
      exact PySem.P.repr_of_str ⟨.str _, H, I.tok _, ⟨_, rfl⟩, q⟩ hl
    | byt b => cases hd
    | flt b => cases hd
    | ty n => cases hd
    | ref a =>
      cases rv
      obtain ⟨as, hr, na⟩ := Dq.reads I d _ _ hd rfl
      exact repr_of_reads' hr hs (fun _ => na) hg (by omega) (fun _ _ e => e) (fun h' u tk k => ⟨.str _, H, I.kept k, ⟨_, rfl⟩, q⟩) hl
/-! ### displays of data -/
/-- [..], told to stand apart from the table of modules -/
def tLstS (t : TA) : TE := fun σ H Q => t σ H fun xs H1 => xs.length ≤ sizeLine ∧ ∀ p, H1 p = none → p ≠ sysModules → Q (.ref p) (upd H1 p (.lst xs))
theorem pe_lstS {X : Cx} {es : List Expr} {t : TA} {pos : Pos} (h : PA X es t) : PE X (.List es pos) (tLstS t) := by
  refine ⟨fun pins s σ H Q I hq => ?_⟩
  refine wpAny_List_spliced (thn (h.run pos pins s σ H _ I hq) fun us s1 ⟨xs, H1, I1, r, z, q⟩ => ⟨by rw [← r.length]; exact z, ?_⟩)
  have hf := I1.hok.fresh (Nat.le_refl s1.heap.objs.size)
  exact ⟨.ref s1.heap.objs.size, upd H1 s1.heap.objs.size (.lst xs), I1.laid (t' := s1.toks) (fun b u e => Heap.get?_push_of_some _ e) (Nat.le_refl _) ⟨z, us, 0, r, Heap.get?_push_size _ rfl⟩, rfl, q _ hf (Nat.ne_of_gt I1.big)⟩
/-- all of it is new -/
abbrev Nw (H : Hp) : Addr → Prop := fun a => H a = none
def Shows (te : TE) (d : PyData) : Prop := ∀ (σ : St) (H : Hp) (Q : VK), (∀ v H', Same H H' → Dq (Nw H) H' v d → Q v H') → te σ H Q
def ShowsA (ta : TA) (ds : List PyData) : Prop := ∀ (σ : St) (H : Hp) (Q : List V → Hp → Prop), (∀ vs H', Same H H' → DqAll (Nw H) H' vs ds → Q vs H') → ta σ H Q
theorem same_new {H : Hp} {p : Addr} {o : HO} (h : H p = none) : Same H (upd H p o) := fun b u e => by
  rw [upd_ne (ne_of_none e h)]
  exact e
theorem sh_non : Shows (tC .non) .none := fun σ H Q h => h _ _ (Same.refl H) .non
theorem sh_bl {b : Bool} : Shows (tC (.bl b)) (.bool b) := fun σ H Q h => h _ _ (Same.refl H) (.bl b)
theorem sh_int {i : Int} : Shows (tC (.int i)) (.int i) := fun σ H Q h => h _ _ (Same.refl H) (.int i)
theorem sh_str {x : Str} : Shows (tC (.str x)) (.str x) := fun σ H Q h => h _ _ (Same.refl H) (.str x)
theorem sh_neg {i : Int} : Shows (tUn (rU fun i => .int (-i)) (tC (.int i))) (.int (-i)) := fun σ H Q h => ⟨i, rfl, h _ _ (Same.refl H) (.int _)⟩
theorem sh_pow {i j : Int} (c : CPow i j) : Shows (tOp (rI CPow fun i j => .int (i ^ j.toNat)) (tC (.int i)) (tC (.int j))) (.int (i ^ j.toNat)) := fun σ H Q h => ⟨i, j, rfl, rfl, c, h _ _ (Same.refl H) (.int _)⟩
theorem sh_nil : ShowsA tNil [] := fun σ H Q h => h _ _ (Same.refl H) .nil
theorem sh_cons {te : TE} {ta : TA} {d : PyData} {ds : List PyData} (a : Shows te d) (b : ShowsA ta ds) : ShowsA (tCons te ta) (d :: ds) := fun σ H Q h =>
  a σ H _ fun v H1 s1 q1 => b σ H1 _ fun vs H2 s2 q2 => h _ _ (s1.trans s2) (.cons (q1.same s2) (q2.to fun b o n e => ⟨s1.free n, e⟩))
theorem sh_tup {ta : TA} {ds : List PyData} (a : ShowsA ta ds) (hz : ds.length ≤ 1000 := by decide) : Shows (tTup ta) (.tuple ds) := fun σ H Q h =>
  a σ H _ fun vs H1 s1 q1 => ⟨by rw [q1.length, sizeLine_eq]; omega, fun p hp => h _ _ (s1.trans (same_new hp)) (.tup (s1.free hp) upd_same (q1.same (same_new hp)))⟩
theorem sh_lst {ta : TA} {ds : List PyData} (a : ShowsA ta ds) (hz : ds.length ≤ 1000 := by decide) : Shows (tLstS ta) (.list ds) := fun σ H Q h =>
  a σ H _ fun vs H1 s1 q1 => ⟨by rw [q1.length, sizeLine_eq]; omega, fun p hp hn => h _ _ (s1.trans (same_new hp)) (.lst (s1.free hp) upd_same hn (q1.same (same_new hp)))⟩
theorem sh_dk0 : Shows tDNewK (.dict []) := fun σ H Q h p hp => h _ _ (same_new hp) (.dk0 hp upd_same)
theorem sh_dk1 {x : Str} {te : TE} {d : PyData} (a : Shows te d) : Shows (tDisp [(tC (.str x), te)]) (.dict [(.str x, d)]) := fun σ H Q h p hp =>
  a σ (upd H p (.dK [])) _ fun v H1 s1 q1 => by
    have e1 : H1 p = some (.dK []) := s1 _ _ upd_same
    refine ⟨e1, [(.inr x, v)], rfl, (by show 1 ≤ 15; decide), h _ _ (fun b o e => ?_) (.dk1 (x := x) (v := v) hp upd_same (q1.to fun b o n e => ?_))⟩
    · rw [upd_ne (ne_of_none e hp)]
      exact s1 _ _ (by rw [upd_ne (ne_of_none e hp)]; exact e)
    · have z : b ≠ p := fun z => by
        have n' : upd H p (.dK []) b = none := n
        rw [z, upd_same] at n'
        cases n'
      exact ⟨(same_new hp).free n, by rw [upd_ne z]; exact e⟩
end L2
set_option Elab.async false
set_option linter.all false
set_option maxRecDepth 100000
set_option maxHeartbeats 4000000
/-! ### Defs that only add objects ("quiet"): told at the library's level, since a generator's element must be so -/
namespace Gx
open PySem PySem.Spec
open PyProof.Rows
open L2
theorem mod_on {K : PySem.W.Frag} {mg : Str → Option Value} {h h' : Heap} (m : Mod K mg h) (k : ∀ b o, h.get? b = some o → h'.get? b = some o) : Mod K mg h' :=
  ⟨m.kin.keeps k, m.glob.keeps k, let ⟨mb, x, y⟩ := m.blt; ⟨mb, x.keeps k, y⟩, m.nolimit.keeps k⟩
/-- the class of a value of the law's data -/
inductive Kd (h : Heap) : Value → String → Prop
  | int (i : Int) (t : Tok) : Kd h (.int i t) "int"
  | bool (b : Bool) : Kd h (.bool b) "bool"
  | none : Kd h .none "NoneType"
  | str (x : Str) (t : Tok) : Kd h (.str x t) "str"
  | lst {a : Addr} {o : Obj} (e : h.get? a = some o) (c : o.cls = .type "list") : Kd h (.ref a) "list"
  | tup {a : Addr} {o : Obj} (e : h.get? a = some o) (c : o.cls = .type "tuple") : Kd h (.ref a) "tuple"
  | dct {a : Addr} {o : Obj} (e : h.get? a = some o) (c : o.cls = .type "dict") : Kd h (.ref a) "dict"
theorem Kd.keeps {h h' : Heap} {v : Value} {T : String} (x : Kd h v T) (k : ∀ b o, h.get? b = some o → h'.get? b = some o) : Kd h' v T := by
  cases x with
  | int i t => exact .int i t
  | bool b => exact .bool b
  | none => exact .none
  | str x t => exact .str x t
  | lst e c => exact .lst (k _ _ e) c
  | tup e c => exact .tup (k _ _ e) c
  | dct e c => exact .dct (k _ _ e) c
theorem Kd.is {s : Shared} {v : Value} {T : String} (x : Kd s.heap v T) : s.TypeIs v T ∧ (Value.type T == Value.type "builtin_function_or_method") = false := by
  cases x with
  | int i t => exact ⟨rfl, by decide +kernel⟩
  | bool b => exact ⟨rfl, by decide +kernel⟩
  | none => exact ⟨rfl, by decide +kernel⟩
  | str x t => exact ⟨rfl, by decide +kernel⟩
  | lst e c => exact ⟨⟨_, e, c⟩, by decide +kernel⟩
  | tup e c => exact ⟨⟨_, e, c⟩, by decide +kernel⟩
  | dct e c => exact ⟨⟨_, e, c⟩, by decide +kernel⟩
section
variable {P : Program} {w : World} {A : Around} {K : PySem.W.Frag} {mg : Str → Option Value} {s : Shared} {f : Addr} {name qual : Str} {params : Arguments} {body : List Stmt} {scope : Scope} {dvs : List V} {kws : List (Str × V)} {fd : FuncData} {N ps : List Str} {args : Args} {us : List Value}
/-- a def of the text is called, its body only adds objects -/
theorem quiet_call {R : Value → Prop} (F : FunD K name qual params body scope dvs kws f fd) (S : FnScope N ps scope) (hd : A.depth < recursionLimit) (m : Mod K mg s.heap) (hb : BindsTo s fd args (ps.zip us))
    (hbody : ∀ cd s1, InCall s s.heap.objs.size (bindL (envOfC qual scope s.heap.objs.size f cd).kindOf (ps.zip us) fun _ => none) s1 →
      wpAny (model P w) (A.deeper (envOfC qual scope s.heap.objs.size f cd)) (execs body (envOfC qual scope s.heap.objs.size f cd))
        (fun fl s' => R (match fl with | .ret v => v | _ => .none) ∧ Keeps s s') (fun _ _ => False) s1) :
    codeAny (model P w) A (.call (.ref f) args) (fun r s' => (∃ v, r = .ok (.ret v) ∧ R v) ∧ Keeps s s') s := by
  obtain ⟨oc, od, dV, kV, doc, pm, an, cdv, ct, osl, rfl, lk, hcd, _, _⟩ := F.ex
  refine codeAny_call_function hd (m.kin _ _ lk) rfl S.co S.gen rfl (PySem.W.codeRec_of m.kin hcd) (hb _ _ _ _ ?_)
  refine wpAny_newFunctionEnv_cells S.kind (fun y hy => ?_) fun env he s1 x => ?_
  · rcases S.par y.1 (List.of_mem_zip hy).1 with q | q
    · exact .inl q
    · exact .inr ⟨q, PySem.W.cellsFrom_some _ _ _ (.inl q)⟩
  subst he
  refine ⟨m.nolimit.keeps x.toInCall.keep, codeAny_func ?_⟩
  exact wpAny_mono (hbody cdv s1 x.toInCall) (fun fl s' q => ⟨⟨_, rfl, q.1⟩, q.2⟩) fun _ _ q => q.elim
/-- a name of the def's own; a built-in name; a module's name -/
theorem q_own {E : Value → Shared → Prop} {L : Addr} {ms : Str → Option Value} {s1 : Shared} {env : Env} {x : Str} {pos : Pos} {u : Value} {Q : Value → Shared → Prop} (c : InCall s L ms s1) (hL : env.locals = L) (hv : ms x = some u) (q : Q u s1)
    (fk : env.scope.kind = .function := by rfl) (lo : env.kindOf x = some .local := by rfl) (nd : (x == ("__debug__" : Str)) = false := by decide) : wpAny (model P w) A (eval (.Name x pos) env) Q E s1 := by
  subst hL
  exact wpAny_Name (wpAny_loadName_local fk lo c.ns hv q) nd
theorem q_blt {E : Value → Shared → Prop} {s1 : Shared} {env : Env} {x : Str} {pos : Pos} {u : Value} {Q : Value → Shared → Prop} (m : Mod K mg s1.heap) (hm : mg x = none) (hv : bootBuiltins x = some u) (q : Q u s1)
    (hG : env.globals = mainGlobals := by rfl) (hB : env.builtins = builtinsNs := by rfl) (fk : env.scope.kind = .function := by rfl) (lo : env.kindOf x = some .globalImplicit := by rfl) (hn : x ≠ "__name__" := by decide) (nd : (x == ("__debug__" : Str)) = false := by decide) :
    wpAny (model P w) A (eval (.Name x pos) env) Q E s1 := by
  obtain ⟨mb, h1, h2⟩ := m.blt
  exact Calls.Name_function_global fk lo (Calls.loadGlobal_builtin (by rw [hG]; exact m.glob) hm (by rw [hB]; exact h1) ((h2 x hn).trans hv) q) nd
theorem q_glo {E : Value → Shared → Prop} {s1 : Shared} {env : Env} {x : Str} {pos : Pos} {u : Value} {Q : Value → Shared → Prop} (m : Mod K mg s1.heap) (hm : mg x = some u) (q : Q u s1)
    (hG : env.globals = mainGlobals := by rfl) (fk : env.scope.kind = .function := by rfl) (lo : env.kindOf x = some .globalImplicit := by rfl) (nd : (x == ("__debug__" : Str)) = false := by decide) :
    wpAny (model P w) A (eval (.Name x pos) env) Q E s1 :=
  Calls.Name_function_global fk lo (Calls.loadGlobal_global (by rw [hG]; exact m.glob) hm q) nd
/-- type(x) is T -/
theorem q_type {E : Value → Shared → Prop} {L : Addr} {ms : Str → Option Value} {s1 : Shared} {env : Env} {x : Str} {p1 p2 p3 : Pos} {u : Value} {T : String} {Q : Value → Shared → Prop} (m : Mod K mg s1.heap) (hm : mg "type" = none) (c : InCall s L ms s1) (hL : env.locals = L) (hv : ms x = some u) (k : Kd s1.heap u T) (q : Q (.type T) s1)
    (hG : env.globals = mainGlobals := by rfl) (hB : env.builtins = builtinsNs := by rfl) (fk : env.scope.kind = .function := by rfl) (lo : env.kindOf x = some .local := by rfl) (lt : env.kindOf "type" = some .globalImplicit := by rfl) (nd : (x == ("__debug__" : Str)) = false := by decide) :
    wpAny (model P w) A (eval (.Call (.Name "type" p1) [.Name x p2] [] p3) env) Q E s1 := by
  refine wpAny_Call_Name_kw (q_blt (u := .type "type") m hm (by decide +kernel) ?_ hG hB fk lt)
  refine PyProof.Rows.callWith_type1 ?_ rfl rfl
  exact Calls.spliced_cons (q_own c hL hv (Calls.spliced_nil (call_type_of k.is.1 k.is.2 q)) fk lo nd)
end
end Gx
set_option Elab.async false
set_option linter.all false
set_option maxRecDepth 100000
set_option maxHeartbeats 4000000
namespace Gx
open PySem PySem.Spec
open PyProof.Rows
open L2
/-! ### is_whole(value), is_fraction(value) -/
abbrev wS : Scope := { kind := .function, names := [(PySem.Str.ofString "value", .local), (PySem.Str.ofString "type", .globalImplicit), (PySem.Str.ofString "int", .globalImplicit)], isGenerator := false, isCoroutine := false, more := [] }
abbrev wBody (p : Nat → Pos) : List Stmt := [.Return (some (.Compare (.Call (.Name "type" (p 0)) [.Name "value" (p 1)] [] (p 2)) [.Is] [.Name "int" (p 3)] (p 4))) (p 5)]
abbrev fS : Scope := { kind := .function, names := [(PySem.Str.ofString "value", .local), (PySem.Str.ofString "top", .local), (PySem.Str.ofString "under", .local), (PySem.Str.ofString "type", .globalImplicit), (PySem.Str.ofString "tuple", .globalImplicit), (PySem.Str.ofString "len", .globalImplicit), (PySem.Str.ofString "is_whole", .globalImplicit), (PySem.Str.ofString "gcd", .globalImplicit)], isGenerator := false, isCoroutine := false, more := [] }
abbrev fTest (p : Nat → Pos) : Expr := .BoolOp .Or [.Compare (.Call (.Name "type" (p 0)) [.Name "value" (p 1)] [] (p 2)) [.IsNot] [.Name "tuple" (p 3)] (p 4),
  .Compare (.Call (.Name "len" (p 5)) [.Name "value" (p 6)] [] (p 7)) [.NotEq] [.Constant (.int 2) 0 (p 8)] (p 9)] (p 10)
abbrev fBody (p : Nat → Pos) : List Stmt := [.If (fTest p) [.Return (some (.Constant (.bool false) 0 (p 11))) (p 12)] [] (p 13),
  .Assign [.Tuple [.Name "top" (p 14), .Name "under" (p 15)] 0 (p 16)] (.Name "value" (p 17)) (p 18),
  .Return (some (.BoolOp .And [.Call (.Name "is_whole" (p 19)) [.Name "top" (p 20)] [] (p 21), .Call (.Name "is_whole" (p 22)) [.Name "under" (p 23)] [] (p 24),
    .Compare (.Name "under" (p 25)) [.Gt] [.Constant (.int 0) 0 (p 26)] (p 27),
    .Compare (.Call (.Name "gcd" (p 28)) [.Name "top" (p 29), .Name "under" (p 30)] [] (p 31)) [.Eq] [.Constant (.int 1) 0 (p 32)] (p 33)] (p 34))) (p 35)]
/-- what is_fraction tells of v -/
inductive FracAt (h : Heap) : Value → Bool → Prop
  | other {v : Value} {T : String} (k : Kd h v T) (ne : T ≠ "tuple") : FracAt h v false
  | size {a : Addr} {items : Array Value} (t : IsTup h a items) (ne : items.size ≠ 2) (le : items.size ≤ sizeLine) : FracAt h (.ref a) false
  | left {a : Addr} {x y : Value} {Tx : String} (t : IsTup h a #[x, y]) (k : Kd h x Tx) (ne : Tx ≠ "int") : FracAt h (.ref a) false
  | right {a : Addr} {i : Int} {t : Tok} {y : Value} {Ty : String} (e : IsTup h a #[.int i t, y]) (k : Kd h y Ty) (ne : Ty ≠ "int") : FracAt h (.ref a) false
  | num {a : Addr} {i j : Int} {t u : Tok} (e : IsTup h a #[.int i t, .int j u]) : FracAt h (.ref a) (decide (0 < j) && ((i.natAbs.gcd j.natAbs : Nat) == 1))
theorem FracAt.keeps {h h' : Heap} {v : Value} {b : Bool} (x : FracAt h v b) (k : ∀ b o, h.get? b = some o → h'.get? b = some o) : FracAt h' v b := by
  cases x with
  | other q ne => exact .other (q.keeps k) ne
  | size t ne le => exact .size (t.keeps k) ne le
  | left t q ne => exact .left (t.keeps k) (q.keeps k) ne
  | right t q ne => exact .right (t.keeps k) (q.keeps k) ne
  | num t => exact .num (t.keeps k)
theorem call_on {s s1 s2 : Shared} {L : Addr} {ms : Str → Option Value} (c : InCall s L ms s1) (k : Keeps s1 s2) : InCall s L ms s2 := by
  obtain ⟨h, tk, rfl⟩ := c.same
  obtain ⟨h2, tk2, rfl, k⟩ := k
  exact ⟨⟨h2, tk2, rfl⟩, c.ns.keeps k, fun b o e => k b o (c.keep b o e), c.fresh⟩
section
variable {P : Program} {w : World} {A : Around} {K : PySem.W.Frag} {mg : Str → Option Value} {s : Shared} {f fW : Addr} {name qual nW qW : Str} {params pW : Arguments} {dvs dW : List V} {kws kW : List (Str × V)} {fd fdW : FuncData} {v : Value} {T : String}
theorem wSc : FnScope ["value"] ["value"] wS := ⟨rfl, rfl, rfl, by decide +kernel, rfl, by decide +kernel, by decide +kernel⟩
theorem fSc : FnScope ["value", "top", "under"] ["value"] fS := ⟨rfl, rfl, rfl, by decide +kernel, rfl, by decide +kernel, by decide +kernel⟩
theorem whole_q {p : Nat → Pos} (F : FunD K name qual params (wBody p) wS dvs kws f fd) (hd : A.depth < recursionLimit) (m : Mod K mg s.heap) (ht : mg "type" = none) (hi : mg "int" = none)
    (hb : BindsTo s fd ⟨[v], []⟩ [("value", v)]) (k : Kd s.heap v T) :
    codeAny (model P w) A (.call (.ref f) ⟨[v], []⟩) (fun r s' => r = .ok (.ret (.bool (T == "int"))) ∧ Keeps s s') s := by
  refine codeAny_mono (quiet_call (us := [v]) (R := fun y => y = .bool (T == "int")) F wSc hd m hb fun cd s1 c => ?_) fun r s' q => ?_
  · have m1 := mod_on m c.keep
    have k1 := k.keeps c.keep
    refine wpAny_execs_cons (wpAny_Return_some (wpAny_Compare1 (q_type m1 ht c rfl (by rfl) k1 (q_blt (u := .type "int") m1 hi (by decide +kernel) ?_))))
    by_cases e : T = "int"
    · subst e
      exact wpAny_is_self (by rfl) ⟨rfl, c.done⟩
    · exact wpAny_is_other (by rfl) (fun z => e (Value.type.inj z)) ⟨by rw [beq_eq_false_iff_ne.mpr e], c.done⟩
  · obtain ⟨⟨y, e, rfl⟩, z⟩ := q
    exact ⟨e, z⟩
/-- a name is stored -/
theorem q_store {E : Value → Shared → Prop} {L : Addr} {ms : Str → Option Value} {s1 : Shared} {env : Env} {x : Str} {u : Value} {Q : Unit → Shared → Prop} (c : InCall s L ms s1) (hL : env.locals = L)
    (q : ∀ s2, InCall s L (fun y => if y = x then some u else ms y) s2 → Q () s2) (fk : env.scope.kind = .function := by rfl) (lo : env.kindOf x = some .local := by rfl) : wpAny (model P w) A (storeName env x u) Q E s1 := by
  subst hL
  refine wpAny_storeName_local lo c.ns (fun h' hn hs => q _ ⟨?_, hn, fun b o e => ?_, c.fresh⟩) (by rw [fk]; rfl)
  · obtain ⟨h, tk, rfl⟩ := c.same
    exact ⟨h', _, rfl⟩
  · exact hs.extBut b o (Nat.ne_of_lt (Nat.lt_of_lt_of_le (Heap.lt_size e) c.fresh)) (c.keep b o e)
/-- is_whole(x) -/
theorem q_whole {E : Value → Shared → Prop} {p : Nat → Pos} {L : Addr} {ms : Str → Option Value} {s1 : Shared} {env : Env} {x : Str} {p1 p2 p3 : Pos} {u : Value} {Q : Value → Shared → Prop} (F : FunD K nW qW pW (wBody p) wS dW kW fW fdW) (hd : A.depth < recursionLimit) (m : Mod K mg s1.heap)
    (ht : mg "type" = none) (hi : mg "int" = none) (hw : mg "is_whole" = some (.ref fW)) (hb : ∀ s v, BindsTo s fdW ⟨[v], []⟩ [("value", v)]) (c : InCall s L ms s1) (hL : env.locals = L) (hv : ms x = some u) (k : Kd s1.heap u T)
    (q : ∀ s2, Keeps s1 s2 → Q (.bool (T == "int")) s2)
    (hG : env.globals = mainGlobals := by rfl) (fk : env.scope.kind = .function := by rfl) (lo : env.kindOf x = some .local := by rfl) (lw : env.kindOf "is_whole" = some .globalImplicit := by rfl) (nd : (x == ("__debug__" : Str)) = false := by decide) :
    wpAny (model P w) A (eval (.Call (.Name "is_whole" p1) [.Name x p2] [] p3) env) Q E s1 := by
  refine wpAny_Call_Name_kw (q_glo m hw ?_ hG fk lw)
  refine PySem.W.callWith_K (h₀ := s1.heap) m.kin F.kp (Calls.spliced_cons (q_own c hL hv (Calls.spliced_nil ⟨m.kin, ?_⟩) fk lo nd)) rfl rfl
  refine wpAny_call (codeAny_mono (whole_q F hd m ht hi (hb _ _) k) fun r s' z => ?_)
  obtain ⟨rfl, z⟩ := z
  exact q _ z
theorem frac_q {p pw : Nat → Pos} {b : Bool} (F : FunD K name qual params (fBody p) fS dvs kws f fd) (W : FunD K nW qW pW (wBody pw) wS dW kW fW fdW) (hd : A.depth + 1 < recursionLimit) (hh : A.handled = none) (m : Mod K mg s.heap)
    (ht : mg "type" = none) (hi : mg "int" = none) (htu : mg "tuple" = none) (hl : mg "len" = none) (hw : mg "is_whole" = some (.ref fW)) (hg : mg "gcd" = some (.builtin "math.gcd"))
    (hb : BindsTo s fd ⟨[v], []⟩ [("value", v)]) (hbw : ∀ s v, BindsTo s fdW ⟨[v], []⟩ [("value", v)]) (k : FracAt s.heap v b) :
    codeAny (model P w) A (.call (.ref f) ⟨[v], []⟩) (fun r s' => r = .ok (.ret (.bool b)) ∧ Keeps s s') s := by
  refine codeAny_mono (quiet_call (us := [v]) (R := fun y => y = .bool b) F fSc (by omega) m hb fun cd s1 c => ?_) fun r s' q => ?_
  · have m1 := mod_on m c.keep
    have hsz : sizeLine = 16777216 := sizeLine_eq
    -- of a tuple: what its length is
    have second : ∀ (a : Addr) (items : Array Value) (R : Bool → Shared → Prop), v = .ref a → IsTup s.heap a items → items.size ≤ sizeLine →
        (∀ s2, InCall s s.heap.objs.size (bindL (envOfC qual fS s.heap.objs.size f cd).kindOf [("value", v)] fun _ => none) s2 → R (decide (items.size ≠ 2)) s2) →
        wpAny (model P w) (A.deeper (envOfC qual fS s.heap.objs.size f cd)) (isTrue (fTest p) (envOfC qual fS s.heap.objs.size f cd) (eval (fTest p) (envOfC qual fS s.heap.objs.size f cd))) R (fun _ _ => False) s1 := by
      intro a items R ev it le hR
      have it1 := it.keeps c.keep
      have kd : Kd s1.heap v "tuple" := by
        obtain ⟨o, e, cl, _⟩ := it1
        rw [ev]
        exact .tup e cl
      refine isTrue_or (wpAny_isTrue_Compare1 (q_type m1 ht c rfl (by rfl) kd (q_blt (u := .type "tuple") m1 htu (by decide +kernel) (wpAny_isNot_self (by rfl) (wpAny_truthy_bool ?_)))))
      show wpAny _ _ _ _ _ _
      refine isTrue_or (wpAny_isTrue_Compare1 ?_)
      refine wpAny_Call_Name_kw (q_blt (u := .builtin "len") m1 hl (by decide +kernel) ?_)
      refine PyProof.Rows.callWith_builtin1 (Calls.spliced_cons (q_own c rfl (u := v) (by rfl) (Calls.spliced_nil ?_))) rfl rfl
      rw [ev]
      refine len_tuple it1 (by omega) (wpAny_Constant_int (ne_int (wpAny_truthy_bool ?_)))
      have d : ((items.size : Int) != 2) = decide (items.size ≠ 2) := by
        by_cases z : items.size = 2
        · rw [z]
          rfl
        · rw [decide_eq_true z]
          have : (items.size : Int) ≠ 2 := by omega
          simpa using this
      rw [d]
      have last := hR { s1 with toks := s1.toks + 1 + 1 + 1 } (c.tok _)
      cases hz : decide (items.size ≠ 2) with
      | true =>
        rw [hz] at last
        exact last
      | false =>
        rw [hz] at last
        exact isTrue_or_nil last
    let env := envOfC qual fS s.heap.objs.size f cd
    let goal : Flow → Shared → Prop := fun fl s' => (match fl with | .ret v => v | _ => .none) = .bool b ∧ Keeps s s'
    -- the test is true: False is told
    have no : ∀ s2, Keeps s s2 → b = false → wpAny (model P w) (A.deeper env) (execs [.Return (some (.Constant (.bool false) 0 (p 11))) (p 12)] env)
        (fun fl s' => match fl with | .next => wpAny (model P w) (A.deeper env) (execs (fBody p).tail env) goal (fun _ _ => False) s' | fl => goal fl s') (fun _ _ => False) s2 := fun s2 c2 e =>
      wpAny_execs_cons (wpAny_Return_some (wpAny_Constant_bool ⟨by rw [e], c2⟩))
    -- two things: both are told, then both are asked
    have two : ∀ (a : Addr) (x y : Value) (Tx : String), v = .ref a → IsTup s.heap a #[x, y] → Kd s.heap x Tx → (Tx ≠ "int" → b = false) →
        (Tx = "int" → ∃ Ty, Kd s.heap y Ty ∧ (Ty ≠ "int" → b = false) ∧ (Ty = "int" → ∃ i t j u, x = .int i t ∧ y = .int j u ∧ b = (decide (0 < j) && ((i.natAbs.gcd j.natAbs : Nat) == 1)))) →
        ∀ s2, InCall s s.heap.objs.size (bindL env.kindOf [("value", v)] fun _ => none) s2 →
        wpAny (model P w) (A.deeper env) (execs (fBody p).tail env) goal (fun _ _ => False) s2 := by
      intro a x y Tx ev it kx nx yx s2 c2
      refine wpAny_execs_cons (wpAny_Assign_stores (q_own c2 rfl (u := v) (by rfl) ?_) (by rfl) (by rfl))
      rw [ev]
      refine assign_Tuple_tuple (A := A.deeper env) (x1 := 0) hh (it.keeps c2.keep) (by rfl) (by rfl) fun h3 x3 => ?_
      have c3 : InCall s s.heap.objs.size (bindL env.kindOf [("value", v)] fun _ => none) { s2 with heap := h3 } :=
        call_on c2 ⟨h3, s2.toks, rfl, fun b o e => x3 b o (Nat.ne_of_lt (Heap.lt_size e)) e⟩
      refine assignInOrder_cons (wpAny_assign_Name (q_store c3 rfl fun s4 c4 => assignInOrder_cons (wpAny_assign_Name (q_store c4 rfl fun s5 c5 => assignInOrder_nil ?_))))
      have fin : ∀ s6 y, Keeps s s6 → y = .bool b → goal (.ret y) s6 := fun s6 y k6 e => ⟨e, k6⟩
      have d5 : (A.deeper env).depth < recursionLimit := hd
      refine wpAny_execs_cons (wpAny_Return_some (BoolOp_and ?_))
      refine q_whole (T := Tx) W d5 (mod_on m c5.keep) ht hi hw hbw c5 rfl (u := x) (by rfl) (kx.keeps c5.keep) fun s6 k6 => wpAny_truthy_bool ?_
      have c6 := call_on c5 k6
      by_cases ex : Tx = "int"
      case neg =>
        rw [beq_eq_false_iff_ne.mpr ex]
        exact fin _ _ c6.done (by rw [nx ex])
      rw [show (Tx == "int") = true from beq_iff_eq.mpr ex]
      obtain ⟨Ty, ky, ny, both⟩ := yx ex
      show wpAny _ _ _ _ _ _
      refine BoolOp_and (q_whole (T := Ty) W d5 (mod_on m c6.keep) ht hi hw hbw c6 rfl (u := y) (by rfl) (ky.keeps c6.keep) fun s7 k7 => wpAny_truthy_bool ?_)
      have c7 := call_on c6 k7
      by_cases ey : Ty = "int"
      case neg =>
        rw [beq_eq_false_iff_ne.mpr ey]
        exact fin _ _ c7.done (by rw [ny ey])
      rw [show (Ty == "int") = true from beq_iff_eq.mpr ey]
      obtain ⟨i, t, j, u, rfl, rfl, eb⟩ := both ey
      show wpAny _ _ _ _ _ _
      refine BoolOp_and (wpAny_Compare1 (q_own c7 rfl (u := .int j u) (by rfl) (wpAny_Constant_int (PyProof.Rows.gt_int (wpAny_truthy_bool ?_)))))
      have c8 := c7.tok (s7.toks + 1)
      by_cases ej : (0 : Int) < j
      case neg =>
        rw [decide_eq_false ej]
        exact fin _ _ c8.done (by rw [eb, decide_eq_false ej]; rfl)
      rw [decide_eq_true ej]
      show wpAny _ _ _ _ _ _
      refine BoolOp_one (wpAny_Compare1 ?_)
      refine wpAny_Call_Name_kw (q_glo (mod_on m c8.keep) hg ?_)
      refine PyProof.Rows.callWith_builtin1 (Calls.spliced_cons (q_own c8 rfl (u := .int i t) (by rfl) (Calls.spliced_cons (q_own c8 rfl (u := .int j u) (by rfl) (Calls.spliced_nil ?_))))) rfl rfl
      refine PySem.W.mg_gcd fun _ => wpAny_Constant_int (PyProof.Rows.eq_int (fin _ _ ((c8.tok _).tok _).done ?_))
      rw [eb, decide_eq_true ej, Bool.true_and]
      congr 1
      by_cases z : i.natAbs.gcd j.natAbs = 1
      · rw [z]
        rfl
      · have z2 : ((i.natAbs.gcd j.natAbs : Nat) : Int) ≠ 1 := by omega
        rw [beq_eq_false_iff_ne.mpr z, beq_eq_false_iff_ne.mpr z2]
    refine wpAny_execs_cons (wpAny_If ?_)
    cases k with
    | other kd ne =>
      refine isTrue_or (wpAny_isTrue_Compare1 (q_type m1 ht c rfl (by rfl) (kd.keeps c.keep) (q_blt (u := .type "tuple") m1 htu (by decide +kernel) (wpAny_isNot_other (by rfl) (fun z => ne (Value.type.inj z)) (wpAny_truthy_bool ?_)))))
      exact no _ c.done rfl
    | size it ne le =>
      refine second _ _ _ rfl it le fun s2 c2 => ?_
      rw [decide_eq_true ne]
      exact no _ c2.done rfl
    | left it kx ne =>
      refine second _ _ _ rfl it (by show 2 ≤ sizeLine; omega) fun s2 c2 => ?_
      exact wpAny_execs_nil (two _ _ _ _ rfl it kx (fun _ => rfl) (fun z => absurd z ne) _ c2)
    | right it ky ne =>
      refine second _ _ _ rfl it (by show 2 ≤ sizeLine; omega) fun s2 c2 => ?_
      exact wpAny_execs_nil (two _ _ _ _ rfl it (.int _ _) (fun z => absurd rfl z) (fun _ => ⟨_, ky, fun _ => rfl, fun z => absurd z ne⟩) _ c2)
    | num it =>
      refine second _ _ _ rfl it (by show 2 ≤ sizeLine; omega) fun s2 c2 => ?_
      exact wpAny_execs_nil (two _ _ _ _ rfl it (.int _ _) (fun z => absurd rfl z) (fun _ => ⟨_, .int _ _, fun z => absurd rfl z, fun _ => ⟨_, _, _, _, rfl, rfl, rfl⟩⟩) _ c2)
  · obtain ⟨⟨y, e, rfl⟩, z⟩ := q
    exact ⟨e, z⟩
end
end Gx
set_option Elab.async false
set_option linter.all false
set_option maxRecDepth 100000
set_option maxHeartbeats 4000000
namespace Gx
open PySem PySem.Spec
open PyProof.Rows
open L2
/-! ### all(f(x) for x in t), t a tuple, f a quiet def -/
/-- what is so of a value in a heap; objects added and the table at P changed leave it so -/
abbrev Told := Heap → Value → Bool → Prop
/-- the element told of one item: it only adds objects -/
def EltQ (P : Program) (w : World) (K : PySem.W.Frag) (mg : Str → Option Value) (scope : Scope) (x : Str) (elt : Expr) (D : Nat) (T : Told) : Prop :=
  ∀ (env : Env) (A : Around) (E : Value → Shared → Prop) (v : Value) (b : Bool) (s : Shared) (ms : Str → Option Value), env.scope = scope → env.globals = mainGlobals → A.handled = none → A.depth ≤ D →
    Mod K mg s.heap → s.heap.Ns env.locals ms → ms x = some v → T s.heap v b → wpAny (model P w) A (eval elt env) (fun y s' => y = .bool b ∧ Keeps s s') E s
section
variable {X : Cx} {pins : List (Addr × Obj)} {σ : L2.St} {H : Hp} {s : Shared} {c tb : Addr}
/-- the code object of a generator expression: made and put into the table at the first time, later found there -/
theorem code_step {A : Around} {E : Value → Shared → Prop} {C : Value → Shared → Prop} {env : Env} {gpos : Pos} {q : Str} {scope : Scope} {ps : Array Value}
    (hc : env.code = .ref c) (cd : PySem.W.CodeHd s.heap c tb) (at_ : s.heap.get? tb = some { cls := .none, data := .fields ps }) (ok : TriplesOk ps.toList)
    (next : ∀ code h3 tk more, Heap.ExtBut tb s.heap h3 → s.heap.objs.size ≤ h3.objs.size → h3.get? tb = some { cls := .none, data := .fields (ps ++ more) } → TriplesOk (ps ++ more).toList →
      C code { s with heap := h3, toks := tk }) : wpAny (model X.prog X.w) A (genexprCode env gpos q scope) C E s := by
  cases found : codeAmong gpos ps.toList with
  | some cv =>
    refine wpAny_genexprCode_hit hc (cd.code at_ ok) found ?_
    exact next cv s.heap s.toks #[] (Heap.ExtBut.refl _ _) (Nat.le_refl _) (by rw [Array.append_empty]; exact at_) (by rw [Array.append_empty]; exact ok)
  | none =>
    refine wpAny_genexprCodeX hc (cd.code at_ ok) (cd.tab at_) found fun c' h3 tk ext ge lt isC _ isT _ => ?_
    obtain ⟨_, _, _, _, _, _, _, _, _, _, _, _, _, _, _, _, _, _, _, good, _⟩ := isC
    exact next _ h3 tk _ ext (Nat.le_trans ge (Nat.le_of_lt lt)) isT.2 good
def tAllT (K : PySem.W.Frag) (tb : Addr) (Fs : Hp → List V → List Bool → Prop) (te : TE) : TE := fun σ H Q => te σ H fun v H1 => ∃ (a : Addr) (xs : List V) (bs : List Bool), v = .ref a ∧ SqT K H1 a xs ∧ bs.length = xs.length ∧ GxR.TabG H1 tb ∧ Fs H1 xs bs ∧
  ∀ H2, GxR.Tabbed tb H1 H2 → Q (.bl (bs.all id)) H2
theorem all_at (bs : List Bool) : (List.range bs.length).all (fun i => bs.getD i false) = bs.all id := by
  have e : bs = (List.range bs.length).map fun i => bs.getD i false := by
    apply List.ext_getElem
    · simp
    · intro i h1 h2
      simp [List.getD_eq_getElem?_getD, List.getElem?_eq_getElem h1]
  conv => rhs; rw [e]
  rw [List.all_map]
  rfl
theorem pe_allT {elt iter : Expr} {x : Str} {px p pos gpos : Pos} {scope : Scope} {te : TE} {k : Nat} {T : Told} {Fs : Hp → List V → List Bool → Prop}
    (hr : Room k X.A) (hg : Gl X "all") (hm : X.mg "all" = none) (TB : GxR.TabB X.base X.mg c tb) (hcode : X.env.code = .ref c) (S : GxR.GenS X.env scope x) (hi : PE X iter te)
    (hel : EltQ X.prog X.w X.K X.mg scope x elt (X.A.depth + 1) T)
    (tells : ∀ (pins : List (Addr × Obj)) (σ : L2.St) (xs : List V) (bs : List Bool) (H1 : Hp) (s1 : Shared) (its : List Value) (h' : Heap), Fs H1 xs bs → Inv X pins σ H1 s1 → (∃ ps, H1 tb = some (.tbl ps)) → Vals xs its →
      (∀ b o, b ≠ tb → s1.heap.get? b = some o → h'.get? b = some o) → ∀ (i : Nat) (u : Value) (b : Bool), its[i]? = some u → bs[i]? = some b → T h' u b)
    (hs : ∀ v, genFold iter X.env v = pure v)
    (he : starEach [.GeneratorExp elt [⟨.Name x px, iter, [], 0⟩] scope gpos] X.env = (false, eval (.GeneratorExp elt [⟨.Name x px, iter, [], 0⟩] scope gpos) X.env) :: starEach [] X.env := by rfl) :
    PE X (.Call (.Name "all" p) [.GeneratorExp elt [⟨.Name x px, iter, [], 0⟩] scope gpos] [] pos) (tAllT X.K tb Fs te) := by
  refine ⟨fun pins s σ H Q I h => ?_⟩
  refine wpAny_Call_Name_kw (ld_blt (u := .builtin "all") I hg hm (by decide +kernel) ?_)
  refine PyProof.Rows.callWith_builtin1 ?_ he (by rfl)
  rw [he]
  show wpAny _ _ (spliced ((false, eval (.GeneratorExp elt [⟨.Name x px, iter, [], 0⟩] scope gpos) X.env) :: backTo pos (starEach [] X.env))) _ _ s
  refine Calls.spliced_cons (wpAny_GeneratorExp_walksQD hr.hd S.co (closure_ok S.free) S.cell S.dot S.loc S.kind (by have := hr.dp; omega) ?_ hs)
  refine thn (hi.run pins s σ H _ I h) fun xv s1 ⟨v, H1, I1, r1, q1⟩ => ?_
  obtain ⟨a, xs, bs, rfl, sq, same, ⟨ps, hP, ok⟩, fs, q1⟩ := q1
  cases r1
  obtain ⟨its, rv, it, _⟩ := I1.tuple sq
  have tupA : s1.heap.IsTuple a its.toArray := it
  refine wpAny_pyIter_tuple tupA ?_
  -- the iterator stands at it0
  generalize ho : ({ cls := .type "tuple_iterator", data := .fields #[.ref a, .int 0 0] } : Obj) = ob
  have push : ∀ {b u}, s1.heap.get? b = some u → (s1.heap.push ob).get? b = some u := fun e => Heap.get?_push_of_some _ e
  have onP : s1.heap.get? tb = some { cls := .none, data := .fields ps } := I1.hok tb _ hP
  have lim : (s1.heap.push ob).NoLimit := I1.nolimit.push ob
  have size2 : (s1.heap.push ob).objs.size = s1.heap.objs.size + 1 := Heap.size_push ..
  refine ⟨lim, code_step hcode (TB.code.keeps fun b u e => push (I1.bk b u e)) (push onP) ok fun code h3 tk more ext ge at3 ok3 => ?_⟩
  have old3 : ∀ {b u}, b ≠ tb → s1.heap.get? b = some u → h3.get? b = some u := fun ne e => ext _ _ ne (push e)
  have baseNe : ∀ {b u}, X.base.get? b = some u → b ≠ tb := fun {b u} e z => by
    have n := (I1.bs b u e).2
    rw [z, hP] at n
    cases n
  have aNe : a ≠ tb := fun z => by
    obtain ⟨o1, e1, c1, _⟩ := it
    rw [z, onP] at e1
    cases e1
    cases c1
  have stNe : cStatics ≠ tb := fun z => by
    obtain ⟨_, ns, _⟩ := I1.nolimit
    obtain ⟨o1, _, _, e1, d1, _⟩ := ns
    rw [z, onP] at e1
    cases e1
    cases d1
  have aLt : a < s1.heap.objs.size := by
    obtain ⟨o1, e1, _⟩ := it
    exact Heap.lt_size e1
  have stLt : cStatics < s1.heap.objs.size := let ⟨_, ns, _⟩ := I1.nolimit; ns.lt
  obtain ⟨bm, mo, b1, b2, b3, b4, b5, b6, b7, b8⟩ := TB.bm
  refine wpAny_builtinsFor (m := X.mg) (by rw [I1.ok.glob]; exact ((I1.mod.glob.keeps I1.bk).push ob).extBut ext TB.gP) b1 b2 (old3 b4 (I1.bk _ _ b5)) b6 b7 b8 ?_
  refine ⟨s1.heap.objs.size, [s1.heap.objs.size, a], [s1.heap.objs.size], its.toArray.size, (fun i u => its.toArray[i]? = some u), _, (fun _ => true), (fun i y => ∃ b, bs[i]? = some b ∧ y = .bool b), rfl,
    fun A' hA => Walks.tuple hA s1.heap.objs.size a (Nat.ne_of_lt aLt) its.toArray, ⟨?_, ?_⟩, ?_, lim.extBut ext stNe, ?_, ?_, ?_⟩
  · exact ⟨ob, ext _ _ (fun z => Nat.lt_irrefl _ (z ▸ Heap.lt_size onP)) (Heap.get?_push_at rfl (by rw [← ho]; rfl)), by rw [← ho], by rw [← ho]; rfl⟩
  · obtain ⟨o1, e1, r⟩ := tupA
    exact ⟨o1, old3 aNe e1, r⟩
  · intro b hb
    have big : s1.heap.objs.size + 1 ≤ h3.objs.size := size2 ▸ ge
    rcases List.mem_cons.mp hb with z | hb
    · rw [z]
      exact big
    · rw [List.mem_singleton.mp hb]
      exact Nat.lt_of_lt_of_le aLt (Nat.le_of_succ_le big)
  · intro z
    exact Nat.ne_of_lt stLt (List.mem_singleton.mp z)
  · intro href hh
    refine ⟨fun A' E' i u s2 m2 _ _ _ _ _ _ _ => ?_, fun A' E' i u s2 m2 hA hD _ hu _ hn hm2 hk => ?_⟩
    · simp only [List.forIn_nil]
      exact wpAny_pure ⟨rfl, GxR.keeps_refl _⟩
    · have hu2 : its[i]? = some u := by
        rw [← List.getElem?_toArray]
        exact hu
      have keep2 : ∀ b o, b ≠ tb → s1.heap.get? b = some o → s2.heap.get? b = some o := fun b o ne e => by
        have e3 := old3 ne e
        refine hk b (List.mem_range.mpr (Heap.lt_size e3)) (fun z => ?_) o (hh b o e3)
        rw [List.mem_singleton.mp z] at e
        exact Nat.lt_irrefl _ (Heap.lt_size e)
      have hi2 : i < bs.length := by
        rw [same, rv.length]
        exact (List.getElem?_eq_some_iff.mp hu2).1
      have m2' : Mod X.K X.mg s2.heap := mod_on I1.mod fun b o e => keep2 b o (baseNe e) (I1.bk b o e)
      exact wpAny_mono (hel _ A' E' u bs[i] s2 m2 rfl I1.ok.glob hA hD m2' hn hm2 (tells pins σ xs bs H1 s1 its s2.heap fs I1 ⟨ps, hP⟩ rv keep2 i u _ hu2 (List.getElem?_eq_getElem hi2)))
        (fun y s3 r => ⟨⟨_, List.getElem?_eq_getElem hi2, r.1⟩, r.2⟩) fun _ _ e => e
  · intro g h5 tk5 gs bare _ _ k5 W5 at5
    simp only [GxR.passing_true, List.length_range] at W5
    have W6 := W5.in4_1
    refine Calls.spliced_nil (call_all_walkS (W6.self 0 _ _ _ at5 ⟨g, _, _, _, _, _, _, fun i => bs.getD i false, rfl, W6, at5, ?_, fun s' mv => ?_⟩))
    · intro j y sj Qj Ej hy hQ
      obtain ⟨i, hij, b, hb, rfl⟩ := hy
      obtain ⟨_, ej⟩ := List.getElem?_eq_some_iff.mp hij
      rw [List.getElem_range] at ej
      subst ej
      have e : bs.getD j false = b := by rw [List.getD_eq_getElem?_getD, hb]; rfl
      have hQ2 : Qj (bs.getD j false) sj := hQ
      rw [e] at hQ2
      exact wpAny_truthy_bool hQ2
    · have nw : ∀ b u, s1.heap.get? b = some u → b ∉ h3.objs.size :: [s1.heap.objs.size] := fun b u e z => by
        have l := Heap.lt_size e
        have big : s1.heap.objs.size + 1 ≤ h3.objs.size := size2 ▸ ge
        rcases List.mem_cons.mp z with z | z
        · rw [z] at l
          have l2 : (h3.objs.size : Nat) < s1.heap.objs.size := l
          omega
        · rw [List.mem_singleton.mp z] at l
          exact Nat.lt_irrefl _ l
      have J := GxR.inv_tab (more := more) (h' := s'.heap) (g' := s'.gens) (d' := s'.drawn) (t' := s'.toks) I1 hP (fun b u ne e => mv.heap b u (nw b u e) (k5 b u (old3 ne e)))
        (mv.heap tb _ (nw tb _ onP) (k5 tb _ at3)) (AllBare.movedS (I1.bare.push bare) mv)
      rw [GxR.sh_eta s1 s' mv.os] at J
      have n : its.toArray.size = bs.length := by rw [List.size_toArray, same, rv.length]
      refine ⟨.bl (bs.all id), _, J, ?_, q1 _ ⟨⟨ps ++ more, upd_same, ok3⟩, fun b hb => upd_ne hb⟩⟩
      show Value.bool _ = Value.bool _
      rw [n, all_at]
end
end Gx
set_option Elab.async false
set_option linter.all false
set_option maxRecDepth 100000
set_option maxHeartbeats 4000000
namespace Gx
open PySem PySem.Spec
open PyProof.Rows
open L2
/-! ### data of any kind: their class, whether they are fractions, whether polynomials -/
def tyD : PyData → String
  | .none => "NoneType"
  | .bool _ => "bool"
  | .int _ => "int"
  | .str _ => "str"
  | .list _ => "list"
  | .tuple _ => "tuple"
  | .dict _ => "dict"
theorem int_of_ty {d : PyData} (h : tyD d = "int") : ∃ i, d = .int i := by
  cases d with
  | int i => exact ⟨i, rfl⟩
  | none => exact absurd (show "NoneType" = "int" from h) (by decide)
  | bool b => exact absurd (show "bool" = "int" from h) (by decide)
  | str x => exact absurd (show "str" = "int" from h) (by decide)
  | list x => exact absurd (show "list" = "int" from h) (by decide)
  | tuple x => exact absurd (show "tuple" = "int" from h) (by decide)
  | dict x => exact absurd (show "dict" = "int" from h) (by decide)
def fracD : PyData → Bool
  | .tuple [.int i, .int j] => decide (0 < j) && ((i.natAbs.gcd j.natAbs : Nat) == 1)
  | _ => false
/-- whether a fraction is told, other than 0 -/
def topD : PyData → Bool
  | .tuple (.int i :: _) => i != 0
  | _ => false
def polyD : PyData → Bool
  | .tuple ds => !ds.isEmpty && (ds.all fracD && ds.getLast?.any topD)
  | _ => false
section
variable {X : Cx} {pins : List (Addr × Obj)} {σ : L2.St} {H : Hp} {s : Shared} {N : Addr → Prop} {c tb : Addr}
/-- the class of what is told, also once the table at tb has grown -/
theorem kd_of (I : Inv X pins σ H s) {h' : Heap} (k : ∀ a b o, H a = some o → (∀ q, o ≠ .tbl q) → s.heap.get? a = some b → h'.get? a = some b) : ∀ {d : PyData} {v : V} {u : Value}, Dq N H v d → RelV v u → Kd h' u (tyD d)
  | .none, _, _, h, r => by
    cases h
    cases r
    exact .none
  | .bool b, _, _, h, r => by
    cases h
    cases r
    exact .bool b
  | .int i, _, _, h, r => by
    cases h
    obtain ⟨t, rfl⟩ := r
    exact .int i t
  | .str x, _, _, h, r => by
    cases h
    obtain ⟨t, rfl⟩ := r
    exact .str x t
  | .list ds, _, _, h, r => by
    cases h with
    | lst _ e _ _ =>
      cases r
      obtain ⟨its, rv, ⟨o, n, ho, hc, _, _⟩, _⟩ := I.list (.of e)
      exact .lst (k _ _ _ e (fun q z => by cases z) ho) hc
  | .tuple ds, _, _, h, r => by
    cases h with
    | tup _ e _ =>
      cases r
      obtain ⟨its, rv, ⟨o, ho, hc, _⟩, _⟩ := I.tuple (.of e)
      exact .tup (k _ _ _ e (fun q z => by cases z) ho) hc
  | .dict kvs, v, _, h, r => by
    cases h with
    | dk0 _ e =>
      cases r
      obtain ⟨_, _, vs, _, o, es, ep, ho, ⟨hc, _⟩, _⟩ := (show ObjOk X.prog X.w H s.heap _ (.dK []) from I.hok _ _ e)
      exact .dct (k _ _ _ e (fun q z => by cases z) ho) hc
    | dk1 _ e _ =>
      cases r
      obtain ⟨_, _, vs, _, o, es, ep, ho, ⟨hc, _⟩, _⟩ := (show ObjOk X.prog X.w H s.heap _ (.dK [_]) from I.hok _ _ e)
      exact .dct (k _ _ _ e (fun q z => by cases z) ho) hc
theorem frac_of (I : Inv X pins σ H s) {h' : Heap} (k : ∀ a b o, H a = some o → (∀ q, o ≠ .tbl q) → s.heap.get? a = some b → h'.get? a = some b) {d : PyData} {v : V} {u : Value} (h : Dq N H v d) (r : RelV v u) : FracAt h' u (fracD d) := by
  have kd := kd_of I k h r
  cases d with
  | tuple ds =>
    cases h with
    | tup _ e all =>
      cases r
      obtain ⟨its, rv, ⟨o, ho, hc, n, hd⟩, le⟩ := I.tuple (.of e)
      have it : IsTup h' _ its.toArray := ⟨o, k _ _ _ e (fun q z => by cases z) ho, hc, n, hd⟩
      have l := rv.length
      have l2 := all.length
      rcases ds with _ | ⟨d1, _ | ⟨d2, _ | ⟨d3, more⟩⟩⟩
      · exact .size it (by simp only [List.length_nil, List.size_toArray] at l2 ⊢; omega) (by rw [List.size_toArray]; omega)
      · have z : fracD (.tuple [d1]) = false := by cases d1 <;> rfl
        rw [z]
        exact .size it (by simp only [List.length_cons, List.length_nil, List.size_toArray] at l2 ⊢; omega) (by rw [List.size_toArray]; omega)
      · cases all with
        | cons a all =>
          cases all with
          | cons b all =>
            cases all
            cases rv with
            | cons ra rv =>
              cases rv with
              | cons rb rv =>
                cases rv
                have ka := kd_of I k a ra
                have kb := kd_of I k b rb
                by_cases e1 : tyD d1 = "int"
                · obtain ⟨i, rfl⟩ := int_of_ty e1
                  cases a
                  obtain ⟨t, rfl⟩ := ra
                  by_cases e2 : tyD d2 = "int"
                  · obtain ⟨j, rfl⟩ := int_of_ty e2
                    cases b
                    obtain ⟨t2, rfl⟩ := rb
                    exact .num it
                  · have z : fracD (.tuple [.int i, d2]) = false := by cases d2 <;> first | rfl | exact absurd rfl e2
                    rw [z]
                    exact .right it kb e2
                · have z : fracD (.tuple [d1, d2]) = false := by cases d1 <;> first | rfl | exact absurd rfl e1
                  rw [z]
                  exact .left it ka e1
      · have z : fracD (.tuple (d1 :: d2 :: d3 :: more)) = false := by cases d1 <;> cases d2 <;> rfl
        rw [z]
        exact .size it (by simp only [List.length_cons, List.size_toArray] at l2 ⊢; omega) (by rw [List.size_toArray]; omega)
  | none => exact .other kd (show "NoneType" ≠ "tuple" by decide)
  | bool b => exact .other kd (show "bool" ≠ "tuple" by decide)
  | int i => exact .other kd (show "int" ≠ "tuple" by decide)
  | str x => exact .other kd (show "str" ≠ "tuple" by decide)
  | list x => exact .other kd (show "list" ≠ "tuple" by decide)
  | dict x => exact .other kd (show "dict" ≠ "tuple" by decide)
/-- type(x) of data -/
theorem call_tyD : CallR X (.type "type") (fun xs H Q => ∃ (x : V) (N : Addr → Prop) (d : PyData), xs = [x] ∧ Dq N H x d ∧ Q (.ty (tyD d)) H) := by
  intro pins s σ H xs us Q I r h
  obtain ⟨x, N, d, rfl, q, fin⟩ := h
  obtain ⟨u, rfl, rx⟩ := vals1 r
  have k := kd_of I (h' := s.heap) (fun _ _ _ _ _ e => e) q rx
  exact call_type_of k.is.1 k.is.2 ⟨.ty _, H, I, rfl, fin⟩
end
end Gx
set_option Elab.async false
set_option linter.all false
set_option maxRecDepth 100000
set_option maxHeartbeats 4000000
namespace Gx
open PySem PySem.Spec
open PyProof.Rows
open L2
/-! ### is_polynomial(value) -/
abbrev gS : Scope := { kind := .function, names := [(PySem.Str.ofString ".0", .local), (PySem.Str.ofString "number", .local), (PySem.Str.ofString "is_fraction", .globalImplicit)], isGenerator := true, isCoroutine := false, more := [] }
abbrev pS : Scope := { kind := .function, names := [(PySem.Str.ofString "value", .local), (PySem.Str.ofString "type", .globalImplicit), (PySem.Str.ofString "tuple", .globalImplicit), (PySem.Str.ofString "len", .globalImplicit), (PySem.Str.ofString "all", .globalImplicit)], isGenerator := false, isCoroutine := false, more := [] }
abbrev pElt (p : Nat → Pos) : Expr := .Call (.Name "is_fraction" (p 0)) [.Name "number" (p 1)] [] (p 2)
abbrev pGen (p : Nat → Pos) : Expr := .GeneratorExp (pElt p) [⟨.Name "number" (p 3), .Name "value" (p 4), [], 0⟩] gS (p 5)
abbrev pTest (p : Nat → Pos) : Expr := .BoolOp .Or [.Compare (.Call (.Name "type" (p 6)) [.Name "value" (p 7)] [] (p 8)) [.IsNot] [.Name "tuple" (p 9)] (p 10),
  .Compare (.Call (.Name "len" (p 11)) [.Name "value" (p 12)] [] (p 13)) [.Eq] [.Constant (.int 0) 0 (p 14)] (p 15)] (p 16)
abbrev pBody (p : Nat → Pos) : List Stmt := [.If (pTest p) [.Return (some (.Constant (.bool false) 0 (p 17))) (p 18)] [] (p 19),
  .Return (some (.BoolOp .And [.Call (.Name "all" (p 20)) [pGen p] [] (p 21),
    .Compare (.Subscript (.Subscript (.Name "value" (p 22)) (.UnaryOp .USub (.Constant (.int 1) 0 (p 23)) (p 24)) (p 25)) (.Constant (.int 0) 0 (p 26)) (p 27)) [.NotEq] [.Constant (.int 0) 0 (p 28)] (p 29)] (p 30))) (p 31)]
theorem pSc : FnScope ["value"] ["value"] pS := ⟨rfl, rfl, rfl, by decide +kernel, rfl, by decide +kernel, by decide +kernel⟩
section
variable {P : Program} {w : World} {K : PySem.W.Frag} {mg : Str → Option Value} {base : Heap} {f fF fW c tb : Addr} {name qual nF qF nW qW : Str} {params pF pW : Arguments} {dvs dF dW : List V} {kws kF kW : List (Str × V)} {fd fdF fdW : FuncData}
/-- the two quiet defs of the text and the names they lean on -/
structure Nums (K : PySem.W.Frag) (mg : Str → Option Value) (fF fW : Addr) : Prop where
  frac : ∃ (p : Nat → Pos) (nF qF : Str) (pF : Arguments) (dF : List V) (kF : List (Str × V)) (fdF : FuncData), FunD K nF qF pF (fBody p) fS dF kF fF fdF ∧ ∀ s v, BindsTo s fdF ⟨[v], []⟩ [("value", v)]
  whole : ∃ (p : Nat → Pos) (nW qW : Str) (pW : Arguments) (dW : List V) (kW : List (Str × V)) (fdW : FuncData), FunD K nW qW pW (wBody p) wS dW kW fW fdW ∧ ∀ s v, BindsTo s fdW ⟨[v], []⟩ [("value", v)]
  mF : mg "is_fraction" = some (.ref fF)
  mW : mg "is_whole" = some (.ref fW)
  mG : mg "gcd" = some (.builtin "math.gcd")
  mt : mg "type" = none
  mi : mg "int" = none
  mu : mg "tuple" = none
  ml : mg "len" = none
  ma : mg "all" = none
theorem elt_frac (T : Nums K mg fF fW) {p : Nat → Pos} {D : Nat} (hd : D + 1 < recursionLimit) : EltQ P w K mg gS "number" (pElt p) D FracAt := by
  intro env A E v b s ms hs hG hh hD m ns hv k
  obtain ⟨pf, _, _, _, _, _, fdF, F, bF⟩ := T.frac
  obtain ⟨pw, _, _, _, _, _, fdW, W, bW⟩ := T.whole
  have fk : env.scope.kind = .function := by rw [hs]
  have lo : env.kindOf "number" = some .local := by
    show env.scope.names.lookup _ = _
    rw [hs]
    rfl
  have lf : env.kindOf "is_fraction" = some .globalImplicit := by
    show env.scope.names.lookup _ = _
    rw [hs]
    rfl
  refine wpAny_Call_Name_kw (q_glo m T.mF ?_ hG fk lf)
  refine PySem.W.callWith_K (h₀ := s.heap) m.kin F.kp (Calls.spliced_cons (wpAny_Name (wpAny_loadName_local fk lo ns hv (Calls.spliced_nil ⟨m.kin, ?_⟩)) (by decide))) rfl rfl
  refine wpAny_call (codeAny_mono (frac_q F W (by omega) hh m T.mt T.mi T.mu T.ml T.mW T.mG (bF _ _) bW k) fun r s' z => ?_)
  obtain ⟨rfl, z⟩ := z
  exact ⟨rfl, z⟩
/-- the rule for a def whose code object is known -/
theorem okC {CX : CXT} {N ps : List Str} {k : Nat} {sp : Sp} {body : List Stmt} {scope : Scope} (F : FunD K name qual params body scope dvs kws f fd) (hc : fd.code = .ref c) (S : FnScope N ps scope) (len : ∀ vs H Q E, sp vs H Q E → vs.length = ps.length)
    (hbody : ∀ (A : Around) (outer : List Env) (s : Shared) (H : Hp) (vs : List V) (Q : VK) (E : XK), Room k (A.deeper (envOfC qual scope s.heap.objs.size f (.ref c))) → sp vs H Q E →
      ∃ t, PSs (cxOf CX P w K mg base N qual scope f (.ref c) A outer s H E) body t ∧ t { nx := fun _ H' => Q .non H', rt := Q } (start N vs) H) : FnOk P w K mg base CX (k + 1) f fd ps sp := by
  obtain ⟨oc, od, dV, kV, doc, pm, an, cdv, ct, osl, rfl, lk, hcd, _, _⟩ := F.ex
  have e : cdv = .ref c := hc
  subst e
  exact fn_of lk hcd S len fun A outer s H vs Q E hr hsp => hbody A outer s H vs Q E hr hsp
theorem dq_at {N : Addr → Prop} {H : Hp} : ∀ {ds : List PyData} {xs : List V} {i : Nat} {d : PyData}, DqAll N H xs ds → ds[i]? = some d → ∃ v, xs[i]? = some v ∧ Dq N H v d
  | _ :: _, _, 0, _, .cons a _, e => ⟨_, rfl, Option.some.inj e ▸ a⟩
  | _ :: _, _, i + 1, _, .cons _ r, e => dq_at (i := i) r e
theorem ty_tup {d : PyData} (h : tyD d = "tuple") : ∃ ds, d = .tuple ds := by
  cases d with
  | tuple x => exact ⟨x, rfl⟩
  | int i => exact absurd (show "int" = "tuple" from h) (by decide)
  | none => exact absurd (show "NoneType" = "tuple" from h) (by decide)
  | bool b => exact absurd (show "bool" = "tuple" from h) (by decide)
  | str x => exact absurd (show "str" = "tuple" from h) (by decide)
  | list x => exact absurd (show "list" = "tuple" from h) (by decide)
  | dict x => exact absurd (show "dict" = "tuple" from h) (by decide)
theorem no_poly {d : PyData} (h : tyD d ≠ "tuple") : polyD d = false := by
  cases d <;> first | rfl | exact absurd rfl h
def spPoly (tb : Addr) : Sp := fun vs H Q _ => ∃ (v : V) (N : Addr → Prop) (d : PyData), vs = [v] ∧ Dq N H v d ∧ GxR.TabG H tb ∧ ∀ H2, GxR.Tabbed tb H H2 → Q (.bl (polyD d)) H2
theorem ok_poly {CX : CXT} {p : Nat → Pos} (F : FunD K name qual params (pBody p) pS dvs kws f fd) (hc : fd.code = .ref c) (TB : GxR.TabB base mg c tb) (T : Nums K mg fF fW) : FnOk P w K mg base CX 2 f fd ["value"] (spPoly tb) := by
  refine okC (k := 1) F hc pSc (fun vs H Q E ⟨v, N, d, e, _⟩ => by rw [e]; rfl) fun A outer s H vs Q E hr hsp => ?_
  obtain ⟨v, N, d, rfl, q, tg, fin⟩ := hsp
  refine ⟨_, pss_cons (ps_if (PW.pt (pw_or (pt_cmpR op_isNotTy (pe_callTy call_tyD (by rfl) T.mt (by decide +kernel) (pa_cons (pv 0) pa_nil)) (pe_bltn (v := .ty "tuple") (u := .type "tuple") (by rfl) T.mu (by decide +kernel) rfl) (nomark _))
      (pw_or1 (pt_cmpR op_eq (pe_callB call_len_seq (by rfl) T.ml (by decide +kernel) (pa_cons (pv 0) pa_nil)) pe_int (nomark _))))) (pss_one (ps_ret pe_bl)) pss_nil)
    (pss_one (ps_ret (pe_and (pe_allT (k := 1) (x := "number") (T := FracAt) (Fs := fun H1 xs bs => ∃ N ds, DqAll N H1 xs ds ∧ bs = ds.map fracD) hr (by rfl) T.ma TB rfl ⟨rfl, rfl, by decide +kernel, rfl, rfl, fun y hy e => absurd e (by revert y; decide +kernel)⟩ (pv 0) (elt_frac T (by have := hr.dp; have e : (cxOf CX P w K mg base ["value"] qual pS f (.ref c) A outer s H E).A.depth = (A.deeper (envOfC qual pS s.heap.objs.size f (.ref c))).depth := rfl; omega)) ?tells (fun _ => rfl))
      (pe_one (pe_cmpR op_ne (pe_ix ix_tup (pe_ix ix_tup (pv 0) (pe_un un_neg pe_int) (fun _ _ => rfl)) pe_int (fun _ _ => rfl)) pe_int (nomark _)))))), ?_⟩
  case tells =>
    intro pins σ xs bs H1 s1 its h' fs I hP rv k i u b hu hb
    obtain ⟨N, ds, all, rfl⟩ := fs
    obtain ⟨ps, hP⟩ := hP
    rw [List.getElem?_map] at hb
    obtain ⟨d, hd, rfl⟩ := Option.map_eq_some_iff.mp hb
    obtain ⟨x, hx, q⟩ := dq_at all hd
    obtain ⟨u2, hu2, r⟩ := Vals.get rv hx
    rw [hu] at hu2
    cases hu2
    exact frac_of I (fun a b o e ne g => k a b (fun z => ne ps (by rw [z, hP] at e; exact (Option.some.inj e).symm)) g) q r
  refine ⟨v, rfl, v, N, d, rfl, q, _, _, rfl, rfl, _, rfl, ?_⟩
  by_cases e : tyD d = "tuple"
  case neg =>
    rw [decide_eq_false e]
    have z := fin H ⟨tg, fun _ _ => rfl⟩
    rw [no_poly e] at z
    exact z
  rw [decide_eq_true e]
  obtain ⟨ds, rfl⟩ := ty_tup e
  cases q with
  | tup n ea all =>
    rename_i a xs
    have hl := all.length
    obtain ⟨ps, hP, okP⟩ := tg
    have ntb : ∀ {b : Addr} {ys : List V}, H b = some (.tup ys) → b ≠ tb := fun g z => by
      rw [z, hP] at g
      cases g
    refine ⟨_, rfl, a, xs, rfl, .inr (.of ea), rfl, _, rfl, ?_⟩
    by_cases z : ds = []
    · subst z
      have l0 : xs.length = 0 := hl
      have y := fin H ⟨⟨ps, hP, okP⟩, fun _ _ => rfl⟩
      rw [l0]
      exact y
    have lz : xs.length ≠ 0 := fun y => z (List.length_eq_zero_iff.mp (hl ▸ y))
    have dz : decide (V.int (xs.length : Int) = V.int 0) = false := decide_eq_false fun y => lz (by injection y with y; omega)
    rw [dz]
    refine ⟨_, rfl, a, xs, ds.map fracD, rfl, .of ea, by rw [List.length_map, hl], ⟨ps, hP, okP⟩, ⟨N, ds, all, rfl⟩, fun H2 t2 => ⟨_, rfl, ?_⟩⟩
    have e1 : ds.isEmpty = false := by cases ds <;> first | exact absurd rfl z | rfl
    have y := fin H2 t2
    cases ha : (ds.map fracD).all id with
    | false =>
      have b : polyD (.tuple ds) = false := by
        rw [List.all_map] at ha
        show (!ds.isEmpty && (ds.all fracD && ds.getLast?.any topD)) = false
        rw [show ds.all fracD = false from ha, Bool.false_and, Bool.and_false]
      rw [b] at y
      exact y
    | true =>
      rw [List.all_map] at ha
      have ha2 : ds.all fracD = true := ha
      obtain ⟨di, dl, rfl⟩ : ∃ di dl, ds = di ++ [dl] := ⟨ds.dropLast, ds.getLast z, (List.dropLast_concat_getLast z).symm⟩
      obtain ⟨xl, hx, ql⟩ := dq_at (i := di.length) all (d := dl) (by simp)
      have fl : fracD dl = true := List.all_eq_true.mp ha2 dl (by simp)
      obtain ⟨i, j, rfl⟩ : ∃ i j, dl = .tuple [.int i, .int j] := by
        unfold fracD at fl
        split at fl
        · exact ⟨_, _, rfl⟩
        · cases fl
      cases ql with
      | tup n2 g all2 =>
        rename_i a2 xs2
        cases all2 with
        | cons u1 all2 =>
          cases all2 with
          | cons u2 all2 =>
            cases all2
            cases u1
            cases u2
            have b : polyD (.tuple (di ++ [.tuple [.int i, .int j]])) = (i != 0) := by
              show (!(di ++ [_]).isEmpty && ((di ++ [_]).all fracD && (di ++ [_]).getLast?.any topD)) = _
              rw [e1, ha2, List.getLast?_concat]
              rfl
            rw [b] at y
            have l2 : xs.length = di.length + 1 := by rw [hl]; simp
            have at1 : atI xs (-1) = some (.ref a2) := by
              have s : xs = xs.take di.length ++ [.ref a2] := by
                have dr : xs.drop di.length = [.ref a2] := by
                  apply List.ext_getElem?
                  intro k
                  rw [List.getElem?_drop]
                  cases k with
                  | zero => exact hx
                  | succ k => rw [List.getElem?_eq_none (by omega)]; rfl
                rw [← dr, List.take_append_drop]
              rw [s]
              exact atI_last _ _
            refine ⟨_, rfl, ?_⟩
            refine ⟨_, rfl, a, xs, _, _, rfl, rfl, .of ((t2.2 _ (ntb ea)).trans ea), at1, ?_⟩
            refine ⟨a2, _, _, _, rfl, rfl, .of ((t2.2 _ (ntb g)).trans g), atI_nat (j := 0) rfl, rfl, ?_⟩
            have d2 : (!decide (V.int i = V.int 0)) = (i != 0) := by rw [dec_int]; rfl
            rw [d2]
            exact y
end
end Gx
set_option Elab.async false
set_option linter.all false
set_option maxRecDepth 100000
set_option maxHeartbeats 4000000
/-! fractions as pairs (n, m), told by core's Rat; their sizes by powers of two -/
namespace RatFr
open PySem PySem.Spec
open PyProof.Rows
open L2
theorem div_num {u d : Int} (h : 0 < d) : (Rat.divInt u d).num = u / (Nat.gcd u.natAbs d.natAbs : Nat) ∧ ((Rat.divInt u d).den : Int) = d / (Nat.gcd u.natAbs d.natAbs : Nat) := by
  obtain ⟨m, rfl⟩ : ∃ m : Nat, d = (m : Int) := ⟨d.toNat, by omega⟩
  have hm : m ≠ 0 := by omega
  have e : Rat.divInt u (m : Int) = Rat.normalize u m hm := by
    rw [Rat.divInt_ofNat, Rat.normalize_eq_mkRat]
  rw [e, Rat.normalize_eq]
  refine ⟨rfl, ?_⟩
  show ((m / u.natAbs.gcd m : Nat) : Int) = (m : Int) / _
  rw [Int.natAbs_natCast, Int.natCast_ediv]
/-- the pair at an address -/
def fr (q : Rat) : HO := .tup [.int q.num, .int q.den]
def FrAt (H : Hp) (v : V) (q : Rat) : Prop := ∃ a, v = .ref a ∧ H a = some (fr q)
theorem FrAt.same {H H' : Hp} {v : V} {q : Rat} (h : FrAt H v q) (k : Same H H') : FrAt H' v q := let ⟨a, e, z⟩ := h; ⟨a, e, k _ _ z⟩
/-- both parts are below 2 ^ n -/
structure Sz (n : Nat) (q : Rat) : Prop where
  up : q.num.natAbs < 2 ^ n
  lo : q.den < 2 ^ n
theorem Sz.mono {n m : Nat} {q : Rat} (h : Sz n q) (l : n ≤ m) : Sz m q :=
  ⟨Nat.lt_of_lt_of_le h.up (Nat.pow_le_pow_right (by decide) l), Nat.lt_of_lt_of_le h.lo (Nat.pow_le_pow_right (by decide) l)⟩
theorem Sz.lo2 {n : Nat} {q : Rat} (h : Sz n q) : (q.den : Int).natAbs < 2 ^ n := by rw [Int.natAbs_natCast]; exact h.lo
theorem den_pos (q : Rat) : (0 : Int) < q.den := by have := q.den_nz; omega
/-- what a quotient of two numbers is at most -/
theorem Sz.div {u d : Int} {n : Nat} (h : 0 < d) (hu : u.natAbs < 2 ^ n) (hd : d.natAbs < 2 ^ n) : Sz n (Rat.divInt u d) := by
  obtain ⟨e1, e2⟩ := div_num (u := u) h
  refine ⟨?_, ?_⟩
  · rw [e1]
    exact Nat.lt_of_le_of_lt (Int.natAbs_ediv_le_natAbs _ _) hu
  · have e3 : (Rat.divInt u d).den = (d / (Nat.gcd u.natAbs d.natAbs : Nat)).natAbs := by rw [← e2, Int.natAbs_natCast]
    rw [e3]
    exact Nat.lt_of_le_of_lt (Int.natAbs_ediv_le_natAbs _ _) hd
theorem add_div (q r : Rat) : Rat.divInt (q.num * r.den + r.num * q.den) (q.den * r.den) = q + r := by
  have h1 : (q.den : Int) ≠ 0 := by have := q.den_nz; omega
  have h2 : (r.den : Int) ≠ 0 := by have := r.den_nz; omega
  rw [← Rat.divInt_add_divInt _ _ h1 h2, Rat.num_divInt_den, Rat.num_divInt_den]
theorem mul_div (q r : Rat) : Rat.divInt (q.num * r.num) (q.den * r.den) = q * r := by
  rw [← Rat.divInt_mul_divInt, Rat.num_divInt_den, Rat.num_divInt_den]
theorem abs_lt {i j : Int} {n : Nat} (h1 : i.natAbs < 2 ^ n) (h2 : j.natAbs < 2 ^ n) : (i + j).natAbs < 2 ^ (n + 1) := by
  rw [Nat.pow_succ]
  omega
theorem Sz.add {n m : Nat} {q r : Rat} (h : Sz n q) (g : Sz m r) : Sz (n + m + 1) (q + r) := by
  rw [← add_div]
  have a := wide_lt h.up g.lo2
  have b := wide_lt g.up h.lo2
  rw [Nat.add_comm m n] at b
  have c := wide_lt h.lo2 g.lo2
  refine Sz.div (Int.mul_pos (den_pos q) (den_pos r)) (abs_lt a b) (Nat.lt_of_lt_of_le c (Nat.pow_le_pow_right (by decide) (Nat.le_succ _)))
theorem Sz.mul {n m : Nat} {q r : Rat} (h : Sz n q) (g : Sz m r) : Sz (n + m) (q * r) := by
  rw [← mul_div]
  exact Sz.div (Int.mul_pos (den_pos q) (den_pos r)) (wide_lt h.up g.up) (wide_lt h.lo2 g.lo2)
theorem gcd_lt {u d : Int} {n : Nat} (h : 0 < d) (hd : d.natAbs < 2 ^ n) : ((Nat.gcd u.natAbs d.natAbs : Nat) : Int).natAbs < 2 ^ n ∧ (0 : Int) < (Nat.gcd u.natAbs d.natAbs : Nat) := by
  have p : 0 < Nat.gcd u.natAbs d.natAbs := Nat.gcd_pos_of_pos_right _ (by omega)
  refine ⟨?_, by omega⟩
  rw [Int.natAbs_natCast]
  exact Nat.lt_of_le_of_lt (Nat.gcd_le_right _ (by omega)) hd
end RatFr
namespace RatFr
open PySem PySem.Spec
open PyProof.Rows
open L2
/-- a polynomial: a tuple of pairs -/
def PolyAt (H : Hp) (v : V) (qs : List Rat) : Prop := ∃ (a : Addr) (xs : List V), v = .ref a ∧ H a = some (.tup xs) ∧ xs.length = qs.length ∧ ∀ (i : Nat) (q : Rat), qs[i]? = some q → ∃ b, xs[i]? = some (.ref b) ∧ H b = some (fr q)
theorem PolyAt.same {H H' : Hp} {v : V} {qs : List Rat} (h : PolyAt H v qs) (k : Same H H') : PolyAt H' v qs :=
  let ⟨a, xs, e, g, l, f⟩ := h
  ⟨a, xs, e, k _ _ g, l, fun i q hq => let ⟨b, x, y⟩ := f i q hq; ⟨b, x, k _ _ y⟩⟩
/-- the common denominator -/
def lc (qs : List Rat) : Nat := qs.foldl (fun a q => Nat.lcm a q.den) 1
theorem lc_snoc (qs : List Rat) (q : Rat) : lc (qs ++ [q]) = Nat.lcm (lc qs) q.den := by
  unfold lc
  rw [List.foldl_append]
  rfl
theorem lc_pos (qs : List Rat) : 0 < lc qs := by
  suffices h : ∀ (l : List Rat) (a : Nat), 0 < a → 0 < l.foldl (fun a q => Nat.lcm a q.den) a from h qs 1 (by decide)
  intro l
  induction l with
  | nil => intro a h; exact h
  | cons q l ih => intro a h; exact ih _ (Nat.lcm_pos h (Nat.pos_of_ne_zero q.den_nz))
theorem lc_le {n : Nat} : ∀ (l : List Rat) (a m : Nat), a ≤ 2 ^ m → (∀ q ∈ l, q.den ≤ 2 ^ n) → l.foldl (fun a q => Nat.lcm a q.den) a ≤ 2 ^ (m + n * l.length)
  | [], a, m, h, _ => h
  | q :: l, a, m, h, hq => by
    have h1 : Nat.lcm a q.den ≤ 2 ^ (m + n) := by
      have d : Nat.lcm a q.den ≤ a * q.den := Nat.div_le_self _ _
      have e : a * q.den ≤ 2 ^ m * 2 ^ n := Nat.mul_le_mul h (hq q List.mem_cons_self)
      rw [← Nat.pow_add] at e
      omega
    have h2 := lc_le l (Nat.lcm a q.den) (m + n) h1 fun r hr => hq r (List.mem_cons_of_mem _ hr)
    have h3 : m + n + n * l.length = m + n * (q :: l).length := by
      rw [List.length_cons, Nat.mul_succ]
      omega
    rw [h3] at h2
    exact h2
theorem lc_dvd {qs : List Rat} {q : Rat} (h : q ∈ qs) : q.den ∣ lc qs := by
  suffices k : ∀ (l : List Rat) (a : Nat), (∀ d, d ∣ a → d ∣ l.foldl (fun a q => Nat.lcm a q.den) a) ∧ (∀ r ∈ l, r.den ∣ l.foldl (fun a q => Nat.lcm a q.den) a) from (k qs 1).2 q h
  intro l
  induction l with
  | nil => intro a; exact ⟨fun d x => x, fun r hr => absurd hr (by simp)⟩
  | cons r l ih =>
    intro a
    refine ⟨fun d x => (ih _).1 d (Nat.dvd_trans x (Nat.dvd_lcm_left _ _)), fun t ht => ?_⟩
    rcases List.mem_cons.mp ht with z | z
    · rw [z]
      exact (ih _).1 _ (Nat.dvd_lcm_right _ _)
    · exact (ih _).2 t z
/-- the whole numbers of a polynomial times the common denominator -/
def nums (qs : List Rat) : List Int := qs.map fun q => q.num * ((lc qs : Int) / (q.den : Int))
/-- small polynomials: few numbers, small denominators -/
structure Few (qs : List Rat) : Prop where
  len : qs.length ≤ 7
  den : ∀ q ∈ qs, q.den ≤ 2 ^ 8
  num : ∀ q ∈ qs, q.num.natAbs < 2 ^ 100
theorem Few.lcs {qs : List Rat} (h : Few qs) (i : Nat) : lc (qs.take i) ≤ 2 ^ 56 := by
  have a := lc_le (n := 8) (qs.take i) 1 0 (by decide) fun q hq => h.den q (List.mem_of_mem_take hq)
  have b : 0 + 8 * (qs.take i).length ≤ 56 := by
    have := h.len
    rw [List.length_take]
    omega
  exact Nat.le_trans a (Nat.pow_le_pow_right (by decide) b)
end RatFr
set_option Elab.async false
set_option linter.all false
set_option maxRecDepth 100000
set_option maxHeartbeats 4000000
/-! rules over data of any kind, math.lcm, xs[i] op= e -/
namespace DataR
open PySem PySem.Spec
open PyProof.Rows
open L2 Gx
section
variable {X : Cx} {H : Hp} {N : Addr → Prop}
theorem tyOf_d {K : PySem.W.Frag} : ∀ {d : PyData} {v : V}, Dq N H v d → TyOf K H v (.type (tyD d))
  | .none, _, h => by cases h; exact .non
  | .bool b, _, h => by cases h; exact .bl b
  | .int i, _, h => by cases h; exact .int i
  | .str x, _, h => by cases h; exact .str x
  | .list ds, _, h => by
    cases h with
    | lst _ e _ _ => exact .lst e
  | .tuple ds, _, h => by
    cases h with
    | tup _ e _ => exact .tup e
  | .dict kvs, _, h => by
    cases h with
    | dk0 _ e => exact .dK e
    | dk1 _ e _ => exact .dK e
/-- isinstance(x, T), T one of int, bool, tuple -/
def isD (d : PyData) (T : String) : Bool := tyD d == T || (tyD d == "bool" && T == "int")
theorem ty_mem (d : PyData) : tyD d ∈ ["NoneType", "bool", "int", "str", "list", "tuple", "dict"] := by
  cases d <;> simp [tyD]
theorem kit_all : (["NoneType", "bool", "int", "str", "list", "tuple", "dict"].all fun k => ["int", "bool", "tuple"].all fun T => kitB k T == some (k == T || (k == "bool" && T == "int"))) = true := by decide +kernel
theorem call_isD : CallR X (.builtin "isinstance") (fun xs H Q => ∃ (x : V) (T : String) (N : Addr → Prop) (d : PyData), xs = [x, .ty T] ∧ (T = "int" ∨ T = "bool" ∨ T = "tuple") ∧ Dq N H x d ∧ Q (.bl (isD d T)) H) := by
  intro pins s σ H xs us Q I r h
  obtain ⟨x, T, N, d, rfl, hT, q, fin⟩ := h
  obtain ⟨u1, u2, rfl, r1, r2⟩ := vals2 r
  cases (show u2 = Value.type T from r2)
  have e : PySem.W.kitOne X.K (.type (tyD d)) (.type T) = some (isD d T) := by
    have m : T ∈ ["int", "bool", "tuple"] := by rcases hT with z | z | z <;> simp [z]
    exact kit_ty (beq_iff_eq.mp (List.all_eq_true.mp (List.all_eq_true.mp kit_all _ (ty_mem d)) _ m))
  exact isinst_ok I r1 (tyOf_d q) e fun tk => ⟨.bl _, H, I.tok _, rfl, fin⟩
/-- math.lcm of two numbers of one word -/
def rLcm : List V → Hp → VK → Prop := fun vs H Q => ∃ a b : Int, vs = [.int a, .int b] ∧ a.natAbs < 2 ^ 64 ∧ b.natAbs < 2 ^ 64 ∧ Q (.int ((Nat.lcm a.natAbs b.natAbs : Nat) : Int)) H
theorem cr_lcm : CallR X (.builtin "math.lcm") rLcm := by
  intro pins s σ H vs us Q I r h
  obtain ⟨a, b, rfl, ha, hb, q⟩ := h
  obtain ⟨t, u, rfl⟩ := Vals.int2 r
  exact PySem.W.mc_lcm ha hb fun _ => ⟨.int _, H, I.tok _, ⟨_, rfl⟩, q⟩
/-- x == [], x a list that is tracked, of any things -/
theorem op_eqNil (hu : X.A.units + 64 < cLine) : OpR X (compareOp .Eq) (fun x y H Q => ∃ a b xs, x = .ref a ∧ y = .ref b ∧ H a = some (.lst xs) ∧ H b = some (.lst []) ∧ Q (.bl xs.isEmpty) H) := by
  intro pins s σ H x y v u Q I rx ry h
  obtain ⟨a, b, xs, rfl, rfl, ha, hb, q⟩ := h
  cases xs with
  | nil => exact op_eqD hu pins s σ H _ _ v u Q I rx ry ⟨.list [], .list [], .lst (.of ha) .nil, .lst (.of hb) .nil, rfl, rfl, q⟩
  | cons z zs =>
    cases rx
    cases ry
    obtain ⟨its, r1, p1, _⟩ := I.list (.of ha)
    obtain ⟨its2, r2, p2, _⟩ := I.list (.of hb)
    have l1 := r1.length
    have l2 := r2.length
    have d : (its.toArray.size != its2.toArray.size) = true := by
      simp only [List.length_cons, List.length_nil] at l1 l2
      simp only [List.size_toArray, bne_iff_ne, ne_eq]
      omega
    exact (PySem.SeqAt.RcAt.lists_lengths p1.isList p2.isList d (by omega)) X.prog X.w _ _ ⟨.bl false, H, I, rfl, q⟩
/-- x != [], x a list that is tracked, of any things -/
theorem op_neNil (hu : X.A.units + 64 < cLine) : OpR X (compareOp .NotEq) (fun x y H Q => ∃ a b xs, x = .ref a ∧ y = .ref b ∧ H a = some (.lst xs) ∧ H b = some (.lst []) ∧ Q (.bl (!xs.isEmpty)) H) := by
  intro pins s σ H x y v u Q I rx ry h
  obtain ⟨a, b, xs, rfl, rfl, ha, hb, q⟩ := h
  cases xs with
  | nil => exact op_neD hu pins s σ H _ _ v u Q I rx ry ⟨.list [], .list [], .lst (.of ha) .nil, .lst (.of hb) .nil, rfl, rfl, q⟩
  | cons z zs =>
    cases rx
    cases ry
    obtain ⟨its, r1, p1, _⟩ := I.list (.of ha)
    obtain ⟨its2, r2, p2, _⟩ := I.list (.of hb)
    have l1 := r1.length
    have l2 := r2.length
    have d : (its.toArray.size != its2.toArray.size) = true := by
      simp only [List.length_cons, List.length_nil] at l1 l2
      simp only [List.size_toArray, bne_iff_ne, ne_eq]
      omega
    exact (PySem.SeqAt.RcNeAt.lists_lengths p1.isList p2.isList d (by omega)) X.prog X.w _ _ ⟨.bl true, H, I, rfl, q⟩
/-- xs[j] ahead of xs[j] op= e -/
def rGetL : V → V → Hp → VK → Prop := fun o i H Q => ∃ (p : Addr) (xs : List V) (j : Nat) (v : V), o = .ref p ∧ i = .int j ∧ H p = some (.lst xs) ∧ xs[j]? = some v ∧ Q v H
theorem get_list : PGet X rGetL := by
  intro pins s σ H o i ov iv Q I ro ri h
  obtain ⟨p, xs, j, v, rfl, rfl, hp, hj, q⟩ := h
  cases ro
  obtain ⟨t, rfl⟩ := ri
  obtain ⟨its, r, pl, hz⟩ := I.list (.of hp)
  obtain ⟨u, hu, ru⟩ := Vals.get r hj
  have l63 := line63
  have hlt := (List.getElem?_eq_some_iff.mp hj).1
  exact wpAny_getItem_list pl.isList (by omega) (by omega) (by simpa using hu) ⟨v, H, I, ru, q⟩
/-- of things that all are fractions the last one -/
theorem last_frac {ds : List PyData} {xs : List V} (all : DqAll N H xs ds) (z : ds ≠ []) (ha : ds.all fracD = true) :
    ∃ (a : Addr) (i j : Int), atI xs (-1) = some (.ref a) ∧ H a = some (.tup [.int i, .int j]) ∧ polyD (.tuple ds) = (i != 0) := by
  have hl := all.length
  have e1 : ds.isEmpty = false := by cases ds <;> first | exact absurd rfl z | rfl
  obtain ⟨di, dl, rfl⟩ : ∃ di dl, ds = di ++ [dl] := ⟨ds.dropLast, ds.getLast z, (List.dropLast_concat_getLast z).symm⟩
  obtain ⟨xl, hx, ql⟩ := dq_at (i := di.length) all (d := dl) (by simp)
  have fl : fracD dl = true := List.all_eq_true.mp ha dl (by simp)
  obtain ⟨i, j, rfl⟩ : ∃ i j, dl = .tuple [.int i, .int j] := by
    unfold fracD at fl
    split at fl
    · exact ⟨_, _, rfl⟩
    · cases fl
  cases ql with
  | tup n2 g all2 =>
    rename_i a2 xs2
    cases all2 with
    | cons u1 all2 =>
      cases all2 with
      | cons u2 all2 =>
        cases all2
        cases u1
        cases u2
        refine ⟨a2, i, j, ?_, g, ?_⟩
        · have l2 : xs.length = di.length + 1 := by rw [hl]; simp
          have s : xs = xs.take di.length ++ [.ref a2] := by
            have dr : xs.drop di.length = [.ref a2] := by
              apply List.ext_getElem?
              intro k
              rw [List.getElem?_drop]
              cases k with
              | zero => exact hx
              | succ k => rw [List.getElem?_eq_none (by omega)]; rfl
            rw [← dr, List.take_append_drop]
          rw [s]
          exact atI_last _ _
        · show (!(di ++ [_]).isEmpty && ((di ++ [_]).all fracD && (di ++ [_]).getLast?.any topD)) = _
          rw [e1, ha, List.getLast?_concat]
          rfl
end
end DataR
set_option Elab.async false
set_option linter.all false
set_option maxRecDepth 100000
set_option maxHeartbeats 4000000
namespace OpsR
open PySem PySem.Spec
open PyProof.Rows
open L2 Gx
/-- i *= j of great numbers -/
def rIMul : TIp := fun x y H Q => ∃ i j : Int, x = .int i ∧ y = .int j ∧ CMulW i j ∧ Q (.int (i * j)) H
theorem ip_mulW {X : Cx} : PIp X .Mult rIMul := by
  intro pins s σ H x y v u Q I r1 r2 h
  obtain ⟨i, j, rfl, rfl, c, q⟩ := h
  obtain ⟨t1, rfl⟩ := r1
  obtain ⟨t2, rfl⟩ := r2
  exact PySem.P.imul_int ⟨.int (i * j), H, I.tok _, ⟨_, rfl⟩, q⟩ c.ok
end OpsR
set_option Elab.async false
set_option linter.all false
set_option maxRecDepth 100000
set_option maxHeartbeats 4000000
/-! for x, y, z in zip(a, b, c), three lists -/
namespace Zip3
open PySem PySem.Spec
open PyProof.Rows
open L2
/-- the six cells of the zip and the three lists lie apart -/
structure Apart (z TI TO i1 i2 i3 a b c : Addr) : Prop where
  nd : [z, TI, TO, i1, i2, i3].Nodup
  off : ∀ l ∈ [a, b, c], l ∉ [z, TI, TO, i1, i2, i3]
theorem Apart.sep {z TI TO i1 i2 i3 a b c : Addr} (D : Apart z TI TO i1 i2 i3 a b c) : ZipSep3 z TI TO i1 i2 i3 [i1, a] [i2, b] [i3, c] := by
  have n := D.nd
  have oa := D.off a (by simp)
  have ob := D.off b (by simp)
  have oc := D.off c (by simp)
  simp only [List.nodup_cons, List.mem_cons, List.not_mem_nil, or_false, not_or] at n oa ob oc
  obtain ⟨⟨a1, a2, a3, a4, a5⟩, ⟨b1, b2, b3, b4⟩, ⟨c1, c2, c3⟩, ⟨d1, d2⟩, e1, _⟩ := n
  obtain ⟨p1, p2, p3, p4, p5, p6⟩ := oa
  obtain ⟨q1, q2, q3, q4, q5, q6⟩ := ob
  obtain ⟨r1, r2, r3, r4, r5, r6⟩ := oc
  exact ⟨Ne.symm a1, Ne.symm a2, b1, b2, by simp, by simp; exact ⟨a3, Ne.symm p1⟩, by simp; exact ⟨c1, Ne.symm p3⟩, b3, by simp, by simp; exact ⟨a4, Ne.symm q1⟩, by simp; exact ⟨c2, Ne.symm q3⟩, b4, by simp, by simp; exact ⟨a5, Ne.symm r1⟩, by simp; exact ⟨c3, Ne.symm r3⟩,
    by simp; exact ⟨d1, Ne.symm q4⟩, by simp; exact ⟨d2, Ne.symm r4⟩, by simp; exact ⟨Ne.symm d1, Ne.symm p5⟩, by simp; exact ⟨e1, Ne.symm r5⟩, by simp; exact ⟨Ne.symm d2, Ne.symm p6⟩, by simp; exact ⟨Ne.symm e1, Ne.symm q6⟩⟩
/-- the lists as they stand at each turn, the items in new triples -/
def It3 (K : PySem.W.Frag) (a b c : Addr) : It :=
  ⟨fun i H => ∃ (xs ys zs : List V) (x y z : V), SqL K H a xs ∧ SqL K H b ys ∧ SqL K H c zs ∧ xs[i]? = some x ∧ ys[i]? = some y ∧ zs[i]? = some z,
    fun i H v H' => ∃ T x y z, v = .ref T ∧ H T = none ∧ H' = upd H T (.tup [x, y, z]) ∧ (∀ xs, SqL K H a xs → xs[i]? = some x) ∧ (∀ ys, SqL K H b ys → ys[i]? = some y) ∧ ∀ zs, SqL K H c zs → zs[i]? = some z,
    fun i H => ∃ xs ys zs : List V, SqL K H a xs ∧ SqL K H b ys ∧ SqL K H c zs ∧ xs.length = i ∧ ys.length = i ∧ zs.length = i⟩
theorem turn3 {P : Program} {w : World} {K : PySem.W.Frag} {elts : List Expr} {kk : Nat} {tpos : Pos} {a b c z TI TO i1 i2 i3 : Addr} (D : Apart z TI TO i1 i2 i3 a b c) :
    Turn P w K (.Tuple elts kk tpos) (It3 K a b c) [z, TI, TO, i1, i2, i3] z (fun i h => IsZip h z TI TO .none ∧ IsTupOf3 h TI (.ref i1) (.ref i2) (.ref i3) ∧ (∃ x y u, IsTupOf3 h TO x y u) ∧ h.IsListIter i1 a i ∧ h.IsListIter i2 b i ∧ h.IsListIter i3 c i) where
  mem := by simp
  obj := fun i h st d hd => by
    obtain ⟨hz, hTI, ⟨x, y, u, hTO⟩, ⟨o1, e1, _, d1⟩, ⟨o2, e2, _, d2⟩, ⟨o3, e3, _, d3⟩⟩ := st
    simp only [List.mem_cons, List.not_mem_nil, or_false] at hd
    rcases hd with q | q | q | q | q | q <;> rw [q]
    · exact ⟨_, hz, fun v q => nomatch q⟩
    · exact ⟨_, hTI, fun v q => nomatch q⟩
    · exact ⟨_, hTO, fun v q => nomatch q⟩
    · exact ⟨o1, e1, fun v q => by rw [d1] at q; cases q⟩
    · exact ⟨o2, e2, fun v q => by rw [d2] at q; cases q⟩
    · exact ⟨o3, e3, fun v q => by rw [d3] at q; cases q⟩
  keep := fun i h h' st k => by
    obtain ⟨hz, hTI, ⟨x, y, u, hTO⟩, h1, h2, h3⟩ := st
    exact ⟨k z (by simp) _ hz, k TI (by simp) _ hTI, ⟨x, y, u, k TO (by simp) _ hTO⟩, h1.at fun o q => k i1 (by simp) o q, h2.at fun o q => k i2 (by simp) o q, h3.at fun o q => k i3 (by simp) o q⟩
  item := by
    intro X hP hw hK hc i pins s σ H E I hf st hg
    subst hP hw hK
    obtain ⟨hz, hTI, ⟨x0, y0, u0, hTO⟩, h1, h2, h3⟩ := st
    obtain ⟨xs, ys, zs, x, y, u, qx, qy, qz, hx, hy, hu⟩ := hg
    obtain ⟨is1, r1, p1, _⟩ := I.list qx
    obtain ⟨is2, r2, p2, _⟩ := I.list qy
    obtain ⟨is3, r3, p3, _⟩ := I.list qz
    obtain ⟨v1, g1, t1⟩ := r1.get hx
    obtain ⟨v2, g2, t2⟩ := r2.get hy
    obtain ⟨v3, g3, t3⟩ := r3.get hu
    have zl : z < s.heap.objs.size := Heap.lt_size hz
    have hh : X.A.handled = none := I.ok.hd hc
    have na : a ≠ i1 := fun e => D.off a (by simp) (by rw [e]; simp)
    have nb : b ≠ i2 := fun e => D.off b (by simp) (by rw [e]; simp)
    have nc : c ≠ i3 := fun e => D.off c (by simp) (by rw [e]; simp)
    refine wpAny_pyNext_zipD3_item (i := i) D.sep (Draws.list (A := X.A.in1) hh i1 a na is1.toArray) (Draws.list (A := X.A.in1) hh i2 b nb is2.toArray) (Draws.list (A := X.A.in1) hh i3 c nc is3.toArray) hz hTI hTO ⟨h1, p1.isList⟩ ⟨h2, p2.isList⟩ ⟨h3, p3.isList⟩
      (List.getElem?_eq_some_iff.mp g1).1 (List.getElem?_eq_some_iff.mp g2).1 (List.getElem?_eq_some_iff.mp g3).1 fun w1 w2 w3 h' tk e1 e2 e3 z' TO' j1 j2 j3 hT hsz hk => ?_
    have f1 : w1 = v1 := by
      have q : is1[i]? = some w1 := by rw [← List.getElem?_toArray]; exact e1
      rw [g1] at q
      exact (Option.some.inj q).symm
    have f2 : w2 = v2 := by
      have q : is2[i]? = some w2 := by rw [← List.getElem?_toArray]; exact e2
      rw [g2] at q
      exact (Option.some.inj q).symm
    have f3 : w3 = v3 := by
      have q : is3[i]? = some w3 := by rw [← List.getElem?_toArray]; exact e3
      rw [g3] at q
      exact (Option.some.inj q).symm
    subst f1 f2 f3
    refine ⟨_, rfl, wpAny_letOwnedTupleGo_zip (s := { s with heap := h', toks := tk }) z' fun h'' z'' sb => ?_⟩
    have hT2 : h''.get? s.heap.objs.size = some { cls := .type "tuple", data := .seq #[w1, w2, w3] } := (sb.2 _ (Nat.ne_of_gt zl)).trans hT
    have new : ObjOk X.prog X.w (upd H s.heap.objs.size (.tup [x, y, u])) h'' s.heap.objs.size (.tup [x, y, u]) :=
      ⟨by show 3 ≤ sizeLine; decide, [w1, w2, w3], .cons t1 (.cons t2 (.cons t3 .nil)), ⟨_, hT2, rfl, _, rfl⟩⟩
    have J : Inv X pins σ (upd H s.heap.objs.size (.tup [x, y, u])) { s with heap := h'', toks := tk } :=
      I.turnedNew (t' := tk) (ch := [z, TI, TO, i1, i2, i3]) (fun d o hd q => (sb.2 d (fun q' => hd (by simp [q']))).trans (hk d o (fun q' => hd (by simp [q'])) (fun q' => hd (by simp [q'])) (fun q' => hd (by simp [q'])) (fun q' => hd (by simp [q'])) (fun q' => hd (by simp [q'])) q)) hf (Nat.le_refl _) new
    have nd := D.sep
    refine ⟨.ref s.heap.objs.size, _, J, rfl, ⟨_, x, y, u, rfl, I.hok.fresh (Nat.le_refl _), rfl, fun l hl => by rw [I.list_inj hl qx]; exact hx, fun l hl => by rw [I.list_inj hl qy]; exact hy, fun l hl => by rw [I.list_inj hl qz]; exact hu⟩,
      ⟨z'', ?_, ⟨w1, w2, w3, (sb.2 _ nd.TOz).trans TO'⟩, ?_, ?_, ?_⟩, fun d hd => ?_⟩
    · exact (sb.2 _ nd.TIz).trans (hk _ _ nd.TIz nd.TITO nd.TIi1 nd.TIi2 nd.TIi3 hTI)
    · exact j1.1.at fun o q => (sb.2 _ (Ne.symm nd.zi1)).trans q
    · exact j2.1.at fun o q => (sb.2 _ (Ne.symm nd.zi2)).trans q
    · exact j3.1.at fun o q => (sb.2 _ (Ne.symm nd.zi3)).trans q
    · have lt : d < s.heap.objs.size := by
        simp only [List.mem_cons, List.not_mem_nil, or_false] at hd
        rcases hd with q | q | q | q | q | q <;> rw [q]
        · exact zl
        · exact Heap.lt_size hTI
        · exact Heap.lt_size hTO
        · obtain ⟨_, e, _⟩ := h1; exact Heap.lt_size e
        · obtain ⟨_, e, _⟩ := h2; exact Heap.lt_size e
        · obtain ⟨_, e, _⟩ := h3; exact Heap.lt_size e
      rw [upd_ne (Nat.ne_of_lt lt)]
      exact (hf d hd).1
  done := by
    intro X hP hw hK hc i pins s σ H E I hf st hg
    subst hP hw hK
    obtain ⟨hz, hTI, ⟨x0, y0, u0, hTO⟩, h1, h2, h3⟩ := st
    obtain ⟨xs, ys, zs, qx, qy, qz, lx, ly, lz⟩ := hg
    obtain ⟨is1, r1, p1, _⟩ := I.list qx
    obtain ⟨is2, r2, p2, _⟩ := I.list qy
    obtain ⟨is3, r3, p3, _⟩ := I.list qz
    have l1 := r1.length
    have l2 := r2.length
    have l3 := r3.length
    have hh : X.A.handled = none := I.ok.hd hc
    have na : a ≠ i1 := fun e => D.off a (by simp) (by rw [e]; simp)
    have nb : b ≠ i2 := fun e => D.off b (by simp) (by rw [e]; simp)
    have nc : c ≠ i3 := fun e => D.off c (by simp) (by rw [e]; simp)
    refine wpAny_pyNext_zipD3_end (i := i) D.sep (Draws.list (A := X.A.in1) hh i1 a na is1.toArray) (Draws.list (A := X.A.in1) hh i2 b nb is2.toArray) (Draws.list (A := X.A.in1) hh i3 c nc is3.toArray) hz hTI hTO ⟨h1, p1.isList⟩ ⟨h2, p2.isList⟩ ⟨h3, p3.isList⟩
      (by simp only [List.size_toArray]; omega) (by simp only [List.size_toArray]; omega) (by simp only [List.size_toArray]; omega) (.inl (by simp only [List.size_toArray]; omega)) fun h' tk hk => ⟨rfl, ?_⟩
    exact I.turnedL (t' := tk) (ch := [z, TI, TO, i1, i2, i3]) (fun d o hd q => hk d o (fun q' => hd (by simp [q'])) (fun q' => hd (by simp [q'])) (fun q' => hd (by simp [q'])) (fun q' => hd (by simp [q'])) (fun q' => hd (by simp [q'])) q) hf
  self := fun A i s Q E st h => wpAny_pyIter_zip st.1 h
theorem le_new (n d : Nat) (h : d ∈ [n + 5, n + 3, n + 4, n, n + 1, n + 2]) : n ≤ d := by
  simp only [List.mem_cons, List.not_mem_nil, or_false] at h
  omega
theorem apart_new (n a b c : Nat) (ha : a < n) (hb : b < n) (hc : c < n) : Apart (n + 5) (n + 3) (n + 4) n (n + 1) (n + 2) a b c := by
  have m : ∀ l : Nat, l < n → l ∉ [n + 5, n + 3, n + 4, n, n + 1, n + 2] := fun l hl z => Nat.lt_irrefl _ (Nat.lt_of_lt_of_le hl (le_new n l z))
  refine ⟨?_, fun l hl => ?_⟩
  · have e : [n + 5, n + 3, n + 4, n, n + 1, n + 2] = [5, 3, 4, 0, 1, 2].map (n + ·) := rfl
    rw [show ([n + 5, n + 3, n + 4, n, n + 1, n + 2] : List Addr) = [5, 3, 4, 0, 1, 2].map (n + ·) from rfl]
    exact List.Pairwise.map _ (fun x y h z => h (Nat.add_left_cancel z)) (show ([5, 3, 4, 0, 1, 2] : List Nat).Nodup by decide)
  · rcases List.mem_cons.mp hl with z | hl
    · rw [z]
      exact m a ha
    · rcases List.mem_cons.mp hl with z | hl
      · rw [z]
        exact m b hb
      · rw [List.mem_singleton.mp hl]
        exact m c hc
def iZip3 (K : PySem.W.Frag) (ta : TA) : TI := fun σ H R => ta σ H fun vs H1 => ∃ a b c xs ys zs, vs = [.ref a, .ref b, .ref c] ∧ SqL K H1 a xs ∧ SqL K H1 b ys ∧ SqL K H1 c zs ∧ R (It3 K a b c) H1
theorem pi_zip3 {X : Cx} {e e2 e3 : Expr} {ta : TA} {p pos tpos : Pos} {elts : List Expr} {kk : Nat} (hg : Gl X "zip") (hm : X.mg "zip" = none) (ha : PA X [e, e2, e3] ta)
    (hs : starEach [e, e2, e3] X.env = (false, eval e X.env) :: starEach [e2, e3] X.env := by rfl) (hpl : (backTo pos (starEach [e2, e3] X.env)).any (·.1) = false := by rfl) :
    PI X (.Tuple elts kk tpos) (.Call (.Name "zip" p) [e, e2, e3] [] pos) (iZip3 X.K ta) := by
  refine ⟨fun pins s σ H R I h => ?_⟩
  refine wpAny_Call_Name_kw (ld_blt (u := .type "zip") I hg hm (by decide +kernel) ?_)
  refine PyProof.Rows.callWith_type1 (thn (ha.run pos pins s σ H _ I h) fun us s1 ⟨vs, H1, I1, r1, q1⟩ => ?_) hs hpl
  obtain ⟨a, b, c, xs, ys, zs, rfl, qx, qy, qz, q⟩ := q1
  cases r1 with
  | cons ra rr =>
    cases rr with
    | cons rb rr =>
      cases rr with
      | cons rc rr =>
        cases rr
        cases ra
        cases rb
        cases rc
        obtain ⟨is1, r1, p1, _⟩ := I1.list qx
        obtain ⟨is2, r2, p2, _⟩ := I1.list qy
        obtain ⟨is3, r3, p3, _⟩ := I1.list qz
        refine zip_begins3 (begins_list a is1.toArray) (begins_list b is2.toArray) (begins_list c is3.toArray) p1.isList p2.isList p3.isList fun h' hz hTI hTO h1 h2 h3 hsz hk => wpAny_pyIter_zip hz ?_
        have I2 : Inv X pins σ H1 { s1 with heap := h' } := I1.kept (t' := s1.toks) hk
        refine ⟨s1.heap.objs.size + 5, [s1.heap.objs.size + 5, s1.heap.objs.size + 3, s1.heap.objs.size + 4, s1.heap.objs.size, s1.heap.objs.size + 1, s1.heap.objs.size + 2], _, _, H1, rfl, I2, turn3 (apart_new _ _ _ _ p1.lt p2.lt p3.lt), ⟨hz, hTI, ⟨_, _, _, hTO⟩, ⟨_, h1, rfl, rfl⟩, ⟨_, h2, rfl, rfl⟩, ⟨_, h3, rfl, rfl⟩⟩, fun d hd => ?_, q⟩
        have le : s1.heap.objs.size ≤ d := le_new _ _ hd
        exact I1.fpOk le (I1.hok.fresh le)
/-- a comprehension over such a zip -/
theorem lc_zip3 {K : PySem.W.Frag} {a b c : Addr} {xs ys zs : List V} {n : Nat} {g : TG} {tt : TT} {te : TE} {vs : List Nat} {σ : L2.St} {H1 : Hp} {D : Addr} {Qd : Hp → Prop} (l1 : xs.length = n) (l2 : ys.length = n) (l3 : zs.length = n) (Pv : Nat → Hp → Prop) (h0 : Pv 0 (upd H1 D (.lst [])))
    (hl : ∀ i H, i ≤ n → Pv i H → SqL K H a xs ∧ SqL K H b ys ∧ SqL K H c zs)
    (hs : ∀ i x y z T H, xs[i]? = some x → ys[i]? = some y → zs[i]? = some z → Pv i H → H T = none → g (.ref T) (wipe σ vs) (upd H T (.tup [x, y, z])) fun σ2 H2 => wipe σ2 vs = wipe σ vs ∧ tt σ2 H2 fun b H3 =>
      if b = true then te σ2 H3 fun y H4 => ∃ acc, H4 D = some (.lst acc) ∧ acc.length < sizeLine ∧ Pv (i + 1) (upd H4 D (.lst (acc ++ [y]))) else Pv (i + 1) H3) (hd : ∀ H, Pv n H → Qd H) :
    ∃ W : Nat → Nat → Hp → Prop, (∃ m, W 0 m (upd H1 D (.lst []))) ∧ ∀ i m H, W i m H →
      (((It3 K a b c).stop i H ∧ Qd H) ∨ ((It3 K a b c).go i H ∧ ∃ Nx : Hp → Prop, (∀ H', Nx H' → ∃ m', m' < m ∧ W (i + 1) m' H') ∧ ∀ x H', (It3 K a b c).yld i H x H' → g x (wipe σ vs) H' fun σ2 H2 => wipe σ2 vs = wipe σ vs ∧ tt σ2 H2 fun b H3 =>
        if b = true then te σ2 H3 fun y H4 => ∃ acc, H4 D = some (.lst acc) ∧ acc.length < sizeLine ∧ Nx (upd H4 D (.lst (acc ++ [y]))) else Nx H3)) := by
  refine ⟨fun i m H => m = n - i ∧ i ≤ n ∧ Pv i H, ⟨n, by simp, Nat.zero_le _, h0⟩, ?_⟩
  rintro i m H ⟨rfl, hi, p⟩
  obtain ⟨q1, q2, q3⟩ := hl i H hi p
  by_cases lt : i < n
  · have g1 : xs[i]? = some (xs[i]'(by omega)) := List.getElem?_eq_getElem (by omega)
    have g2 : ys[i]? = some (ys[i]'(by omega)) := List.getElem?_eq_getElem (by omega)
    have g3 : zs[i]? = some (zs[i]'(by omega)) := List.getElem?_eq_getElem (by omega)
    refine .inr ⟨⟨xs, ys, zs, _, _, _, q1, q2, q3, g1, g2, g3⟩, Pv (i + 1), fun H' p' => ⟨n - (i + 1), by omega, rfl, lt, p'⟩, fun v H' y => ?_⟩
    obtain ⟨T, x, y, z, rfl, hT, rfl, f1, f2, f3⟩ := y
    exact hs i x y z T H (f1 xs q1) (f2 ys q2) (f3 zs q3) p hT
  · have e : i = n := by omega
    subst e
    exact .inl ⟨⟨xs, ys, zs, q1, q2, q3, l1, l2, l3⟩, hd H p⟩
end Zip3
set_option Elab.async false
set_option linter.all false
set_option maxRecDepth 100000
set_option maxHeartbeats 4000000
set_option exponentiation.threshold 20000
namespace L2
open PySem PySem.Spec PyProof.Rows
/-! ### f(x = a, y = b): keywords alone -/
structure KwB (fd : FuncData) (ps ks : List Str) (g : List Value → List Value) (gV : List V → List V) : Prop where
  to : ∀ (s : Shared) (ws : List Value), (g ws).length = ps.length → BindsTo s fd ⟨[], ks.zip ws⟩ (ps.zip (g ws))
  rel : ∀ {zs : List V} {ws : List Value}, Vals zs ws → Vals (gV zs) (g ws)
def tKw (sp : Sp) (gV : List V → List V) (E : XK) (tk : TA) : TE := fun σ H Q => tk σ H fun zs H1 => sp (gV zs) H1 Q E
section
variable {X : Cx} {CX : CXT} {k : Nat} {f : Addr} {fd : FuncData} {ps ks : List Str} {sp : Sp} {E : XK} {x : Str} {p pos : Pos} {kws : List Keyword} {tk : TA} {g : List Value → List Value} {gV : List V → List V}
theorem pe_kw (F : FnOk X.prog X.w X.K X.mg X.base CX k f fd ps sp) (hr : Room k X.A) (hg : Gl X x) (hm : X.mg x = some (.ref f)) (hk : PySem.W.keepIn X.K (.ref f) = true) (hb : KwB fd ps ks g gV) (hx : Passes CX X E)
    (ha : PK X kws tk) (hdb : (x == ("__debug__" : Str)) = false := by decide) (hall : (backToKw pos (keywordEach kws X.env)).all (·.1.isSome) = true := by rfl) (hks : (backToKw pos (keywordEach kws X.env)).filterMap (·.1) = ks := by rfl)
    (hpl : ((backTo pos (starEach [] X.env)).any (·.1) || (backToKw pos (keywordEach kws X.env)).any (·.1.isNone)) = false := by rfl) :
    PE X (.Call (.Name x p) [] kws pos) (tKw sp gV E tk) := by
  refine ⟨fun pins s σ H Q I h => wpAny_Call_Name_kw (ld_glob I hg hm ?_ hdb)⟩
  refine PySem.W.callWith_KW0 (h₀ := X.base) I.ok.mod.kin hk hall (thn (ha.run pos pins s σ H _ I h) fun ws s1 ⟨zs, H1, I1, rz, q⟩ => ⟨I1.kIn, ?_⟩) hpl
  rw [hks]
  have r2 := hb.rel rz
  have hl : (g ws).length = ps.length := by rw [← r2.length]; exact F.len _ _ _ _ q
  refine wpAny_call (codeAny_mono (F.run X.A X.stack s1 H1 ⟨[], ks.zip ws⟩ (g ws) (gV zs) Q E hr I1.env0 (hb.to s1 ws hl) r2 q) fun r s' hq => ?_)
  cases r with
  | error e => exact hx pins σ H1 s1 e s' I1 hq
  | ok fl =>
    cases fl with
    | ret u => exact I1.after hq
    | next => exact False.elim hq
    | brk => exact False.elim hq
    | cont => exact False.elim hq
end
theorem FunD.kw {K : PySem.W.Frag} {x qual : Str} {params : Arguments} {body : List Stmt} {scope : Scope} {f : Addr} {fd : FuncData} {ps ks : List Str} {kws : List (Str × V)} {g : List Value → List Value} {gV : List V → List V} (F : FunD K x qual params body scope [] kws f fd)
    (h : ∀ (kV doc pm : Value) (an : Option Addr) (cdv ct : Value) (ws : List Value), (g ws).length = ps.length → bindArgs (PySem.W.fnOf x qual params body scope .none kV doc pm an cdv ct) ⟨[], ks.zip ws⟩ = pure (ps.zip (g ws)))
    (hr : ∀ {zs : List V} {ws : List Value}, Vals zs ws → Vals (gV zs) (g ws)) : KwB fd ps ks g gV := by
  obtain ⟨oc, od, dV, kV, doc, pm, an, cdv, ct, osl, rfl, lk, hcd, hD, hK⟩ := F.ex
  rcases hD with ⟨_, rfl⟩ | ⟨e, _⟩
  · exact ⟨fun s ws hl => .of_eq (h kV doc pm an cdv ct ws hl), hr⟩
  · exact absurd rfl e
theorem vals_rev {zs : List V} {ws : List Value} (h : Vals zs ws) : Vals zs.reverse ws.reverse := by
  suffices k : ∀ (zs : List V) (ws : List Value) (ys : List V) (us : List Value), Vals zs ws → Vals ys us → Vals (zs.reverseAux ys) (ws.reverseAux us) from k _ _ _ _ h .nil
  intro zs
  induction zs with
  | nil =>
    intro ws ys us h g
    cases h
    exact g
  | cons z zs ih =>
    intro ws ys us h g
    cases h with
    | @cons _ _ _ us' a b => exact ih us' (z :: ys) _ b (.cons a g)
/-! ### repr of data without dicts -/
def rReprP (K : PySem.W.Frag) : List V → Hp → VK → Prop := fun xs H Q => ∃ v d, xs = [v] ∧ Dp K H v d ∧ d.showable = true ∧ d.hasDict = false ∧ d.depth ≤ 20 ∧ d.shown.length ≤ sizeLine ∧ Q (.str d.shown) H
theorem call_reprP {X : Cx} (hg : X.A.guards = some []) (hu : X.A.units + 64 < cLine) : CallR X (.builtin "repr") (rReprP X.K) := by
  intro pins s σ H xs us Q I r h
  obtain ⟨v, d, rfl, hd, hs, hD, hz, hl, q⟩ := h
  cases r with
  | cons rv rr =>
    cases rr
    cases v with
    | non =>
      cases rv
      cases hd
      exact PySem.P.repr_of_none ⟨.str _, H, I.tok _, ⟨_, rfl⟩, q⟩
    | bl b =>
      cases rv
      cases hd
      exact PySem.P.repr_of_bool ⟨.str _, H, I.tok _, ⟨_, rfl⟩, q⟩
    | int i =>
      obtain ⟨t, rfl⟩ := rv
      cases hd
      refine PySem.P.repr_of_int (by simpa [PyData.showable] using hs) ⟨.str _, H, I.tok _, ⟨_, rfl⟩, q⟩
    | str x =>
      obtain ⟨t, rfl⟩ := rv
      cases hd
      exact PySem.P.repr_of_str ⟨.str _, H, I.tok _, ⟨_, rfl⟩, q⟩ hl
    | byt b => cases hd
    | flt b => cases hd
    | ty n => cases hd
    | ref a =>
      cases rv
      obtain ⟨as, hr⟩ := Dp.reads I d _ _ hd rfl
      exact repr_of_reads' hr hs (fun z => by rw [hD] at z; cases z) hg (by omega) (fun _ _ e => e) (fun h' u tk k => ⟨.str _, H, I.kept k, ⟨_, rfl⟩, q⟩) hl
/-! ### how long such a text is -/
structure Sh (n k : Nat) (d : PyData) : Prop where
  ok : d.showable = true
  nd : d.hasDict = false
  dp : d.depth ≤ k
  ln : d.shown.length ≤ n
theorem shownAll_map : ∀ ds : List PyData, PyData.shownAll ds = ds.map PyData.shown
  | [] => rfl
  | d :: ds => by
    show PyData.shown d :: PyData.shownAll ds = _
    rw [shownAll_map ds]
    rfl
theorem showableAll_of {n k : Nat} : ∀ {ds : List PyData}, (∀ d ∈ ds, Sh n k d) → PyData.showableAll ds = true
  | [], _ => rfl
  | d :: ds, h => by
    show (PyData.showable d && PyData.showableAll ds) = true
    rw [(h d List.mem_cons_self).ok, showableAll_of fun e he => h e (List.mem_cons_of_mem _ he)]
    rfl
theorem hasDictAll_of {n k : Nat} : ∀ {ds : List PyData}, (∀ d ∈ ds, Sh n k d) → PyData.hasDictAll ds = false
  | [], _ => rfl
  | d :: ds, h => by
    show (PyData.hasDict d || PyData.hasDictAll ds) = false
    rw [(h d List.mem_cons_self).nd, hasDictAll_of fun e he => h e (List.mem_cons_of_mem _ he)]
    rfl
theorem piled_of {n k : Nat} : ∀ {ds : List PyData}, (∀ d ∈ ds, Sh n k d) → piled (ds.map PyData.shown) ≤ ds.length * (n + 2)
  | [], _ => by show 0 ≤ _; omega
  | d :: ds, h => by
    rw [List.map_cons, piled_cons, List.length_cons, Nat.succ_mul]
    have a := (h d List.mem_cons_self).ln
    have b := piled_of (ds := ds) fun e he => h e (List.mem_cons_of_mem _ he)
    omega
theorem listText_len : ∀ ts : List Str, (listText ts).length ≤ piled ts + 2
  | [] => by decide
  | t :: r => by
    have h := textFrom_length_pos r 1 (("[" : Str) ++ (if (0 : Nat) > 0 then ", " else "" : String) ++ t) (Nat.succ_pos 0)
    have e : ((("[" : Str) ++ (if (0 : Nat) > 0 then ", " else "" : String) ++ t)).length = 1 + t.length := by
      rw [strLen_append, strLen_append]; rfl
    have hX : (listText (t :: r)).length = (textFrom 1 (("[" : Str) ++ (if (0 : Nat) > 0 then ", " else "" : String) ++ t) r).length + 1 := by
      show (textFrom 1 _ r ++ "]").length = _
      rw [strLen_append]; rfl
    rw [hX, h, e, piled_cons]
    omega
theorem tupleText_len (ts : List Str) : (tupleText ts).length ≤ piled ts + 3 := by
  unfold tupleText
  rw [strLen_append, strLen_append]
  have e1 : ((("(" : String) : Str)).length = 1 := rfl
  have e3 : (((if ts.length == 1 then ",)" else ")" : String) : Str)).length ≤ 2 := by split <;> decide
  rw [e1]
  by_cases h : ts = []
  · subst h
    have : (Str.join ", " []).length = 0 := rfl
    omega
  · have := join_length_add ts h
    omega
theorem sh_bool (b : Bool) {k : Nat} : Sh 5 k (.bool b) := ⟨rfl, rfl, by show 0 ≤ k; omega, by cases b <;> decide⟩
theorem sh_int2 {i : Int} (h : i.natAbs < 2 ^ 1900) {k : Nat} : Sh 1921 k (.int i) := by
  have l : i.natAbs.log2 < 1920 := by
    by_cases z : i.natAbs = 0
    · rw [z]
      decide
    · exact (Nat.log2_lt z).mpr (Nat.lt_of_lt_of_le h (Nat.pow_le_pow_right (by decide) (by decide)))
  exact ⟨decide_eq_true l, rfl, by show 0 ≤ k; omega, int_text_len_1921 l⟩
end L2
namespace L2
open PySem PySem.Spec PyProof.Rows
theorem depthAll_of {n k : Nat} : ∀ {ds : List PyData}, (∀ d ∈ ds, Sh n k d) → PyData.depthAll ds ≤ k
  | [], _ => by show 0 ≤ k; omega
  | d :: ds, h => by
    show max (PyData.depth d) (PyData.depthAll ds) ≤ k
    have a := (h d List.mem_cons_self).dp
    have b := depthAll_of (ds := ds) fun e he => h e (List.mem_cons_of_mem _ he)
    omega
theorem sh_tuple {n k m : Nat} {ds : List PyData} (h : ∀ d ∈ ds, Sh n k d) (l : ds.length ≤ m) : Sh (m * (n + 2) + 3) (k + 1) (.tuple ds) := by
  refine ⟨showableAll_of h, hasDictAll_of h, Nat.succ_le_succ (depthAll_of h), ?_⟩
  show (tupleText (PyData.shownAll ds)).length ≤ _
  rw [shownAll_map]
  have a := tupleText_len (ds.map PyData.shown)
  have b := piled_of h
  have c := Nat.mul_le_mul_right (n + 2) l
  omega
theorem sh_list {n k m : Nat} {ds : List PyData} (h : ∀ d ∈ ds, Sh n k d) (l : ds.length ≤ m) : Sh (m * (n + 2) + 3) (k + 1) (.list ds) := by
  refine ⟨showableAll_of h, hasDictAll_of h, Nat.succ_le_succ (depthAll_of h), ?_⟩
  show (listText (PyData.shownAll ds)).length ≤ _
  rw [shownAll_map]
  have a := listText_len (ds.map PyData.shown)
  have b := piled_of h
  have c := Nat.mul_le_mul_right (n + 2) l
  omega
end L2
set_option Elab.async false
set_option linter.all false
set_option maxRecDepth 100000
set_option maxHeartbeats 4000000
namespace Gx
open PySem PySem.Spec
open PyProof.Rows
open L2
/-! ### the end of a law whose own def runs with nothing guarding, one code object's table at hand -/
section
variable {P : Program} {w : World} {K : PySem.W.Frag} {mg mb : Str → Option Value} {f a c tb : Addr} {fd : FuncData} {x : Str} {sp : Sp} {s : Shared} {vs : List Value} {ns : List Int}
abbrev empty : Obj := { cls := .none, data := .fields #[] }
abbrev given (vs : List Value) : Obj := { cls := .type "list", data := .seq vs.toArray }
/-- what is tracked at the start: the table; the script, if K has it not -/
structure Begins (K : PySem.W.Frag) (a tb : Addr) (H : Hp) : Prop where
  tab : H tb = some (.tbl #[])
  rest : ∀ b u, H b = some u → b = tb ∨ (b = a ∧ K.lookup a = none ∧ ∃ o xs, u = .frz o (.lst xs))
theorem law_core {H : Hp} (B : Begins K a tb H) (KX : K.In s.heap) (hns : s.heap.Ns mainGlobals mg) (hb : s.heap.Ns builtinsNs mb) (hbb : ∀ x : Str, x ≠ "__name__" → mb x = bootBuiltins x) (hlim : s.heap.NoLimit) (hg : s.gens = #[])
    (tE : s.heap.get? tb = some empty) (tN : K.lookup tb = none) (cd : PySem.W.CodeHd s.heap c tb)
    (bm : ∃ (m : Addr) (o : Obj), mg "__builtins__" = some (.ref m) ∧ m ≠ builtinsNs ∧ s.heap.get? m = some o ∧ o.cls = .type "module" ∧ o.dict = some builtinsNs ∧ o.data = .plain)
    (ha : s.heap.get? a = some (given vs)) (F : ∀ base : Heap, K.In base → base.Ns mainGlobals mg → GxR.TabB base mg c tb → LawOk P w K mg base f fd x sp) (bind : ∀ (s : Shared) (u : Value), BindsTo s fd ⟨[u], []⟩ [(x, u)])
    (said : sp [.ref a] H (fun v _ => v = .bl true) E0) (hok : HOk P w H s.heap) :
    codeAny (model P w) callerA (.call (.ref f) ⟨[.ref a], []⟩) (fun r s' => r = .ok (.ret (.bool true)) ∧ OldK s.heap s'.heap ∧ s'.os = s.os ∧ AllBare s'.gens) s := by
  -- all but the table and the script stands in the base, too
  have stays : ∀ {b : Addr} {o : Obj}, s.heap.get? b = some o → o ≠ empty → o ≠ given vs → (hidT s.heap H).get? b = some o := fun {b o} e n1 n2 => by
    refine hidT_get e ?_
    cases q : H b with
    | none => rfl
    | some u =>
      rcases B.rest b u q with z | ⟨z, _⟩
      · rw [z, tE] at e
        exact absurd (Option.some.inj e).symm n1
      · rw [z, ha] at e
        exact absurd (Option.some.inj e).symm n2
  have names : ∀ {b : Addr} {m : Str → Option Value}, s.heap.Ns b m → (hidT s.heap H).Ns b m := fun ⟨o, es, ep, e, d, r⟩ => ⟨o, es, ep, stays e (fun z => by rw [z] at d; cases d) (fun z => by rw [z] at d; cases d), d, r⟩
  have kb : K.In (hidT s.heap H) := fun b o e => hidT_get (KX b o e) (by
    cases q : H b with
    | none => rfl
    | some u =>
      rcases B.rest b u q with z | ⟨z, n, _⟩
      · rw [z, tN] at e
        cases e
      · rw [z, n] at e
        cases e)
  have gP : mainGlobals ≠ tb := fun z => by
    obtain ⟨o, es, ep, e, d, _⟩ := hns
    rw [z, tE] at e
    rw [← Option.some.inj e] at d
    cases d
  have T : GxR.TabB (hidT s.heap H) mg c tb := by
    refine ⟨?_, ?_, gP⟩
    · obtain ⟨o, us, more⟩ := cd
      obtain ⟨fl, ft, fg, gt, fi, tx, tt, e, k1, more⟩ := more
      exact ⟨o, us, fl, ft, fg, gt, fi, tx, tt, stays e (fun z => by rw [z] at k1; cases k1) (fun z => by rw [z] at k1; exact absurd (show Value.type "list" = Value.type "code" from k1) (by decide)), k1, more⟩
    · obtain ⟨m, o, m1, m2, e, m3, m4, m5⟩ := bm
      have nG : m ≠ mainGlobals := fun z => by
        obtain ⟨o2, es, ep, e2, d2, _⟩ := hns
        rw [← z, e] at e2
        rw [← Option.some.inj e2, m5] at d2
        cases d2
      have nT : m ≠ tb := fun z => by
        rw [z, tE] at e
        rw [← Option.some.inj e] at m5
        cases m5
      exact ⟨m, o, m1, m2, nG, nT, stays e (fun z => by rw [z] at m5; cases m5) (fun z => by rw [z] at m5; cases m5), m3, m4, m5⟩
  obtain ⟨mc, l1, l2⟩ := hlim
  have e0 : Env0 P w K mg (hidT s.heap H) callerA [] s H := ⟨rfl, ⟨kb, names hns, ⟨mb, names hb, hbb⟩, ⟨mc, names l1, l2⟩⟩, fun b o e => of_hidT e, Nat.le_of_eq (hidT_size _ _), trivial, fun b z => absurd (show b ∈ ([] : List Addr) from z) (by simp), hok, AllBare.of_eq hg⟩
  refine codeAny_mono (F _ kb (names hns) T s H a e0 (bind s _) said) fun r s' h => ?_
  match r, h with
  | .ok (.ret u), ⟨v, H', os, bare, un, ok2, rv, q⟩ =>
    have q2 : v = .bl true := q
    subst q2
    cases (show u = Value.bool true from rv)
    -- what is not the table stands as it stood
    have old : ∀ b o, b ≠ tb → s.heap.get? b = some o → s'.heap.get? b = some o := fun b o nb e => by
      cases q : H b with
      | none => exact un.keep b o e q (fun z => absurd (show b ∈ ([] : List Addr) from z) (by simp)) (by simp)
      | some u =>
        rcases B.rest b u q with z | ⟨_, _, ob, xs, z⟩
        · exact absurd z nb
        · rw [z] at q
          have e1 := (hok b _ q).1
          rw [e] at e1
          rw [Option.some.inj e1]
          exact (ok2 b _ (un.frzs b _ _ q)).1
    obtain ⟨more, hm⟩ := un.tbls tb #[] B.tab
    have now : s'.heap.get? tb = some { cls := .none, data := .fields (#[] ++ more) } := ok2 tb _ hm
    refine ⟨rfl, ⟨fun b o e => ?_, fun b o e => ?_⟩, os, bare⟩
    · by_cases z : b = tb
      · rw [z, tE] at e
        cases e
        rw [z]
        exact .inr (.inl ⟨(cd.tab tE).isCodeTable, rfl, #[], more, rfl, now⟩)
      · exact .inl (old b o z e)
    · by_cases z : b = tb
      · rw [z]
        exact ⟨_, now⟩
      · exact ⟨o, old b o z e⟩
theorem law_tab (KX : K.In s.heap) (hns : s.heap.Ns mainGlobals mg) (hb : s.heap.Ns builtinsNs mb) (hbb : ∀ x : Str, x ≠ "__name__" → mb x = bootBuiltins x) (hlim : s.heap.NoLimit) (hg : s.gens = #[])
    (tE : s.heap.get? tb = some empty) (tN : K.lookup tb = none) (cd : PySem.W.CodeHd s.heap c tb)
    (bm : ∃ (m : Addr) (o : Obj), mg "__builtins__" = some (.ref m) ∧ m ≠ builtinsNs ∧ s.heap.get? m = some o ∧ o.cls = .type "module" ∧ o.dict = some builtinsNs ∧ o.data = .plain)
    (ha : s.heap.get? a = some (given vs)) (hi : IntsAre vs ns) (hl : ns.length ≤ sizeLine) (F : ∀ base : Heap, K.In base → base.Ns mainGlobals mg → GxR.TabB base mg c tb → LawOk P w K mg base f fd x sp) (bind : ∀ (s : Shared) (u : Value), BindsTo s fd ⟨[u], []⟩ [(x, u)])
    (said : ∀ H : Hp, H tb = some (.tbl #[]) → SqL K H a (ns.map V.int) → sp [.ref a] H (fun v _ => v = .bl true) E0) :
    codeAny (model P w) callerA (.call (.ref f) ⟨[.ref a], []⟩) (fun r s' => r = .ok (.ret (.bool true)) ∧ OldK s.heap s'.heap ∧ s'.os = s.os ∧ AllBare s'.gens) s := by
  have rv := vals_ints hi
  have ne : a ≠ tb := fun z => by
    rw [z, tE] at ha
    have z2 := congrArg Obj.cls (Option.some.inj ha)
    cases z2
  have at_ : (upd (fun _ => none) tb (.tbl #[]) : Hp) tb = some (.tbl #[]) := upd_same
  have tOk : ∀ u : HO, (upd (fun _ => none) tb (.tbl #[]) : Hp) tb = some u → u = .tbl #[] := fun u z => (Option.some.inj (at_.symm.trans z)).symm
  cases hk : K.lookup a with
  | some o =>
    have e := KX a o hk
    rw [ha] at e
    cases e
    have B : Begins K a tb (upd (fun _ => none) tb (.tbl #[])) := ⟨at_, fun b u z => by
      by_cases y : b = tb
      · exact .inl y
      · rw [upd_ne y] at z
        cases z⟩
    refine law_core B KX hns hb hbb hlim hg tE tN cd bm ha F bind (said _ at_ (.inr ⟨_, vs.toArray, _, hk, rfl, rfl, rfl, ?_, by simpa using rv⟩)) fun b u z => ?_
    · rw [List.size_toArray, hi.length]
      exact hl
    · by_cases y : b = tb
      · subst y
        rw [tOk u z]
        exact tE
      · rw [upd_ne y] at z
        cases z
  | none =>
    have g1 : (upd (upd (fun _ => none) tb (.tbl #[])) a (.frz (given vs) (.lst (ns.map V.int))) : Hp) tb = some (.tbl #[]) := by rw [upd_ne (Ne.symm ne)]; exact at_
    have g2 : (upd (upd (fun _ => none) tb (.tbl #[])) a (.frz (given vs) (.lst (ns.map V.int))) : Hp) a = some (.frz (given vs) (.lst (ns.map V.int))) := upd_same
    have B : Begins K a tb (upd (upd (fun _ => none) tb (.tbl #[])) a (.frz (given vs) (.lst (ns.map V.int)))) := ⟨g1, fun b u z => by
      by_cases y : b = a
      · subst y
        rw [g2] at z
        exact .inr ⟨rfl, hk, _, _, (Option.some.inj z).symm⟩
      · rw [upd_ne y] at z
        by_cases y2 : b = tb
        · exact .inl y2
        · rw [upd_ne y2] at z
          cases z⟩
    refine law_core B KX hns hb hbb hlim hg tE tN cd bm ha F bind (said _ g1 (.inl (.inr ⟨_, g2⟩))) fun b u z => ?_
    by_cases y : b = a
    · subst y
      rw [g2] at z
      cases z
      exact ⟨ha, by rw [List.length_map]; exact hl, vs, _, rv, ha⟩
    · rw [upd_ne y] at z
      by_cases y2 : b = tb
      · subst y2
        rw [tOk u z]
        exact tE
      · rw [upd_ne y2] at z
        cases z
end
/-- the walk of a law's def, its promise by `LawOk`, one table -/
theorem walk_tab {l : PySem.W.OpenLaw} {most : Nat} {q : Program} {loose : List Str} {XP : (Str → Option Value) → Heap → Prop} {Top : World → Heap → Prop} {d : DefRec} {x : Str} (hm : l.most = some most) (small : most ≤ sizeLine) (nodef : d.params.defaults = [])
    (tells : ∀ (w : World) (mg : Str → Option Value) (at_ : Addr) (hp : Heap), Top w hp → hp.Ns mainGlobals mg → mg d.name = some (.ref at_) →
      ∃ (K : PySem.W.Frag) (fn : FuncData) (sp : Sp) (c tb : Addr), K.In hp ∧ hp.get? tb = some empty ∧ K.lookup tb = none ∧ PySem.W.CodeHd hp c tb ∧ (∀ (s : Shared) (u : Value), BindsTo s fn ⟨[u], []⟩ [(x, u)]) ∧
        (∀ (H : Hp) (a : Addr) (ks : List Int), ks.length ≤ most → H tb = some (.tbl #[]) → SqL K H a (ks.map V.int) → sp [.ref a] H (fun v _ => v = .bl true) E0) ∧
        ∀ b : Heap, K.In b → b.Ns mainGlobals mg → GxR.TabB b mg c tb → LawOk l.prog w K mg b at_ fn x sp) :
    PySem.W.WalkO q loose XP Top l.row.toRowW d [] (fun f vs => PySem.call f vs) := by
  refine Att.attach_call hm nodef fun w _ s1 mg mb at_ o pm cd doc a us ks G Y ho hd hcd hmg hobj nums fits hg => ?_
  rcases tells w mg at_ _ Y G.T.g hmg with ⟨K, fn, sp, c, tb, inK, tE, tN, hC, binds, said, ok⟩
  exact law_tab inK G.T.g G.T.b G.T.builtins G.T.nolimit hg tE tN hC G.T.bmain hobj nums (Nat.le_trans fits small) ok binds fun H t sq => said H a ks fits t sq
end Gx
set_option Elab.async false
set_option linter.all false
set_option maxRecDepth 100000
set_option maxHeartbeats 4000000
namespace K02
open PySem PySem.Spec PyProof.Rows L2
def top (i : Nat) : Stmt := PySem.Challenge.pw_endtellers_k02_polynomials_of_anything_v.main.body.getD i (.Pass ⟨0, 0, 0, 0⟩)
abbrev sWell : Stmt := top 22
abbrev sDrop : Stmt := top 23
abbrev sPick : Stmt := top 24
abbrev sGcd : Stmt := top 25
abbrev sFrac : Stmt := top 26
abbrev sAdd : Stmt := top 27
abbrev sMul : Stmt := top 28
abbrev sSmall : Stmt := top 33
abbrev sWhole : Stmt := top 34
abbrev sIsFrac : Stmt := top 35
abbrev sIsPoly : Stmt := top 36
abbrev sLowest : Stmt := top 9
/-- a def of the module -/
abbrev FnD (K : PySem.W.Frag) (x : Str) (st : Stmt) (fd : FuncData) : Prop := FunD K x x (defArgs st) (defBody st) (defScope st) [] [] (He.ga K x) fd
def frees : List Str := ["int", "len", "abs", "range", "max", "min", "repr", "isinstance", "bool", "tuple", "list", "type", "zip", "enumerate", "reversed", "sum", "all"]
def defs : List Str := (["_law_well", "_law_drop", "_law_pick", "_law_gcd", "_law_frac", "_law_add", "_law_mul", "_law_cut", "_law_times", "_law_by"] : List Str) ++ (["_law_at", "_law_small", "_law_whole", "_law_is_frac", "_law_is_poly", "_law_odd", "_law_no_frac", "_law_put", "_law_poly", "_law_point"] : List Str) ++ (["_law_bent", "law", "is_whole", "is_fraction", "check_fraction", "lowest", "times", "powers", "spread", "is_polynomial"] : List Str) ++ (["check_polynomial", "cleared", "value_at", "product", "divided"] : List Str)
structure Names (K : PySem.W.Frag) (mg : Str → Option Value) : Prop where
  fr : ∀ x ∈ frees, mg x = none
  gl : ∀ x ∈ defs, mg x = some (.ref (He.ga K x))
/-! ### readings, by their first word -/
theorem rd_seq {t u : TS} {D : Ends} {σ : L2.St} {H : Hp} (h : t { D with nx := u D } σ H) : tSeq t u D σ H := h
theorem rd_set {te : TE} {i : Nat} {D : Ends} {σ : L2.St} {H : Hp} (h : te σ H fun x H1 => D.nx (σ.set i (some x)) H1) : tAsg te (gName i) D σ H := h
theorem rd_ret {te : TE} {D : Ends} {σ : L2.St} {H : Hp} (h : te σ H D.rt) : tRet te D σ H := h
theorem rd_op {r : R2} {ta tb : TE} {σ : L2.St} {H : Hp} {Q : VK} (h : ta σ H fun x H1 => tb σ H1 fun y H2 => r x y H2 Q) : tOp r ta tb σ H Q := h
theorem rd_var {i : Nat} {σ : L2.St} {H : Hp} {Q : VK} {v : V} (e : σ[i]? = some (some v)) (h : Q v H) : tVar i σ H Q := ⟨v, e, h⟩
/-! ### the well: three whole numbers -/
structure WellOk (g b c : Int) : Prop where
  g0 : 0 ≤ g
  b0 : 0 ≤ b
  b1 : b < 2147483587
  c0 : 0 ≤ c
  c1 : c < 65521
def wl (g b c : Int) : HO := .lst [.int g, .int b, .int c]
def WellAt (H : Hp) (w : Addr) : Prop := ∃ g b c, H w = some (wl g b c) ∧ WellOk g b c
theorem at3_0 {x y z : V} : atI [x, y, z] 0 = some x := atI_nat (xs := [x, y, z]) (j := 0) rfl
theorem at3_1 {x y z : V} : atI [x, y, z] 1 = some y := atI_nat (xs := [x, y, z]) (j := 1) rfl
theorem at3_2 {x y z : V} : atI [x, y, z] 2 = some z := atI_nat (xs := [x, y, z]) (j := 2) rfl
/-- _law_drop(well, width) -/
def spDrop : Sp := fun vs H Q _ => ∃ (w : Addr) (n : Int), vs = [.ref w, .int n] ∧ WellAt H w ∧ 0 < n ∧ n < 1000000000 ∧ ∀ d g b c, 0 ≤ d → d < n → WellOk g b c → Q (.int d) (upd H w (wl g b c))
/-- _law_pick(well, some) -/
def spPick : Sp := fun vs H Q _ => ∃ (w p : Addr) (xs : List V), vs = [.ref w, .ref p] ∧ WellAt H w ∧ H p = some (.lst xs) ∧ p ≠ w ∧ 0 < xs.length ∧ xs.length < 100000 ∧ ∀ v g b c, v ∈ xs → WellOk g b c → Q v (upd H w (wl g b c))
/-- _law_well(script, turn, salt) -/
def spWell (K : PySem.W.Frag) : Sp := fun vs H Q _ => ∃ (a : Addr) (turn salt : Int) (ns : List Int), vs = [.ref a, .int turn, .int salt] ∧ SqL K H a (ns.map V.int) ∧ 0 ≤ turn ∧ turn < 1000 ∧ 0 ≤ salt ∧ salt < 65521 ∧
  ∀ w H' g b c, Same H H' → H w = none → H' w = some (wl g b c) → WellOk g b c → Q (.ref w) H'
section
variable {P : Program} {w : World} {K : PySem.W.Frag} {mg : Str → Option Value} {base : Heap} {fd : FuncData}
theorem scDrop : FnScope ["well", "width", "digit"] ["well", "width"] (defScope sDrop) := ⟨rfl, rfl, rfl, by decide +kernel, rfl, by decide +kernel, by decide +kernel⟩
theorem ok_drop (F : FnD K "_law_drop" sDrop fd) (T : Names K mg) : FnOk P w K mg base CX0 1 (He.ga K "_law_drop") fd ["well", "width"] spDrop := by
  refine F.ok scDrop (fun vs H Q E h => ?_) (fun cdv A outer s H vs Q E hr h => ?_)
  · obtain ⟨_, _, rfl, _⟩ := h
    rfl
  have gi := T.fr "int" (by decide +kernel)
  refine ⟨_, PSs.nox (pss_cons (ps_if (pt_cmpR op_gt (pe_ix ix_list (pv 0) pe_int (fun _ _ => rfl)) pe_int (nomark _))
      (pss_cons (ps_set (i := 2) scDrop.nd rfl (Or.inl rfl) (pe_op op_mod (pe_callTy call_int1 (by rfl) gi (by decide +kernel) (pa_cons (pe_ix ix_list (pv 0) pe_int (fun _ _ => rfl)) pa_nil)) (pv 1)))
      (pss_cons (ps_asg (pe_op op_fdiv (pe_ix ix_list (pv 0) pe_int (fun _ _ => rfl)) (pv 1)) (pg_sub (pv 0) pe_int set_list))
      (pss_one (ps_ret (pv 2))))) pss_nil)
    (pss_cons (ps_asg (pe_op op_mod (pe_callTy call_int1 (by rfl) gi (by decide +kernel) (pa_cons (pe_op op_add (pe_op op_mul (pe_ix ix_list (pv 0) pe_int (fun _ _ => rfl)) pe_int) pe_int) pa_nil)) pe_int) (pg_sub (pv 0) pe_int set_list))
    (pss_cons (ps_asg (pe_op op_mod (pe_callTy call_int1 (by rfl) gi (by decide +kernel) (pa_cons (pe_op op_add (pe_op op_add (pe_op op_mul (pe_ix ix_list (pv 0) pe_int (fun _ _ => rfl)) (pe_op op_add (pe_op op_mod (pe_callTy call_int1 (by rfl) gi (by decide +kernel) (pa_cons (pe_ix ix_list (pv 0) pe_int (fun _ _ => rfl)) pa_nil)) pe_int) pe_int)) (pe_ix ix_list (pv 0) pe_int (fun _ _ => rfl))) pe_int) pa_nil)) pe_int) (pg_sub (pv 0) pe_int set_list))
    (pss_one (ps_ret (pe_op op_mod (pe_callTy call_int1 (by rfl) gi (by decide +kernel) (pa_cons (pe_op op_fdiv (pe_ix ix_list (pv 0) pe_int (fun _ _ => rfl)) pe_int) pa_nil)) (pv 1))))))), ?_⟩
  obtain ⟨w, n, rfl, ⟨g, b, c, hw, ok⟩, n0, n1, q⟩ := h
  obtain ⟨g0, b0, b1, c0, c1⟩ := ok
  refine ⟨_, rfl, w, _, 0, _, rfl, rfl, .of hw, at3_0, _, _, rfl, rfl, _, rfl, ?_⟩
  refine ite2 (fun hg => ?_) (fun hg => ?_)
  · -- the great number's digit
    have hg' : 0 < g := of_decide_eq_true hg
    refine ⟨_, rfl, w, _, 0, _, rfl, rfl, .of hw, at3_0, .inl ⟨_, rfl, _, rfl, _, _, rfl, rfl, n0, ?_⟩⟩
    refine ⟨_, rfl, w, _, 0, _, rfl, rfl, .of hw, at3_0, _, rfl, _, _, rfl, rfl, ⟨n0, by omega⟩, ?_⟩
    refine ⟨_, rfl, w, _, 0, 0, rfl, rfl, hw, rfl, ?_⟩
    exact ⟨_, rfl, q (g % n) (g / n) b c (Int.emod_nonneg _ (by omega)) (Int.emod_lt_of_pos _ n0) ⟨Int.ediv_nonneg g0 (by omega), b0, b1, c0, c1⟩⟩
  · refine ⟨_, rfl, w, _, 2, _, rfl, rfl, .of hw, at3_2, _, _, rfl, rfl, .inr ⟨by decide, by decide⟩, _, _, rfl, rfl, .inl ⟨_, rfl, _, _, rfl, rfl, (by show (0 : Int) < 65521; decide), ?_⟩⟩
    refine ⟨_, rfl, w, _, 2, 2, rfl, rfl, hw, rfl, ?_⟩
    have hw2 : upd H w (.lst ([V.int g, V.int b, V.int c].set 2 (V.int ((c * 9 + 5021) % 65521)))) w = some (wl g b ((c * 9 + 5021) % 65521)) := upd_same
    have m0 : (0 : Int) ≤ (c * 9 + 5021) % 65521 := Int.emod_nonneg _ (by decide)
    have m1 : (c * 9 + 5021) % 65521 < 65521 := Int.emod_lt_of_pos _ (by decide)
    have k0 : (0 : Int) ≤ b % 2039 := Int.emod_nonneg _ (by decide)
    have k1 : b % 2039 < 2039 := Int.emod_lt_of_pos _ (by decide)
    refine ⟨_, rfl, w, _, 1, _, rfl, rfl, .of hw2, at3_1, _, rfl, w, _, 1, _, rfl, rfl, .of hw2, at3_1, .inl ⟨_, rfl, _, _, rfl, rfl, (by show (0 : Int) < 2039; decide), _, _, rfl, rfl, _, _, rfl, rfl, .inl ⟨by omega, by omega⟩, ?_⟩⟩
    refine ⟨_, rfl, w, _, 2, _, rfl, rfl, .of hw2, at3_2, _, _, rfl, rfl, _, _, rfl, rfl, .inl ⟨_, rfl, _, _, rfl, rfl, (by show (0 : Int) < 2147483587; decide), ?_⟩⟩
    refine ⟨_, rfl, w, _, 1, 1, rfl, rfl, hw2, rfl, ?_⟩
    have m2 : (0 : Int) ≤ (b * (b % 2039 + 40009) + (c * 9 + 5021) % 65521 + 1) % 2147483587 := Int.emod_nonneg _ (by decide)
    have m3 : (b * (b % 2039 + 40009) + (c * 9 + 5021) % 65521 + 1) % 2147483587 < 2147483587 := Int.emod_lt_of_pos _ (by decide)
    refine ⟨_, rfl, w, _, 1, _, rfl, rfl, .of upd_same, at3_1, _, _, rfl, rfl, ⟨by decide, by decide⟩, .inl ⟨_, rfl, _, rfl, _, _, rfl, rfl, n0, ?_⟩⟩
    have hw3 := q ((b * (b % 2039 + 40009) + (c * 9 + 5021) % 65521 + 1) % 2147483587 / 1009 % n) g _ _ (Int.emod_nonneg _ (by omega)) (Int.emod_lt_of_pos _ n0) ⟨g0, m2, m3, m0, m1⟩
    rw [← upd_upd (H := H) (a := w) (o := .lst [V.int g, V.int b, V.int ((c * 9 + 5021) % 65521)])] at hw3
    exact hw3
theorem scPick : FnScope ["well", "some"] ["well", "some"] (defScope sPick) := ⟨rfl, rfl, rfl, by decide +kernel, rfl, by decide +kernel, by decide +kernel⟩
theorem ok_pick {fdD : FuncData} (F : FnD K "_law_pick" sPick fd) (T : Names K mg) (FD : FnD K "_law_drop" sDrop fdD) : FnOk P w K mg base CX0 2 (He.ga K "_law_pick") fd ["well", "some"] spPick := by
  refine F.ok scPick (fun vs H Q E h => ?_) (fun cdv A outer s H vs Q E hr h => ?_)
  · obtain ⟨_, _, _, rfl, _⟩ := h
    rfl
  have gD := T.gl "_law_drop" (by decide +kernel)
  have bD : Binds K fdD ["well", "width"] [] := FD.bindsN fun _ _ _ _ _ _ us hl => match us, hl with | [_, _], _ => rfl
  have GD : FnOk P w K mg base CX0 1 (He.ga K "_law_drop") fdD ["well", "width"] spDrop := ok_drop FD T
  refine ⟨_, PSs.nox (pss_one (ps_ret (pe_ix ix_list (pv 1) (pe_call GD hr rfl gD FD.kp bD .nil pass0 (pa_cons (pv 0) (pa_cons (pe_callB call_len_seq (by rfl) (T.fr "len" (by decide +kernel)) PySem.boot_len (pa_cons (pv 1) pa_nil)) pa_nil))) (fun _ _ => rfl)))), ?_⟩
  obtain ⟨w, p, xs, rfl, hw, hp, ne, l0, l1, q⟩ := h
  refine ⟨_, rfl, _, rfl, _, rfl, p, _, rfl, .inl (.of hp), ?_⟩
  refine ⟨w, _, rfl, hw, by omega, by omega, fun d g b c d0 d1 ok => ?_⟩
  obtain ⟨j, rfl⟩ : ∃ j : Nat, d = (j : Int) := ⟨d.toNat, by omega⟩
  have hj : j < xs.length := by omega
  refine ⟨p, xs, j, xs[j], rfl, rfl, .of (by rw [upd_ne ne]; exact hp), atI_nat (by simp [hj]), q _ g b c (List.getElem_mem hj) ok⟩
theorem cut_int {ns : List Int} {lo hi : Option Int} {i : Nat} {y : V} (h : (cutV (ns.map V.int) lo hi)[i]? = some y) : ∃ z, y = V.int z := by
  have m := List.mem_of_mem_drop (List.mem_of_mem_take (List.mem_of_getElem? h))
  obtain ⟨z, _, e⟩ := List.mem_map.mp m
  exact ⟨z, e.symm⟩
theorem scWell : FnScope ["script", "turn", "salt", "blend", "each", "great"] ["script", "turn", "salt"] (defScope sWell) := ⟨rfl, rfl, rfl, by decide +kernel, rfl, by decide +kernel, by decide +kernel⟩
theorem ok_well (F : FnD K "_law_well" sWell fd) (T : Names K mg) : FnOk P w K mg base CX0 1 (He.ga K "_law_well") fd ["script", "turn", "salt"] (spWell K) := by
  refine F.ok scWell (fun vs H Q E h => ?_) (fun cdv A outer s H vs Q E hr h => ?_)
  · obtain ⟨_, _, _, _, rfl, _⟩ := h
    rfl
  have gi := T.fr "int" (by decide +kernel)
  refine ⟨_, PSs.nox (pss_cons (ps_set (i := 3) scWell.nd rfl (Or.inl rfl) (pe_op op_add (pe_op op_add (pe_op op_mul (pv 2) pe_int) (pe_op op_mul pe_int (pv 1))) pe_int))
    (pss_cons (ps_for PassesOwn.never rfl (pi_list (pe_slice sl_list (pv 0) po_none (po_some pe_int))) (pg_name (i := 4) scWell.nd rfl (Or.inl rfl))
      (pss_one (ps_set (i := 3) scWell.nd rfl (Or.inl rfl) (pe_op op_mod (pe_callTy call_int1 (by rfl) gi (by decide +kernel) (pa_cons (pe_op op_add (pe_op op_add (pe_op op_mul (pv 3) pe_int) (pe_op op_mul (pe_op op_mod (pe_callTy call_int1 (by rfl) gi (by decide +kernel) (pa_cons (pv 4) pa_nil)) pe_int) pe_int)) pe_int) pa_nil)) pe_int))))
    (pss_cons (ps_set (i := 5) scWell.nd rfl (Or.inl rfl) (pe_ifExp (pt_cmpR op_lt (pv 1) (pe_callB call_len_seq (by rfl) (T.fr "len" (by decide +kernel)) PySem.boot_len (pa_cons (pv 0) pa_nil)) (nomark _))
      (pe_callB call_abs (by rfl) (T.fr "abs" (by decide +kernel)) (by decide +kernel) (pa_cons (pe_callTy call_int1 (by rfl) gi (by decide +kernel) (pa_cons (pe_ix ix_list (pv 0) (pv 1) (fun _ _ => rfl)) pa_nil)) pa_nil)) pe_int))
    (pss_one (ps_ret (pe_lst (pa_cons (pe_ifExp (pt_cmpR op_ge (pv 5) (pe_op op_pow pe_int pe_int) (nomark _)) (pv 5) pe_int) (pa_cons (pv 3) (pa_cons (pv 2) pa_nil))))))))), ?_⟩
  obtain ⟨a, turn, salt, ns, rfl, hS, t0, t1, s0, s1, q⟩ := h
  refine ⟨_, rfl, _, _, rfl, rfl, .inr ⟨by decide, by decide⟩, _, rfl, _, _, rfl, rfl, .inl ⟨by decide, by decide⟩, _, _, rfl, rfl, _, _, rfl, rfl, ?_⟩
  -- for each in script[:14]
  refine ⟨_, rfl, _, rfl, a, _, rfl, hS, fun p hp => ⟨p, rfl, ⟨_, .of upd_same⟩, ?_⟩⟩
  have bs : (0 : Int) ≤ salt * 37 + 88001 * turn + 411 := by omega
  have bb : salt * 37 + 88001 * turn + 411 < 2147483587 := by omega
  refine for_list (K := K) (a := p) (xs := cutV (ns.map V.int) none (some 14)) (fun i σ H' => H' = upd H p (.lst (cutV (ns.map V.int) none (some 14))) ∧ ∃ (bl : Int) (v : Option V), σ = [some (.ref a), some (.int turn), some (.int salt), some (.int bl), v, none] ∧ 0 ≤ bl ∧ bl < 2147483587)
    ⟨rfl, _, _, rfl, bs, bb⟩ (fun i σ H' _ ⟨e, _⟩ => by rw [e]; exact .of upd_same) ?_ ?_
  · rintro i y σ H' hi ⟨rfl, bl, v, rfl, l0, l1⟩
    obtain ⟨z, rfl⟩ := cut_int hi
    refine ⟨_, rfl, _, _, rfl, rfl, .inl ⟨by omega, by omega⟩, _, rfl, .inl ⟨_, rfl, ?_⟩⟩
    refine ⟨_, _, rfl, rfl, (by show (0 : Int) < 1000000087; decide), _, _, rfl, rfl, .inr ⟨by decide, by decide⟩, _, _, rfl, rfl, _, _, rfl, rfl, .inl ⟨_, rfl, _, _, rfl, rfl, (by show (0 : Int) < 2147483587; decide), ?_⟩⟩
    exact ⟨rfl, _, _, rfl, Int.emod_nonneg _ (by decide), Int.emod_lt_of_pos _ (by decide)⟩
  · rintro σ H' ⟨rfl, bl, v, rfl, l0, l1⟩
    have hS' : SqL K (upd H p (.lst (cutV (ns.map V.int) none (some 14)))) a (ns.map V.int) := (same_new hp).seq hS
    -- great, then the well
    have fin : ∀ gr : Int, 0 ≤ gr → (tRet (tLst (tCons (tIf (tTest (tOp (rI0 fun i j => .bl (decide (j ≤ i))) (tVar 5) (tOp (rI CPow fun i j => .int (i ^ j.toNat)) (tC (.int 10)) (tC (.int 18))))) (tVar 5) (tC (.int 0))) (tCons (tVar 3) (tCons (tVar 2) tNil)))))
        { nx := fun _ H' => Q .non H', rt := Q } [some (.ref a), some (.int turn), some (.int salt), some (.int bl), v, some (.int gr)] (upd H p (.lst (cutV (ns.map V.int) none (some 14)))) := fun gr g0 => by
      refine ⟨_, rfl, _, _, rfl, rfl, ⟨by decide, by decide, by decide⟩, _, _, rfl, rfl, _, rfl, ?_⟩
      have end_ : ∀ x : Int, 0 ≤ x → (fun xs H1 => xs.length ≤ sizeLine ∧ ∀ p, H1 p = none → Q (.ref p) (upd H1 p (.lst xs))) [V.int x, V.int bl, V.int salt] (upd H p (.lst (cutV (ns.map V.int) none (some 14)))) := fun x x0 =>
        ⟨by show 3 ≤ sizeLine; decide, fun r hr => q r _ x bl salt ((same_new hp).trans (same_new hr)) ((same_new hp).free hr) upd_same ⟨x0, l0, l1, s0, s1⟩⟩
      refine ite2 (fun _ => ?_) (fun _ => ?_)
      · exact ⟨_, rfl, _, rfl, _, rfl, end_ gr g0⟩
      · exact ⟨_, rfl, _, rfl, end_ 0 (by decide)⟩
    refine ⟨_, rfl, _, rfl, a, _, rfl, .inl hS', _, _, rfl, rfl, _, rfl, ?_⟩
    refine ite2 (fun hl => ?_) (fun hl => ?_)
    · have hl' : turn < ((ns.map V.int).length : Int) := of_decide_eq_true hl
      obtain ⟨j, rfl⟩ : ∃ j : Nat, turn = (j : Int) := ⟨turn.toNat, by omega⟩
      have hj : j < ns.length := by rw [List.length_map] at hl'; omega
      refine ⟨_, rfl, _, rfl, a, _, j, .int ns[j], rfl, rfl, hS', atI_nat (by simp [hj]), .inl ⟨_, rfl, _, rfl, ?_⟩⟩
      refine fin _ ?_
      by_cases z : ns[j] < 0
      · rw [if_pos z]; omega
      · rw [if_neg z]; omega
    · exact fin 0 (by decide)
end
end K02
set_option Elab.async false
set_option linter.all false
set_option maxRecDepth 100000
set_option maxHeartbeats 4000000
namespace K02
open PySem PySem.Spec PyProof.Rows L2 RatFr
section
variable {P : Program} {w : World} {K : PySem.W.Frag} {mg : Str → Option Value} {base : Heap} {fd : FuncData}
/-- _law_gcd(one, two) -/
def spGcd : Sp := fun vs H Q _ => ∃ a b : Int, vs = [.int a, .int b] ∧ 0 ≤ a ∧ 0 ≤ b ∧ Q (.int (Nat.gcd a.natAbs b.natAbs : Nat)) H
theorem scGcd : FnScope ["one", "two"] ["one", "two"] (defScope sGcd) := ⟨rfl, rfl, rfl, by decide +kernel, rfl, by decide +kernel, by decide +kernel⟩
theorem ok_gcd (F : FnD K "_law_gcd" sGcd fd) (T : Names K mg) : FnOk P w K mg base CX0 1 (He.ga K "_law_gcd") fd ["one", "two"] spGcd := by
  refine F.ok scGcd (fun vs H Q E ⟨_, _, e, _⟩ => by rw [e]; rfl) (fun cdv A outer s H vs Q E hr h => ?_)
  have gi := T.fr "int" (by decide +kernel)
  obtain ⟨a, b, rfl, a0, b0, q⟩ := h
  refine ⟨_, PSs.nox (pss_cons (ps_while PassesOwn.never (pt_cmpR op_gt (pv 1) pe_int (nomark _))
      (pss_one (ps_par (i := 0) (j := 1) (by rfl) scGcd.nd rfl rfl (by decide) rfl rfl (pa_cons (pv 1) (pa_cons (pe_op op_mod (pe_callTy call_int1 (by rfl) gi (by decide +kernel) (pa_cons (pv 0) pa_nil)) (pv 1)) pa_nil)) (by rfl))))
    (pss_one (ps_ret (pv 0)))), ?_⟩
  refine while_by (fun σ H' => H' = H ∧ ∃ x y : Int, σ = [some (.int x), some (.int y)] ∧ 0 ≤ x ∧ 0 ≤ y ∧ Nat.gcd x.natAbs y.natAbs = Nat.gcd a.natAbs b.natAbs)
    (fun σ _ => match σ with | [_, some (.int y)] => y.natAbs | _ => 0) ⟨rfl, a, b, rfl, a0, b0, rfl⟩ ?_ ?_
  · rintro σ H' ⟨rfl, x, y, rfl, x0, y0, e⟩
    refine ⟨_, rfl, _, _, rfl, rfl, _, rfl, ?_⟩
    by_cases z : (0 : Int) < y
    · rw [decide_eq_true z]
      refine ⟨_, rfl, _, rfl, .inl ⟨_, rfl, _, rfl, _, _, rfl, rfl, z, _, _, rfl, ?_⟩⟩
      have m0 : 0 ≤ x % y := Int.emod_nonneg _ (by omega)
      have m1 : x % y < y := Int.emod_lt_of_pos _ z
      refine ⟨⟨rfl, y, x % y, rfl, y0, m0, ?_⟩, ?_⟩
      · rw [← e, show (x % y).natAbs = x.natAbs % y.natAbs from ?_]
        · rw [Nat.gcd_comm, ← Nat.gcd_rec, Nat.gcd_comm]
        · have h1 : ((x % y).natAbs : Int) = x % y := Int.natAbs_of_nonneg m0
          have h2 : ((x.natAbs % y.natAbs : Nat) : Int) = x % y := by rw [Int.natCast_emod, Int.natAbs_of_nonneg x0, Int.natAbs_of_nonneg y0]
          omega
      · show (x % y).natAbs < y.natAbs
        omega
    · rw [decide_eq_false z]
      have y1 : y = 0 := by omega
      subst y1
      refine ⟨_, rfl, ?_⟩
      rw [show (0 : Int).natAbs = 0 from rfl, Nat.gcd_zero_right] at e
      rw [← e, Int.natAbs_of_nonneg x0] at q
      exact q
  · rintro σ H' Q Q' k ⟨v, e, i, j, e1, e2, b, e3, r⟩
    exact ⟨v, e, i, j, e1, e2, b, e3, k _ _ r⟩
/-- _law_frac(up, down), down above 0 -/
def spFrac : Sp := fun vs H Q _ => ∃ u d : Int, vs = [.int u, .int d] ∧ 0 < d ∧ d.natAbs < 2 ^ 9000 ∧ ∀ p, H p = none → Q (.ref p) (upd H p (fr (Rat.divInt u d)))
theorem scFrac : FnScope ["up", "down", "by"] ["up", "down"] (defScope sFrac) := ⟨rfl, rfl, rfl, by decide +kernel, rfl, by decide +kernel, by decide +kernel⟩
theorem ok_frac {fdG : FuncData} (F : FnD K "_law_frac" sFrac fd) (T : Names K mg) (FG : FnD K "_law_gcd" sGcd fdG) : FnOk P w K mg base CX0 2 (He.ga K "_law_frac") fd ["up", "down"] spFrac := by
  refine F.ok scFrac (fun vs H Q E ⟨_, _, e, _⟩ => by rw [e]; rfl) (fun cdv A outer s H vs Q E hr h => ?_)
  have ga := T.fr "abs" (by decide +kernel)
  have gG := T.gl "_law_gcd" (by decide +kernel)
  have bG : Binds K fdG ["one", "two"] [] := FG.bindsN fun _ _ _ _ _ _ us hl => match us, hl with | [_, _], _ => rfl
  have GG : FnOk P w K mg base CX0 1 (He.ga K "_law_gcd") fdG ["one", "two"] spGcd := ok_gcd FG T
  obtain ⟨u, d, rfl, d0, d1, q⟩ := h
  refine ⟨_, PSs.nox (pss_cons (ps_set (i := 2) scFrac.nd rfl (Or.inl rfl) (pe_call GG hr rfl gG FG.kp bG .nil pass0
      (pa_cons (pe_callB call_abs (by rfl) ga (by decide +kernel) (pa_cons (pv 0) pa_nil)) (pa_cons (pe_callB call_abs (by rfl) ga (by decide +kernel) (pa_cons (pv 1) pa_nil)) pa_nil))))
    (pss_cons (ps_if (pt_cmpR op_lt (pv 1) pe_int (nomark _)) (pss_one (ps_set (i := 2) scFrac.nd rfl (Or.inl rfl) (pe_op op_sub pe_int (pv 2)))) pss_nil)
    (pss_one (ps_ret (pe_tup (pa_cons (pe_op op_fdivW (pv 0) (pv 2)) (pa_cons (pe_op op_fdivW (pv 1) (pv 2)) pa_nil))))))), ?_⟩
  have au : (if u < 0 then -u else u) = (u.natAbs : Int) := by omega
  have ad : (if d < 0 then -d else d) = (d.natAbs : Int) := by omega
  refine ⟨_, rfl, _, rfl, _, rfl, _, rfl, ?_⟩
  rw [au, ad]
  refine ⟨_, _, rfl, by omega, by omega, ?_⟩
  obtain ⟨g1, g0⟩ := gcd_lt (u := u) d0 d1
  rw [Int.natAbs_natCast, Int.natAbs_natCast]
  refine ⟨_, rfl, _, _, rfl, rfl, _, rfl, ?_⟩
  rw [decide_eq_false (show ¬ d < 0 by omega)]
  have div : ∀ i : Int, CDivW i ((Nat.gcd u.natAbs d.natAbs : Nat) : Int) := fun i => wide_div g0 g1 (by decide) (by decide)
  refine ⟨_, rfl, _, rfl, _, _, rfl, rfl, div _, _, rfl, _, rfl, _, _, rfl, rfl, div _, (by show 2 ≤ sizeLine; decide), fun p hp => ?_⟩
  have e := div_num (u := u) d0
  have z := q p hp
  unfold fr at z
  rw [e.1, e.2] at z
  exact z
end
end K02
set_option Elab.async false
set_option linter.all false
set_option maxRecDepth 100000
set_option maxHeartbeats 4000000
namespace K02
open PySem PySem.Spec PyProof.Rows L2 RatFr DataR Gx
section
variable {P : Program} {w : World} {K : PySem.W.Frag} {mg : Str → Option Value} {base : Heap} {fd : FuncData}
theorem at2_0 {x y : V} : atI [x, y] 0 = some x := atI_nat (xs := [x, y]) (j := 0) rfl
theorem at2_1 {x y : V} : atI [x, y] 1 = some y := atI_nat (xs := [x, y]) (j := 1) rfl
theorem b_frac {fdF : FuncData} (F : FnD K "_law_frac" sFrac fdF) : Binds K fdF ["up", "down"] [] := F.bindsN fun _ _ _ _ _ _ us hl => match us, hl with | [_, _], _ => rfl
/-- two fractions are taken, one is made -/
def spTwo (f : Rat → Rat → Rat) : Sp := fun vs H Q _ => ∃ (x y : V) (q r : Rat), vs = [x, y] ∧ FrAt H x q ∧ FrAt H y r ∧ Sz 4000 q ∧ Sz 4000 r ∧ ∀ p, H p = none → Q (.ref p) (upd H p (fr (f q r)))
theorem scMul : FnScope ["x", "y"] ["x", "y"] (defScope sMul) := ⟨rfl, rfl, rfl, by decide +kernel, rfl, by decide +kernel, by decide +kernel⟩
theorem ok_mul {fdF fdG : FuncData} (F : FnD K "_law_mul" sMul fd) (T : Names K mg) (FF : FnD K "_law_frac" sFrac fdF) (FG : FnD K "_law_gcd" sGcd fdG) : FnOk P w K mg base CX0 3 (He.ga K "_law_mul") fd ["x", "y"] (spTwo (· * ·)) := by
  refine F.ok scMul (fun vs H Q E ⟨_, _, _, _, e, _⟩ => by rw [e]; rfl) (fun cdv A outer s H vs Q E hr h => ?_)
  have gF := T.gl "_law_frac" (by decide +kernel)
  have GF : FnOk P w K mg base CX0 2 (He.ga K "_law_frac") fdF ["up", "down"] spFrac := ok_frac FF T FG
  obtain ⟨x, y, q, r, rfl, ⟨a, rfl, ha⟩, ⟨b, rfl, hb⟩, sq, sr, fin⟩ := h
  refine ⟨_, PSs.nox (pss_one (ps_ret (pe_call GF hr rfl gF FF.kp (b_frac FF) .nil pass0
      (pa_cons (pe_op op_mulW (pe_ix ix_tup (pv 0) pe_int (fun _ _ => rfl)) (pe_ix ix_tup (pv 1) pe_int (fun _ _ => rfl)))
      (pa_cons (pe_op op_mulW (pe_ix ix_tup (pv 0) pe_int (fun _ _ => rfl)) (pe_ix ix_tup (pv 1) pe_int (fun _ _ => rfl))) pa_nil))))), ?_⟩
  have m1 : CMulW q.num r.num := wide_mul sq.up sr.up (by decide) (by decide) (by decide)
  have m2 : CMulW (q.den : Int) r.den := wide_mul sq.lo2 sr.lo2 (by decide) (by decide) (by decide)
  refine ⟨_, rfl, a, _, 0, _, rfl, rfl, .of ha, at2_0, _, rfl, b, _, 0, _, rfl, rfl, .of hb, at2_0, _, _, rfl, rfl, m1, ?_⟩
  refine ⟨_, rfl, a, _, 1, _, rfl, rfl, .of ha, at2_1, _, rfl, b, _, 1, _, rfl, rfl, .of hb, at2_1, _, _, rfl, rfl, m2, ?_⟩
  refine ⟨_, _, rfl, Int.mul_pos (den_pos q) (den_pos r), Nat.lt_of_lt_of_le (wide_lt sq.lo2 sr.lo2) (Nat.pow_le_pow_right (by decide) (by decide)), fun p hp => ?_⟩
  rw [mul_div]
  exact fin p hp
theorem scAdd : FnScope ["x", "y"] ["x", "y"] (defScope sAdd) := ⟨rfl, rfl, rfl, by decide +kernel, rfl, by decide +kernel, by decide +kernel⟩
theorem ok_add {fdF fdG : FuncData} (F : FnD K "_law_add" sAdd fd) (T : Names K mg) (FF : FnD K "_law_frac" sFrac fdF) (FG : FnD K "_law_gcd" sGcd fdG) : FnOk P w K mg base CX0 3 (He.ga K "_law_add") fd ["x", "y"] (spTwo (· + ·)) := by
  refine F.ok scAdd (fun vs H Q E ⟨_, _, _, _, e, _⟩ => by rw [e]; rfl) (fun cdv A outer s H vs Q E hr h => ?_)
  have gF := T.gl "_law_frac" (by decide +kernel)
  have GF : FnOk P w K mg base CX0 2 (He.ga K "_law_frac") fdF ["up", "down"] spFrac := ok_frac FF T FG
  obtain ⟨x, y, q, r, rfl, ⟨a, rfl, ha⟩, ⟨b, rfl, hb⟩, sq, sr, fin⟩ := h
  refine ⟨_, PSs.nox (pss_one (ps_ret (pe_call GF hr rfl gF FF.kp (b_frac FF) .nil pass0
      (pa_cons (pe_op op_add (pe_op op_mulW (pe_ix ix_tup (pv 0) pe_int (fun _ _ => rfl)) (pe_ix ix_tup (pv 1) pe_int (fun _ _ => rfl))) (pe_op op_mulW (pe_ix ix_tup (pv 1) pe_int (fun _ _ => rfl)) (pe_ix ix_tup (pv 0) pe_int (fun _ _ => rfl))))
      (pa_cons (pe_op op_mulW (pe_ix ix_tup (pv 0) pe_int (fun _ _ => rfl)) (pe_ix ix_tup (pv 1) pe_int (fun _ _ => rfl))) pa_nil))))), ?_⟩
  have m1 : CMulW q.num r.den := wide_mul sq.up sr.lo2 (by decide) (by decide) (by decide)
  have m3 : CMulW r.num q.den := wide_mul sr.up sq.lo2 (by decide) (by decide) (by decide)
  have m2 : CMulW (q.den : Int) r.den := wide_mul sq.lo2 sr.lo2 (by decide) (by decide) (by decide)
  refine ⟨_, rfl, a, _, 0, _, rfl, rfl, .of ha, at2_0, _, rfl, b, _, 1, _, rfl, rfl, .of hb, at2_1, _, _, rfl, rfl, m1, ?_⟩
  refine ⟨_, rfl, b, _, 0, _, rfl, rfl, .of hb, at2_0, _, rfl, a, _, 1, _, rfl, rfl, .of ha, at2_1, _, _, rfl, rfl, m3, _, _, rfl, rfl, ?_⟩
  refine ⟨_, rfl, a, _, 1, _, rfl, rfl, .of ha, at2_1, _, rfl, b, _, 1, _, rfl, rfl, .of hb, at2_1, _, _, rfl, rfl, m2, ?_⟩
  refine ⟨_, _, rfl, Int.mul_pos (den_pos q) (den_pos r), Nat.lt_of_lt_of_le (wide_lt sq.lo2 sr.lo2) (Nat.pow_le_pow_right (by decide) (by decide)), fun p hp => ?_⟩
  rw [add_div]
  exact fin p hp
/-- lowest(top, under), under above 0: the program's own -/
def spLowest : Sp := spFrac
theorem scLowest : FnScope ["top", "under", "shared"] ["top", "under"] (defScope sLowest) := ⟨rfl, rfl, rfl, by decide +kernel, rfl, by decide +kernel, by decide +kernel⟩
theorem ok_lowest (F : FnD K "lowest" sLowest fd) (mG : mg "gcd" = some (.builtin "math.gcd")) : FnOk P w K mg base CX0 1 (He.ga K "lowest") fd ["top", "under"] spLowest := by
  refine F.ok scLowest (fun vs H Q E ⟨_, _, e, _⟩ => by rw [e]; rfl) (fun cdv A outer s H vs Q E hr h => ?_)
  obtain ⟨u, d, rfl, d0, d1, q⟩ := h
  refine ⟨_, PSs.nox (pss_cons (ps_set (i := 2) scLowest.nd rfl (Or.inl rfl) (pe_callBfun cr_gcd (by rfl) mG (pa_cons (pv 0) (pa_cons (pv 1) pa_nil))))
    (pss_cons (ps_if (pt_cmpR op_lt (pv 1) pe_int (nomark _)) (pss_one (ps_set (i := 2) scLowest.nd rfl (Or.inl rfl) (pe_un un_neg (pv 2)))) pss_nil)
    (pss_one (ps_ret (pe_tup (pa_cons (pe_op op_fdivW (pv 0) (pv 2)) (pa_cons (pe_op op_fdivW (pv 1) (pv 2)) pa_nil))))))), ?_⟩
  obtain ⟨g1, g0⟩ := gcd_lt (u := u) d0 d1
  have div : ∀ i : Int, CDivW i ((Nat.gcd u.natAbs d.natAbs : Nat) : Int) := fun i => wide_div g0 g1 (by decide) (by decide)
  refine ⟨_, rfl, _, rfl, _, _, rfl, ?_⟩
  refine ⟨_, rfl, _, _, rfl, rfl, _, rfl, ?_⟩
  rw [decide_eq_false (show ¬ d < 0 by omega)]
  refine ⟨_, rfl, _, rfl, _, _, rfl, rfl, div _, _, rfl, _, rfl, _, _, rfl, rfl, div _, (by show 2 ≤ sizeLine; decide), fun p hp => ?_⟩
  have e := div_num (u := u) d0
  have z := q p hp
  unfold fr at z
  rw [e.1, e.2] at z
  exact z
/-! ### what a thing is -/
theorem scWhole : FnScope ["thing"] ["thing"] (defScope sWhole) := ⟨rfl, rfl, rfl, by decide +kernel, rfl, by decide +kernel, by decide +kernel⟩
def spIs (f : PyData → Bool) : Sp := fun vs H Q _ => ∃ (v : V) (N : Addr → Prop) (d : PyData), vs = [v] ∧ Dq N H v d ∧ Q (.bl (f d)) H
def wholeD (d : PyData) : Bool := tyD d == "int"
theorem whole_is (d : PyData) : (isD d "int" && !isD d "bool") = wholeD d := by cases d <;> rfl
theorem ok_whole (F : FnD K "_law_whole" sWhole fd) (T : Names K mg) : FnOk P w K mg base CX0 1 (He.ga K "_law_whole") fd ["thing"] (spIs wholeD) := by
  refine F.ok scWhole (fun vs H Q E ⟨_, _, _, e, _⟩ => by rw [e]; rfl) (fun cdv A outer s H vs Q E hr h => ?_)
  obtain ⟨v, N, d, rfl, q, fin⟩ := h
  have gs := T.fr "isinstance" (by decide +kernel)
  refine ⟨_, PSs.nox (pss_one (ps_ret (pe_and (pe_callB call_isD (by rfl) gs (by decide +kernel) (pa_cons (pv 0) (pa_cons (pe_bltn (v := .ty "int") (u := .type "int") (by rfl) (T.fr "int" (by decide +kernel)) (by decide +kernel) rfl) pa_nil)))
      (pe_one (pe_not (pe_callB call_isD (by rfl) gs (by decide +kernel) (pa_cons (pv 0) (pa_cons (pe_bltn (v := .ty "bool") (u := .type "bool") (by rfl) (T.fr "bool" (by decide +kernel)) (by decide +kernel) rfl) pa_nil)))))))), ?_⟩
  refine ⟨_, rfl, v, "int", N, d, rfl, .inl rfl, q, _, rfl, ?_⟩
  rw [← whole_is] at fin
  cases hi : isD d "int" with
  | false =>
    rw [hi] at fin
    exact fin
  | true =>
    rw [hi] at fin
    exact ⟨_, rfl, v, "bool", N, d, rfl, .inr (.inl rfl), q, _, rfl, fin⟩
end
end K02
set_option Elab.async false
set_option linter.all false
set_option maxRecDepth 100000
set_option maxHeartbeats 4000000
set_option exponentiation.threshold 20000
namespace K02
open PySem PySem.Spec PyProof.Rows L2 RatFr DataR Gx
section
variable {P : Program} {w : World} {K : PySem.W.Frag} {mg : Str → Option Value} {base : Heap} {fd : FuncData}
theorem scIsFrac : FnScope ["thing"] ["thing"] (defScope sIsFrac) := ⟨rfl, rfl, rfl, by decide +kernel, rfl, by decide +kernel, by decide +kernel⟩
theorem isD_tup (d : PyData) : isD d "tuple" = (tyD d == "tuple") := by cases d <;> rfl
theorem no_frac {d : PyData} (h : tyD d ≠ "tuple") : fracD d = false := by
  cases d <;> first | rfl | exact absurd rfl h
theorem ok_isFrac {fdW fdG : FuncData} (F : FnD K "_law_is_frac" sIsFrac fd) (T : Names K mg) (FW : FnD K "_law_whole" sWhole fdW) (FG : FnD K "_law_gcd" sGcd fdG) : FnOk P w K mg base CX0 2 (He.ga K "_law_is_frac") fd ["thing"] (spIs fracD) := by
  refine F.ok scIsFrac (fun vs H Q E ⟨_, _, _, e, _⟩ => by rw [e]; rfl) (fun cdv A outer s H vs Q E hr h => ?_)
  obtain ⟨v, N, d, rfl, q, fin⟩ := h
  have gs := T.fr "isinstance" (by decide +kernel)
  have gW := T.gl "_law_whole" (by decide +kernel)
  have gG := T.gl "_law_gcd" (by decide +kernel)
  have bW : Binds K fdW ["thing"] [] := FW.bindsN fun _ _ _ _ _ _ us hl => match us, hl with | [_], _ => rfl
  have bG : Binds K fdG ["one", "two"] [] := FG.bindsN fun _ _ _ _ _ _ us hl => match us, hl with | [_, _], _ => rfl
  have GW : FnOk P w K mg base CX0 1 (He.ga K "_law_whole") fdW ["thing"] (spIs wholeD) := ok_whole FW T
  have GG : FnOk P w K mg base CX0 1 (He.ga K "_law_gcd") fdG ["one", "two"] spGcd := ok_gcd FG T
  refine ⟨_, PSs.nox (pss_cons (ps_if (PW.pt (pw_or (pt_not (pt_val (pe_callB call_isD (by rfl) gs (by decide +kernel) (pa_cons (pv 0) (pa_cons (pe_bltn (v := .ty "tuple") (u := .type "tuple") (by rfl) (T.fr "tuple" (by decide +kernel)) (by decide +kernel) rfl) pa_nil)))))
      (pw_or (pt_cmpR op_ne (pe_callB call_len_seq (by rfl) (T.fr "len" (by decide +kernel)) PySem.boot_len (pa_cons (pv 0) pa_nil)) pe_int (nomark _))
      (pw_or (pt_not (pt_val (pe_call GW hr rfl gW FW.kp bW .nil pass0 (pa_cons (pe_ix ix_tup (pv 0) pe_int (fun _ _ => rfl)) pa_nil))))
      (pw_or1 (pt_not (pt_val (pe_call GW hr rfl gW FW.kp bW .nil pass0 (pa_cons (pe_ix ix_tup (pv 0) pe_int (fun _ _ => rfl)) pa_nil)))))))))
      (pss_one (ps_ret pe_bl)) pss_nil)
    (pss_one (ps_ret (pe_and (pe_cmpR op_gt (pe_ix ix_tup (pv 0) pe_int (fun _ _ => rfl)) pe_int (nomark _))
      (pe_one (pe_cmpR op_eq (pe_call GG hr rfl gG FG.kp bG .nil pass0 (pa_cons (pe_ix ix_tup (pv 0) pe_int (fun _ _ => rfl)) (pa_cons (pe_callB call_abs (by rfl) (T.fr "abs" (by decide +kernel)) (by decide +kernel) (pa_cons (pe_ix ix_tup (pv 0) pe_int (fun _ _ => rfl)) pa_nil)) pa_nil))) pe_int (nomark _))))))), ?_⟩
  refine ⟨_, rfl, v, "tuple", N, d, rfl, .inr (.inr rfl), q, _, rfl, ?_⟩
  rw [isD_tup]
  by_cases e : tyD d = "tuple"
  case neg =>
    rw [beq_eq_false_iff_ne.mpr e]
    rw [no_frac e] at fin
    exact fin
  rw [beq_iff_eq.mpr e]
  obtain ⟨ds, rfl⟩ := ty_tup e
  cases q with
  | tup n ea all =>
    rename_i a xs
    have hl := all.length
    refine ⟨_, rfl, a, xs, rfl, .inr (.of ea), rfl, _, rfl, ?_⟩
    by_cases l2 : xs.length = 2
    case neg =>
      have d2 : decide (V.int (xs.length : Int) = V.int 2) = false := decide_eq_false fun y => l2 (by injection y with y; omega)
      rw [d2]
      have f : fracD (.tuple ds) = false := by
        rcases ds with _ | ⟨d1, _ | ⟨d2, _ | ⟨d3, more⟩⟩⟩
        · rfl
        · cases d1 <;> rfl
        · exact absurd hl l2
        · cases d1 <;> cases d2 <;> rfl
      rw [f] at fin
      exact fin
    rw [show decide (V.int (xs.length : Int) = V.int 2) = true from decide_eq_true (by rw [l2]; rfl)]
    obtain ⟨x, y, rfl⟩ : ∃ x y, xs = [x, y] := by
      rcases xs with _ | ⟨x, _ | ⟨y, _ | ⟨z, r⟩⟩⟩
      · cases l2
      · cases l2
      · exact ⟨x, y, rfl⟩
      · simp at l2
    cases all with
    | cons q1 all =>
      cases all with
      | cons q2 all =>
        cases all
        rename_i d1 d2
        refine ⟨_, rfl, a, _, 0, _, rfl, rfl, .of ea, at2_0, x, N, d1, rfl, q1, _, rfl, ?_⟩
        cases w1 : wholeD d1 with
        | false =>
          have f : fracD (.tuple [d1, d2]) = false := by cases d1 <;> first | rfl | cases w1
          rw [f] at fin
          exact fin
        | true =>
          obtain ⟨i, rfl⟩ := int_of_ty (beq_iff_eq.mp w1)
          cases q1
          refine ⟨_, rfl, a, _, 1, _, rfl, rfl, .of ea, at2_1, y, N, d2, rfl, q2, _, rfl, ?_⟩
          cases w2 : wholeD d2 with
          | false =>
            have f : fracD (.tuple [.int i, d2]) = false := by cases d2 <;> first | rfl | cases w2
            rw [f] at fin
            exact fin
          | true =>
            obtain ⟨j, rfl⟩ := int_of_ty (beq_iff_eq.mp w2)
            cases q2
            have f : fracD (.tuple [.int i, .int j]) = (decide (0 < j) && ((i.natAbs.gcd j.natAbs : Nat) == 1)) := rfl
            rw [f] at fin
            refine ⟨_, rfl, a, _, 1, _, rfl, rfl, .of ea, at2_1, _, _, rfl, rfl, _, rfl, ?_⟩
            cases hj : decide ((0 : Int) < j) with
            | false =>
              rw [hj] at fin
              exact fin
            | true =>
              rw [hj, Bool.true_and] at fin
              have j0 : 0 < j := of_decide_eq_true hj
              refine ⟨_, rfl, a, _, 1, _, rfl, rfl, .of ea, at2_1, _, rfl, a, _, 0, _, rfl, rfl, .of ea, at2_0, _, rfl, ?_⟩
              have au : (if i < 0 then -i else i) = (i.natAbs : Int) := by omega
              rw [au]
              refine ⟨_, _, rfl, by omega, by omega, rfl, ?_⟩
              have g : decide (V.int ((Nat.gcd j.natAbs (i.natAbs : Int).natAbs : Nat) : Int) = V.int 1) = ((i.natAbs.gcd j.natAbs : Nat) == 1) := by
                rw [dec_int, Int.natAbs_natCast, Nat.gcd_comm]
                by_cases z : i.natAbs.gcd j.natAbs = 1
                · rw [z]
                  rfl
                · have z2 : ((i.natAbs.gcd j.natAbs : Nat) : Int) ≠ 1 := by omega
                  rw [beq_eq_false_iff_ne.mpr z, beq_eq_false_iff_ne.mpr z2]
              rw [g]
              exact fin
/-- a thing is taken, things may be made -/
def spIsS (f : PyData → Bool) : Sp := fun vs H Q _ => ∃ (v : V) (N : Addr → Prop) (d : PyData), vs = [v] ∧ Dq N H v d ∧ (∀ ds, d = .tuple ds → ds.length ≤ 1000) ∧ ∀ H', Same H H' → Q (.bl (f d)) H'
theorem scIsPoly : FnScope ["thing", "each"] ["thing"] (defScope sIsPoly) := ⟨rfl, rfl, rfl, by decide +kernel, rfl, by decide +kernel, by decide +kernel⟩
theorem ok_isPoly {fdF fdW fdG : FuncData} (F : FnD K "_law_is_poly" sIsPoly fd) (T : Names K mg) (FF : FnD K "_law_is_frac" sIsFrac fdF) (FW : FnD K "_law_whole" sWhole fdW) (FG : FnD K "_law_gcd" sGcd fdG) : FnOk P w K mg base CX0 3 (He.ga K "_law_is_poly") fd ["thing"] (spIsS polyD) := by
  refine F.ok scIsPoly (fun vs H Q E ⟨_, _, _, e, _⟩ => by rw [e]; rfl) (fun cdv A outer s H vs Q E hr h => ?_)
  obtain ⟨v, N, d, rfl, q, short, fin⟩ := h
  have gs := T.fr "isinstance" (by decide +kernel)
  have gF := T.gl "_law_is_frac" (by decide +kernel)
  have bF : Binds K fdF ["thing"] [] := FF.bindsN fun _ _ _ _ _ _ us hl => match us, hl with | [_], _ => rfl
  have GF : FnOk P w K mg base CX0 2 (He.ga K "_law_is_frac") fdF ["thing"] (spIs fracD) := ok_isFrac FF T FW FG
  refine ⟨_, PSs.nox (pss_cons (ps_if (PW.pt (pw_or (pt_not (pt_val (pe_callB call_isD (by rfl) gs (by decide +kernel) (pa_cons (pv 0) (pa_cons (pe_bltn (v := .ty "tuple") (u := .type "tuple") (by rfl) (T.fr "tuple" (by decide +kernel)) (by decide +kernel) rfl) pa_nil)))))
      (pw_or1 (pt_cmpR op_eq (pe_callB call_len_seq (by rfl) (T.fr "len" (by decide +kernel)) PySem.boot_len (pa_cons (pv 0) pa_nil)) pe_int (nomark _)))))
      (pss_one (ps_ret pe_bl)) pss_nil)
    (pss_one (ps_ret (pe_and (pe_cmpR (op_eqNil hr.units) (pe_lc (own := [("each", 1)]) (g := gName 1) (by rfl) scIsPoly.nd (pi_tup (pv 0)) (blkOk_by (own := [("each", 1)]) (N := ["thing", "each"]) (sc := defScope sIsPoly) (by decide +kernel)) (fun _ _ _ _ _ => pg_name (i := 1) scIsPoly.nd rfl (Or.inl rfl))
        (fun _ _ _ _ _ => pts_one (pt_not (pt_val (pe_call GF hr rfl gF FF.kp bF .nil pass0 (pa_cons (pv 1) pa_nil))))) (fun _ _ _ _ _ => pv 1)) (pe_lst pa_nil) (nomark _))
      (pe_one (pe_cmpR op_ne (pe_ix ix_tup (pe_ix ix_tup (pv 0) (pe_un un_neg pe_int) (fun _ _ => rfl)) pe_int (fun _ _ => rfl)) pe_int (nomark _))))))), ?_⟩
  refine ⟨_, rfl, v, "tuple", N, d, rfl, .inr (.inr rfl), q, _, rfl, ?_⟩
  rw [isD_tup]
  by_cases e : tyD d = "tuple"
  case neg =>
    rw [beq_eq_false_iff_ne.mpr e]
    have z := fin H (Same.refl _)
    rw [no_poly e] at z
    exact z
  rw [beq_iff_eq.mpr e]
  obtain ⟨ds, rfl⟩ := ty_tup e
  cases q with
  | tup n ea all =>
    rename_i a xs
    have hl := all.length
    refine ⟨_, rfl, a, xs, rfl, .inr (.of ea), rfl, _, rfl, ?_⟩
    by_cases z : ds = []
    · subst z
      have l0 : xs.length = 0 := hl
      rw [l0]
      exact fin H (Same.refl _)
    have lz : xs.length ≠ 0 := fun y => z (List.length_eq_zero_iff.mp (hl ▸ y))
    rw [show decide (V.int (xs.length : Int) = V.int 0) = false from decide_eq_false fun y => lz (by injection y with y; omega)]
    have e1 : ds.isEmpty = false := by cases ds <;> first | exact absurd rfl z | rfl
    refine ⟨_, rfl, a, rfl, ⟨_, .of ea⟩, fun D hD => lc_tup (K := K) (a := a) (xs := xs) (fun i H' => Same H H' ∧ ∃ acc, H' D = some (.lst acc) ∧ acc.length ≤ i ∧ acc.isEmpty = (ds.take i).all fracD)
      ⟨same_new hD, [], upd_same, Nat.le_refl _, rfl⟩ (fun i H' _ p => .of (p.1 _ _ ea)) ?_ ?_⟩
    · rintro i x H' hi ⟨sm, acc, hA, la, ia⟩
      have hlt := (List.getElem?_eq_some_iff.mp hi).1
      obtain ⟨d1, hd1⟩ : ∃ d1, ds[i]? = some d1 := ⟨ds[i]'(by omega), List.getElem?_eq_getElem (by omega)⟩
      obtain ⟨x2, hx2, q2⟩ := dq_at all hd1
      rw [hi] at hx2
      cases hx2
      have tk : (ds.take (i + 1)).all fracD = ((ds.take i).all fracD && fracD d1) := by
        rw [List.take_add_one, hd1, List.all_append]
        simp
      refine ⟨rfl, _, rfl, x, N, d1, rfl, q2.same sm, _, rfl, ?_⟩
      cases hf : fracD d1 with
      | true =>
        exact ⟨sm, acc, hA, Nat.le_succ_of_le la, by rw [ia, tk, hf, Bool.and_true]⟩
      | false =>
        have big : acc.length < sizeLine := by
          have l1 := short ds rfl
          have l2 : sizeLine = 16777216 := sizeLine_eq
          omega
        refine ⟨_, rfl, acc, hA, big, fun b o e => ?_, acc ++ [x], upd_same, by rw [List.length_append]; exact Nat.succ_le_succ la, by rw [tk, hf, Bool.and_false]; cases acc <;> rfl⟩
        rw [upd_ne (fun z => by rw [z, hD] at e; cases e)]
        exact sm b o e
    · rintro H' ⟨sm, acc, hA, la, ia⟩
      rw [hl, List.take_length] at ia
      refine ⟨by show 0 ≤ sizeLine; omega, fun p hp => ?_⟩
      have pne : p ≠ D := fun y => by rw [y, hA] at hp; cases hp
      have sm2 : Same H (upd H' p (.lst [])) := sm.trans (same_new hp)
      refine ⟨D, p, acc, rfl, rfl, by rw [upd_ne (Ne.symm pne)]; exact hA, upd_same, _, rfl, ?_⟩
      rw [ia]
      cases ha : ds.all fracD with
      | false =>
        have y := fin _ sm2
        have b : polyD (.tuple ds) = false := by
          show (!ds.isEmpty && (ds.all fracD && ds.getLast?.any topD)) = false
          rw [ha, Bool.false_and, Bool.and_false]
        rw [b] at y
        exact y
      | true =>
        obtain ⟨a2, i, j, at1, g, b⟩ := last_frac all z ha
        have y := fin _ sm2
        rw [b] at y
        refine ⟨_, rfl, ?_⟩
        refine ⟨_, rfl, a, xs, _, _, rfl, rfl, .of (sm2 _ _ ea), at1, ?_⟩
        refine ⟨a2, _, _, _, rfl, rfl, .of (sm2 _ _ g), atI_nat (j := 0) rfl, rfl, ?_⟩
        have d2 : (!decide (V.int i = V.int 0)) = (i != 0) := by rw [dec_int]; rfl
        rw [d2]
        exact y
end
end K02
set_option Elab.async false
set_option linter.all false
set_option maxRecDepth 100000
set_option maxHeartbeats 4000000
set_option exponentiation.threshold 20000
namespace K02
open PySem PySem.Spec PyProof.Rows L2 RatFr DataR Gx OpsR
abbrev sPowers : Stmt := top 12
abbrev sCleared : Stmt := top 17
abbrev sTimes : Stmt := top 11
section
variable {P : Program} {w : World} {K : PySem.W.Frag} {mg : Str → Option Value} {base : Heap} {fd : FuncData}
theorem rd_yes {σ : L2.St} {H : Hp} {Q : Bool → Hp → Prop} (h : Q true H) : tYes σ H Q := h
/-- powers(number, many) -/
def pws (x : Int) (n : Nat) : List Int := (List.range n).map fun i => x ^ i
def spPowers : Sp := fun vs H Q _ => ∃ (x : Int) (n : Nat), vs = [.int x, .int n] ∧ x.natAbs < 2 ^ 100 ∧ n ≤ 100 ∧ ∀ p, H p = none → Q (.ref p) (upd H p (.lst ((pws x n).map V.int)))
theorem scPowers : FnScope ["number", "many", "out", "power", "_"] ["number", "many"] (defScope sPowers) := ⟨rfl, rfl, rfl, by decide +kernel, rfl, by decide +kernel, by decide +kernel⟩
theorem pow_lt {x : Int} {i : Nat} (h : x.natAbs < 2 ^ 100) : (x ^ i).natAbs < 2 ^ (100 * i + 1) := by
  rw [Int.natAbs_pow]
  have : x.natAbs ^ i ≤ (2 ^ 100) ^ i := Nat.pow_le_pow_left (Nat.le_of_lt h) i
  rw [← Nat.pow_mul] at this
  rw [Nat.pow_succ]
  have := Nat.two_pow_pos (100 * i)
  omega
theorem ok_powers (F : FnD K "powers" sPowers fd) (T : Names K mg) : FnOk P w K mg base CX0 1 (He.ga K "powers") fd ["number", "many"] spPowers := by
  refine F.ok scPowers (fun vs H Q E ⟨_, _, e, _⟩ => by rw [e]; rfl) (fun cdv A outer s H vs Q E hr h => ?_)
  obtain ⟨x, n, rfl, hx, hn, fin⟩ := h
  refine ⟨_, PSs.nox (pss_cons (ps_set (i := 2) scPowers.nd rfl (Or.inl rfl) (pe_lst pa_nil)) (pss_cons (ps_set (i := 3) scPowers.nd rfl (Or.inl rfl) pe_int)
    (pss_cons (ps_for PassesOwn.never rfl (pi_range1 rfl (T.fr "range" (by decide +kernel)) (pa_cons (pv 1) pa_nil)) (pg_name (i := 4) scPowers.nd rfl (Or.inl rfl))
      (pss_cons (ps_expr (pe_bm PySem.F.plainAttrs_list PySem.F.slot_list_append PySem.F.type_list_append mt_append (pv 2) (pa_cons (pv 3) pa_nil)))
      (pss_one (ps_aug (i := 3) scPowers.nd rfl (Or.inl rfl) (pv 0) ip_mulW))))
    (pss_one (ps_ret (pv 2)))))), ?_⟩
  refine ⟨by show 0 ≤ sizeLine; omega, fun p hp => ?_⟩
  refine ⟨_, rfl, n, rfl, by omega, by omega, for_range (lo := 0) (n := n) (fun i σ H' => H' = upd H p (.lst ((pws x i).map V.int)) ∧ ∃ (z : Option V) (y : Int), y = x ^ i ∧ σ = [some (.int x), some (.int n), some (.ref p), some (.int y), z])
    ⟨rfl, _, 1, by rw [Int.pow_zero], rfl⟩ ?_ ?_⟩
  · rintro i σ H' hi ⟨rfl, z, y, ey, rfl⟩
    have l1 : ((pws x i).map V.int).length = i := by simp [pws]
    have sz : sizeLine = 16777216 := sizeLine_eq
    refine ⟨_, rfl, .inl ⟨rfl, _, .of upd_same⟩, _, rfl, p, _, _, rfl, rfl, upd_same, by rw [l1]; omega, ?_⟩
    refine ⟨_, rfl, _, rfl, _, _, rfl, rfl, wide_mul (a := 100 * i + 1) (b := 100) (by rw [ey]; exact pow_lt hx) hx (by omega) (by omega) (by omega), ?_⟩
    refine ⟨?_, _, y * x, by rw [ey, Int.pow_succ], rfl⟩
    rw [upd_upd, ey]
    unfold pws
    rw [List.range_succ, List.map_append, List.map_append]
    rfl
  · rintro σ H' ⟨rfl, z, y, _, rfl⟩
    exact ⟨_, rfl, fin p hp⟩
/-- cleared(polynomial) -/
def spCleared : Sp := fun vs H Q _ => ∃ (v : V) (qs : List Rat), vs = [v] ∧ PolyAt H v qs ∧ Few qs ∧ ∀ H' t l, Same H H' → H' t = some (.tup [.ref l, .int (lc qs)]) → H' l = some (.lst ((nums qs).map V.int)) → H l = none → Q (.ref t) H'
theorem scCleared : FnScope ["polynomial", "shared", "_", "under", "top"] ["polynomial"] (defScope sCleared) := ⟨rfl, rfl, rfl, by decide +kernel, rfl, by decide +kernel, by decide +kernel⟩
theorem ok_cleared (F : FnD K "cleared" sCleared fd) (mL : mg "lcm" = some (.builtin "math.lcm")) : FnOk P w K mg base CX0 1 (He.ga K "cleared") fd ["polynomial"] spCleared := by
  refine F.ok scCleared (fun vs H Q E ⟨_, _, e, _⟩ => by rw [e]; rfl) (fun cdv A outer s H vs Q E hr h => ?_)
  obtain ⟨v, qs, rfl, ⟨a, xs, rfl, ha, hl, hx⟩, few, fin⟩ := h
  refine ⟨_, PSs.nox (pss_cons (ps_set (i := 1) scCleared.nd rfl (Or.inr rfl) pe_int)
    (pss_cons (ps_for PassesOwn.never rfl (pi_tup (pv 0)) (pg_tup rfl (pgs_cons (pg_name (i := 2) scCleared.nd rfl (Or.inl rfl)) (pgs_cons (pg_name (i := 3) scCleared.nd rfl (Or.inl rfl)) pgs_nil)))
      (pss_one (ps_set (i := 1) scCleared.nd rfl (Or.inr rfl) (pe_callBfun cr_lcm (by rfl) mL (pa_cons (pv 1) (pa_cons (pv 3) pa_nil))))))
    (pss_one (ps_ret (pe_tup (pa_cons (pe_lc (own := [("top", 4), ("under", 3)]) (g := gTup K 2 (gCons (gName 4) (gCons (gName 3) gNil))) (tt := tYes) (by rfl) scCleared.nd (pi_tup (pv 0)) (blkOk_by (own := [("top", 4), ("under", 3)]) (N := ["polynomial", "shared", "_", "under", "top"]) (sc := defScope sCleared) (by decide +kernel))
        (fun _ _ _ _ _ => pg_tup rfl (pgs_cons (pg_name (i := 4) scCleared.nd rfl (Or.inl rfl)) (pgs_cons (pg_name (i := 3) scCleared.nd rfl (Or.inl rfl)) pgs_nil))) (fun _ _ _ _ _ => pts_nil) (fun _ _ _ _ _ => pe_op op_mulW (pv 4) (pe_op op_fdivW (pv 1) (pv 3))))
      (pa_cons (pv 1) pa_nil))))))), ?_⟩
  have sz : sizeLine = 16777216 := sizeLine_eq
  have l7 := few.len
  refine ⟨_, rfl, a, rfl, ⟨xs, .of ha⟩, for_tup (K := K) (a := a) (xs := xs) (fun i σ H' => H' = H ∧ ∃ y z, σ = [some (.ref a), some (.int (lc (qs.take i))), y, z, none]) ⟨rfl, _, _, rfl⟩ (fun i σ H' _ p => by rw [p.1]; exact .of ha) ?_ ?_⟩
  · rintro i x σ H' hi ⟨rfl, y, z, rfl⟩
    have hlt := (List.getElem?_eq_some_iff.mp hi).1
    obtain ⟨q, hq⟩ : ∃ q, qs[i]? = some q := ⟨qs[i]'(by omega), List.getElem?_eq_getElem (by omega)⟩
    obtain ⟨b, hb, gb⟩ := hx i q hq
    rw [hi] at hb
    cases hb
    have tk : lc (qs.take (i + 1)) = Nat.lcm (lc (qs.take i)) q.den := by
      rw [List.take_add_one, hq]
      exact lc_snoc _ _
    have b1 := few.lcs i
    have b2 := few.den q (List.mem_of_getElem? hq)
    refine ⟨b, _, rfl, .of gb, rfl, _, _, rfl, _, _, rfl, rfl, _, rfl, _, rfl, _, _, rfl, by rw [Int.natAbs_natCast]; omega, by rw [Int.natAbs_natCast]; omega, ?_⟩
    refine ⟨rfl, some (.int q.num), some (.int q.den), ?_⟩
    rw [tk]
    rfl
  · rintro σ H' ⟨rfl, y, z, rfl⟩
    have full : qs.take xs.length = qs := by rw [hl, List.take_length]
    rw [full]
    have hS : ∀ {D : Addr} {o : HO}, H' D = none → upd H' D o a = some (.tup xs) := fun {D o} hD => by
      rw [upd_ne (fun z => by rw [z, hD] at ha; cases ha)]
      exact ha
    refine ⟨_, rfl, a, rfl, ⟨xs, .of ha⟩, fun D hD => lc_tup (K := K) (a := a) (xs := xs) (fun i H2 => H2 = upd H' D (.lst (((nums qs).take i).map V.int))) rfl (fun i H2 _ p => by rw [p]; exact .of (hS hD)) ?_ ?_⟩
    · rintro i x H2 hi rfl
      have hlt := (List.getElem?_eq_some_iff.mp hi).1
      obtain ⟨q, hq⟩ : ∃ q, qs[i]? = some q := ⟨qs[i]'(by omega), List.getElem?_eq_getElem (by omega)⟩
      obtain ⟨b, hb, gb⟩ := hx i q hq
      rw [hi] at hb
      cases hb
      have gb2 : upd H' D (.lst (((nums qs).take i).map V.int)) b = some (fr q) := by
        rw [upd_ne (fun z => by rw [z, hD] at gb; cases gb)]
        exact gb
      have mq := List.mem_of_getElem? hq
      have d0 : (0 : Int) < q.den := den_pos q
      have b2 : (q.den : Int).natAbs < 2 ^ 9 := by have := few.den q mq; rw [Int.natAbs_natCast]; omega
      have b3 : lc qs ≤ 2 ^ 56 := by have := few.lcs qs.length; rwa [List.take_length] at this
      have b4 : ((lc qs : Int) / q.den).natAbs < 2 ^ 57 := Nat.lt_of_le_of_lt (Int.natAbs_ediv_le_natAbs _ _) (by rw [Int.natAbs_natCast]; omega)
      have nx : (nums qs).take (i + 1) = (nums qs).take i ++ [q.num * ((lc qs : Int) / q.den)] := by
        rw [List.take_add_one, show (nums qs)[i]? = some (q.num * ((lc qs : Int) / q.den)) by unfold nums; rw [List.getElem?_map, hq]; rfl]
        rfl
      refine ⟨b, _, rfl, .of gb2, rfl, _, _, rfl, _, _, rfl, rfl, rfl, rd_yes ?_⟩
      rw [if_pos rfl]
      refine ⟨_, rfl, _, rfl, _, rfl, _, _, rfl, rfl, wide_div d0 b2 (by decide) (by decide), _, _, rfl, rfl, wide_mul (few.num q mq) b4 (by decide) (by decide) (by decide), _, upd_same, ?_, ?_⟩
      · rw [List.length_map, List.length_take]
        omega
      · rw [upd_upd, nx, List.map_append]
        rfl
    · rintro H2 rfl
      have fullN : (nums qs).take xs.length = nums qs := by
        rw [List.take_of_length_le]
        unfold nums
        rw [List.length_map]
        omega
      rw [fullN]
      refine ⟨_, rfl, by show 2 ≤ sizeLine; omega, fun p hp => ?_⟩
      have pne : D ≠ p := fun z => by rw [← z, upd_same] at hp; cases hp
      exact fin _ p D ((same_new hD).trans (same_new hp)) upd_same (by rw [upd_ne pne]; exact upd_same) hD
end
end K02
set_option Elab.async false
set_option linter.all false
set_option maxRecDepth 100000
set_option maxHeartbeats 4000000
set_option exponentiation.threshold 20000
namespace K02
open PySem PySem.Spec PyProof.Rows L2 RatFr DataR Gx OpsR Zip3
abbrev sSpread : Stmt := top 13
section
variable {P : Program} {w : World} {K : PySem.W.Frag} {mg : Str → Option Value} {base : Heap} {fd : FuncData}
theorem same_put {H H' : Hp} {D : Addr} {o : HO} (s : Same H H') (h : H D = none) : Same H (upd H' D o) := fun b u e => by
  rw [upd_ne (fun z => by rw [z, h] at e; cases e)]
  exact s b u e
theorem pws_at {x : Int} {n i : Nat} {u : V} (h : ((pws x n).map V.int)[i]? = some u) : u = .int (x ^ i) ∧ i < n := by
  have l : i < n := by
    have := (List.getElem?_eq_some_iff.mp h).1
    simpa [pws] using this
  unfold pws at h
  rw [List.getElem?_map, List.getElem?_map, List.getElem?_range l] at h
  exact ⟨(Option.some.inj h).symm, l⟩
theorem pws_rev {x : Int} {n i : Nat} {u : V} (h : ((pws x n).map V.int).reverse[i]? = some u) : u = .int (x ^ (n - 1 - i)) := by
  have l0 : ((pws x n).map V.int).length = n := by simp [pws]
  have l : i < n := by
    have := (List.getElem?_eq_some_iff.mp h).1
    rw [List.length_reverse, l0] at this
    exact this
  rw [List.getElem?_reverse (by rw [l0]; exact l), l0] at h
  exact (pws_at h).1
/-- spread(numbers, top, under) -/
def spr (ns : List Int) (x y : Int) : List Int := (List.range ns.length).map fun i => ns.getD i 0 * x ^ i * y ^ (ns.length - 1 - i)
def spSpread : Sp := fun vs H Q _ => ∃ (a : Addr) (ns : List Int) (x y : Int), vs = [.ref a, .int x, .int y] ∧ H a = some (.lst (ns.map V.int)) ∧ ns.length ≤ 20 ∧ (∀ n ∈ ns, n.natAbs < 2 ^ 2000) ∧ x.natAbs < 2 ^ 100 ∧ y.natAbs < 2 ^ 100 ∧
  ∀ H' p, Same H H' → H p = none → H' p = some (.lst ((spr ns x y).map V.int)) → Q (.ref p) H'
theorem scSpread : FnScope ["numbers", "top", "under", "many", "ups", "downs", "number", "up", "down"] ["numbers", "top", "under"] (defScope sSpread) := ⟨rfl, rfl, rfl, by decide +kernel, rfl, by decide +kernel, by decide +kernel⟩
theorem ok_spread {fdP : FuncData} (F : FnD K "spread" sSpread fd) (T : Names K mg) (FP : FnD K "powers" sPowers fdP) : FnOk P w K mg base CX0 2 (He.ga K "spread") fd ["numbers", "top", "under"] spSpread := by
  refine F.ok scSpread (fun vs H Q E ⟨_, _, _, _, e, _⟩ => by rw [e]; rfl) (fun cdv A outer s H vs Q E hr h => ?_)
  obtain ⟨a, ns, x, y, rfl, ha, l20, hns, hx, hy, fin⟩ := h
  have gP := T.gl "powers" (by decide +kernel)
  have bP : Binds K fdP ["number", "many"] [] := FP.bindsN fun _ _ _ _ _ _ us hl => match us, hl with | [_, _], _ => rfl
  have GP : FnOk P w K mg base CX0 1 (He.ga K "powers") fdP ["number", "many"] spPowers := ok_powers FP T
  refine ⟨_, PSs.nox (pss_cons (ps_set (i := 3) scSpread.nd rfl (Or.inl rfl) (pe_callB call_len_seq (by rfl) (T.fr "len" (by decide +kernel)) PySem.boot_len (pa_cons (pv 0) pa_nil)))
    (pss_cons (ps_par (i := 4) (j := 5) (by rfl) scSpread.nd rfl rfl (by decide) rfl rfl (pa_cons (pe_call GP hr rfl gP FP.kp bP .nil pass0 (pa_cons (pv 1) (pa_cons (pv 3) pa_nil))) (pa_cons (pe_revL (pe_call GP hr rfl gP FP.kp bP .nil pass0 (pa_cons (pv 2) (pa_cons (pv 3) pa_nil)))) pa_nil)) (by rfl))
    (pss_one (ps_ret (pe_lc (own := [("number", 6), ("up", 7), ("down", 8)]) (g := gTup K 3 (gCons (gName 6) (gCons (gName 7) (gCons (gName 8) gNil)))) (tt := tYes) (by rfl) scSpread.nd (pi_zip3 (by rfl) (T.fr "zip" (by decide +kernel)) (pa_cons (pv 0) (pa_cons (pv 4) (pa_cons (pv 5) pa_nil))))
      (blkOk_by (own := [("number", 6), ("up", 7), ("down", 8)]) (N := ["numbers", "top", "under", "many", "ups", "downs", "number", "up", "down"]) (sc := defScope sSpread) (by decide +kernel))
      (fun _ _ _ _ _ => pg_tup rfl (pgs_cons (pg_name (i := 6) scSpread.nd rfl (Or.inl rfl)) (pgs_cons (pg_name (i := 7) scSpread.nd rfl (Or.inl rfl)) (pgs_cons (pg_name (i := 8) scSpread.nd rfl (Or.inl rfl)) pgs_nil)))) (fun _ _ _ _ _ => pts_nil)
      (fun _ _ _ _ _ => pe_op op_mulW (pe_op op_mulW (pv 6) (pv 7)) (pv 8))))))), ?_⟩
  have sz : sizeLine = 16777216 := sizeLine_eq
  have lm : (ns.map V.int).length = ns.length := List.length_map _
  refine ⟨_, rfl, a, _, rfl, .inl (.of ha), ?_⟩
  rw [lm]
  refine ⟨_, rfl, _, rfl, x, ns.length, rfl, hx, by omega, fun p1 h1 => ?_⟩
  refine ⟨_, rfl, _, rfl, y, ns.length, rfl, hy, by omega, fun p2 h2 => ⟨p2, _, rfl, .of upd_same, fun p3 h3 => ⟨_, _, rfl, ?_⟩⟩⟩
  have s3 := ((same_new (o := .lst ((pws x ns.length).map V.int)) h1).trans (same_new (o := .lst ((pws y ns.length).map V.int)) h2)).trans (same_new (o := .lst ((pws y ns.length).map V.int).reverse) h3)
  have e1 := ((same_new (o := .lst ((pws y ns.length).map V.int)) h2).trans (same_new (o := .lst ((pws y ns.length).map V.int).reverse) h3)) p1 _ upd_same
  have e3 : upd (upd (upd H p1 (.lst ((pws x ns.length).map V.int))) p2 (.lst ((pws y ns.length).map V.int))) p3 (.lst ((pws y ns.length).map V.int).reverse) p3 = some (.lst ((pws y ns.length).map V.int).reverse) := upd_same
  generalize upd (upd (upd H p1 (.lst ((pws x ns.length).map V.int))) p2 (.lst ((pws y ns.length).map V.int))) p3 (.lst ((pws y ns.length).map V.int).reverse) = H3 at s3 e1 e3 ⊢
  have ea := s3 _ _ ha
  have ls : (spr ns x y).length = ns.length := by simp [spr]
  refine ⟨_, rfl, _, rfl, _, rfl, a, p1, p3, _, _, _, rfl, .of ea, .of e1, .of e3, fun D hD => lc_zip3 (K := K) (xs := ns.map V.int) (ys := (pws x ns.length).map V.int) (zs := ((pws y ns.length).map V.int).reverse) (n := ns.length) lm (by simp [pws]) (by simp [pws])
    (fun i H' => Same H3 H' ∧ H' D = some (.lst (((spr ns x y).take i).map V.int))) ⟨same_new hD, upd_same⟩ (fun i H' _ p => ⟨.of (p.1 _ _ ea), .of (p.1 _ _ e1), .of (p.1 _ _ e3)⟩) ?_ ?_⟩
  · rintro i u v w T H' hu hv hw ⟨sm, hA⟩ hT
    rw [List.getElem?_map] at hu
    obtain ⟨c, hc, rfl⟩ := Option.map_eq_some_iff.mp hu
    obtain ⟨rfl, lt⟩ := pws_at hv
    have ew := pws_rev hw
    subst ew
    have mc := List.mem_of_getElem? hc
    have nD : T ≠ D := fun z => by rw [z, hA] at hT; cases hT
    have b1 : (c * x ^ i).natAbs < 2 ^ (2000 + (100 * i + 1)) := wide_lt (hns c mc) (pow_lt hx)
    have nx : (spr ns x y).take (i + 1) = (spr ns x y).take i ++ [c * x ^ i * y ^ (ns.length - 1 - i)] := by
      rw [List.take_add_one, show (spr ns x y)[i]? = some (c * x ^ i * y ^ (ns.length - 1 - i)) by
        unfold spr
        rw [List.getElem?_map, List.getElem?_range lt, Option.map_some, List.getD_eq_getElem?_getD, hc]
        rfl]
      rfl
    refine ⟨T, _, rfl, .of upd_same, rfl, _, _, rfl, _, _, rfl, _, _, rfl, rfl, rfl, rd_yes ?_⟩
    rw [if_pos rfl]
    refine ⟨_, rfl, _, rfl, _, _, rfl, rfl, wide_mul (hns c mc) (pow_lt hx) (by decide) (by omega) (by omega), _, rfl, _, _, rfl, rfl, wide_mul b1 (pow_lt (i := ns.length - 1 - i) hy) (by omega) (by omega) (by omega), _, (upd_ne (Ne.symm nD)).trans hA, ?_, ?_, ?_⟩
    · rw [List.length_map, List.length_take]
      omega
    · exact same_put (sm.trans (same_new hT)) hD
    · rw [upd_same, nx, List.map_append]
      rfl
  · rintro H' ⟨sm, hA⟩
    rw [List.take_of_length_le (by omega)] at hA
    exact fin H' D (s3.trans sm) (s3.free hD) hA
end
end K02
set_option Elab.async false
set_option linter.all false
set_option maxRecDepth 100000
set_option maxHeartbeats 4000000
set_option exponentiation.threshold 20000
namespace K02
open PySem PySem.Spec PyProof.Rows L2 RatFr DataR Gx OpsR
theorem for_enum {K : PySem.W.Frag} {a : Addr} {xs : List V} {g : TG} {tb : TS} {D : Ends} {σ : L2.St} {H : Hp} (Pv : Nat → L2.St → Hp → Prop) (h0 : Pv 0 σ H) (hl : ∀ i σ H, i ≤ xs.length → Pv i σ H → SqL K H a xs)
    (hs : ∀ i x T σ H, xs[i]? = some x → Pv i σ H → H T = none → g (.ref T) σ (upd H T (.tup [.int (i : Nat), x])) fun σ2 H2 => tb { D with nx := Pv (i + 1), ct := Pv (i + 1), bk := D.nx } σ2 H2) (hd : ∀ σ H, Pv xs.length σ H → D.nx σ H) :
    ∃ W : Nat → Nat → L2.St → Hp → Prop, (∃ m, W 0 m σ H) ∧ ∀ i m σ H, W i m σ H →
      ((Ite K a).stop i H ∧ D.nx σ H) ∨ ((Ite K a).go i H ∧ ∃ N : L2.St → Hp → Prop, (∀ σ' H', N σ' H' → ∃ m', m' < m ∧ W (i + 1) m' σ' H') ∧ ∀ x H', (Ite K a).yld i H x H' → g x σ H' fun σ2 H2 => tb { D with nx := N, ct := N, bk := D.nx } σ2 H2) := by
  refine ⟨fun i m σ H => m = xs.length - i ∧ i ≤ xs.length ∧ Pv i σ H, ⟨xs.length, rfl, Nat.zero_le _, h0⟩, ?_⟩
  rintro i m σ H ⟨rfl, hi, p⟩
  have q := hl i σ H hi p
  by_cases lt : i < xs.length
  · refine .inr ⟨⟨xs, _, q, List.getElem?_eq_getElem lt⟩, Pv (i + 1), fun σ' H' p' => ⟨xs.length - (i + 1), by omega, rfl, lt, p'⟩, fun v H' y => ?_⟩
    obtain ⟨T, x, rfl, hT, rfl, f⟩ := y
    exact hs i x T σ H (f xs q) p hT
  · have e : i = xs.length := by omega
    subst e
    exact .inl ⟨⟨xs, q, Nat.le_refl _⟩, hd σ H p⟩
section
variable {P : Program} {w : World} {K : PySem.W.Frag} {mg : Str → Option Value} {base : Heap} {fd : FuncData}
def addAt (o : List Int) (k : Nat) (v : Int) : List Int := o.set k (o.getD k 0 + v)
def inn (o : List Int) (i : Nat) (a : Int) (ms : List Int) : Nat → List Int
  | 0 => o
  | j + 1 => addAt (inn o i a ms j) (i + j) (a * ms.getD j 0)
def outs (ns ms : List Int) : Nat → List Int
  | 0 => List.replicate (ns.length + ms.length - 1) 0
  | i + 1 => inn (outs ns ms i) i (ns.getD i 0) ms ms.length
def conv (ns ms : List Int) : List Int := outs ns ms ns.length
theorem inn_len {o : List Int} {i : Nat} {a : Int} {ms : List Int} : ∀ j, (inn o i a ms j).length = o.length
  | 0 => rfl
  | j + 1 => by
    show (addAt _ _ _).length = _
    unfold addAt
    rw [List.length_set, inn_len j]
theorem outs_len {ns ms : List Int} : ∀ i, (outs ns ms i).length = ns.length + ms.length - 1
  | 0 => List.length_replicate
  | i + 1 => by
    show (inn _ _ _ _ _).length = _
    rw [inn_len, outs_len i]
theorem flat_zero : ∀ k : Nat, (List.replicate k [V.int 0]).flatten = (List.replicate k (0 : Int)).map V.int
  | 0 => rfl
  | k + 1 => by
    rw [List.replicate_succ, List.flatten_cons, flat_zero k, List.replicate_succ]
    rfl
theorem add_at {o : List Int} {k : Nat} {v x : Int} (h : o[k]? = some x) : (o.map V.int).set k (.int (x + v)) = (addAt o k v).map V.int := by
  unfold addAt
  rw [List.getD_eq_getElem?_getD, h, List.map_set]
  rfl
/-- times(first, second) -/
def spTimes : Sp := fun vs H Q _ => ∃ (a b : Addr) (ns ms : List Int), vs = [.ref a, .ref b] ∧ H a = some (.lst (ns.map V.int)) ∧ H b = some (.lst (ms.map V.int)) ∧ 0 < ns.length ∧ 0 < ms.length ∧ ns.length ≤ 20 ∧ ms.length ≤ 20 ∧ (∀ n ∈ ns, n.natAbs < 2 ^ 2000) ∧ (∀ n ∈ ms, n.natAbs < 2 ^ 2000) ∧
  ∀ H' p, Same H H' → H p = none → H' p = some (.lst ((conv ns ms).map V.int)) → Q (.ref p) H'
theorem scTimes : FnScope ["first", "second", "out", "at", "number", "further", "factor"] ["first", "second"] (defScope sTimes) := ⟨rfl, rfl, rfl, by decide +kernel, rfl, by decide +kernel, by decide +kernel⟩
theorem ok_times (F : FnD K "times" sTimes fd) (T : Names K mg) : FnOk P w K mg base CX0 1 (He.ga K "times") fd ["first", "second"] spTimes := by
  refine F.ok scTimes (fun vs H Q E ⟨_, _, _, _, e, _⟩ => by rw [e]; rfl) (fun cdv A outer s H vs Q E hr h => ?_)
  obtain ⟨a, b, ns, ms, rfl, ha, hb, l0, m0, l20, m20, hns, hms, fin⟩ := h
  have gl := T.fr "len" (by decide +kernel)
  have ge := T.fr "enumerate" (by decide +kernel)
  refine ⟨_, PSs.nox (pss_cons (ps_if (PW.pt (pw_or (pt_not (pt_truth (pv 0) (by intro _; rfl))) (pw_or1 (pt_not (pt_truth (pv 1) (by intro _; rfl)))))) (pss_one (ps_ret (pe_lst pa_nil))) pss_nil)
    (pss_cons (ps_set (i := 2) scTimes.nd rfl (Or.inl rfl) (pe_op op_rep (pe_lst (pa_cons pe_int pa_nil)) (pe_op op_sub (pe_op op_add (pe_callB call_len_seq (by rfl) gl PySem.boot_len (pa_cons (pv 0) pa_nil)) (pe_callB call_len_seq (by rfl) gl PySem.boot_len (pa_cons (pv 1) pa_nil))) pe_int)))
    (pss_cons (ps_for PassesOwn.never rfl (pi_enum (by rfl) ge (pa_cons (pv 0) pa_nil)) (pg_tup rfl (pgs_cons (pg_name (i := 3) scTimes.nd rfl (Or.inl rfl)) (pgs_cons (pg_name (i := 4) scTimes.nd rfl (Or.inl rfl)) pgs_nil)))
      (pss_one (ps_for PassesOwn.never rfl (pi_enum (by rfl) ge (pa_cons (pv 1) pa_nil)) (pg_tup rfl (pgs_cons (pg_name (i := 5) scTimes.nd rfl (Or.inl rfl)) (pgs_cons (pg_name (i := 6) scTimes.nd rfl (Or.inl rfl)) pgs_nil)))
        (pss_one (ps_augS (pv 2) (pe_op op_add (pv 3) (pv 5)) get_list (pe_op op_mulW (pv 4) (pv 6)) ip_add set_list)))))
    (pss_one (ps_ret (pv 2)))))), ?_⟩
  have sz : sizeLine = 16777216 := sizeLine_eq
  have lm1 : (ns.map V.int).length = ns.length := List.length_map _
  have lm2 : (ms.map V.int).length = ms.length := List.length_map _
  have e1 : (ns.map V.int).isEmpty = false := by cases ns <;> first | rfl | cases l0
  have e2 : (ms.map V.int).isEmpty = false := by cases ms <;> first | rfl | cases m0
  refine ⟨_, rfl, _, .inl ⟨_, .of ha, rfl⟩, ?_⟩
  rw [e1]
  refine ⟨_, rfl, _, .inl ⟨_, .of hb, rfl⟩, ?_⟩
  rw [e2]
  refine ⟨by show 1 ≤ sizeLine; omega, fun z hz => ?_⟩
  have ha1 := same_new (o := .lst [.int 0]) hz _ _ ha
  have hb1 := same_new (o := .lst [.int 0]) hz _ _ hb
  refine ⟨_, rfl, a, _, rfl, .inl (.of ha1), _, rfl, b, _, rfl, .inl (.of hb1), _, _, rfl, rfl, _, _, rfl, rfl, z, _, _, rfl, rfl, upd_same, ?_, ?_, ?_, fun p hp => ?_⟩
  · rw [lm1, lm2]
    omega
  · rw [lm1, lm2]
    omega
  · rw [lm1, lm2]
    show 1 * _ ≤ _
    omega
  have hz1 : upd H z (.lst [.int 0]) p = none := hp
  have pH : H p = none := (same_new (o := .lst [.int 0]) hz).free hz1
  have kn : ((((ns.map V.int).length : Int) + ((ms.map V.int).length : Int) - 1).toNat) = ns.length + ms.length - 1 := by
    rw [lm1, lm2]
    omega
  have s1 : Same H (upd (upd H z (.lst [.int 0])) p (.lst (List.replicate (((ns.map V.int).length : Int) + ((ms.map V.int).length : Int) - 1).toNat [V.int 0]).flatten)) := (same_new hz).trans (same_new hz1)
  have ep : upd (upd H z (.lst [.int 0])) p (.lst (List.replicate (((ns.map V.int).length : Int) + ((ms.map V.int).length : Int) - 1).toNat [V.int 0]).flatten) p = some (.lst ((outs ns ms 0).map V.int)) := by
    rw [upd_same, kn, flat_zero]
    rfl
  generalize upd (upd H z (.lst [.int 0])) p (.lst (List.replicate (((ns.map V.int).length : Int) + ((ms.map V.int).length : Int) - 1).toNat [V.int 0]).flatten) = H1 at s1 ep ⊢
  refine ⟨_, rfl, a, _, rfl, .of (s1 _ _ ha), for_enum (K := K) (a := a) (xs := ns.map V.int) (fun i σ H' => Same H H' ∧ H' p = some (.lst ((outs ns ms i).map V.int)) ∧ ∃ u1 u2 u3 u4, σ = [some (.ref a), some (.ref b), some (.ref p), u1, u2, u3, u4])
    ⟨s1, ep, _, _, _, _, rfl⟩ (fun i σ H' _ q => .of (q.1 _ _ ha)) ?_ ?_⟩
  · rintro i x T1 σ H2 hi ⟨s2, g2, u1, u2, u3, u4, rfl⟩ hT1
    rw [List.getElem?_map] at hi
    obtain ⟨c, hc, rfl⟩ := Option.map_eq_some_iff.mp hi
    have lti := (List.getElem?_eq_some_iff.mp hc).1
    have cD : ns.getD i 0 = c := by rw [List.getD_eq_getElem?_getD, hc]; rfl
    have n1 : T1 ≠ p := fun y => by rw [y, g2] at hT1; cases hT1
    refine ⟨T1, _, rfl, .of upd_same, rfl, _, _, rfl, _, _, rfl, rfl, ?_⟩
    have s2' : Same H (upd H2 T1 (.tup [.int (i : Nat), .int c])) := s2.trans (same_new hT1)
    refine ⟨_, rfl, b, _, rfl, .of (s2' _ _ hb), for_enum (K := K) (a := b) (xs := ms.map V.int) (fun j σ H' => Same H H' ∧ H' p = some (.lst ((inn (outs ns ms i) i c ms j).map V.int)) ∧ ∃ u3 u4, σ = [some (.ref a), some (.ref b), some (.ref p), some (.int (i : Nat)), some (.int c), u3, u4])
      ⟨s2', (upd_ne (Ne.symm n1)).trans g2, _, _, rfl⟩ (fun j σ H' _ q => .of (q.1 _ _ hb)) ?_ ?_⟩
    · rintro j y T2 σ H3 hj ⟨s3, g3, v3, v4, rfl⟩ hT2
      rw [List.getElem?_map] at hj
      obtain ⟨d, hd, rfl⟩ := Option.map_eq_some_iff.mp hj
      have ltj := (List.getElem?_eq_some_iff.mp hd).1
      have n2 : T2 ≠ p := fun y => by rw [y, g3] at hT2; cases hT2
      have lo : (inn (outs ns ms i) i c ms j).length = ns.length + ms.length - 1 := by rw [inn_len, outs_len]
      have lk : i + j < (inn (outs ns ms i) i c ms j).length := by omega
      have dD : ms.getD j 0 = d := by rw [List.getD_eq_getElem?_getD, hd]; rfl
      have g3' : upd H3 T2 (.tup [.int (j : Nat), .int d]) p = some (.lst ((inn (outs ns ms i) i c ms j).map V.int)) := (upd_ne (Ne.symm n2)).trans g3
      have ij : ((i : Int) + (j : Int)) = ((i + j : Nat) : Int) := by omega
      obtain ⟨x0, hx0⟩ : ∃ x0, (inn (outs ns ms i) i c ms j)[i + j]? = some x0 := ⟨_, List.getElem?_eq_getElem lk⟩
      refine ⟨T2, _, rfl, .of upd_same, rfl, _, _, rfl, _, _, rfl, rfl, ?_⟩
      refine ⟨_, rfl, _, rfl, _, rfl, _, _, rfl, rfl, ?_⟩
      refine ⟨p, _, i + j, .int x0, rfl, by show V.int _ = V.int _; rw [ij], g3', by rw [List.getElem?_map, hx0]; rfl, _, rfl, _, rfl, _, _, rfl, rfl, wide_mul (hns c (List.mem_of_getElem? hc)) (hms d (List.mem_of_getElem? hd)) (by decide) (by decide) (by decide), _, _, rfl, rfl, ?_⟩
      refine ⟨p, _, (i : Int) + (j : Int), i + j, rfl, rfl, g3', ?_, ?_⟩
      · rw [ij]
        unfold ixN
        rw [List.length_map, if_pos (by omega), if_pos (by omega)]
        rfl
      · refine ⟨same_put (s3.trans (same_new hT2)) pH, ?_, _, _, rfl⟩
        rw [upd_same, add_at hx0]
        show _ = some (HO.lst ((addAt (inn (outs ns ms i) i c ms j) (i + j) (c * ms.getD j 0)).map V.int))
        rw [dD]
    · rintro σ H3 ⟨s3, g3, v3, v4, rfl⟩
      rw [lm2] at g3
      refine ⟨s3, ?_, _, _, _, _, rfl⟩
      show _ = some (HO.lst ((inn (outs ns ms i) i (ns.getD i 0) ms ms.length).map V.int))
      rw [cD]
      exact g3
  · rintro σ H2 ⟨s2, g2, u1, u2, u3, u4, rfl⟩
    rw [lm1] at g2
    exact ⟨_, rfl, fin H2 p s2 pH g2⟩
end
end K02
set_option Elab.async false
set_option linter.all false
set_option maxRecDepth 100000
set_option maxHeartbeats 4000000
set_option exponentiation.threshold 20000
namespace K02
open PySem PySem.Spec PyProof.Rows L2 RatFr DataR Gx OpsR
abbrev sPWhole : Stmt := top 6
abbrev sPFrac : Stmt := top 7
abbrev sChkF : Stmt := top 8
abbrev sChkP : Stmt := top 16
abbrev sPPoly : Stmt := top 15
/-! ### fractions and polynomials as data -/
def frD (q : Rat) : PyData := .tuple [.int q.num, .int q.den]
def polyOf (qs : List Rat) : PyData := .tuple (qs.map frD)
abbrev Any : Addr → Prop := fun _ => True
theorem fr_dq {H : Hp} {v : V} {q : Rat} (h : FrAt H v q) : Dq Any H v (frD q) := by
  obtain ⟨a, rfl, g⟩ := h
  exact .tup True.intro g (.cons (.int _) (.cons (.int _) .nil))
theorem frac_frD (q : Rat) : fracD (frD q) = true := by
  show (decide ((0 : Int) < q.den) && ((q.num.natAbs.gcd (q.den : Int).natAbs : Nat) == 1)) = true
  rw [decide_eq_true (den_pos q), Int.natAbs_natCast, Bool.true_and]
  exact beq_iff_eq.mpr q.reduced
theorem poly_all {H : Hp} : ∀ {qs : List Rat} {xs : List V}, xs.length = qs.length → (∀ (i : Nat) (q : Rat), qs[i]? = some q → ∃ b, xs[i]? = some (.ref b) ∧ H b = some (fr q)) → DqAll Any H xs (qs.map frD)
  | [], [], _, _ => .nil
  | q :: qs, x :: xs, l, f => by
    obtain ⟨b, e, g⟩ := f 0 q rfl
    cases e
    exact .cons (fr_dq ⟨b, rfl, g⟩) (poly_all (by simpa using l) fun i r hr => f (i + 1) r hr)
theorem poly_dq {H : Hp} {v : V} {qs : List Rat} (h : PolyAt H v qs) : Dq Any H v (polyOf qs) := by
  obtain ⟨a, xs, rfl, g, l, f⟩ := h
  exact .tup True.intro g (poly_all l f)
/-- the last number is not 0 -/
structure Good (qs : List Rat) : Prop where
  ne : qs ≠ []
  last : ∀ q, qs.getLast? = some q → q.num ≠ 0
theorem poly_ok {qs : List Rat} (h : Good qs) : polyD (polyOf qs) = true := by
  show (!(qs.map frD).isEmpty && ((qs.map frD).all fracD && (qs.map frD).getLast?.any topD)) = true
  have e : (qs.map frD).isEmpty = false := by
    cases qs with
    | nil => exact absurd rfl h.ne
    | cons _ _ => rfl
  have a : (qs.map frD).all fracD = true := by
    rw [List.all_map, List.all_eq_true]
    exact fun q _ => frac_frD q
  have t : (qs.map frD).getLast?.any topD = true := by
    rw [List.getLast?_map]
    cases g : qs.getLast? with
    | none => exact absurd (List.getLast?_eq_none_iff.mp g) h.ne
    | some q =>
      show (q.num != 0) = true
      simpa using h.last q g
  rw [e, a, t]
  rfl
section
variable {P : Program} {w : World} {K : PySem.W.Frag} {mg : Str → Option Value} {base : Heap} {fd : FuncData} {c tb : Addr}
theorem scPWhole : FnScope ["value"] ["value"] (defScope sPWhole) := ⟨rfl, rfl, rfl, by decide +kernel, rfl, by decide +kernel, by decide +kernel⟩
theorem ok_pWhole (F : FnD K "is_whole" sPWhole fd) (T : Names K mg) : FnOk P w K mg base CX0 1 (He.ga K "is_whole") fd ["value"] (spIs wholeD) := by
  refine F.ok scPWhole (fun vs H Q E ⟨_, _, _, e, _⟩ => by rw [e]; rfl) (fun cdv A outer s H vs Q E hr h => ?_)
  obtain ⟨v, N, d, rfl, q, fin⟩ := h
  refine ⟨_, PSs.nox (pss_one (ps_ret (pe_cmpR op_isTy (pe_callTy call_tyD (by rfl) (T.fr "type" (by decide +kernel)) (by decide +kernel) (pa_cons (pv 0) pa_nil)) (pe_bltn (v := .ty "int") (u := .type "int") (by rfl) (T.fr "int" (by decide +kernel)) (by decide +kernel) rfl) (nomark _)))), ?_⟩
  refine ⟨_, rfl, v, N, d, rfl, q, _, _, rfl, rfl, ?_⟩
  have e : decide (tyD d = "int") = wholeD d := by
    unfold wholeD
    by_cases z : tyD d = "int"
    · rw [decide_eq_true z, beq_iff_eq.mpr z]
    · rw [decide_eq_false z, beq_eq_false_iff_ne.mpr z]
  rw [e]
  exact fin
theorem scPFrac : FnScope ["value", "top", "under"] ["value"] (defScope sPFrac) := ⟨rfl, rfl, rfl, by decide +kernel, rfl, by decide +kernel, by decide +kernel⟩
/-- is_fraction of a fraction -/
def spYesF : Sp := fun vs H Q _ => ∃ (v : V) (q : Rat), vs = [v] ∧ FrAt H v q ∧ Q (.bl true) H
theorem ok_pFrac {fdW : FuncData} (F : FnD K "is_fraction" sPFrac fd) (T : Names K mg) (FW : FnD K "is_whole" sPWhole fdW) (mG : mg "gcd" = some (.builtin "math.gcd")) : FnOk P w K mg base CX0 2 (He.ga K "is_fraction") fd ["value"] spYesF := by
  refine F.ok scPFrac (fun vs H Q E ⟨_, _, e, _⟩ => by rw [e]; rfl) (fun cdv A outer s H vs Q E hr h => ?_)
  obtain ⟨v, q, rfl, hv, fin⟩ := h
  have gW := T.gl "is_whole" (by decide +kernel)
  have bW : Binds K fdW ["value"] [] := FW.bindsN fun _ _ _ _ _ _ us hl => match us, hl with | [_], _ => rfl
  have GW : FnOk P w K mg base CX0 1 (He.ga K "is_whole") fdW ["value"] (spIs wholeD) := ok_pWhole FW T
  have dq := fr_dq hv
  obtain ⟨a, rfl, ha⟩ := hv
  refine ⟨_, PSs.nox (pss_cons (ps_if (PW.pt (pw_or (pt_cmpR op_isNotTy (pe_callTy call_tyD (by rfl) (T.fr "type" (by decide +kernel)) (by decide +kernel) (pa_cons (pv 0) pa_nil)) (pe_bltn (v := .ty "tuple") (u := .type "tuple") (by rfl) (T.fr "tuple" (by decide +kernel)) (by decide +kernel) rfl) (nomark _))
      (pw_or1 (pt_cmpR op_ne (pe_callB call_len_seq (by rfl) (T.fr "len" (by decide +kernel)) PySem.boot_len (pa_cons (pv 0) pa_nil)) pe_int (nomark _))))) (pss_one (ps_ret pe_bl)) pss_nil)
    (pss_cons (ps_asg (pv 0) (pg_tup (by rfl) (pgs_cons (pg_name (i := 1) scPFrac.nd rfl (Or.inl rfl)) (pgs_cons (pg_name (i := 2) scPFrac.nd rfl (Or.inl rfl)) pgs_nil))))
    (pss_one (ps_ret (pe_and (pe_call GW hr rfl gW FW.kp bW .nil pass0 (pa_cons (pv 1) pa_nil)) (pe_and (pe_call GW hr rfl gW FW.kp bW .nil pass0 (pa_cons (pv 2) pa_nil))
      (pe_and (pe_cmpR op_gt (pv 2) pe_int (nomark _)) (pe_one (pe_cmpR op_eq (pe_callBfun cr_gcd (by rfl) mG (pa_cons (pv 1) (pa_cons (pv 2) pa_nil))) pe_int (nomark _)))))))))), ?_⟩
  refine ⟨_, rfl, _, Any, _, rfl, dq, _, _, rfl, rfl, _, rfl, ?_⟩
  refine ⟨_, rfl, a, _, rfl, .inr (.of ha), rfl, _, rfl, ?_⟩
  refine ⟨_, rfl, a, _, rfl, .of ha, rfl, _, _, rfl, _, _, rfl, rfl, ?_⟩
  refine ⟨_, rfl, _, Any, .int q.num, rfl, .int _, _, rfl, ?_⟩
  refine ⟨_, rfl, _, Any, .int q.den, rfl, .int _, _, rfl, ?_⟩
  refine ⟨_, rfl, _, _, rfl, rfl, _, rfl, ?_⟩
  rw [decide_eq_true (den_pos q)]
  refine ⟨_, rfl, _, rfl, _, _, rfl, rfl, ?_⟩
  have g : decide (V.int ((Nat.gcd q.num.natAbs (q.den : Int).natAbs : Nat) : Int) = V.int 1) = true := by
    rw [Int.natAbs_natCast, show Nat.gcd q.num.natAbs q.den = 1 from q.reduced]
    rfl
  rw [g]
  exact fin
theorem scChkF : FnScope ["value"] ["value"] (defScope sChkF) := ⟨rfl, rfl, rfl, by decide +kernel, rfl, by decide +kernel, by decide +kernel⟩
def spChkF : Sp := fun vs H Q _ => ∃ (v : V) (q : Rat), vs = [v] ∧ FrAt H v q ∧ Q .non H
theorem ok_chkF {fdF fdW : FuncData} (F : FnD K "check_fraction" sChkF fd) (T : Names K mg) (FF : FnD K "is_fraction" sPFrac fdF) (FW : FnD K "is_whole" sPWhole fdW) (mG : mg "gcd" = some (.builtin "math.gcd")) : FnOk P w K mg base CX0 3 (He.ga K "check_fraction") fd ["value"] spChkF := by
  refine F.ok scChkF (fun vs H Q E ⟨_, _, e, _⟩ => by rw [e]; rfl) (fun cdv A outer s H vs Q E hr h => ?_)
  obtain ⟨v, q, rfl, hv, fin⟩ := h
  have gF := T.gl "is_fraction" (by decide +kernel)
  have bF : Binds K fdF ["value"] [] := FF.bindsN fun _ _ _ _ _ _ us hl => match us, hl with | [_], _ => rfl
  have GF : FnOk P w K mg base CX0 2 (He.ga K "is_fraction") fdF ["value"] spYesF := ok_pFrac FF T FW mG
  refine ⟨_, PSs.nox (pss_one (ps_if (pt_not (pt_val (pe_call GF hr rfl gF FF.kp bF .nil pass0 (pa_cons (pv 0) pa_nil)))) (pss_one ps_never) pss_nil)), ?_⟩
  exact ⟨_, rfl, v, q, rfl, hv, _, rfl, fin⟩
/-! ### behind a generator expression the table at tb may have grown -/
structure After (tb : Addr) (H H' : Hp) : Prop where
  keep : ∀ b o, b ≠ tb → H b = some o → H' b = some o
  tab : GxR.TabG H' tb
theorem After.trans {H H1 H2 : Hp} (x : After tb H H1) (y : After tb H1 H2) : After tb H H2 := ⟨fun b o n e => y.keep b o n (x.keep b o n e), y.tab⟩
theorem After.same {H H1 H2 : Hp} (x : After tb H H1) (y : Same H1 H2) : After tb H H2 := by
  obtain ⟨ps, e, ok⟩ := x.tab
  exact ⟨fun b o n e => y b o (x.keep b o n e), ps, y _ _ e, ok⟩
theorem After.refl {H : Hp} (h : GxR.TabG H tb) : After tb H H := ⟨fun _ _ _ e => e, h⟩
theorem After.of {H H1 : Hp} (h : GxR.Tabbed tb H H1) : After tb H H1 := ⟨fun b o n e => (h.2 b n).trans e, h.1⟩
theorem After.free {H H1 : Hp} (x : After tb H H1) {l : Addr} (h : H1 l = none) : H l = none := by
  cases e : H l with
  | none => rfl
  | some o =>
    by_cases n : l = tb
    · obtain ⟨ps, z, _⟩ := x.tab
      rw [← n, h] at z
      cases z
    · rw [x.keep l o n e] at h
      cases h
theorem After.tup {H H1 : Hp} (x : After tb H H1) (t : GxR.TabG H tb) {b : Addr} {xs : List V} (h : H b = some (.tup xs)) : H1 b = some (.tup xs) := by
  obtain ⟨ps, z, _⟩ := t
  exact x.keep b _ (fun n => by rw [n, z] at h; cases h) h
theorem After.fr {H H1 : Hp} (x : After tb H H1) (t : GxR.TabG H tb) {v : V} {q : Rat} (h : FrAt H v q) : FrAt H1 v q :=
  let ⟨a, e, g⟩ := h; ⟨a, e, x.tup t g⟩
theorem After.poly {H H1 : Hp} (x : After tb H H1) (t : GxR.TabG H tb) {v : V} {qs : List Rat} (h : PolyAt H v qs) : PolyAt H1 v qs :=
  let ⟨a, xs, e, g, l, f⟩ := h
  ⟨a, xs, e, x.tup t g, l, fun i q hq => let ⟨b, u, y⟩ := f i q hq; ⟨b, u, x.tup t y⟩⟩
theorem scChkP : FnScope ["value"] ["value"] (defScope sChkP) := ⟨rfl, rfl, rfl, by decide +kernel, rfl, by decide +kernel, by decide +kernel⟩
def spChkP (tb : Addr) : Sp := fun vs H Q _ => ∃ (v : V) (qs : List Rat), vs = [v] ∧ PolyAt H v qs ∧ Good qs ∧ GxR.TabG H tb ∧ ∀ H2, After tb H H2 → Q .non H2
theorem ok_chkP {fdP : FuncData} (F : FnD K "check_polynomial" sChkP fd) (T : Names K mg) (FP : FnD K "is_polynomial" sPPoly fdP) (GP : FnOk P w K mg base CX0 2 (He.ga K "is_polynomial") fdP ["value"] (spPoly tb)) : FnOk P w K mg base CX0 3 (He.ga K "check_polynomial") fd ["value"] (spChkP tb) := by
  refine F.ok scChkP (fun vs H Q E ⟨_, _, e, _⟩ => by rw [e]; rfl) (fun cdv A outer s H vs Q E hr h => ?_)
  obtain ⟨v, qs, rfl, hv, good, t, fin⟩ := h
  have gP := T.gl "is_polynomial" (by decide +kernel)
  have bP : Binds K fdP ["value"] [] := FP.bindsN fun _ _ _ _ _ _ us hl => match us, hl with | [_], _ => rfl
  refine ⟨_, PSs.nox (pss_one (ps_if (pt_not (pt_val (pe_call GP hr rfl gP FP.kp bP .nil pass0 (pa_cons (pv 0) pa_nil)))) (pss_one ps_never) pss_nil)), ?_⟩
  refine ⟨_, rfl, v, Any, polyOf qs, rfl, poly_dq hv, t, fun H2 t2 => ⟨_, rfl, ?_⟩⟩
  rw [poly_ok good]
  exact fin H2 (.of t2)
end
end K02
set_option Elab.async false
set_option linter.all false
set_option maxRecDepth 100000
set_option maxHeartbeats 4000000
set_option exponentiation.threshold 20000
namespace K02
open PySem PySem.Spec PyProof.Rows L2 RatFr DataR Gx OpsR
abbrev sValue : Stmt := top 19
section
variable {P : Program} {w : World} {K : PySem.W.Frag} {mg : Str → Option Value} {base : Heap} {fd : FuncData} {c tb : Addr}
theorem nums_lt {qs : List Rat} (few : Few qs) : ∀ n ∈ nums qs, n.natAbs < 2 ^ 157 := by
  intro n hn
  obtain ⟨q, hq, rfl⟩ := List.mem_map.mp hn
  have b3 : lc qs ≤ 2 ^ 56 := by have := few.lcs qs.length; rwa [List.take_length] at this
  have b4 : ((lc qs : Int) / q.den).natAbs < 2 ^ 57 := Nat.lt_of_le_of_lt (Int.natAbs_ediv_le_natAbs _ _) (by rw [Int.natAbs_natCast]; omega)
  exact wide_lt (few.num q hq) b4
theorem pow_den {r : Rat} (sr : Sz 99 r) (i : Nat) : ((r.den : Int) ^ i).natAbs < 2 ^ (100 * i + 1) := pow_lt (by rw [Int.natAbs_natCast]; exact Nat.lt_of_lt_of_le sr.lo (by decide))
/-- what value_at tells: a sum of whole numbers over one number -/
def valR (qs : List Rat) (r : Rat) : Rat := Rat.divInt (spr (nums qs) r.num r.den).sum ((lc qs : Int) * (r.den : Int) ^ (qs.length - 1))
def spValue (tb : Addr) : Sp := fun vs H Q _ => ∃ (v x : V) (qs : List Rat) (r : Rat), vs = [v, x] ∧ PolyAt H v qs ∧ Few qs ∧ Good qs ∧ FrAt H x r ∧ Sz 99 r ∧ GxR.TabG H tb ∧ ∀ H' p, After tb H H' → H p = none → H' p = some (fr (valR qs r)) → Q (.ref p) H'
theorem scValue : FnScope ["polynomial", "fraction", "numbers", "shared", "top", "under", "_"] ["polynomial", "fraction"] (defScope sValue) := ⟨rfl, rfl, rfl, by decide +kernel, rfl, by decide +kernel, by decide +kernel⟩
theorem ok_value {fdCP fdCF fdC fdS fdL fdPP fdPF fdPW fdPw : FuncData} (F : FnD K "value_at" sValue fd) (T : Names K mg) (FCP : FnD K "check_polynomial" sChkP fdCP) (FCF : FnD K "check_fraction" sChkF fdCF) (FC : FnD K "cleared" sCleared fdC) (FS : FnD K "spread" sSpread fdS) (FL : FnD K "lowest" sLowest fdL)
    (FPP : FnD K "is_polynomial" sPPoly fdPP) (FPF : FnD K "is_fraction" sPFrac fdPF) (FPW : FnD K "is_whole" sPWhole fdPW) (FPw : FnD K "powers" sPowers fdPw) (GP : FnOk P w K mg base CX0 2 (He.ga K "is_polynomial") fdPP ["value"] (spPoly tb))
    (mG : mg "gcd" = some (.builtin "math.gcd")) (mL : mg "lcm" = some (.builtin "math.lcm")) : FnOk P w K mg base CX0 4 (He.ga K "value_at") fd ["polynomial", "fraction"] (spValue tb) := by
  refine F.ok scValue (fun vs H Q E ⟨_, _, _, _, e, _⟩ => by rw [e]; rfl) (fun cdv A outer s H vs Q E hr h => ?_)
  obtain ⟨v, x, qs, r, rfl, hv, few, good, hx, sr, t, fin⟩ := h
  have gCP := T.gl "check_polynomial" (by decide +kernel)
  have gCF := T.gl "check_fraction" (by decide +kernel)
  have gC := T.gl "cleared" (by decide +kernel)
  have gS := T.gl "spread" (by decide +kernel)
  have gL := T.gl "lowest" (by decide +kernel)
  have bCP : Binds K fdCP ["value"] [] := FCP.bindsN fun _ _ _ _ _ _ us hl => match us, hl with | [_], _ => rfl
  have bCF : Binds K fdCF ["value"] [] := FCF.bindsN fun _ _ _ _ _ _ us hl => match us, hl with | [_], _ => rfl
  have bC : Binds K fdC ["polynomial"] [] := FC.bindsN fun _ _ _ _ _ _ us hl => match us, hl with | [_], _ => rfl
  have bS : Binds K fdS ["numbers", "top", "under"] [] := FS.bindsN fun _ _ _ _ _ _ us hl => match us, hl with | [_, _, _], _ => rfl
  have bL : Binds K fdL ["top", "under"] [] := FL.bindsN fun _ _ _ _ _ _ us hl => match us, hl with | [_, _], _ => rfl
  have GCP : FnOk P w K mg base CX0 3 (He.ga K "check_polynomial") fdCP ["value"] (spChkP tb) := ok_chkP FCP T FPP GP
  have GCF : FnOk P w K mg base CX0 3 (He.ga K "check_fraction") fdCF ["value"] spChkF := ok_chkF FCF T FPF FPW mG
  have GC : FnOk P w K mg base CX0 1 (He.ga K "cleared") fdC ["polynomial"] spCleared := ok_cleared FC mL
  have GS : FnOk P w K mg base CX0 2 (He.ga K "spread") fdS ["numbers", "top", "under"] spSpread := ok_spread FS T FPw
  have GL : FnOk P w K mg base CX0 1 (He.ga K "lowest") fdL ["top", "under"] spLowest := ok_lowest FL mG
  refine ⟨_, PSs.nox (pss_cons (ps_expr (pe_call GCP hr rfl gCP FCP.kp bCP .nil pass0 (pa_cons (pv 0) pa_nil)))
    (pss_cons (ps_expr (pe_call GCF hr rfl gCF FCF.kp bCF .nil pass0 (pa_cons (pv 1) pa_nil)))
    (pss_cons (ps_asg (pe_call GC (hr.mono (by decide)) rfl gC FC.kp bC .nil pass0 (pa_cons (pv 0) pa_nil)) (pg_tup (by rfl) (pgs_cons (pg_name (i := 2) scValue.nd rfl (Or.inl rfl)) (pgs_cons (pg_name (i := 3) scValue.nd rfl (Or.inl rfl)) pgs_nil))))
    (pss_cons (ps_asg (pv 1) (pg_tup (by rfl) (pgs_cons (pg_name (i := 4) scValue.nd rfl (Or.inl rfl)) (pgs_cons (pg_name (i := 5) scValue.nd rfl (Or.inl rfl)) pgs_nil))))
    (pss_cons (ps_for PassesOwn.never rfl (pi_tup (pe_slice sl_tup (pv 0) (po_some pe_int) po_none)) (pg_name (i := 6) scValue.nd rfl (Or.inl rfl)) (pss_one (ps_aug (i := 3) scValue.nd rfl (Or.inl rfl) (pv 5) ip_mulW)))
    (pss_one (ps_ret (pe_call GL (hr.mono (by decide)) rfl gL FL.kp bL .nil pass0 (pa_cons (pe_callB (cr_sum rfl) (by rfl) (T.fr "sum" (by decide +kernel)) (by decide +kernel) (pa_cons (pe_call GS (hr.mono (by decide)) rfl gS FS.kp bS .nil pass0 (pa_cons (pv 2) (pa_cons (pv 4) (pa_cons (pv 5) pa_nil)))) pa_nil)) (pa_cons (pv 3) pa_nil)))))))))), ?_⟩
  have sz : sizeLine = 16777216 := sizeLine_eq
  have l7 := few.len
  have b3 : lc qs ≤ 2 ^ 56 := by have := few.lcs qs.length; rwa [List.take_length] at this
  have dnn : (0 : Int) < r.den := den_pos r
  have dlt : (r.den : Int).natAbs < 2 ^ 100 := by rw [Int.natAbs_natCast]; exact Nat.lt_of_lt_of_le sr.lo (by decide)
  refine ⟨_, rfl, v, qs, rfl, hv, good, t, fun H1 a1 => ?_⟩
  have hv1 := a1.poly t hv
  have hx1 := a1.fr t hx
  refine ⟨_, rfl, x, r, rfl, hx1, ?_⟩
  refine ⟨_, rfl, v, qs, rfl, hv1, few, fun H2 t2 l2 s2 g2 gl2 n2 => ?_⟩
  refine ⟨t2, _, rfl, .of g2, rfl, _, _, rfl, _, _, rfl, rfl, ?_⟩
  obtain ⟨ax, rfl, gx⟩ := hx1
  obtain ⟨av, xs, rfl, gv, lv, _⟩ := hv1
  refine ⟨_, rfl, ax, _, rfl, .of (s2 _ _ gx), rfl, _, _, rfl, _, _, rfl, rfl, ?_⟩
  have n0 : 0 < qs.length := List.length_pos_iff.mpr good.ne
  have i1 : HT.sIx xs.length 0 (some 1) = 1 := by
    rw [show (1 : Int) = ((1 : Nat) : Int) from rfl, HT.sIx_nat]
    omega
  have cut : cutV xs (some 1) none = xs.drop 1 := by
    unfold cutV
    rw [i1, HT.sIx_none]
    exact List.take_of_length_le (by rw [List.length_drop]; exact Nat.le_refl _)
  refine ⟨_, rfl, _, rfl, av, xs, rfl, .of (s2 _ _ gv), fun z => by rw [i1] at z; exact absurd z.1 (by decide), fun p hp => ?_⟩
  rw [cut]
  have s3 := same_new (o := .tup (xs.drop 1)) hp
  have gp : upd H2 p (.tup (xs.drop 1)) p = some (.tup (xs.drop 1)) := upd_same
  generalize upd H2 p (.tup (xs.drop 1)) = H3 at s3 gp ⊢
  have ld : (xs.drop 1).length = qs.length - 1 := by rw [List.length_drop, lv]
  refine ⟨p, rfl, ⟨_, .of gp⟩, for_tup (K := K) (a := p) (xs := xs.drop 1) (fun i σ H' => H' = H3 ∧ ∃ (y : Int) (z : Option V), y = (lc qs : Int) * (r.den : Int) ^ i ∧ σ = [some (.ref av), some (.ref ax), some (.ref l2), some (.int y), some (.int r.num), some (.int r.den), z])
    ⟨rfl, _, _, by rw [Int.pow_zero, Int.mul_one], rfl⟩ (fun i σ H' _ q => by rw [q.1]; exact .of gp) ?_ ?_⟩
  · rintro i y σ H' hi ⟨rfl, m, z, em, rfl⟩
    have lti := (List.getElem?_eq_some_iff.mp hi).1
    have bm : m.natAbs < 2 ^ (57 + (100 * i + 1)) := by
      rw [em]
      exact wide_lt (by rw [Int.natAbs_natCast]; omega) (pow_den sr i)
    refine ⟨_, rfl, _, rfl, _, _, rfl, rfl, wide_mul bm dlt (by omega) (by decide) (by omega), ?_⟩
    exact ⟨rfl, _, _, by rw [em, Int.pow_succ, Int.mul_assoc], rfl⟩
  · rintro σ H' ⟨rfl, m, z, em, rfl⟩
    rw [ld] at em
    have ln : (nums qs).length = qs.length := List.length_map _
    refine ⟨_, rfl, _, rfl, _, rfl, l2, nums qs, r.num, r.den, rfl, s3 _ _ gl2, by omega, fun n hn => Nat.lt_of_lt_of_le (nums_lt few n hn) (Nat.pow_le_pow_right (by decide) (by decide)), Nat.lt_of_lt_of_le sr.up (by decide), dlt, fun H4 p4 s4 n4 g4 => ?_⟩
    refine ⟨p4, _, rfl, .of g4, _, rfl, _, _, rfl, ?_, ?_, fun p5 h5 => ?_⟩
    · rw [em]
      exact Int.mul_pos (by have := lc_pos qs; omega) (Int.pow_pos dnn)
    · rw [em]
      exact Nat.lt_of_lt_of_le (wide_lt (a := 57) (by rw [Int.natAbs_natCast]; omega) (pow_den sr (qs.length - 1))) (Nat.pow_le_pow_right (by decide) (by omega))
    · have big := ((a1.same s2).same s3).same s4
      have n5 : H p5 = none := big.free h5
      refine fin _ p5 (big.same (same_new h5)) n5 ?_
      rw [upd_same, em]
      rfl
end
end K02
set_option Elab.async false
set_option linter.all false
set_option maxRecDepth 100000
set_option maxHeartbeats 4000000
set_option exponentiation.threshold 20000
namespace K02
open PySem PySem.Spec PyProof.Rows L2 RatFr DataR Gx OpsR
abbrev sProduct : Stmt := top 20
section
variable {P : Program} {w : World} {K : PySem.W.Frag} {mg : Str → Option Value} {base : Heap} {fd : FuncData} {c tb : Addr}
theorem conv_len {ns ms : List Int} : (conv ns ms).length = ns.length + ms.length - 1 := outs_len _
theorem same_free {H H' : Hp} (s : Same H H') {p : Addr} (h : H' p = none) : H p = none := by
  cases e : H p with
  | none => rfl
  | some o => rw [s _ _ e] at h; cases h
abbrev sDivided : Stmt := top 18
/-- divided(numbers, under), under above 0 -/
def spDivided : Sp := fun vs H Q _ => ∃ (l : Addr) (ns : List Int) (d : Int), vs = [.ref l, .int d] ∧ H l = some (.lst (ns.map V.int)) ∧ ns.length ≤ 1000 ∧ 0 < d ∧ d.natAbs < 2 ^ 9000 ∧ ∀ H' p, Same H H' → H p = none → PolyAt H' (.ref p) (ns.map fun n => Rat.divInt n d) → Q (.ref p) H'
theorem scDivided : FnScope ["numbers", "under", "number"] ["numbers", "under"] (defScope sDivided) := ⟨rfl, rfl, rfl, by decide +kernel, rfl, by decide +kernel, by decide +kernel⟩
theorem ok_divided {fdL : FuncData} (F : FnD K "divided" sDivided fd) (T : Names K mg) (FL : FnD K "lowest" sLowest fdL) (mG : mg "gcd" = some (.builtin "math.gcd")) : FnOk P w K mg base CX0 2 (He.ga K "divided") fd ["numbers", "under"] spDivided := by
  refine F.ok scDivided (fun vs H Q E ⟨_, _, _, e, _⟩ => by rw [e]; rfl) (fun cdv A outer s H vs Q E hr h => ?_)
  obtain ⟨l, ns, d, rfl, hl, few, d0, d1, fin⟩ := h
  have gL := T.gl "lowest" (by decide +kernel)
  have bL : Binds K fdL ["top", "under"] [] := FL.bindsN fun _ _ _ _ _ _ us hl => match us, hl with | [_, _], _ => rfl
  have GL : FnOk P w K mg base CX0 1 (He.ga K "lowest") fdL ["top", "under"] spLowest := ok_lowest FL mG
  refine ⟨_, PSs.nox (pss_one (ps_ret (pe_callTy call_tuple_of (by rfl) (T.fr "tuple" (by decide +kernel)) (by decide +kernel) (pa_cons (pe_lc (own := [("number", 2)]) (g := gName 2) (tt := tYes) (by rfl) scDivided.nd (pi_list (pv 0))
      (blkOk_by (own := [("number", 2)]) (N := ["numbers", "under", "number"]) (sc := defScope sDivided) (by decide +kernel)) (fun _ _ _ _ _ => pg_name (i := 2) scDivided.nd rfl (Or.inl rfl)) (fun _ _ _ _ _ => pts_nil)
      (fun _ _ _ _ _ => pe_call GL hr rfl gL FL.kp bL .nil pass0 (pa_cons (pv 2) (pa_cons (pv 1) pa_nil)))) pa_nil)))), ?_⟩
  have sz : sizeLine = 16777216 := sizeLine_eq
  have l4 : (ns.map V.int).length = ns.length := List.length_map _
  refine ⟨_, rfl, l, rfl, ⟨_, .of hl⟩, fun D hD => lc_list (K := K) (a := l) (xs := ns.map V.int) (fun i H' => Same H H' ∧ ∃ acc, H' D = some (.lst acc) ∧ acc.length = i ∧ ∀ (k : Nat) (n : Int), k < i → ns[k]? = some n → ∃ b, acc[k]? = some (.ref b) ∧ H' b = some (fr (Rat.divInt n d)))
    ⟨same_new hD, [], upd_same, rfl, fun k n hk _ => absurd hk (Nat.not_lt_zero _)⟩ (fun i H' _ p => .of (p.1 _ _ hl)) ?_ ?_⟩
  · rintro i y H' hi ⟨sm, acc, hA, la, ia⟩
    rw [List.getElem?_map] at hi
    obtain ⟨n, hn, rfl⟩ := Option.map_eq_some_iff.mp hi
    have lti := (List.getElem?_eq_some_iff.mp hn).1
    refine ⟨rfl, rd_yes ?_⟩
    rw [if_pos rfl]
    refine ⟨_, rfl, _, rfl, n, _, rfl, d0, d1, fun b hb => ?_⟩
    have nD : b ≠ D := fun z => by rw [z, hA] at hb; cases hb
    refine ⟨acc, (upd_ne (Ne.symm nD)).trans hA, by omega, same_put (sm.trans (same_new hb)) hD, acc ++ [.ref b], upd_same, by rw [List.length_append, la]; rfl, fun k m hk hm => ?_⟩
    by_cases z : k = i
    · subst z
      rw [hn] at hm
      cases hm
      refine ⟨b, ?_, ?_⟩
      · rw [List.getElem?_append_right (by omega), la, Nat.sub_self]
        rfl
      · rw [upd_ne nD, upd_same]
    · obtain ⟨b2, e2, g2'⟩ := ia k m (by omega) hm
      have n2 : b2 ≠ b := fun y => by rw [y, hb] at g2'; cases g2'
      have n3 : b2 ≠ D := fun y => by rw [y, hA] at g2'; cases g2'
      refine ⟨b2, ?_, ?_⟩
      · rw [List.getElem?_append_left (by omega)]
        exact e2
      · rw [upd_ne n3, upd_ne n2]
        exact g2'
  · rintro H' ⟨sm, acc, hA, la, ia⟩
    refine ⟨D, _, rfl, .inl ⟨.of hA, fun p hp => ?_⟩⟩
    have np : H p = none := same_free sm hp
    refine fin _ p (sm.trans (same_new hp)) np ⟨p, acc, rfl, upd_same, by rw [la, l4, List.length_map], fun k q hq => ?_⟩
    rw [List.getElem?_map] at hq
    obtain ⟨n, hn, rfl⟩ := Option.map_eq_some_iff.mp hq
    have lt := (List.getElem?_eq_some_iff.mp hn).1
    obtain ⟨b, e, g⟩ := ia k n (by rw [l4]; omega) hn
    refine ⟨b, e, ?_⟩
    rw [upd_ne (fun z => by rw [z, hp] at g; cases g)]
    exact g
/-- what product tells -/
def prodR (ps qs : List Rat) : List Rat := (conv (nums ps) (nums qs)).map fun n => Rat.divInt n ((lc ps : Int) * (lc qs : Int))
def spProduct (tb : Addr) : Sp := fun vs H Q _ => ∃ (v x : V) (ps qs : List Rat), vs = [v, x] ∧ PolyAt H v ps ∧ Few ps ∧ Good ps ∧ PolyAt H x qs ∧ Few qs ∧ Good qs ∧ GxR.TabG H tb ∧ ∀ H' p, After tb H H' → H p = none → PolyAt H' (.ref p) (prodR ps qs) → Q (.ref p) H'
theorem scProduct : FnScope ["polynomial", "other", "numbers", "shared", "others", "shared_by_others"] ["polynomial", "other"] (defScope sProduct) := ⟨rfl, rfl, rfl, by decide +kernel, rfl, by decide +kernel, by decide +kernel⟩
theorem ok_product {fdCP fdC fdT fdL fdD fdPP : FuncData} (F : FnD K "product" sProduct fd) (T : Names K mg) (FCP : FnD K "check_polynomial" sChkP fdCP) (FC : FnD K "cleared" sCleared fdC) (FT : FnD K "times" sTimes fdT) (FL : FnD K "lowest" sLowest fdL) (FD : FnD K "divided" sDivided fdD)
    (FPP : FnD K "is_polynomial" sPPoly fdPP) (GP : FnOk P w K mg base CX0 2 (He.ga K "is_polynomial") fdPP ["value"] (spPoly tb))
    (mG : mg "gcd" = some (.builtin "math.gcd")) (mL : mg "lcm" = some (.builtin "math.lcm")) : FnOk P w K mg base CX0 4 (He.ga K "product") fd ["polynomial", "other"] (spProduct tb) := by
  refine F.ok scProduct (fun vs H Q E ⟨_, _, _, _, e, _⟩ => by rw [e]; rfl) (fun cdv A outer s H vs Q E hr h => ?_)
  obtain ⟨v, x, ps, qs, rfl, hv, fewP, goodP, hx, fewQ, goodQ, t, fin⟩ := h
  have gCP := T.gl "check_polynomial" (by decide +kernel)
  have gC := T.gl "cleared" (by decide +kernel)
  have gT := T.gl "times" (by decide +kernel)
  have gD := T.gl "divided" (by decide +kernel)
  have bCP : Binds K fdCP ["value"] [] := FCP.bindsN fun _ _ _ _ _ _ us hl => match us, hl with | [_], _ => rfl
  have bC : Binds K fdC ["polynomial"] [] := FC.bindsN fun _ _ _ _ _ _ us hl => match us, hl with | [_], _ => rfl
  have bT : Binds K fdT ["first", "second"] [] := FT.bindsN fun _ _ _ _ _ _ us hl => match us, hl with | [_, _], _ => rfl
  have bD : Binds K fdD ["numbers", "under"] [] := FD.bindsN fun _ _ _ _ _ _ us hl => match us, hl with | [_, _], _ => rfl
  have GCP : FnOk P w K mg base CX0 3 (He.ga K "check_polynomial") fdCP ["value"] (spChkP tb) := ok_chkP FCP T FPP GP
  have GC : FnOk P w K mg base CX0 1 (He.ga K "cleared") fdC ["polynomial"] spCleared := ok_cleared FC mL
  have GT : FnOk P w K mg base CX0 1 (He.ga K "times") fdT ["first", "second"] spTimes := ok_times FT T
  have GD : FnOk P w K mg base CX0 2 (He.ga K "divided") fdD ["numbers", "under"] spDivided := ok_divided FD T FL mG
  have h1 := hr.mono (j := 1) (by decide)
  have h2 := hr.mono (j := 2) (by decide)
  refine ⟨_, PSs.nox (pss_cons (ps_expr (pe_call GCP hr rfl gCP FCP.kp bCP .nil pass0 (pa_cons (pv 0) pa_nil)))
    (pss_cons (ps_expr (pe_call GCP hr rfl gCP FCP.kp bCP .nil pass0 (pa_cons (pv 1) pa_nil)))
    (pss_cons (ps_asg (pe_call GC h1 rfl gC FC.kp bC .nil pass0 (pa_cons (pv 0) pa_nil)) (pg_tup (by rfl) (pgs_cons (pg_name (i := 2) scProduct.nd rfl (Or.inl rfl)) (pgs_cons (pg_name (i := 3) scProduct.nd rfl (Or.inl rfl)) pgs_nil))))
    (pss_cons (ps_asg (pe_call GC h1 rfl gC FC.kp bC .nil pass0 (pa_cons (pv 1) pa_nil)) (pg_tup (by rfl) (pgs_cons (pg_name (i := 4) scProduct.nd rfl (Or.inl rfl)) (pgs_cons (pg_name (i := 5) scProduct.nd rfl (Or.inl rfl)) pgs_nil))))
    (pss_one (ps_ret (pe_call GD h2 rfl gD FD.kp bD .nil pass0 (pa_cons (pe_call GT h1 rfl gT FT.kp bT .nil pass0 (pa_cons (pv 2) (pa_cons (pv 4) pa_nil))) (pa_cons (pe_op op_mulW (pv 3) (pv 5)) pa_nil))))))))), ?_⟩
  have sz : sizeLine = 16777216 := sizeLine_eq
  have lp := fewP.len
  have lq := fewQ.len
  have p0 : 0 < ps.length := List.length_pos_iff.mpr goodP.ne
  have q0 : 0 < qs.length := List.length_pos_iff.mpr goodQ.ne
  have lnp : (nums ps).length = ps.length := List.length_map _
  have lnq : (nums qs).length = qs.length := List.length_map _
  have bp : lc ps ≤ 2 ^ 56 := by have := fewP.lcs ps.length; rwa [List.take_length] at this
  have bq : lc qs ≤ 2 ^ 56 := by have := fewQ.lcs qs.length; rwa [List.take_length] at this
  have bp2 : (lc ps : Int).natAbs < 2 ^ 57 := by rw [Int.natAbs_natCast]; omega
  have bq2 : (lc qs : Int).natAbs < 2 ^ 57 := by rw [Int.natAbs_natCast]; omega
  have d0 : (0 : Int) < (lc ps : Int) * (lc qs : Int) := Int.mul_pos (by have := lc_pos ps; omega) (by have := lc_pos qs; omega)
  have d1 : ((lc ps : Int) * (lc qs : Int)).natAbs < 2 ^ 9000 := Nat.lt_of_lt_of_le (wide_lt bp2 bq2) (Nat.pow_le_pow_right (by decide) (by decide))
  refine ⟨_, rfl, v, ps, rfl, hv, goodP, t, fun H1 a1 => ?_⟩
  refine ⟨_, rfl, x, qs, rfl, a1.poly t hx, goodQ, a1.tab, fun H1' a1' => ?_⟩
  have a2 := a1.trans a1'
  refine ⟨_, rfl, v, ps, rfl, a2.poly t hv, fewP, fun H2 t2 l2 s2 g2 gl2 _ => ?_⟩
  refine ⟨t2, _, rfl, .of g2, rfl, _, _, rfl, _, _, rfl, rfl, ?_⟩
  refine ⟨_, rfl, x, qs, rfl, (a2.poly t hx).same s2, fewQ, fun H3 t3 l3 s3 g3 gl3 _ => ?_⟩
  refine ⟨t3, _, rfl, .of g3, rfl, _, _, rfl, _, _, rfl, rfl, ?_⟩
  refine ⟨_, rfl, _, rfl, l2, l3, nums ps, nums qs, rfl, s3 _ _ gl2, gl3, by omega, by omega, by omega, by omega, fun n hn => Nat.lt_of_lt_of_le (nums_lt fewP n hn) (Nat.pow_le_pow_right (by decide) (by decide)), fun n hn => Nat.lt_of_lt_of_le (nums_lt fewQ n hn) (Nat.pow_le_pow_right (by decide) (by decide)), fun H4 p4 s4 n4 g4 => ?_⟩
  have lcv : (conv (nums ps) (nums qs)).length = ps.length + qs.length - 1 := by rw [conv_len, lnp, lnq]
  refine ⟨_, rfl, _, rfl, _, _, rfl, rfl, wide_mul bp2 bq2 (by decide) (by decide) (by decide), ?_⟩
  refine ⟨p4, conv (nums ps) (nums qs), _, rfl, g4, by omega, d0, d1, fun H5 p s5 np g5 => ?_⟩
  have big := ((a2.same s2).same s3).same s4
  exact fin H5 p (big.same s5) (big.free np) g5
end
end K02
set_option Elab.async false
set_option linter.all false
set_option maxRecDepth 100000
set_option maxHeartbeats 4000000
set_option exponentiation.threshold 20000
namespace K02
open PySem PySem.Spec PyProof.Rows L2 RatFr DataR Gx OpsR RT
abbrev sAt : Stmt := top 32
section
variable {P : Program} {w : World} {K : PySem.W.Frag} {mg : Str → Option Value} {base : Heap} {fd : FuncData}
/-- _law_at(p, x): from the last number on -/
def atR (r : Rat) : List Rat → Rat
  | [] => 0
  | q :: qs => atR r qs * r + q
def spAt : Sp := fun vs H Q _ => ∃ (v x : V) (qs : List Rat) (r : Rat), vs = [v, x] ∧ PolyAt H v qs ∧ Few qs ∧ FrAt H x r ∧ Sz 100 r ∧ ∀ H' u, Same H H' → FrAt H' u (atR r qs) → Q u H'
theorem scAt : FnScope ["p", "x", "found", "each"] ["p", "x"] (defScope sAt) := ⟨rfl, rfl, rfl, by decide +kernel, rfl, by decide +kernel, by decide +kernel⟩
theorem sz_zero : Sz 1 (0 : Rat) := ⟨by decide, by decide⟩
theorem ok_at {fdA fdM fdF fdG : FuncData} (F : FnD K "_law_at" sAt fd) (T : Names K mg) (FA : FnD K "_law_add" sAdd fdA) (FM : FnD K "_law_mul" sMul fdM) (FF : FnD K "_law_frac" sFrac fdF) (FG : FnD K "_law_gcd" sGcd fdG) : FnOk P w K mg base CX0 4 (He.ga K "_law_at") fd ["p", "x"] spAt := by
  refine F.ok scAt (fun vs H Q E ⟨_, _, _, _, e, _⟩ => by rw [e]; rfl) (fun cdv A outer s H vs Q E hr h => ?_)
  obtain ⟨v, x, qs, r, rfl, ⟨a, xs, rfl, gv, lv, fv⟩, few, hx, sr, fin⟩ := h
  have gA := T.gl "_law_add" (by decide +kernel)
  have gM := T.gl "_law_mul" (by decide +kernel)
  have bA : Binds K fdA ["x", "y"] [] := FA.bindsN fun _ _ _ _ _ _ us hl => match us, hl with | [_, _], _ => rfl
  have bM : Binds K fdM ["x", "y"] [] := FM.bindsN fun _ _ _ _ _ _ us hl => match us, hl with | [_, _], _ => rfl
  have GA : FnOk P w K mg base CX0 3 (He.ga K "_law_add") fdA ["x", "y"] (spTwo (· + ·)) := ok_add FA T FF FG
  have GM : FnOk P w K mg base CX0 3 (He.ga K "_law_mul") fdM ["x", "y"] (spTwo (· * ·)) := ok_mul FM T FF FG
  refine ⟨_, PSs.nox (pss_cons (ps_set (i := 2) scAt.nd rfl (Or.inl rfl) (pe_tup (pa_cons pe_int (pa_cons pe_int pa_nil))))
    (pss_cons (ps_for PassesOwn.never rfl (pi_revA (by rfl) (T.fr "reversed" (by decide +kernel)) (pv 0)) (pg_name (i := 3) scAt.nd rfl (Or.inl rfl))
      (pss_one (ps_set (i := 2) scAt.nd rfl (Or.inl rfl) (pe_call GA hr rfl gA FA.kp bA .nil pass0 (pa_cons (pe_call GM hr rfl gM FM.kp bM .nil pass0 (pa_cons (pv 2) (pa_cons (pv 1) pa_nil))) (pa_cons (pv 3) pa_nil))))))
    (pss_one (ps_ret (pv 2))))), ?_⟩
  have l7 := few.len
  refine ⟨by show 2 ≤ sizeLine; decide, fun z hz => ?_⟩
  have s1 := same_new (o := .tup [.int 0, .int 1]) hz
  have e0 : FrAt (upd H z (.tup [.int 0, .int 1])) (.ref z) 0 := ⟨z, rfl, upd_same⟩
  generalize upd H z (.tup [.int 0, .int 1]) = H1 at s1 e0 ⊢
  refine ⟨_, rfl, a, xs, rfl, .inr ⟨.of (s1 _ _ gv), for_ItvT (K := K) (a := a) (xs := xs) (fun i σ H' => Same H H' ∧ i ≤ qs.length ∧ ∃ (u : V) (y : Option V), FrAt H' u (atR r (qs.drop (qs.length - i))) ∧ Sz (1 + 202 * i) (atR r (qs.drop (qs.length - i))) ∧ σ = [some (.ref a), some x, some u, y])
    ?_ ?_ ?_ ?_⟩⟩
  · refine ⟨s1, Nat.zero_le _, _, _, ?_, ?_, rfl⟩
    · rw [Nat.sub_zero, List.drop_length]
      exact e0
    · rw [Nat.sub_zero, List.drop_length]
      exact sz_zero
  · exact fun i σ H' p => .of (p.1 _ _ gv)
  · rintro i y σ H' lt hy ⟨sm, li, u, y0, fu, su, rfl⟩
    have eq1 : xs.length - 1 - i = qs.length - (i + 1) := by omega
    rw [eq1] at hy
    have lq : qs.length - (i + 1) < qs.length := by omega
    have hq := List.getElem?_eq_getElem lq
    obtain ⟨b, hb, gb⟩ := fv _ _ hq
    rw [hy] at hb
    cases hb
    have dr : qs.drop (qs.length - (i + 1)) = qs[qs.length - (i + 1)] :: qs.drop (qs.length - i) := by
      rw [List.drop_eq_getElem_cons lq, show qs.length - (i + 1) + 1 = qs.length - i by omega]
    have mq := List.mem_of_getElem? hq
    generalize qs[qs.length - (i + 1)] = q at gb dr mq
    have szq : Sz 100 q := ⟨few.num q mq, Nat.lt_of_le_of_lt (few.den q mq) (by decide)⟩
    have sm2 := su.mul sr
    refine ⟨_, rfl, _, rfl, u, x, _, r, rfl, fu, hx.same sm, su.mono (by omega), sr.mono (by decide), fun p1 h1 => ?_⟩
    have b1 := same_new (o := fr (atR r (qs.drop (qs.length - i)) * r)) h1
    refine ⟨_, rfl, _, _, _, q, rfl, ⟨p1, rfl, upd_same⟩, ⟨b, rfl, b1 _ _ (sm _ _ gb)⟩, sm2.mono (by omega), szq.mono (by decide), fun p2 h2 => ?_⟩
    refine ⟨(sm.trans b1).trans (same_new h2), by omega, .ref p2, _, ⟨p2, rfl, ?_⟩, ?_, rfl⟩
    · rw [upd_same, dr]
      rfl
    · rw [dr]
      exact (sm2.add szq).mono (by omega)
  · rintro σ H' ⟨sm, li, u, y, fu, su, rfl⟩
    rw [lv, Nat.sub_self, List.drop_zero] at fu
    exact ⟨_, rfl, fin H' u sm fu⟩
end
end K02
set_option Elab.async false
set_option linter.all false
set_option maxRecDepth 100000
set_option maxHeartbeats 4000000
set_option exponentiation.threshold 20000
namespace K02
open PySem PySem.Spec PyProof.Rows L2 RatFr DataR Gx OpsR
abbrev sCut : Stmt := top 29
abbrev sBy : Stmt := top 31
/-- a list of fractions -/
def LineAt (H : Hp) (a : Addr) (rs : List Rat) : Prop := ∃ xs, H a = some (.lst xs) ∧ xs.length = rs.length ∧ ∀ (i : Nat) (q : Rat), rs[i]? = some q → ∃ b, xs[i]? = some (.ref b) ∧ H b = some (fr q)
section
variable {P : Program} {w : World} {K : PySem.W.Frag} {mg : Str → Option Value} {base : Heap} {fd : FuncData}
/-- _law_cut(line), a line whose last number is not 0 -/
def spCut : Sp := fun vs H Q _ => ∃ (a : Addr) (rs : List Rat), vs = [.ref a] ∧ LineAt H a rs ∧ Good rs ∧ ∀ H' p, Same H H' → PolyAt H' (.ref p) rs → Q (.ref p) H'
theorem scCut : FnScope ["line", "found"] ["line"] (defScope sCut) := ⟨rfl, rfl, rfl, by decide +kernel, rfl, by decide +kernel, by decide +kernel⟩
theorem ok_cut (F : FnD K "_law_cut" sCut fd) (T : Names K mg) : FnOk P w K mg base CX0 1 (He.ga K "_law_cut") fd ["line"] spCut := by
  refine F.ok scCut (fun vs H Q E ⟨_, _, e, _⟩ => by rw [e]; rfl) (fun cdv A outer s H vs Q E hr h => ?_)
  obtain ⟨a, rs, rfl, ⟨xs, ga, lx, fx⟩, good, fin⟩ := h
  refine ⟨_, PSs.nox (pss_cons (ps_set (i := 1) scCut.nd rfl (Or.inl rfl) (pe_callTy call_list_of (by rfl) (T.fr "list" (by decide +kernel)) (by decide +kernel) (pa_cons (pv 0) pa_nil)))
    (pss_cons (ps_while PassesOwn.never (PW.pt (pw_and (pt_cmpR (op_neNil hr.units) (pv 1) (pe_lst pa_nil) (nomark _)) (pw_and1 (pt_cmpR op_eq (pe_ix ix_tup (pe_ix ix_list (pv 1) (pe_un un_neg pe_int) (fun _ _ => rfl)) pe_int (fun _ _ => rfl)) pe_int (nomark _))))) (pss_one ps_never))
    (pss_one (ps_ret (pe_callTy call_tuple_of (by rfl) (T.fr "tuple" (by decide +kernel)) (by decide +kernel) (pa_cons (pv 1) pa_nil)))))), ?_⟩
  have n0 : 0 < rs.length := List.length_pos_iff.mpr good.ne
  refine ⟨_, rfl, a, xs, rfl, .inl (.of ga), fun f hf => ?_⟩
  have s1 := same_new (o := .lst xs) hf
  have gf : upd H f (.lst xs) f = some (.lst xs) := upd_same
  generalize upd H f (.lst xs) = H1 at s1 gf ⊢
  refine while_by (fun σ H' => Same H1 H' ∧ σ = [some (.ref a), some (.ref f)]) (fun _ _ => 0) ⟨Same.refl _, rfl⟩ ?_ ?_
  · rintro σ H' ⟨sm, rfl⟩
    refine ⟨_, rfl, by show 0 ≤ sizeLine; exact Nat.zero_le _, fun l hl => ?_⟩
    have nl : f ≠ l := fun z => by rw [← z, sm _ _ gf] at hl; cases hl
    have sl := same_new (o := .lst []) hl
    have xe : xs.isEmpty = false := by
      cases xs with
      | nil => simp at lx; omega
      | cons _ _ => rfl
    refine ⟨f, l, xs, rfl, rfl, sl _ _ (sm _ _ gf), upd_same, _, rfl, ?_⟩
    rw [xe]
    obtain ⟨ri, rl, er⟩ : ∃ ri rl, rs = ri ++ [rl] := ⟨rs.dropLast, rs.getLast good.ne, (List.dropLast_concat_getLast good.ne).symm⟩
    obtain ⟨b, hb, gb⟩ := fx ri.length rl (by rw [er]; simp)
    have lr : rs.length = ri.length + 1 := by rw [er]; simp
    have at1 : atI xs (-1) = some (.ref b) := by
      have s : xs = xs.take ri.length ++ [.ref b] := by
        have dr : xs.drop ri.length = [.ref b] := by
          apply List.ext_getElem?
          intro k
          rw [List.getElem?_drop]
          cases k with
          | zero => exact hb
          | succ k => rw [List.getElem?_eq_none (by omega)]; rfl
        rw [← dr, List.take_append_drop]
      rw [s]
      exact atI_last _ _
    have nz : rl.num ≠ 0 := good.last rl (by rw [er]; simp)
    refine ⟨_, rfl, _, rfl, f, xs, _, _, rfl, rfl, .of (sl _ _ (sm _ _ gf)), at1, ?_⟩
    refine ⟨b, _, _, _, rfl, rfl, .of (sl _ _ (sm _ _ (s1 _ _ gb))), atI_nat (j := 0) rfl, rfl, _, rfl, ?_⟩
    rw [show decide (V.int rl.num = V.int 0) = false from decide_eq_false fun y => nz (V.int.inj y)]
    refine ⟨_, rfl, f, xs, rfl, .inl ⟨.of (sl _ _ (sm _ _ gf)), fun p hp => ?_⟩⟩
    have s2 := (s1.trans sm).trans (sl.trans (same_new (o := .tup xs) hp))
    exact fin _ p s2 ⟨p, xs, rfl, upd_same, lx, fun i q hq => let ⟨b, e, g⟩ := fx i q hq; ⟨b, e, s2 _ _ g⟩⟩
  · rintro σ H' Q1 Q2 k ⟨v, e, l, g⟩
    refine ⟨v, e, l, fun p hp => ?_⟩
    obtain ⟨a1, b1, x1, e1, e2, e3, e4, c, e5, g⟩ := g p hp
    refine ⟨a1, b1, x1, e1, e2, e3, e4, c, e5, ?_⟩
    cases c with
    | false => exact k _ _ g
    | true =>
      obtain ⟨v1, f1, i0, f2, p1, x2, i1, z1, f3, f4, f5, f6, p2, x3, i2, z2, f7, f8, f9, f10, f11, c2, f12, g⟩ := g
      exact ⟨v1, f1, i0, f2, p1, x2, i1, z1, f3, f4, f5, f6, p2, x3, i2, z2, f7, f8, f9, f10, f11, c2, f12, k _ _ g⟩
/-- _law_by(p, x): each number times x -/
def spBy : Sp := fun vs H Q _ => ∃ (v x : V) (ps : List Rat) (r : Rat), vs = [v, x] ∧ PolyAt H v ps ∧ Few ps ∧ FrAt H x r ∧ Sz 100 r ∧ Good (ps.map (· * r)) ∧ ∀ H' p, Same H H' → PolyAt H' (.ref p) (ps.map (· * r)) → Q (.ref p) H'
theorem scBy : FnScope ["p", "x", "each"] ["p", "x"] (defScope sBy) := ⟨rfl, rfl, rfl, by decide +kernel, rfl, by decide +kernel, by decide +kernel⟩
theorem ok_by {fdC fdM fdF fdG : FuncData} (F : FnD K "_law_by" sBy fd) (T : Names K mg) (FC : FnD K "_law_cut" sCut fdC) (FM : FnD K "_law_mul" sMul fdM) (FF : FnD K "_law_frac" sFrac fdF) (FG : FnD K "_law_gcd" sGcd fdG) : FnOk P w K mg base CX0 4 (He.ga K "_law_by") fd ["p", "x"] spBy := by
  refine F.ok scBy (fun vs H Q E ⟨_, _, _, _, e, _⟩ => by rw [e]; rfl) (fun cdv A outer s H vs Q E hr h => ?_)
  obtain ⟨v, x, ps, r, rfl, ⟨a, xs, rfl, gv, lv, fv⟩, few, hx, sr, good, fin⟩ := h
  have gC := T.gl "_law_cut" (by decide +kernel)
  have gM := T.gl "_law_mul" (by decide +kernel)
  have bC : Binds K fdC ["line"] [] := FC.bindsN fun _ _ _ _ _ _ us hl => match us, hl with | [_], _ => rfl
  have bM : Binds K fdM ["x", "y"] [] := FM.bindsN fun _ _ _ _ _ _ us hl => match us, hl with | [_, _], _ => rfl
  have GC : FnOk P w K mg base CX0 1 (He.ga K "_law_cut") fdC ["line"] spCut := ok_cut FC T
  have GM : FnOk P w K mg base CX0 3 (He.ga K "_law_mul") fdM ["x", "y"] (spTwo (· * ·)) := ok_mul FM T FF FG
  refine ⟨_, PSs.nox (pss_one (ps_ret (pe_call GC (hr.mono (by decide)) rfl gC FC.kp bC .nil pass0 (pa_cons (pe_lc (own := [("each", 2)]) (g := gName 2) (tt := tYes) (by rfl) scBy.nd (pi_tup (pv 0))
      (blkOk_by (own := [("each", 2)]) (N := ["p", "x", "each"]) (sc := defScope sBy) (by decide +kernel)) (fun _ _ _ _ _ => pg_name (i := 2) scBy.nd rfl (Or.inl rfl)) (fun _ _ _ _ _ => pts_nil)
      (fun _ _ _ _ _ => pe_call GM hr rfl gM FM.kp bM .nil pass0 (pa_cons (pv 2) (pa_cons (pv 1) pa_nil)))) pa_nil)))), ?_⟩
  have sz : sizeLine = 16777216 := sizeLine_eq
  have l7 := few.len
  refine ⟨_, rfl, a, rfl, ⟨xs, .of gv⟩, fun D hD => lc_tup (K := K) (a := a) (xs := xs) (fun i H' => Same H H' ∧ ∃ acc, H' D = some (.lst acc) ∧ acc.length = i ∧ ∀ (k : Nat) (q : Rat), k < i → ps[k]? = some q → ∃ b, acc[k]? = some (.ref b) ∧ H' b = some (fr (q * r)))
    ⟨same_new hD, [], upd_same, rfl, fun k n hk _ => absurd hk (Nat.not_lt_zero _)⟩ (fun i H' _ p => .of (p.1 _ _ gv)) ?_ ?_⟩
  · rintro i y H' hi ⟨sm, acc, hA, la, ia⟩
    have lti := (List.getElem?_eq_some_iff.mp hi).1
    obtain ⟨q, hq⟩ : ∃ q, ps[i]? = some q := ⟨ps[i]'(by omega), List.getElem?_eq_getElem (by omega)⟩
    obtain ⟨b0, hb0, gb0⟩ := fv i q hq
    rw [hi] at hb0
    cases hb0
    have mq := List.mem_of_getElem? hq
    have szq : Sz 100 q := ⟨few.num q mq, Nat.lt_of_le_of_lt (few.den q mq) (by decide)⟩
    refine ⟨rfl, rd_yes ?_⟩
    rw [if_pos rfl]
    refine ⟨_, rfl, _, rfl, _, x, q, r, rfl, ⟨b0, rfl, sm _ _ gb0⟩, hx.same sm, szq.mono (by decide), sr.mono (by decide), fun b hb => ?_⟩
    have nD : b ≠ D := fun z => by rw [z, hA] at hb; cases hb
    refine ⟨acc, (upd_ne (Ne.symm nD)).trans hA, by omega, same_put (sm.trans (same_new hb)) hD, acc ++ [.ref b], upd_same, by rw [List.length_append, la]; rfl, fun k m hk hm => ?_⟩
    by_cases z : k = i
    · subst z
      rw [hq] at hm
      cases hm
      refine ⟨b, ?_, ?_⟩
      · rw [List.getElem?_append_right (by omega), la, Nat.sub_self]
        rfl
      · rw [upd_ne nD, upd_same]
    · obtain ⟨b2, e2, g2'⟩ := ia k m (by omega) hm
      have n2 : b2 ≠ b := fun y => by rw [y, hb] at g2'; cases g2'
      have n3 : b2 ≠ D := fun y => by rw [y, hA] at g2'; cases g2'
      refine ⟨b2, ?_, ?_⟩
      · rw [List.getElem?_append_left (by omega)]
        exact e2
      · rw [upd_ne n3, upd_ne n2]
        exact g2'
  · rintro H' ⟨sm, acc, hA, la, ia⟩
    refine ⟨D, ps.map (· * r), rfl, ⟨acc, hA, by rw [la, lv, List.length_map], fun k q hq => ?_⟩, good, fun H2 p s2 hp => fin H2 p (sm.trans s2) hp⟩
    rw [List.getElem?_map] at hq
    obtain ⟨n, hn, rfl⟩ := Option.map_eq_some_iff.mp hq
    have lt := (List.getElem?_eq_some_iff.mp hn).1
    exact ia k n (by omega) hn
end
end K02
set_option Elab.async false
set_option linter.all false
set_option maxRecDepth 100000
set_option maxHeartbeats 4000000
set_option exponentiation.threshold 20000
namespace K02
open PySem PySem.Spec PyProof.Rows L2 RatFr DataR Gx OpsR
abbrev sLTimes : Stmt := top 30
section
variable {P : Program} {w : World} {K : PySem.W.Frag} {mg : Str → Option Value} {base : Heap} {fd : FuncData}
def addAtR (o : List Rat) (k : Nat) (v : Rat) : List Rat := o.set k (o.getD k 0 + v)
def innR (o : List Rat) (i : Nat) (a : Rat) (qs : List Rat) : Nat → List Rat
  | 0 => o
  | j + 1 => addAtR (innR o i a qs j) (i + j) (a * qs.getD j 0)
def outsR (ps qs : List Rat) : Nat → List Rat
  | 0 => List.replicate (ps.length + qs.length - 1) 0
  | i + 1 => innR (outsR ps qs i) i (ps.getD i 0) qs qs.length
def convR (ps qs : List Rat) : List Rat := outsR ps qs ps.length
theorem innR_len {o : List Rat} {i : Nat} {a : Rat} {qs : List Rat} : ∀ j, (innR o i a qs j).length = o.length
  | 0 => rfl
  | j + 1 => by
    show (addAtR _ _ _).length = _
    unfold addAtR
    rw [List.length_set, innR_len j]
theorem outsR_len {ps qs : List Rat} : ∀ i, (outsR ps qs i).length = ps.length + qs.length - 1
  | 0 => List.length_replicate
  | i + 1 => by
    show (innR _ _ _ _ _).length = _
    rw [innR_len, outsR_len i]
theorem LineAt.same {H H' : Hp} {a : Addr} {rs : List Rat} (s : Same H H') (h : LineAt H a rs) : LineAt H' a rs :=
  let ⟨xs, g, l, f⟩ := h
  ⟨xs, s _ _ g, l, fun i q hq => let ⟨b, x, y⟩ := f i q hq; ⟨b, x, s _ _ y⟩⟩
/-- sizes while row i is added, up to place j -/
def Szs (i j : Nat) (rs : List Rat) : Prop := ∀ (k : Nat) (q : Rat), rs[k]? = some q → Sz (if k < i + j then 1 + 201 * (i + 1) else 1 + 201 * i) q
theorem flat_one (v : V) : ∀ k : Nat, (List.replicate k [v]).flatten = List.replicate k v
  | 0 => rfl
  | k + 1 => by
    rw [List.replicate_succ, List.flatten_cons, flat_one v k, List.replicate_succ]
    rfl
theorem getD_some {rs : List Rat} {k : Nat} {q : Rat} (h : rs[k]? = some q) : rs.getD k 0 = q := by rw [List.getD_eq_getElem?_getD, h]; rfl
/-- one number of the line is put anew -/
theorem line_set {H : Hp} {f p2 : Addr} {rs : List Rat} {xs : List V} {k : Nat} {c0 v : Rat} (gf : H f = some (.lst xs)) (l : xs.length = rs.length) (fx : ∀ (i : Nat) (q : Rat), rs[i]? = some q → ∃ b, xs[i]? = some (.ref b) ∧ H b = some (fr q)) (hk : rs[k]? = some c0) (g2 : H p2 = some (fr (c0 + v))) :
    LineAt (upd H f (.lst (xs.set k (.ref p2)))) f (addAtR rs k v) := by
  have lt := (List.getElem?_eq_some_iff.mp hk).1
  have nf : ∀ {b : Addr} {q : Rat}, H b = some (fr q) → b ≠ f := fun g z => by rw [z, gf] at g; cases g
  refine ⟨_, upd_same, by unfold addAtR; rw [List.length_set, List.length_set, l], fun i q hq => ?_⟩
  unfold addAtR at hq
  rw [getD_some hk] at hq
  by_cases z : i = k
  · subst z
    rw [List.getElem?_set_self lt] at hq
    cases hq
    exact ⟨p2, List.getElem?_set_self (by omega), by rw [upd_ne (nf g2)]; exact g2⟩
  · rw [List.getElem?_set_ne (Ne.symm z)] at hq
    obtain ⟨b, e, g⟩ := fx i q hq
    exact ⟨b, by rw [List.getElem?_set_ne (Ne.symm z)]; exact e, by rw [upd_ne (nf g)]; exact g⟩
theorem szs_set {i j : Nat} {rs : List Rat} {c0 v : Rat} (s : Szs i j rs) (hk : rs[i + j]? = some c0) (sv : Sz 200 v) : Szs i (j + 1) (addAtR rs (i + j) v) := by
  intro k q hq
  have lt := (List.getElem?_eq_some_iff.mp hk).1
  unfold addAtR at hq
  rw [getD_some hk] at hq
  by_cases z : k = i + j
  · subst z
    rw [List.getElem?_set_self lt] at hq
    cases hq
    have a := s _ _ hk
    rw [if_neg (Nat.lt_irrefl _)] at a
    rw [if_pos (by omega)]
    exact (a.add sv).mono (by omega)
  · rw [List.getElem?_set_ne (Ne.symm z)] at hq
    have a := s _ _ hq
    by_cases y : k < i + j
    · rw [if_pos y] at a
      rw [if_pos (by omega)]
      exact a
    · rw [if_neg y] at a
      rw [if_neg (by omega)]
      exact a
/-- _law_times(p, q) -/
def spLTimes : Sp := fun vs H Q _ => ∃ (v x : V) (ps qs : List Rat), vs = [v, x] ∧ PolyAt H v ps ∧ Few ps ∧ PolyAt H x qs ∧ Few qs ∧ 0 < ps.length ∧ 0 < qs.length ∧ Good (convR ps qs) ∧ ∀ H' p, (∀ b o, H b = some o → H' b = some o) → PolyAt H' (.ref p) (convR ps qs) → Q (.ref p) H'
theorem scLTimes : FnScope ["p", "q", "found", "i", "j"] ["p", "q"] (defScope sLTimes) := ⟨rfl, rfl, rfl, by decide +kernel, rfl, by decide +kernel, by decide +kernel⟩
theorem ok_ltimes {fdC fdA fdM fdF fdG : FuncData} (F : FnD K "_law_times" sLTimes fd) (T : Names K mg) (FC : FnD K "_law_cut" sCut fdC) (FA : FnD K "_law_add" sAdd fdA) (FM : FnD K "_law_mul" sMul fdM) (FF : FnD K "_law_frac" sFrac fdF) (FG : FnD K "_law_gcd" sGcd fdG) : FnOk P w K mg base CX0 4 (He.ga K "_law_times") fd ["p", "q"] spLTimes := by
  refine F.ok scLTimes (fun vs H Q E ⟨_, _, _, _, e, _⟩ => by rw [e]; rfl) (fun cdv A outer s H vs Q E hr h => ?_)
  obtain ⟨v, x, ps, qs, rfl, ⟨a, xs, rfl, ga, la, fa⟩, fewP, ⟨b, ys, rfl, gb, lb, fb⟩, fewQ, p0, q0, good, fin⟩ := h
  have gC := T.gl "_law_cut" (by decide +kernel)
  have gA := T.gl "_law_add" (by decide +kernel)
  have gM := T.gl "_law_mul" (by decide +kernel)
  have bC : Binds K fdC ["line"] [] := FC.bindsN fun _ _ _ _ _ _ us hl => match us, hl with | [_], _ => rfl
  have bA : Binds K fdA ["x", "y"] [] := FA.bindsN fun _ _ _ _ _ _ us hl => match us, hl with | [_, _], _ => rfl
  have bM : Binds K fdM ["x", "y"] [] := FM.bindsN fun _ _ _ _ _ _ us hl => match us, hl with | [_, _], _ => rfl
  have GC : FnOk P w K mg base CX0 1 (He.ga K "_law_cut") fdC ["line"] spCut := ok_cut FC T
  have GA : FnOk P w K mg base CX0 3 (He.ga K "_law_add") fdA ["x", "y"] (spTwo (· + ·)) := ok_add FA T FF FG
  have GM : FnOk P w K mg base CX0 3 (He.ga K "_law_mul") fdM ["x", "y"] (spTwo (· * ·)) := ok_mul FM T FF FG
  have gl := T.fr "len" (by decide +kernel)
  have gr := T.fr "range" (by decide +kernel)
  refine ⟨_, PSs.nox (pss_cons (ps_set (i := 2) scLTimes.nd rfl (Or.inl rfl) (pe_op op_rep (pe_lst (pa_cons (pe_tup (pa_cons pe_int (pa_cons pe_int pa_nil))) pa_nil))
      (pe_callB (call_max2 rfl) (by rfl) (T.fr "max" (by decide +kernel)) (by decide +kernel) (pa_cons pe_int (pa_cons (pe_op op_sub (pe_op op_add (pe_callB call_len_seq (by rfl) gl PySem.boot_len (pa_cons (pv 0) pa_nil)) (pe_callB call_len_seq (by rfl) gl PySem.boot_len (pa_cons (pv 1) pa_nil))) pe_int) pa_nil)))))
    (pss_cons (ps_for PassesOwn.never rfl (pi_range1 rfl gr (pa_cons (pe_callB call_len_seq (by rfl) gl PySem.boot_len (pa_cons (pv 0) pa_nil)) pa_nil)) (pg_name (i := 3) scLTimes.nd rfl (Or.inl rfl))
      (pss_one (ps_for PassesOwn.never rfl (pi_range1 rfl gr (pa_cons (pe_callB call_len_seq (by rfl) gl PySem.boot_len (pa_cons (pv 1) pa_nil)) pa_nil)) (pg_name (i := 4) scLTimes.nd rfl (Or.inl rfl))
        (pss_one (ps_asg (pe_call GA hr rfl gA FA.kp bA .nil pass0 (pa_cons (pe_ix ix_list (pv 2) (pe_op op_add (pv 3) (pv 4)) (fun _ _ => rfl)) (pa_cons (pe_call GM hr rfl gM FM.kp bM .nil pass0 (pa_cons (pe_ix ix_tup (pv 0) (pv 3) (fun _ _ => rfl)) (pa_cons (pe_ix ix_tup (pv 1) (pv 4) (fun _ _ => rfl)) pa_nil))) pa_nil)))
          (pg_sub (pv 2) (pe_op op_add (pv 3) (pv 4)) set_list))))))
    (pss_one (ps_ret (pe_call GC (hr.mono (by decide)) rfl gC FC.kp bC .nil pass0 (pa_cons (pv 2) pa_nil)))))), ?_⟩
  have sz : sizeLine = 16777216 := sizeLine_eq
  have lp := fewP.len
  have lq := fewQ.len
  refine ⟨by show 2 ≤ sizeLine; omega, fun z hz => ⟨by show 1 ≤ sizeLine; omega, fun l hl => ?_⟩⟩
  have s1 : Same H (upd (upd H z (.tup [.int 0, .int 1])) l (.lst [.ref z])) := (same_new hz).trans (same_new hl)
  have gz : upd (upd H z (.tup [.int 0, .int 1])) l (.lst [.ref z]) z = some (fr 0) := same_new hl _ _ upd_same
  have gl1 : upd (upd H z (.tup [.int 0, .int 1])) l (.lst [.ref z]) l = some (.lst [.ref z]) := upd_same
  generalize upd (upd H z (.tup [.int 0, .int 1])) l (.lst [.ref z]) = H1 at s1 gz gl1 ⊢
  have mx : (if ((xs.length : Int) + (ys.length : Int) - 1) > 0 then ((xs.length : Int) + (ys.length : Int) - 1) else 0) = ((ps.length + qs.length - 1 : Nat) : Int) := by
    rw [if_pos (by omega)]
    omega
  refine ⟨_, rfl, a, xs, rfl, .inr (.of (s1 _ _ ga)), _, rfl, b, ys, rfl, .inr (.of (s1 _ _ gb)), _, _, rfl, rfl, _, _, rfl, rfl, _, _, rfl, ?_⟩
  rw [mx]
  refine ⟨l, _, _, rfl, rfl, gl1, by omega, by omega, by show 1 * _ ≤ _; omega, fun f hf => ?_⟩
  have fH : H f = none := s1.free hf
  have s2 : Same H (upd H1 f (.lst (List.replicate ((ps.length + qs.length - 1 : Nat) : Int).toNat [V.ref z]).flatten)) := s1.trans (same_new hf)
  have L0 : LineAt (upd H1 f (.lst (List.replicate ((ps.length + qs.length - 1 : Nat) : Int).toNat [V.ref z]).flatten)) f (outsR ps qs 0) := by
    refine ⟨_, upd_same, ?_, fun i q hq => ⟨z, ?_, ?_⟩⟩
    · rw [flat_one, List.length_replicate, outsR_len]
      omega
    · have lt := (List.getElem?_eq_some_iff.mp hq).1
      rw [outsR_len] at lt
      rw [flat_one, List.getElem?_replicate, if_pos (by omega)]
    · have e : q = 0 := by
        have m := List.mem_of_getElem? hq
        exact List.eq_of_mem_replicate m
      rw [e]
      exact same_new hf _ _ gz
  have Z0 : Szs 0 0 (outsR ps qs 0) := fun k q hq => by
    have e : q = 0 := List.eq_of_mem_replicate (List.mem_of_getElem? hq)
    rw [e]
    exact sz_zero.mono (by split <;> omega)
  generalize upd H1 f (.lst (List.replicate ((ps.length + qs.length - 1 : Nat) : Int).toNat [V.ref z]).flatten) = H2 at s2 L0 ⊢
  refine ⟨_, rfl, a, xs, rfl, .inr (.of (s2 _ _ ga)), xs.length, rfl, by omega, by omega, for_range (lo := 0) (n := xs.length) (fun i σ H' => Same H H' ∧ LineAt H' f (outsR ps qs i) ∧ Szs i 0 (outsR ps qs i) ∧ ∃ y z, σ = [some (.ref a), some (.ref b), some (.ref f), y, z])
    ⟨s2, L0, Z0, _, _, rfl⟩ ?_ ?_⟩
  · rintro i σ H3 hi ⟨s3, L3, Z3, y, z, rfl⟩
    obtain ⟨q, hq⟩ : ∃ q, ps[i]? = some q := ⟨ps[i]'(by omega), List.getElem?_eq_getElem (by omega)⟩
    obtain ⟨ba, hba, gba⟩ := fa i q hq
    have mq := List.mem_of_getElem? hq
    have szq : Sz 100 q := ⟨fewP.num q mq, Nat.lt_of_le_of_lt (fewP.den q mq) (by decide)⟩
    have eqD := getD_some hq
    refine ⟨_, rfl, b, ys, rfl, .inr (.of (s3 _ _ gb)), ys.length, rfl, by omega, by omega, for_range (lo := 0) (n := ys.length) (fun j σ H' => Same H H' ∧ LineAt H' f (innR (outsR ps qs i) i q qs j) ∧ Szs i j (innR (outsR ps qs i) i q qs j) ∧ ∃ z, σ = [some (.ref a), some (.ref b), some (.ref f), some (.int (0 + (i : Int))), z])
      ⟨s3, L3, Z3, _, rfl⟩ ?_ ?_⟩
    · rintro j σ H4 hj ⟨s4, ⟨us, gf, lu, fu⟩, Z4, z, rfl⟩
      obtain ⟨r, hr2⟩ : ∃ r, qs[j]? = some r := ⟨qs[j]'(by omega), List.getElem?_eq_getElem (by omega)⟩
      obtain ⟨bb, hbb, gbb⟩ := fb j r hr2
      have mr := List.mem_of_getElem? hr2
      have szr : Sz 100 r := ⟨fewQ.num r mr, Nat.lt_of_le_of_lt (fewQ.den r mr) (by decide)⟩
      have erD := getD_some hr2
      have lr : (innR (outsR ps qs i) i q qs j).length = ps.length + qs.length - 1 := by rw [innR_len, outsR_len]
      have hk := List.getElem?_eq_getElem (show i + j < (innR (outsR ps qs i) i q qs j).length by omega)
      generalize (innR (outsR ps qs i) i q qs j)[i + j] = c0 at hk
      obtain ⟨b0, hb0, gb0⟩ := fu _ _ hk
      have ij : (0 + (i : Int)) + (0 + (j : Int)) = ((i + j : Nat) : Int) := by omega
      have zc := Z4 _ _ hk
      rw [if_neg (Nat.lt_irrefl _)] at zc
      refine ⟨_, rfl, _, rfl, _, rfl, _, _, rfl, rfl, f, us, _, .ref b0, rfl, rfl, .of gf, by rw [ij]; exact atI_nat hb0, ?_⟩
      refine ⟨_, rfl, _, rfl, a, xs, _, .ref ba, rfl, rfl, .of (s4 _ _ ga), by rw [Int.zero_add]; exact atI_nat hba, ?_⟩
      refine ⟨_, rfl, _, rfl, b, ys, _, .ref bb, rfl, rfl, .of (s4 _ _ gb), by rw [Int.zero_add]; exact atI_nat hbb, ?_⟩
      refine ⟨_, _, q, r, rfl, ⟨ba, rfl, s4 _ _ gba⟩, ⟨bb, rfl, s4 _ _ gbb⟩, szq.mono (by decide), szr.mono (by decide), fun p1 h1 => ?_⟩
      have n1 := same_new (o := fr (q * r)) h1
      refine ⟨_, _, c0, q * r, rfl, ⟨b0, rfl, n1 _ _ gb0⟩, ⟨p1, rfl, upd_same⟩, zc.mono (by omega), (szq.mul szr).mono (by decide), fun p2 h2 => ?_⟩
      have n2 := n1.trans (same_new (o := fr (c0 + q * r)) h2)
      have g2 : upd (upd H4 p1 (fr (q * r))) p2 (fr (c0 + q * r)) p2 = some (fr (c0 + q * r)) := upd_same
      generalize upd (upd H4 p1 (fr (q * r))) p2 (fr (c0 + q * r)) = H5 at n2 g2 ⊢
      refine ⟨_, rfl, _, rfl, _, rfl, _, _, rfl, rfl, f, us, _, i + j, rfl, rfl, n2 _ _ gf, ?_, ?_⟩
      · rw [ij]
        unfold ixN
        rw [if_pos (by omega), if_pos (by omega)]
        rfl
      · have e : innR (outsR ps qs i) i q qs (j + 1) = addAtR (innR (outsR ps qs i) i q qs j) (i + j) (q * r) := by
          show addAtR _ _ _ = _
          rw [erD]
        refine ⟨same_put (s4.trans n2) fH, ?_, ?_, _, rfl⟩
        · rw [e]
          exact line_set (n2 _ _ gf) lu (fun k t hk2 => let ⟨b1, e1, g1⟩ := fu k t hk2; ⟨b1, e1, n2 _ _ g1⟩) hk g2
        · rw [e]
          exact szs_set Z4 hk (szq.mul szr)
    · rintro σ H4 ⟨s4, L4, Z4, z, rfl⟩
      have e : innR (outsR ps qs i) i q qs ys.length = outsR ps qs (i + 1) := by
        rw [lb]
        show _ = innR _ _ _ _ _
        rw [eqD]
      rw [e] at L4 Z4
      refine ⟨s4, L4, fun k t hk => ?_, _, _, rfl⟩
      have m := Z4 k t hk
      refine m.mono ?_
      split <;> split <;> omega
  · rintro σ H3 ⟨s3, L3, Z3, y, z, rfl⟩
    rw [la] at L3
    exact ⟨_, rfl, f, convR ps qs, rfl, L3, good, fun H4 p s4 hp => fin H4 p (s3.trans s4) hp⟩
end
end K02
set_option Elab.async false
set_option linter.all false
set_option maxRecDepth 100000
set_option maxHeartbeats 4000000
set_option exponentiation.threshold 20000
namespace K02
open PySem PySem.Spec PyProof.Rows L2 RatFr DataR Gx OpsR
section
variable {P : Program} {w : World} {K : PySem.W.Frag} {mg : Str → Option Value} {base : Heap} {fd : FuncData}
/-- the well was drawn from, things were made -/
structure Drew (a : Addr) (H H' : Hp) : Prop where
  keep : ∀ b o, b ≠ a → H b = some o → H' b = some o
  well : WellAt H' a
theorem Drew.trans {a : Addr} {H H1 H2 : Hp} (x : Drew a H H1) (y : Drew a H1 H2) : Drew a H H2 := ⟨fun b o n e => y.keep b o n (x.keep b o n e), y.well⟩
theorem Drew.put {a : Addr} {H : Hp} {g b c : Int} (ok : WellOk g b c) : Drew a H (upd H a (wl g b c)) := ⟨fun b o n e => by rw [upd_ne n]; exact e, g, b, c, upd_same, ok⟩
theorem Drew.same {a : Addr} {H H1 : Hp} (h : WellAt H a) (s : Same H H1) : Drew a H H1 := let ⟨g, b, c, e, ok⟩ := h; ⟨fun b o _ e => s b o e, g, b, c, s _ _ e, ok⟩
theorem Drew.fr {a : Addr} {H H1 : Hp} (x : Drew a H H1) (h : WellAt H a) {v : V} {q : Rat} (f : FrAt H v q) : FrAt H1 v q := by
  obtain ⟨b, e, g⟩ := f
  obtain ⟨g1, b1, c1, e1, _⟩ := h
  exact ⟨b, e, x.keep b _ (fun z => by rw [z, e1] at g; cases g) g⟩
theorem div_ne {u d : Int} (hu : u ≠ 0) (hd : 0 < d) : (Rat.divInt u d).num ≠ 0 := fun z => by
  rw [(div_num (u := u) hd).1] at z
  have dv : ((Nat.gcd u.natAbs d.natAbs : Nat) : Int) ∣ u := Int.natAbs_dvd_natAbs.mp (by rw [Int.natAbs_natCast]; exact Nat.gcd_dvd_left _ _)
  have c := Int.ediv_mul_cancel dv
  rw [z, Int.zero_mul] at c
  exact hu c.symm
/-- _law_small(well) -/
def spSmall : Sp := fun vs H Q _ => ∃ a : Addr, vs = [.ref a] ∧ WellAt H a ∧ ∀ H' u q, Drew a H H' → FrAt H' u q → q.num ≠ 0 → Sz 3 q → Q u H'
theorem scSmall : FnScope ["well", "up", "down"] ["well"] (defScope sSmall) := ⟨rfl, rfl, rfl, by decide +kernel, rfl, by decide +kernel, by decide +kernel⟩
theorem ok_small {fdP fdD fdF fdG : FuncData} (F : FnD K "_law_small" sSmall fd) (T : Names K mg) (FP : FnD K "_law_pick" sPick fdP) (FD : FnD K "_law_drop" sDrop fdD) (FF : FnD K "_law_frac" sFrac fdF) (FG : FnD K "_law_gcd" sGcd fdG) : FnOk P w K mg base CX0 3 (He.ga K "_law_small") fd ["well"] spSmall := by
  refine F.ok scSmall (fun vs H Q E ⟨_, e, _⟩ => by rw [e]; rfl) (fun cdv A outer s H vs Q E hr h => ?_)
  obtain ⟨a, rfl, hw, fin⟩ := h
  have gP := T.gl "_law_pick" (by decide +kernel)
  have gD := T.gl "_law_drop" (by decide +kernel)
  have gF := T.gl "_law_frac" (by decide +kernel)
  have bP : Binds K fdP ["well", "some"] [] := FP.bindsN fun _ _ _ _ _ _ us hl => match us, hl with | [_, _], _ => rfl
  have bD : Binds K fdD ["well", "width"] [] := FD.bindsN fun _ _ _ _ _ _ us hl => match us, hl with | [_, _], _ => rfl
  have GP : FnOk P w K mg base CX0 2 (He.ga K "_law_pick") fdP ["well", "some"] spPick := ok_pick FP T FD
  have GD : FnOk P w K mg base CX0 1 (He.ga K "_law_drop") fdD ["well", "width"] spDrop := ok_drop FD T
  have GF : FnOk P w K mg base CX0 2 (He.ga K "_law_frac") fdF ["up", "down"] spFrac := ok_frac FF T FG
  refine ⟨_, PSs.nox (pss_cons (ps_par (i := 1) (j := 2) (by rfl) scSmall.nd rfl rfl (by decide) rfl rfl (pa_cons (pe_op op_add pe_int (pe_call GD (hr.mono (by decide)) rfl gD FD.kp bD .nil pass0 (pa_cons (pv 0) (pa_cons pe_int pa_nil)))) (pa_cons (pe_call GP hr rfl gP FP.kp bP .nil pass0 (pa_cons (pv 0) (pa_cons (pe_lst (pa_cons pe_int (pa_cons pe_int (pa_cons pe_int (pa_cons pe_int pa_nil))))) pa_nil))) pa_nil)) (by rfl))
    (pss_one (ps_ret (pe_call GF hr rfl gF FF.kp (b_frac FF) .nil pass0 (pa_cons (pe_ifExp (pt_cmpR op_eq (pe_call GD (hr.mono (by decide)) rfl gD FD.kp bD .nil pass0 (pa_cons (pv 0) (pa_cons pe_int pa_nil))) pe_int (nomark _)) (pv 1) (pe_op op_sub pe_int (pv 1))) (pa_cons (pv 2) pa_nil)))))), ?_⟩
  refine ⟨_, rfl, a, 5, rfl, hw, by decide, by decide, fun d g b c d0 d5 ok => ?_⟩
  have r1 : Drew a H (upd H a (wl g b c)) := .put ok
  generalize upd H a (wl g b c) = H1 at r1 ⊢
  refine ⟨_, _, rfl, rfl, _, rfl, by show 4 ≤ sizeLine; decide, fun l hl => ?_⟩
  have s2 := same_new (o := .lst [.int 1, .int 1, .int 2, .int 3]) hl
  have gl : upd H1 l (.lst [.int 1, .int 1, .int 2, .int 3]) l = some (.lst [.int 1, .int 1, .int 2, .int 3]) := upd_same
  have r2 := r1.trans (.same r1.well s2)
  have nl : l ≠ a := fun z => by
    obtain ⟨g', b', c', e', _⟩ := r1.well
    rw [z, e'] at hl
    cases hl
  generalize upd H1 l (.lst [.int 1, .int 1, .int 2, .int 3]) = H2 at r2 gl ⊢
  refine ⟨a, l, _, rfl, r2.well, gl, nl, by decide, by decide, fun v g2 b2 c2 hv ok2 => ?_⟩
  have r3 := r2.trans (.put (a := a) (H := H2) ok2)
  generalize upd H2 a (wl g2 b2 c2) = H3 at r3 ⊢
  obtain ⟨m, rfl, m1, m3⟩ : ∃ m : Int, v = .int m ∧ 1 ≤ m ∧ m ≤ 3 := by
    simp only [List.mem_cons, List.not_mem_nil, or_false] at hv
    rcases hv with z | z | z | z <;> exact ⟨_, z, by decide, by decide⟩
  refine ⟨_, _, rfl, ?_⟩
  refine ⟨_, rfl, a, 2, rfl, r3.well, by decide, by decide, fun e g4 b4 c4 e0 e2 ok4 => ?_⟩
  have r4 := r3.trans (.put (a := a) (H := H3) ok4)
  generalize upd H3 a (wl g4 b4 c4) = H4 at r4 ⊢
  have last : ∀ u : Int, u ≠ 0 → u.natAbs < 2 ^ 3 → ∀ p, H4 p = none → Q (.ref p) (upd H4 p (fr (Rat.divInt u m))) := fun u u0 u3 p hp =>
    fin _ _ _ (r4.trans (.same r4.well (same_new hp))) ⟨p, rfl, upd_same⟩ (div_ne u0 (by omega)) (Sz.div (by omega) u3 (by show m.natAbs < 8; omega))
  refine ⟨rfl, _, rfl, ?_⟩
  cases hz : decide (V.int e = V.int 0) with
  | true =>
    exact ⟨_, rfl, _, rfl, _, m, rfl, by omega, by have : m.natAbs < 2 ^ 3 := by omega
                                                   exact Nat.lt_of_lt_of_le this (Nat.pow_le_pow_right (by decide) (by decide)), last _ (by omega) (by omega)⟩
  | false =>
    exact ⟨_, rfl, _, _, rfl, rfl, _, rfl, _, m, rfl, by omega, by have : m.natAbs < 2 ^ 3 := by omega
                                                                   exact Nat.lt_of_lt_of_le this (Nat.pow_le_pow_right (by decide) (by decide)), last _ (by omega) (by omega)⟩
end
end K02
set_option Elab.async false
set_option linter.all false
set_option maxRecDepth 100000
set_option maxHeartbeats 4000000
set_option exponentiation.threshold 20000
namespace K02
open PySem PySem.Spec PyProof.Rows L2 RatFr DataR Gx OpsR
abbrev sPoint : Stmt := top 41
section
variable {P : Program} {w : World} {K : PySem.W.Frag} {mg : Str → Option Value} {base : Heap} {fd : FuncData}
def bigQ : Rat := ⟨999999937, 7, by decide, by decide⟩
theorem sz_big : Sz 30 bigQ := ⟨by decide, by decide⟩
/-- _law_point(well) -/
def spPoint : Sp := fun vs H Q _ => ∃ a : Addr, vs = [.ref a] ∧ WellAt H a ∧ ∀ H' u q, Drew a H H' → FrAt H' u q → Sz 33 q → Q u H'
theorem scPoint : FnScope ["well", "way", "near"] ["well"] (defScope sPoint) := ⟨rfl, rfl, rfl, by decide +kernel, rfl, by decide +kernel, by decide +kernel⟩
theorem ok_point {fdS fdM fdP fdD fdF fdG : FuncData} (F : FnD K "_law_point" sPoint fd) (T : Names K mg) (FS : FnD K "_law_small" sSmall fdS) (FM : FnD K "_law_mul" sMul fdM) (FP : FnD K "_law_pick" sPick fdP) (FD : FnD K "_law_drop" sDrop fdD) (FF : FnD K "_law_frac" sFrac fdF) (FG : FnD K "_law_gcd" sGcd fdG) : FnOk P w K mg base CX0 4 (He.ga K "_law_point") fd ["well"] spPoint := by
  refine F.ok scPoint (fun vs H Q E ⟨_, e, _⟩ => by rw [e]; rfl) (fun cdv A outer s H vs Q E hr h => ?_)
  obtain ⟨a, rfl, hw, fin⟩ := h
  have gS := T.gl "_law_small" (by decide +kernel)
  have gD := T.gl "_law_drop" (by decide +kernel)
  have gM := T.gl "_law_mul" (by decide +kernel)
  have bS : Binds K fdS ["well"] [] := FS.bindsN fun _ _ _ _ _ _ us hl => match us, hl with | [_], _ => rfl
  have bD : Binds K fdD ["well", "width"] [] := FD.bindsN fun _ _ _ _ _ _ us hl => match us, hl with | [_, _], _ => rfl
  have bM : Binds K fdM ["x", "y"] [] := FM.bindsN fun _ _ _ _ _ _ us hl => match us, hl with | [_, _], _ => rfl
  have GS : FnOk P w K mg base CX0 3 (He.ga K "_law_small") fdS ["well"] spSmall := ok_small FS T FP FD FF FG
  have GD : FnOk P w K mg base CX0 1 (He.ga K "_law_drop") fdD ["well", "width"] spDrop := ok_drop FD T
  have GM : FnOk P w K mg base CX0 3 (He.ga K "_law_mul") fdM ["x", "y"] (spTwo (· * ·)) := ok_mul FM T FF FG
  refine ⟨_, PSs.nox (pss_cons (ps_set (i := 1) scPoint.nd rfl (Or.inl rfl) (pe_call GD (hr.mono (by decide)) rfl gD FD.kp bD .nil pass0 (pa_cons (pv 0) (pa_cons pe_int pa_nil))))
    (pss_cons (ps_if (pt_cmpR op_lt (pv 1) pe_int (nomark _)) (pss_one (ps_ret (pe_tup (pa_cons (pv 1) (pa_cons pe_int pa_nil))))) pss_nil)
    (pss_cons (ps_set (i := 2) scPoint.nd rfl (Or.inl rfl) (pe_call GS hr rfl gS FS.kp bS .nil pass0 (pa_cons (pv 0) pa_nil)))
    (pss_one (ps_ret (pe_ifExp (pt_cmpR op_eq (pv 1) pe_int (nomark _)) (pe_call GM hr rfl gM FM.kp bM .nil pass0 (pa_cons (pv 2) (pa_cons (pe_tup (pa_cons pe_int (pa_cons pe_int pa_nil))) pa_nil))) (pv 2))))))), ?_⟩
  refine ⟨_, rfl, a, 8, rfl, hw, by decide, by decide, fun d g b c d0 d8 ok => ?_⟩
  have r1 : Drew a H (upd H a (wl g b c)) := .put ok
  generalize upd H a (wl g b c) = H1 at r1 ⊢
  refine ⟨_, rfl, _, _, rfl, rfl, _, rfl, ?_⟩
  refine ite2 (fun z => ?_) (fun z => ?_)
  · refine ⟨_, rfl, by show 2 ≤ sizeLine; decide, fun p hp => ?_⟩
    refine fin _ _ (⟨d, 1, by decide, by simp⟩ : Rat) (r1.trans (.same r1.well (same_new hp))) ⟨p, rfl, upd_same⟩ ⟨?_, show 1 < 2 ^ 33 by decide⟩
    show d.natAbs < 2 ^ 33
    omega
  · refine ⟨_, rfl, a, rfl, r1.well, fun H2 u q r2 fu _ szq => ?_⟩
    have r3 := r1.trans r2
    refine ⟨_, rfl, rfl, _, rfl, ?_⟩
    refine ite2 (fun y => ?_) (fun y => ?_)
    · refine ⟨_, rfl, by show 2 ≤ sizeLine; decide, fun t ht => ?_⟩
      have s4 := same_new (o := .tup [.int 999999937, .int 7]) ht
      refine ⟨u, _, q, bigQ, rfl, fu.same s4, ⟨t, rfl, upd_same⟩, szq.mono (by decide), sz_big.mono (by decide), fun p hp => ?_⟩
      exact fin _ _ _ (r3.trans (.same r3.well (s4.trans (same_new hp)))) ⟨p, rfl, upd_same⟩ ((szq.mul sz_big).mono (by decide))
    · exact ⟨_, rfl, fin _ _ q r3 fu (szq.mono (by decide))⟩
end
end K02
set_option Elab.async false
set_option linter.all false
set_option maxRecDepth 100000
set_option maxHeartbeats 4000000
set_option exponentiation.threshold 20000
namespace K02
open PySem PySem.Spec PyProof.Rows L2 RatFr DataR Gx OpsR
abbrev sPoly : Stmt := top 40
section
variable {P : Program} {w : World} {K : PySem.W.Frag} {mg : Str → Option Value} {base : Heap} {fd : FuncData}
theorem Drew.line {a f : Addr} {H H1 : Hp} (x : Drew a H H1) (h : WellAt H a) (ne : f ≠ a) {qs : List Rat} (p : LineAt H f qs) : LineAt H1 f qs := by
  obtain ⟨g1, b1, c1, e1, _⟩ := h
  obtain ⟨xs, g, l, k⟩ := p
  refine ⟨xs, x.keep f _ ne g, l, fun i q hq => ?_⟩
  obtain ⟨d, e2, g2⟩ := k i q hq
  exact ⟨d, e2, x.keep d _ (fun z => by rw [z, e1] at g2; cases g2) g2⟩
theorem line_push {H : Hp} {f p : Addr} {qs : List Rat} {q : Rat} (h : LineAt H f qs) (g : H p = some (fr q)) : ∃ xs, H f = some (.lst xs) ∧ xs.length = qs.length ∧ LineAt (upd H f (.lst (xs ++ [.ref p]))) f (qs ++ [q]) := by
  obtain ⟨xs, gf, l, k⟩ := h
  refine ⟨xs, gf, l, _, upd_same, by simp [l], fun i r hr => ?_⟩
  have nf : ∀ {b : Addr} {q : Rat}, H b = some (fr q) → b ≠ f := fun g z => by rw [z, gf] at g; cases g
  by_cases z : i < qs.length
  · rw [List.getElem?_append_left z] at hr
    obtain ⟨b, e, g2⟩ := k i r hr
    exact ⟨b, by rw [List.getElem?_append_left (by omega)]; exact e, by rw [upd_ne (nf g2)]; exact g2⟩
  · have lt := (List.getElem?_eq_some_iff.mp hr).1
    have e : i = qs.length := by rw [List.length_append] at lt; simp at lt; omega
    subst e
    rw [List.getElem?_append_right (Nat.le_refl _), Nat.sub_self] at hr
    cases hr
    exact ⟨p, by rw [← l, List.getElem?_append_right (Nat.le_refl _), Nat.sub_self]; rfl, by rw [upd_ne (nf g)]; exact g⟩
theorem den_le (u : Int) {d : Int} (h : 0 < d) : ((Rat.divInt u d).den : Int) ≤ d := by
  rw [(div_num (u := u) h).2]
  exact Int.ediv_le_self _ (by omega)
theorem mul_den (q r : Rat) : ((q * r).den : Int) ≤ q.den * r.den := by
  rw [← mul_div]
  exact den_le _ (Int.mul_pos (den_pos q) (den_pos r))
theorem mul_num {q r : Rat} (h : q.num ≠ 0) (g : r.num ≠ 0) : (q * r).num ≠ 0 := by
  rw [← mul_div]
  exact div_ne (Int.mul_ne_zero h g) (Int.mul_pos (den_pos q) (den_pos r))
structure Lil (qs : List Rat) : Prop where
  den : ∀ q ∈ qs, q.den ≤ 2 ^ 8
  num : ∀ q ∈ qs, q.num.natAbs < 2 ^ 100
theorem LineAt.same2 {H H' : Hp} {a : Addr} {rs : List Rat} (h : LineAt H a rs) (s : Same H H') : LineAt H' a rs := LineAt.same s h
theorem Lil.push {qs : List Rat} {q r : Rat} (h : Lil qs) (d3 : q.den ≤ 7) (r1 : r.den = 1) (s : Sz 3 q) (t : Sz 31 r) : Lil (qs ++ [q * r]) := by
  have dn := mul_den q r
  have sm := s.mul t
  refine ⟨fun x hx => ?_, fun x hx => ?_⟩ <;> (rcases List.mem_append.mp hx with z | z)
  · exact h.den x z
  · rw [List.mem_singleton.mp z]
    rw [r1] at dn
    omega
  · exact h.num x z
  · rw [List.mem_singleton.mp z]
    exact Nat.lt_of_lt_of_le sm.up (by decide)
theorem drew_put {a f : Addr} {o : HO} {H H1 : Hp} (x : Drew a H H1) (hf : H f = none) (ne : f ≠ a) : Drew a H (upd H1 f o) := by
  obtain ⟨g, b, c, e, ok⟩ := x.well
  refine ⟨fun d u n z => ?_, g, b, c, by rw [upd_ne (Ne.symm ne)]; exact e, ok⟩
  rw [upd_ne (fun y => by rw [y, hf] at z; cases z)]
  exact x.keep d u n z
theorem fr_put {f : Addr} {o : HO} {H : Hp} {v : V} {q : Rat} {us : List V} (h : FrAt H v q) (g : H f = some (.lst us)) : FrAt (upd H f o) v q := by
  obtain ⟨b, e, z⟩ := h
  exact ⟨b, e, by rw [upd_ne (fun y => by rw [y, g] at z; cases z)]; exact z⟩
def greatQ : Rat := ⟨999999937, 1, by decide, by decide⟩
/-- _law_poly(well, most) -/
def spPolyL : Sp := fun vs H Q _ => ∃ (a : Addr) (m : Int), vs = [.ref a, .int m] ∧ WellAt H a ∧ 0 < m ∧ m ≤ 6 ∧ ∀ H' u qs, Drew a H H' → PolyAt H' u qs → Few qs → Good qs → Q u H'
theorem scPoly : FnScope ["well", "most", "found", "great", "turn", "up", "down"] ["well", "most"] (defScope sPoly) := ⟨rfl, rfl, rfl, by decide +kernel, rfl, by decide +kernel, by decide +kernel⟩
theorem ok_polyL {fdS fdM fdP fdD fdF fdG : FuncData} (F : FnD K "_law_poly" sPoly fd) (T : Names K mg) (FS : FnD K "_law_small" sSmall fdS) (FM : FnD K "_law_mul" sMul fdM) (FP : FnD K "_law_pick" sPick fdP) (FD : FnD K "_law_drop" sDrop fdD) (FF : FnD K "_law_frac" sFrac fdF) (FG : FnD K "_law_gcd" sGcd fdG) : FnOk P w K mg base CX0 4 (He.ga K "_law_poly") fd ["well", "most"] spPolyL := by
  refine F.ok scPoly (fun vs H Q E ⟨_, _, e, _⟩ => by rw [e]; rfl) (fun cdv A outer s H vs Q E hr h => ?_)
  obtain ⟨a, m, rfl, hw, m0, m6, fin⟩ := h
  have gS := T.gl "_law_small" (by decide +kernel)
  have gD := T.gl "_law_drop" (by decide +kernel)
  have gM := T.gl "_law_mul" (by decide +kernel)
  have gP := T.gl "_law_pick" (by decide +kernel)
  have gF := T.gl "_law_frac" (by decide +kernel)
  have bS : Binds K fdS ["well"] [] := FS.bindsN fun _ _ _ _ _ _ us hl => match us, hl with | [_], _ => rfl
  have bD : Binds K fdD ["well", "width"] [] := FD.bindsN fun _ _ _ _ _ _ us hl => match us, hl with | [_, _], _ => rfl
  have bM : Binds K fdM ["x", "y"] [] := FM.bindsN fun _ _ _ _ _ _ us hl => match us, hl with | [_, _], _ => rfl
  have bP : Binds K fdP ["well", "some"] [] := FP.bindsN fun _ _ _ _ _ _ us hl => match us, hl with | [_, _], _ => rfl
  have GS : FnOk P w K mg base CX0 3 (He.ga K "_law_small") fdS ["well"] spSmall := ok_small FS T FP FD FF FG
  have GD : FnOk P w K mg base CX0 1 (He.ga K "_law_drop") fdD ["well", "width"] spDrop := ok_drop FD T
  have GM : FnOk P w K mg base CX0 3 (He.ga K "_law_mul") fdM ["x", "y"] (spTwo (· * ·)) := ok_mul FM T FF FG
  have GP : FnOk P w K mg base CX0 2 (He.ga K "_law_pick") fdP ["well", "some"] spPick := ok_pick FP T FD
  have GF : FnOk P w K mg base CX0 2 (He.ga K "_law_frac") fdF ["up", "down"] spFrac := ok_frac FF T FG
  have h1 := hr.mono (j := 1) (by decide)
  have h2 := hr.mono (j := 2) (by decide)
  refine ⟨_, PSs.nox (pss_cons (ps_par (i := 2) (j := 3) (by rfl) scPoly.nd rfl rfl (by decide) rfl rfl (pa_cons (pe_lst pa_nil) (pa_cons (pe_call GP h2 rfl gP FP.kp bP .nil pass0 (pa_cons (pv 0) (pa_cons (pe_lst (pa_cons (pe_tup (pa_cons pe_int (pa_cons pe_int pa_nil))) (pa_cons (pe_tup (pa_cons pe_int (pa_cons pe_int pa_nil))) (pa_cons (pe_tup (pa_cons pe_int (pa_cons pe_int pa_nil))) (pa_cons (pe_tup (pa_cons pe_int (pa_cons pe_int pa_nil))) (pa_cons (pe_tup (pa_cons pe_int (pa_cons pe_int pa_nil))) pa_nil)))))) pa_nil))) pa_nil)) (by rfl))
    (pss_cons (ps_for PassesOwn.never rfl (pi_range1 rfl (T.fr "range" (by decide +kernel)) (pa_cons (pe_call GD h1 rfl gD FD.kp bD .nil pass0 (pa_cons (pv 0) (pa_cons (pv 1) pa_nil))) pa_nil)) (pg_name (i := 4) scPoly.nd rfl (Or.inl rfl))
      (pss_cons (ps_par (i := 5) (j := 6) (by rfl) scPoly.nd rfl rfl (by decide) rfl rfl (pa_cons (pe_op op_sub (pe_call GD h1 rfl gD FD.kp bD .nil pass0 (pa_cons (pv 0) (pa_cons pe_int pa_nil))) pe_int) (pa_cons (pe_call GP h2 rfl gP FP.kp bP .nil pass0 (pa_cons (pv 0) (pa_cons (pe_lst (pa_cons pe_int (pa_cons pe_int (pa_cons pe_int (pa_cons pe_int (pa_cons pe_int pa_nil)))))) pa_nil))) pa_nil)) (by rfl))
      (pss_one (ps_expr (pe_bm PySem.F.plainAttrs_list PySem.F.slot_list_append PySem.F.type_list_append mt_append (pv 2) (pa_cons (pe_call GM hr rfl gM FM.kp bM .nil pass0 (pa_cons (pe_call GF h2 rfl gF FF.kp (b_frac FF) .nil pass0 (pa_cons (pv 5) (pa_cons (pv 6) pa_nil))) (pa_cons (pv 3) pa_nil))) pa_nil))))))
    (pss_cons (ps_expr (pe_bm PySem.F.plainAttrs_list PySem.F.slot_list_append PySem.F.type_list_append mt_append (pv 2) (pa_cons (pe_call GM hr rfl gM FM.kp bM .nil pass0 (pa_cons (pe_call GS hr rfl gS FS.kp bS .nil pass0 (pa_cons (pv 0) pa_nil)) (pa_cons (pv 3) pa_nil))) pa_nil)))
    (pss_one (ps_ret (pe_callTy call_tuple_of (by rfl) (T.fr "tuple" (by decide +kernel)) (by decide +kernel) (pa_cons (pv 2) pa_nil))))))), ?_⟩
  have sz : sizeLine = 16777216 := sizeLine_eq
  refine ⟨by show 0 ≤ sizeLine; omega, fun f hf => ?_⟩
  have two : 2 ≤ sizeLine := by omega
  refine ⟨_, rfl, two, fun t1 k1 => ⟨two, fun t2 k2 => ⟨two, fun t3 k3 => ⟨two, fun t4 k4 => ⟨two, fun t5 k5 => ⟨by show 5 ≤ sizeLine; omega, fun l hl => ?_⟩⟩⟩⟩⟩⟩
  have e0 := same_new (o := .lst []) hf
  have e1 := same_new (o := fr 1) k1
  have e2 := same_new (o := fr 1) k2
  have e3 := same_new (o := fr 1) k3
  have e4 := same_new (o := fr 1) k4
  have e5 := same_new (o := fr greatQ) k5
  have e6 := same_new (o := .lst [.ref t1, .ref t2, .ref t3, .ref t4, .ref t5]) hl
  have q1 := (e2.trans (e3.trans (e4.trans (e5.trans e6)))) t1 _ upd_same
  have q2 := (e3.trans (e4.trans (e5.trans e6))) t2 _ upd_same
  have q3 := (e4.trans (e5.trans e6)) t3 _ upd_same
  have q4 := (e5.trans e6) t4 _ upd_same
  have q5 := e6 t5 _ upd_same
  have qf := (e1.trans (e2.trans (e3.trans (e4.trans (e5.trans e6))))) f _ upd_same
  have big := e0.trans (e1.trans (e2.trans (e3.trans (e4.trans (e5.trans e6)))))
  have gl : upd _ l (.lst [V.ref t1, .ref t2, .ref t3, .ref t4, .ref t5]) l = some (.lst [V.ref t1, .ref t2, .ref t3, .ref t4, .ref t5]) := upd_same (H := upd (upd (upd (upd (upd (upd H f (.lst [])) t1 (fr 1)) t2 (fr 1)) t3 (fr 1)) t4 (fr 1)) t5 (fr greatQ))
  have hlH : H l = none := (e0.trans (e1.trans (e2.trans (e3.trans (e4.trans e5))))).free hl
  have nfa : f ≠ a := fun z => by
    obtain ⟨g', b', c', e', _⟩ := hw
    rw [z, e'] at hf
    cases hf
  have nla : l ≠ a := fun z => by
    obtain ⟨g', b', c', e', _⟩ := hw
    rw [z, e'] at hlH
    cases hlH
  have r1 : Drew a H _ := .same hw big
  refine ⟨a, l, _, rfl, r1.well, gl, nla, show 0 < 5 by decide, show 5 < 100000 by decide, fun v g b c hv ok => ?_⟩
  change v ∈ [V.ref t1, V.ref t2, V.ref t3, V.ref t4, V.ref t5] at hv
  have one : Sz 31 (1 : Rat) := ⟨by decide, by decide⟩
  have sgr : Sz 31 greatQ := ⟨by decide, by decide⟩
  have gv : ∃ gq : Rat, FrAt (upd (upd (upd (upd (upd (upd (upd H f (.lst [])) t1 (fr 1)) t2 (fr 1)) t3 (fr 1)) t4 (fr 1)) t5 (fr greatQ)) l (.lst [V.ref t1, .ref t2, .ref t3, .ref t4, .ref t5])) v gq ∧ gq.den = 1 ∧ gq.num ≠ 0 ∧ Sz 31 gq := by
    simp only [List.mem_cons, List.not_mem_nil, or_false] at hv
    rcases hv with z | z | z | z | z
    · exact ⟨1, ⟨t1, z, q1⟩, rfl, by decide, one⟩
    · exact ⟨1, ⟨t2, z, q2⟩, rfl, by decide, one⟩
    · exact ⟨1, ⟨t3, z, q3⟩, rfl, by decide, one⟩
    · exact ⟨1, ⟨t4, z, q4⟩, rfl, by decide, one⟩
    · exact ⟨greatQ, ⟨t5, z, q5⟩, rfl, by decide, sgr⟩
  have L0 : LineAt (upd (upd (upd (upd (upd (upd (upd H f (.lst [])) t1 (fr 1)) t2 (fr 1)) t3 (fr 1)) t4 (fr 1)) t5 (fr greatQ)) l (.lst [V.ref t1, .ref t2, .ref t3, .ref t4, .ref t5])) f [] := ⟨[], qf, rfl, fun i q hq => by simp at hq⟩
  refine ⟨_, _, rfl, ?_⟩
  obtain ⟨gq, fg, gd, gn, gz⟩ := gv
  have r2 : Drew a _ (upd (upd (upd (upd (upd (upd (upd (upd H f (.lst [])) t1 (fr 1)) t2 (fr 1)) t3 (fr 1)) t4 (fr 1)) t5 (fr greatQ)) l (.lst [V.ref t1, .ref t2, .ref t3, .ref t4, .ref t5])) a (wl g b c)) := .put ok
  have fg2 := r2.fr r1.well fg
  have L2' := r2.line r1.well nfa L0
  have r3 := r1.trans r2
  change tSeq _ _ _ _ (upd (upd (upd (upd (upd (upd (upd (upd H f (.lst [])) t1 (fr 1)) t2 (fr 1)) t3 (fr 1)) t4 (fr 1)) t5 (fr greatQ)) l (.lst [V.ref t1, .ref t2, .ref t3, .ref t4, .ref t5])) a (wl g b c))
  generalize upd (upd (upd (upd (upd (upd (upd (upd H f (.lst [])) t1 (fr 1)) t2 (fr 1)) t3 (fr 1)) t4 (fr 1)) t5 (fr greatQ)) l (.lst [V.ref t1, .ref t2, .ref t3, .ref t4, .ref t5])) a (wl g b c) = H1 at r3 fg2 L2' ⊢
  refine ⟨_, rfl, _, rfl, a, m, rfl, r3.well, m0, by omega, fun d g' b' c' d0 dm ok' => ?_⟩
  have r4' : Drew a H1 (upd H1 a (wl g' b' c')) := .put ok'
  have fg4 := r4'.fr r3.well fg2
  have L4 := r4'.line r3.well nfa L2'
  have r4 := r3.trans r4'
  generalize upd H1 a (wl g' b' c') = H2 at r4 fg4 L4 ⊢
  obtain ⟨n, rfl⟩ : ∃ n : Nat, d = (n : Int) := ⟨d.toNat, by omega⟩
  refine ⟨n, rfl, by omega, by omega, for_range (lo := 0) (n := n) (fun i σ H' => Drew a H H' ∧ FrAt H' v gq ∧ (∃ qs, LineAt H' f qs ∧ qs.length = i ∧ Lil qs) ∧ ∃ x y z, σ = [some (.ref a), some (.int m), some (.ref f), some v, x, y, z])
    ⟨r4, fg4, ⟨[], L4, rfl, fun q hq => absurd hq (by simp), fun q hq => absurd hq (by simp)⟩, _, _, _, rfl⟩ ?_ ?_⟩
  · rintro i σ H3 hi ⟨r5, f5, ⟨qs, L5, lq, lil⟩, x, y, z, rfl⟩
    refine ⟨_, rfl, a, 7, rfl, r5.well, by decide, by decide, fun up g1 b1 c1 u0 u7 ok1 => ?_⟩
    have r6' : Drew a H3 (upd H3 a (wl g1 b1 c1)) := .put ok1
    have f6 := r6'.fr r5.well f5
    have L6 := r6'.line r5.well nfa L5
    have r6 := r5.trans r6'
    generalize upd H3 a (wl g1 b1 c1) = H4 at r6 f6 L6 ⊢
    refine ⟨_, _, rfl, rfl, _, rfl, by show 5 ≤ sizeLine; omega, fun l2 hl2 => ?_⟩
    have s7 := same_new (o := .lst [.int 1, .int 1, .int 1, .int 2, .int 3]) hl2
    have gl2 : upd H4 l2 (.lst [.int 1, .int 1, .int 1, .int 2, .int 3]) l2 = some (.lst [.int 1, .int 1, .int 1, .int 2, .int 3]) := upd_same
    have nl2 : l2 ≠ a := fun z => by
      obtain ⟨_, _, _, e', _⟩ := r6.well
      rw [z, e'] at hl2
      cases hl2
    have r7 := r6.trans (.same r6.well s7)
    have f7 := f6.same s7
    have L7 := L6.same2 s7
    generalize upd H4 l2 (.lst [.int 1, .int 1, .int 1, .int 2, .int 3]) = H5 at r7 f7 L7 gl2 ⊢
    refine ⟨a, l2, _, rfl, r7.well, gl2, nl2, show 0 < 5 by decide, show 5 < 100000 by decide, fun w2 g2 b2 c2 hw2 ok2 => ?_⟩
    obtain ⟨dn, rfl, n1, n3⟩ : ∃ dn : Int, w2 = .int dn ∧ 1 ≤ dn ∧ dn ≤ 3 := by
      simp only [List.mem_cons, List.not_mem_nil, or_false] at hw2
      rcases hw2 with z | z | z | z | z <;> exact ⟨_, z, by decide, by decide⟩
    have r8' : Drew a H5 (upd H5 a (wl g2 b2 c2)) := .put ok2
    have f8 := r8'.fr r7.well f7
    have L8 := r8'.line r7.well nfa L7
    have r8 := r7.trans r8'
    generalize upd H5 a (wl g2 b2 c2) = H6 at r8 f8 L8 ⊢
    refine ⟨_, _, rfl, ?_⟩
    obtain ⟨us, gf8, lus, _⟩ := id L8
    refine ⟨_, rfl, .inl ⟨rfl, _, .of gf8⟩, _, rfl, _, rfl, up - 3, dn, rfl, by omega, ?_, fun p1 k1 => ?_⟩
    · have : dn.natAbs < 2 ^ 3 := by omega
      exact Nat.lt_of_lt_of_le this (Nat.pow_le_pow_right (by decide) (by decide))
    have s9 := same_new (o := fr (Rat.divInt (up - 3) dn)) k1
    have zq : Sz 3 (Rat.divInt (up - 3) dn) := Sz.div (by omega) (by show (up - 3).natAbs < 8; omega) (by show dn.natAbs < 8; omega)
    refine ⟨_, rfl, _, v, Rat.divInt (up - 3) dn, gq, rfl, ⟨p1, rfl, upd_same⟩, f8.same s9, zq.mono (by decide), gz.mono (by decide), fun p2 k2 => ?_⟩
    have s10 := s9.trans (same_new (o := fr (Rat.divInt (up - 3) dn * gq)) k2)
    have g10 : upd (upd H6 p1 (fr (Rat.divInt (up - 3) dn))) p2 (fr (Rat.divInt (up - 3) dn * gq)) p2 = some (fr (Rat.divInt (up - 3) dn * gq)) := upd_same
    generalize upd (upd H6 p1 (fr (Rat.divInt (up - 3) dn))) p2 (fr (Rat.divInt (up - 3) dn * gq)) = H7 at s10 g10 ⊢
    obtain ⟨xs', gf', l', L'⟩ := line_push (L8.same2 s10) g10
    refine ⟨f, xs', _, rfl, rfl, gf', by omega, ?_⟩
    have dd : (Rat.divInt (up - 3) dn).den ≤ 7 := by
      have := den_le (up - 3) (d := dn) (by omega)
      omega
    exact ⟨drew_put (r8.trans (.same r8.well s10)) hf nfa, fr_put (f8.same s10) gf', ⟨_, L', by rw [List.length_append, lq]; rfl, lil.push dd gd zq gz⟩, _, _, _, rfl⟩
  · rintro σ H3 ⟨r5, f5, ⟨qs, L5, lq, lil⟩, x, y, z, rfl⟩
    obtain ⟨us, gf5, lus, _⟩ := id L5
    refine ⟨_, rfl, .inl ⟨rfl, _, .of gf5⟩, _, rfl, a, rfl, r5.well, fun H4 u q rD fu qn sq => ?_⟩
    have L6 := rD.line r5.well nfa L5
    have f6 := rD.fr r5.well f5
    have r6 := r5.trans rD
    refine ⟨_, rfl, u, v, q, gq, rfl, fu, f6, sq.mono (by decide), gz.mono (by decide), fun p2 k2 => ?_⟩
    have s7 := same_new (o := fr (q * gq)) k2
    have g7 : upd H4 p2 (fr (q * gq)) p2 = some (fr (q * gq)) := upd_same
    generalize upd H4 p2 (fr (q * gq)) = H5 at s7 g7 ⊢
    obtain ⟨xs', gf', l', L'⟩ := line_push (L6.same2 s7) g7
    refine ⟨f, xs', _, rfl, rfl, gf', by omega, ?_⟩
    have r7 := drew_put (o := .lst (xs' ++ [.ref p2])) (r6.trans (.same r6.well s7)) hf nfa
    have lil2 := lil.push (by have := sq.lo; omega) gd sq gz
    refine ⟨_, rfl, f, xs' ++ [.ref p2], rfl, .inl ⟨.of upd_same, fun p hp => ?_⟩⟩
    obtain ⟨xs2, gx2, lx2, fx2⟩ := L'
    rw [upd_same] at gx2
    cases gx2
    have s8 := same_new (o := .tup (xs' ++ [.ref p2])) hp
    refine fin _ _ (qs ++ [q * gq]) (r7.trans (.same r7.well s8)) ⟨p, _, rfl, upd_same, lx2, fun k t hk => let ⟨b, e, g⟩ := fx2 k t hk; ⟨b, e, s8 _ _ g⟩⟩ ⟨by rw [List.length_append, lq]; show n + 1 ≤ 7; omega, lil2.den, lil2.num⟩ ⟨by simp, fun t ht => ?_⟩
    rw [List.getLast?_concat] at ht
    cases ht
    exact mul_num qn gn
end
end K02
set_option Elab.async false
set_option linter.all false
set_option maxRecDepth 100000
namespace K02
open RatFr
/-! ### what product tells is what own sums tell -/
theorem add_divInt {D : Int} (h : D ≠ 0) (x y : Int) : Rat.divInt (x + y) D = Rat.divInt x D + Rat.divInt y D := by
  rw [Rat.divInt_add_divInt _ _ h h, ← Int.add_mul, Rat.divInt_mul_right h]
theorem num_lc {qs : List Rat} {q : Rat} (h : q ∈ qs) : Rat.divInt (q.num * ((lc qs : Int) / (q.den : Int))) (lc qs : Int) = q := by
  obtain ⟨k, e⟩ := lc_dvd h
  have d0 : (q.den : Int) ≠ 0 := by have := q.den_nz; omega
  have k0 : (k : Int) ≠ 0 := by
    intro z
    have p := lc_pos qs
    rw [e] at p
    have : k = 0 := by omega
    rw [this, Nat.mul_zero] at p
    omega
  rw [e, Int.natCast_mul, Int.mul_ediv_cancel_left _ d0, Rat.divInt_mul_right k0, Rat.num_divInt_den]
theorem nums_getD (qs : List Rat) (i : Nat) : Rat.divInt ((nums qs).getD i 0) (lc qs : Int) = qs.getD i 0 := by
  unfold nums
  rw [List.getD_eq_getElem?_getD, List.getD_eq_getElem?_getD, List.getElem?_map]
  cases h : qs[i]? with
  | none => exact Rat.zero_divInt _
  | some q => exact num_lc (List.mem_of_getElem? h)
theorem map_addAt {D : Int} (h : D ≠ 0) (o : List Int) (k : Nat) (v : Int) : (addAt o k v).map (fun n => Rat.divInt n D) = addAtR (o.map fun n => Rat.divInt n D) k (Rat.divInt v D) := by
  unfold addAt addAtR
  rw [List.map_set, add_divInt h]
  congr 2
  rw [List.getD_eq_getElem?_getD, List.getD_eq_getElem?_getD, List.getElem?_map]
  cases o[k]? with
  | none => exact Rat.zero_divInt _
  | some x => rfl
theorem map_inn {ps qs : List Rat} (i : Nat) (o : List Int) : ∀ j, (inn o i ((nums ps).getD i 0) (nums qs) j).map (fun n => Rat.divInt n ((lc ps : Int) * (lc qs : Int))) = innR (o.map fun n => Rat.divInt n ((lc ps : Int) * (lc qs : Int))) i (ps.getD i 0) qs j
  | 0 => rfl
  | j + 1 => by
    have h : (lc ps : Int) * (lc qs : Int) ≠ 0 := Int.mul_ne_zero (by have := lc_pos ps; omega) (by have := lc_pos qs; omega)
    show (addAt _ _ _).map _ = addAtR _ _ _
    rw [map_addAt h, map_inn i o j, ← Rat.divInt_mul_divInt, nums_getD, nums_getD]
theorem map_outs {ps qs : List Rat} : ∀ i, (outs (nums ps) (nums qs) i).map (fun n => Rat.divInt n ((lc ps : Int) * (lc qs : Int))) = outsR ps qs i
  | 0 => by
    show (List.replicate _ _).map _ = List.replicate _ _
    rw [List.map_replicate, Rat.zero_divInt]
    unfold nums
    rw [List.length_map, List.length_map]
  | i + 1 => by
    show (inn _ _ _ _ _).map _ = innR _ _ _ _ _
    rw [map_inn, map_outs i]
    unfold nums
    rw [List.length_map]
theorem prod_is (ps qs : List Rat) : prodR ps qs = convR ps qs := by
  unfold prodR conv convR
  rw [map_outs]
  unfold nums
  rw [List.length_map]
/-! ### what value_at tells is what own steps tell -/
theorem sum_congr {l : List Nat} {f g : Nat → Int} (h : ∀ i ∈ l, f i = g i) : (l.map f).sum = (l.map g).sum := by rw [List.map_congr_left h]
theorem sum_mul (x : Int) (f : Nat → Int) : ∀ l : List Nat, (l.map fun i => x * f i).sum = x * (l.map f).sum
  | [] => by simp
  | a :: l => by
    rw [List.map_cons, List.sum_cons, sum_mul x f l, List.map_cons, List.sum_cons, Int.mul_add]
theorem spr_cons (a : Int) (t : List Int) (x y : Int) : (spr (a :: t) x y).sum = a * y ^ t.length + x * (spr t x y).sum := by
  unfold spr
  rw [List.length_cons, List.range_succ_eq_map, List.map_cons, List.sum_cons, List.map_map, ← sum_mul]
  congr 1
  · show (a :: t).getD 0 0 * x ^ 0 * y ^ (t.length + 1 - 1 - 0) = _
    rw [Int.pow_zero, Int.mul_one]
    rfl
  · refine sum_congr fun i hi => ?_
    have lt := List.mem_range.mp hi
    show (a :: t).getD (i + 1) 0 * x ^ (i + 1) * y ^ (t.length + 1 - 1 - (i + 1)) = x * (t.getD i 0 * x ^ i * y ^ (t.length - 1 - i))
    rw [show t.length + 1 - 1 - (i + 1) = t.length - 1 - i by omega, Int.pow_succ, show (a :: t).getD (i + 1) 0 = t.getD i 0 from rfl]
    rw [← Int.mul_assoc x, ← Int.mul_assoc x, Int.mul_comm x (t.getD i 0), Int.mul_assoc (t.getD i 0) x, Int.mul_comm x (x ^ i), Int.mul_assoc (t.getD i 0)]
theorem val_step {L : Int} (hL : L ≠ 0) (r : Rat) : ∀ ns : List Int, Rat.divInt (spr ns r.num r.den).sum (L * (r.den : Int) ^ (ns.length - 1)) = atR r (ns.map fun n => Rat.divInt n L)
  | [] => by
    show Rat.divInt 0 _ = 0
    exact Rat.zero_divInt _
  | a :: t => by
    have d0 : (r.den : Int) ≠ 0 := by have := r.den_nz; omega
    have ih := val_step hL r t
    rw [spr_cons, List.length_cons, Nat.add_sub_cancel]
    show _ = atR r (t.map _) * r + Rat.divInt a L
    rw [← ih]
    have D0 : L * (r.den : Int) ^ t.length ≠ 0 := Int.mul_ne_zero hL (Int.pow_ne_zero d0)
    rw [add_divInt D0, Rat.divInt_mul_right (Int.pow_ne_zero d0), Rat.add_comm]
    congr 1
    cases t with
    | nil =>
      show Rat.divInt (r.num * 0) _ = Rat.divInt 0 _ * r
      rw [Int.mul_zero, Rat.zero_divInt, Rat.zero_divInt, Rat.zero_mul]
    | cons b t =>
      rw [List.length_cons, Nat.add_sub_cancel, Int.pow_succ, ← Int.mul_assoc, Int.mul_comm r.num, ← Rat.divInt_mul_divInt, Rat.num_divInt_den]
theorem value_is (qs : List Rat) (r : Rat) : valR qs r = atR r qs := by
  unfold valR
  have l : (nums qs).length = qs.length := List.length_map _
  have e := val_step (L := (lc qs : Int)) (by have := lc_pos qs; omega) r (nums qs)
  rw [l] at e
  rw [e]
  congr 1
  unfold nums
  rw [List.map_map]
  have c : qs.map ((fun n => Rat.divInt n (lc qs : Int)) ∘ fun q => q.num * ((lc qs : Int) / (q.den : Int))) = qs.map id := List.map_congr_left fun q hq => num_lc hq
  rw [c, List.map_id]
end K02
set_option Elab.async false
set_option linter.all false
set_option maxRecDepth 100000
set_option maxHeartbeats 4000000
namespace K02
open PySem PySem.Spec PyProof.Rows L2 RatFr DataR Gx OpsR
abbrev sPut : Stmt := top 39
section
variable {P : Program} {w : World} {K : PySem.W.Frag} {mg : Str → Option Value} {base : Heap} {fd : FuncData}
theorem slice_all {a : Addr} {xs : List V} {lo hi : Option Int} {H : Hp} {Q : VK} (g : H a = some (.tup xs)) (q : ∀ H' p, Same H H' → H' p = some (.tup (cutV xs lo hi)) → Q (.ref p) H') : rSlA K (.ref a) lo hi H Q := by
  refine ⟨a, xs, rfl, .of g, fun z => q H a (Same.refl _) ?_, fun _ p hp => q _ p (same_new hp) upd_same⟩
  unfold cutV
  rw [z.1, z.2, List.drop_zero, Nat.sub_zero, List.take_length]
  exact g
theorem cat_all {a b : Addr} {xs ys : List V} {H : Hp} {Q : VK} (g : H a = some (.tup xs)) (h : H b = some (.tup ys)) (l : xs.length + ys.length ≤ sizeLine) (q : ∀ H' p, Same H H' → H' p = some (.tup (xs ++ ys)) → Q (.ref p) H') : rCatA K (.ref a) (.ref b) H Q := by
  refine ⟨a, b, xs, ys, rfl, rfl, .of g, .of h, l, fun e => q H b (Same.refl _) ?_, fun _ e => q H a (Same.refl _) ?_, fun _ _ p hp => q _ p (same_new hp) upd_same⟩
  · rw [e]
    exact h
  · rw [e, List.append_nil]
    exact g
/-- _law_put(line, at, thing) -/
def spPut : Sp := fun vs H Q _ => ∃ (a : Addr) (k : Nat) (t : V) (xs : List V), vs = [.ref a, .int k, t] ∧ H a = some (.tup xs) ∧ k < xs.length ∧ xs.length ≤ 1000 ∧ ∀ H' p, Same H H' → H' p = some (.tup (xs.set k t)) → Q (.ref p) H'
theorem scPut : FnScope ["line", "at", "thing"] ["line", "at", "thing"] (defScope sPut) := ⟨rfl, rfl, rfl, by decide +kernel, rfl, by decide +kernel, by decide +kernel⟩
theorem ok_put (F : FnD K "_law_put" sPut fd) : FnOk P w K mg base CX0 1 (He.ga K "_law_put") fd ["line", "at", "thing"] spPut := by
  refine F.ok scPut (fun vs H Q E ⟨_, _, _, _, e, _⟩ => by rw [e]; rfl) (fun cdv A outer s H vs Q E hr h => ?_)
  obtain ⟨a, k, t, xs, rfl, g, lt, l, fin⟩ := h
  refine ⟨_, PSs.nox (pss_one (ps_ret (pe_op op_catA (pe_op op_catA (pe_slice sl_tupA (pv 0) po_none (po_some (pv 1))) (pe_tup (pa_cons (pv 2) pa_nil))) (pe_slice sl_tupA (pv 0) (po_some (pe_op op_add (pv 1) pe_int)) po_none)))), ?_⟩
  have sz : sizeLine = 16777216 := sizeLine_eq
  have c1 : cutV xs none (some (k : Int)) = xs.take k := by
    unfold cutV
    rw [HT.sIx_none, HT.sIx_nat, List.drop_zero, Nat.sub_zero, Nat.min_eq_left (by omega)]
  have c2 : cutV xs (some ((k : Int) + 1)) none = xs.drop (k + 1) := by
    unfold cutV
    rw [HT.sIx_none, show ((k : Int) + 1) = ((k + 1 : Nat) : Int) by omega, HT.sIx_nat, Nat.min_eq_left (by omega)]
    exact List.take_of_length_le (by rw [List.length_drop]; exact Nat.le_refl _)
  refine ⟨_, rfl, _, rfl, _, rfl, slice_all g fun H1 p1 s1 g1 => ?_⟩
  rw [c1] at g1
  refine ⟨_, rfl, by show 1 ≤ sizeLine; omega, fun p2 hp2 => ?_⟩
  have s2 := same_new (o := .tup [t]) hp2
  refine cat_all (xs := xs.take k) (ys := [t]) (s2 _ _ g1) upd_same (by rw [List.length_take]; show _ + 1 ≤ _; omega) fun H3 p3 s3 g3 => ?_
  have s4 := s1.trans (s2.trans s3)
  refine ⟨_, rfl, _, rfl, _, _, rfl, rfl, _, rfl, ?_⟩
  dsimp only [tNoPart]
  refine slice_all (K := K) (a := a) (xs := xs) (lo := some ((k : Int) + 1)) (hi := none) (H := H3) (s4 _ _ g) fun H4 p4 s5 g4 => ?_
  rw [c2] at g4
  refine cat_all (s5 _ _ g3) g4 (by rw [List.length_append, List.length_take, List.length_drop]; show _ + 1 + _ ≤ _; omega) fun H5 p5 s6 g5 => fin H5 p5 (s4.trans (s5.trans s6)) ?_
  rw [g5, List.set_eq_take_append_cons_drop, if_pos lt, List.append_assoc]
  rfl
end
end K02
set_option Elab.async false
set_option linter.all false
set_option maxRecDepth 100000
set_option maxHeartbeats 4000000
namespace K02
open PySem PySem.Spec PyProof.Rows L2
abbrev sOdd : Stmt := top 37

def dA : List PyData := [(.none), (.bool true), (.bool false), (.int 0), (.int 1), (.int (-2)), (.int 6), (.int (10 ^ (25 : Int).toNat)), (.str ""), (.str "z"), (.str "0"), (.tuple []), (.tuple [(.int 0)]), (.tuple [(.int 1), (.int 1)]), (.tuple [(.int 0), (.int 2)]), (.tuple [(.int 2), (.int 6)]), (.tuple [(.tuple [(.int 1), (.int 1)])])]
def dB : List PyData := [(.tuple [(.tuple [(.int 1), (.int 1)]), (.tuple [(.int 0), (.int 1)])]), (.tuple [(.tuple [(.int 1), (.int 2)]), (.tuple [(.int 1), (.int 1)])]), (.list []), (.list [(.tuple [(.int 1), (.int 1)])]), (.dict []), (.dict [(.str "z", .tuple [(.int 1), (.int 1)])]), (.tuple [(.none)]), (.tuple [(.tuple [])]), (.tuple [(.tuple [(.int 1), (.int (-2))])])]
def dC : List PyData := [(.tuple [(.tuple [(.tuple [(.int 1), (.int 1)])]), (.tuple [(.tuple [(.int 1), (.int 1)])])]), (.tuple [(.tuple [(.tuple [(.int 1), (.int 1)])]), (.tuple [(.tuple [(.int 0), (.int 1)]), (.tuple [(.int 1), (.int 1)])])]), (.tuple [(.tuple []), (.tuple [(.tuple [(.int 1), (.int 1)])])]), (.tuple [(.tuple [(.tuple [(.bool true), (.int 1)])]), (.tuple [(.tuple [(.int 1), (.int 1)])])])]
/-- fit to be shown beside itself in a list -/
def fine (d : PyData) : Bool := PyData.showable (.list [d, d]) && decide (PyData.depth (.list [d, d]) ≤ 20) && decide ((PyData.shown (.list [d, d])).length ≤ 1000)

theorem all_fine : (dA ++ dB ++ dC).all fine = true := by decide +kernel
theorem fine_of {d : PyData} (h : d ∈ dA ++ dB ++ dC) : fine d = true := List.all_eq_true.mp all_fine d h
/-- _law_odd(well): some value of the menu -/
def spOdd : Sp := fun vs H Q _ => ∃ w : Addr, vs = [.ref w] ∧ WellAt H w ∧ ∀ v H' d g b c, (∀ x o, x ≠ w → H x = some o → H' x = some o) → H' w = some (wl g b c) → WellOk g b c → Dq (Nw H) H' v d → fine d = true → Q v H'
section
variable {P : Program} {w : World} {K : PySem.W.Frag} {mg : Str → Option Value} {base : Heap} {fd : FuncData}
theorem scOdd : FnScope ["well", "some"] ["well"] (defScope sOdd) := ⟨rfl, rfl, rfl, by decide +kernel, rfl, by decide +kernel, by decide +kernel⟩
theorem ok_odd {fdD fdP : FuncData} (F : FnD K "_law_odd" sOdd fd) (T : Names K mg) (FD : FnD K "_law_drop" sDrop fdD) (FP : FnD K "_law_pick" sPick fdP) : FnOk P w K mg base CX0 3 (He.ga K "_law_odd") fd ["well"] spOdd := by
  refine F.ok scOdd (fun vs H Q E h => ?_) (fun cdv A outer s H vs Q E hr h => ?_)
  · obtain ⟨_, rfl, _⟩ := h
    rfl
  have gP := T.gl "_law_pick" (by decide +kernel)
  have bP : Binds K fdP ["well", "some"] [] := FP.bindsN fun _ _ _ _ _ _ us hl => match us, hl with | [_, _], _ => rfl
  have GP : FnOk P w K mg base CX0 2 (He.ga K "_law_pick") fdP ["well", "some"] spPick := ok_pick FP T FD
  refine ⟨_, PSs.nox (pss_cons (ps_set (i := 1) scOdd.nd rfl (Or.inl rfl) (pe_lstS (pa_cons pe_non (pa_cons pe_bl (pa_cons pe_bl (pa_cons pe_int (pa_cons pe_int (pa_cons (pe_un un_neg pe_int) (pa_cons pe_int (pa_cons (pe_op op_pow pe_int pe_int) (pa_cons pe_str (pa_cons pe_str (pa_cons pe_str (pa_cons (pe_tup pa_nil) (pa_cons (pe_tup (pa_cons pe_int pa_nil)) (pa_cons (pe_tup (pa_cons pe_int (pa_cons pe_int pa_nil))) (pa_cons (pe_tup (pa_cons pe_int (pa_cons pe_int pa_nil))) (pa_cons (pe_tup (pa_cons pe_int (pa_cons pe_int pa_nil))) (pa_cons (pe_tup (pa_cons (pe_tup (pa_cons pe_int (pa_cons pe_int pa_nil))) pa_nil)) pa_nil)))))))))))))))))))
    (pss_cons (ps_set (i := 1) scOdd.nd rfl (Or.inl rfl) (pe_op op_cat (pv 1) (pe_lstS (pa_cons (pe_tup (pa_cons (pe_tup (pa_cons pe_int (pa_cons pe_int pa_nil))) (pa_cons (pe_tup (pa_cons pe_int (pa_cons pe_int pa_nil))) pa_nil))) (pa_cons (pe_tup (pa_cons (pe_tup (pa_cons pe_int (pa_cons pe_int pa_nil))) (pa_cons (pe_tup (pa_cons pe_int (pa_cons pe_int pa_nil))) pa_nil))) (pa_cons (pe_lstS pa_nil) (pa_cons (pe_lstS (pa_cons (pe_tup (pa_cons pe_int (pa_cons pe_int pa_nil))) pa_nil)) (pa_cons pe_dnewK (pa_cons (pe_disp (pps_cons pe_str (pe_tup (pa_cons pe_int (pa_cons pe_int pa_nil))) pps_nil) (by rfl) (by rfl) (fun z => by cases z) (by decide)) (pa_cons (pe_tup (pa_cons pe_non pa_nil)) (pa_cons (pe_tup (pa_cons (pe_tup pa_nil) pa_nil)) (pa_cons (pe_tup (pa_cons (pe_tup (pa_cons pe_int (pa_cons (pe_un un_neg pe_int) pa_nil))) pa_nil)) pa_nil))))))))))))
    (pss_cons (ps_set (i := 1) scOdd.nd rfl (Or.inl rfl) (pe_op op_cat (pv 1) (pe_lstS (pa_cons (pe_tup (pa_cons (pe_tup (pa_cons (pe_tup (pa_cons pe_int (pa_cons pe_int pa_nil))) pa_nil)) (pa_cons (pe_tup (pa_cons (pe_tup (pa_cons pe_int (pa_cons pe_int pa_nil))) pa_nil)) pa_nil))) (pa_cons (pe_tup (pa_cons (pe_tup (pa_cons (pe_tup (pa_cons pe_int (pa_cons pe_int pa_nil))) pa_nil)) (pa_cons (pe_tup (pa_cons (pe_tup (pa_cons pe_int (pa_cons pe_int pa_nil))) (pa_cons (pe_tup (pa_cons pe_int (pa_cons pe_int pa_nil))) pa_nil))) pa_nil))) (pa_cons (pe_tup (pa_cons (pe_tup pa_nil) (pa_cons (pe_tup (pa_cons (pe_tup (pa_cons pe_int (pa_cons pe_int pa_nil))) pa_nil)) pa_nil))) (pa_cons (pe_tup (pa_cons (pe_tup (pa_cons (pe_tup (pa_cons pe_bl (pa_cons pe_int pa_nil))) pa_nil)) (pa_cons (pe_tup (pa_cons (pe_tup (pa_cons pe_int (pa_cons pe_int pa_nil))) pa_nil)) pa_nil))) pa_nil)))))))
    (pss_one (ps_ret (pe_call GP hr rfl gP FP.kp bP .nil pass0 (pa_cons (pv 0) (pa_cons (pv 1) pa_nil)))))))), ?_⟩
  obtain ⟨w, rfl, ⟨g, b, c, hw, ok⟩, q⟩ := h
  refine rd_seq (rd_set (((sh_lst (sh_cons sh_non (sh_cons sh_bl (sh_cons sh_bl (sh_cons sh_int (sh_cons sh_int (sh_cons sh_neg (sh_cons sh_int (sh_cons (sh_pow ⟨by decide, by decide, by decide⟩) (sh_cons sh_str (sh_cons sh_str (sh_cons sh_str (sh_cons (sh_tup sh_nil) (sh_cons (sh_tup (sh_cons sh_int sh_nil)) (sh_cons (sh_tup (sh_cons sh_int (sh_cons sh_int sh_nil))) (sh_cons (sh_tup (sh_cons sh_int (sh_cons sh_int sh_nil))) (sh_cons (sh_tup (sh_cons sh_int (sh_cons sh_int sh_nil))) (sh_cons (sh_tup (sh_cons (sh_tup (sh_cons sh_int (sh_cons sh_int sh_nil))) sh_nil)) sh_nil)))))))))))))))))) : Shows _ (.list dA)) _ _ _ fun v1 H1 s1 q1 => ?_))
  cases q1 with
  | @lst a1 xs1 ds1 n1 e1 m1 all1 =>
  have ne1 : a1 ≠ w := fun z => by
    rw [z] at n1
    exact absurd (n1.symm.trans hw) (by simp)
  refine rd_seq (rd_set (rd_op (rd_var rfl (((sh_lst (sh_cons (sh_tup (sh_cons (sh_tup (sh_cons sh_int (sh_cons sh_int sh_nil))) (sh_cons (sh_tup (sh_cons sh_int (sh_cons sh_int sh_nil))) sh_nil))) (sh_cons (sh_tup (sh_cons (sh_tup (sh_cons sh_int (sh_cons sh_int sh_nil))) (sh_cons (sh_tup (sh_cons sh_int (sh_cons sh_int sh_nil))) sh_nil))) (sh_cons (sh_lst sh_nil) (sh_cons (sh_lst (sh_cons (sh_tup (sh_cons sh_int (sh_cons sh_int sh_nil))) sh_nil)) (sh_cons sh_dk0 (sh_cons (sh_dk1 (sh_tup (sh_cons sh_int (sh_cons sh_int sh_nil)))) (sh_cons (sh_tup (sh_cons sh_non sh_nil)) (sh_cons (sh_tup (sh_cons (sh_tup sh_nil) sh_nil)) (sh_cons (sh_tup (sh_cons (sh_tup (sh_cons sh_int (sh_cons sh_neg sh_nil))) sh_nil)) sh_nil)))))))))) : Shows _ (.list dB)) _ _ _ fun v2 H2 s2 q2 => ?_))))
  cases q2 with
  | @lst a2 xs2 ds2 n2 e2 m2 all2 =>
  have l1 := all1.length
  have l2 := all2.length
  refine ⟨a1, a2, xs1, xs2, rfl, rfl, s2 _ _ e1, e2, by rw [l1, l2, sizeLine_eq]; decide, fun p3 hp3 => ?_⟩
  refine rd_seq (rd_set (rd_op (rd_var rfl (((sh_lst (sh_cons (sh_tup (sh_cons (sh_tup (sh_cons (sh_tup (sh_cons sh_int (sh_cons sh_int sh_nil))) sh_nil)) (sh_cons (sh_tup (sh_cons (sh_tup (sh_cons sh_int (sh_cons sh_int sh_nil))) sh_nil)) sh_nil))) (sh_cons (sh_tup (sh_cons (sh_tup (sh_cons (sh_tup (sh_cons sh_int (sh_cons sh_int sh_nil))) sh_nil)) (sh_cons (sh_tup (sh_cons (sh_tup (sh_cons sh_int (sh_cons sh_int sh_nil))) (sh_cons (sh_tup (sh_cons sh_int (sh_cons sh_int sh_nil))) sh_nil))) sh_nil))) (sh_cons (sh_tup (sh_cons (sh_tup sh_nil) (sh_cons (sh_tup (sh_cons (sh_tup (sh_cons sh_int (sh_cons sh_int sh_nil))) sh_nil)) sh_nil))) (sh_cons (sh_tup (sh_cons (sh_tup (sh_cons (sh_tup (sh_cons sh_bl (sh_cons sh_int sh_nil))) sh_nil)) (sh_cons (sh_tup (sh_cons (sh_tup (sh_cons sh_int (sh_cons sh_int sh_nil))) sh_nil)) sh_nil))) sh_nil))))) : Shows _ (.list dC)) _ _ _ fun v4 H4 s4 q4 => ?_))))
  cases q4 with
  | @lst a4 xs4 ds4 n4 e4 m4 all4 =>
  have l4 := all4.length
  refine ⟨p3, a4, xs1 ++ xs2, xs4, rfl, rfl, s4 _ _ upd_same, e4, by rw [List.length_append, l1, l2, l4, sizeLine_eq]; decide, fun p5 hp5 => ?_⟩
  have s3 : Same H2 (upd H2 p3 (.lst (xs1 ++ xs2))) := same_new hp3
  have s5 : Same H4 (upd H4 p5 (.lst (xs1 ++ xs2 ++ xs4))) := same_new hp5
  have sH2 : Same H H2 := s1.trans s2
  have sH4 : Same H H4 := (sH2.trans s3).trans s4
  have hw5 : upd H4 p5 (.lst (xs1 ++ xs2 ++ xs4)) w = some (wl g b c) := s5 _ _ (sH4 _ _ hw)
  have np : p5 ≠ w := fun z => by
    rw [z] at hp5
    rw [sH4 _ _ hw] at hp5
    cases hp5
  have all : DqAll (Nw H) (upd H4 p5 (.lst (xs1 ++ xs2 ++ xs4))) (xs1 ++ xs2 ++ xs4) (dA ++ dB ++ dC) := by
    have k3 : Same H1 (upd H4 p5 (.lst (xs1 ++ xs2 ++ xs4))) := ((s2.trans s3).trans s4).trans s5
    have k2 : Same H2 (upd H4 p5 (.lst (xs1 ++ xs2 ++ xs4))) := (s3.trans s4).trans s5
    refine DqAll.append (DqAll.append (all1.same k3) ?_) ?_
    · exact (all2.same k2).to fun x o n e => ⟨s1.free n, e⟩
    · exact (all4.same s5).to fun x o n e => ⟨sH2.free (s3.free n), e⟩
  refine ⟨_, rfl, _, rfl, ?_⟩
  refine ⟨w, p5, _, rfl, ⟨g, b, c, hw5, ok⟩, upd_same, np, by rw [all.length]; decide, by rw [all.length]; decide, fun v g' b' c' hv ok' => ?_⟩
  obtain ⟨d, hd, hq⟩ := all.mem hv
  refine q v _ d g' b' c' (fun x o nx e => ?_) upd_same ok' ?_ (fine_of hd)
  · rw [upd_ne nx]
    exact s5 _ _ (sH4 _ _ e)
  · refine hq.to fun x o n e => ⟨n, ?_⟩
    have nx : x ≠ w := fun z => by
      rw [z] at n
      have n' : H w = none := n
      rw [hw] at n'
      cases n'
    rw [upd_ne nx]
    exact e
end
end K02
set_option Elab.async false
set_option linter.all false
set_option maxRecDepth 100000
set_option maxHeartbeats 4000000
namespace K02
open PySem PySem.Spec PyProof.Rows L2
abbrev sNoFrac : Stmt := top 38

def nA : List PyData := [(.int 1), (.int 0), (.none), (.bool true), (.str "1"), (.tuple []), (.tuple [(.int 2)]), (.tuple [(.int 1), (.int 2), (.int 3)]), (.tuple [(.int 2), (.int 4)]), (.tuple [(.int 0), (.int 3)]), (.tuple [(.int 1), (.int 0)]), (.tuple [(.int 0), (.int 0)]), (.tuple [(.int 2), (.int (-1))]), (.tuple [(.int (-1)), (.int (-3))]), (.tuple [(.bool true), (.int 1)])]
def nB : List PyData := [(.tuple [(.int 1), (.bool true)]), (.tuple [(.none), (.int 1)]), (.tuple [(.int 1), (.str "2")]), (.list [(.int 1), (.int 1)]), (.tuple [(.tuple [(.int 1), (.int 1)]), (.int 1)]), (.tuple [(.int (10 ^ (20 : Int).toNat)), (.int (10 ^ (20 : Int).toNat))]), (.dict [])]

theorem all_fineN : (nA ++ nB).all fine = true := by decide +kernel
theorem fine_ofN {d : PyData} (h : d ∈ nA ++ nB) : fine d = true := List.all_eq_true.mp all_fineN d h
/-- _law_no_frac(well): some thing of the menu -/
def spNoFrac : Sp := fun vs H Q _ => ∃ w : Addr, vs = [.ref w] ∧ WellAt H w ∧ ∀ v H' d g b c, (∀ x o, x ≠ w → H x = some o → H' x = some o) → H' w = some (wl g b c) → WellOk g b c → Dq (Nw H) H' v d → fine d = true → Q v H'
section
variable {P : Program} {w : World} {K : PySem.W.Frag} {mg : Str → Option Value} {base : Heap} {fd : FuncData}
theorem scNoFrac : FnScope ["well", "some"] ["well"] (defScope sNoFrac) := ⟨rfl, rfl, rfl, by decide +kernel, rfl, by decide +kernel, by decide +kernel⟩
theorem ok_noFrac {fdD fdP : FuncData} (F : FnD K "_law_no_frac" sNoFrac fd) (T : Names K mg) (FD : FnD K "_law_drop" sDrop fdD) (FP : FnD K "_law_pick" sPick fdP) : FnOk P w K mg base CX0 3 (He.ga K "_law_no_frac") fd ["well"] spNoFrac := by
  refine F.ok scNoFrac (fun vs H Q E h => ?_) (fun cdv A outer s H vs Q E hr h => ?_)
  · obtain ⟨_, rfl, _⟩ := h
    rfl
  have gP := T.gl "_law_pick" (by decide +kernel)
  have bP : Binds K fdP ["well", "some"] [] := FP.bindsN fun _ _ _ _ _ _ us hl => match us, hl with | [_, _], _ => rfl
  have GP : FnOk P w K mg base CX0 2 (He.ga K "_law_pick") fdP ["well", "some"] spPick := ok_pick FP T FD
  refine ⟨_, PSs.nox (pss_cons (ps_set (i := 1) scNoFrac.nd rfl (Or.inl rfl) (pe_lstS (pa_cons pe_int (pa_cons pe_int (pa_cons pe_non (pa_cons pe_bl (pa_cons pe_str (pa_cons (pe_tup pa_nil) (pa_cons (pe_tup (pa_cons pe_int pa_nil)) (pa_cons (pe_tup (pa_cons pe_int (pa_cons pe_int (pa_cons pe_int pa_nil)))) (pa_cons (pe_tup (pa_cons pe_int (pa_cons pe_int pa_nil))) (pa_cons (pe_tup (pa_cons pe_int (pa_cons pe_int pa_nil))) (pa_cons (pe_tup (pa_cons pe_int (pa_cons pe_int pa_nil))) (pa_cons (pe_tup (pa_cons pe_int (pa_cons pe_int pa_nil))) (pa_cons (pe_tup (pa_cons pe_int (pa_cons (pe_un un_neg pe_int) pa_nil))) (pa_cons (pe_tup (pa_cons (pe_un un_neg pe_int) (pa_cons (pe_un un_neg pe_int) pa_nil))) (pa_cons (pe_tup (pa_cons pe_bl (pa_cons pe_int pa_nil))) pa_nil)))))))))))))))))
    (pss_cons (ps_set (i := 1) scNoFrac.nd rfl (Or.inl rfl) (pe_op op_cat (pv 1) (pe_lstS (pa_cons (pe_tup (pa_cons pe_int (pa_cons pe_bl pa_nil))) (pa_cons (pe_tup (pa_cons pe_non (pa_cons pe_int pa_nil))) (pa_cons (pe_tup (pa_cons pe_int (pa_cons pe_str pa_nil))) (pa_cons (pe_lstS (pa_cons pe_int (pa_cons pe_int pa_nil))) (pa_cons (pe_tup (pa_cons (pe_tup (pa_cons pe_int (pa_cons pe_int pa_nil))) (pa_cons pe_int pa_nil))) (pa_cons (pe_tup (pa_cons (pe_op op_pow pe_int pe_int) (pa_cons (pe_op op_pow pe_int pe_int) pa_nil))) (pa_cons pe_dnewK pa_nil))))))))))
    (pss_one (ps_ret (pe_call GP hr rfl gP FP.kp bP .nil pass0 (pa_cons (pv 0) (pa_cons (pv 1) pa_nil))))))), ?_⟩
  obtain ⟨w, rfl, ⟨g, b, c, hw, ok⟩, q⟩ := h
  refine rd_seq (rd_set (((sh_lst (sh_cons sh_int (sh_cons sh_int (sh_cons sh_non (sh_cons sh_bl (sh_cons sh_str (sh_cons (sh_tup sh_nil) (sh_cons (sh_tup (sh_cons sh_int sh_nil)) (sh_cons (sh_tup (sh_cons sh_int (sh_cons sh_int (sh_cons sh_int sh_nil)))) (sh_cons (sh_tup (sh_cons sh_int (sh_cons sh_int sh_nil))) (sh_cons (sh_tup (sh_cons sh_int (sh_cons sh_int sh_nil))) (sh_cons (sh_tup (sh_cons sh_int (sh_cons sh_int sh_nil))) (sh_cons (sh_tup (sh_cons sh_int (sh_cons sh_int sh_nil))) (sh_cons (sh_tup (sh_cons sh_int (sh_cons sh_neg sh_nil))) (sh_cons (sh_tup (sh_cons sh_neg (sh_cons sh_neg sh_nil))) (sh_cons (sh_tup (sh_cons sh_bl (sh_cons sh_int sh_nil))) sh_nil)))))))))))))))) : Shows _ (.list nA)) _ _ _ fun v1 H1 s1 q1 => ?_))
  cases q1 with
  | @lst a1 xs1 ds1 n1 e1 m1 all1 =>
  have ne1 : a1 ≠ w := fun z => by
    rw [z] at n1
    exact absurd (n1.symm.trans hw) (by simp)
  refine rd_seq (rd_set (rd_op (rd_var rfl (((sh_lst (sh_cons (sh_tup (sh_cons sh_int (sh_cons sh_bl sh_nil))) (sh_cons (sh_tup (sh_cons sh_non (sh_cons sh_int sh_nil))) (sh_cons (sh_tup (sh_cons sh_int (sh_cons sh_str sh_nil))) (sh_cons (sh_lst (sh_cons sh_int (sh_cons sh_int sh_nil))) (sh_cons (sh_tup (sh_cons (sh_tup (sh_cons sh_int (sh_cons sh_int sh_nil))) (sh_cons sh_int sh_nil))) (sh_cons (sh_tup (sh_cons (sh_pow ⟨by decide, by decide, by decide⟩) (sh_cons (sh_pow ⟨by decide, by decide, by decide⟩) sh_nil))) (sh_cons sh_dk0 sh_nil)))))))) : Shows _ (.list nB)) _ _ _ fun v2 H2 s2 q2 => ?_))))
  cases q2 with
  | @lst a2 xs2 ds2 n2 e2 m2 all2 =>
  have l1 := all1.length
  have l2 := all2.length
  refine ⟨a1, a2, xs1, xs2, rfl, rfl, s2 _ _ e1, e2, by rw [l1, l2, sizeLine_eq]; decide, fun p3 hp3 => ?_⟩
  have s3 : Same H2 (upd H2 p3 (.lst (xs1 ++ xs2))) := same_new hp3
  have sH2 : Same H H2 := s1.trans s2
  have sH3 : Same H (upd H2 p3 (.lst (xs1 ++ xs2))) := sH2.trans s3
  have hw5 : upd H2 p3 (.lst (xs1 ++ xs2)) w = some (wl g b c) := sH3 _ _ hw
  have np : p3 ≠ w := fun z => by
    rw [z] at hp3
    rw [sH2 _ _ hw] at hp3
    cases hp3
  have all : DqAll (Nw H) (upd H2 p3 (.lst (xs1 ++ xs2))) (xs1 ++ xs2) (nA ++ nB) := by
    refine DqAll.append (all1.same (s2.trans s3)) ?_
    exact (all2.same s3).to fun x o n e => ⟨s1.free n, e⟩
  refine ⟨_, rfl, _, rfl, ?_⟩
  refine ⟨w, p3, _, rfl, ⟨g, b, c, hw5, ok⟩, upd_same, np, by rw [all.length]; decide, by rw [all.length]; decide, fun v g' b' c' hv ok' => ?_⟩
  obtain ⟨d, hd, hq⟩ := all.mem hv
  refine q v _ d g' b' c' (fun x o nx e => ?_) upd_same ok' ?_ (fine_ofN hd)
  · rw [upd_ne nx]
    exact sH3 _ _ e
  · refine hq.to fun x o n e => ⟨n, ?_⟩
    have nx : x ≠ w := fun z => by
      rw [z] at n
      have n' : H w = none := n
      rw [hw] at n'
      cases n'
    rw [upd_ne nx]
    exact e
end
end K02
set_option Elab.async false
set_option linter.all false
set_option maxRecDepth 100000
set_option exponentiation.threshold 20000
namespace K02
open PySem RatFr L2
/-! ### the numbers of a product: their places, sizes, the last one -/
theorem getD_set (o : List Rat) (i k : Nat) (v : Rat) : (o.set i v).getD k 0 = if k = i ∧ k < o.length then v else o.getD k 0 := by
  rw [List.getD_eq_getElem?_getD, List.getD_eq_getElem?_getD, List.getElem?_set]
  by_cases h : i = k
  · subst h
    rw [if_pos rfl]
    by_cases l : i < o.length
    · rw [if_pos l, if_pos ⟨rfl, l⟩]
      rfl
    · rw [if_neg l, if_neg (fun z => l z.2), List.getElem?_eq_none (by omega)]
  · rw [if_neg h, if_neg (fun z => h z.1.symm)]
theorem inn_get (o : List Rat) (i : Nat) (a : Rat) (qs : List Rat) (k : Nat) : ∀ j, (innR o i a qs j).getD k 0 = if i ≤ k ∧ k < i + j ∧ k < o.length then o.getD k 0 + a * qs.getD (k - i) 0 else o.getD k 0
  | 0 => by
    rw [if_neg (by omega)]
    rfl
  | j + 1 => by
    show (addAtR (innR o i a qs j) (i + j) (a * qs.getD j 0)).getD k 0 = _
    unfold addAtR
    rw [getD_set, innR_len, inn_get o i a qs k j]
    by_cases h : k = i + j ∧ k < o.length
    · obtain ⟨rfl, l⟩ := h
      rw [if_pos ⟨rfl, l⟩, inn_get o i a qs (i + j) j, if_neg (by omega), if_pos (by omega), show i + j - i = j by omega]
    · rw [if_neg h]
      by_cases g : i ≤ k ∧ k < i + j ∧ k < o.length
      · rw [if_pos g, if_pos (by omega)]
      · rw [if_neg g, if_neg (by omega)]
theorem sz_nil {n : Nat} (h : 0 < n) : Sz n (0 : Rat) := by
  have := Nat.pow_le_pow_right (show 0 < 2 by decide) h
  exact ⟨Nat.two_pow_pos n, by show 1 < 2 ^ n; omega⟩
theorem sz_few {qs : List Rat} (few : Few qs) (k : Nat) : Sz 100 (qs.getD k 0) := by
  rw [List.getD_eq_getElem?_getD]
  cases h : qs[k]? with
  | none => exact sz_nil (by decide)
  | some q => exact ⟨few.num q (List.mem_of_getElem? h), Nat.lt_of_le_of_lt (few.den q (List.mem_of_getElem? h)) (by decide)⟩
theorem outs_sz {ps qs : List Rat} (fp : Few ps) (fq : Few qs) (k : Nat) : ∀ i, Sz (1 + 201 * i) ((outsR ps qs i).getD k 0)
  | 0 => by
    show Sz 1 ((List.replicate _ (0 : Rat)).getD k 0)
    rw [List.getD_eq_getElem?_getD, List.getElem?_replicate]
    split <;> exact sz_nil (by decide)
  | i + 1 => by
    show Sz _ ((innR (outsR ps qs i) i (ps.getD i 0) qs qs.length).getD k 0)
    rw [inn_get]
    have ih := outs_sz fp fq k i
    split
    · exact (ih.add ((sz_few fp i).mul (sz_few fq _))).mono (by omega)
    · exact ih.mono (by omega)
theorem conv_sz {ps qs : List Rat} (fp : Few ps) (fq : Few qs) : ∀ q ∈ convR ps qs, Sz 1409 q := by
  intro q hq
  obtain ⟨k, e⟩ := List.getElem?_of_mem hq
  have z := outs_sz fp fq k ps.length
  have l := fp.len
  rw [List.getD_eq_getElem?_getD, show (outsR ps qs ps.length)[k]? = some q from e] at z
  exact Sz.mono z (by omega)
theorem conv_len2 (ps qs : List Rat) : (convR ps qs).length = ps.length + qs.length - 1 := outsR_len _
theorem outs_last {ps qs : List Rat} (q0 : 0 < qs.length) : ∀ i, i < ps.length → (outsR ps qs i).getD (ps.length + qs.length - 2) 0 = 0
  | 0, _ => by
    show (List.replicate _ (0 : Rat)).getD _ 0 = 0
    rw [List.getD_eq_getElem?_getD, List.getElem?_replicate]
    split <;> rfl
  | i + 1, h => by
    show (innR (outsR ps qs i) i (ps.getD i 0) qs qs.length).getD _ 0 = 0
    rw [inn_get, if_neg (by omega)]
    exact outs_last q0 i (by omega)
theorem conv_last {ps qs : List Rat} (p0 : 0 < ps.length) (q0 : 0 < qs.length) : (convR ps qs).getLast? = some (ps.getD (ps.length - 1) 0 * qs.getD (qs.length - 1) 0) := by
  have ln := conv_len2 ps qs
  rw [List.getLast?_eq_getElem?, ln]
  have e : (convR ps qs).getD (ps.length + qs.length - 1 - 1) 0 = ps.getD (ps.length - 1) 0 * qs.getD (qs.length - 1) 0 := by
    unfold convR
    obtain ⟨n, hn⟩ : ∃ n, ps.length = n + 1 := ⟨ps.length - 1, by omega⟩
    have z := outs_last (ps := ps) q0 n (by omega)
    rw [hn]
    show (innR (outsR ps qs n) n (ps.getD n 0) qs qs.length).getD _ 0 = _
    rw [inn_get, outsR_len, if_pos (by omega), show n + 1 + qs.length - 1 - 1 = ps.length + qs.length - 2 by omega, z, Rat.zero_add, hn]
    congr 2
    omega
  rw [← e, List.getD_eq_getElem?_getD]
  have lt : ps.length + qs.length - 1 - 1 < (convR ps qs).length := by omega
  rw [List.getElem?_eq_getElem lt]
  rfl
theorem good_last {qs : List Rat} (h : Good qs) : (qs.getD (qs.length - 1) 0).num ≠ 0 ∧ 0 < qs.length := by
  have n0 : 0 < qs.length := List.length_pos_iff.mpr h.ne
  refine ⟨?_, n0⟩
  have lt : qs.length - 1 < qs.length := by omega
  have e : qs.getLast? = some (qs.getD (qs.length - 1) 0) := by
    rw [List.getLast?_eq_getElem?, List.getD_eq_getElem?_getD, List.getElem?_eq_getElem lt]
    rfl
  exact h.last _ e
theorem conv_good {ps qs : List Rat} (hp : Good ps) (hq : Good qs) : Good (convR ps qs) := by
  obtain ⟨a, p0⟩ := good_last hp
  obtain ⟨b, q0⟩ := good_last hq
  refine ⟨fun z => ?_, fun q e => ?_⟩
  · have l := conv_len2 ps qs
    rw [z] at l
    simp at l
    omega
  · rw [conv_last p0 q0] at e
    cases e
    exact mul_num a b
theorem map_good {qs : List Rat} {r : Rat} (hq : Good qs) (hr : r.num ≠ 0) : Good (qs.map (· * r)) := by
  refine ⟨fun z => hq.ne (List.map_eq_nil_iff.mp z), fun q e => ?_⟩
  rw [List.getLast?_map] at e
  obtain ⟨t, ht, rfl⟩ := Option.map_eq_some_iff.mp e
  exact mul_num (hq.last t ht) hr
/-- a product with one number -/
theorem conv_one (r : Rat) (qs : List Rat) : convR [r] qs = qs.map (· * r) := by
  have l : (convR [r] qs).length = qs.length := by
    rw [conv_len2]
    show 1 + qs.length - 1 = _
    omega
  apply List.ext_getElem?
  intro k
  by_cases h : k < qs.length
  · have e : (convR [r] qs).getD k 0 = qs.getD k 0 * r := by
      show (innR (List.replicate ([r].length + qs.length - 1) 0) 0 r qs qs.length).getD k 0 = _
      rw [inn_get, List.length_replicate, if_pos ⟨Nat.zero_le _, by omega, by show k < 1 + qs.length - 1; omega⟩, Nat.sub_zero, List.getD_eq_getElem?_getD, List.getElem?_replicate, if_pos (by show k < 1 + qs.length - 1; omega)]
      show (0 : Rat) + _ = _
      rw [Rat.zero_add, Rat.mul_comm]
    rw [List.getD_eq_getElem?_getD, List.getD_eq_getElem?_getD, List.getElem?_eq_getElem (by omega : k < (convR [r] qs).length), List.getElem?_eq_getElem h] at e
    rw [List.getElem?_map, List.getElem?_eq_getElem (by omega : k < (convR [r] qs).length), List.getElem?_eq_getElem h]
    exact congrArg some e
  · rw [List.getElem?_eq_none (by omega), List.getElem?_eq_none (by rw [List.length_map]; omega)]
theorem at_zero {qs : List Rat} (h : qs ≠ []) : atR 0 qs = qs.head h := by
  cases qs with
  | nil => exact absurd rfl h
  | cons a t =>
    show atR 0 t * 0 + a = a
    rw [Rat.mul_zero, Rat.zero_add]
theorem at_one (r q : Rat) : atR r [q] = q := by
  show (0 : Rat) * r + q = q
  rw [Rat.zero_mul, Rat.zero_add]
theorem at_sz {qs : List Rat} {r : Rat} (few : Few qs) (sr : Sz 100 r) : Sz 1415 (atR r qs) := by
  suffices h : ∀ l : List Rat, (∀ q ∈ l, q ∈ qs) → Sz (1 + 202 * l.length) (atR r l) by
    have := few.len
    exact (h qs fun q z => z).mono (by omega)
  intro l
  induction l with
  | nil => intro _; exact sz_nil (by decide)
  | cons a t ih =>
    intro h
    have ha := h a List.mem_cons_self
    have sa : Sz 100 a := ⟨few.num a ha, Nat.lt_of_le_of_lt (few.den a ha) (by decide)⟩
    have z := ((ih fun q hq => h q (List.mem_cons_of_mem _ hq)).mul sr).add sa
    exact Sz.mono z (by rw [List.length_cons]; omega)
/-! ### their texts -/
theorem sh_fr {q : Rat} (h : Sz 1415 q) {k : Nat} : Sh 3849 (k + 1) (frD q) := by
  refine sh_tuple (m := 2) (n := 1921) (ds := [.int q.num, .int q.den]) (fun d hd => ?_) (Nat.le_refl _)
  rcases List.mem_cons.mp hd with e | hd
  · rw [e]
    exact sh_int2 (Nat.lt_of_lt_of_le h.up (Nat.pow_le_pow_right (by decide) (by decide)))
  · rw [List.mem_singleton.mp hd]
    refine sh_int2 ?_
    rw [Int.natAbs_natCast]
    exact Nat.lt_of_lt_of_le h.lo (Nat.pow_le_pow_right (by decide) (by decide))
theorem sh_poly {qs : List Rat} (h : ∀ q ∈ qs, Sz 1415 q) (l : qs.length ≤ 13) : Sh 50066 2 (polyOf qs) := by
  refine sh_tuple (m := 13) (n := 3849) (k := 1) (fun d hd => ?_) (by rw [List.length_map]; exact l)
  obtain ⟨q, hq, rfl⟩ := List.mem_map.mp hd
  exact sh_fr (h q hq)
end K02
set_option Elab.async false
set_option linter.all false
set_option maxRecDepth 100000
set_option maxHeartbeats 4000000
set_option exponentiation.threshold 20000
namespace K02
open PySem PySem.Spec PyProof.Rows L2 RatFr DataR Gx OpsR
/-! ### things apart from the well and the table -/
def Off (a tb : Addr) : Addr → Prop := fun b => b ≠ a ∧ b ≠ tb
structure On (a tb : Addr) (H H' : Hp) : Prop where
  keep : ∀ b o, b ≠ a → b ≠ tb → H b = some o → H' b = some o
  well : WellAt H' a
  tab : GxR.TabG H' tb
section
variable {a tb : Addr} {H H' H1 H2 : Hp}
theorem well_tab (w : WellAt H a) (t : GxR.TabG H tb) : tb ≠ a := fun z => by
  obtain ⟨g, b, c, e, _⟩ := w
  obtain ⟨ps, e2, _⟩ := t
  rw [z, e] at e2
  cases e2
theorem On.refl (w : WellAt H a) (t : GxR.TabG H tb) : On a tb H H := ⟨fun _ _ _ _ e => e, w, t⟩
theorem On.trans (x : On a tb H H1) (y : On a tb H1 H2) : On a tb H H2 := ⟨fun b o n m e => y.keep b o n m (x.keep b o n m e), y.well, y.tab⟩
theorem On.drew (w : WellAt H a) (t : GxR.TabG H tb) (x : Drew a H H1) : On a tb H H1 := by
  have ne := well_tab w t
  obtain ⟨ps, e2, ok⟩ := t
  exact ⟨fun b o n _ e => x.keep b o n e, x.well, ps, x.keep tb _ ne e2, ok⟩
theorem On.after (w : WellAt H a) (t : GxR.TabG H tb) (x : After tb H H1) : On a tb H H1 := by
  have ne := well_tab w t
  obtain ⟨g, b, c, e, ok⟩ := w
  exact ⟨fun b o _ n e => x.keep b o n e, ⟨g, b, c, x.keep a _ (Ne.symm ne) e, ok⟩, x.tab⟩
theorem On.same (w : WellAt H a) (t : GxR.TabG H tb) (x : Same H H1) : On a tb H H1 := .drew w t (.same w x)
theorem On.tup (x : On a tb H H1) (w : WellAt H a) (t : GxR.TabG H tb) {b : Addr} {xs : List V} (e : H b = some (.tup xs)) : H1 b = some (.tup xs) := by
  obtain ⟨g, y, c, e1, _⟩ := w
  obtain ⟨ps, e2, _⟩ := t
  exact x.keep b _ (fun z => by rw [z, e1] at e; cases e) (fun z => by rw [z, e2] at e; cases e) e
theorem On.fr (x : On a tb H H1) (w : WellAt H a) (t : GxR.TabG H tb) {v : V} {q : Rat} (h : FrAt H v q) : FrAt H1 v q := let ⟨b, e, g⟩ := h; ⟨b, e, x.tup w t g⟩
theorem On.poly (x : On a tb H H1) (w : WellAt H a) (t : GxR.TabG H tb) {v : V} {qs : List Rat} (h : PolyAt H v qs) : PolyAt H1 v qs :=
  let ⟨b, xs, e, g, l, f⟩ := h
  ⟨b, xs, e, x.tup w t g, l, fun i q hq => let ⟨d, u, y⟩ := f i q hq; ⟨d, u, x.tup w t y⟩⟩
theorem On.dq (x : On a tb H H1) {v : V} {d : PyData} (h : Dq (Off a tb) H v d) : Dq (Off a tb) H1 v d := h.to fun b o n e => ⟨n, x.keep b o n.1 n.2 e⟩
theorem off_of_none (w : WellAt H a) (t : GxR.TabG H tb) {b : Addr} (n : H b = none) : Off a tb b := by
  obtain ⟨g, y, c, e1, _⟩ := w
  obtain ⟨ps, e2, _⟩ := t
  exact ⟨fun z => (by rw [z, e1] at n; cases n), fun z => (by rw [z, e2] at n; cases n)⟩
theorem off_of_tup (w : WellAt H a) (t : GxR.TabG H tb) {b : Addr} {xs : List V} (n : H b = some (.tup xs)) : Off a tb b := by
  obtain ⟨g, y, c, e1, _⟩ := w
  obtain ⟨ps, e2, _⟩ := t
  exact ⟨fun z => (by rw [z, e1] at n; cases n), fun z => (by rw [z, e2] at n; cases n)⟩
theorem dq_new (w : WellAt H a) (t : GxR.TabG H tb) {v : V} {d : PyData} (h : Dq (Nw H) H1 v d) : Dq (Off a tb) H1 v d := h.to fun b o n e => ⟨off_of_none w t n, e⟩
theorem fr_off (w : WellAt H a) (t : GxR.TabG H tb) {v : V} {q : Rat} (h : FrAt H v q) : Dq (Off a tb) H v (frD q) := by
  obtain ⟨b, rfl, g⟩ := h
  exact .tup (off_of_tup w t g) g (.cons (.int _) (.cons (.int _) .nil))
theorem frs_off (w : WellAt H a) (t : GxR.TabG H tb) : ∀ {qs : List Rat} {xs : List V}, xs.length = qs.length → (∀ (i : Nat) (q : Rat), qs[i]? = some q → ∃ b, xs[i]? = some (.ref b) ∧ H b = some (fr q)) → DqAll (Off a tb) H xs (qs.map frD)
  | [], [], _, _ => .nil
  | q :: qs, x :: xs, l, f => by
    obtain ⟨b, e, g⟩ := f 0 q rfl
    cases e
    exact .cons (fr_off w t ⟨b, rfl, g⟩) (frs_off w t (by simpa using l) fun i r hr => f (i + 1) r hr)
theorem poly_off (w : WellAt H a) (t : GxR.TabG H tb) {v : V} {qs : List Rat} (h : PolyAt H v qs) : Dq (Off a tb) H v (polyOf qs) := by
  obtain ⟨b, xs, rfl, g, l, f⟩ := h
  exact .tup (off_of_tup w t g) g (frs_off w t l f)
theorem dqAll_set {N : Addr → Prop} {u : V} {e : PyData} (h : Dq N H u e) : ∀ {k : Nat} {ds : List PyData} {xs : List V}, DqAll N H xs ds → DqAll N H (xs.set k u) (ds.set k e)
  | _, [], _, .nil => .nil
  | 0, _ :: _, _, .cons _ r => .cons h r
  | k + 1, _ :: _, _, .cons x r => .cons x (dqAll_set h (k := k) r)
theorem dqAll_take {N : Addr → Prop} : ∀ {k : Nat} {ds : List PyData} {xs : List V}, DqAll N H xs ds → DqAll N H (xs.take k) (ds.take k)
  | 0, _, _, _ => .nil
  | _ + 1, [], _, .nil => .nil
  | k + 1, _ :: _, _, .cons x r => .cons x (dqAll_take (k := k) r)
/-- no long tuple -/
def Shrt (d : PyData) : Prop := ∀ ds, d = .tuple ds → ds.length ≤ 1000
theorem shrt_of_fine {d : PyData} (h : fine d = true) : Shrt d := fun ds e => by
  subst e
  unfold fine at h
  obtain ⟨_, h3⟩ := Bool.and_eq_true_iff.mp h
  have l := of_decide_eq_true h3
  have m : (PyData.shown (.tuple ds)).length ≤ (PyData.shown (.list [.tuple ds, .tuple ds])).length := by
    show _ ≤ (listText (PyData.shownAll [.tuple ds, .tuple ds])).length
    exact listText_mem_le List.mem_cons_self
  have n : piled (PyData.shownAll ds) ≤ (PyData.shown (.tuple ds)).length := piled_le_tupleText _
  have p : ∀ ts : List Str, ts.length ≤ piled ts := fun ts => by
    induction ts with
    | nil => exact Nat.zero_le _
    | cons t ts ih =>
      rw [piled_cons, List.length_cons]
      omega
  have q := p (PyData.shownAll ds)
  rw [shownAll_map] at q n
  rw [List.length_map] at q
  omega
end
end K02
namespace L2
open PySem PySem.Spec PyProof.Rows
section
variable {X : Cx}
/-- list(t) of a tuple, told to stand apart from the table of modules -/
def rListT (K : PySem.W.Frag) : List V → Hp → VK → Prop := fun vs H Q => ∃ (b : Addr) (xs : List V), vs = [.ref b] ∧ SqT K H b xs ∧ ∀ l, H l = none → l ≠ sysModules → Q (.ref l) (upd H l (.lst xs))
theorem call_listT : CallR X (.type "list") (rListT X.K) := by
  intro pins s σ H vs us Q I r ⟨b, xs, ev, sq, q⟩
  subst ev
  cases r with
  | cons r1 r2 =>
  cases r2
  cases r1
  obtain ⟨its, rv, ⟨o, ho, hc, n, hd⟩, le⟩ := I.tuple sq
  have ln := rv.length
  have small : its.toArray.size ≤ sizeLine := by rw [List.size_toArray]; omega
  refine call_list_seq b (.inr rfl) ho hc hd (fun h2 c2 kp e2 => ?_) small
  have fresh : H s.heap.objs.size = none := I.hok.fresh (Nat.le_refl _)
  exact ⟨.ref s.heap.objs.size, upd H s.heap.objs.size (.lst xs), I.laid (t' := s.toks) kp (Nat.le_refl _) ⟨le, its, c2, rv, e2⟩, rfl, q _ fresh (Nat.ne_of_gt I.big)⟩
end
end L2
set_option Elab.async false
set_option linter.all false
set_option maxRecDepth 100000
set_option maxHeartbeats 4000000
set_option exponentiation.threshold 20000
namespace K02
open PySem PySem.Spec PyProof.Rows L2 RatFr DataR Gx OpsR
abbrev sBent : Stmt := top 42
/-! ### things made of what is there and of new things -/
section
variable {a tb : Addr} {H0 : Hp} {σ : L2.St} {K : PySem.W.Frag}
def Sw (a tb : Addr) (H0 : Hp) (σ : L2.St) (te : TE) (d : PyData) : Prop := ∀ (H : Hp) (Q : VK), Same H0 H → (∀ v H', Same H H' → Dq (Off a tb) H' v d → Q v H') → te σ H Q
def SwA (a tb : Addr) (H0 : Hp) (σ : L2.St) (ta : TA) (ds : List PyData) : Prop := ∀ (H : Hp) (Q : List V → Hp → Prop), Same H0 H → (∀ vs H', Same H H' → DqAll (Off a tb) H' vs ds → Q vs H') → ta σ H Q
theorem well_same {H H' : Hp} (w : WellAt H a) (s : Same H H') : WellAt H' a := let ⟨g, b, c, e, ok⟩ := w; ⟨g, b, c, s _ _ e, ok⟩
theorem tab_same {H H' : Hp} (t : GxR.TabG H tb) (s : Same H H') : GxR.TabG H' tb := let ⟨ps, e, ok⟩ := t; ⟨ps, s _ _ e, ok⟩
theorem sw_sh (w : WellAt H0 a) (t : GxR.TabG H0 tb) {te : TE} {d : PyData} (h : Shows te d) : Sw a tb H0 σ te d := fun H Q s q => h σ H Q fun v H' s' dq => q v H' s' (dq_new (well_same w s) (tab_same t s) dq)
theorem sw_var {i : Nat} {v : V} {d : PyData} (e : σ[i]? = some (some v)) (h : Dq (Off a tb) H0 v d) : Sw a tb H0 σ (tVar i) d := fun H Q s q => ⟨v, e, q v H (Same.refl H) (h.same s)⟩
theorem sw_nil : SwA a tb H0 σ tNil [] := fun H Q s q => q _ _ (Same.refl H) .nil
theorem sw_cons {te : TE} {ta : TA} {d : PyData} {ds : List PyData} (x : Sw a tb H0 σ te d) (y : SwA a tb H0 σ ta ds) : SwA a tb H0 σ (tCons te ta) (d :: ds) := fun H Q s q =>
  x H _ s fun v H1 s1 q1 => y H1 _ (s.trans s1) fun vs H2 s2 q2 => q _ _ (s1.trans s2) (.cons (q1.same s2) q2)
theorem sw_tup (w : WellAt H0 a) (t : GxR.TabG H0 tb) {ta : TA} {ds : List PyData} (x : SwA a tb H0 σ ta ds) (hz : ds.length ≤ 1000 := by decide) : Sw a tb H0 σ (tTup ta) (.tuple ds) := fun H Q s q =>
  x H _ s fun vs H1 s1 q1 => ⟨by rw [q1.length, sizeLine_eq]; omega, fun p hp => q _ _ (s1.trans (same_new hp)) (.tup (off_of_none (well_same w (s.trans s1)) (tab_same t (s.trans s1)) hp) upd_same (q1.same (same_new hp)))⟩
/-- t + u -/
theorem sw_cat (w : WellAt H0 a) (t : GxR.TabG H0 tb) {ta tc : TE} {ds es : List PyData} (x : Sw a tb H0 σ ta (.tuple ds)) (y : Sw a tb H0 σ tc (.tuple es)) (hz : ds.length + es.length ≤ 1000) : Sw a tb H0 σ (tOp (rCatA K) ta tc) (.tuple (ds ++ es)) := fun H Q s q =>
  x H _ s fun v1 H1 s1 q1 => y H1 _ (s.trans s1) fun v2 H2 s2 q2 => by
    have z1 := q1.same s2
    cases z1 with
    | tup n1 e1 a1 =>
      cases q2 with
      | tup n2 e2 a2 =>
        refine cat_all e1 e2 (by rw [a1.length, a2.length, sizeLine_eq]; omega) fun H3 p s3 e3 => q _ _ ((s1.trans s2).trans s3) ?_
        have big := ((s.trans s1).trans s2).trans s3
        exact .tup (off_of_tup (well_same w big) (tab_same t big) e3) e3 ((a1.same s3).append (a2.same s3))
/-- list(t) -/
theorem sw_list (w : WellAt H0 a) (t : GxR.TabG H0 tb) {ta : TE} {ds : List PyData} (x : Sw a tb H0 σ ta (.tuple ds)) : Sw a tb H0 σ (tCB (rListT K) (tCons ta tNil)) (.list ds) := fun H Q s q =>
  x H _ s fun v1 H1 s1 q1 => by
    cases q1 with
    | tup n1 e1 a1 =>
      refine ⟨_, _, rfl, .of e1, fun l hl nl => q _ _ (s1.trans (same_new hl)) ?_⟩
      exact .lst (off_of_none (well_same w (s.trans s1)) (tab_same t (s.trans s1)) hl) upd_same nl (a1.same (same_new hl))
/-- the first one -/
theorem sw_first {ta : TE} {d : PyData} {ds : List PyData} (x : Sw a tb H0 σ ta (.tuple (d :: ds))) : Sw a tb H0 σ (tOp (rIxT K) ta (tC (.int 0))) d := fun H Q s q =>
  x H _ s fun v1 H1 s1 q1 => by
    cases q1 with
    | tup n1 e1 a1 =>
      cases a1 with
      | cons z1 z2 => exact ⟨_, _, 0, _, rfl, rfl, .of e1, atI_nat (j := 0) rfl, q _ _ s1 z1⟩
theorem ix_neg1 {n : Nat} (d : Nat) (h : 0 < n) : HT.sIx n d (some (-1)) = n - 1 := by
  have e := HT.clip_eq (-1) n d
  rw [if_pos (by decide)] at e
  omega
/-- all but the last one -/
theorem sw_init (w : WellAt H0 a) (t : GxR.TabG H0 tb) {ta : TE} {ds : List PyData} (n0 : 0 < ds.length) (x : Sw a tb H0 σ ta (.tuple ds)) : Sw a tb H0 σ (tSl (rSlA K) ta tNoPart (tPart (tUn (rU fun i => .int (-i)) (tC (.int 1))))) (.tuple (ds.take (ds.length - 1))) := fun H Q s q =>
  x H _ s fun v1 H1 s1 q1 => by
    cases q1 with
    | @tup b xs _ n1 e1 a1 =>
      have l := a1.length
      refine ⟨1, rfl, -1, rfl, ?_⟩
      refine slice_all e1 fun H2 p s2 e2 => q _ _ (s1.trans s2) ?_
      have c : cutV xs none (some (-1)) = xs.take (ds.length - 1) := by
        unfold cutV
        rw [HT.sIx_none, ix_neg1 _ (by omega), List.drop_zero, Nat.sub_zero, l]
      rw [c] at e2
      have big := (s.trans s1).trans s2
      exact .tup (off_of_tup (well_same w big) (tab_same t big) e2) e2 (dqAll_take (a1.same s2))
end
end K02
set_option Elab.async false
set_option linter.all false
set_option maxRecDepth 100000
set_option maxHeartbeats 4000000
set_option exponentiation.threshold 20000
namespace K02
open PySem PySem.Spec PyProof.Rows L2 RatFr DataR Gx OpsR
section
variable {P : Program} {w : World} {K : PySem.W.Frag} {mg : Str → Option Value} {base : Heap} {fd : FuncData} {tb : Addr}
/-- _law_bent(well, p): the polynomial, at times bent, or some odd thing -/
def spBent (tb : Addr) : Sp := fun vs H Q _ => ∃ (a : Addr) (v : V) (ps : List Rat), vs = [.ref a, v] ∧ WellAt H a ∧ GxR.TabG H tb ∧ PolyAt H v ps ∧ 0 < ps.length ∧ ps.length ≤ 7 ∧ ∀ H' u d, On a tb H H' → Dq (Off a tb) H' u d → Shrt d → Q u H'
theorem scBent : FnScope ["well", "p", "way", "at"] ["well", "p"] (defScope sBent) := ⟨rfl, rfl, rfl, by decide +kernel, rfl, by decide +kernel, by decide +kernel⟩
theorem rd_cons {te : TE} {ta : TA} {σ : L2.St} {H : Hp} {Q : List V → Hp → Prop} (h : te σ H fun x H1 => ta σ H1 fun xs H2 => Q (x :: xs) H2) : tCons te ta σ H Q := h
theorem rd_lst {ta : TA} {σ : L2.St} {H : Hp} {Q : VK} (h : ta σ H fun xs H1 => xs.length ≤ sizeLine ∧ ∀ p, H1 p = none → Q (.ref p) (upd H1 p (.lst xs))) : tLst ta σ H Q := h
theorem shrt_tup {ds : List PyData} (h : ds.length ≤ 1000) : Shrt (.tuple ds) := fun es e => by
  cases e
  exact h
theorem ok_bent {fdD fdP fdO fdN fdU : FuncData} (F : FnD K "_law_bent" sBent fd) (T : Names K mg) (FD : FnD K "_law_drop" sDrop fdD) (FP : FnD K "_law_pick" sPick fdP) (FO : FnD K "_law_odd" sOdd fdO) (FN : FnD K "_law_no_frac" sNoFrac fdN) (FU : FnD K "_law_put" sPut fdU) :
    FnOk P w K mg base CX0 4 (He.ga K "_law_bent") fd ["well", "p"] (spBent tb) := by
  refine F.ok scBent (fun vs H Q E ⟨_, _, _, e, _⟩ => by rw [e]; rfl) (fun cdv A outer s H vs Q E hr h => ?_)
  obtain ⟨a, v, ps, rfl, hw, ht, hp, l0, l7, fin⟩ := h
  have gD := T.gl "_law_drop" (by decide +kernel)
  have gP := T.gl "_law_pick" (by decide +kernel)
  have gO := T.gl "_law_odd" (by decide +kernel)
  have gN := T.gl "_law_no_frac" (by decide +kernel)
  have gU := T.gl "_law_put" (by decide +kernel)
  have bD : Binds K fdD ["well", "width"] [] := FD.bindsN fun _ _ _ _ _ _ us hl => match us, hl with | [_, _], _ => rfl
  have bP : Binds K fdP ["well", "some"] [] := FP.bindsN fun _ _ _ _ _ _ us hl => match us, hl with | [_, _], _ => rfl
  have bO : Binds K fdO ["well"] [] := FO.bindsN fun _ _ _ _ _ _ us hl => match us, hl with | [_], _ => rfl
  have bN : Binds K fdN ["well"] [] := FN.bindsN fun _ _ _ _ _ _ us hl => match us, hl with | [_], _ => rfl
  have bU : Binds K fdU ["line", "at", "thing"] [] := FU.bindsN fun _ _ _ _ _ _ us hl => match us, hl with | [_, _, _], _ => rfl
  have GD : FnOk P w K mg base CX0 1 (He.ga K "_law_drop") fdD ["well", "width"] spDrop := ok_drop FD T
  have GP : FnOk P w K mg base CX0 2 (He.ga K "_law_pick") fdP ["well", "some"] spPick := ok_pick FP T FD
  have GO : FnOk P w K mg base CX0 3 (He.ga K "_law_odd") fdO ["well"] spOdd := ok_odd FO T FD FP
  have GN : FnOk P w K mg base CX0 3 (He.ga K "_law_no_frac") fdN ["well"] spNoFrac := ok_noFrac FN T FD FP
  have GU : FnOk P w K mg base CX0 1 (He.ga K "_law_put") fdU ["line", "at", "thing"] spPut := ok_put FU
  have h1 := hr.mono (j := 1) (by decide)
  have h2 := hr.mono (j := 2) (by decide)
  refine ⟨_, PSs.nox (pss_cons (ps_par (i := 2) (j := 3) (by rfl) scBent.nd rfl rfl (by decide) rfl rfl (pa_cons (pe_call GD h1 rfl gD FD.kp bD .nil pass0 (pa_cons (pv 0) (pa_cons pe_int pa_nil)))
        (pa_cons (pe_call GD h1 rfl gD FD.kp bD .nil pass0 (pa_cons (pv 0) (pa_cons (pe_callB call_len_seq (by rfl) (T.fr "len" (by decide +kernel)) PySem.boot_len (pa_cons (pv 1) pa_nil)) pa_nil))) pa_nil)) (by rfl))
    (pss_cons (ps_if (pt_cmpR op_lt (pv 2) pe_int (nomark _)) (pss_one (ps_ret (pe_call GU h1 rfl gU FU.kp bU .nil pass0 (pa_cons (pv 1) (pa_cons (pv 3) (pa_cons (pe_call GN hr rfl gN FN.kp bN .nil pass0 (pa_cons (pv 0) pa_nil)) pa_nil)))))) pss_nil)
    (pss_cons (ps_if (pt_cmpR op_lt (pv 2) pe_int (nomark _)) (pss_one (ps_ret (pe_call GP h2 rfl gP FP.kp bP .nil pass0 (pa_cons (pv 0) (pa_cons (pe_lst (pa_cons (pe_callTy call_listT (by rfl) (T.fr "list" (by decide +kernel)) (by decide +kernel) (pa_cons (pv 1) pa_nil))
        (pa_cons (pe_tup (pa_cons (pv 1) pa_nil)) (pa_cons (pe_tup pa_nil) (pa_cons (pe_op op_catA (pv 1) (pe_tup (pa_cons (pe_tup (pa_cons pe_int (pa_cons pe_int pa_nil))) pa_nil))) (pa_cons (pe_ix ix_tup (pv 1) pe_int (fun _ _ => rfl))
        (pa_cons (pe_op op_catA (pv 1) (pe_tup (pa_cons pe_int pa_nil))) (pa_cons (pe_tup (pa_cons (pe_tup (pa_cons pe_int (pa_cons pe_int pa_nil))) pa_nil))
        (pa_cons (pe_op op_catA (pe_slice sl_tupA (pv 1) po_none (po_some (pe_un un_neg pe_int))) (pe_tup (pa_cons (pe_tup (pa_cons pe_int (pa_cons pe_int pa_nil))) pa_nil))) pa_nil))))))))) pa_nil))))) pss_nil)
    (pss_one (ps_ret (pe_ifExp (pt_cmpR op_eq (pv 2) pe_int (nomark _)) (pe_call GO hr rfl gO FO.kp bO .nil pass0 (pa_cons (pv 0) pa_nil)) (pv 1))))))), ?_⟩
  have sz : sizeLine = 16777216 := sizeLine_eq
  refine ⟨_, rfl, a, 8, rfl, hw, by decide, by decide, fun way g b c d0 d8 ok => ?_⟩
  have r1 : On a tb H (upd H a (wl g b c)) := .drew hw ht (.put ok)
  generalize upd H a (wl g b c) = H1 at r1 ⊢
  have hp1 := r1.poly hw ht hp
  obtain ⟨pa, xs, rfl, gp, lx, fx⟩ := id hp1
  refine ⟨_, rfl, _, rfl, pa, xs, rfl, .inr (.of gp), a, _, rfl, r1.well, by omega, by omega, fun at_ g2 b2 c2 a0 a7 ok2 => ?_⟩
  have r2' : On a tb H1 (upd H1 a (wl g2 b2 c2)) := .drew r1.well r1.tab (.put ok2)
  have hp2 := r2'.poly r1.well r1.tab hp1
  have gp2 := r2'.tup r1.well r1.tab gp
  have r2 := r1.trans r2'
  generalize upd H1 a (wl g2 b2 c2) = H2 at r2 hp2 gp2 ⊢
  have dp := poly_off r2.well r2.tab hp2
  obtain ⟨n, rfl⟩ : ∃ n : Nat, at_ = (n : Int) := ⟨at_.toNat, by omega⟩
  refine ⟨_, _, rfl, ?_⟩
  refine ⟨_, rfl, _, _, rfl, rfl, _, rfl, ?_⟩
  refine ite2 (fun z => ?_) (fun z => ?_)
  · -- one of the numbers put anew
    refine ⟨_, rfl, _, rfl, _, rfl, a, rfl, r2.well, fun u H3 d g3 b3 c3 k3 e3 ok3 hd fd => ?_⟩
    have r3' : On a tb H2 H3 := ⟨fun x o n _ e => k3 x o n e, ⟨g3, b3, c3, e3, ok3⟩, (by
      have ne := well_tab r2.well r2.tab
      obtain ⟨pz, ez, okz⟩ := r2.tab
      exact ⟨pz, k3 tb _ ne ez, okz⟩)⟩
    have hd' := dq_new r2.well r2.tab hd
    have gp3 := r3'.tup r2.well r2.tab gp2
    have dp3 := r3'.dq dp
    refine ⟨pa, n, u, xs, rfl, gp3, by omega, by omega, fun H4 p4 s4 g4 => ?_⟩
    have r4 := (r2.trans r3').trans (.same r3'.well r3'.tab s4)
    have d4 := dp3.same s4
    unfold polyOf at d4
    cases d4 with
    | tup n1 e1 a1 =>
      rw [s4 _ _ gp3] at e1
      cases e1
      refine fin _ _ (.tuple ((ps.map frD).set n d)) r4 (.tup (off_of_tup r4.well r4.tab g4) g4 (dqAll_set (hd'.same s4) a1)) (shrt_tup ?_)
      rw [List.length_set, List.length_map]
      omega
  · refine ⟨_, rfl, _, _, rfl, rfl, _, rfl, ?_⟩
    refine ite2 (fun y => ?_) (fun y => ?_)
    · -- one of the menu
      refine ⟨_, rfl, ?_⟩
      have W := r2.well
      have TT := r2.tab
      have vp : ∀ {σ : L2.St}, σ[1]? = some (some (V.ref pa)) → Sw a tb H2 σ (tVar 1) (polyOf ps) := fun e => sw_var e dp
      obtain ⟨q0, qs, eq⟩ : ∃ q0 qs, ps = q0 :: qs := by
        cases ps with
        | nil => simp at l0
        | cons q0 qs => exact ⟨q0, qs, rfl⟩
      have lm : (ps.map frD).length ≤ 7 := by rw [List.length_map]; exact l7
      have lm0 : 0 < (ps.map frD).length := by rw [List.length_map]; exact l0
      have vq : ∀ {σ : L2.St}, σ[1]? = some (some (V.ref pa)) → Sw a tb H2 σ (tVar 1) (.tuple (frD q0 :: qs.map frD)) := fun e => by
        have z := vp e
        rw [eq] at z
        exact z
      refine rd_cons (rd_lst ?_)
      refine (sw_cons (sw_list W TT (vp rfl)) (sw_cons (sw_tup W TT (sw_cons (vp rfl) sw_nil) (by show 1 ≤ 1000; omega)) (sw_cons (sw_tup W TT sw_nil)
        (sw_cons (sw_cat W TT (vp rfl) (sw_sh W TT (sh_tup (sh_cons (sh_tup (sh_cons sh_int (sh_cons sh_int sh_nil))) sh_nil))) (by show _ + 1 ≤ _; omega))
        (sw_cons (sw_first (vq rfl)) (sw_cons (sw_cat W TT (vp rfl) (sw_sh W TT (sh_tup (sh_cons sh_int sh_nil))) (by show _ + 1 ≤ _; omega))
        (sw_cons (sw_sh W TT (sh_tup (sh_cons (sh_tup (sh_cons sh_int (sh_cons sh_int sh_nil))) sh_nil)))
        (sw_cons (sw_cat W TT (sw_init W TT lm0 (vp rfl)) (sw_sh W TT (sh_tup (sh_cons (sh_tup (sh_cons sh_int (sh_cons sh_int sh_nil))) sh_nil))) (by rw [List.length_take]; show _ + 1 ≤ _; omega)) sw_nil)))))))) _ _ (Same.refl H2) fun vs H3 s3 all => ?_
      have lv := all.length
      have lv8 : vs.length = 8 := lv
      refine ⟨by omega, fun l hl => ?_⟩
      have s4 := same_new (o := .lst vs) hl
      have r4 := r2.trans (.same r2.well r2.tab (s3.trans s4))
      have all4 := all.same s4
      have gl : upd H3 l (.lst vs) l = some (.lst vs) := upd_same
      have nl : l ≠ a := (off_of_none (well_same r2.well s3) (tab_same r2.tab s3) hl).1
      generalize upd H3 l (.lst vs) = H4 at r4 all4 gl ⊢
      refine ⟨a, l, vs, rfl, r4.well, gl, nl, by omega, by omega, fun u g5 b5 c5 hu ok5 => ?_⟩
      obtain ⟨d, hd, qd⟩ := all4.mem hu
      have r5 : On a tb H4 (upd H4 a (wl g5 b5 c5)) := .drew r4.well r4.tab (.put ok5)
      refine fin _ _ d (r4.trans r5) (r5.dq qd) ?_
      intro ds e
      subst e
      simp only [List.mem_cons, List.not_mem_nil, or_false] at hd
      rcases hd with z | z | z | z | z | z | z | z
      · cases z
      · cases z; show 1 ≤ 1000; omega
      · cases z; show 0 ≤ 1000; omega
      · cases z; rw [List.length_append]; show _ + 1 ≤ _; omega
      · cases z; show 2 ≤ 1000; omega
      · cases z; rw [List.length_append]; show _ + 1 ≤ _; omega
      · cases z; show 1 ≤ 1000; omega
      · cases z; rw [List.length_append, List.length_take]; show _ + 1 ≤ _; omega
    · refine ⟨_, rfl, rfl, _, rfl, ?_⟩
      refine ite2 (fun x => ?_) (fun x => ?_)
      · refine ⟨_, rfl, a, rfl, r2.well, fun u H3 d g3 b3 c3 k3 e3 ok3 hd fd => ?_⟩
        have r3' : On a tb H2 H3 := ⟨fun x o n _ e => k3 x o n e, ⟨g3, b3, c3, e3, ok3⟩, (by
          have ne := well_tab r2.well r2.tab
          obtain ⟨pz, ez, okz⟩ := r2.tab
          exact ⟨pz, k3 tb _ ne ez, okz⟩)⟩
        exact fin _ _ d (r2.trans r3') (dq_new r2.well r2.tab hd) (shrt_of_fine fd)
      · refine ⟨_, rfl, fin _ _ (polyOf ps) r2 dp (shrt_tup ?_)⟩
        rw [List.length_map]
        omega
end
end K02
set_option Elab.async false
set_option linter.all false
set_option maxRecDepth 100000
set_option maxHeartbeats 4000000
set_option exponentiation.threshold 20000
namespace K02
open PySem PySem.Spec PyProof.Rows L2 RatFr DataR Gx OpsR
/-! ### readings whose calls may draw and add to the table -/
section
variable {a tb : Addr} {H0 : Hp} {σ : L2.St} {K : PySem.W.Frag}
def So (a tb : Addr) (H0 : Hp) (σ : L2.St) (te : TE) (d : PyData) : Prop := ∀ (H : Hp) (Q : VK), On a tb H0 H → (∀ v H', On a tb H H' → Dq (Off a tb) H' v d → Q v H') → te σ H Q
def SoA (a tb : Addr) (H0 : Hp) (σ : L2.St) (ta : TA) (ds : List PyData) : Prop := ∀ (H : Hp) (Q : List V → Hp → Prop), On a tb H0 H → (∀ vs H', On a tb H H' → DqAll (Off a tb) H' vs ds → Q vs H') → ta σ H Q
theorem On.dqs {H H1 : Hp} (x : On a tb H H1) {vs : List V} {ds : List PyData} (h : DqAll (Off a tb) H vs ds) : DqAll (Off a tb) H1 vs ds := h.to fun b o n e => ⟨n, x.keep b o n.1 n.2 e⟩
theorem so_nil : SoA a tb H0 σ tNil [] := fun H Q s q => q _ _ (.refl s.well s.tab) .nil
theorem so_cons {te : TE} {ta : TA} {d : PyData} {ds : List PyData} (x : So a tb H0 σ te d) (y : SoA a tb H0 σ ta ds) : SoA a tb H0 σ (tCons te ta) (d :: ds) := fun H Q s q =>
  x H _ s fun v H1 s1 q1 => y H1 _ (s.trans s1) fun vs H2 s2 q2 => q _ _ (s1.trans s2) (.cons (s2.dq q1) q2)
theorem so_sw {te : TE} {d : PyData} (h : ∀ H, On a tb H0 H → Sw a tb H σ te d) : So a tb H0 σ te d := fun H Q s q => h H s H Q (Same.refl H) fun v H' s' dq => q v H' (.same s.well s.tab s') dq
/-- .. a list of such -/
theorem so_lst {ta : TA} {ds : List PyData} (x : SoA a tb H0 σ ta ds) (hz : ds.length ≤ 1000 := by decide) {H : Hp} {Q : VK} (s : On a tb H0 H)
    (q : ∀ l vs H', On a tb H H' → Off a tb l → H' l = some (.lst vs) → DqAll (Off a tb) H' vs ds → Q (.ref l) H') : tLst ta σ H Q :=
  x H _ s fun vs H1 s1 q1 => ⟨by rw [q1.length, sizeLine_eq]; omega, fun p hp => q p vs _ (s1.trans (.same s1.well s1.tab (same_new hp))) (off_of_none s1.well s1.tab hp) upd_same (q1.same (same_new hp))⟩
/-- arguments: a polynomial, and a fraction -/
def SoPF (a tb : Addr) (H0 : Hp) (σ : L2.St) (ta : TA) (gV : List V → List V) (ps : List Rat) (r : Rat) : Prop := ∀ (H : Hp) (Q : List V → Hp → Prop), On a tb H0 H → (∀ vs H' v x, On a tb H H' → gV vs = [v, x] → PolyAt H' v ps → FrAt H' x r → Q vs H') → ta σ H Q
def SoPP (a tb : Addr) (H0 : Hp) (σ : L2.St) (ta : TA) (gV : List V → List V) (ps qs : List Rat) : Prop := ∀ (H : Hp) (Q : List V → Hp → Prop), On a tb H0 H → (∀ vs H' v x, On a tb H H' → gV vs = [v, x] → PolyAt H' v ps → PolyAt H' x qs → Q vs H') → ta σ H Q
theorem app_nil (vs : List V) : vs ++ ([] : List V) = vs := List.append_nil vs
end
section
variable {a tb : Addr} {H0 : Hp} {σ : L2.St} {K : PySem.W.Frag} (W : WellAt H0 a) (TT : GxR.TabG H0 tb)
include W TT
/-- p, x: two names, one behind the other -/
theorem pf_vars {i j : Nat} {v x : V} {ps : List Rat} {r : Rat} (ei : σ[i]? = some (some v)) (ej : σ[j]? = some (some x)) (hv : PolyAt H0 v ps) (hx : FrAt H0 x r) : SoPF a tb H0 σ (tCons (tVar i) (tCons (tVar j) tNil)) id ps r := fun H Q s q =>
  ⟨v, ei, x, ej, q _ _ v x (.refl s.well s.tab) rfl (s.poly W TT hv) (s.fr W TT hx)⟩
theorem pf_kw {i j : Nat} {v x : V} {ps : List Rat} {r : Rat} (ei : σ[i]? = some (some v)) (ej : σ[j]? = some (some x)) (hv : PolyAt H0 v ps) (hx : FrAt H0 x r) : SoPF a tb H0 σ (tCons (tVar j) (tCons (tVar i) tNil)) List.reverse ps r := fun H Q s q =>
  ⟨x, ej, v, ei, q _ _ v x (.refl s.well s.tab) rfl (s.poly W TT hv) (s.fr W TT hx)⟩
/-- q, (0, 1) -/
theorem pf_nil {i : Nat} {v : V} {ps : List Rat} (ei : σ[i]? = some (some v)) (hv : PolyAt H0 v ps) : SoPF a tb H0 σ (tCons (tVar i) (tCons (tTup (tCons (tC (.int 0)) (tCons (tC (.int 1)) tNil))) tNil)) id ps 0 := fun H Q s q =>
  ⟨v, ei, by show 2 ≤ sizeLine; rw [sizeLine_eq]; omega, fun p hp => q _ _ v (.ref p) (.same s.well s.tab (same_new hp)) rfl ((s.poly W TT hv).same (same_new hp)) ⟨p, rfl, upd_same⟩⟩
/-- p[-1:], x -/
theorem pf_last {i j : Nat} {v x : V} {ps : List Rat} {r q0 : Rat} (ei : σ[i]? = some (some v)) (ej : σ[j]? = some (some x)) (hv : PolyAt H0 v ps) (hx : FrAt H0 x r) (hl : ps.getLast? = some q0) :
    SoPF a tb H0 σ (tCons (tSl (rSlA K) (tVar i) (tPart (tUn (rU fun i => .int (-i)) (tC (.int 1)))) tNoPart) (tCons (tVar j) tNil)) id [q0] r := fun H Q s q => by
  obtain ⟨b, xs, e, g, l, f⟩ := s.poly W TT hv
  refine ⟨v, ei, 1, rfl, -1, rfl, ?_⟩
  rw [e]
  dsimp only [tNoPart]
  refine slice_all (K := K) (a := b) (xs := xs) (lo := some (-1)) (hi := none) (H := H) g fun H2 p s2 e2 => ⟨x, ej, ?_⟩
  have n0 : 0 < ps.length := by
    cases ps with
    | nil => cases hl
    | cons _ _ => exact Nat.succ_pos _
  rw [List.getLast?_eq_getElem?] at hl
  obtain ⟨c, ec, gc⟩ := f _ _ hl
  have cut : cutV xs (some (-1)) none = [.ref c] := by
    unfold cutV
    rw [HT.sIx_none, ix_neg1 _ (by omega)]
    have dr : xs.drop (xs.length - 1) = [.ref c] := by
      apply List.ext_getElem?
      intro k
      rw [List.getElem?_drop]
      cases k with
      | zero => rw [l]; exact ec
      | succ k => rw [List.getElem?_eq_none (by omega)]; rfl
    rw [dr]
    exact List.take_of_length_le (by show 1 ≤ _; omega)
  rw [cut] at e2
  refine q _ _ (.ref p) x (.same s.well s.tab s2) rfl ⟨p, _, rfl, e2, rfl, fun k t hk => ?_⟩ ((s.fr W TT hx).same s2)
  cases k with
  | zero =>
    cases hk
    exact ⟨c, rfl, s2 _ _ gc⟩
  | succ k => simp at hk
theorem pp_vars {i j : Nat} {v x : V} {ps qs : List Rat} (ei : σ[i]? = some (some v)) (ej : σ[j]? = some (some x)) (hv : PolyAt H0 v ps) (hx : PolyAt H0 x qs) : SoPP a tb H0 σ (tCons (tVar i) (tCons (tVar j) tNil)) id ps qs := fun H Q s q =>
  ⟨v, ei, x, ej, q _ _ v x (.refl s.well s.tab) rfl (s.poly W TT hv) (s.poly W TT hx)⟩
theorem pp_kw {i j : Nat} {v x : V} {ps qs : List Rat} (ei : σ[i]? = some (some v)) (ej : σ[j]? = some (some x)) (hv : PolyAt H0 v ps) (hx : PolyAt H0 x qs) : SoPP a tb H0 σ (tCons (tVar j) (tCons (tVar i) tNil)) List.reverse ps qs := fun H Q s q =>
  ⟨x, ej, v, ei, q _ _ v x (.refl s.well s.tab) rfl (s.poly W TT hv) (s.poly W TT hx)⟩
def halfQ : Rat := ⟨3, 2, by decide, by decide⟩
theorem fr_one {p : Addr} {H : Hp} (g : H p = some (.tup [.int 3, .int 2])) : FrAt H (.ref p) halfQ := ⟨p, rfl, g⟩
/-- ((3, 2),), q -/
theorem pp_one {j : Nat} {x : V} {qs : List Rat} (ej : σ[j]? = some (some x)) (hx : PolyAt H0 x qs) : SoPP a tb H0 σ (tCons (tTup (tCons (tTup (tCons (tC (.int 3)) (tCons (tC (.int 2)) tNil))) tNil)) (tCons (tVar j) tNil)) id [halfQ] qs := fun H Q s q =>
  ⟨by show 2 ≤ sizeLine; rw [sizeLine_eq]; omega, fun p hp => ⟨by show 1 ≤ sizeLine; rw [sizeLine_eq]; omega, fun p2 hp2 => ⟨x, ej, by
    have s1 := same_new (o := .tup [.int 3, .int 2]) hp
    have s2 := s1.trans (same_new (o := .tup [.ref p]) hp2)
    refine q _ _ (.ref p2) x (.same s.well s.tab s2) rfl ⟨p2, _, rfl, upd_same, rfl, fun k t hk => ?_⟩ ((s.poly W TT hx).same s2)
    cases k with
    | zero =>
      cases hk
      exact ⟨p, rfl, same_new hp2 _ _ upd_same⟩
    | succ k => simp at hk⟩⟩⟩
/-- q, (3, 2) -/
theorem pf_half {i : Nat} {v : V} {ps : List Rat} (ei : σ[i]? = some (some v)) (hv : PolyAt H0 v ps) : SoPF a tb H0 σ (tCons (tVar i) (tCons (tTup (tCons (tC (.int 3)) (tCons (tC (.int 2)) tNil))) tNil)) id ps halfQ := fun H Q s q =>
  ⟨v, ei, by show 2 ≤ sizeLine; rw [sizeLine_eq]; omega, fun p hp => q _ _ v (.ref p) (.same s.well s.tab (same_new hp)) rfl ((s.poly W TT hv).same (same_new hp)) ⟨p, rfl, upd_same⟩⟩
end
section
variable {a tb : Addr} {H0 : Hp} {σ : L2.St} {K : PySem.W.Frag}
/-! ### the calls -/
theorem so_value {ta : TA} {ps : List Rat} {r : Rat} (h : SoPF a tb H0 σ ta id ps r) (few : Few ps) (good : Good ps) (sr : Sz 99 r) : So a tb H0 σ (tCall (spValue tb) [] E0 ta) (frD (atR r ps)) := fun H Q s q =>
  h H _ s fun vs H1 v x s1 e hv hx => ⟨v, x, ps, r, (app_nil vs).trans e, hv, few, good, hx, sr, s1.tab, fun H2 p a2 _ g => by
    have s2 := On.after s1.well s1.tab a2
    rw [value_is] at g
    exact q _ _ (s1.trans s2) (fr_off s2.well s2.tab ⟨p, rfl, g⟩)⟩
theorem so_valueK {ta : TA} {ps : List Rat} {r : Rat} (h : SoPF a tb H0 σ ta List.reverse ps r) (few : Few ps) (good : Good ps) (sr : Sz 99 r) : So a tb H0 σ (tKw (spValue tb) List.reverse E0 ta) (frD (atR r ps)) := fun H Q s q =>
  h H _ s fun vs H1 v x s1 e hv hx => ⟨v, x, ps, r, e, hv, few, good, hx, sr, s1.tab, fun H2 p a2 _ g => by
    have s2 := On.after s1.well s1.tab a2
    rw [value_is] at g
    exact q _ _ (s1.trans s2) (fr_off s2.well s2.tab ⟨p, rfl, g⟩)⟩
theorem so_at {ta : TA} {ps : List Rat} {r : Rat} (h : SoPF a tb H0 σ ta id ps r) (few : Few ps) (sr : Sz 100 r) : So a tb H0 σ (tCall spAt [] E0 ta) (frD (atR r ps)) := fun H Q s q =>
  h H _ s fun vs H1 v x s1 e hv hx => ⟨v, x, ps, r, (app_nil vs).trans e, hv, few, hx, sr, fun H2 u s2 g => q _ _ (s1.trans (.same s1.well s1.tab s2)) (fr_off (well_same s1.well s2) (tab_same s1.tab s2) g)⟩
theorem so_by {ta : TA} {ps : List Rat} {r : Rat} (h : SoPF a tb H0 σ ta id ps r) (few : Few ps) (good : Good ps) (sr : Sz 100 r) (r0 : r.num ≠ 0) : So a tb H0 σ (tCall spBy [] E0 ta) (polyOf (ps.map (· * r))) := fun H Q s q =>
  h H _ s fun vs H1 v x s1 e hv hx => ⟨v, x, ps, r, (app_nil vs).trans e, hv, few, hx, sr, map_good good r0, fun H2 u s2 g => q _ _ (s1.trans (.same s1.well s1.tab s2)) (poly_off (well_same s1.well s2) (tab_same s1.tab s2) g)⟩
theorem so_prod {ta : TA} {ps qs : List Rat} (h : SoPP a tb H0 σ ta id ps qs) (fp : Few ps) (gp : Good ps) (fq : Few qs) (gq : Good qs) : So a tb H0 σ (tCall (spProduct tb) [] E0 ta) (polyOf (convR ps qs)) := fun H Q s q =>
  h H _ s fun vs H1 v x s1 e hv hx => ⟨v, x, ps, qs, (app_nil vs).trans e, hv, fp, gp, hx, fq, gq, s1.tab, fun H2 p a2 _ g => by
    have s2 := On.after s1.well s1.tab a2
    rw [prod_is] at g
    exact q _ _ (s1.trans s2) (poly_off s2.well s2.tab g)⟩
theorem so_prodK {ta : TA} {ps qs : List Rat} (h : SoPP a tb H0 σ ta List.reverse ps qs) (fp : Few ps) (gp : Good ps) (fq : Few qs) (gq : Good qs) : So a tb H0 σ (tKw (spProduct tb) List.reverse E0 ta) (polyOf (convR ps qs)) := fun H Q s q =>
  h H _ s fun vs H1 v x s1 e hv hx => ⟨v, x, ps, qs, e, hv, fp, gp, hx, fq, gq, s1.tab, fun H2 p a2 _ g => by
    have s2 := On.after s1.well s1.tab a2
    rw [prod_is] at g
    exact q _ _ (s1.trans s2) (poly_off s2.well s2.tab g)⟩
theorem so_times {ta : TA} {ps qs : List Rat} (h : SoPP a tb H0 σ ta id ps qs) (fp : Few ps) (gp : Good ps) (fq : Few qs) (gq : Good qs) : So a tb H0 σ (tCall spLTimes [] E0 ta) (polyOf (convR ps qs)) := fun H Q s q =>
  h H _ s fun vs H1 v x s1 e hv hx => ⟨v, x, ps, qs, (app_nil vs).trans e, hv, fp, hx, fq, (good_last gp).2, (good_last gq).2, conv_good gp gq, fun H2 p s2 g => q _ _ (s1.trans (.same s1.well s1.tab s2)) (poly_off (well_same s1.well s2) (tab_same s1.tab s2) g)⟩
end
/-! ### data without dicts -/
mutual
theorem dp_of {K : PySem.W.Frag} {N : Addr → Prop} {H : Hp} : ∀ {d : PyData} {v : V}, Dq N H v d → d.hasDict = false → Dp K H v d
  | .none, _, h, _ => by cases h; exact .non
  | .bool b, _, h, _ => by cases h; exact .bl b
  | .int i, _, h, _ => by cases h; exact .int i
  | .str x, _, h, _ => by cases h; exact .str x
  | .list ds, _, h, z => by
    cases h with
    | lst n e m a => exact .lst (.of e) (dps_of a z)
  | .tuple ds, _, h, z => by
    cases h with
    | tup n e a => exact .tup (.of e) (dps_of a z)
  | .dict kvs, _, h, z => by cases z
theorem dps_of {K : PySem.W.Frag} {N : Addr → Prop} {H : Hp} : ∀ {ds : List PyData} {vs : List V}, DqAll N H vs ds → PyData.hasDictAll ds = false → DpAll K H vs ds
  | [], _, h, _ => by cases h; exact .nil
  | d :: ds, _, h, z => by
    cases h with
    | cons a b =>
      have z2 : (PyData.hasDict d || PyData.hasDictAll ds) = false := z
      obtain ⟨z3, z4⟩ := Bool.or_eq_false_iff.mp z2
      exact .cons (dp_of a z3) (dps_of b z4)
end
end K02
set_option Elab.async false
set_option linter.all false
set_option maxRecDepth 100000
set_option maxHeartbeats 4000000
set_option exponentiation.threshold 20000
namespace K02
open PySem PySem.Spec PyProof.Rows L2 RatFr DataR Gx OpsR
theorem rd_ss {te : TE} {i : Nat} {u : TS} {D : Ends} {σ : L2.St} {H : Hp} (h : te σ H fun x H1 => u D (σ.set i (some x)) H1) : tSeq (tAsg te (gName i)) u D σ H := h
theorem rd_gn {i : Nat} {v : V} {σ : L2.St} {H : Hp} {Q : L2.St → Hp → Prop} (h : Q (σ.set i (some v)) H) : gName i v σ H Q := h
theorem rd_if {c : TT} {t u : TS} {D : Ends} {σ : L2.St} {H : Hp} (h : c σ H fun b H1 => if b = true then t D σ H1 else u D σ H1) : tIfS c t u D σ H := h
theorem rd_next {D : Ends} {σ : L2.St} {H : Hp} (q : D.nx σ H) : tNext D σ H := q
section
variable {a tb : Addr} {H0 : Hp} {σ : L2.St} {K : PySem.W.Frag}
theorem On.put {H H' : Hp} {D : Addr} {o : HO} (x : On a tb H H') (n : H D = none) (f : Off a tb D) : On a tb H (upd H' D o) := by
  obtain ⟨k, ⟨g, b, c, e, ok⟩, ⟨ps, e2, ok2⟩⟩ := x
  exact ⟨fun y u n1 n2 e => by rw [upd_ne (fun z => by rw [z, n] at e; cases e)]; exact k y u n1 n2 e, ⟨g, b, c, by rw [upd_ne (Ne.symm f.1)]; exact e, ok⟩, ps, by rw [upd_ne (Ne.symm f.2)]; exact e2, ok2⟩
/-- what is told of a reading whose value is data -/
def Sd (K : PySem.W.Frag) (a tb : Addr) (H : Hp) (σ : L2.St) (te : TE) (d : PyData) : Prop := ∀ Q : VK, (∀ v H', On a tb H H' → Dp K H' v d → Q v H') → te σ H Q
theorem dp_bools {H : Hp} : ∀ bs : List Bool, DpAll K H (bs.map V.bl) (bs.map PyData.bool)
  | [] => .nil
  | b :: bs => .cons (.bl b) (dp_bools bs)
/-- [f(each) for each in some], f telling whether a thing is a polynomial -/
theorem comp_bools {sp : Sp} (hsp : ∀ (H : Hp) (v : V) (d : PyData) (Q : VK), WellAt H a → GxR.TabG H tb → Dq (Off a tb) H v d → Shrt d → (∀ H2, On a tb H H2 → Q (.bl (polyD d)) H2) → sp [v] H Q E0)
    {y0 y1 y2 y3 y4 y5 y6 y7 y9 y10 : Option V} {l : Addr} {vs : List V} {ds : List PyData} {H : Hp} (W : WellAt H a) (TT : GxR.TabG H tb) (gl : H l = some (.lst vs)) (ol : Off a tb l) (all : DqAll (Off a tb) H vs ds) (sh : ∀ d ∈ ds, Shrt d) (small : ds.length ≤ 1000) :
    Sd K a tb H [y0, y1, y2, y3, y4, y5, y6, y7, some (.ref l), y9, y10] (tLc (iList K (tVar 8)) (gName 10) tYes (tCall sp [] E0 (tCons (tVar 10) tNil)) [10]) (.list ((ds.map polyD).map PyData.bool)) := fun Q q => by
  have len := all.length
  have sz : sizeLine = 16777216 := sizeLine_eq
  refine ⟨_, rfl, l, rfl, ⟨_, .of gl⟩, fun D hD => lc_list (K := K) (a := l) (xs := vs) (fun i H' => On a tb H H' ∧ H' D = some (.lst (((ds.take i).map polyD).map V.bl)))
    ⟨(On.refl W TT).put hD (off_of_none W TT hD), upd_same⟩ (fun i H' _ p => .of (p.1.keep l _ ol.1 ol.2 gl)) ?_ ?_⟩
  · rintro i v H' hi ⟨on, hA⟩
    have lt := (List.getElem?_eq_some_iff.mp hi).1
    obtain ⟨d, hd⟩ : ∃ d, ds[i]? = some d := ⟨ds[i]'(by omega), List.getElem?_eq_getElem (by omega)⟩
    obtain ⟨v2, hv2, dq⟩ := dq_at all hd
    rw [hi] at hv2
    cases hv2
    refine ⟨rfl, rd_yes ?_⟩
    rw [if_pos rfl]
    refine ⟨_, rfl, ?_⟩
    refine hsp H' v d _ on.well on.tab (on.dq dq) (sh d (List.mem_of_getElem? hd)) fun H2 on2 => ?_
    have of := off_of_none W TT hD
    refine ⟨_, on2.keep D _ of.1 of.2 hA, ?_, (on.trans on2).put hD of, ?_⟩
    · rw [List.length_map, List.length_map, List.length_take]
      omega
    · rw [upd_same, List.take_add_one, hd, List.map_append, List.map_append]
      rfl
  · rintro H' ⟨on, hA⟩
    rw [len, List.take_length] at hA
    exact q (.ref D) H' on (.lst (.of hA) (dp_bools _))
theorem sh_bools (bs : List Bool) (h : bs.length ≤ 10) : Sh 73 20 (.list (bs.map PyData.bool)) := by
  refine sh_list (n := 5) (k := 19) (m := 10) (fun d hd => ?_) (by rw [List.length_map]; exact h)
  obtain ⟨b, _, rfl⟩ := List.mem_map.mp hd
  exact sh_bool b
/-- repr(x) != repr(y), the same data twice -/
theorem rd_ne {t1 t2 : TE} {n : Nat} {d : PyData} {H : Hp} {Qb : Bool → Hp → Prop} (sh : Sh n 20 d) (hn : n ≤ 16777216) (x : Sd K a tb H σ t1 d) (y : ∀ H1, On a tb H H1 → Sd K a tb H1 σ t2 d) (q : ∀ H', On a tb H H' → Qb false H') :
    tTest (tOp rNe (tCB (rReprP K) (tCons t1 tNil)) (tCB (rReprP K) (tCons t2 tNil))) σ H Qb := by
  have le : d.shown.length ≤ sizeLine := by rw [sizeLine_eq]; exact Nat.le_trans sh.ln hn
  refine x _ fun v H1 s1 d1 => ⟨v, d, rfl, d1, sh.ok, sh.nd, sh.dp, le, ?_⟩
  refine y H1 s1 _ fun u H2 s2 d2 => ⟨u, d, rfl, d2, sh.ok, sh.nd, sh.dp, le, ?_⟩
  refine ⟨rfl, _, rfl, ?_⟩
  rw [decide_eq_true (rfl : V.str d.shown = V.str d.shown)]
  exact q H2 (s1.trans s2)
theorem sd_so {te : TE} {d : PyData} {H : Hp} (on : On a tb H0 H) (h : So a tb H0 σ te d) (nd : d.hasDict = false) : Sd K a tb H σ te d := fun Q q => h H Q on fun v H' s dq => q v H' s (dp_of dq nd)
theorem so_list {ta : TA} {ds : List PyData} (x : SoA a tb H0 σ ta ds) (hz : ds.length ≤ 1000 := by decide) (nd : PyData.hasDictAll ds = false) {H : Hp} (on : On a tb H0 H) : Sd K a tb H σ (tLst ta) (.list ds) := fun Q q =>
  so_lst x hz on fun l vs H' s _ g all => q _ _ s (.lst (.of g) (dps_of all nd))
end
end K02
set_option Elab.async false
set_option linter.all false
set_option maxRecDepth 100000
set_option maxHeartbeats 4000000
set_option exponentiation.threshold 20000
namespace K02
open PySem PySem.Spec PyProof.Rows L2 RatFr DataR Gx OpsR
/-! ### products do not mind the order -/
def sumN (f : Nat → Rat) : Nat → Rat
  | 0 => 0
  | n + 1 => sumN f n + f n
theorem sumN_congr {f g : Nat → Rat} : ∀ {n : Nat}, (∀ t, t < n → f t = g t) → sumN f n = sumN g n
  | 0, _ => rfl
  | n + 1, h => by
    show sumN f n + f n = sumN g n + g n
    rw [sumN_congr fun t ht => h t (Nat.lt_succ_of_lt ht), h n (Nat.lt_succ_self n)]
theorem sumN_head (f : Nat → Rat) : ∀ n, sumN f (n + 1) = f 0 + sumN (fun t => f (t + 1)) n
  | 0 => by
    show (0 : Rat) + f 0 = f 0 + 0
    rw [Rat.add_comm]
  | n + 1 => by
    show sumN f (n + 1) + f (n + 1) = f 0 + (sumN (fun t => f (t + 1)) n + f (n + 1))
    rw [sumN_head f n, Rat.add_assoc]
theorem sumN_rev : ∀ (n : Nat) (f : Nat → Rat), sumN f n = sumN (fun t => f (n - 1 - t)) n
  | 0, _ => rfl
  | n + 1, f => by
    rw [sumN_head fun t => f (n + 1 - 1 - t)]
    show sumN f n + f n = f n + _
    rw [sumN_rev n f, Rat.add_comm]
    congr 1
    exact sumN_congr fun t ht => by
      show f (n - 1 - t) = f (n + 1 - 1 - (t + 1))
      congr 1
      omega
theorem sumN_ext {f : Nat → Rat} {n : Nat} : ∀ m, n ≤ m → (∀ t, n ≤ t → f t = 0) → sumN f m = sumN f n
  | 0, h, _ => by
    have : n = 0 := by omega
    rw [this]
  | m + 1, h, z => by
    by_cases e : n = m + 1
    · rw [e]
    · show sumN f m + f m = _
      rw [sumN_ext m (by omega) z, z m (by omega), Rat.add_zero]
theorem getD_out {qs : List Rat} {k : Nat} (h : qs.length ≤ k) : qs.getD k 0 = 0 := by
  rw [List.getD_eq_getElem?_getD, List.getElem?_eq_none h]
  rfl
theorem outs_get (ps qs : List Rat) {k : Nat} (hk : k < ps.length + qs.length - 1) : ∀ i, (outsR ps qs i).getD k 0 = sumN (fun t => if t ≤ k then ps.getD t 0 * qs.getD (k - t) 0 else 0) i
  | 0 => by
    show (List.replicate _ (0 : Rat)).getD k 0 = 0
    rw [List.getD_eq_getElem?_getD, List.getElem?_replicate]
    split <;> rfl
  | i + 1 => by
    show (innR (outsR ps qs i) i (ps.getD i 0) qs qs.length).getD k 0 = sumN _ i + (if i ≤ k then ps.getD i 0 * qs.getD (k - i) 0 else 0)
    rw [inn_get, outs_get ps qs hk i, outsR_len]
    by_cases h : i ≤ k
    · rw [if_pos (c := i ≤ k) h]
      by_cases g : k < i + qs.length
      · rw [if_pos ⟨h, g, hk⟩]
      · rw [if_neg (fun z => g z.2.1), getD_out (qs := qs) (by omega), Rat.mul_zero, Rat.add_zero]
    · rw [if_neg (c := i ≤ k) h, if_neg (fun z => h z.1), Rat.add_zero]
theorem conv_get (ps qs : List Rat) {k : Nat} (hk : k < ps.length + qs.length - 1) : (convR ps qs).getD k 0 = sumN (fun t => ps.getD t 0 * qs.getD (k - t) 0) (k + 1) := by
  unfold convR
  rw [outs_get ps qs hk]
  have a := sumN_ext (f := fun t => if t ≤ k then ps.getD t 0 * qs.getD (k - t) 0 else 0) (n := ps.length) (max ps.length (k + 1)) (by omega) fun t ht => by
    rw [getD_out ht, Rat.zero_mul]
    split <;> rfl
  have b := sumN_ext (f := fun t => if t ≤ k then ps.getD t 0 * qs.getD (k - t) 0 else 0) (n := k + 1) (max ps.length (k + 1)) (by omega) fun t ht => if_neg (by omega)
  rw [← a, b]
  exact sumN_congr fun t ht => if_pos (by omega)
theorem conv_comm (ps qs : List Rat) : convR ps qs = convR qs ps := by
  have l1 := conv_len2 ps qs
  have l2 := conv_len2 qs ps
  apply List.ext_getElem?
  intro k
  by_cases h : k < ps.length + qs.length - 1
  · have e : (convR ps qs).getD k 0 = (convR qs ps).getD k 0 := by
      rw [conv_get ps qs h, conv_get qs ps (by omega), sumN_rev]
      exact sumN_congr fun t ht => by
        show ps.getD (k + 1 - 1 - t) 0 * qs.getD (k - (k + 1 - 1 - t)) 0 = _
        rw [Rat.mul_comm, show k - (k + 1 - 1 - t) = t by omega, show k + 1 - 1 - t = k - t by omega]
    rw [List.getD_eq_getElem?_getD, List.getD_eq_getElem?_getD, List.getElem?_eq_getElem (by omega : k < (convR ps qs).length), List.getElem?_eq_getElem (by omega : k < (convR qs ps).length)] at e
    rw [List.getElem?_eq_getElem (by omega : k < (convR ps qs).length), List.getElem?_eq_getElem (by omega : k < (convR qs ps).length)]
    exact congrArg some e
  · rw [List.getElem?_eq_none (by omega), List.getElem?_eq_none (by omega)]
/-! ### more readings -/
section
variable {a tb : Addr} {H0 : Hp} {σ : L2.St} {K : PySem.W.Frag}
/-- t[-1] -/
theorem sw_last {ta : TE} {ds : List PyData} {d : PyData} (x : Sw a tb H0 σ ta (.tuple ds)) (hl : ds.getLast? = some d) : Sw a tb H0 σ (tOp (rIxT K) ta (tUn (rU fun i => .int (-i)) (tC (.int 1)))) d := fun H Q s q =>
  x H _ s fun v1 H1 s1 q1 => by
    cases q1 with
    | @tup b xs _ n1 e1 a1 =>
      have l := a1.length
      rw [List.getLast?_eq_getElem?] at hl
      have n0 := (List.getElem?_eq_some_iff.mp hl).1
      obtain ⟨v, hv, dv⟩ := dq_at a1 hl
      have at1 : atI xs (-1) = some v := by
        have s : xs = xs.take (ds.length - 1) ++ [v] := by
          have dr : xs.drop (ds.length - 1) = [v] := by
            apply List.ext_getElem?
            intro k
            rw [List.getElem?_drop]
            cases k with
            | zero => exact hv
            | succ k => rw [List.getElem?_eq_none (by omega)]; rfl
          rw [← dr, List.take_append_drop]
        rw [s]
        exact atI_last _ _
      exact ⟨1, rfl, b, xs, -1, v, rfl, rfl, .of e1, at1, q _ _ s1 dv⟩
theorem few_one {q : Rat} {ps : List Rat} (f : Few ps) (h : q ∈ ps) : Few [q] := ⟨by show 1 ≤ 7; omega, fun r hr => by rw [List.mem_singleton.mp hr]; exact f.den q h, fun r hr => by rw [List.mem_singleton.mp hr]; exact f.num q h⟩
theorem good_one {q : Rat} (h : q.num ≠ 0) : Good [q] := ⟨by simp, fun r hr => by cases hr; exact h⟩
theorem few_half : Few [halfQ] := ⟨by decide, fun r hr => by rw [List.mem_singleton.mp hr]; decide, fun r hr => by rw [List.mem_singleton.mp hr]; decide⟩
theorem sz_mem {ps : List Rat} (f : Few ps) {q : Rat} (h : q ∈ ps) : Sz 1415 q := (Sz.mono (n := 100) ⟨f.num q h, Nat.lt_of_le_of_lt (f.den q h) (by decide)⟩ (by decide))
theorem conv_sh {ps qs : List Rat} (fp : Few ps) (fq : Few qs) : Sh 50066 19 (polyOf (convR ps qs)) := by
  have s := sh_poly (qs := convR ps qs) (fun q hq => (conv_sz fp fq q hq).mono (by decide)) (by rw [conv_len2]; have := fp.len; have := fq.len; omega)
  exact ⟨s.ok, s.nd, Nat.le_trans s.dp (by decide), s.ln⟩
end
end K02
set_option Elab.async false
set_option linter.all false
set_option maxRecDepth 100000
set_option maxHeartbeats 4000000
set_option exponentiation.threshold 20000
namespace K02
open PySem PySem.Spec PyProof.Rows L2 RatFr DataR Gx OpsR
abbrev sLaw : Stmt := top 43
/-- the law of a script: what it tells is True -/
def spLaw (K : PySem.W.Frag) (tb : Addr) : Sp := fun vs H Q _ => ∃ (a : Addr) (ns : List Int), vs = [.ref a] ∧ SqL K H a (ns.map V.int) ∧ GxR.TabG H tb ∧ ∀ H', Q (.bl true) H'
section
variable {P : Program} {w : World} {K : PySem.W.Frag} {mg : Str → Option Value} {base : Heap} {fd : FuncData} {tb : Addr}
abbrev NL : List Str := ["script", "turn", "well", "p", "q", "x", "thing", "odd", "some", "seen", "each"]
theorem scLaw : FnScope NL ["script"] (defScope sLaw) := ⟨rfl, rfl, rfl, by decide +kernel, rfl, by decide +kernel, by decide +kernel⟩
theorem two_of (us : List Value) (h : us.reverse.length = 2) : ∃ x y, us = [x, y] := by
  rw [List.length_reverse] at h
  match us, h with
  | [x, y], _ => exact ⟨x, y, rfl⟩
theorem After.seq {H H1 : Hp} {b : Addr} {xs : List V} (x : After tb H H1) (t : GxR.TabG H tb) (h : SqL K H b xs) : SqL K H1 b xs := by
  obtain ⟨ps, e2, _⟩ := t
  have ne : ∀ {o : HO}, H b = some o → (∀ q, o ≠ .tbl q) → b ≠ tb := fun e n z => by
    rw [z, e2] at e
    exact n _ (Option.some.inj e).symm
  rcases h with (h | ⟨o, h⟩) | h
  · exact .inl (.inl (x.keep b _ (ne h fun q z => by cases z) h))
  · exact .inl (.inr ⟨o, x.keep b _ (ne h fun q z => by cases z) h⟩)
  · exact .inr h
structure Defs (K : PySem.W.Frag) where
  (d1 d2 d3 d4 d5 d6 d7 d8 d9 d10 d11 d12 d13 d14 d15 d16 d17 d18 d19 d20 d21 d22 d23 d24 d25 d26 d27 d28 d29 d30 d31 d32 d33 d34 : FuncData)
  well : FnD K "_law_well" sWell d1
  drop : FnD K "_law_drop" sDrop d2
  pick : FnD K "_law_pick" sPick d3
  gcd : FnD K "_law_gcd" sGcd d4
  frac : FnD K "_law_frac" sFrac d5
  add : FnD K "_law_add" sAdd d6
  mul : FnD K "_law_mul" sMul d7
  cut : FnD K "_law_cut" sCut d8
  ltimes : FnD K "_law_times" sLTimes d9
  by_ : FnD K "_law_by" sBy d10
  at_ : FnD K "_law_at" sAt d11
  small : FnD K "_law_small" sSmall d12
  whole : FnD K "_law_whole" sWhole d13
  isFrac : FnD K "_law_is_frac" sIsFrac d14
  isPoly : FnD K "_law_is_poly" sIsPoly d15
  odd : FnD K "_law_odd" sOdd d16
  noFrac : FnD K "_law_no_frac" sNoFrac d17
  put : FnD K "_law_put" sPut d18
  polyL : FnD K "_law_poly" sPoly d19
  point : FnD K "_law_point" sPoint d20
  bent : FnD K "_law_bent" sBent d21
  pWhole : FnD K "is_whole" sPWhole d22
  pFrac : FnD K "is_fraction" sPFrac d23
  chkF : FnD K "check_fraction" sChkF d24
  lowest : FnD K "lowest" sLowest d25
  times : FnD K "times" sTimes d26
  powers : FnD K "powers" sPowers d27
  spread : FnD K "spread" sSpread d28
  pPoly : FnD K "is_polynomial" sPPoly d29
  chkP : FnD K "check_polynomial" sChkP d30
  cleared : FnD K "cleared" sCleared d31
  divided : FnD K "divided" sDivided d32
  value : FnD K "value_at" sValue d33
  product : FnD K "product" sProduct d34
theorem ok_law (D : Defs K) (F : FnD K "law" sLaw fd) (T : Names K mg) (GP : FnOk P w K mg base CX0 2 (He.ga K "is_polynomial") D.d29 ["value"] (spPoly tb)) (mG : mg "gcd" = some (.builtin "math.gcd")) (mL : mg "lcm" = some (.builtin "math.lcm")) :
    LawOk P w K mg base (He.ga K "law") fd "script" (spLaw K tb) := by
  refine F.okL (k := 4) scLaw ⟨rfl, by decide, by decide⟩ (fun cdv s H a hr h => ?_)
  have hu : (callerA.deeper (envOfC "law" (defScope sLaw) s.heap.objs.size (He.ga K "law") cdv)).units + 64 < cLine := hr.units
  have GW : FnOk P w K mg base CX0 1 (He.ga K "_law_well") D.d1 ["script", "turn", "salt"] (spWell K) := ok_well D.well T
  have GL : FnOk P w K mg base CX0 4 (He.ga K "_law_poly") D.d19 ["well", "most"] spPolyL := ok_polyL D.polyL T D.small D.mul D.pick D.drop D.frac D.gcd
  have GX : FnOk P w K mg base CX0 4 (He.ga K "_law_point") D.d20 ["well"] spPoint := ok_point D.point T D.small D.mul D.pick D.drop D.frac D.gcd
  have GB : FnOk P w K mg base CX0 4 (He.ga K "_law_bent") D.d21 ["well", "p"] (spBent tb) := ok_bent D.bent T D.drop D.pick D.odd D.noFrac D.put
  have GO : FnOk P w K mg base CX0 3 (He.ga K "_law_odd") D.d16 ["well"] spOdd := ok_odd D.odd T D.drop D.pick
  have GI : FnOk P w K mg base CX0 3 (He.ga K "_law_is_poly") D.d15 ["thing"] (spIsS polyD) := ok_isPoly D.isPoly T D.isFrac D.whole D.gcd
  have GV : FnOk P w K mg base CX0 4 (He.ga K "value_at") D.d33 ["polynomial", "fraction"] (spValue tb) := ok_value D.value T D.chkP D.chkF D.cleared D.spread D.lowest D.pPoly D.pFrac D.pWhole D.powers GP mG mL
  have GR : FnOk P w K mg base CX0 4 (He.ga K "product") D.d34 ["polynomial", "other"] (spProduct tb) := ok_product D.product T D.chkP D.cleared D.times D.lowest D.divided D.pPoly GP mG mL
  have GA : FnOk P w K mg base CX0 4 (He.ga K "_law_at") D.d11 ["p", "x"] spAt := ok_at D.at_ T D.add D.mul D.frac D.gcd
  have GT : FnOk P w K mg base CX0 4 (He.ga K "_law_times") D.d9 ["p", "q"] spLTimes := ok_ltimes D.ltimes T D.cut D.add D.mul D.frac D.gcd
  have GY : FnOk P w K mg base CX0 4 (He.ga K "_law_by") D.d10 ["p", "x"] spBy := ok_by D.by_ T D.cut D.mul D.frac D.gcd
  have bW : Binds K D.d1 ["script", "turn", "salt"] [] := D.well.bindsN fun _ _ _ _ _ _ us hl => match us, hl with | [_, _, _], _ => rfl
  have bL : Binds K D.d19 ["well", "most"] [] := D.polyL.bindsN fun _ _ _ _ _ _ us hl => match us, hl with | [_, _], _ => rfl
  have bX : Binds K D.d20 ["well"] [] := D.point.bindsN fun _ _ _ _ _ _ us hl => match us, hl with | [_], _ => rfl
  have bB : Binds K D.d21 ["well", "p"] [] := D.bent.bindsN fun _ _ _ _ _ _ us hl => match us, hl with | [_, _], _ => rfl
  have bO : Binds K D.d16 ["well"] [] := D.odd.bindsN fun _ _ _ _ _ _ us hl => match us, hl with | [_], _ => rfl
  have bI : Binds K D.d15 ["thing"] [] := D.isPoly.bindsN fun _ _ _ _ _ _ us hl => match us, hl with | [_], _ => rfl
  have bP : Binds K D.d29 ["value"] [] := D.pPoly.bindsN fun _ _ _ _ _ _ us hl => match us, hl with | [_], _ => rfl
  have bV : Binds K D.d33 ["polynomial", "fraction"] [] := D.value.bindsN fun _ _ _ _ _ _ us hl => match us, hl with | [_, _], _ => rfl
  have bR : Binds K D.d34 ["polynomial", "other"] [] := D.product.bindsN fun _ _ _ _ _ _ us hl => match us, hl with | [_, _], _ => rfl
  have bA : Binds K D.d11 ["p", "x"] [] := D.at_.bindsN fun _ _ _ _ _ _ us hl => match us, hl with | [_, _], _ => rfl
  have bT : Binds K D.d9 ["p", "q"] [] := D.ltimes.bindsN fun _ _ _ _ _ _ us hl => match us, hl with | [_, _], _ => rfl
  have bY : Binds K D.d10 ["p", "x"] [] := D.by_.bindsN fun _ _ _ _ _ _ us hl => match us, hl with | [_, _], _ => rfl
  have kP : KwB D.d29 ["value"] ["value"] id id := D.pPoly.kw (fun _ _ _ _ _ _ us hl => match us, hl with | [_], _ => rfl) id
  have kV : KwB D.d33 ["polynomial", "fraction"] ["fraction", "polynomial"] List.reverse List.reverse := D.value.kw (fun _ _ _ _ _ _ us hl => by obtain ⟨x, y, rfl⟩ := two_of us hl; rfl) vals_rev
  have kR : KwB D.d34 ["polynomial", "other"] ["other", "polynomial"] List.reverse List.reverse := D.product.kw (fun _ _ _ _ _ _ us hl => by obtain ⟨x, y, rfl⟩ := two_of us hl; rfl) vals_rev
  have gW := T.gl "_law_well" (by decide +kernel)
  have gL := T.gl "_law_poly" (by decide +kernel)
  have gX := T.gl "_law_point" (by decide +kernel)
  have gB := T.gl "_law_bent" (by decide +kernel)
  have gO := T.gl "_law_odd" (by decide +kernel)
  have gI := T.gl "_law_is_poly" (by decide +kernel)
  have gP := T.gl "is_polynomial" (by decide +kernel)
  have gV := T.gl "value_at" (by decide +kernel)
  have gR := T.gl "product" (by decide +kernel)
  have gA := T.gl "_law_at" (by decide +kernel)
  have gT := T.gl "_law_times" (by decide +kernel)
  have gY := T.gl "_law_by" (by decide +kernel)
  have h1 := hr.mono (j := 1) (by decide)
  have h2 := hr.mono (j := 2) (by decide)
  have h3 := hr.mono (j := 3) (by decide)
  have fR := T.fr "repr" (by decide +kernel)
  refine ⟨_, PSs.nox (pss_cons (ps_for PassesOwn.never rfl (pi_range1 rfl (T.fr "range" (by decide +kernel)) (pa_cons (pe_callB (call_max2 rfl) (by rfl) (T.fr "max" (by decide +kernel)) (by decide +kernel) (pa_cons pe_int (pa_cons (pe_callB (call_min2 rfl) (by rfl) (T.fr "min" (by decide +kernel)) (by decide +kernel) (pa_cons (pe_callB call_len_seq (by rfl) (T.fr "len" (by decide +kernel)) PySem.boot_len (pa_cons (pv 0) pa_nil)) (pa_cons pe_int pa_nil))) pa_nil))) pa_nil)) (pg_name (i := 1) scLaw.nd rfl (Or.inl rfl))
    (pss_cons (ps_set (i := 2) scLaw.nd rfl (Or.inl rfl) (pe_call GW h1 rfl gW D.well.kp bW .nil pass0 (pa_cons (pv 0) (pa_cons (pv 1) (pa_cons pe_int pa_nil)))))
    (pss_cons (ps_par (i := 3) (j := 4) (by rfl) scLaw.nd rfl rfl (by decide) rfl rfl (pa_cons (pe_call GL hr rfl gL D.polyL.kp bL .nil pass0 (pa_cons (pv 2) (pa_cons pe_int pa_nil))) (pa_cons (pe_call GL hr rfl gL D.polyL.kp bL .nil pass0 (pa_cons (pv 2) (pa_cons pe_int pa_nil))) pa_nil)) (by rfl))
    (pss_cons (ps_par3 (i := 5) (j := 6) (l := 7) (by rfl) scLaw.nd rfl rfl rfl (by decide) (by decide) (by decide) rfl rfl rfl (pa_cons (pe_call GX hr rfl gX D.point.kp bX .nil pass0 (pa_cons (pv 2) pa_nil)) (pa_cons (pe_call GB hr rfl gB D.bent.kp bB .nil pass0 (pa_cons (pv 2) (pa_cons (pv 3) pa_nil))) (pa_cons (pe_call GO h3 rfl gO D.odd.kp bO .nil pass0 (pa_cons (pv 2) pa_nil)) pa_nil))) (by rfl))
    (pss_cons (ps_set (i := 8) scLaw.nd rfl (Or.inl rfl) (pe_lst (pa_cons (pv 6) (pa_cons (pv 7) (pa_cons (pv 3) (pa_cons (pe_callTy call_listT (by rfl) (T.fr "list" (by decide +kernel)) (by decide +kernel) (pa_cons (pv 3) pa_nil))
        (pa_cons (pe_op op_catA (pv 3) (pe_tup (pa_cons (pe_tup (pa_cons pe_int (pa_cons pe_int pa_nil))) pa_nil))) (pa_cons (pe_op op_catA (pe_tup (pa_cons (pe_tup (pa_cons pe_int (pa_cons pe_int pa_nil))) pa_nil)) (pv 4)) (pa_cons (pe_op op_catA (pv 3) (pe_tup (pa_cons pe_int pa_nil)))
        (pa_cons (pe_ix ix_tup (pv 3) pe_int (fun _ _ => rfl)) (pa_cons (pe_tup (pa_cons (pv 4) pa_nil)) (pa_cons (pe_tup pa_nil) pa_nil))))))))))))
    (pss_cons (ps_if (pt_cmpR op_ne (pe_callB (call_reprP rfl hu) (by rfl) fR (by decide +kernel) (pa_cons (pe_lc (own := [("each", 10)]) (g := gName 10) (tt := tYes) (by rfl) scLaw.nd (pi_list (pv 8)) (blkOk_by (own := [("each", 10)]) (N := NL) (sc := defScope sLaw) (by decide +kernel)) (fun _ _ _ _ _ => pg_name (i := 10) scLaw.nd rfl (Or.inl rfl)) (fun _ _ _ _ _ => pts_nil)
          (fun _ _ _ _ _ => pe_call GP h2 rfl gP D.pPoly.kp bP .nil pass0 (pa_cons (pv 10) pa_nil))) pa_nil))
        (pe_callB (call_reprP rfl hu) (by rfl) fR (by decide +kernel) (pa_cons (pe_lc (own := [("each", 10)]) (g := gName 10) (tt := tYes) (by rfl) scLaw.nd (pi_list (pv 8)) (blkOk_by (own := [("each", 10)]) (N := NL) (sc := defScope sLaw) (by decide +kernel)) (fun _ _ _ _ _ => pg_name (i := 10) scLaw.nd rfl (Or.inl rfl)) (fun _ _ _ _ _ => pts_nil)
          (fun _ _ _ _ _ => pe_call GI h3 rfl gI D.isPoly.kp bI .nil pass0 (pa_cons (pv 10) pa_nil))) pa_nil)) (nomark _)) (pss_one (ps_ret pe_bl)) pss_nil)
    (pss_cons (ps_if (pt_cmpR op_ne (pe_callB (call_reprP rfl hu) (by rfl) fR (by decide +kernel) (pa_cons (pe_kw GP h2 rfl gP D.pPoly.kp kP pass0 (pk_cons (pv 6) pk_nil)) pa_nil))
        (pe_callB (call_reprP rfl hu) (by rfl) fR (by decide +kernel) (pa_cons (pe_call GI h3 rfl gI D.isPoly.kp bI .nil pass0 (pa_cons (pv 6) pa_nil)) pa_nil)) (nomark _)) (pss_one (ps_ret pe_bl)) pss_nil)
    (pss_cons (ps_set (i := 9) scLaw.nd rfl (Or.inl rfl) (pe_lst (pa_cons (pe_call GV hr rfl gV D.value.kp bV .nil pass0 (pa_cons (pv 3) (pa_cons (pv 5) pa_nil))) (pa_cons (pe_kw GV hr rfl gV D.value.kp kV pass0 (pk_cons (pv 5) (pk_cons (pv 4) pk_nil)))
        (pa_cons (pe_call GV hr rfl gV D.value.kp bV .nil pass0 (pa_cons (pv 4) (pa_cons (pe_tup (pa_cons pe_int (pa_cons pe_int pa_nil))) pa_nil))) (pa_cons (pe_call GV hr rfl gV D.value.kp bV .nil pass0 (pa_cons (pe_slice sl_tupA (pv 3) (po_some (pe_un un_neg pe_int)) po_none) (pa_cons (pv 5) pa_nil))) pa_nil))))))
    (pss_cons (ps_if (pt_cmpR op_ne (pe_callB (call_reprP rfl hu) (by rfl) fR (by decide +kernel) (pa_cons (pv 9) pa_nil)) (pe_callB (call_reprP rfl hu) (by rfl) fR (by decide +kernel) (pa_cons (pe_lst (pa_cons (pe_call GA hr rfl gA D.at_.kp bA .nil pass0 (pa_cons (pv 3) (pa_cons (pv 5) pa_nil)))
        (pa_cons (pe_call GA hr rfl gA D.at_.kp bA .nil pass0 (pa_cons (pv 4) (pa_cons (pv 5) pa_nil))) (pa_cons (pe_ix ix_tup (pv 4) pe_int (fun _ _ => rfl)) (pa_cons (pe_ix ix_tup (pv 3) (pe_un un_neg pe_int) (fun _ _ => rfl)) pa_nil))))) pa_nil)) (nomark _)) (pss_one (ps_ret pe_bl)) pss_nil)
    (pss_cons (ps_set (i := 9) scLaw.nd rfl (Or.inl rfl) (pe_lst (pa_cons (pe_call GR hr rfl gR D.product.kp bR .nil pass0 (pa_cons (pv 3) (pa_cons (pv 4) pa_nil))) (pa_cons (pe_kw GR hr rfl gR D.product.kp kR pass0 (pk_cons (pv 3) (pk_cons (pv 4) pk_nil)))
        (pa_cons (pe_call GR hr rfl gR D.product.kp bR .nil pass0 (pa_cons (pv 3) (pa_cons (pv 3) pa_nil))) (pa_cons (pe_call GR hr rfl gR D.product.kp bR .nil pass0 (pa_cons (pe_tup (pa_cons (pe_tup (pa_cons pe_int (pa_cons pe_int pa_nil))) pa_nil)) (pa_cons (pv 4) pa_nil))) pa_nil))))))
    (pss_one (ps_if (pt_cmpR op_ne (pe_callB (call_reprP rfl hu) (by rfl) fR (by decide +kernel) (pa_cons (pv 9) pa_nil)) (pe_callB (call_reprP rfl hu) (by rfl) fR (by decide +kernel) (pa_cons (pe_lst (pa_cons (pe_call GT hr rfl gT D.ltimes.kp bT .nil pass0 (pa_cons (pv 3) (pa_cons (pv 4) pa_nil)))
        (pa_cons (pe_call GT hr rfl gT D.ltimes.kp bT .nil pass0 (pa_cons (pv 3) (pa_cons (pv 4) pa_nil))) (pa_cons (pe_call GT hr rfl gT D.ltimes.kp bT .nil pass0 (pa_cons (pv 3) (pa_cons (pv 3) pa_nil))) (pa_cons (pe_call GY hr rfl gY D.by_.kp bY .nil pass0 (pa_cons (pv 4) (pa_cons (pe_tup (pa_cons pe_int (pa_cons pe_int pa_nil))) pa_nil))) pa_nil))))) pa_nil)) (nomark _)) (pss_one (ps_ret pe_bl)) pss_nil))))))))))))
    (pss_one (ps_ret pe_bl))), ?_⟩
  obtain ⟨a', ns, e, hS, ht, fin⟩ := h
  cases e
  have hm : ∀ L : Int, (if (if (3 : Int) < L then 3 else L) > 1 then (if (3 : Int) < L then 3 else L) else 1) ≤ 3 := fun L => by split <;> split <;> omega
  have hm1 : ∀ L : Int, 1 ≤ (if (if (3 : Int) < L then 3 else L) > 1 then (if (3 : Int) < L then 3 else L) else 1) := fun L => by split <;> omega
  refine rd_seq ⟨_, rfl, a, _, rfl, .inl hS, _, _, rfl, _, _, rfl, _, rfl, by have := hm1 ((ns.map V.int).length : Int); omega, by have := hm ((ns.map V.int).length : Int); omega, ?_⟩
  have hj := hm ((ns.map V.int).length : Int)
  generalize (if (if (3 : Int) < ((ns.map V.int).length : Int) then 3 else ((ns.map V.int).length : Int)) > 1 then (if (3 : Int) < ((ns.map V.int).length : Int) then 3 else ((ns.map V.int).length : Int)) else 1) = j at hj ⊢
  refine for_range (lo := 0) (n := j.toNat) (fun i σ H' => After tb H H' ∧ ∃ y1 y2 y3 y4 y5 y6 y7 y8 y9 y10 : Option V, σ = [some (.ref a), y1, y2, y3, y4, y5, y6, y7, y8, y9, y10]) ⟨After.refl ht, _, _, _, _, _, _, _, _, _, _, rfl⟩ ?_ ?_
  · rintro i σ H1 hi ⟨r1, y1, y2, y3, y4, y5, y6, y7, y8, y9, y10, rfl⟩
    have hi3 : i < 3 := by omega
    have hS1 := r1.seq ht hS
    refine rd_gn (rd_ss ⟨_, rfl, _, rfl, a, 0 + (i : Int), 2027, ns, rfl, hS1, by omega, by omega, by decide, by decide, fun wl_ Hw g b c sw nw ew okw => ?_⟩)
    have W0 : WellAt Hw wl_ := ⟨g, b, c, ew, okw⟩
    have T0 : GxR.TabG Hw tb := tab_same r1.tab sw
    dsimp only
    -- two polynomials
    refine rd_seq ⟨_, rfl, wl_, 6, rfl, W0, by decide, by decide, fun H2 up ps k2 hp fp gp => ?_⟩
    have o2 := On.drew W0 T0 k2
    refine ⟨_, rfl, wl_, 5, rfl, o2.well, by decide, by decide, fun H3 uq qs k3 hq fq gq => ?_⟩
    have o3' := On.drew o2.well o2.tab k3
    have o3 := o2.trans o3'
    have hp3 := o3'.poly o2.well o2.tab hp
    refine ⟨_, _, rfl, ?_⟩
    dsimp only
    -- a fraction, a bent one, an odd thing
    refine rd_seq ⟨_, rfl, wl_, rfl, o3.well, fun H4 ux r k4 hx sx => ?_⟩
    have o4' := On.drew o3.well o3.tab k4
    have o4 := o3.trans o4'
    have hp4 := o4'.poly o3.well o3.tab hp3
    have hq4 := o4'.poly o3.well o3.tab hq
    obtain ⟨_, p0⟩ := good_last gp
    refine ⟨_, rfl, _, rfl, wl_, up, ps, rfl, o4.well, o4.tab, hp4, p0, fp.len, fun H5 ub db k5 hb sb => ?_⟩
    have o5 := o4.trans k5
    have hp5 := k5.poly o4.well o4.tab hp4
    have hq5 := k5.poly o4.well o4.tab hq4
    have hx5 := k5.fr o4.well o4.tab hx
    refine ⟨_, rfl, wl_, rfl, o5.well, fun uo H6 dd g6 b6 c6 k6 e6 ok6 ho fo => ?_⟩
    have o6' : On wl_ tb H5 H6 := ⟨fun x o n _ e => k6 x o n e, ⟨g6, b6, c6, e6, ok6⟩, (by
      have ne := well_tab o5.well o5.tab
      obtain ⟨pz, ez, okz⟩ := o5.tab
      exact ⟨pz, k6 tb _ ne ez, okz⟩)⟩
    have ho6 := dq_new o5.well o5.tab ho
    have hb6 := o6'.dq hb
    have hp6 := o6'.poly o5.well o5.tab hp5
    have hq6 := o6'.poly o5.well o5.tab hq5
    have hx6 := o6'.fr o5.well o5.tab hx5
    have o6 := o5.trans o6'
    have W6 := o6.well
    have T6 := o6.tab
    have so6 := shrt_of_fine fo
    clear hp hq hp3 hp4 hq4 hp5 hq5 hx hx5 hb ho o2 o3 o3' o4 o4' o5 o6' k2 k3 k4 k5 k6
    refine ⟨_, _, _, rfl, ?_⟩
    dsimp only
    -- things of all kinds
    refine rd_ss ?_
    have dP := poly_off W6 T6 hp6
    have dQ := poly_off W6 T6 hq6
    obtain ⟨qh, qt, eq⟩ : ∃ qh qt, qs = qh :: qt := by
      cases qs with
      | nil => exact absurd rfl gq.ne
      | cons x y => exact ⟨x, y, rfl⟩
    obtain ⟨ph, pt, ep⟩ : ∃ ph pt, ps = ph :: pt := by
      cases ps with
      | nil => exact absurd rfl gp.ne
      | cons x y => exact ⟨x, y, rfl⟩
    obtain ⟨pl, el⟩ : ∃ pl, ps.getLast? = some pl := by
      cases hz : ps.getLast? with
      | none => exact absurd (List.getLast?_eq_none_iff.mp hz) gp.ne
      | some x => exact ⟨x, rfl⟩
    have pq : (ps.map frD).length ≤ 7 := by rw [List.length_map]; exact fp.len
    have qq : (qs.map frD).length ≤ 7 := by rw [List.length_map]; exact fq.len
    have so1 : ∀ {σ : L2.St}, σ[6]? = some (some ub) → σ[7]? = some (some uo) → σ[3]? = some (some up) → σ[4]? = some (some uq) →
        SoA wl_ tb H6 σ _ [db, dd, polyOf ps, .list (ps.map frD), .tuple (ps.map frD ++ [frD 0]), .tuple (frD 0 :: qs.map frD), .tuple (ps.map frD ++ [.int 1]), frD ph, .tuple [polyOf qs], .tuple []] := fun {σ} k6 k7 k3 k4 =>
      so_cons (so_sw fun H s => sw_var k6 (s.dq hb6)) (so_cons (so_sw fun H s => sw_var k7 (s.dq ho6)) (so_cons (so_sw fun H s => sw_var k3 (s.dq dP)) (so_cons (so_sw fun H s => sw_list (K := K) s.well s.tab (sw_var k3 (s.dq dP)))
        (so_cons (so_sw fun H s => sw_cat (K := K) s.well s.tab (sw_var k3 (s.dq dP)) (sw_sh s.well s.tab (sh_tup (sh_cons (sh_tup (sh_cons sh_int (sh_cons sh_int sh_nil))) sh_nil))) (by show _ + 1 ≤ _; omega))
        (so_cons (so_sw fun H s => sw_cat (K := K) s.well s.tab (sw_sh s.well s.tab (sh_tup (sh_cons (sh_tup (sh_cons sh_int (sh_cons sh_int sh_nil))) sh_nil))) (sw_var k4 (s.dq dQ)) (by show 1 + _ ≤ _; omega))
        (so_cons (so_sw fun H s => sw_cat (K := K) s.well s.tab (sw_var k3 (s.dq dP)) (sw_sh s.well s.tab (sh_tup (sh_cons sh_int sh_nil))) (by show _ + 1 ≤ _; omega))
        (so_cons (so_sw fun H s => sw_first (K := K) (sw_var k3 (by have z := s.dq dP; rw [ep] at z; exact z)))
        (so_cons (so_sw fun H s => sw_tup s.well s.tab (sw_cons (sw_var k4 (s.dq dQ)) sw_nil) (by show 1 ≤ 1000; omega)) (so_cons (so_sw fun H s => sw_tup s.well s.tab sw_nil) so_nil)))))))))
    refine so_lst (so1 rfl rfl rfl rfl) (by show 10 ≤ 1000; omega) (.refl W6 T6) fun l vs H7 o7 ol gl all => ?_
    have sh10 : ∀ d ∈ [db, dd, polyOf ps, .list (ps.map frD), .tuple (ps.map frD ++ [frD 0]), .tuple (frD 0 :: qs.map frD), .tuple (ps.map frD ++ [.int 1]), frD ph, .tuple [polyOf qs], .tuple []], Shrt d := by
      intro d hd
      simp only [List.mem_cons, List.not_mem_nil, or_false] at hd
      rcases hd with z | z | z | z | z | z | z | z | z | z
      · rw [z]; exact sb
      · rw [z]; exact so6
      · rw [z]; exact shrt_tup (by omega)
      · rw [z]; intro ds e; cases e
      · rw [z]; exact shrt_tup (by rw [List.length_append]; show _ + 1 ≤ _; omega)
      · rw [z]; exact shrt_tup (by show _ + 1 ≤ _; omega)
      · rw [z]; exact shrt_tup (by rw [List.length_append]; show _ + 1 ≤ _; omega)
      · rw [z]; exact shrt_tup (by show 2 ≤ _; omega)
      · rw [z]; exact shrt_tup (by show 1 ≤ _; omega)
      · rw [z]; exact shrt_tup (by show 0 ≤ _; omega)
    generalize hds : [db, dd, polyOf ps, .list (ps.map frD), .tuple (ps.map frD ++ [frD 0]), .tuple (frD 0 :: qs.map frD), .tuple (ps.map frD ++ [.int 1]), frD ph, .tuple [polyOf qs], .tuple []] = ds at all sh10
    have l10 : ds.length = 10 := by rw [← hds]; rfl
    -- is_polynomial of all
    have hsp1 : ∀ (H : Hp) (v : V) (d : PyData) (Q : VK), WellAt H wl_ → GxR.TabG H tb → Dq (Off wl_ tb) H v d → Shrt d → (∀ H2, On wl_ tb H H2 → Q (.bl (polyD d)) H2) → spPoly tb [v] H Q E0 := fun H v d Q W T' dq sh q => ⟨v, _, d, rfl, dq, T', fun H2 t2 => q H2 (On.after W T' (.of t2))⟩
    have hsp2 : ∀ (H : Hp) (v : V) (d : PyData) (Q : VK), WellAt H wl_ → GxR.TabG H tb → Dq (Off wl_ tb) H v d → Shrt d → (∀ H2, On wl_ tb H H2 → Q (.bl (polyD d)) H2) → spIsS polyD [v] H Q E0 := fun H v d Q W T' dq sh q => ⟨v, _, d, rfl, dq, sh, fun H2 s2 => q H2 (.same W T' s2)⟩
    refine rd_seq (rd_if (rd_ne (K := K) (a := wl_) (tb := tb) (sh_bools (ds.map polyD) (by rw [List.length_map]; omega)) (by decide) (comp_bools hsp1 o7.well o7.tab gl ol all sh10 (by omega)) (fun H8 o8 => comp_bools hsp2 o8.well o8.tab (o8.keep l _ ol.1 ol.2 gl) ol (o8.dqs all) sh10 (by omega)) fun H9 o9 => iteF (rd_next ?_)))
    have o79 := o7.trans o9
    -- .. of one, by name
    have hb9 := o79.dq hb6
    have sdb : Sh 5 20 (.bool (polyD db)) := sh_bool _
    dsimp only
    refine rd_seq (rd_if (rd_ne (K := K) (a := wl_) (tb := tb) sdb (by decide) (fun Q q => ⟨ub, rfl, ub, _, db, rfl, hb9, o9.tab, fun H2 t2 => q _ _ (On.after o9.well o9.tab (.of t2)) (.bl _)⟩)
      (fun H1 o1 => fun Q q => ⟨ub, rfl, ub, _, db, rfl, o1.dq hb9, sb, fun H2 s2 => q _ _ (.same o1.well o1.tab s2) (.bl _)⟩) fun Ha oa => iteF (rd_next ?_)))
    have o6a := o79.trans oa
    have hpa := o6a.poly W6 T6 hp6
    have hqa := o6a.poly W6 T6 hq6
    have hxa := o6a.fr W6 T6 hx6
    have Wa := oa.well
    have Ta := oa.tab
    have dPa := poly_off Wa Ta hpa
    have dQa := poly_off Wa Ta hqa
    have mpl : pl ∈ ps := List.mem_of_getLast? el
    have gpl : pl.num ≠ 0 := gp.last _ el
    have sx99 : Sz 99 r := sx.mono (by decide)
    have sx100 : Sz 100 r := sx.mono (by decide)
    have mqh : qh ∈ qs := by rw [eq]; exact List.mem_cons_self
    have ezq : atR 0 qs = qh := by
      rw [eq]
      exact at_zero (qs := qh :: qt) (by simp)
    -- values
    have so3 : ∀ {σ : L2.St}, σ[3]? = some (some up) → σ[4]? = some (some uq) → σ[5]? = some (some ux) → SoA wl_ tb Ha σ _ [frD (atR r ps), frD (atR r qs), frD qh, frD pl] := fun {σ} k3 k4 k5 =>
      so_cons (so_value (pf_vars Wa Ta k3 k5 hpa hxa) fp gp sx99) (so_cons (so_valueK (pf_kw Wa Ta k4 k5 hqa hxa) fq gq sx99)
        (so_cons (ezq ▸ so_value (pf_nil Wa Ta k4 hqa) fq gq (sz_nil (by decide))) (so_cons (at_one r pl ▸ so_value (pf_last (K := K) Wa Ta k3 k5 hpa hxa el) (few_one fp mpl) (good_one gpl) sx99) so_nil)))
    dsimp only
    refine rd_ss (so_lst (so3 rfl rfl rfl) (by show 4 ≤ 1000; omega) (.refl Wa Ta) fun l3 vs3 Hb ob ol3 gl3 all3 => ?_)
    have s3 : ∀ d ∈ [frD (atR r ps), frD (atR r qs), frD qh, frD pl], Sh 3849 19 d := by
      intro d hd
      simp only [List.mem_cons, List.not_mem_nil, or_false] at hd
      rcases hd with z | z | z | z
      · rw [z]; exact sh_fr (at_sz fp sx100)
      · rw [z]; exact sh_fr (at_sz fq sx100)
      · rw [z]; exact sh_fr (sz_mem fq mqh)
      · rw [z]; exact sh_fr (sz_mem fp mpl)
    have nd3 := hasDictAll_of s3
    have sh3 : Sh _ 20 (.list [frD (atR r ps), frD (atR r qs), frD qh, frD pl]) := sh_list (m := 4) s3 (by show 4 ≤ 4; omega)
    have so4 : ∀ {σ : L2.St}, σ[3]? = some (some up) → σ[4]? = some (some uq) → σ[5]? = some (some ux) → SoA wl_ tb Ha σ _ [frD (atR r ps), frD (atR r qs), frD qh, frD pl] := fun {σ} k3 k4 k5 =>
      so_cons (so_at (pf_vars Wa Ta k3 k5 hpa hxa) fp sx100) (so_cons (so_at (pf_vars Wa Ta k4 k5 hqa hxa) fq sx100)
        (so_cons (so_sw fun H s => sw_first (K := K) (sw_var k4 (by have z := s.dq dQa; rw [eq] at z; exact z))) (so_cons (so_sw fun H s => sw_last (K := K) (sw_var k3 (s.dq dPa)) (by rw [List.getLast?_map, el]; rfl)) so_nil)))
    refine rd_seq (rd_if (rd_ne (K := K) (a := wl_) (tb := tb) sh3 (by decide) (fun Q q => ⟨.ref l3, rfl, q _ _ (.refl ob.well ob.tab) (.lst (.of gl3) (dps_of all3 nd3))⟩)
      (fun H1 o1 => so_list (so4 rfl rfl rfl) (by show 4 ≤ 1000; omega) nd3 (ob.trans o1)) fun Hc oc => iteF (rd_next ?_)))
    have oac := ob.trans oc
    have hpc := oac.poly Wa Ta hpa
    have hqc := oac.poly Wa Ta hqa
    have Wc := oc.well
    have Tc := oc.tab
    have g1 : halfQ.num ≠ 0 := by decide
    -- products
    have so5 : ∀ {σ : L2.St}, σ[3]? = some (some up) → σ[4]? = some (some uq) → SoA wl_ tb Hc σ _ [polyOf (convR ps qs), polyOf (convR ps qs), polyOf (convR ps ps), polyOf (qs.map (· * halfQ))] := fun {σ} k3 k4 =>
      so_cons (so_prod (pp_vars Wc Tc k3 k4 hpc hqc) fp gp fq gq) (so_cons (conv_comm qs ps ▸ so_prodK (pp_kw Wc Tc k4 k3 hqc hpc) fq gq fp gp)
        (so_cons (so_prod (pp_vars Wc Tc k3 k3 hpc hpc) fp gp fp gp) (so_cons (conv_one halfQ qs ▸ so_prod (pp_one Wc Tc k4 hqc) few_half (good_one g1) fq gq) so_nil)))
    dsimp only
    refine rd_ss (so_lst (so5 rfl rfl) (by show 4 ≤ 1000; omega) (.refl Wc Tc) fun l5 vs5 Hd od ol5 gl5 all5 => ?_)
    have s5 : ∀ d ∈ [polyOf (convR ps qs), polyOf (convR ps qs), polyOf (convR ps ps), polyOf (qs.map (· * halfQ))], Sh 50066 19 d := by
      intro d hd
      simp only [List.mem_cons, List.not_mem_nil, or_false] at hd
      rcases hd with z | z | z | z
      · rw [z]; exact conv_sh fp fq
      · rw [z]; exact conv_sh fp fq
      · rw [z]; exact conv_sh fp fp
      · rw [z, ← conv_one]; exact conv_sh few_half fq
    have nd5 := hasDictAll_of s5
    have sh5 : Sh _ 20 (.list [polyOf (convR ps qs), polyOf (convR ps qs), polyOf (convR ps ps), polyOf (qs.map (· * halfQ))]) := sh_list (m := 4) s5 (by show 4 ≤ 4; omega)
    have so6' : ∀ {σ : L2.St}, σ[3]? = some (some up) → σ[4]? = some (some uq) → SoA wl_ tb Hc σ _ [polyOf (convR ps qs), polyOf (convR ps qs), polyOf (convR ps ps), polyOf (qs.map (· * halfQ))] := fun {σ} k3 k4 =>
      so_cons (so_times (pp_vars Wc Tc k3 k4 hpc hqc) fp gp fq gq) (so_cons (so_times (pp_vars Wc Tc k3 k4 hpc hqc) fp gp fq gq)
        (so_cons (so_times (pp_vars Wc Tc k3 k3 hpc hpc) fp gp fp gp) (so_cons (so_by (pf_half Wc Tc k4 hqc) fq gq ⟨by decide, by decide⟩ g1) so_nil)))
    refine rd_if (rd_ne (K := K) (a := wl_) (tb := tb) sh5 (by decide) (fun Q q => ⟨.ref l5, rfl, q _ _ (.refl od.well od.tab) (.lst (.of gl5) (dps_of all5 nd5))⟩)
      (fun H1 o1 => so_list (so6' rfl rfl) (by show 4 ≤ 1000; omega) nd5 (od.trans o1)) fun He oe => iteF (rd_next ?_))
    have big := (o6.trans o6a).trans (oac.trans (od.trans oe))
    refine ⟨⟨fun b o n e => ?_, big.tab⟩, _, _, _, _, _, _, _, _, _, _, rfl⟩
    have e1 := r1.keep b o n e
    exact big.keep b o (fun z => by rw [z, nw] at e1; cases e1) n (sw b o e1)
  · rintro σ H1 ⟨r1, y1, y2, y3, y4, y5, y6, y7, y8, y9, y10, rfl⟩
    show V.bl true = V.bl true
    rfl
end
end K02
set_option Elab.async false
set_option linter.all false
set_option maxRecDepth 100000
set_option maxHeartbeats 4000000
namespace K02
open PySem PySem.Spec PyProof.Rows L2 Gx
/-! ### the written defs that the table belongs to, by their places -/
def pAt (l : List Pos) (n : Nat) : Pos := l.getD n ⟨0, 0, 0, 0⟩
theorem whole_shape : ∃ p : Nat → Pos, defBody sPWhole = wBody p := ⟨pAt [_, _, _, _, _, _], rfl⟩
theorem frac_shape : ∃ p : Nat → Pos, defBody sPFrac = fBody p := ⟨pAt [_, _, _, _, _, _, _, _, _, _, _, _, _, _, _, _, _, _, _, _, _, _, _, _, _, _, _, _, _, _, _, _, _, _, _, _], rfl⟩
theorem poly_shape : ∃ p : Nat → Pos, defBody sPPoly = pBody p := ⟨pAt [_, _, _, _, _, _, _, _, _, _, _, _, _, _, _, _, _, _, _, _, _, _, _, _, _, _, _, _, _, _, _, _], rfl⟩
section
variable {P : Program} {w : World} {K : PySem.W.Frag} {mg : Str → Option Value} {base : Heap} {c tb : Addr} {fdW fdF fdP : FuncData}
theorem nums_of (T : Names K mg) (mG : mg "gcd" = some (.builtin "math.gcd")) (FW : FnD K "is_whole" sPWhole fdW) (FF : FnD K "is_fraction" sPFrac fdF) : Nums K mg (He.ga K "is_fraction") (He.ga K "is_whole") := by
  obtain ⟨pw, ew⟩ := whole_shape
  obtain ⟨pf, ef⟩ := frac_shape
  have bw : ∀ s v, BindsTo s fdW ⟨[v], []⟩ [("value", v)] := fun s v => FunD.bindsA (ps := ["value"]) FW (fun _ _ _ _ _ _ us hl => match us, hl with | [_], _ => rfl) s [v] rfl
  have bf : ∀ s v, BindsTo s fdF ⟨[v], []⟩ [("value", v)] := fun s v => FunD.bindsA (ps := ["value"]) FF (fun _ _ _ _ _ _ us hl => match us, hl with | [_], _ => rfl) s [v] rfl
  unfold FnD at FW FF
  rw [ew, show defScope sPWhole = wS from rfl] at FW
  rw [ef, show defScope sPFrac = fS from rfl] at FF
  exact ⟨⟨pf, _, _, _, _, _, fdF, FF, bf⟩, ⟨pw, _, _, _, _, _, fdW, FW, bw⟩, T.gl _ (by decide +kernel), T.gl _ (by decide +kernel), mG, T.fr _ (by decide +kernel), T.fr _ (by decide +kernel), T.fr _ (by decide +kernel), T.fr _ (by decide +kernel), T.fr _ (by decide +kernel)⟩
theorem isPoly_of (T : Names K mg) (mG : mg "gcd" = some (.builtin "math.gcd")) (FW : FnD K "is_whole" sPWhole fdW) (FF : FnD K "is_fraction" sPFrac fdF) (FP : FnD K "is_polynomial" sPPoly fdP) (hc : fdP.code = .ref c) (TB : GxR.TabB base mg c tb) :
    FnOk P w K mg base CX0 2 (He.ga K "is_polynomial") fdP ["value"] (spPoly tb) := by
  obtain ⟨pp, ep⟩ := poly_shape
  unfold FnD at FP
  rw [ep, show defScope sPPoly = pS from rfl] at FP
  exact ok_poly FP hc TB (nums_of T mG FW FF)
end
end K02
set_option Elab.async false
set_option linter.all false
set_option maxRecDepth 100000
set_option maxHeartbeats 0
namespace K02
open PySem PySem.Spec PyProof.Rows L2 Gx
abbrev R : PySem.W.OpenRow := PySem.W.OpenLaw.row PySem.Challenge.rw_endtellers_k02_polynomials_of_anything_v
def gdef (x : Str) (st : Stmt) : He.DefD := ⟨(x, none), x, x, defArgs st, defBody st, defScope st, [], []⟩
def fn : List He.DefD := ([gdef "_law_well" sWell, gdef "_law_drop" sDrop, gdef "_law_pick" sPick, gdef "_law_gcd" sGcd, gdef "_law_frac" sFrac, gdef "_law_add" sAdd, gdef "_law_mul" sMul, gdef "_law_cut" sCut, gdef "_law_times" sLTimes] : List He.DefD) ++ ([gdef "_law_by" sBy, gdef "_law_at" sAt, gdef "_law_small" sSmall, gdef "_law_whole" sWhole, gdef "_law_is_frac" sIsFrac, gdef "_law_is_poly" sIsPoly, gdef "_law_odd" sOdd, gdef "_law_no_frac" sNoFrac, gdef "_law_put" sPut] : List He.DefD) ++ ([gdef "_law_poly" sPoly, gdef "_law_point" sPoint, gdef "_law_bent" sBent, gdef "is_whole" sPWhole, gdef "is_fraction" sPFrac, gdef "check_fraction" sChkF, gdef "lowest" sLowest, gdef "times" sTimes, gdef "powers" sPowers] : List He.DefD) ++ ([gdef "spread" sSpread, gdef "is_polynomial" sPPoly, gdef "check_polynomial" sChkP, gdef "cleared" sCleared, gdef "divided" sDivided, gdef "value_at" sValue, gdef "product" sProduct, gdef "law" sLaw] : List He.DefD)
def fa : List He.Fa := defs.map He.Fa.glo ++ frees.map He.Fa.free
def tf : List He.Defn := [("is_polynomial", none)]
def more (K : PySem.W.Frag) : Bool := decide (PySem.W.nsIn K mainGlobals "gcd" = some (some (.builtin "math.gcd"))) && decide (PySem.W.nsIn K mainGlobals "lcm" = some (some (.builtin "math.lcm")))
def hk : PySem.W.Hook := He.hookX 5 fa fn [] tf more
def ob (s : PySem.W.SharedT) : He.AlX := He.obsX 5 fa fn [] tf more (HandSHeadRun.getT s)
theorem ob_eq (s : PySem.W.SharedT) : ob s = hk.obs s.abs := He.obsX_eq (HandSHeadRun.getT_eq s)
def loose : List Str := (["EndError", "InvalidPolynomial", "InvalidFraction", "_law_well", "_law_drop", "_law_pick", "_law_gcd", "_law_frac", "_law_add", "_law_mul", "_law_cut", "_law_times"] : List Str) ++ (["_law_by", "_law_at", "_law_small", "_law_whole", "_law_is_frac", "_law_is_poly", "_law_odd", "_law_no_frac", "_law_put", "_law_poly", "_law_point", "_law_bent"] : List Str) ++ (["is_whole", "is_fraction", "check_fraction", "lowest", "times", "powers", "spread", "is_polynomial", "check_polynomial", "cleared", "divided", "value_at"] : List Str) ++ (["product"] : List Str)
theorem run (w : World) : HandSHeadRun.RunEqI R (PySem.W.view R.prog [0, 43]) hk ob 4000 loose w := by
  unfold HandSHeadRun.RunEqI
  kernel_rfl
theorem facts {w : World} {K : PySem.W.Frag} {h : Heap} {mg : Str → Option Value} {f : Addr} (X : K.In h) (G : h.Ns mainGlobals mg) (hfa : mg ("law" : Str) = some (.ref f)) (c0 : He.SaysX fa fn [] tf more w h K) :
    ∃ (fd : FuncData) (cc tb : Addr), h.get? tb = some empty ∧ K.lookup tb = none ∧ PySem.W.CodeHd h cc tb ∧ (∀ (s : Shared) (v : Value), BindsTo s fd ⟨[v], []⟩ [("script", v)]) ∧ ∀ base : Heap, K.In base → base.Ns mainGlobals mg → GxR.TabB base mg cc tb → LawOk R.prog w K mg base f fd "script" (spLaw K tb) := by
  have c : He.SaysD fa fn K := c0.t.d
  obtain ⟨fd0, F0⟩ := c.def_ 0 (d := gdef "_law_well" sWell) rfl
  obtain ⟨fd1, F1⟩ := c.def_ 1 (d := gdef "_law_drop" sDrop) rfl
  obtain ⟨fd2, F2⟩ := c.def_ 2 (d := gdef "_law_pick" sPick) rfl
  obtain ⟨fd3, F3⟩ := c.def_ 3 (d := gdef "_law_gcd" sGcd) rfl
  obtain ⟨fd4, F4⟩ := c.def_ 4 (d := gdef "_law_frac" sFrac) rfl
  obtain ⟨fd5, F5⟩ := c.def_ 5 (d := gdef "_law_add" sAdd) rfl
  obtain ⟨fd6, F6⟩ := c.def_ 6 (d := gdef "_law_mul" sMul) rfl
  obtain ⟨fd7, F7⟩ := c.def_ 7 (d := gdef "_law_cut" sCut) rfl
  obtain ⟨fd8, F8⟩ := c.def_ 8 (d := gdef "_law_times" sLTimes) rfl
  obtain ⟨fd9, F9⟩ := c.def_ 9 (d := gdef "_law_by" sBy) rfl
  obtain ⟨fd10, F10⟩ := c.def_ 10 (d := gdef "_law_at" sAt) rfl
  obtain ⟨fd11, F11⟩ := c.def_ 11 (d := gdef "_law_small" sSmall) rfl
  obtain ⟨fd12, F12⟩ := c.def_ 12 (d := gdef "_law_whole" sWhole) rfl
  obtain ⟨fd13, F13⟩ := c.def_ 13 (d := gdef "_law_is_frac" sIsFrac) rfl
  obtain ⟨fd14, F14⟩ := c.def_ 14 (d := gdef "_law_is_poly" sIsPoly) rfl
  obtain ⟨fd15, F15⟩ := c.def_ 15 (d := gdef "_law_odd" sOdd) rfl
  obtain ⟨fd16, F16⟩ := c.def_ 16 (d := gdef "_law_no_frac" sNoFrac) rfl
  obtain ⟨fd17, F17⟩ := c.def_ 17 (d := gdef "_law_put" sPut) rfl
  obtain ⟨fd18, F18⟩ := c.def_ 18 (d := gdef "_law_poly" sPoly) rfl
  obtain ⟨fd19, F19⟩ := c.def_ 19 (d := gdef "_law_point" sPoint) rfl
  obtain ⟨fd20, F20⟩ := c.def_ 20 (d := gdef "_law_bent" sBent) rfl
  obtain ⟨fd21, F21⟩ := c.def_ 21 (d := gdef "is_whole" sPWhole) rfl
  obtain ⟨fd22, F22⟩ := c.def_ 22 (d := gdef "is_fraction" sPFrac) rfl
  obtain ⟨fd23, F23⟩ := c.def_ 23 (d := gdef "check_fraction" sChkF) rfl
  obtain ⟨fd24, F24⟩ := c.def_ 24 (d := gdef "lowest" sLowest) rfl
  obtain ⟨fd25, F25⟩ := c.def_ 25 (d := gdef "times" sTimes) rfl
  obtain ⟨fd26, F26⟩ := c.def_ 26 (d := gdef "powers" sPowers) rfl
  obtain ⟨fd27, F27⟩ := c.def_ 27 (d := gdef "spread" sSpread) rfl
  obtain ⟨fd28, F28⟩ := c.def_ 28 (d := gdef "is_polynomial" sPPoly) rfl
  obtain ⟨fd29, F29⟩ := c.def_ 29 (d := gdef "check_polynomial" sChkP) rfl
  obtain ⟨fd30, F30⟩ := c.def_ 30 (d := gdef "cleared" sCleared) rfl
  obtain ⟨fd31, F31⟩ := c.def_ 31 (d := gdef "divided" sDivided) rfl
  obtain ⟨fd32, F32⟩ := c.def_ 32 (d := gdef "value_at" sValue) rfl
  obtain ⟨fd33, F33⟩ := c.def_ 33 (d := gdef "product" sProduct) rfl
  obtain ⟨fd34, F34⟩ := c.def_ 34 (d := gdef "law" sLaw) rfl
  have all : ∀ x ∈ fa, x.ok K = true := fun x hx => c.facts hx
  have T : Names K mg := ⟨fun x hx => He.free_ok X G (all (.free x) (List.mem_append_right _ (List.mem_map_of_mem hx))), fun x hx => He.glo_ok X G (all (.glo x) (List.mem_append_left _ (List.mem_map_of_mem hx)))⟩
  have m : (decide (PySem.W.nsIn K mainGlobals "gcd" = some (some (.builtin "math.gcd"))) && decide (PySem.W.nsIn K mainGlobals "lcm" = some (some (.builtin "math.lcm")))) = true := c0.more
  obtain ⟨m1, m2⟩ := Bool.and_eq_true_iff.mp m
  have mG : mg "gcd" = some (.builtin "math.gcd") := PySem.W.mg_of X G (of_decide_eq_true m1)
  have mL : mg "lcm" = some (.builtin "math.lcm") := PySem.W.mg_of X G (of_decide_eq_true m2)
  have e := hfa.symm.trans (T.gl "law" (by decide +kernel))
  cases e
  have b := FunD.bindsA (ps := ["script"]) F34 fun _ _ _ _ _ _ us hl => match us, hl with | [_], _ => rfl
  have mem : (("is_polynomial", none) : He.Defn) ∈ tf := List.mem_singleton.mpr rfl
  have hc : fd28.code = .ref (He.cT K ("is_polynomial", none)).1 := by
    obtain ⟨oc, od, dV, kV, doc, pm, an, cdv, ct, osl, efd, lk, hcd, _, _⟩ := F28.ex
    obtain ⟨c1, e1⟩ := He.codeIn_ref hcd
    have e2 : fd28.code = .ref c1 := by rw [efd, e1]
    rw [e2, show (He.cT K ("is_polynomial", none)).1 = c1 from He.codeOf_eq (p := ("is_polynomial", none)) lk e2]
  exact ⟨fd34, _, _, c0.empty _ mem, c0.out _ mem, PySem.W.codeHd_of_K X (c0.hd _ mem), fun s v => b s [v] rfl, fun base _ _ TB => ok_law ⟨fd0, fd1, fd2, fd3, fd4, fd5, fd6, fd7, fd8, fd9, fd10, fd11, fd12, fd13, fd14, fd15, fd16, fd17, fd18, fd19, fd20, fd21, fd22, fd23, fd24, fd25, fd26, fd27, fd28, fd29, fd30, fd31, fd32, fd33, F0, F1, F2, F3, F4, F5, F6, F7, F8, F9, F10, F11, F12, F13, F14, F15, F16, F17, F18, F19, F20, F21, F22, F23, F24, F25, F26, F27, F28, F29, F30, F31, F32, F33⟩ F34 T (isPoly_of T mG F21 F22 F28 hc TB) mG mL⟩
end K02
open PySem PySem.W PySem.Calls PyProof.Rows
set_option maxRecDepth 100000 in
set_option maxHeartbeats 0 in
theorem PySem.Challenge.cw_endtellers_k02_polynomials_of_anything_v_holds : PySem.Challenge.rw_endtellers_k02_polynomials_of_anything_v.Holds := by
  w_on; o_law
  refine HandSHeadRun.head_imp (r := OpenLaw.row PySem.Challenge.rw_endtellers_k02_polynomials_of_anything_v) (q := view (OpenLaw.row PySem.Challenge.rw_endtellers_k02_polynomials_of_anything_v).prog [0, 43]) (H := K02.hk) (ob := K02.ob) (M := 4000) (loose := K02.loose) (d := HandSHeadRun.topDef (OpenLaw.row PySem.Challenge.rw_endtellers_k02_polynomials_of_anything_v).prog 43) (kwd := []) K02.ob_eq
    K02.run (by kernel_rfl) (by kernel_rfl) (by kernel_rfl) (by rfl) (by first | assumption | decide +kernel) (by decide +kernel) ⟨rfl, rfl, rfl, rfl, rfl, by decide +kernel⟩ ?hw ?hc
  case hw => w_witness2
  case hc =>
    refine Gx.walk_tab (l := PySem.Challenge.rw_endtellers_k02_polynomials_of_anything_v) (most := 63) (x := "script") rfl (by decide) (by kernel_rfl) ?F
    intro w mg at_ h Y G hmg0
    obtain ⟨K, KX, c⟩ := Y
    have hmg : mg ("law" : PySem.Str) = some (.ref at_) := by
      have e : (HandSHeadRun.topDef (OpenLaw.row PySem.Challenge.rw_endtellers_k02_polynomials_of_anything_v).prog 43).name = ("law" : PySem.Str) := by kernel_rfl
      rw [← e]
      exact hmg0
    obtain ⟨fd, cc, tb, t1, t2, t3, hb, hF⟩ := K02.facts (w := w) KX G hmg c
    exact ⟨K, fd, K02.spLaw K tb, cc, tb, KX, t1, t2, t3, hb, fun H a ns hl ht hS => ⟨a, ns, rfl, hS, ⟨#[], ht, trivial⟩, fun _ => rfl⟩, hF⟩
