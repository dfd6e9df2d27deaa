import PyProof.Rows.All
import Wide.All
import OpenK.AllK
import Wide.FinOn
import HandS.ForMost
import HandS.Wide
import HandS.IsInst
import HandS.Exc
import HandS.WordsExc
import HandS.ExcInit
import HandS.TupAny
import HandS.SortInts
import HandS.EndBits
import HandS.Deep
import HandS.More
import HandS.Text
import HandS.Flow
import HandS.Gcd
import HandS.Zip
import HandS.Small
import HandS.ExcField
import KE.KExcIs
import HandS.HeadWalk
import HandS.Defaults
import KE.KMathG
import KE.KMathGC
import HandS.WideBits
import HandS.TupMul
import KE.GoesMore
import HandS.Style
import PySem.Challenge.RW_everyblock_k15_instruments_checked
set_option Elab.async false
set_option linter.all false
set_option maxRecDepth 100000
set_option maxHeartbeats 4000000
/-! Calls, where it is known that no repr is under way. -/
namespace Pi
open PySem L2 PySem.Spec PyProof.Rows
/-- a def keeps its promise at every entry outside of a repr -/
structure FnG (Pg : Program) (w : World) (K : PySem.W.Frag) (mg : Str → Option Value) (base : Heap) (n : Nat) (fa : Addr) (fd : FuncData) (ps : List Str) (sp : Sp) : Prop where
  len : ∀ vs H Q E, sp vs H Q E → vs.length = ps.length
  run : ∀ {A : Around} {outer : List Env} {s : Shared} {H : Hp} {args : Args} {us : List Value} {vs : List V} {Q : VK} {E : XK},
    A.guards = some [] → Room n A → Env0 Pg w K mg base A outer s H → BindsTo s fd args (ps.zip us) → Vals vs us → sp vs H Q E →
    codeAny (model Pg w) A (.call (.ref fa) args) (CR (L2.CX Pg w) outer Pg w H s Q E) s
/-- how a def runs: by its body -/
def RunsBy (Pg : Program) (w : World) (K : PySem.W.Frag) (mg : Str → Option Value) (qual : Str) (sc : Scope) (body : List Stmt) (Ns ps : List Str) (fa : Addr) (fd : FuncData) : Prop :=
  ∀ (base : Heap) (n : Nat) (sp : Sp), (∀ vs H Q E, sp vs H Q E → vs.length = ps.length) →
    (∀ (cdv : Value) (A : Around) (outer : List Env) (s : Shared) (H : Hp) (vs : List V) (Q : VK) (E : XK), A.guards = some [] → Room n (A.deeper (envOfC qual sc s.heap.objs.size fa cdv)) → sp vs H Q E →
      ∃ t, PSs (cxOf (L2.CX Pg w) Pg w K mg base Ns qual sc fa cdv A outer s H E) body t ∧ t { nx := fun _ H' => Q .non H', rt := Q } (L2.start Ns vs) H) →
    FnG Pg w K mg base (n + 1) fa fd ps sp
theorem runs_of {Pg : Program} {w : World} {K : PySem.W.Frag} {mg : Str → Option Value} {fa : Addr} {name qual : Str} {params : Arguments} {body : List Stmt} {sc : Scope} {dV kV doc pm cdv ct oc : Value} {an od : Option Addr} {osl : Array (Option Value)} {Ns ps : List Str}
    (l : K.lookup fa = some ⟨oc, od, .func (PySem.W.fnOf name qual params body sc dV kV doc pm an cdv ct), osl⟩) (c : PySem.W.codeIn K cdv qual = true) (S : FnScope Ns ps sc) :
    RunsBy Pg w K mg qual sc body Ns ps fa (PySem.W.fnOf name qual params body sc dV kV doc pm an cdv ct) := by
  intro base n sp len hb
  refine ⟨len, @fun A outer s H args us vs Q E g room e bd rv hs => ?_⟩
  have inK : K.In s.heap := e.mod.kin.keeps fun b o q => (e.bs b o q).1
  have nl : s.heap.NoLimit := e.mod.nolimit.keeps fun b o q => (e.bs b o q).1
  have vl := len _ _ _ _ hs
  have par : ∀ y ∈ ps.zip us, sc.names.lookup y.1 = some .local ∨ (sc.names.lookup y.1 = some .cell ∧ ((cellsFrom (s.heap.objs.size + 1) sc.names []).lookup y.1).isSome = true) := by
    intro y hy
    rcases S.par y.1 (List.of_mem_zip (a := y.1) (b := y.2) hy).1 with q | q
    · exact .inl q
    · exact .inr ⟨q, PySem.W.cellsFrom_some _ _ _ (.inl q)⟩
  refine codeAny_call_function room.depth (inK _ _ l) rfl S.co S.gen rfl (PySem.W.codeRec_of inK c) (bd _ _ _ _ ?_)
  refine wpAny_newFunctionEnv_cells S.kind par fun env ee s2 x => ?_
  subst ee
  refine ⟨nl.keeps x.toInCall.keep, codeAny_func ?_⟩
  obtain ⟨t, ht, q⟩ := hb cdv A outer s H vs Q E g (room.deeper _) hs
  have I := inv_start (CX := L2.CX Pg w) (E := E) S room.hd e vl rv x
  refine wpAny_mono (ht.run [] s2 _ H _ I q) (fun fl s3 z => ?_) fun _ _ z => z
  cases fl with
  | ret u =>
    obtain ⟨v, _, H3, J, r, z⟩ := z
    exact ⟨v, H3, J.os, J.bare, J.base, J.hok, r, z⟩
  | next =>
    obtain ⟨_, H3, J, z⟩ := z
    exact ⟨.non, H3, J.os, J.bare, J.base, J.hok, rfl, z⟩
  | brk => exact z.choose_spec.choose_spec.2.elim
  | cont => exact z.choose_spec.choose_spec.2.elim
section
variable {X : Cx} {n : Nat} {fa : Addr} {fd : FuncData} {ps : List Str} {sp : Sp} {dvs : List V} {ds : List Value} {E : XK}
/-- what a callee lets out is let out, the names being as they are -/
def PAt (X : Cx) (E : XK) (σ : L2.St) : Prop := ∀ (pins : List (Addr × Obj)) (H : Hp) (s : Shared) (e : Value) (s' : Shared), Inv X pins σ H s → L2.CX X.prog X.w X.stack H s E e s' → X.xe e s'
theorem FnG.call (F : FnG X.prog X.w X.K X.mg X.base n fa fd ps sp) (g : X.A.guards = some []) (room : Room n X.A) (b : Binds X.K fd ps ds) (d : Vals dvs ds)
    {pins : List (Addr × Obj)} {σ : L2.St} (p : PAt X E σ) {H : Hp} {s : Shared} {Q : VK} {us : List Value} {vs : List V} (I : Inv X pins σ H s) (r : Vals vs us) (h : sp (vs ++ dvs) H Q E) : wpAny (model X.prog X.w) X.A (call (.ref fa) us) (EP X pins σ Q) X.xe s := by
  have rr := r.append d
  have ll := F.len _ _ _ _ h
  rw [rr.length] at ll
  refine wpAny_call (codeAny_mono (F.run (args := ⟨us, []⟩) g room I.env0 (b s us I.kIn ll) rr h) fun o s2 z => ?_)
  cases o with
  | error e => exact p pins H s e s2 I z
  | ok fl =>
    cases fl with
    | ret u => exact I.after z
    | next => exact z.elim
    | brk => exact z.elim
    | cont => exact z.elim
theorem pe_callG (F : FnG X.prog X.w X.K X.mg X.base n fa fd ps sp) (g : X.A.guards = some []) (room : Room n X.A) (b : Binds X.K fd ps ds) (d : Vals dvs ds) {σ : L2.St} (p : PAt X E σ) {x : Str} {px pos : Pos} {e : Expr} {es : List Expr} {t : TA}
    (hg : Gl X x) (hm : X.mg x = some (.ref fa)) (hk : PySem.W.keepIn X.K (.ref fa) = true) (ha : PA X (e :: es) t) (hx : (x == ("__debug__" : Str)) = false) (h1 : starEach (e :: es) X.env = (false, eval e X.env) :: starEach es X.env)
    (h2 : (backTo pos (starEach es X.env)).any (·.1) = false) {H : Hp} {Q : VK} (h : tCall sp dvs E t σ H Q) (pins : List (Addr × Obj)) (s : Shared) (I : Inv X pins σ H s) : wpAny (model X.prog X.w) X.A (eval (.Call (.Name x px) (e :: es) [] pos) X.env) (EP X pins σ Q) X.xe s := by
  refine wpAny_Call_Name_kw (ld_glob I hg hm ?_ hx)
  refine PySem.W.callWith_K (h₀ := X.base) I.ok.mod.kin hk (thn (ha.run pos pins s σ H _ I h) fun us s2 z => ?_) h1 h2
  obtain ⟨vs, H2, I2, r, z⟩ := z
  exact ⟨I2.kIn, F.call g room b d p I2 r z⟩
theorem pe_callG0 (F : FnG X.prog X.w X.K X.mg X.base n fa fd ps sp) (g : X.A.guards = some []) (room : Room n X.A) (b : Binds X.K fd ps ds) (d : Vals dvs ds) {σ : L2.St} (p : PAt X E σ) {x : Str} {px pos : Pos}
    (hg : Gl X x) (hm : X.mg x = some (.ref fa)) (hk : PySem.W.keepIn X.K (.ref fa) = true) (hx : (x == ("__debug__" : Str)) = false) {H : Hp} {Q : VK} (h : tCall sp dvs E tNil σ H Q) (pins : List (Addr × Obj)) (s : Shared) (I : Inv X pins σ H s) :
    wpAny (model X.prog X.w) X.A (eval (.Call (.Name x px) [] [] pos) X.env) (EP X pins σ Q) X.xe s := by
  refine wpAny_Call_Name_kw (ld_glob I hg hm ?_ hx)
  exact PySem.W.callWith_K0 I.kIn hk (F.call (us := []) g room b d p I .nil h)
end
/-- a law's promise: a list of at most 63 ints is handed in, True comes out -/
def spLaw (K : PySem.W.Frag) : Sp := fun vs H Q _ => ∃ (a : Addr) (ns : List Int), vs = [.ref a] ∧ SqL K H a (ns.map V.int) ∧ ns.length ≤ 63 ∧ (∀ k ∈ ns, Builtin.Int.intBits k ≤ 1048576) ∧ ∀ H', Q (.bl true) H'
theorem law_run {Pg : Program} {w : World} {K : PySem.W.Frag} {mg mb : Str → Option Value} {n : Nat} {fa a : Addr} {fd : FuncData} {x : Str} {s : Shared} {vs : List Value} {ns : List Int}
    (inK : K.In s.heap) (g : s.heap.Ns mainGlobals mg) (b : s.heap.Ns builtinsNs mb) (bb : ∀ y : Str, y ≠ "__name__" → mb y = bootBuiltins y) (nl : s.heap.NoLimit) (ge : s.gens = #[]) (ha : s.heap.get? a = some { cls := .type "list", data := .seq vs.toArray })
    (hi : IntsAre vs ns) (hl : ns.length ≤ 63) (hb : ∀ k ∈ ns, Builtin.Int.intBits k ≤ 1048576) (room : Room n callerA)
    (F : ∀ base : Heap, K.In base → base.Ns mainGlobals mg → FnG Pg w K mg base n fa fd [x] (spLaw K)) (bd : ∀ (s : Shared) (u : Value), BindsTo s fd ⟨[u], []⟩ [(x, u)]) :
    codeAny (model Pg w) callerA (.call (.ref fa) ⟨[.ref a], []⟩) (fun r s' => r = .ok (.ret (.bool true)) ∧ OldK s.heap s'.heap ∧ s'.os = s.os ∧ AllBare s'.gens) s := by
  have vv : Vals (ns.map V.int) vs := vals_ints hi
  -- over a heap in which only the script is told of, if anything
  have main : ∀ T : Hp, HOk Pg w T s.heap → SqL K T a (ns.map V.int) → (∀ c u, T c = some u → c = a ∧ K.lookup a = none ∧ ∃ o xs, u = .frz o (.lst xs)) →
      codeAny (model Pg w) callerA (.call (.ref fa) ⟨[.ref a], []⟩) (fun r s' => r = .ok (.ret (.bool true)) ∧ OldK s.heap s'.heap ∧ s'.os = s.os ∧ AllBare s'.gens) s := by
    intro T hok hS only
    have out : ∀ {c : Addr} {o : Obj}, s.heap.get? c = some o → (T c = none → (hidT s.heap T).get? c = some o) := fun e n => hidT_get e n
    have free : ∀ {c : Addr} {o : Obj} {es : Array DictEntry} {m : Nat}, s.heap.get? c = some o → o.data = .dict es m → T c = none := by
      intro c o es m e d
      cases q : T c with
      | none => rfl
      | some u =>
        obtain ⟨rfl, _, _⟩ := only c u q
        rw [ha] at e
        cases e
        nomatch (show Data.seq vs.toArray _ = Data.dict es m from d)
    have nsp : ∀ {c : Addr} {m : Str → Option Value}, s.heap.Ns c m → (hidT s.heap T).Ns c m := by
      intro c m z
      obtain ⟨o, es, k, e, d, z⟩ := z
      exact ⟨o, es, k, out e (free e d), d, z⟩
    have inB : K.In (hidT s.heap T) := by
      intro c o e
      refine out (inK c o e) ?_
      cases q : T c with
      | none => rfl
      | some u =>
        obtain ⟨rfl, z, _⟩ := only c u q
        rw [z] at e; cases e
    have md : Mod K mg (hidT s.heap T) := ⟨inB, nsp g, ⟨mb, nsp b, bb⟩, by
      obtain ⟨mc, z1, z2⟩ := nl
      exact ⟨mc, nsp z1, z2⟩⟩
    have en : Env0 Pg w K mg (hidT s.heap T) callerA [] s T := ⟨rfl, md, fun c o e => of_hidT e, Nat.le_of_eq (hidT_size _ _), trivial, fun c z => by simp [frs] at z, hok, .of_eq ge⟩
    refine codeAny_mono ((F _ inB (nsp g)).run (args := ⟨[.ref a], []⟩) (us := [.ref a]) (vs := [.ref a]) (Q := fun v _ => v = .bl true) (E := fun _ _ _ => False) rfl room en (bd s (.ref a)) (.cons rfl .nil) ⟨a, ns, rfl, hS, hl, hb, fun _ => rfl⟩) fun r s' z => ?_
    cases r with
    | error e =>
      obtain ⟨_, _, _, _, _, _, _, _, _, _, _, _, z⟩ := z
      exact z.elim
    | ok fl =>
      cases fl with
      | next => exact z.elim
      | brk => exact z.elim
      | cont => exact z.elim
      | ret u =>
        obtain ⟨v, T', os, bare, un, hok2, rv, e⟩ := z
        have e : v = .bl true := e
        subst e
        have rv : u = Value.bool true := rv
        subst rv
        refine ⟨rfl, OldK.of_keep fun c o e => ?_, os, bare⟩
        cases q : T c with
        | none => exact un.keep c o e q (fun z => by simp [frs] at z) (by simp)
        | some u =>
          obtain ⟨rfl, _, ob, xs, rfl⟩ := only c u q
          obtain ⟨e1, _⟩ := hok c _ q
          obtain ⟨e2, _⟩ := hok2 c _ (un.frzs c ob _ q)
          rw [e] at e1
          cases e1
          exact e2
  have hl2 : ns.length ≤ sizeLine := Nat.le_trans hl (by decide)
  by_cases hk : K.lookup a = none
  · refine main (fun c => if c = a then some (.frz { cls := .type "list", data := .seq vs.toArray } (.lst (ns.map V.int))) else none) (fun c u z => ?_) (.inl (.inr ⟨{ cls := .type "list", data := .seq vs.toArray }, if_pos rfl⟩)) fun c u z => ?_
    · by_cases e : c = a
      · subst e
        have z := (if_pos rfl).symm.trans z
        cases z
        exact ⟨ha, by rw [List.length_map]; exact hl2, vs, _, vv, ha⟩
      · exact nomatch (if_neg e).symm.trans z
    · by_cases e : c = a
      · subst e
        have z := (if_pos rfl).symm.trans z
        cases z
        exact ⟨rfl, hk, _, _, rfl⟩
      · exact nomatch (if_neg e).symm.trans z
  · obtain ⟨o, ho⟩ := Option.ne_none_iff_exists'.mp hk
    have e := inK a o ho
    rw [ha] at e
    cases e
    exact main (fun _ => none) (fun _ _ z => nomatch z) (.inr ⟨_, vs.toArray, _, ho, rfl, rfl, rfl, by rw [List.size_toArray, hi.length]; exact hl2, by simpa using vv⟩) fun _ _ z => nomatch z
theorem walk_pi {l : PySem.W.OpenLaw} {n : Nat} {q : Program} {loose : List Str} {XP : (Str → Option Value) → Heap → Prop} {YP : World → Heap → Prop} {d : DefRec} {K : Params → PySem.W.Frag} {x : Str}
    (hn : l.most = some 63) (hdf : d.params.defaults = []) (room : Room n callerA) (hY : ∀ (w : World) (h : Heap), YP w h → (K w.params).In h)
    (F : ∀ (w : World) (mg : Str → Option Value) (fa : Addr) (h : Heap), (K w.params).In h → h.Ns mainGlobals mg → mg d.name = some (.ref fa) →
      ∃ fd : FuncData, (∀ (s : Shared) (u : Value), BindsTo s fd ⟨[u], []⟩ [(x, u)]) ∧ ∀ base : Heap, (K w.params).In base → base.Ns mainGlobals mg → FnG l.prog w (K w.params) mg base n fa fd [x] (spLaw (K w.params))) :
    PySem.W.WalkO q loose XP YP l.row.toRowW d [] (fun f vs => PySem.call f vs) := by
  refine Att.attach_callB hn hdf fun w s₀ s₁ mg mb fa o pm cd doc a vs ns G Y ho hd hcd hmg hobj hints hlen hbits hg => ?_
  obtain ⟨fd, bd, hF⟩ := F w mg fa _ (hY w _ Y) G.T.g hmg
  exact law_run (hY w _ Y) G.T.g G.T.b G.T.builtins G.T.nolimit hg hobj hints hlen hbits room hF bd
end Pi

namespace Pi
open PySem L2

inductive R where
  | dat (d : PyData)
  | own (ds : List PyData)
def R.d : R → PyData
  | .dat d => d
  | .own ds => .list ds
/-- an exception: its class, its word, its place -/
structure Xc where
  cls : Nat
  word : Str
  place : PyData
inductive Sl where
  | no
  | dat (d : PyData)
  | own (ds : List PyData)
  | mu (k : Nat) (ds : List PyData)
  | exc (x : Xc)
abbrev Ev := List Sl
inductive Ag where
  | d (d : PyData)
  | m (ds : List PyData)
structure K where
  e : R → Ev → Prop
  a : List (Sum PyData Nat) → Ev → Prop
  t : Bool → Ev → Prop
  i : List PyData → Ev → Prop
  nx : Ev → Prop
  bk : Ev → Prop
  ct : Ev → Prop
  rt : R → Ev → Prop
  x : Xc → Ev → Prop
abbrev Fs := Nat → List Ag → (R → List (List PyData) → Prop) → (Xc → Prop) → Prop

inductive BO where | add | sub | mul | fdiv | mod | pow | shl | shr
/-- a part of a target: a name, or names in brackets -/
abbrev Pn := Sum Nat (List Nat)
abbrev Tg := Sum Nat (List Pn)
inductive CO where | lt | le | gt | ge | eq | ne | isN | notN | inn | nin
/-- built-ins of one argument -/
inductive B1 where | len | int | abs | list | tuple | sum | maxl | minl | any | all | sorted | repr | str | bool
inductive B2 where | min | max
/-- functions of a library, imported by name -/
inductive LF where | lcm | gcd
/-- methods of texts -/
inductive MT1 where | join | split | starts
inductive TY where | int | bool | str | list | tuple | non

inductive N where
  | v (i : Nat) | g (x : Nat) | c (d : PyData)
  | bin (o : BO) (a b : N) | neg (a : N)
  | cmp (o : CO) (a b : N) | chain (o o' : CO) (a b c : N)
  | nott (a : N) | andd (a b : N) | orr (a b : N) | one (a : N)
  | ite (t a b : N)
  | call (f : Nat) (as : N)
  | b1 (f : B1) (a : N) | b2 (f : B2) (a b : N)
  | isi (a : N) (ts : List TY)
  | ix (a i : N)
  | sl (a lo hi : N) | rv (a : N)
  | tup (es : N) | lst (es : N)
  | lc (own : List Nat) (x : Tg) (it cs e : N)
  | pop (i : Nat) | popAt (i : Nat) (k : N)
  | lib (f : LF) (a b : N) | m1 (m : MT1) (a b : N) | lix (a b : N)
  | callD (f : Nat) (as : N) (ds : List PyData)
  -- of a caught exception: its word, its place, whether it is of a class
  | xw (i : Nat) | xp (i : Nat) | xi (i : Nat) (nm : Str) (ts : List Nat)
  -- lists of arguments; none
  | nil | cons (a r : N) | consM (i : Nat) (r : N) | sno | sat (e : N)
  -- tests
  | tcmp (o : CO) (a b : N) | tchain (o o' : CO) (a b c : N) | tnot (a : N) | tand (a b : N) | tor (a b : N) | tone (a : N) | tval (a : N) | tyes
  -- what a loop walks
  | itl (a : N) | iten (a : N) | itz (a b : N) | itr1 (a : N) | itr2 (a b : N)
  -- statements
  | set (i : Nat) (e : N) | slc (i : Nat) (own : List Nat) (x : Tg) (it cs e : N) | unp (is : List Pn) (e : N) | seti (i : Nat) (k e : N) | aug (i : Nat) (o : BO) (e : N) | augi (i : Nat) (o : BO) (k e : N)
  | ex (e : N) | app (i : Nat) (e : N) | ext (i : Nat) (e : N) | ins (i : Nat) (k e : N) | setc (is : List Nat) (e : N)
  | ret (e : N) | retn | retv (i : Nat)
  | ifs (t a b : N) | forr (x : Tg) (it b : N) | whl (t b : N)
  | brk | ctn | pas | rai (c : Nat) (w : Str) (e : N) | rai0 (c : Nat) (w : Str) | tryx (i : Nat) (ts : List Nat) (b h : N) | try2 (i : Nat) (ts : List Nat) (b h : N) (us : List Nat) (g : N)
  -- blocks
  | done | seq (s r : N)

def MulOk (i j : Int) : Prop := CMul i j ∨ CMulW i j
def DivOk (i j : Int) : Prop := CDiv i j ∨ CDivW i j
def sz (n : Nat) : Prop := n ≤ sizeLine

def binW : BO → PyData → PyData → (R → Prop) → Prop
  | .add, .int i, .int j, k => k (.dat (.int (i + j)))
  | .add, .str a, .str b, k => sz (a.length + b.length) ∧ k (.dat (.str (a ++ b)))
  | .add, .list a, .list b, k => sz (a.length + b.length) ∧ k (.own (a ++ b))
  | .add, .tuple a, .tuple b, k => sz (a.length + b.length) ∧ k (.dat (.tuple (a ++ b)))
  | .sub, .int i, .int j, k => k (.dat (.int (i - j)))
  | .mul, .int i, .int j, k => MulOk i j ∧ k (.dat (.int (i * j)))
  | .mul, .list ds, .int n, k => -(2 ^ 63) ≤ n ∧ n < 2 ^ 63 ∧ sz (ds.length * n.toNat) ∧ k (.own (List.replicate n.toNat ds).flatten)
  | .mul, .tuple ds, .int n, k => 1 ≤ n ∧ n ≤ 1000 ∧ ds.length ≤ 1000 ∧ k (.dat (.tuple (List.replicate n.toNat ds).flatten))
  | .shl, .int i, .int j, k => CShl i j ∧ k (.dat (.int (i * 2 ^ j.toNat)))
  | .shr, .int i, .int j, k => 0 ≤ j ∧ k (.dat (.int (i / 2 ^ j.toNat)))
  | .fdiv, .int i, .int j, k => DivOk i j ∧ k (.dat (.int (i / j)))
  | .mod, .int i, .int j, k => 0 < j ∧ k (.dat (.int (i % j)))
  | .pow, .int i, .int j, k => CPow i j ∧ k (.dat (.int (i ^ j.toNat)))
  | _, _, _, _ => False

def isNone : PyData → Bool
  | .none => true
  | _ => false
def cmpW : CO → PyData → PyData → (Bool → Prop) → Prop
  | .lt, .int i, .int j, k => k (decide (i < j))
  | .le, .int i, .int j, k => k (decide (i ≤ j))
  | .gt, .int i, .int j, k => k (decide (j < i))
  | .ge, .int i, .int j, k => k (decide (j ≤ i))
  | .eq, .int i, .int j, k => k (decide (i = j))
  | .ne, .int i, .int j, k => k (!decide (i = j))
  | .lt, .str a, .str b, k => k (decide (a.cps.toList < b.cps.toList))
  | .le, .str a, .str b, k => k (!decide (b.cps.toList < a.cps.toList))
  | .eq, x, y, k => SeqAt.shaped x = true ∧ SeqAt.shaped y = true ∧ k (PyData.eqv x y)
  | .ne, x, y, k => SeqAt.shaped x = true ∧ SeqAt.shaped y = true ∧ k (!PyData.eqv x y)
  | .inn, x, .list ds, k => SeqAt.shaped x = true ∧ SeqAt.shaped (.list ds) = true ∧ k (ds.any fun z => PyData.eqv z x)
  | .nin, x, .list ds, k => SeqAt.shaped x = true ∧ SeqAt.shaped (.list ds) = true ∧ k (!ds.any fun z => PyData.eqv z x)
  | .inn, x, .tuple ds, k => SeqAt.shaped x = true ∧ SeqAt.shaped (.tuple ds) = true ∧ k (ds.any fun z => PyData.eqv z x)
  | .nin, x, .tuple ds, k => SeqAt.shaped x = true ∧ SeqAt.shaped (.tuple ds) = true ∧ k (!ds.any fun z => PyData.eqv z x)
  | .isN, x, .none, k => k (isNone x)
  | .notN, x, .none, k => k (!isNone x)
  | _, _, _, _ => False

def look (env : Ev) (i : Nat) : Option PyData :=
  match env[i]? with
  | some (.dat d) => some d
  | some (.own ds) => some (.list ds)
  | some (.mu _ ds) => some (.list ds)
  | _ => none
def peek (env : Ev) (i : Nat) (k : PyData → Prop) : Prop :=
  match env[i]? with
  | some (.dat d) => k d
  | some (.own ds) => k (.list ds)
  | some (.mu _ ds) => k (.list ds)
  | _ => False
/-- the name's value, kept as plain data from here on -/
def take (env : Ev) (i : Nat) (k : R → Ev → Prop) : Prop :=
  match env[i]? with
  | some (.dat d) => k (.dat d) env
  | some (.own ds) => k (.dat (.list ds)) (env.set i (.dat (.list ds)))
  | _ => False
def isL (env : Ev) (i : Nat) (p : Prop) : Prop :=
  match env[i]? with
  | some (.own _) => p
  | some (.mu _ _) => p
  | _ => False
def putL (env : Ev) (i : Nat) (f : List PyData → (List PyData → Prop) → Prop) (k : Ev → Prop) : Prop :=
  match env[i]? with
  | some (.own ds) => f ds fun ds' => k (env.set i (.own ds'))
  | some (.mu m ds) => f ds fun ds' => k (env.set i (.mu m ds'))
  | _ => False
/-- several names, one value each -/
def unpN : List Nat → List PyData → Ev → (Ev → Prop) → Prop
  | [], [], env, k => k env
  | i :: is, d :: ds, env, k => unpN is ds (env.set i (.dat d)) k
  | _, _, _, _ => False
def tupW (d : PyData) (k : List PyData → Prop) : Prop :=
  match d with
  | .tuple ds => k ds
  | _ => False
def unpE : List Pn → List PyData → Ev → (Ev → Prop) → Prop
  | [], [], env, k => k env
  | .inl i :: is, d :: ds, env, k => unpE is ds (env.set i (.dat d)) k
  | .inr js :: is, d :: ds, env, k => tupW d fun es => unpN js es env fun env' => unpE is ds env' k
  | _, _, _, _ => False
def asgW (x : Tg) (d : PyData) (env : Ev) (k : Ev → Prop) : Prop :=
  match x with
  | .inl i => k (env.set i (.dat d))
  | .inr is => match d with
    | .tuple ds => unpE is ds env k
    | _ => False
def R.sl : R → Sl
  | .dat d => .dat d
  | .own ds => .own ds
def stR (i : Nat) (r : R) (env : Ev) (k : Ev → Prop) : Prop := k (env.set i r.sl)

def intL : List PyData → Option (List Int)
  | [] => some []
  | .int i :: r => (intL r).map (i :: ·)
  | _ => none
def bools : List PyData → Option (List Bool)
  | [] => some []
  | .bool b :: r => (bools r).map (b :: ·)
  | _ => none
def b1W : B1 → PyData → (R → Prop) → Prop
  | .len, .list ds, k => k (.dat (.int ds.length))
  | .len, .tuple ds, k => k (.dat (.int ds.length))
  | .len, .str s, k => sz s.length ∧ k (.dat (.int s.length))
  | .int, .int i, k => k (.dat (.int i))
  | .int, .bool b, k => k (.dat (.int (if b then 1 else 0)))
  | .abs, .int i, k => k (.dat (.int (if i < 0 then -i else i)))
  | .list, .list ds, k => k (.own ds)
  | .list, .tuple ds, k => k (.own ds)
  | .tuple, .list ds, k => k (.dat (.tuple ds))
  | .tuple, .tuple ds, k => k (.dat (.tuple ds))
  | .sum, .list ds, k => ∃ ns, ds = List.map PyData.int ns ∧ k (.dat (.int ns.sum))
  | .maxl, .list ds, k => ∃ ns : List Int, ds = List.map PyData.int ns ∧ 0 < ns.length ∧ ∀ m, m ∈ ns → (∀ y, y ∈ ns → y ≤ m) → k (.dat (.int m))
  | .minl, .list ds, k => ∃ ns : List Int, ds = List.map PyData.int ns ∧ 0 < ns.length ∧ ∀ m, m ∈ ns → (∀ y, y ∈ ns → m ≤ y) → k (.dat (.int m))
  | .sorted, .list ds, k => ∃ ns : List Int, ds = List.map PyData.int ns ∧ ∀ ns' : List Int, ns'.Perm ns → ns'.Pairwise (· ≤ ·) → k (.own (ns'.map PyData.int))
  | .repr, d, k => d.showable = true ∧ d.hasDict = false ∧ d.depth ≤ 40 ∧ sz d.shown.length ∧ k (.dat (.str d.shown))
  | .str, .int i, k => i.natAbs.log2 < 1920 ∧ k (.dat (.str (toString i)))
  | .str, .str x, k => k (.dat (.str x))
  | .bool, .bool b, k => k (.dat (.bool b))
  | .any, .list ds, k => ∃ bs, ds = List.map PyData.bool bs ∧ k (.dat (.bool (bs.any id)))
  | .all, .list ds, k => ∃ bs, ds = List.map PyData.bool bs ∧ k (.dat (.bool (bs.all id)))
  | _, _, _ => False
def b2W : B2 → PyData → PyData → (R → Prop) → Prop
  | .min, .int i, .int j, k => k (.dat (.int (if j < i then j else i)))
  | .max, .int i, .int j, k => k (.dat (.int (if j > i then j else i)))
  | _, _, _, _ => False
def m1W : MT1 → Str → PyData → (R → Prop) → Prop
  | .join, a, .list ds, k => ∃ ys, ds = List.map PyData.str ys ∧ (ys.map (·.length)).sum + ys.length * a.length ≤ 16777216 ∧ k (.dat (.str (Txt.join a ys)))
  | .join, a, .tuple ds, k => ∃ ys, ds = List.map PyData.str ys ∧ (ys.map (·.length)).sum + ys.length * a.length ≤ 16777216 ∧ k (.dat (.str (Txt.join a ys)))
  | .split, a, .str b, k => (b.length == 0) = false ∧ sz (a.length + 2) ∧ k (.own ((Txt.split a b).map PyData.str))
  | .starts, a, .str b, k => k (.dat (.bool (Txt.startswith a b)))
  | _, _, _, _ => False
def strW (d : PyData) (k : Str → Prop) : Prop :=
  match d with
  | .str x => k x
  | _ => False
def listW (d : PyData) (p : Prop) : Prop :=
  match d with
  | .list _ => p
  | _ => False
def lstW (d : PyData) (k : List PyData → Prop) : Prop :=
  match d with
  | .list ds => k ds
  | _ => False
def libW : LF → PyData → PyData → (R → Prop) → Prop
  | .lcm, .int i, .int j, k => i.natAbs.log2 < 13000 ∧ j.natAbs.log2 < 13000 ∧ k (.dat (.int (Nat.lcm i.natAbs j.natAbs : Nat)))
  | .gcd, .int i, .int j, k => k (.dat (.int (Nat.gcd i.natAbs j.natAbs : Nat)))
  | _, _, _, _ => False
/-- the first place of an equal one -/
def lixW (x y : PyData) (k : R → Prop) : Prop :=
  match x with
  | .list ds => SeqAt.shaped (.list ds) = true ∧ SeqAt.shaped y = true ∧ ∃ j z, ds[j]? = some z ∧ PyData.eqv z y = true ∧ (∀ m z', m < j → ds[m]? = some z' → PyData.eqv z' y = false) ∧ k (.dat (.int (j : Nat)))
  | _ => False
def enumD : Int → List PyData → List PyData
  | _, [] => []
  | n, d :: ds => .tuple [.int n, d] :: enumD (n + 1) ds
def zipD : List PyData → List PyData → List PyData
  | a :: as, b :: bs => .tuple [a, b] :: zipD as bs
  | _, _ => []
def chars (x : Str) : List PyData := x.cps.toList.map fun c => .str ⟨#[c]⟩
def walkL (d : PyData) (k : List PyData → Prop) : Prop :=
  match d with
  | .list ds => k ds
  | .tuple ds => k ds
  | .str x => k (chars x)
  | _ => False
def enumW (d : PyData) (k : List PyData → Prop) : Prop :=
  match d with
  | .list ds => k (enumD 0 ds)
  | .tuple ds => k (enumD 0 ds)
  | _ => False
def zipW (d e : PyData) (k : List PyData → Prop) : Prop :=
  match d, e with
  | .list ds, .list es => k (zipD ds es)
  | .tuple ds, .tuple es => k (zipD ds es)
  | _, _ => False
def setAll (env : Ev) : List Nat → Sl → Ev
  | [], _ => env
  | i :: is, s => setAll (env.set i s) is s
def isTy : PyData → TY → Bool
  | .int _, .int => true
  | .bool _, .int => true
  | .bool _, .bool => true
  | .str _, .str => true
  | .list _, .list => true
  | .tuple _, .tuple => true
  | .none, .non => true
  | _, _ => false
def ixW : PyData → PyData → (R → Prop) → Prop
  | .list ds, .int i, k => ∃ d, atI ds i = some d ∧ k (.dat d)
  | .tuple ds, .int i, k => ∃ d, atI ds i = some d ∧ k (.dat d)
  | .str s, .int i, k => sz s.length ∧ ∃ c, atI s.cps.toList i = some c ∧ k (.dat (.str ⟨#[c]⟩))
  | _, _, _ => False
def cutD (ds : List PyData) (lo hi : Option Int) : List PyData := (ds.drop (HT.sIx ds.length 0 lo)).take (HT.sIx ds.length ds.length hi - HT.sIx ds.length 0 lo)
def slW (d : PyData) (lo hi : Option Int) (k : R → Prop) : Prop :=
  match d with
  | .list ds => k (.own (cutD ds lo hi))
  | .tuple ds => k (.dat (.tuple (cutD ds lo hi)))
  | .str z => sz z.length ∧ k (.dat (.str (cutS z lo hi)))
  | _ => False
/-- xs[::-1] -/
def revW (d : PyData) (k : R → Prop) : Prop :=
  match d with
  | .list ds => k (.own ds.reverse)
  | .tuple ds => k (.dat (.tuple ds.reverse))
  | _ => False
def partW (l : List PyData) (k : Option Int → Prop) : Prop :=
  match l with
  | [] => k none
  | [.int i] => k (some i)
  | _ => False
def wipeE (env : Ev) : List Nat → Ev
  | [] => env
  | i :: is => (wipeE env is).set i .no
def unR (env env' : Ev) : List Nat → Ev
  | [] => env'
  | i :: is => (unR env env' is).set i (env.getD i .no)
/-- the comprehension's own names hold plain data or nothing -/
def plainE (env : Ev) : List Nat → Prop
  | [] => True
  | i :: is => match env[i]? with
    | some .no => plainE env is
    | some (.dat _) => plainE env is
    | _ => False
def agOf (env : Ev) : List (Sum PyData Nat) → Option (List Ag)
  | [] => some []
  | .inl d :: r => (agOf env r).map (Ag.d d :: ·)
  | .inr i :: r => match env[i]? with
    | some (.own ds) => (agOf env r).map (Ag.m ds :: ·)
    | some (.mu _ ds) => (agOf env r).map (Ag.m ds :: ·)
    | _ => none
def mutsOf : List (Sum PyData Nat) → List Nat
  | [] => []
  | .inl _ :: r => mutsOf r
  | .inr i :: r => i :: mutsOf r
def nodupB : List Nat → Bool
  | [] => true
  | i :: is => !is.contains i && nodupB is
def putM (env : Ev) (i : Nat) (ds : List PyData) : Ev :=
  match env[i]? with
  | some (.own _) => env.set i (.own ds)
  | some (.mu m _) => env.set i (.mu m ds)
  | _ => env
def putMs (env : Ev) : List Nat → List (List PyData) → Ev
  | i :: is, ds :: r => putMs (putM env i ds) is r
  | _, _ => env

def forW (step : PyData → Ev → (Ev → Prop) → Prop) (nx : Ev → Prop) : List PyData → Ev → Prop
  | [], env => nx env
  | d :: ds, env => step d env (forW step nx ds)
def lcW (step : PyData → Ev → (Option PyData → Ev → Prop) → Prop) (nx : List PyData → Ev → Prop) : List PyData → List PyData → Ev → Prop
  | [], acc, env => nx acc env
  | d :: ds, acc, env => step d env fun o env' => match o with
    | some y => acc.length < sizeLine ∧ lcW step nx ds (acc ++ [y]) env'
    | none => lcW step nx ds acc env'
def rangeD (lo : Int) (n : Nat) : List PyData := (List.range n).map fun (i : Nat) => PyData.int (lo + i)
def inR (i : Int) : Prop := -(2 ^ 62) ≤ i ∧ i < 2 ^ 62

def kE (x : Xc → Ev → Prop) (e : R → Ev → Prop) : K := ⟨e, fun _ _ => False, fun _ _ => False, fun _ _ => False, fun _ => False, fun _ => False, fun _ => False, fun _ _ => False, x⟩
def kA (x : Xc → Ev → Prop) (a : List (Sum PyData Nat) → Ev → Prop) : K := ⟨fun _ _ => False, a, fun _ _ => False, fun _ _ => False, fun _ => False, fun _ => False, fun _ => False, fun _ _ => False, x⟩
def kT (x : Xc → Ev → Prop) (t : Bool → Ev → Prop) : K := ⟨fun _ _ => False, fun _ _ => False, t, fun _ _ => False, fun _ => False, fun _ => False, fun _ => False, fun _ _ => False, x⟩
def kI (x : Xc → Ev → Prop) (i : List PyData → Ev → Prop) : K := ⟨fun _ _ => False, fun _ _ => False, fun _ _ => False, i, fun _ => False, fun _ => False, fun _ => False, fun _ _ => False, x⟩
/-- the ends of a def's body -/
def kB (nx : Ev → Prop) (rt : R → Ev → Prop) (x : Xc → Prop) : K := ⟨fun _ _ => False, fun _ _ => False, fun _ _ => False, fun _ _ => False, nx, fun _ => False, fun _ => False, rt, fun e _ => x e⟩
/-- another end behind the statement; other ends of a loop's turn -/
def K.on (k : K) (nx : Ev → Prop) : K := ⟨k.e, k.a, k.t, k.i, nx, k.bk, k.ct, k.rt, k.x⟩
/-- other ways out of a try's body -/
def K.ox (k : K) (x : Xc → Ev → Prop) : K := ⟨k.e, k.a, k.t, k.i, k.nx, k.bk, k.ct, k.rt, x⟩
/-- no exception is named any more -/
def cleanE (env : Ev) : Prop :=
  match env with
  | [] => True
  | .exc _ :: _ => False
  | _ :: r => cleanE r
/-- the ends of an except suite: its name is gone -/
def K.su (k : K) (i : Nat) : K := ⟨k.e, k.a, k.t, k.i, fun e => cleanE (e.set i .no) ∧ k.nx (e.set i .no), fun e => cleanE (e.set i .no) ∧ k.bk (e.set i .no), fun e => cleanE (e.set i .no) ∧ k.ct (e.set i .no), fun r e => cleanE (e.set i .no) ∧ k.rt r (e.set i .no), fun _ _ => False⟩
def K.lp (k : K) (c b : Ev → Prop) : K := ⟨k.e, k.a, k.t, k.i, c, b, c, k.rt, k.x⟩

/-- the arguments of a display: plain data alone -/
def dats : List (Sum PyData Nat) → Option (List PyData)
  | [] => some []
  | .inl d :: r => (dats r).map (d :: ·)
  | .inr _ :: _ => none
def bothW (b : Bool) (p q : Prop) : Prop :=
  match b with
  | true => p
  | false => q
def boolW (d : PyData) (k : Bool → Prop) : Prop :=
  match d with
  | .bool b => k b
  | _ => False
def truthW (d : PyData) (k : Bool → Prop) : Prop :=
  match d with
  | .none => k false
  | .bool b => k b
  | .int i => k (i != 0)
  | .str s => sz s.length ∧ k ((s.length : Int) != 0)
  | .list ds => k (!ds.isEmpty)
  | .tuple ds => k (!ds.isEmpty)
  | .dict _ => False
def optI : N → Bool
  | .nil => true
  | _ => false
def intW (d : PyData) (k : Int → Prop) : Prop :=
  match d with
  | .int i => k i
  | _ => False

/-- x op= y, of ints -/
def augI : BO → Int → Int → Int → Prop
  | .add, a, b, z => a + b = z
  | .sub, a, b, z => a - b = z
  | _, _, _, _ => False
def augW (o : BO) (x y : PyData) (k : Int → Prop) : Prop :=
  match o, x, y with
  | .add, .int a, .int b => k (a + b)
  | .sub, .int a, .int b => k (a - b)
  | _, _, _ => False
/-- an item of an own list, an int -/
def itemW (env : Ev) (i : Nat) (z : Int) (k : Int → Prop) : Prop :=
  peek env i fun d => match d with
  | .list ds => ∃ x, atI ds z = some (.int x) ∧ k x
  | _ => False
def N.isV : N → Option Nat
  | .v i => some i
  | _ => none
section
variable (F : Fs) (C : Nat → Option PyData)
def wp : N → Ev → K → Prop
  | .v i, env, k => take env i k.e
  | .g x, env, k => match C x with
    | some d => k.e (.dat d) env
    | none => False
  | .c d, env, k => k.e (.dat d) env
  | .bin o a b, env, k => match a.isV, b.isV with
    | some i, some j => peek env i fun x => peek env j fun y => binW o x y fun r => k.e r env
    | some i, none => peek env i fun _ => wp b env (kE k.x fun rb env1 => peek env1 i fun x => binW o x rb.d fun r => k.e r env1)
    | none, some j => wp a env (kE k.x fun ra env1 => peek env1 j fun y => binW o ra.d y fun r => k.e r env1)
    | none, none => wp a env (kE k.x fun ra env1 => wp b env1 (kE k.x fun rb env2 => binW o ra.d rb.d fun r => k.e r env2))
  | .neg a, env, k => wp a env (kE k.x fun r env1 => intW r.d fun i => k.e (.dat (.int (-i))) env1)
  | .cmp o a b, env, k => match a.isV, b.isV with
    | some i, some j => peek env i fun x => peek env j fun y => cmpW o x y fun r => k.e (.dat (.bool r)) env
    | some i, none => peek env i fun _ => wp b env (kE k.x fun rb env1 => peek env1 i fun x => cmpW o x rb.d fun r => k.e (.dat (.bool r)) env1)
    | none, some j => wp a env (kE k.x fun ra env1 => peek env1 j fun y => cmpW o ra.d y fun r => k.e (.dat (.bool r)) env1)
    | none, none => wp a env (kE k.x fun ra env1 => wp b env1 (kE k.x fun rb env2 => cmpW o ra.d rb.d fun r => k.e (.dat (.bool r)) env2))
  | .chain o o' a b c, env, k => wp a env (kE k.x fun ra env1 => wp b env1 (kE k.x fun rb env2 => cmpW o ra.d rb.d fun t =>
      bothW t (wp c env2 (kE k.x fun rc env3 => cmpW o' rb.d rc.d fun u => k.e (.dat (.bool u)) env3)) (k.e (.dat (.bool false)) env2)))
  | .nott a, env, k => wp a env (kE k.x fun r env1 => boolW r.d fun b => k.e (.dat (.bool (!b))) env1)
  | .andd a b, env, k => wp a env (kE k.x fun r env1 => boolW r.d fun t => bothW t (wp b env1 k) (k.e (.dat (.bool false)) env1))
  | .orr a b, env, k => wp a env (kE k.x fun r env1 => boolW r.d fun t => bothW t (k.e (.dat (.bool true)) env1) (wp b env1 k))
  | .one a, env, k => wp a env k
  | .ite t a b, env, k => wp t env (kT k.x fun c env1 => bothW c (wp a env1 k) (wp b env1 k))
  | .call f as, env, k => wp as env (kA k.x fun l env1 => match agOf env1 l with
    | some ags => match nodupB (mutsOf l) with
      | true => F f ags (fun r ms => k.e r (putMs env1 (mutsOf l) ms)) fun e => k.x e (wipeE env1 (mutsOf l))
      | false => False
    | none => False)
  | .b1 f a, env, k => match a.isV with
    | some i => peek env i fun d => b1W f d fun r => k.e r env
    | none => wp a env (kE k.x fun r env1 => b1W f r.d fun r' => k.e r' env1)
  | .b2 f a b, env, k => wp a env (kE k.x fun ra env1 => wp b env1 (kE k.x fun rb env2 => b2W f ra.d rb.d fun r => k.e r env2))
  | .isi a ts, env, k => match a.isV with
    | some i => peek env i fun d => k.e (.dat (.bool (ts.any (isTy d)))) env
    | none => wp a env (kE k.x fun r env1 => k.e (.dat (.bool (ts.any (isTy r.d)))) env1)
  | .ix a b, env, k => match a.isV, b.isV with
    | some i, some j => peek env i fun x => peek env j fun y => ixW x y fun r => k.e r env
    | some i, none => peek env i fun _ => wp b env (kE k.x fun rb env1 => peek env1 i fun x => ixW x rb.d fun r => k.e r env1)
    | none, some j => wp a env (kE k.x fun ra env1 => peek env1 j fun y => ixW ra.d y fun r => k.e r env1)
    | none, none => wp a env (kE k.x fun ra env1 => wp b env1 (kE k.x fun rb env2 => ixW ra.d rb.d fun r => k.e r env2))
  | .sl a lo hi, env, k => match a.isV with
    | some i => peek env i fun _ => wp lo env (kI k.x fun l env1 => wp hi env1 (kI k.x fun h env2 => partW l fun lo' => partW h fun hi' => peek env2 i fun d => slW d lo' hi' fun r => k.e r env2))
    | none => wp a env (kE k.x fun ra env0 => wp lo env0 (kI k.x fun l env1 => wp hi env1 (kI k.x fun h env2 => partW l fun lo' => partW h fun hi' => slW ra.d lo' hi' fun r => k.e r env2)))
  | .rv a, env, k => wp a env (kE k.x fun r env1 => revW r.d fun r' => k.e r' env1)
  | .tup es, env, k => wp es env (kA k.x fun l env1 => match dats l with
    | some ds => k.e (.dat (.tuple ds)) env1
    | none => False)
  | .lst es, env, k => wp es env (kA k.x fun l env1 => match dats l with
    | some ds => k.e (.own ds) env1
    | none => False)
  | .lc own x it cs e, env, k => wp it env (kI k.x fun ds env1 => plainE env1 own ∧
      lcW (fun d env2 c => asgW x d env2 fun env3 => wp cs env3 (kT (fun _ _ => False) fun b env4 => plainE env4 own ∧ bothW b (wp e env4 (kE (fun _ _ => False) fun r env5 => plainE env5 own ∧ c (some r.d) (wipeE env5 own))) (c none (wipeE env4 own))))
        (fun acc env6 => k.e (.own acc) (unR env1 env6 own)) ds [] (wipeE env1 own))
  | .slc i own x it cs e, env, k => wp it env (kI k.x fun ds env1 => plainE env1 own ∧
      lcW (fun d env2 c => asgW x d env2 fun env3 => wp cs env3 (kT (fun _ _ => False) fun b env4 => plainE env4 own ∧ bothW b (wp e env4 (kE (fun _ _ => False) fun r env5 => plainE env5 own ∧ c (some r.d) (wipeE env5 own))) (c none (wipeE env4 own))))
        (fun acc env6 => k.nx ((unR env1 env6 own).set i (.own acc))) ds [] (wipeE env1 own))
  | .pop i, env, k => match env[i]? with
    | some (.own ds) => ∃ y, ds[ds.length - 1]? = some y ∧ k.e (.dat y) (env.set i (.own ds.dropLast))
    | some (.mu m ds) => ∃ y, ds[ds.length - 1]? = some y ∧ k.e (.dat y) (env.set i (.mu m ds.dropLast))
    | _ => False
  | .popAt i a, env, k => isL env i <| wp a env (kE k.x fun r env1 => intW r.d fun z => inR z ∧ match env1[i]? with
    | some (.own ds) => ∃ j y, seqIndex? z ds.length = some j ∧ ds[j]? = some y ∧ k.e (.dat y) (env1.set i (.own (ds.eraseIdx j)))
    | some (.mu m ds) => ∃ j y, seqIndex? z ds.length = some j ∧ ds[j]? = some y ∧ k.e (.dat y) (env1.set i (.mu m (ds.eraseIdx j)))
    | _ => False)
  | .lib f a b, env, k => wp a env (kE k.x fun ra env1 => wp b env1 (kE k.x fun rb env2 => libW f ra.d rb.d fun r => k.e r env2))
  | .m1 m a b, env, k => wp a env (kE k.x fun ra env1 => strW ra.d fun x => match b.isV with
    | some j => peek env1 j fun y => m1W m x y fun r => k.e r env1
    | none => wp b env1 (kE k.x fun rb env2 => m1W m x rb.d fun r => k.e r env2))
  | .lix a b, env, k => match a.isV with
    | some i => peek env i fun x => listW x <| wp b env (kE k.x fun rb env1 => peek env1 i fun x => lixW x rb.d fun r => k.e r env1)
    | none => wp a env (kE k.x fun ra env1 => listW ra.d <| wp b env1 (kE k.x fun rb env2 => lixW ra.d rb.d fun r => k.e r env2))
  | .callD f as ds, env, k => wp as env (kA k.x fun l env1 => match agOf env1 (l ++ ds.map .inl) with
    | some ags => match nodupB (mutsOf (l ++ ds.map .inl)) with
      | true => F f ags (fun r ms => k.e r (putMs env1 (mutsOf (l ++ ds.map .inl)) ms)) fun e => k.x e (wipeE env1 (mutsOf (l ++ ds.map .inl)))
      | false => False
    | none => False)
  | .xw i, env, k => match env[i]? with
    | some (.exc x) => k.e (.dat (.str x.word)) env
    | _ => False
  | .xp i, env, k => match env[i]? with
    | some (.exc x) => k.e (.dat x.place) env
    | _ => False
  | .xi i nm ts, env, k => match env[i]? with
    | some (.exc x) => k.e (.dat (.bool (ts.contains x.cls))) env
    | _ => False
  | .nil, env, k => k.a [] env
  | .sno, env, k => k.i [] env
  | .sat e, env, k => wp e env (kE k.x fun r env1 => intW r.d fun i => k.i [.int i] env1)
  | .cons a r, env, k => wp a env (kE k.x fun ra env1 => wp r env1 (kA k.x fun l env2 => k.a (.inl ra.d :: l) env2))
  | .consM i r, env, k => peek env i fun _ => wp r env (kA k.x fun l env1 => k.a (.inr i :: l) env1)
  | .tcmp o a b, env, k => match a.isV, b.isV with
    | some i, some j => peek env i fun x => peek env j fun y => cmpW o x y fun r => k.t r env
    | some i, none => peek env i fun _ => wp b env (kE k.x fun rb env1 => peek env1 i fun x => cmpW o x rb.d fun r => k.t r env1)
    | none, some j => wp a env (kE k.x fun ra env1 => peek env1 j fun y => cmpW o ra.d y fun r => k.t r env1)
    | none, none => wp a env (kE k.x fun ra env1 => wp b env1 (kE k.x fun rb env2 => cmpW o ra.d rb.d fun r => k.t r env2))
  | .tchain o o' a b c, env, k => wp a env (kE k.x fun ra env1 => wp b env1 (kE k.x fun rb env2 => cmpW o ra.d rb.d fun t =>
      bothW t (wp c env2 (kE k.x fun rc env3 => cmpW o' rb.d rc.d fun u => k.t u env3)) (k.t false env2)))
  | .tnot a, env, k => wp a env (kT k.x fun b env1 => k.t (!b) env1)
  | .tand a b, env, k => wp a env (kT k.x fun t env1 => bothW t (wp b env1 k) (k.t false env1))
  | .tor a b, env, k => wp a env (kT k.x fun t env1 => bothW t (k.t true env1) (wp b env1 k))
  | .tone a, env, k => wp a env k
  | .tyes, env, k => k.t true env
  | .tval a, env, k => match a.isV with
    | some i => peek env i fun d => truthW d fun b => k.t b env
    | none => wp a env (kE k.x fun r env1 => truthW r.d fun b => k.t b env1)
  | .itl a, env, k => wp a env (kE k.x fun r env1 => walkL r.d fun ds => k.i ds env1)
  | .iten a, env, k => wp a env (kE k.x fun r env1 => enumW r.d fun ds => k.i ds env1)
  | .itz a b, env, k => wp a env (kE k.x fun ra env1 => wp b env1 (kE k.x fun rb env2 => zipW ra.d rb.d fun ds => k.i ds env2))
  | .itr1 a, env, k => wp a env (kE k.x fun r env1 => intW r.d fun n => inR n ∧ k.i (rangeD 0 n.toNat) env1)
  | .itr2 a b, env, k => wp a env (kE k.x fun ra env1 => wp b env1 (kE k.x fun rb env2 => intW ra.d fun i => intW rb.d fun j => inR i ∧ inR j ∧ k.i (rangeD i (j - i).toNat) env2))
  | .set i e, env, k => wp e env (kE k.x fun r env1 => stR i r env1 k.nx)
  | .unp is e, env, k => wp e env (kE k.x fun r env1 => asgW (.inr is) r.d env1 k.nx)
  | .seti i b e, env, k => wp e env (kE k.x fun r env1 => isL env1 i <| wp b env1 (kE k.x fun rb env2 => intW rb.d fun z => putL env2 i (fun ds c => ∃ j, ixN ds.length z = some j ∧ c (ds.set j r.d)) k.nx))
  | .aug i o e, env, k => peek env i fun _ => wp e env (kE k.x fun r env1 => peek env1 i fun x => augW o x r.d fun z => k.nx (env1.set i (.dat (.int z))))
  | .augi i o b e, env, k => isL env i <| wp b env (kE k.x fun rb env1 => intW rb.d fun z => itemW env1 i z fun x => wp e env1 (kE k.x fun r env2 => augW o (.int x) r.d fun y => putL env2 i (fun ds c => ∃ j, ixN ds.length z = some j ∧ c (ds.set j (.int y))) k.nx))
  | .ex e, env, k => wp e env (kE k.x fun _ env1 => k.nx env1)
  | .app i e, env, k => isL env i <| wp e env (kE k.x fun r env1 => putL env1 i (fun ds c => ds.length < sizeLine ∧ c (ds ++ [r.d])) k.nx)
  | .ext i e, env, k => isL env i <| wp e env (kE k.x fun r env1 => lstW r.d fun es => putL env1 i (fun ds c => sz (ds.length + es.length) ∧ c (ds ++ es)) k.nx)
  | .ins i b e, env, k => isL env i <| wp b env (kE k.x fun rb env1 => intW rb.d fun z => wp e env1 (kE k.x fun r env2 => putL env2 i (fun ds c => ds.length < sizeLine ∧ 0 ≤ z ∧ z < 2 ^ 63 ∧ c (ds.take z.toNat ++ [r.d] ++ ds.drop z.toNat)) k.nx))
  | .setc is e, env, k => wp e env (kE k.x fun r env1 => k.nx (setAll env1 is (.dat r.d)))
  | .ret e, env, k => wp e env (kE k.x fun r env1 => k.rt r env1)
  | .retn, env, k => k.rt (.dat .none) env
  | .retv i, env, k => match env[i]? with
    | some (.own ds) => k.rt (.own ds) (env.set i .no)
    | some (.dat d) => k.rt (.dat d) env
    | _ => False
  | .ifs t a b, env, k => wp t env (kT k.x fun c env1 => bothW c (wp a env1 k) (wp b env1 k))
  | .forr x it b, env, k => wp it env (kI k.x fun ds env1 => forW (fun d env2 c => asgW x d env2 fun env3 => wp b env3 (k.lp c k.nx)) k.nx ds env1)
  | .whl t b, env, k => ∃ (I : Ev → Prop) (μ : Ev → Nat), I env ∧ ∀ env1, I env1 → wp t env1 (kT k.x fun c env2 => bothW c (wp b env2 (k.lp (fun e => I e ∧ μ e < μ env1) k.nx)) (k.nx env2))
  | .brk, env, k => k.bk env
  | .ctn, env, k => k.ct env
  | .pas, env, k => k.nx env
  | .rai c w e, env, k => wp e env (kE k.x fun r env1 => k.x ⟨c, w, r.d⟩ env1)
  | .rai0 c w, env, k => k.x ⟨c, w, .none⟩ env
  | .tryx i ts b s, env, k => wp b env (k.ox fun e env1 => match ts.contains e.cls with
    | true => wp s (env1.set i (.exc e)) (k.su i)
    | false => k.x e env1)
  | .try2 i ts b s us g, env, k => wp b env (k.ox fun e env1 => match ts.contains e.cls with
    | true => wp s (env1.set i (.exc e)) (k.su i)
    | false => match us.contains e.cls with
      | true => wp g (env1.set i (.exc e)) (k.su i)
      | false => k.x e env1)
  | .done, env, k => k.nx env
  | .seq s r, env, k => wp s env (k.on fun env1 => wp r env1 k)
end
structure Fn where
  ps : List Bool
  locals : Nat
  body : N
def startE (l : Nat) : Nat → List Ag → Ev
  | _, [] => List.replicate l .no
  | m, .d d :: r => .dat d :: startE l m r
  | m, .m ds :: r => .mu m ds :: startE l (m + 1) r
def Ag.isM : Ag → Bool
  | .d _ => false
  | .m _ => true
/-- what stands at the changed parameters in the end -/
def mutEnd (env : Ev) : Nat → Nat → List Bool → Option (List (List PyData))
  | _, _, [] => some []
  | i, m, false :: r => mutEnd env (i + 1) m r
  | i, m, true :: r => match env[i]? with
    | some (.mu k ds) => match k == m with
      | true => (mutEnd env (i + 1) (m + 1) r).map (ds :: ·)
      | false => none
    | _ => none
def retW (env : Ev) (ps : List Bool) (Q : List (List PyData) → Prop) : Prop :=
  match mutEnd env 0 0 ps with
  | some ms => Q ms
  | none => False
def bodyW (F : Fs) (C : Nat → Option PyData) (P : Fn) (ags : List Ag) (Q : R → List (List PyData) → Prop) (x : Xc → Prop) : Prop :=
  ags.map Ag.isM = P.ps ∧ wp F C P.body (startE P.locals 0 ags)
    (kB (fun env => retW env P.ps (Q (.dat .none))) (fun r env => retW env P.ps (Q r)) x)
def Γ0 (T : List Fn) (C : Nat → Option PyData) : Nat → Fs
  | 0 => fun _ _ _ _ => False
  | n + 1 => fun f ags Q x => ∃ P, T[f]? = some P ∧ bodyW (Γ0 T C n) C P ags Q x
theorem Γ_ex : ∃ g : List Fn → (Nat → Option PyData) → Nat → Fs, g = Γ0 := ⟨_, rfl⟩
@[irreducible] noncomputable def Γ : List Fn → (Nat → Option PyData) → Nat → Fs := Classical.choose Γ_ex
theorem Γ_eq (T : List Fn) (C : Nat → Option PyData) (n : Nat) : Γ T C n = Γ0 T C n := by
  unfold Γ
  rw [Classical.choose_spec Γ_ex]
theorem Γ_succ {T : List Fn} {C : Nat → Option PyData} {n f : Nat} {ags : List Ag} {Q : R → List (List PyData) → Prop} {x : Xc → Prop} {P : Fn} (h : T[f]? = some P) (q : bodyW (Γ T C n) C P ags Q x) : Γ T C (n + 1) f ags Q x := by
  rw [Γ_eq]
  rw [Γ_eq] at q
  exact ⟨P, h, q⟩
end Pi

/-! enumerate of a tuple; a tuple times an int; a list extended by any list. -/
namespace Pi
open PySem L2 PySem.Spec PyProof.Rows
open AutoSeq1 (wpAny_loadPart')
/-- the tuple at a, each item in a new pair -/
def IteT (K : PySem.W.Frag) (a : Addr) : It :=
  ⟨fun i H => ∃ (xs : List V) (x : V), SqT K H a xs ∧ xs[i]? = some x, fun i H v H' => ∃ T x, v = .ref T ∧ H T = none ∧ H' = upd H T (.tup [.int (i : Nat), x]) ∧ ∀ xs, SqT K H a xs → xs[i]? = some x, fun i H => ∃ xs : List V, SqT K H a xs ∧ xs.length ≤ i⟩
theorem tup_apart {h : Heap} {a it : Addr} {i : Nat} {xs : Array Value} (ht : h.IsTuple a xs) (hi : h.IsTupleIter it a i) : a ≠ it := by
  rintro rfl
  obtain ⟨o, e, c, _⟩ := ht
  obtain ⟨o2, e2, c2, _⟩ := hi
  rw [e] at e2
  cases e2
  rw [c] at c2
  exact absurd c2 (by decide)
theorem tup_apart2 {h : Heap} {a e it : Addr} {i : Int} {old : Value} {xs : Array Value} (ht : h.IsTuple a xs) (hi : IsEnum h e it i old) : e ≠ a := by
  rintro rfl
  obtain ⟨o, q, c, _⟩ := ht
  rw [show h.get? e = _ from hi] at q
  cases q
  exact absurd (show Value.type "enumerate" = Value.type "tuple" from c) (by decide)
section
variable {prog : Program} {w : World} {A : Around} {E : Value → Shared → Prop} {s : Shared}
theorem enumT_end {e it l : Addr} {i : Nat} {items : Array Value} {old : Value} {Q : Option Value → Shared → Prop} (hh : A.handled = none)
    (he : IsEnum s.heap e it i old) (hit : s.heap.IsTupleIter it l i) (hl : s.heap.IsTuple l items) (hx : items[i]? = none)
    (hQ : ∀ h', Heap.ExtBut it s.heap h' → Q none { s with heap := h' }) : wpAny (model prog w) A (pyNext (.ref e)) Q E s := by
  have hT : s.TypeIs (.ref e) "enumerate" := ⟨_, he, rfl⟩
  unfold pyNext
  refine wpAny_bind (wpAny_attempt (wpAny_callSpecial?_slot (name := Str.ofString "__next__") hT F.slot_enumerate_next
    (wpAny_call_entry F.slot_enumerate_next hT F.entry_enumerate_next ?_ (F.args_enumerate_next_1 _))))
  show wpAny _ _ (field (.ref e) 2 >>= _) _ _ _
  refine wpAny_bind (wpAny_field he rfl (x := .ref it) rfl ?_)
  refine wpAny_bind (wpAny_nextOf_tuple_end hh hit hl hx fun h' x he' hx' => ?_)
  obtain ⟨o, ho, hc⟩ := hx'
  refine wpAny_bind (wpAny_isInstance (T := "StopIteration") (b := true) ⟨o, ho, hc⟩ isSubtype_stop ?_)
  exact wpAny_pure (hQ _ he')
theorem meets_enumerate_newT (l : Addr) (items : Array Value) (n : Nat) (dct : Option Addr) (sl : Array (Option Value)) :
    Meets (Builtin.«enumerate.__new__» ⟨[.type "enumerate", .ref l], []⟩) (fun _ R s => s.heap.get? l = some { cls := .type "tuple", dict := dct, data := .seq items n, slots := sl } ∧
      R (.ok (.ret (.ref (s.heap.push { cls := .type "tuple_iterator", data := .fields #[.ref l, .int 0 0] }).objs.size)))
        { s with heap := (s.heap.push { cls := .type "tuple_iterator", data := .fields #[.ref l, .int 0 0] }).push { cls := .type "enumerate", data := .fields #[.none, .bool false, .ref s.heap.objs.size, rawInt 0, .none, .none] } }) :=
  .of_wp fun prog w A R s h => by
    obtain ⟨hp, g, d, tk, os⟩ := s; obtain ⟨hl, h⟩ := h
    have hsub := sub_enumerate
    have hL : Heap.IsTuple (Shared.heap ⟨hp, g, d, tk, os⟩) l items := ⟨_, hl, rfl, n, rfl⟩
    wp_walk using wpAny_loadPart' hl
    refine wpAny_stack_any fun st => wpAny_pure ?_
    split
    · rename_i c _ _ _ _ _
      cases (c == Value.type "enumerate")
      · wp_walk using wpAny_loadPart' hl, wpAny_pyIter_tuple hL
        exact ⟨_, rfl, h⟩
      · wp_walk using wpAny_loadPart' hl, wpAny_pyIter_tuple hL
        exact ⟨_, rfl, h⟩
    · wp_walk using wpAny_loadPart' hl, wpAny_pyIter_tuple hL
      exact ⟨_, rfl, h⟩
theorem call_enumerate_tuple {l : Addr} {items : Array Value} {Q : Value → Shared → Prop} (hL : s.heap.IsTuple l items)
    (h : ∀ h', IsEnum h' (s.heap.objs.size + 1) s.heap.objs.size 0 .none → h'.IsTupleIter s.heap.objs.size l 0 → h'.objs.size = s.heap.objs.size + 2 →
      (∀ b o, s.heap.get? b = some o → h'.get? b = some o) → Q (.ref (s.heap.objs.size + 1)) { s with heap := h' }) :
    wpAny (model prog w) A (call (.type "enumerate") [.ref l]) Q E s := by
  obtain ⟨⟨c, dct, dt, sl⟩, hl, hc, n, hd⟩ := hL
  replace hc : c = .type "tuple" := hc
  replace hd : dt = .seq items n := hd
  subst hc hd
  refine callType_new F.called_enumerate (by decide) (F.typeCall_enumerate_1 _) (F.newCall_enumerate_1 _) (fun obj => F.args_object_init_2 obj _) F.entry_enumerate_new
    (meets_enumerate_newT l items n dct sl) ⟨hl, ?_⟩
  have hz : (s.heap.push { cls := .type "tuple_iterator", data := .fields #[.ref l, .int 0 0] }).objs.size = s.heap.objs.size + 1 := Heap.size_push ..
  show _ ∧ _
  rw [hz]
  have he : IsEnum ((s.heap.push { cls := .type "tuple_iterator", data := .fields #[.ref l, .int 0 0] }).push
      { cls := .type "enumerate", data := .fields #[.none, .bool false, .ref s.heap.objs.size, rawInt 0, .none, .none] }) (s.heap.objs.size + 1) s.heap.objs.size 0 .none := by
    have := Heap.get?_push_size (s.heap.push { cls := .type "tuple_iterator", data := .fields #[.ref l, .int 0 0] })
      (o := { cls := .type "enumerate", data := .fields #[.none, .bool false, .ref s.heap.objs.size, rawInt 0, .none, .none] }) rfl
    rw [hz] at this; exact this
  refine ⟨⟨_, he, rfl⟩, h _ he ⟨_, Heap.get?_push_of_some _ (Heap.get?_push_size _ rfl), rfl, rfl⟩ (by rw [Heap.size_push, hz]) fun b o x => Heap.get?_push_of_some _ (Heap.get?_push_of_some _ x)⟩
end
theorem turn_enumT {P : Program} {w : World} {K : PySem.W.Frag} {elts : List Expr} {kk : Nat} {tpos : Pos} (a e it : Addr) :
    Turn P w K (.Tuple elts kk tpos) (IteT K a) [e, it] e (fun i h => (∃ old, IsEnum h e it ((i : Nat) : Int) old) ∧ h.IsTupleIter it a i ∧ e ≠ it) where
  mem := by simp
  obj := fun i h st b hb => by
    obtain ⟨⟨old, he⟩, ⟨o, ho, hc, hd⟩, _⟩ := st
    have e' : b = e ∨ b = it := by simpa using hb
    rcases e' with z | z
    · rw [z]; exact ⟨_, he, fun v q => nomatch q⟩
    · rw [z]; exact ⟨o, ho, fun v q => by rw [hd] at q; cases q⟩
  keep := fun i h h' st k => let ⟨⟨old, he⟩, hi, hne⟩ := st; ⟨⟨old, k e (by simp) _ he⟩, hi.at fun o q => k it (by simp) o q, hne⟩
  item := by
    intro X hP hw hK hc i pins s σ H E I hf st hg
    subst hP hw hK
    obtain ⟨⟨old, he⟩, hit, hne⟩ := st
    obtain ⟨xs, x, hq, hx⟩ := hg
    obtain ⟨its, rv, p, hz⟩ := I.tuple hq
    have ht : s.heap.IsTuple a its.toArray := p
    obtain ⟨u, hu, ru⟩ := rv.get hx
    have hel : e < s.heap.objs.size := Heap.lt_size he
    have hil : it < s.heap.objs.size := by obtain ⟨_, q, _⟩ := hit; exact Heap.lt_size q
    have hlt : i < its.toArray.size := by
      rw [List.size_toArray]
      exact (List.getElem?_eq_some_iff.mp hu).1
    refine wpAny_pyNext_enum_itemD (Draws.tuple (prog := X.prog) (w := X.w) (A := X.A.in1) (show X.A.in1.handled = none from I.ok.hd hc) it a (tup_apart ht hit) its.toArray) he ⟨hit, ht⟩ hlt hne (by simp [hne, tup_apart2 ht he]) fun u' h' tk hP ho hst hT hsz hk => ?_
    obtain ⟨hit', ht'⟩ := hst
    have hP : its.toArray[i]? = some u' := hP
    have eu : u' = u := by
      rw [List.getElem?_toArray, hu] at hP
      cases hP; rfl
    subst eu
    refine ⟨_, rfl, wpAny_letOwnedTupleGo_enum (s := { s with heap := h', toks := tk + 1 }) ho fun h'' he' sb => ?_⟩
    have hT2 : h''.get? s.heap.objs.size = some { cls := .type "tuple", data := .seq #[.int i tk, u'] } := (sb.2 _ (Nat.ne_of_gt hel)).trans hT
    have new : ObjOk X.prog X.w (upd H s.heap.objs.size (.tup [.int (i : Nat), x])) h'' s.heap.objs.size (.tup [.int (i : Nat), x]) :=
      ⟨by show 2 ≤ sizeLine; decide, [.int i tk, u'], .cons ⟨_, rfl⟩ (.cons ru .nil), ⟨_, hT2, rfl, _, rfl⟩⟩
    have I1 : Inv X pins σ (upd H s.heap.objs.size (.tup [.int (i : Nat), x])) { s with heap := h'', toks := tk + 1 } :=
      I.turnedNew (ch := [e, it]) (fun b ob hb q => (sb.2 b (fun z => hb (by simp [z]))).trans (hk b ob (fun z => hb (by simp [z])) (fun z => hb (by simp [z])) q)) hf (Nat.le_refl _) new
    refine ⟨.ref s.heap.objs.size, _, I1, rfl, ⟨_, x, rfl, I.hok.fresh (Nat.le_refl _), rfl, fun ys hy => by rw [I.tuple_inj hy hq]; exact hx⟩, ⟨⟨u', ?_⟩, hit'.at fun o q => (sb.2 it (Ne.symm hne)).trans q, hne⟩, fun b hb => ?_⟩
    · have e1 : ((i + 1 : Nat) : Int) = (i : Int) + 1 := by omega
      rw [e1]; exact he'
    · have hb' : b < s.heap.objs.size := by
        have e' : b = e ∨ b = it := by simpa using hb
        rcases e' with z | z
        · rw [z]; exact hel
        · rw [z]; exact hil
      rw [upd_ne (Nat.ne_of_lt hb')]
      exact (hf b hb).1
  done := by
    intro X hP hw hK hc i pins s σ H E I hf st hg
    subst hP hw hK
    obtain ⟨⟨old, he⟩, hit, hne⟩ := st
    obtain ⟨xs, hq, hx⟩ := hg
    obtain ⟨its, rv, p, hz⟩ := I.tuple hq
    have ht : s.heap.IsTuple a its.toArray := p
    obtain ⟨f0, f1, f2, f3, f4, f5⟩ := hf it (by simp)
    have hl := rv.length
    exact enumT_end (I.ok.hd hc) he hit ht (by simp; omega) fun h' eb => ⟨rfl, I.turned (t' := s.toks) (fun b o hb q => eb b o hb q) f0 f1 f3 f4 f5⟩
  self := fun A i s Q E st h => let ⟨⟨_, he⟩, _⟩ := st; wpAny_pyIter_enum he h
def iEnumA (K : PySem.W.Frag) (ta : TA) : TI := fun σ H R => ta σ H fun vs H1 => ∃ a xs, vs = [.ref a] ∧ ((SqL K H1 a xs ∧ R (Ite K a) H1) ∨ (SqT K H1 a xs ∧ R (IteT K a) H1))
theorem pi_enumA {X : Cx} {e : Expr} {ta : TA} {p pos tpos : Pos} {elts : List Expr} {kk : Nat} (hg : Gl X "enumerate") (hm : X.mg "enumerate" = none) (ha : PA X [e] ta) (hs : starEach [e] X.env = [(false, eval e X.env)] := by rfl) :
    PI X (.Tuple elts kk tpos) (.Call (.Name "enumerate" p) [e] [] pos) (iEnumA X.K ta) := by
  refine ⟨fun pins s σ H R I h => ?_⟩
  refine Call_ (ld_blt I hg hm boot_enumerate (PyProof.Rows.callWith_type1 (thn (ha.run pos pins s σ H _ I h) fun us s1 ⟨vs, H1, I1, r1, q1⟩ => ?_) hs rfl))
  obtain ⟨a, xs, ex, q1⟩ := q1
  subst ex
  cases r1 with
  | cons r rr =>
    cases rr
    cases r
    have fp : ∀ b ∈ [s1.heap.objs.size + 1, s1.heap.objs.size], FpOk X pins H1 b := fun b hb => by
      have e' : b = s1.heap.objs.size + 1 ∨ b = s1.heap.objs.size := by simpa using hb
      have hle : s1.heap.objs.size ≤ b := by
        rcases e' with z | z
        · rw [z]; exact Nat.le_add_right _ _
        · rw [z]; exact Nat.le_refl _
      exact I1.fpOk hle (I1.hok.fresh hle)
    rcases q1 with ⟨hq, q⟩ | ⟨hq, q⟩
    · obtain ⟨its, rv, p', hz⟩ := I1.list hq
      refine call_enumerate_list p'.isList fun h' he hit hsz hk => wpAny_pyIter_enum he ?_
      have I2 : Inv X pins σ H1 { s1 with heap := h' } := I1.kept (t' := s1.toks) hk
      exact ⟨s1.heap.objs.size + 1, [s1.heap.objs.size + 1, s1.heap.objs.size], _, _, H1, rfl, I2, turn_enum a (s1.heap.objs.size + 1) s1.heap.objs.size, ⟨⟨.none, he⟩, hit, Nat.succ_ne_self _⟩, fp, q⟩
    · obtain ⟨its, rv, p', hz⟩ := I1.tuple hq
      refine call_enumerate_tuple (show s1.heap.IsTuple a its.toArray from p') fun h' he hit hsz hk => wpAny_pyIter_enum he ?_
      have I2 : Inv X pins σ H1 { s1 with heap := h' } := I1.kept (t' := s1.toks) hk
      exact ⟨s1.heap.objs.size + 1, [s1.heap.objs.size + 1, s1.heap.objs.size], _, _, H1, rfl, I2, turn_enumT a (s1.heap.objs.size + 1) s1.heap.objs.size, ⟨⟨.none, he⟩, hit, Nat.succ_ne_self _⟩, fp, q⟩
/-- tuple * int: itself, or a new one -/
theorem tuple_mulS (l : Addr) (items : Array Value) (n : Nat) (dd : Option Addr) (sl : Array (Option Value)) (x : Int) (u : Tok) (c0 : (decide (x < -(2 ^ 63)) || decide (x ≥ 2 ^ 63)) = false) (c1 : (items.isEmpty || x == 1) = true) :
    Meets (Builtin.«tuple.__mul__» ⟨[.ref l, .int x u], []⟩) (fun _ R s => s.heap.get? l = some { cls := .type "tuple", dict := dd, data := .seq items n, slots := sl } ∧ R (.ok (.ret (.ref l))) s) :=
  .of_wp fun prog w A R s h => by
    obtain ⟨hp, g, d, tk, os⟩ := s
    obtain ⟨hl, h⟩ := h
    have f1 := AutoSeq1.idx_int
    wp_walk using wpAny_loadPart' hl
    repeat (first
      | (refine wpAny_ite_false (decide_eq_false (by rw [c0]; exact Bool.false_ne_true)) ?_; wp_walk using wpAny_loadPart' hl)
      | (refine wpAny_ite_true (decide_eq_true c1) ?_; wp_walk using wpAny_loadPart' hl))
    exact ⟨_, rfl, h⟩
def rRepA (K : PySem.W.Frag) : R2 := fun x y H Q => ∃ l n xs, x = .ref l ∧ y = .int n ∧ SqT K H l xs ∧ 1 ≤ n ∧ n ≤ 1000 ∧ xs.length ≤ 1000 ∧ (xs = [] ∨ n = 1 → Q (.ref l) H) ∧ ∀ p, H p = none → Q (.ref p) (upd H p (.tup (List.replicate n.toNat xs).flatten))
theorem op_repA {X : Cx} : OpR X (binaryOp .Mult) (rRepA X.K) := by
  intro pins s σ H x y v u Q I rx ry h
  obtain ⟨l, k, xs, rfl, rfl, hT, h1, h2, hz, q0, q⟩ := h
  by_cases hs : xs = [] ∨ k = 1
  · have q0 := q0 hs
    cases rx
    obtain ⟨t, rfl⟩ := ry
    obtain ⟨its, r, ⟨⟨cls, dd, data, sl⟩, ho, hc, n, hd⟩, hs2⟩ := I.tuple hT
    simp only at hc hd
    subst hc hd
    have c0 : (decide (k < -(2 ^ 63)) || decide (k ≥ 2 ^ 63)) = false := by
      rw [Bool.or_eq_false_iff]
      exact ⟨decide_eq_false (by omega), decide_eq_false (by omega)⟩
    have c1 : (its.toArray.isEmpty || k == 1) = true := by
      rcases hs with e | e
      · subst e
        cases r
        rfl
      · subst e
        simp
    exact wpAny_binaryOp_repeat_ref (T := "tuple") (U := "int") (by decide) ⟨_, ho, rfl⟩ (fun s' => typeIs_int s' k t) noFill_tuple_mul F.fills_int_mul F.slot_int_rmul repeat_tuple F.slot_int_index.lookup
      (call_meets F.slot_int_rmul (typeIs_int s k t) F.entry_int_rmul (F.args_int_rmul_2 _ _) (int_rmul_tuple k t l its.toArray n dd sl)
        ⟨ho, rfl, ⟨_, ho, rfl⟩, call_meets F.slot_tuple_mul ⟨_, ho, rfl⟩ F.entry_tuple_mul (F.args_tuple_mul_2 _ _) (tuple_mulS l its.toArray n dd sl k t c0 c1) ⟨ho, ⟨.ref l, H, I, rfl, q0⟩⟩⟩)
  · have hs : xs ≠ [] ∧ k ≠ 1 := not_or.mp hs
    exact op_repT pins s σ H _ _ v u Q I rx ry ⟨l, k, xs, rfl, rfl, hT, hs.1, by omega, h2, hz, q⟩
theorem list_extendW (l : Addr) (items : Array Value) (n : Nat) (b : Addr) (items2 : Array Value) (n2 : Nat) (sl : Array (Option Value)) (hc0 : ¬(!items.isEmpty && Builtin.List.listTooLong (items.size + items2.size)) = true) (hc1 : items.size ≤ sizeLine) (hs2 : items.size + items2.size ≤ sizeLine + 1) :
    Meets (Builtin.«list.extend» ⟨[.ref l, .ref b], []⟩) (fun _ R s => s.heap.get? l = some { cls := .type "list", dict := none, data := .seq items n, slots := #[] } ∧ s.heap.get? b = some { cls := .type "list", dict := none, data := .seq items2 n2, slots := sl } ∧ R (.ok (.ret Value.none)) { s with heap := s.heap.update l (Obj.mapSeq fun x => x ++ items2), toks := s.toks }) :=
  .of_wp fun prog w A R s h => by
    obtain ⟨hp, g, d, tk, os⟩ := s; obtain ⟨hl, hb, h⟩ := h; have f1 := AutoSeq1.idx_int; have f2 := AutoSeq1.sub_tuple_tuple; have f3 := AutoSeq1.sub_list_list; have f4 := AutoSeq1.sub_tuple_list; have f5 := AutoSeq1.sub_list_tuple;
    have hz' : (items ++ items2).size ≤ sizeLine + 1 := by rw [Array.size_append]; exact hs2
    wp_walk using (wpAny_updateSeq hl rfl (hz := hc1) (_hz' := hz')), wpAny_loadPart' hl, wpAny_loadPart' hb; exact ⟨_, rfl, h⟩
def rExtendX (K : PySem.W.Frag) : V → List V → Hp → VK → Prop := fun x vs H Q => ∃ l b xs zs, x = .ref l ∧ vs = [.ref b] ∧ H l = some (.lst xs) ∧ SqL K H b zs ∧ xs.length + zs.length ≤ sizeLine ∧ Q .non (upd H l (.lst (xs ++ zs)))
theorem mt_extendX {X : Cx} : MtM X "list.extend" (rExtendX X.K) := by
  intro pins s σ H x vs v us Q I rx rv h
  obtain ⟨l, b, xs, zs, rfl, rfl, hH, hB, hz, q⟩ := h
  cases rx
  obtain ⟨u, rfl, ru⟩ := rv.one
  cases ru
  obtain ⟨z, its, n, r, hl, e⟩ := I.lstM hH
  obtain ⟨its2, r2, ⟨⟨c2, d2, t2, s2⟩, n2, k2, q2, m2, e2⟩, hz2⟩ := I.list hB
  simp only at q2 m2 e2
  subst q2 m2 e2
  have hsz : its.toArray.size + its2.toArray.size ≤ sizeLine := by
    rw [List.size_toArray, List.size_toArray]
    have := r.length
    have := r2.length
    omega
  have hlong : ¬ (!its.toArray.isEmpty && Builtin.List.listTooLong (its.toArray.size + its2.toArray.size)) = true := by
    rw [notLongL hsz, Bool.and_false]
    exact Bool.false_ne_true
  refine call_meets F.slot_list_extend ⟨_, e, rfl⟩ F.entry_list_extend (F.args_list_extend_2 _ _)
    (list_extendW l its.toArray n b its2.toArray n2 s2 hlong (by rw [List.size_toArray]; have := r.length; omega) (by omega)) ⟨e, k2, ?_⟩
  refine ⟨.non, _, I.lset (its' := its ++ its2) hH e (by simp) (r.append r2) ?_, rfl, q⟩
  rw [List.length_append]
  have := r.length
  have := r2.length
  omega
end Pi

namespace Pi
open PySem L2 PySem.Spec PyProof.Rows

/-! ### heaps: G what never changes any more, H all; A what each name alone may change -/
def Le (H H' : Hp) : Prop := ∀ a o, H a = some o → H' a = some o
theorem Le.refl (H : Hp) : Le H H := fun _ _ h => h
theorem Le.trans {a b c : Hp} (x : Le a b) (y : Le b c) : Le a c := fun p o h => y p o (x p o h)
theorem Le.new {H : Hp} {p : Addr} {o : HO} (h : H p = none) : Le H (upd H p o) := fun a u e => by
  rw [upd_ne (ne_of_none e h)]; exact e
theorem Le.rd {H H' : Hp} (e : Le H H') {a : Addr} {u : HO} (h : Rd H a u) : Rd H' a u := by
  rcases h with h | ⟨o, h⟩
  · exact Or.inl (e a _ h)
  · exact Or.inr ⟨o, e a _ h⟩
theorem Le.l {K : PySem.W.Frag} {H H' : Hp} (e : Le H H') {a : Addr} {xs : List V} (h : SqL K H a xs) : SqL K H' a xs := by
  rcases h with h | h
  · exact Or.inl (e.rd h)
  · exact Or.inr h
theorem Le.t {K : PySem.W.Frag} {H H' : Hp} (e : Le H H') {a : Addr} {xs : List V} (h : SqT K H a xs) : SqT K H' a xs := by
  rcases h with h | h
  · exact Or.inl (e.rd h)
  · exact Or.inr h
/-! plain data as it stands in a heap -/
mutual
inductive Da (K : PySem.W.Frag) (H : Hp) : V → PyData → Prop
  | non : Da K H .non .none
  | bl (b : Bool) : Da K H (.bl b) (.bool b)
  | int (i : Int) : Da K H (.int i) (.int i)
  | str (x : Str) : Da K H (.str x) (.str x)
  | lst {a : Addr} {xs : List V} {ds : List PyData} : SqL K H a xs → DaAll K H xs ds → Da K H (.ref a) (.list ds)
  | tup {a : Addr} {xs : List V} {ds : List PyData} : SqT K H a xs → DaAll K H xs ds → Da K H (.ref a) (.tuple ds)
inductive DaAll (K : PySem.W.Frag) (H : Hp) : List V → List PyData → Prop
  | nil : DaAll K H [] []
  | cons {v : V} {vs : List V} {d : PyData} {ds : List PyData} : Da K H v d → DaAll K H vs ds → DaAll K H (v :: vs) (d :: ds)
end
mutual
theorem Da.dp {K : PySem.W.Frag} {H : Hp} : ∀ {v : V} {d : PyData}, Da K H v d → Dp K H v d
  | _, _, .non => .non
  | _, _, .bl b => .bl b
  | _, _, .int i => .int i
  | _, _, .str x => .str x
  | _, _, .lst h a => .lst h (DaAll.dp a)
  | _, _, .tup h a => .tup h (DaAll.dp a)
theorem DaAll.dp {K : PySem.W.Frag} {H : Hp} : ∀ {vs : List V} {ds : List PyData}, DaAll K H vs ds → DpAll K H vs ds
  | _, _, .nil => .nil
  | _, _, .cons h t => .cons (Da.dp h) (DaAll.dp t)
end
mutual
theorem Da.le {K : PySem.W.Frag} {H H' : Hp} (e : Le H H') : ∀ {v : V} {d : PyData}, Da K H v d → Da K H' v d
  | _, _, .non => .non
  | _, _, .bl b => .bl b
  | _, _, .int i => .int i
  | _, _, .str x => .str x
  | _, _, .lst h a => .lst (e.l h) (DaAll.le e a)
  | _, _, .tup h a => .tup (e.t h) (DaAll.le e a)
theorem DaAll.le {K : PySem.W.Frag} {H H' : Hp} (e : Le H H') : ∀ {vs : List V} {ds : List PyData}, DaAll K H vs ds → DaAll K H' vs ds
  | _, _, .nil => .nil
  | _, _, .cons h t => .cons (Da.le e h) (DaAll.le e t)
end
theorem DaAll.length {K : PySem.W.Frag} {H : Hp} : ∀ {vs : List V} {ds : List PyData}, DaAll K H vs ds → vs.length = ds.length
  | _, _, .nil => rfl
  | _, _, .cons _ t => congrArg (· + 1) (DaAll.length t)
theorem DaAll.get {K : PySem.W.Frag} {H : Hp} : ∀ {vs : List V} {ds : List PyData} {i : Nat} {d : PyData}, DaAll K H vs ds → ds[i]? = some d → ∃ v, vs[i]? = some v ∧ Da K H v d
  | _, _, _, _, .nil, e => by simp at e
  | _, _, 0, _, .cons h _, e => by simp at e; subst e; exact ⟨_, rfl, h⟩
  | _, _, i + 1, d, .cons _ t, e => by
    obtain ⟨v, h1, h2⟩ := DaAll.get (i := i) (d := d) t (by simpa using e)
    exact ⟨v, by simpa using h1, h2⟩
theorem DaAll.getV {K : PySem.W.Frag} {H : Hp} : ∀ {vs : List V} {ds : List PyData} {i : Nat} {v : V}, DaAll K H vs ds → vs[i]? = some v → ∃ d, ds[i]? = some d ∧ Da K H v d
  | _, _, _, _, .nil, e => by simp at e
  | _, _, 0, _, .cons h _, e => by simp at e; subst e; exact ⟨_, rfl, h⟩
  | _, _, i + 1, d, .cons _ t, e => by
    obtain ⟨v, h1, h2⟩ := DaAll.getV (i := i) (v := d) t (by simpa using e)
    exact ⟨v, by simpa using h1, h2⟩
theorem DaAll.append {K : PySem.W.Frag} {H : Hp} : ∀ {vs ws : List V} {ds es : List PyData}, DaAll K H vs ds → DaAll K H ws es → DaAll K H (vs ++ ws) (ds ++ es)
  | _, _, _, _, .nil, s => s
  | _, _, _, _, .cons r t, s => .cons r (DaAll.append t s)
theorem DaAll.set {K : PySem.W.Frag} {H : Hp} {v : V} {d : PyData} (r : Da K H v d) : ∀ {vs : List V} {ds : List PyData} (i : Nat), DaAll K H vs ds → DaAll K H (vs.set i v) (ds.set i d)
  | _, _, _, .nil => .nil
  | _, _, 0, .cons _ t => .cons r t
  | _, _, i + 1, .cons q t => .cons q (DaAll.set r i t)
theorem DaAll.take {K : PySem.W.Frag} {H : Hp} : ∀ {vs : List V} {ds : List PyData} (n : Nat), DaAll K H vs ds → DaAll K H (vs.take n) (ds.take n)
  | _, _, 0, _ => .nil
  | _, _, _ + 1, .nil => .nil
  | _, _, n + 1, .cons r t => .cons r (DaAll.take n t)
theorem DaAll.drop {K : PySem.W.Frag} {H : Hp} : ∀ {vs : List V} {ds : List PyData} (n : Nat), DaAll K H vs ds → DaAll K H (vs.drop n) (ds.drop n)
  | _, _, 0, r => r
  | _, _, _ + 1, .nil => .nil
  | _, _, n + 1, .cons _ t => DaAll.drop n t
theorem DaAll.dropLast {K : PySem.W.Frag} {H : Hp} : ∀ {vs : List V} {ds : List PyData}, DaAll K H vs ds → DaAll K H vs.dropLast ds.dropLast
  | _, _, .nil => .nil
  | _, _, .cons _ .nil => .nil
  | _, _, .cons r (.cons q t) => .cons r (DaAll.dropLast (.cons q t))
theorem DaAll.eraseIdx {K : PySem.W.Frag} {H : Hp} : ∀ {vs : List V} {ds : List PyData} (i : Nat), DaAll K H vs ds → DaAll K H (vs.eraseIdx i) (ds.eraseIdx i)
  | _, _, _, .nil => .nil
  | _, _, 0, .cons _ t => t
  | _, _, i + 1, .cons q t => .cons q (DaAll.eraseIdx i t)
theorem DaAll.ints {K : PySem.W.Frag} {H : Hp} : ∀ {vs : List V} {ns : List Int}, DaAll K H vs (ns.map PyData.int) → vs = ns.map V.int
  | _, [], .nil => rfl
  | _, n :: ns, .cons h t => by
    cases h
    rw [DaAll.ints t]; rfl
theorem DaAll.bls {K : PySem.W.Frag} {H : Hp} : ∀ {vs : List V} {ns : List Bool}, DaAll K H vs (ns.map PyData.bool) → vs = ns.map V.bl
  | _, [], .nil => rfl
  | _, n :: ns, .cons h t => by
    cases h
    rw [DaAll.bls t]; rfl

theorem wipeE_get {j : Nat} : ∀ {is : List Nat} {env : Ev}, (wipeE env is)[j]? = if j ∈ is then (if j < env.length then some .no else none) else env[j]? := by
  intro is
  induction is with
  | nil => intro env; simp [wipeE]
  | cons i is ih =>
    intro env
    have hl : ∀ {is : List Nat} {env : Ev}, (wipeE env is).length = env.length := by
      intro is
      induction is with
      | nil => intro env; rfl
      | cons i is ih => intro env; unfold wipeE; rw [List.length_set, ih]
    unfold wipeE
    by_cases e : j = i
    · subst e
      rw [if_pos (by simp)]
      by_cases h : j < env.length
      · rw [if_pos h, List.getElem?_set_self (by rw [hl]; exact h)]
      · rw [if_neg h, List.getElem?_eq_none (by rw [List.length_set, hl]; omega)]
    · rw [List.getElem?_set_ne (Ne.symm e), ih]
      by_cases h : j ∈ is
      · rw [if_pos h, if_pos (List.mem_cons_of_mem _ h)]
      · rw [if_neg h, if_neg (by simp [e, h])]
theorem wipeE_len {is : List Nat} {env : Ev} : (wipeE env is).length = env.length := by
  induction is with
  | nil => rfl
  | cons i is ih => unfold wipeE; rw [List.length_set, ih]
/-- footprints -/
abbrev Ft := Nat → Addr → Prop
def Ft.set (A : Ft) (i : Nat) (B : Addr → Prop) : Ft := fun j b => if j = i then B b else A j b
theorem Ft.set_self {A : Ft} {i : Nat} {B : Addr → Prop} {b : Addr} : A.set i B i b ↔ B b := by unfold Ft.set; rw [if_pos rfl]
theorem Ft.set_ne {A : Ft} {i j : Nat} {B : Addr → Prop} {b : Addr} (h : j ≠ i) : A.set i B j b ↔ A j b := by unfold Ft.set; rw [if_neg h]
abbrev no0 : Addr → Prop := fun _ => False

def Lst (K : PySem.W.Frag) (G H : Hp) (p : Addr) (ds : List PyData) : Prop := G p = none ∧ ∃ xs, H p = some (.lst xs) ∧ DaAll K G xs ds
/-- a caught exception: where it stands, its class, its dict, what it is -/
structure Cau where
  a : Addr
  C : Addr
  d : Addr
  x : Xc
/-- the places of the changed parameters; what has been caught -/
structure As where
  l : List Addr
  ex : List Cau
def SlotR (K : PySem.W.Frag) (G H : Hp) (as : As) (o : Option (Option V)) (A : Addr → Prop) : Sl → Prop
  | .no => ∀ b, ¬ A b
  | .dat d => (∀ b, ¬ A b) ∧ ∃ v, o = some (some v) ∧ Da K G v d
  | .own ds => ∃ p, o = some (some (.ref p)) ∧ (∀ b, A b ↔ b = p) ∧ Lst K G H p ds
  | .mu k ds => ∃ p, o = some (some (.ref p)) ∧ as.l[k]? = some p ∧ (∀ b, A b ↔ b = p) ∧ Lst K G H p ds
  | .exc x => (∀ b, ¬ A b) ∧ ∃ u v, u ∈ as.ex ∧ u.x = x ∧ o = some (some (.ref u.a)) ∧ G u.d = some (.xd [("place", v), ("word", .str x.word)]) ∧ Da K G v x.place
structure Rel (K : PySem.W.Frag) (G H : Hp) (σ : L2.St) (env : Ev) (as : As) (A : Ft) : Prop where
  sub : Le G H
  len : σ.length = env.length
  sl : ∀ i s, env[i]? = some s → SlotR K G H as σ[i]? (A i) s
  out : ∀ i, env.length ≤ i → ∀ b, ¬ A i b
  ap : ∀ i j b, A i b → A j b → i = j
structure Fr (G H : Hp) (A : Ft) (G' H' : Hp) (A' : Ft) : Prop where
  gg : Le G G'
  hh : ∀ b o, H b = some o → (∀ i, ¬ A i b) → H' b = some o
  nw : ∀ b o, G' b = some o → G b = some o ∨ H b = none ∨ ∃ i, A i b
  ow : ∀ i b, A' i b → (∃ j, A j b) ∨ H b = none
theorem Fr.refl (G H : Hp) (A : Ft) : Fr G H A G H A := ⟨Le.refl G, fun _ _ h _ => h, fun _ _ h => .inl h, fun i _ h => .inl ⟨i, h⟩⟩
theorem Fr.trans {G H G1 H1 G2 H2 : Hp} {A A1 A2 : Ft} (a : Fr G H A G1 H1 A1) (b : Fr G1 H1 A1 G2 H2 A2) : Fr G H A G2 H2 A2 := by
  have back : ∀ c, H1 c = none → H c = none ∨ ∃ i, A i c := fun c h => by
    cases e : H c with
    | none => exact .inl rfl
    | some o =>
      refine .inr (Classical.byContradiction fun n => ?_)
      have := a.hh c o e fun i hi => n ⟨i, hi⟩
      rw [h] at this; cases this
  refine ⟨a.gg.trans b.gg, fun c o h hn => b.hh c o (a.hh c o h hn) fun i hi => ?_, fun c o h => ?_, fun i c h => ?_⟩
  · rcases a.ow i c hi with ⟨j, hj⟩ | hj
    · exact hn j hj
    · rw [h] at hj; cases hj
  · rcases b.nw c o h with h1 | h1 | ⟨i, h1⟩
    · exact a.nw c o h1
    · exact .inr (back c h1)
    · rcases a.ow i c h1 with h2 | h2
      · exact .inr (.inr h2)
      · exact .inr (.inl h2)
  · rcases b.ow i c h with ⟨j, h1⟩ | h1
    · exact a.ow j c h1
    · rcases back c h1 with h2 | h2
      · exact .inr h2
      · exact .inl h2
/-- a result -/
def RR (K : PySem.W.Frag) (G H : Hp) (v : V) (B : Addr → Prop) : R → Prop
  | .dat d => (∀ b, ¬ B b) ∧ Da K G v d
  | .own ds => ∃ p, v = .ref p ∧ (∀ b, B b ↔ b = p) ∧ Lst K G H p ds
structure Po (K : PySem.W.Frag) (as : As) (σ : L2.St) (G H : Hp) (A : Ft) (G' H' : Hp) (σ' : L2.St) (env' : Ev) (A' : Ft) (v : V) (r : R) (B : Addr → Prop) : Prop where
  fr : Fr G H A G' H' A'
  rel : Rel K G' H' σ' env' as A'
  rr : RR K G' H' v B r
  sep : ∀ i b, A' i b → ¬ B b
  org : ∀ b, B b → (∃ j, A j b) ∨ H b = none
theorem Lst.mono {K : PySem.W.Frag} {G H G' H' : Hp} {p : Addr} {ds : List PyData} (x : Lst K G H p ds) (e : Le G G') (h0 : G' p = none) (h1 : H' p = H p) : Lst K G' H' p ds := by
  obtain ⟨_, xs, h2, h3⟩ := x
  exact ⟨h0, xs, h1.trans h2, DaAll.le e h3⟩
theorem Lst.at {K : PySem.W.Frag} {G H : Hp} {p : Addr} {ds : List PyData} (x : Lst K G H p ds) : ∃ xs, H p = some (.lst xs) ∧ DaAll K G xs ds := x.2
/-- a new immutable thing: its heap grows, nothing else changes -/
theorem Fr.up {G H : Hp} {A : Ft} {p : Addr} {o : HO} (h : H p = none) (s : Le G H) : Fr G H A (upd G p o) (upd H p o) A := by
  have hG : G p = none := by
    cases e : G p with
    | none => rfl
    | some u => have := s p u e; rw [h] at this; cases this
  refine ⟨Le.new hG, fun b u e _ => Le.new h b u e, fun b u e => ?_, fun i b e => .inl ⟨i, e⟩⟩
  by_cases hb : b = p
  · subst hb; exact .inr (.inl h)
  · rw [upd_ne hb] at e; exact .inl e
/-- a new thing that may still change -/
theorem Fr.upH {G H : Hp} {A : Ft} {p : Addr} {o : HO} (h : H p = none) : Fr G H A G (upd H p o) A :=
  ⟨Le.refl G, fun b u e _ => Le.new h b u e, fun b u e => .inl e, fun i b e => .inl ⟨i, e⟩⟩
section
variable {K : PySem.W.Frag} {G H G' H' : Hp} {σ σ' : L2.St} {env env' : Ev} {as : As} {A A' : Ft}
theorem Rel.own_some (r : Rel K G H σ env as A) {i : Nat} {b : Addr} (h : A i b) : ∃ xs, H b = some (.lst xs) ∧ G b = none := by
  have hi : i < env.length := Classical.byContradiction fun n => r.out i (by omega) b h
  have q := r.sl i env[i] (by simp [hi])
  cases e : env[i] with
  | no => rw [e] at q; exact absurd h (q b)
  | dat d => rw [e] at q; exact absurd h (q.1 b)
  | own ds =>
    rw [e] at q
    obtain ⟨p, _, hA, g, xs, hx, _⟩ := q
    obtain rfl := (hA b).mp h
    exact ⟨xs, hx, g⟩
  | mu k ds =>
    rw [e] at q
    obtain ⟨p, _, _, hA, g, xs, hx, _⟩ := q
    obtain rfl := (hA b).mp h
    exact ⟨xs, hx, g⟩
  | exc x => rw [e] at q; exact absurd h (q.1 b)
/-- the heaps grow, what the names hold stays -/
theorem Rel.grow (r : Rel K G H σ env as A) (g : Le G G') (s : Le G' H') (n : ∀ i b, A i b → G' b = none ∧ H' b = H b) : Rel K G' H' σ env as A := by
  refine ⟨s, r.len, fun i sl h => ?_, r.out, r.ap⟩
  have q := r.sl i sl h
  cases sl with
  | no => exact q
  | dat d =>
    obtain ⟨q1, v, q2, q3⟩ := q
    exact ⟨q1, v, q2, Da.le g q3⟩
  | own ds =>
    obtain ⟨p, q1, q2, q3⟩ := q
    have z := n i p ((q2 p).mpr rfl)
    exact ⟨p, q1, q2, q3.mono g z.1 z.2⟩
  | mu k ds =>
    obtain ⟨p, q1, q0, q2, q3⟩ := q
    have z := n i p ((q2 p).mpr rfl)
    exact ⟨p, q1, q0, q2, q3.mono g z.1 z.2⟩
  | exc x =>
    obtain ⟨q1, u, v, q2, q3, q4, q5, q6⟩ := q
    exact ⟨q1, u, v, q2, q3, q4, g _ _ q5, Da.le g q6⟩
theorem Rel.up (r : Rel K G H σ env as A) {p : Addr} {o : HO} (h : H p = none) : Rel K (upd G p o) (upd H p o) σ env as A := by
  have hG : G p = none := by
    cases e : G p with
    | none => rfl
    | some u => have := r.sub p u e; rw [h] at this; cases this
  have ne : ∀ i b, A i b → b ≠ p := fun i b hb e => by
    obtain ⟨xs, hx, _⟩ := r.own_some hb
    rw [e, h] at hx; cases hx
  refine r.grow (Le.new hG) (fun b u e => ?_) fun i b hb => ⟨?_, upd_ne (ne i b hb)⟩
  · by_cases hb : b = p
    · subst hb; rw [upd_same] at e ⊢; exact e
    · rw [upd_ne hb] at e ⊢; exact r.sub b u e
  · rw [upd_ne (ne i b hb)]; exact (r.own_some hb).choose_spec.2
theorem Rel.upH (r : Rel K G H σ env as A) {p : Addr} {o : HO} (h : H p = none) : Rel K G (upd H p o) σ env as A := by
  refine r.grow (Le.refl G) (fun b u e => Le.new h b u (r.sub b u e)) fun i b hb => ⟨(r.own_some hb).choose_spec.2, upd_ne fun e => ?_⟩
  obtain ⟨xs, hx, _⟩ := r.own_some hb
  rw [e, h] at hx; cases hx
/-- a name's value is another one -/
theorem Rel.put (r : Rel K G H σ env as A) {i : Nat} {v : V} {s : Sl} {B : Addr → Prop} (hi : i < env.length) (q : SlotR K G H as (some (some v)) B s) (d : ∀ j b, j ≠ i → A j b → ¬ B b) :
    Rel K G H (σ.set i (some v)) (env.set i s) as (A.set i B) := by
  refine ⟨r.sub, by rw [List.length_set, List.length_set]; exact r.len, fun j t h => ?_, fun j h b e => ?_, fun j k b h1 h2 => ?_⟩
  · by_cases e : j = i
    · subst e
      rw [List.getElem?_set_self hi] at h
      cases h
      rw [List.getElem?_set_self (by rw [r.len]; exact hi)]
      have : A.set j B j = B := by funext b; exact propext Ft.set_self
      rw [this]; exact q
    · rw [List.getElem?_set_ne (Ne.symm e)] at h ⊢
      have : A.set i B j = A j := by funext b; exact propext (Ft.set_ne e)
      rw [this]; exact r.sl j t h
  · rw [List.length_set] at h
    have e' := (Ft.set_ne (show j ≠ i by omega)).mp e
    exact r.out j h b e'
  · by_cases e1 : j = i <;> by_cases e2 : k = i
    · omega
    · subst e1
      exact absurd (Ft.set_self.mp h1) (d k b e2 ((Ft.set_ne e2).mp h2))
    · subst e2
      exact absurd (Ft.set_self.mp h2) (d j b e1 ((Ft.set_ne e1).mp h1))
    · exact r.ap j k b ((Ft.set_ne e1).mp h1) ((Ft.set_ne e2).mp h2)
/-- another description of the same value -/
theorem Rel.redo (r : Rel K G H σ env as A) {i : Nat} {s : Sl} {B : Addr → Prop} (hi : i < env.length) (q : SlotR K G H as σ[i]? B s) (d : ∀ j b, j ≠ i → A j b → ¬ B b) : Rel K G H σ (env.set i s) as (A.set i B) := by
  refine ⟨r.sub, by rw [List.length_set]; exact r.len, fun j t h => ?_, fun j h b e => ?_, fun j k b h1 h2 => ?_⟩
  · by_cases e : j = i
    · subst e
      rw [List.getElem?_set_self hi] at h
      cases h
      have : A.set j B j = B := by funext b; exact propext Ft.set_self
      rw [this]; exact q
    · rw [List.getElem?_set_ne (Ne.symm e)] at h
      have : A.set i B j = A j := by funext b; exact propext (Ft.set_ne e)
      rw [this]; exact r.sl j t h
  · rw [List.length_set] at h
    have e' := (Ft.set_ne (show j ≠ i by omega)).mp e
    exact r.out j h b e'
  · by_cases e1 : j = i <;> by_cases e2 : k = i
    · omega
    · subst e1
      exact absurd (Ft.set_self.mp h1) (d k b e2 ((Ft.set_ne e2).mp h2))
    · subst e2
      exact absurd (Ft.set_self.mp h2) (d j b e1 ((Ft.set_ne e1).mp h1))
    · exact r.ap j k b ((Ft.set_ne e1).mp h1) ((Ft.set_ne e2).mp h2)
end
end Pi

namespace Pi
open PySem L2 PySem.Spec PyProof.Rows

/-! ### the text against its description -/
structure Cf where
  nf : Nat
  N : List Str
  nm : Nat → Str
  cn : Nat → Str
  xn : Nat → Str
  bl : List Str
  lb : List Str
  df : Nat → List PyData
  pn : Nat → List Str
  nx : Nat
  nr : Nat
  it : List (Str × List Nat)
  ct : List (Str × List Nat)
  hot : Bool
/-- in an except suite: no calls of defs, nothing is raised -/
def hotC (cf : Cf) : Cf := { cf with nf := 0, nx := 0, hot := true }
inductive Ast where
  | e (x : Expr) | t (x : Expr) | a (xs : List Expr) | i (tg x : Expr) | p (x : Option Expr) | q (xs : List Expr) | s (x : Stmt) | b (xs : List Stmt)
def visB (sc : Scope) (x : Str) : Bool := sc.names.lookup x == some .local || sc.names.lookup x == some .cell || sc.names.lookup x == some .free
def locB (top : Bool) (sc : Scope) (x : Str) : Bool := sc.names.lookup x == some .local || (top && sc.names.lookup x == some .cell)
def glB (sc : Scope) (x : Str) : Bool := sc.names.lookup x == some .globalImplicit
def okN (x : Str) : Bool := !(x == ("__debug__" : Str)) && !(x == ("__classdict__" : Str)) && !(x == ("__name__" : Str))
def constB : PyData → Const → Bool
  | .none, .none => true
  | .bool a, .bool b => a == b
  | .int a, .int b => a == b
  | .str a, .str b => a == b
  | _, _ => false
def boB : BO → Operator → Bool
  | .add, .Add | .sub, .Sub | .mul, .Mult | .fdiv, .FloorDiv | .mod, .Mod | .pow, .Pow | .shl, .LShift | .shr, .RShift => true
  | _, _ => false
def augB : BO → Operator → Bool
  | .add, .Add | .sub, .Sub => true
  | _, _ => false
def coB : CO → CmpOp → Bool
  | .lt, .Lt | .le, .LtE | .gt, .Gt | .ge, .GtE | .eq, .Eq | .ne, .NotEq | .isN, .Is | .notN, .IsNot | .inn, .In | .nin, .NotIn => true
  | _, _ => false
def b1n : B1 → Str
  | .len => "len" | .int => "int" | .abs => "abs" | .list => "list" | .tuple => "tuple" | .sum => "sum" | .maxl => "max" | .minl => "min" | .any => "any" | .all => "all"
  | .sorted => "sorted" | .repr => "repr" | .str => "str" | .bool => "bool"
def b1V : B1 → Option Value
  | .len => some (.builtin "len") | .int => some (.type "int") | .abs => some (.builtin "abs") | .list => some (.type "list") | .tuple => some (.type "tuple") | .sum => some (.builtin "sum") | .maxl => some (.builtin "max") | .minl => some (.builtin "min")
  | .any => some (.builtin "any") | .all => some (.builtin "all") | .sorted => some (.builtin "sorted") | .repr => some (.builtin "repr") | .str => some (.type "str") | .bool => some (.type "bool")
def lfn : LF → Str
  | .lcm => "lcm" | .gcd => "gcd"
def lfi : LF → String
  | .lcm => "math.lcm" | .gcd => "math.gcd"
def m1n : MT1 → Str
  | .join => "join" | .split => "split" | .starts => "startswith"
def b2n : B2 → Str
  | .min => "min" | .max => "max"
def tyn : TY → Str
  | .int => "int" | .bool => "bool" | .str => "str" | .list => "list" | .tuple => "tuple" | .non => "NoneType"
def namesB (cf : Cf) (top : Bool) (sc : Scope) : List Nat → List Expr → Bool
  | [], [] => true
  | i :: is, .Name y _ :: r => (cf.N[i]? == some y) && locB top sc y && namesB cf top sc is r
  | _, _ => false
def pnB (cf : Cf) (top : Bool) (sc : Scope) : List Pn → List Expr → Bool
  | [], [] => true
  | .inl i :: is, .Name y _ :: r => (cf.N[i]? == some y) && locB top sc y && pnB cf top sc is r
  | .inr js :: is, .Tuple es _ _ :: r => namesB cf top sc js es && pnB cf top sc is r
  | _, _ => false
def tgB (cf : Cf) (top : Bool) (sc : Scope) (x : Tg) (tg : Expr) : Bool :=
  match x with
  | .inl i => match tg with
    | .Name y _ => (cf.N[i]? == some y) && locB top sc y
    | _ => false
  | .inr is => match tg with
    | .Tuple es _ _ => !cf.hot && pnB cf top sc is es
    | _ => false
def coolB : B1 → Bool
  | .sum | .maxl | .minl | .any | .all => false
  | _ => true
def b1S (cf : Cf) (f : B1) : Bool := (b1V f).isSome && (!cf.hot || coolB f)
def b2S (cf : Cf) (f : B2) (x : Str) : Bool := !cf.hot && (b2n f == x)
def noStar : Expr → Bool
  | .Starred _ _ => false
  | _ => true
/-- not one of those that are tested by themselves -/
def plainT : Expr → Bool
  | .UnaryOp .Not _ _ => false
  | .BoolOp _ _ _ => false
  | .IfExp _ _ _ _ => false
  | .Compare _ _ _ _ => false
  | _ => true
def noComp : Expr → Bool
  | .ListComp _ _ _ _ => false
  | .SetComp _ _ _ _ => false
  | .DictComp _ _ _ _ _ => false
  | _ => true
def noSet : Expr → Bool
  | .Set _ _ _ => false
  | _ => true
def noSlice : Expr → Bool
  | .Slice _ _ _ _ => false
  | _ => true
def ownB (cf : Cf) (own : List Nat) : List (Str × Nat) := own.map fun i => (cf.N.getD i ⟨#[]⟩, i)

def tyB (ts : List TY) (z : Str) : Bool := match ts with
  | [.non] => false
  | [t] => tyn t == z
  | _ => false
def ownPB (own : List Nat) : Pn → Bool
  | .inl i => own.contains i
  | .inr is => is.all own.contains
def ownTB (own : List Nat) : Tg → Bool
  | .inl i => own.contains i
  | .inr is => is.all (ownPB own)
def noCall : Expr → Bool
  | .Call _ _ _ _ => false
  | _ => true
def litB : PyData → PyData → Bool
  | .none, .none => true
  | .bool a, .bool b => a == b
  | .int a, .int b => a == b
  | .str a, .str b => a == b
  | _, _ => false
def dfB : List PyData → List PyData → Bool
  | [], [] => true
  | a :: as, b :: bs => litB a b && dfB as bs
  | _, _ => false
def noTup : Expr → Bool
  | .Tuple _ _ _ => false
  | _ => true
def chk (cf : Cf) : N → Bool → Scope → Ast → Bool
  | .v i, _, sc, ast => match ast with
    | .e (.Name x _) => (cf.N[i]? == some x) && visB sc x && okN x
    | _ => false
  | .g c, _, sc, ast => match ast with
    | .e (.Name x _) => (cf.cn c == x) && glB sc x && okN x
    | _ => false
  | .c d, _, _, ast => match ast with
    | .e (.Constant k _ _) => constB d k
    | _ => false
  | .bin o a b, top, sc, ast => match ast with
    | .e (.BinOp l op r _) => boB o op && chk cf a top sc (.e l) && chk cf b top sc (.e r)
    | _ => false
  | .neg a, top, sc, ast => match ast with
    | .e (.UnaryOp .USub x _) => chk cf a top sc (.e x)
    | _ => false
  | .cmp o a b, top, sc, ast => match ast with
    | .e (.Compare l [op] [r] _) => coB o op && noSet r && chk cf a top sc (.e l) && chk cf b top sc (.e r)
    | _ => false
  | .chain o o' a b c, top, sc, ast => match ast with
    | .e (.Compare l [op, op'] [m, r] _) => coB o op && coB o' op' && noSet r && chk cf a top sc (.e l) && chk cf b top sc (.e m) && chk cf c top sc (.e r)
    | _ => false
  | .nott a, top, sc, ast => match ast with
    | .e (.UnaryOp .Not x _) => chk cf a top sc (.e x)
    | _ => false
  | .andd a b, top, sc, ast => match ast with
    | .e (.BoolOp .And (x :: y :: r) p) => chk cf a top sc (.e x) && chk cf b top sc (.e (.BoolOp .And (y :: r) p))
    | _ => false
  | .orr a b, top, sc, ast => match ast with
    | .e (.BoolOp .Or (x :: y :: r) p) => chk cf a top sc (.e x) && chk cf b top sc (.e (.BoolOp .Or (y :: r) p))
    | _ => false
  | .one a, top, sc, ast => match ast with
    | .e (.BoolOp _ [x] _) => chk cf a top sc (.e x)
    | _ => false
  | .ite t a b, top, sc, ast => match ast with
    | .e (.IfExp c x y _) => chk cf t top sc (.t c) && chk cf a top sc (.e x) && chk cf b top sc (.e y)
    | _ => false
  | .call f as, top, sc, ast => match ast with
    | .e (.Call (.Name x _) xs [] _) => decide (f < cf.nf) && (cf.nm f == x) && glB sc x && okN x && chk cf as top sc (.a xs)
    | _ => false
  | .b1 f a, top, sc, ast => match ast with
    | .e (.Call (.Name x _) [y] [] _) => b1S cf f && (b1n f == x) && glB sc x && cf.bl.contains x && noStar y && chk cf a top sc (.e y)
    | _ => false
  | .b2 f a b, top, sc, ast => match ast with
    | .e (.Call (.Name x _) [y, z] [] _) => b2S cf f x && glB sc x && cf.bl.contains x && noStar y && noStar z && chk cf a top sc (.e y) && chk cf b top sc (.e z)
    | _ => false
  | .isi a ts, top, sc, ast => match ast with
    | .e (.Call (.Name x _) [y, .Name z _] [] _) => (("isinstance" : Str) == x) && glB sc x && cf.bl.contains x && noStar y && chk cf a top sc (.e y) && glB sc z && cf.bl.contains z && tyB ts z
    | _ => false
  | .ix a b, top, sc, ast => match ast with
    | .e (.Subscript o i _) => noSlice i && chk cf a top sc (.e o) && chk cf b top sc (.e i)
    | _ => false
  | .sl a lo hi, top, sc, ast => match ast with
    | .e (.Subscript o (.Slice l h none _) _) => chk cf a top sc (.e o) && chk cf lo top sc (.p l) && chk cf hi top sc (.p h)
    | _ => false
  | .rv a, top, sc, ast => match ast with
    | .e (.Subscript o (.Slice none none (some (.UnaryOp .USub (.Constant (.int 1) _ _) _)) _) _) => chk cf a top sc (.e o)
    | _ => false
  | .tup es, top, sc, ast => match ast with
    | .e (.Tuple xs _ _) => decide (xs.length ≤ 1000) && chk cf es top sc (.a xs)
    | _ => false
  | .lst es, top, sc, ast => match ast with
    | .e (.List xs _) => decide (xs.length ≤ 1000) && chk cf es top sc (.a xs)
    | _ => false
  | .lc own x it cs e, top, sc, ast => match ast with
    | .e (.ListComp elt [⟨tg, iter, ifs, 0⟩] scope _) => !cf.hot && blkC cf.N sc scope (ownB cf own) && noSet iter && chk cf it top sc (.i tg iter) && tgB cf false (relS scope sc) x tg && ownTB own x &&
        chk cf cs false (relS scope sc) (.q ifs) && chk cf e false (relS scope sc) (.e elt)
    | _ => false
  | .pop i, _, sc, ast => match ast with
    | .e (.Call (.Attribute (.Name x _) m ap) [] [] cp) => (ap.endLine == cp.line) && (m == ("pop" : Str)) && (cf.N[i]? == some x) && visB sc x && okN x
    | _ => false
  | .popAt i a, top, sc, ast => match ast with
    | .e (.Call (.Attribute (.Name x _) m ap) [y] [] cp) => (ap.endLine == cp.line) && (m == ("pop" : Str)) && (cf.N[i]? == some x) && visB sc x && okN x && noStar y && chk cf a top sc (.e y)
    | _ => false
  | .lib f a b, top, sc, ast => match ast with
    | .e (.Call (.Name x _) [y, z] [] _) => (lfn f == x) && glB sc x && okN x && cf.lb.contains x && noStar y && noStar z && chk cf a top sc (.e y) && chk cf b top sc (.e z)
    | _ => false
  | .m1 m a b, top, sc, ast => match ast with
    | .e (.Call (.Attribute o mm ap) [y] [] cp) => (ap.endLine == cp.line) && (m1n m == mm) && noCall o && noStar y && chk cf a top sc (.e o) && chk cf b top sc (.e y)
    | _ => false
  | .lix a b, top, sc, ast => match ast with
    | .e (.Call (.Attribute o mm ap) [y] [] cp) => (ap.endLine == cp.line) && (mm == ("index" : Str)) && noCall o && noStar y && chk cf a top sc (.e o) && chk cf b top sc (.e y)
    | _ => false
  | .callD f as ds, top, sc, ast => match ast with
    | .e (.Call (.Name x _) xs [] _) => decide (f < cf.nf) && (cf.nm f == x) && glB sc x && okN x && chk cf as top sc (.a xs) && dfB (cf.df f) ds
    | _ => false
  | .xw i, _, sc, ast => match ast with
    | .e (.Attribute (.Name x _) m _) => (m == ("word" : Str)) && (cf.N[i]? == some x) && visB sc x && okN x
    | _ => false
  | .xp i, _, sc, ast => match ast with
    | .e (.Attribute (.Name x _) m _) => (m == ("place" : Str)) && (cf.N[i]? == some x) && visB sc x && okN x
    | _ => false
  | .xi i nm ts, _, sc, ast => match ast with
    | .e (.Call (.Name f _) [.Name x _, .Name z _] [] _) => (("isinstance" : Str) == f) && glB sc f && cf.bl.contains f && (cf.N[i]? == some x) && visB sc x && okN x && glB sc z && okN z && (nm == z) && cf.it.contains (nm, ts)
    | _ => false
  | .nil, _, _, ast => match ast with
    | .a [] => true
    | _ => false
  | .cons a r, top, sc, ast => match ast with
    | .a (x :: xs) => noStar x && chk cf a top sc (.e x) && chk cf r top sc (.a xs)
    | _ => false
  | .consM i r, top, sc, ast => match ast with
    | .a (.Name x _ :: xs) => (cf.N[i]? == some x) && visB sc x && okN x && chk cf r top sc (.a xs)
    | _ => false
  | .sno, _, _, ast => match ast with
    | .p none => true
    | _ => false
  | .sat a, top, sc, ast => match ast with
    | .p (some x) => chk cf a top sc (.e x)
    | _ => false
  | .tcmp o a b, top, sc, ast => match ast with
    | .t (.Compare l [op] [r] _) => coB o op && noSet r && chk cf a top sc (.e l) && chk cf b top sc (.e r)
    | _ => false
  | .tchain o o' a b c, top, sc, ast => match ast with
    | .t (.Compare l [op, op'] [m, r] _) => coB o op && coB o' op' && noSet r && chk cf a top sc (.e l) && chk cf b top sc (.e m) && chk cf c top sc (.e r)
    | _ => false
  | .tnot a, top, sc, ast => match ast with
    | .t (.UnaryOp .Not x _) => chk cf a top sc (.t x)
    | _ => false
  | .tand a b, top, sc, ast => match ast with
    | .t (.BoolOp .And (x :: y :: r) p) => chk cf a top sc (.t x) && chk cf b top sc (.t (.BoolOp .And (y :: r) p))
    | _ => false
  | .tor a b, top, sc, ast => match ast with
    | .t (.BoolOp .Or (x :: y :: r) p) => chk cf a top sc (.t x) && chk cf b top sc (.t (.BoolOp .Or (y :: r) p))
    | _ => false
  | .tone a, top, sc, ast => match ast with
    | .t (.BoolOp .And [x] _) => chk cf a top sc (.t x)
    | .t (.BoolOp .Or [x] _) => chk cf a top sc (.t x)
    | .q [x] => chk cf a top sc (.t x)
    | _ => false
  | .tyes, _, _, ast => match ast with
    | .q [] => true
    | _ => false
  | .tval a, top, sc, ast => match ast with
    | .t x => plainT x && chk cf a top sc (.e x)
    | _ => false
  | .itl a, top, sc, ast => match ast with
    | .i _ x => chk cf a top sc (.e x)
    | _ => false
  | .iten a, top, sc, ast => match ast with
    | .i (.Tuple _ _ _) (.Call (.Name x _) [y] [] _) => (("enumerate" : Str) == x) && glB sc x && cf.bl.contains x && noStar y && chk cf a top sc (.e y)
    | _ => false
  | .itz a b, top, sc, ast => match ast with
    | .i (.Tuple _ _ _) (.Call (.Name x _) [y, z] [] _) => (("zip" : Str) == x) && glB sc x && cf.bl.contains x && noStar y && noStar z && chk cf a top sc (.e y) && chk cf b top sc (.e z)
    | _ => false
  | .itr1 a, top, sc, ast => match ast with
    | .i _ (.Call (.Name x _) [y] [] _) => (("range" : Str) == x) && glB sc x && cf.bl.contains x && noStar y && chk cf a top sc (.e y)
    | _ => false
  | .itr2 a b, top, sc, ast => match ast with
    | .i _ (.Call (.Name x _) [y, z] [] _) => (("range" : Str) == x) && glB sc x && cf.bl.contains x && noStar y && noStar z && chk cf a top sc (.e y) && chk cf b top sc (.e z)
    | _ => false
  | .set i e, top, sc, ast => match ast with
    | .s (.Assign [.Name x _] v _) => (noComp v || !(sc.names.lookup x == some .local)) && (cf.N[i]? == some x) && locB top sc x && chk cf e top sc (.e v)
    | _ => false
  | .slc i own x it cs e, top, sc, ast => match ast with
    | .s (.Assign [.Name y py] (.ListComp elt [⟨tg, iter, ifs, 0⟩] scope lp) _) => !cf.hot && blkC cf.N sc scope (ownB cf own) && noSet iter && chk cf it top sc (.i tg iter) && tgB cf false (relS scope sc) x tg && ownTB own x && chk cf cs false (relS scope sc) (.q ifs) && chk cf e false (relS scope sc) (.e elt) &&
        top && (cf.N[i]? == some y) && (sc.names.lookup y == some .local) && (py.line == lp.line) && !(scope.names.any fun (n, k) => n == y && (k == .local || k == .cell))
    | _ => false
  | .unp is e, top, sc, ast => match ast with
    | .s (.Assign [.Tuple es k p] v _) => noComp v && tgB cf top sc (.inr is) (.Tuple es k p) && noTup v && chk cf e top sc (.e v)
    | _ => false
  | .seti i b e, top, sc, ast => match ast with
    | .s (.Assign [.Subscript (.Name x _) j _] v _) => noComp v && noSlice j && (cf.N[i]? == some x) && visB sc x && okN x && chk cf b top sc (.e j) && chk cf e top sc (.e v)
    | _ => false
  | .aug i o e, top, sc, ast => match ast with
    | .s (.AugAssign (.Name x _) op v _) => (cf.N[i]? == some x) && locB top sc x && augB o op && chk cf e top sc (.e v)
    | _ => false
  | .augi i o b e, top, sc, ast => match ast with
    | .s (.AugAssign (.Subscript (.Name x _) j _) op v _) => noSlice j && (cf.N[i]? == some x) && visB sc x && okN x && augB o op && chk cf b top sc (.e j) && chk cf e top sc (.e v)
    | _ => false
  | .ex e, top, sc, ast => match ast with
    | .s (.Expr v _) => noComp v && chk cf e top sc (.e v)
    | _ => false
  | .app i e, top, sc, ast => match ast with
    | .s (.Expr (.Call (.Attribute (.Name x _) m ap) [y] [] cp) _) => (ap.endLine == cp.line) && (m == ("append" : Str)) && (cf.N[i]? == some x) && visB sc x && okN x && noStar y && chk cf e top sc (.e y)
    | _ => false
  | .ext i e, top, sc, ast => match ast with
    | .s (.Expr (.Call (.Attribute (.Name x _) m ap) [y] [] cp) _) => (ap.endLine == cp.line) && (m == ("extend" : Str)) && (cf.N[i]? == some x) && visB sc x && okN x && noStar y && chk cf e top sc (.e y)
    | _ => false
  | .ins i b e, top, sc, ast => match ast with
    | .s (.Expr (.Call (.Attribute (.Name x _) m ap) [y, z] [] cp) _) => (ap.endLine == cp.line) && (m == ("insert" : Str)) && (cf.N[i]? == some x) && visB sc x && okN x && noStar y && noStar z && chk cf b top sc (.e y) && chk cf e top sc (.e z)
    | _ => false
  | .setc is e, top, sc, ast => match ast with
    | .s (.Assign [t1, t2] v _) => noComp v && namesB cf top sc is [t1, t2] && chk cf e top sc (.e v)
    | .s (.Assign [t1, t2, t3] v _) => noComp v && namesB cf top sc is [t1, t2, t3] && chk cf e top sc (.e v)
    | _ => false
  | .ret e, top, sc, ast => match ast with
    | .s (.Return (some v) _) => chk cf e top sc (.e v)
    | _ => false
  | .retn, _, _, ast => match ast with
    | .s (.Return none _) => true
    | _ => false
  | .retv i, _, sc, ast => match ast with
    | .s (.Return (some (.Name x _)) _) => (cf.N[i]? == some x) && visB sc x && okN x
    | _ => false
  | .ifs t a b, top, sc, ast => match ast with
    | .s (.If c x y _) => chk cf t top sc (.t c) && chk cf a top sc (.b x) && chk cf b top sc (.b y)
    | _ => false
  | .forr x it b, top, sc, ast => match ast with
    | .s (.For tg iter body [] _) => !cf.hot && top && noSet iter && tgB cf top sc x tg && chk cf it top sc (.i tg iter) && chk cf b top sc (.b body)
    | _ => false
  | .whl t b, top, sc, ast => match ast with
    | .s (.While c body [] _) => top && chk cf t top sc (.t c) && chk cf b top sc (.b body)
    | _ => false
  | .brk, _, _, ast => match ast with
    | .s (.Break _) => true
    | _ => false
  | .ctn, _, _, ast => match ast with
    | .s (.Continue _) => true
    | _ => false
  | .pas, _, _, ast => match ast with
    | .s (.Pass _) => true
    | _ => false
  | .rai c w e, top, sc, ast => match ast with
    | .s (.Raise (some (.Call (.Name x _) [y] [] _)) none _) => decide (c < cf.nx) && (cf.xn c == x) && (w == x) && glB sc x && okN x && noStar y && chk cf e top sc (.e y)
    | _ => false
  | .rai0 c w, _, sc, ast => match ast with
    | .s (.Raise (some (.Call (.Name x _) [] [] _)) none _) => decide (c < cf.nx) && (cf.xn c == x) && (w == x) && glB sc x && okN x
    | _ => false
  | .tryx i ts b s, top, sc, ast => match ast with
    | .s (.Try body [.ExceptHandler (some (.Name x _)) (some n) (b0 :: suite) _] [] [] _) => top && !cf.hot && (cf.N[i]? == some n) && (sc.names.lookup n == some .local) && glB sc x && okN x && cf.ct.contains (x, ts) &&
        chk cf b top sc (.b body) && chk (hotC cf) s top sc (.b (b0 :: suite))
    | _ => false
  | .try2 i ts b s us g, top, sc, ast => match ast with
    | .s (.Try body [.ExceptHandler (some (.Name x _)) (some n) (b0 :: suite) _, .ExceptHandler (some (.Name y _)) (some m) (c0 :: tail) _] [] [] _) => top && !cf.hot && (cf.N[i]? == some n) && (m == n) && (sc.names.lookup n == some .local) && glB sc x && okN x && glB sc y && okN y && cf.ct.contains (x, ts) && cf.ct.contains (y, us) &&
        chk cf b top sc (.b body) && chk (hotC cf) s top sc (.b (b0 :: suite)) && chk (hotC cf) g top sc (.b (c0 :: tail))
    | _ => false
  | .done, _, _, ast => match ast with
    | .b [] => true
    | _ => false
  | .seq s r, top, sc, ast => match ast with
    | .b (x :: xs) => chk cf s top sc (.s x) && chk cf r top sc (.b xs)
    | _ => false

/-! ### readings that ask no more than what they mean -/
section
variable (X : Cx)
def wE (e : Expr) : TE := fun σ H Q => ∀ pins s, Inv X pins σ H s → wpAny (model X.prog X.w) X.A (eval e X.env) (EP X pins σ Q) X.xe s
def wT (e : Expr) : TT := fun σ H Q => ∀ pins s, Inv X pins σ H s → wpAny (model X.prog X.w) X.A (isTrue e X.env (eval e X.env)) (TP X pins σ Q) X.xe s
def wA (es : List Expr) : TA := fun σ H Q => ∀ pos pins s, Inv X pins σ H s → wpAny (model X.prog X.w) X.A (spliced (backTo pos (starEach es X.env))) (AP X pins σ Q) X.xe s
def wS (st : Stmt) : TS := fun D σ H => ∀ pins s, Inv X pins σ H s → wpAny (model X.prog X.w) X.A (exec st X.env) (SP X pins D) X.xe s
def wB (st : List Stmt) : TS := fun D σ H => ∀ pins s, Inv X pins σ H s → wpAny (model X.prog X.w) X.A (execs st X.env) (SP X pins D) X.xe s
def wI (tg iter : Expr) : TI := fun σ H R => ∀ pins s, Inv X pins σ H s → wpAny (model X.prog X.w) X.A (eval iter X.env) (fun v s1 => wpAny (model X.prog X.w) X.A (pyIter v) (PIE X pins σ tg R) X.xe s1) X.xe s
def wO (e : Option Expr) : TO := fun σ H Q => ∀ pins s, Inv X pins σ H s → wpAny (model X.prog X.w) X.A (evalPart e X.env) (fun u s' => ∃ o H', Inv X pins σ H' s' ∧ IsPart u o ∧ Q o H') X.xe s
def wQ (ifs : List Expr) : TT := fun σ H Q => ∀ pins s, Inv X pins σ H s → wpAny (model X.prog X.w) X.A (forIn ifs true fun c r => if r = true then do let ok ← isTrue c X.env (eval c X.env); pure (ForInStep.yield ok) else pure (ForInStep.yield r)) (TP X pins σ Q) X.xe s
def wG (tg : Expr) : TG := fun v σ H Q => ∀ pins s u, Inv X pins σ H s → RelV v u → wpAny (model X.prog X.w) X.A (assign tg X.env u) (fun _ s' => ∃ σ' H', Inv X pins σ' H' s' ∧ Q σ' H') X.xe s
def wOp (f : Value → Value → Sem Value) : R2 := fun x y H Q => ∀ pins s σ v u, Inv X pins σ H s → RelV x v → RelV y u → wpAny (model X.prog X.w) X.A (f v u) (EP X pins σ Q) X.xe s
def wIx : R2 := fun x y H Q => ∀ pins s σ ov iv, Inv X pins σ H s → RelV x ov → RelV y iv → wpAny (model X.prog X.w) X.A (getItem ov iv) (EP X pins σ Q) X.xe s
def wCl (f : Value) : List V → Hp → VK → Prop := fun xs H Q => ∀ pins s σ us, Inv X pins σ H s → Vals xs us → wpAny (model X.prog X.w) X.A (call f us) (EP X pins σ Q) X.xe s
end
section
variable {X : Cx} {e : Expr} {σ : L2.St} {H : Hp}
theorem pe_w : PE X e (wE X e) := ⟨fun pins s σ H Q I h => h pins s I⟩
theorem pt_w : PT X e (wT X e) := ⟨fun pins s σ H Q I h => h pins s I⟩
theorem pa_w {es : List Expr} : PA X es (wA X es) := ⟨fun pos pins s σ H Q I h => h pos pins s I⟩
theorem ps_w {st : Stmt} : PS X st (wS X st) := ⟨fun pins s σ H Q I h => h pins s I⟩
theorem pb_w {st : List Stmt} : PSs X st (wB X st) := ⟨fun pins s σ H Q I h => h pins s I⟩
theorem pi_w {tg : Expr} : PI X tg e (wI X tg e) := ⟨fun pins s σ H R I h => h pins s I⟩
theorem po_w {e : Option Expr} : PO X e (wO X e) := ⟨fun pins s σ H Q I h => h pins s I⟩
theorem pq_w {es : List Expr} : PTs X es (wQ X es) := ⟨fun pins s σ H Q I h => h pins s I⟩
theorem pg_w : PG X e (wG X e) := ⟨fun pins s σ H v u Q I r h => h pins s u I r⟩
theorem op_w {f : Value → Value → Sem Value} : OpR X f (wOp X f) := fun pins s σ H x y v u Q I r1 r2 h => h pins s σ v u I r1 r2
theorem cl_w {f : Value} : CallR X f (wCl X f) := fun pins s σ H xs us Q I r h => h pins s σ us I r
theorem wE_of {t : TE} {Q : VK} (h : PE X e t) (q : t σ H Q) : wE X e σ H Q := fun pins s I => h.run pins s σ H Q I q
theorem wT_of {t : TT} {Q : Bool → Hp → Prop} (h : PT X e t) (q : t σ H Q) : wT X e σ H Q := fun pins s I => h.run pins s σ H Q I q
theorem wA_of {es : List Expr} {t : TA} {Q : List V → Hp → Prop} (h : PA X es t) (q : t σ H Q) : wA X es σ H Q := fun pos pins s I => h.run pos pins s σ H Q I q
theorem wS_of {st : Stmt} {t : TS} {D : Ends} (h : PS X st t) (q : t D σ H) : wS X st D σ H := fun pins s I => h.run pins s σ H D I q
theorem wB_of {st : List Stmt} {t : TS} {D : Ends} (h : PSs X st t) (q : t D σ H) : wB X st D σ H := fun pins s I => h.run pins s σ H D I q
theorem wI_of {tg : Expr} {t : TI} {R : It → Hp → Prop} (h : PI X tg e t) (q : t σ H R) : wI X tg e σ H R := fun pins s I => h.run pins s σ H R I q
theorem wO_of {e : Option Expr} {t : TO} {Q : Option Int → Hp → Prop} (h : PO X e t) (q : t σ H Q) : wO X e σ H Q := fun pins s I => h.run pins s σ H Q I q
theorem wQ_of {es : List Expr} {t : TT} {Q : Bool → Hp → Prop} (h : PTs X es t) (q : t σ H Q) : wQ X es σ H Q := fun pins s I => h.run pins s σ H Q I q
theorem wG_of {t : TG} {v : V} {Q : L2.St → Hp → Prop} (h : PG X e t) (q : t v σ H Q) : wG X e v σ H Q := fun pins s u I r => h.run pins s σ H v u Q I r q
theorem wOp_of {f : Value → Value → Sem Value} {r : R2} {x y : V} {Q : VK} (h : OpR X f r) (q : r x y H Q) : wOp X f x y H Q := fun pins s σ v u I r1 r2 => h pins s σ H x y v u Q I r1 r2 q
theorem wCl_of {f : Value} {r : List V → Hp → VK → Prop} {xs : List V} {Q : VK} (h : CallR X f r) (q : r xs H Q) : wCl X f xs H Q := fun pins s σ us I r1 => h pins s σ H xs us Q I r1 q
theorem swaps_cell {v : Expr} {x : Str} {p : Pos} {l : Nat} {env : Env} (h : (noComp v || !(env.scope.names.lookup x == some .local)) = true) : swapsWith v (some (.Name x p)) l env = pure false := by
  cases hv : noComp v with
  | true => cases v <;> first | rfl | (simp [noComp] at hv; done)
  | false =>
    rw [hv, Bool.false_or] at h
    have k : (env.kindOf x == some .local) = false := by
      show (env.scope.names.lookup x == some .local) = false
      simpa using h
    cases v <;> first | rfl | (unfold swapsWith; simp only [k, Bool.and_false, Bool.false_and]; done) | (unfold swapsWith; simp only [k, Bool.and_false, Bool.false_and]; rfl)
theorem isTrue_plainT {e : Expr} {env : Env} (h : plainT e = true) : ∀ whole, isTrue e env whole = (do let v ← whole; standAt e.pos; holding [v] (truthy v)) := by
  intro whole
  cases e <;> first | rfl | (simp [plainT] at h; done) | (rename_i op x p; cases op <;> first | rfl | (simp [plainT] at h; done))
theorem swaps_none {v : Expr} {t : Option Expr} {l : Nat} {env : Env} (h : noComp v = true) : swapsWith v t l env = pure false := by
  cases v <;> first | rfl | (simp [noComp] at h; done)
theorem star1 {e : Expr} {es : List Expr} {env : Env} (h : noStar e = true) : starEach (e :: es) env = (false, eval e env) :: starEach es env := by
  cases e <;> first | rfl | (simp [noStar] at h; done)
theorem folded_none {e : Expr} {env : Env} (h : noSet e = true) : ∀ x, foldedSetIterable e env x = pure x := by
  intro x
  cases e <;> first | rfl | (simp [noSet] at h; done)
theorem plain_ix {e : Expr} (h : noSlice e = true) : PlainIx e := by
  intro o i
  cases e <;> first | rfl | (simp [noSlice] at h; done)
theorem behind_none {op : CmpOp} {e : Expr} (h : noSet e = true) : behindInMarks op e = false := by
  cases e <;> first | rfl | (simp [noSet] at h; done)
end

/-! ### what is known of the context -/
/-- a literal's value -/
def litV : PyData → V
  | .bool b => .bl b
  | .int i => .int i
  | .str x => .str x
  | _ => .non
/-- an exception as it leaves -/
def ExAt (K : PySem.W.Frag) (mg : Str → Option Value) (cf : Cf) (G : Hp) (x : Xc) (cls : Value) (d : Addr) : Prop :=
  ∃ C v, mg (cf.xn x.cls) = some (.ref C) ∧ x.cls < cf.nr ∧ cls = .ref C ∧ G d = some (.xd [("place", v), ("word", .str x.word)]) ∧ Da K G v x.place
/-- behind something that raises: what own tells may have changed -/
structure FrX (G H : Hp) (own : Addr → Prop) (G' H' : Hp) : Prop where
  gg : Le G G'
  sub : Le G' H'
  hh : ∀ b o, H b = some o → ¬ own b → H' b = some o
  nw : ∀ b o, G' b = some o → G b = some o ∨ H b = none ∨ own b
abbrev Ft.own (A : Ft) : Addr → Prop := fun b => ∃ i, A i b
/-- what is known of what has been caught -/
structure CauOk (X : Cx) (cf : Cf) (u : Cau) : Prop where
  pn : ∃ oe, (∃ X0 pn, X = Cx.suite X0 u.a ((u.a, oe) :: pn)) ∧ Zc (.ref u.C) (some u.d) oe ∧ ∃ vs, oe.data = .fields vs
  nr : u.x.cls < cf.nr
  mg : X.mg (cf.xn u.x.cls) = some (.ref u.C)
structure XO (X : Cx) (cf : Cf) (E0 : WX) (as : As) (G H : Hp) (A : Ft) (x : Xc → Ev → Prop) : Prop where
  out : ∀ G' H' A' σ' env' e cls d, Fr G H A G' H' A' → Rel X.K G' H' σ' env' as A' → ExAt X.K X.mg cf G' e cls d → x e env' → E0 cls (some d) σ' H'
  cau : ∀ u ∈ as.ex, CauOk X cf u
  cold : cf.hot = false → as.ex = []
theorem XO.mono {X : Cx} {cf : Cf} {E0 : WX} {as : As} {G H G1 H1 : Hp} {A A1 : Ft} {x : Xc → Ev → Prop} (o : XO X cf E0 as G H A x) (f : Fr G H A G1 H1 A1) : XO X cf E0 as G1 H1 A1 x :=
  ⟨fun G' H' A' σ' env' e cls d g r h q => o.out G' H' A' σ' env' e cls d (f.trans g) r h q, o.cau, o.cold⟩
/-- arguments, and the places of those that the callee may change -/
inductive AgR (K : PySem.W.Frag) (G H : Hp) : List V → List Ag → List Addr → Prop
  | nil : AgR K G H [] [] []
  | d {v : V} {d : PyData} {vs : List V} {ags : List Ag} {as : List Addr} : Da K G v d → AgR K G H vs ags as → AgR K G H (v :: vs) (.d d :: ags) as
  | m {p : Addr} {ds : List PyData} {vs : List V} {ags : List Ag} {as : List Addr} : Lst K G H p ds → p ∉ as → AgR K G H vs ags as → AgR K G H (.ref p :: vs) (.m ds :: ags) (p :: as)
inductive MsR (K : PySem.W.Frag) (G H : Hp) : List Addr → List (List PyData) → Prop
  | nil : MsR K G H [] []
  | cons {p : Addr} {ds : List PyData} {as : List Addr} {ms : List (List PyData)} : Lst K G H p ds → MsR K G H as ms → MsR K G H (p :: as) (ds :: ms)
/-- behind a call: nothing but the places as has changed -/
structure FrC (G H : Hp) (as : List Addr) (G' H' : Hp) : Prop where
  gg : Le G G'
  sub : Le G' H'
  hh : ∀ b o, H b = some o → b ∉ as → H' b = some o
  nw : ∀ b o, G' b = some o → G b = some o ∨ H b = none
def spF (K : PySem.W.Frag) (mg : Str → Option Value) (cf : Cf) (F : Fs) (f : Nat) (ar : Nat) : Sp := fun vs H Q E => ∃ G ags as Qd xd, vs.length = ar ∧ Le G H ∧ AgR K G H vs ags as ∧ F f ags Qd xd ∧
  (∀ G' H' v r B ms, FrC G H as G' H' → RR K G' H' v B r → (∀ b, B b → H b = none) → MsR K G' H' as ms → Qd r ms → Q v H') ∧
  (∀ G' H' x cls d, FrX G H (· ∈ as) G' H' → ExAt K mg cf G' x cls d → xd x → E cls (some d) H')
/-- how an exception class is read -/
structure XRd (X : Cx) (cf : Cf) (c : Nat) : Prop where
  ex : ∃ C, X.mg (cf.xn c) = some (.ref C) ∧ XfC X.K C ∧ PySem.W.findIn X.K (.ref C) "word" = some none ∧ PySem.W.findIn X.K (.ref C) "place" = some none ∧ (PySem.W.clsIn X.K C).isSome = true ∧
    PySem.W.findIn X.K (.ref C) "__class__" = some (some (.builtin "object.__class__")) ∧ PySem.W.mroIn X.K C (.type "object") = some true
/-- a promise of an own __init__: word and place are stored -/
def spIni (K : PySem.W.Frag) (w : Str) : Sp := fun vs H Q _ => ∃ (a C : Addr) (v : V), vs = [.ref a, v] ∧ H a = some (exo a C none) ∧ OexC K C ∧ PySem.W.findIn K (.ref C) "word" = some none ∧ PySem.W.findIn K (.ref C) "place" = some none ∧
  ∀ dx H', H dx = none → dx ≠ a → H' a = some (exo a C (some dx)) → H' dx = some (exd dx [("place", v), ("word", .str w)]) → (∀ b, b ≠ a → b ≠ dx → H' b = H b) → Q .non H'
/-- how an exception is made -/
structure XMk (X : Cx) (cf : Cf) (c : Nat) : Prop where
  ex : ∃ C fI k fd, X.mg (cf.xn c) = some (.ref C) ∧ c < cf.nr ∧ OexC X.K C ∧ PySem.W.findIn X.K (.ref C) "__init__" = some (some (.ref fI)) ∧ PySem.W.typeIn X.K (.ref fI) = some (.type "function") ∧
    PySem.W.findIn X.K (.ref C) "word" = some none ∧ PySem.W.findIn X.K (.ref C) "place" = some none ∧
    FnOk X.prog X.w X.K X.mg X.base (L2.CX X.prog X.w) k fI fd ["self", "place"] (spIni X.K (cf.xn c)) ∧ Room (k + 1) X.A ∧ Binds X.K fd ["self", "place"] [] ∧ Binds X.K fd ["self", "place"] [.none]
/-- a name of a class, in a test -/
def XNm (X : Cx) (z : Str) (u : Value) : Prop := X.mg z = some u ∨ (X.mg z = none ∧ bootBuiltins z = some u ∧ z ≠ "__name__")
structure Ok (cf : Cf) (C : Nat → Option PyData) (F : Fs) (top : Bool) (X : Cx) (E0 : WX) : Prop where
  calm : cf.hot = false → X.calm = true
  nd : X.N.Nodup
  hN : X.N = cf.N
  units : X.A.units + 180 < cLine
  tk : Takes X E0
  ps : top = true → PassesOwn (model X.prog X.w) X.A X.env X.xe
  fnT : top = true → ∀ x, X.fn x = true
  bl : ∀ x, cf.bl.contains x = true → X.mg x = none
  cn : ∀ c d, C c = some d → ∃ u v, X.mg (cf.cn c) = some u ∧ RelV v u ∧ Da X.K (fun _ => none) v d
  gd : X.A.guards = some []
  lb : ∀ f, cf.lb.contains (lfn f) = true → X.mg (lfn f) = some (.builtin (lfi f))
  fn : ∀ f, f < cf.nf → ∃ fa fd ps k, FnG X.prog X.w X.K X.mg X.base k fa fd ps (spF X.K X.mg cf F f ps.length) ∧ (∀ ags Q x, F f ags Q x → ags.length = ps.length) ∧ Room k X.A ∧ X.mg (cf.nm f) = some (.ref fa) ∧ PySem.W.keepIn X.K (.ref fa) = true ∧
    Binds X.K fd ps [] ∧ (∀ ds, dfB (cf.df f) ds = true → ds ≠ [] → ∃ us, Vals (ds.map litV) us ∧ Binds X.K fd ps us)
  st : top = true → cf.hot = false → X.stack = X.env :: X.outer ∧ X.env.frame = some X.env.locals
  rd : ∀ c, c < cf.nr → XRd X cf c
  xm : ∀ c, c < cf.nx → XMk X cf c
  it : ∀ z ts, cf.it.contains (z, ts) = true → ∃ cv u, XNm X z u ∧ ClsV cv u ∧ ∀ c C, c < cf.nr → X.mg (cf.xn c) = some (.ref C) → PySem.W.kitOne X.K (.ref C) u = some (ts.contains c)
  ct : ∀ z ts, cf.ct.contains (z, ts) = true → ∃ u, XNm X z u ∧ ∀ c C, c < cf.nr → X.mg (cf.xn c) = some (.ref C) → PySem.W.exmOne X.K (.ref C) u = some (ts.contains c)
  hx : cf.hot = true → cf.nx = 0
  cg : 0 < cf.nr → PySem.W.specialIn X.K (.builtin "object.__class__") "__get__" = some (some (.builtin "getset_descriptor.__get__")) ∧ PySem.W.takesIn X.K (.builtin "object.__class__") = some true
/-- what a loop walks: the items of ds, one by one -/
structure Wk (K : PySem.W.Frag) (J : It) (G : Hp) (ds : List PyData) : Prop where
  go : ∀ i H, i < ds.length → Le G H → J.go i H
  stop : ∀ i H, ds.length ≤ i → Le G H → J.stop i H
  yld : ∀ i H x H' d G1, ds[i]? = some d → Le G G1 → Le G1 H → J.yld i H x H' → (H' = H ∧ Da K G1 x d) ∨ ∃ p o, H p = none ∧ H' = upd H p o ∧ Da K (upd G1 p o) x d

/-! ### what is to be shown -/
section
variable (cf : Cf) (C : Nat → Option PyData) (F : Fs) (X : Cx) (E0 : WX) (n : N)
def SE (e : Expr) : Prop := ∀ env k G H σ as A, wp F C n env k → Rel X.K G H σ env as A → XO X cf E0 as G H A k.x → ∀ Qv : VK,
  (∀ G' H' A' env' v r B, Po X.K as σ G H A G' H' σ env' A' v r B → k.e r env' → Qv v H') → wE X e σ H Qv
def ST (e : Expr) : Prop := ∀ env k G H σ as A, wp F C n env k → Rel X.K G H σ env as A → XO X cf E0 as G H A k.x → ∀ Qv : Bool → Hp → Prop,
  (∀ G' H' A' env' b, Fr G H A G' H' A' → Rel X.K G' H' σ env' as A' → k.t b env' → Qv b H') → wT X e σ H Qv
def SQ (es : List Expr) : Prop := ∀ env k G H σ as A, wp F C n env k → Rel X.K G H σ env as A → XO X cf E0 as G H A k.x → ∀ Qv : Bool → Hp → Prop,
  (∀ G' H' A' env' b, Fr G H A G' H' A' → Rel X.K G' H' σ env' as A' → k.t b env' → Qv b H') → wQ X es σ H Qv
/-- what stands for an argument: plain data, or a name -/
def ArR (K : PySem.W.Frag) (G : Hp) (σ : L2.St) (v : V) : Sum PyData Nat → Prop
  | .inl d => Da K G v d
  | .inr i => σ[i]? = some (some v)
def SA (es : List Expr) : Prop := ∀ env k G H σ as A, wp F C n env k → Rel X.K G H σ env as A → XO X cf E0 as G H A k.x → ∀ Qv : List V → Hp → Prop,
  (∀ G' H' A' env' vs l, Fr G H A G' H' A' → Rel X.K G' H' σ env' as A' → Paired (ArR X.K G' σ) vs l → l.length = es.length → k.a l env' → Qv vs H') → wA X es σ H Qv
def SI (tg e : Expr) : Prop := ∀ env k G H σ as A, wp F C n env k → Rel X.K G H σ env as A → XO X cf E0 as G H A k.x → ∀ R : It → Hp → Prop,
  (∀ G' H' A' env' J ds, Fr G H A G' H' A' → Rel X.K G' H' σ env' as A' → Wk X.K J G' ds → k.i ds env' → R J H') → wI X tg e σ H R
def optL : Option Int → List PyData
  | none => []
  | some i => [.int i]
def SO (e : Option Expr) : Prop := ∀ env k G H σ as A, wp F C n env k → Rel X.K G H σ env as A → XO X cf E0 as G H A k.x → ∀ Qv : Option Int → Hp → Prop,
  (∀ G' H' A' env' l o, Fr G H A G' H' A' → Rel X.K G' H' σ env' as A' → l = optL o → k.i l env' → Qv o H') → wO X e σ H Qv
def SS (w : TS) : Prop := ∀ env k G H σ as A, wp F C n env k → Rel X.K G H σ env as A → XO X cf E0 as G H A k.x → ∀ D : Ends,
  (∀ G' H' A' σ' env', Fr G H A G' H' A' → Rel X.K G' H' σ' env' as A' → k.nx env' → D.nx σ' H') →
  (∀ G' H' A' σ' env', Fr G H A G' H' A' → Rel X.K G' H' σ' env' as A' → k.bk env' → D.bk σ' H') →
  (∀ G' H' A' σ' env', Fr G H A G' H' A' → Rel X.K G' H' σ' env' as A' → k.ct env' → D.ct σ' H') →
  (∀ G' H' A' σ' env' v r B, Po X.K as σ G H A G' H' σ' env' A' v r B → k.rt r env' → D.rt v H') → w D σ H
def Snd : Ast → Prop
  | .e e => SE cf C F X E0 n e
  | .t e => ST cf C F X E0 n e
  | .a es => SA cf C F X E0 n es
  | .i tg e => SI cf C F X E0 n tg e
  | .p e => SO cf C F X E0 n e
  | .q es => SQ cf C F X E0 n es
  | .s st => SS cf C F X E0 n (wS X st)
  | .b st => SS cf C F X E0 n (wB X st)
end
end Pi

namespace Pi
open PySem L2 PySem.Spec PyProof.Rows

/-- a value that may be read as d -/
def Pk (K : PySem.W.Frag) (G H : Hp) (v : V) (d : PyData) : Prop := Da K G v d ∨ ∃ ds p, d = .list ds ∧ v = .ref p ∧ Lst K G H p ds
section
variable {K : PySem.W.Frag} {G H G' H' : Hp} {σ : L2.St} {env : Ev} {as : As} {A : Ft} {v x y : V} {d dx dy : PyData}
theorem Pk.da (s : Le G H) (h : Pk K G H v d) : Da K H v d := by
  rcases h with h | ⟨ds, p, rfl, rfl, h⟩
  · exact Da.le s h
  · obtain ⟨_, xs, h1, h2⟩ := h
    exact .lst (SqL.of h1) (DaAll.le s h2)
theorem Pk.int {i : Int} (h : Pk K G H v (.int i)) : v = .int i := by
  rcases h with h | ⟨ds, p, h, _⟩
  · cases h; rfl
  · cases h
theorem Pk.bl {i : Bool} (h : Pk K G H v (.bool i)) : v = .bl i := by
  rcases h with h | ⟨ds, p, h, _⟩
  · cases h; rfl
  · cases h
theorem Pk.str {i : Str} (h : Pk K G H v (.str i)) : v = .str i := by
  rcases h with h | ⟨ds, p, h, _⟩
  · cases h; rfl
  · cases h
theorem Pk.non (h : Pk K G H v .none) : v = .non := by
  rcases h with h | ⟨ds, p, h, _⟩
  · cases h; rfl
  · cases h
theorem Pk.list {ds : List PyData} (s : Le G H) (h : Pk K G H v (.list ds)) : ∃ p xs, v = .ref p ∧ SqL K H p xs ∧ DaAll K G xs ds := by
  rcases h with h | ⟨ds', p, e, rfl, h⟩
  · cases h with
    | lst h1 h2 => exact ⟨_, _, rfl, s.l h1, h2⟩
  · cases e
    obtain ⟨_, xs, h1, h2⟩ := h
    exact ⟨p, xs, rfl, SqL.of h1, h2⟩
theorem Pk.tup {ds : List PyData} (s : Le G H) (h : Pk K G H v (.tuple ds)) : ∃ p xs, v = .ref p ∧ SqT K H p xs ∧ DaAll K G xs ds ∧ Da K G v (.tuple ds) := by
  rcases h with h | ⟨ds', p, e, rfl, h⟩
  · have h0 := h
    cases h with
    | tup h1 h2 => exact ⟨_, _, rfl, s.t h1, h2, h0⟩
  · cases e
theorem Pk.mono (h : Pk K G H v d) (g : Le G G') (n : ∀ p ds, v = .ref p → Lst K G H p ds → G' p = none ∧ H' p = H p) : Pk K G' H' v d := by
  rcases h with h | ⟨ds, p, rfl, rfl, h⟩
  · exact .inl (Da.le g h)
  · exact .inr ⟨ds, p, rfl, rfl, h.mono g (n p ds rfl h).1 (n p ds rfl h).2⟩
/-- a name's value -/
theorem Rel.peek (r : Rel K G H σ env as A) {i : Nat} {c : PyData → Prop} (h : peek env i c) : ∃ d v, σ[i]? = some (some v) ∧ Pk K G H v d ∧ c d := by
  unfold Pi.peek at h
  split at h
  · rename_i d e
    obtain ⟨_, v, h1, h2⟩ := r.sl i _ e
    exact ⟨d, v, h1, .inl h2, h⟩
  · rename_i ds e
    obtain ⟨p, h1, _, h2⟩ := r.sl i _ e
    exact ⟨.list ds, _, h1, .inr ⟨ds, p, rfl, rfl, h2⟩, h⟩
  · rename_i m ds e
    obtain ⟨p, h1, _, _, h2⟩ := r.sl i _ e
    exact ⟨.list ds, _, h1, .inr ⟨ds, p, rfl, rfl, h2⟩, h⟩
  · exact h.elim
/-- a name that is an own list -/
theorem Rel.lst (r : Rel K G H σ env as A) {i : Nat} {ds : List PyData} (h : env[i]? = some (.own ds) ∨ ∃ m, env[i]? = some (.mu m ds)) : ∃ p, σ[i]? = some (some (.ref p)) ∧ (∀ b, A i b ↔ b = p) ∧ Lst K G H p ds := by
  rcases h with h | ⟨m, h⟩
  · obtain ⟨p, h1, h2, h3⟩ := r.sl i _ h
    exact ⟨p, h1, h2, h3⟩
  · obtain ⟨p, h1, _, h2, h3⟩ := r.sl i _ h
    exact ⟨p, h1, h2, h3⟩
theorem Rel.lt (r : Rel K G H σ env as A) {i : Nat} {s : Sl} (h : env[i]? = some s) : i < env.length := (List.getElem?_eq_some_iff.mp h).1
/-- an own list is changed in its place -/
theorem Rel.write (r : Rel K G H σ env as A) {i : Nat} {p : Addr} {ds ds' : List PyData} {xs' : List V} {s s' : Sl} (h : env[i]? = some s) (hp : σ[i]? = some (some (.ref p))) (hA : ∀ b, A i b ↔ b = p) (l : Lst K G H p ds) (h' : DaAll K G xs' ds')
    (hs : (s = .own ds ∧ s' = .own ds') ∨ ∃ m, s = .mu m ds ∧ s' = .mu m ds') : Rel K G (upd H p (.lst xs')) σ (env.set i s') as A ∧ Fr G H A G (upd H p (.lst xs')) A := by
  have hG : G p = none := l.1
  have sub : Le G (upd H p (.lst xs')) := fun b o e => by
    rw [upd_ne (ne_of_none e hG)]; exact r.sub b o e
  have hi := r.lt h
  have nl : Lst K G (upd H p (.lst xs')) p ds' := ⟨hG, xs', upd_same, h'⟩
  have ne : ∀ j b, j ≠ i → A j b → b ≠ p := fun j b hj hb e => hj (r.ap j i b hb ((hA b).mpr e))
  refine ⟨⟨sub, by rw [List.length_set]; exact r.len, fun j t ht => ?_, fun j hj => r.out j (by rw [List.length_set] at hj; exact hj), r.ap⟩,
    ⟨Le.refl G, fun b o e n => by rw [upd_ne fun z => n i ((hA b).mpr z)]; exact e, fun b o e => .inl e, fun j b e => .inl ⟨j, e⟩⟩⟩
  by_cases e : j = i
  · subst e
    rw [List.getElem?_set_self hi] at ht
    cases ht
    have q := r.sl j s h
    rcases hs with ⟨rfl, rfl⟩ | ⟨m, rfl, rfl⟩
    · exact ⟨p, hp, hA, nl⟩
    · obtain ⟨p', h1, h2, h3, _⟩ := q
      rw [hp] at h1
      cases h1
      exact ⟨p, hp, h2, hA, nl⟩
  · rw [List.getElem?_set_ne (Ne.symm e)] at ht
    have q := r.sl j t ht
    cases t with
    | no => exact q
    | dat d => exact q
    | exc x => exact q
    | own es =>
      obtain ⟨p', q1, q2, q3⟩ := q
      exact ⟨p', q1, q2, q3.mono (Le.refl G) q3.1 (upd_ne (ne j p' e ((q2 p').mpr rfl)))⟩
    | mu m es =>
      obtain ⟨p', q1, q0, q2, q3⟩ := q
      exact ⟨p', q1, q0, q2, q3.mono (Le.refl G) q3.1 (upd_ne (ne j p' e ((q2 p').mpr rfl)))⟩
/-! results -/
theorem Po.same (r : Rel K G H σ env as A) (h : Da K G v d) : Po K as σ G H A G H σ env A v (.dat d) no0 :=
  ⟨Fr.refl G H A, r, ⟨fun _ z => z, h⟩, fun _ _ _ z => z, fun _ z => z.elim⟩
theorem Po.newT (r : Rel K G H σ env as A) {p : Addr} {xs : List V} {ds : List PyData} (hp : H p = none) (h : DaAll K G xs ds) :
    Po K as σ G H A (upd G p (.tup xs)) (upd H p (.tup xs)) σ env A (.ref p) (.dat (.tuple ds)) no0 := by
  have f := Fr.up (A := A) (o := .tup xs) hp r.sub
  exact ⟨f, r.up hp, ⟨fun _ z => z, .tup (SqT.of upd_same) (DaAll.le f.gg h)⟩, fun _ _ _ z => z, fun _ z => z.elim⟩
theorem Po.newL (r : Rel K G H σ env as A) {p : Addr} {xs : List V} {ds : List PyData} (hp : H p = none) (h : DaAll K G xs ds) :
    Po K as σ G H A G (upd H p (.lst xs)) σ env A (.ref p) (.own ds) (fun b => b = p) := by
  have hG : G p = none := by
    cases e : G p with
    | none => rfl
    | some u => have := r.sub p u e; rw [hp] at this; cases this
  refine ⟨Fr.upH hp, r.upH hp, ⟨p, rfl, fun _ => Iff.rfl, hG, xs, upd_same, h⟩, fun i b h1 h2 => ?_, fun b e => .inr (by rw [e]; exact hp)⟩
  obtain ⟨xs, hx, _⟩ := r.own_some h1
  rw [h2, hp] at hx; cases hx
theorem Po.pre {G0 H0 G1 H1 : Hp} {A0 A1 : Ft} {σ0 σ' : L2.St} {env' : Ev} {r : R} {B : Addr → Prop} (f : Fr G0 H0 A0 G H A) (p : Po K as σ G H A G1 H1 σ' env' A1 v r B) : Po K as σ0 G0 H0 A0 G1 H1 σ' env' A1 v r B := by
  refine ⟨f.trans p.fr, p.rel, p.rr, p.sep, fun b h => ?_⟩
  rcases p.org b h with ⟨j, h1⟩ | h1
  · exact f.ow j b h1
  · cases e : H0 b with
    | none => exact .inr rfl
    | some o =>
      refine .inl (Classical.byContradiction fun n => ?_)
      have := f.hh b o e fun i hi => n ⟨i, hi⟩
      rw [h1] at this; cases this
/-- a result is kept as plain data -/
theorem Po.freeze {G1 H1 : Hp} {A1 : Ft} {σ' : L2.St} {env' : Ev} {r : R} {B : Addr → Prop} (p : Po K as σ G H A G1 H1 σ' env' A1 v r B) :
    ∃ G2, Fr G H A G2 H1 A1 ∧ Rel K G2 H1 σ' env' as A1 ∧ Da K G2 v r.d := by
  cases r with
  | dat d => exact ⟨G1, p.fr, p.rel, p.rr.2⟩
  | own ds =>
    obtain ⟨q, rfl, hB, hG, xs, hx, hd⟩ := p.rr
    have g : Le G1 (upd G1 q (.lst xs)) := Le.new hG
    refine ⟨upd G1 q (.lst xs), ⟨p.fr.gg.trans g, p.fr.hh, fun b o e => ?_, p.fr.ow⟩, p.rel.grow g (fun b o e => ?_) fun i b hb => ?_, .lst (SqL.of upd_same) (DaAll.le g hd)⟩
    · by_cases hb : b = q
      · subst hb
        rcases p.org b ((hB b).mpr rfl) with h | h
        · exact .inr (.inr h)
        · exact .inr (.inl h)
      · rw [upd_ne hb] at e; exact p.fr.nw b o e
    · by_cases hb : b = q
      · subst hb; rw [upd_same] at e; cases e; exact hx
      · rw [upd_ne hb] at e; exact p.rel.sub b o e
    · have ne : b ≠ q := fun e => p.sep i b hb ((hB b).mpr e)
      exact ⟨by rw [upd_ne ne]; exact (p.rel.own_some hb).choose_spec.2, rfl⟩
/-- a name's value is kept as plain data -/
theorem Rel.freeze (r : Rel K G H σ env as A) {i : Nat} {ds : List PyData} (h : env[i]? = some (.own ds)) :
    ∃ G2 A2 v, σ[i]? = some (some v) ∧ Fr G H A G2 H A2 ∧ Rel K G2 H σ (env.set i (.dat (.list ds))) as A2 ∧ Da K G2 v (.list ds) := by
  obtain ⟨p, h1, h2, h3⟩ := r.sl i _ h
  obtain ⟨hG, xs, hx, hd⟩ := h3
  have g : Le G (upd G p (.lst xs)) := Le.new hG
  have hi := r.lt h
  have dv : Da K (upd G p (.lst xs)) (.ref p) (.list ds) := .lst (SqL.of upd_same) (DaAll.le g hd)
  have ne : ∀ j b, j ≠ i → A j b → b ≠ p := fun j b hj hb e => hj (r.ap j i b hb ((h2 b).mpr e))
  refine ⟨upd G p (.lst xs), A.set i no0, .ref p, h1, ⟨g, fun b o e _ => e, fun b o e => ?_, fun j b e => ?_⟩, ?_, dv⟩
  · by_cases hb : b = p
    · subst hb; exact .inr (.inr ⟨i, (h2 b).mpr rfl⟩)
    · rw [upd_ne hb] at e; exact .inl e
  · by_cases hj : j = i
    · subst hj; exact (Ft.set_self.mp e).elim
    · exact .inl ⟨j, (Ft.set_ne hj).mp e⟩
  · have sub : Le (upd G p (.lst xs)) H := fun b o e => by
      by_cases hb : b = p
      · subst hb; rw [upd_same] at e; cases e; exact hx
      · rw [upd_ne hb] at e; exact r.sub b o e
    refine ⟨sub, by rw [List.length_set]; exact r.len, fun j t ht => ?_, fun j hj b e => ?_, fun j k b e1 e2 => ?_⟩
    · by_cases e : j = i
      · subst e
        rw [List.getElem?_set_self hi] at ht
        cases ht
        exact ⟨fun b z => (Ft.set_self.mp z), .ref p, h1, dv⟩
      · rw [List.getElem?_set_ne (Ne.symm e)] at ht
        have q := r.sl j t ht
        have eA : A.set i no0 j = A j := by funext b; exact propext (Ft.set_ne e)
        rw [eA]
        cases t with
        | no => exact q
        | dat d => obtain ⟨q1, w, q2, q3⟩ := q; exact ⟨q1, w, q2, Da.le g q3⟩
        | exc x => obtain ⟨q1, u, w, q2, q3, q4, q5, q6⟩ := q; exact ⟨q1, u, w, q2, q3, q4, g _ _ q5, Da.le g q6⟩
        | own es =>
          obtain ⟨p', q1, q2, q3⟩ := q
          exact ⟨p', q1, q2, q3.mono g (by rw [upd_ne (ne j p' e ((q2 p').mpr rfl))]; exact q3.1) rfl⟩
        | mu m es =>
          obtain ⟨p', q1, q0, q2, q3⟩ := q
          exact ⟨p', q1, q0, q2, q3.mono g (by rw [upd_ne (ne j p' e ((q2 p').mpr rfl))]; exact q3.1) rfl⟩
    · rw [List.length_set] at hj
      exact r.out j hj b ((Ft.set_ne (show j ≠ i by omega)).mp e)
    · by_cases z1 : j = i
      · subst z1; exact (Ft.set_self.mp e1).elim
      · by_cases z2 : k = i
        · subst z2; exact (Ft.set_self.mp e2).elim
        · exact r.ap j k b ((Ft.set_ne z1).mp e1) ((Ft.set_ne z2).mp e2)
end
open AutoSeq1 (wpAny_loadPart')
theorem rmul_listW (i : Int) (t : Tok) (p : Addr) (xs : Array Value) (n : Nat) (sl : Array (Option Value)) :
    Meets (Builtin.«int.__rmul__» ⟨[.int i t, .ref p], []⟩) (fun _ R s => s.heap.get? p = some { cls := .type "list", dict := none, data := .seq xs n, slots := sl } ∧ R (.ok (.ret Value.notImplemented)) s) := by
  refine .of_wp fun prog w A R s h => ?_
  obtain ⟨hp, g, d, tk, os⟩ := s
  obtain ⟨hl, h⟩ := h
  wp_walk using wpAny_loadPart' hl
  exact ⟨_, rfl, h⟩
theorem mul_listW (p : Addr) (xs : Array Value) (n : Nat) (sl : Array (Option Value)) (i : Int) (t : Tok) (c0 : ¬(!Builtin.List.listFitsIndex i) = true) (c1 : ¬xs.size * i.toNat > (2 ^ 63 - 1) / 8) (c2 : ¬Builtin.List.listTooLong (xs.size * i.toNat) = true) :
    Meets (Builtin.«list.__mul__» ⟨[.ref p, .int i t], []⟩) (fun _ R s => s.heap.get? p = some { cls := .type "list", dict := none, data := .seq xs n, slots := sl } ∧
      R (.ok (.ret (Value.ref s.heap.objs.size))) { s with heap := s.heap.push { cls := Value.type "list", data := Data.seq (List.foldl (fun x1 x2 => x1 ++ x2) #[] (List.replicate (if xs.isEmpty = true then 0 else i.toNat) xs)) }, toks := s.toks }) := by
  refine .of_wp fun prog w A R s h => ?_
  obtain ⟨hp, g, d, tk, os⟩ := s
  obtain ⟨hl, h⟩ := h
  have f1 := AutoSeq1.idx_int
  have hsz := AutoListH.joined_fits c2
  wp_walk using wpAny_loadPart' hl
  refine wpAny_ite_false (decide_eq_false (Nat.not_lt.mpr hsz)) ?_
  wp_walk using wpAny_loadPart' hl
  exact ⟨_, rfl, h⟩
section
variable {X : Cx} {G H : Hp} {σ : L2.St} {env : Ev} {as : As} {A : Ft} {x y : V} {dx dy : PyData}
/-- list + list, whatever stands there -/
def rCatS (K : PySem.W.Frag) : R2 := fun x y H Q => ∃ l b xs zs, x = .ref l ∧ y = .ref b ∧ SqL K H l xs ∧ SqL K H b zs ∧ xs.length + zs.length ≤ sizeLine ∧ ∀ p, H p = none → Q (.ref p) (upd H p (.lst (xs ++ zs)))
theorem wp_addL {s : Shared} {E : Value → Shared → Prop} {A : Around} {prog : Program} {w : World} {l b : Addr} {vs ws : List Value} {Q : Value → Shared → Prop} (hl : s.heap.IsList l vs.toArray) (hb : s.heap.IsList b ws.toArray)
    (h : Q (.ref s.heap.objs.size) { s with heap := s.heap.push { cls := .type "list", data := .seq (vs ++ ws).toArray } })
    (hsz : vs.length + ws.length ≤ sizeLine) : wpAny (model prog w) A (binaryOp .Add (.ref l) (.ref b)) Q E s := by
  obtain ⟨⟨c1, d1, t1, z1⟩, o1, k1, n1, e1⟩ := id hl
  obtain ⟨⟨c2, d2, t2, z2⟩, o2, k2, n2, e2⟩ := id hb
  simp only at k1 e1 k2 e2
  subst k1 e1 k2 e2
  have e : vs.toArray ++ ws.toArray = (vs ++ ws).toArray := by simp
  refine concat_meets ⟨_, o1, rfl⟩ ⟨_, o2, rfl⟩ noFill_list_add seq_list_add PySem.F.slot_list_add PySem.F.entry_list_add (PySem.F.args_list_add_2 _ _) (list_addW l b vs.toArray ws.toArray n1 n2 d1 d2 z1 z2 (by simpa using hsz)) ⟨o1, o2, ?_⟩
  rw [e]
  exact h
theorem op_catS : OpR X (binaryOp .Add) (rCatS X.K) := by
  intro pins s σ H x y v u Q I rx ry h
  obtain ⟨l, b, xs, zs, rfl, rfl, hH, hB, hz, q⟩ := h
  cases rx
  cases ry
  obtain ⟨its, r, e, n⟩ := I.list hH
  obtain ⟨its2, r2, e2, n2⟩ := I.list hB
  have hl := r.length
  have hl2 := r2.length
  refine wp_addL e.isList e2.isList ?_ (by omega)
  exact ⟨.ref _, _, I.lnew (t' := s.toks) (r.append r2) (by rw [List.length_append]; omega), rfl, q _ I.fresh⟩
/-- list * int, whatever stands there -/
def rRepS (K : PySem.W.Frag) : R2 := fun x y H Q => ∃ l n xs, x = .ref l ∧ y = .int n ∧ SqL K H l xs ∧ -(2 ^ 63) ≤ n ∧ n < 2 ^ 63 ∧ xs.length * n.toNat ≤ sizeLine ∧ ∀ p, H p = none → Q (.ref p) (upd H p (.lst (List.replicate n.toNat xs).flatten))
theorem rep_arr (its : List Value) (m : Nat) : List.foldl (fun x1 x2 => x1 ++ x2) #[] (List.replicate (if its.toArray.isEmpty = true then 0 else m) its.toArray) = (List.replicate m its).flatten.toArray := by
  have h := foldl_rep its m []
  rw [List.nil_append] at h
  cases its with
  | nil => simp
  | cons a t =>
    rw [if_neg (by simp)]
    exact h
theorem op_repS : OpR X (binaryOp .Mult) (rRepS X.K) := by
  intro pins s σ H x y v u Q I rx ry h
  obtain ⟨l, n, xs, rfl, rfl, hH, h1, h2, hz, q⟩ := h
  cases rx
  obtain ⟨t, rfl⟩ := ry
  obtain ⟨its, r, ⟨o, e0, e1, e2, e3, e4⟩, hz2⟩ := I.list hH
  obtain ⟨cls, dd, data, sl⟩ := o
  simp only at e2 e3 e4
  subst e2 e3 e4
  have zl : its.toArray.size * n.toNat ≤ sizeLine := by rw [List.size_toArray, ← r.length]; exact hz
  have zc : ¬ its.toArray.size * n.toNat > (2 ^ 63 - 1) / 8 := by
    have : (sizeLine : Nat) ≤ (2 ^ 63 - 1) / 8 := by decide
    omega
  have zf : ¬ (!Builtin.List.listFitsIndex n) = true := by
    rw [fitsIndex_both h1 h2]
    exact Bool.false_ne_true
  have zt : ¬ Builtin.List.listTooLong (its.toArray.size * n.toNat) = true := by
    rw [notLongL zl]
    exact Bool.false_ne_true
  have fin := mul_listW l its.toArray e0 sl n t zf zc zt
  refine wpAny_binaryOp_repeat_ref (T := "list") (U := "int") (by decide) ⟨_, e1, rfl⟩ (fun s' => typeIs_int s' n t) noFill_list_mul F.fills_int_mul F.slot_int_rmul repeat_list F.slot_int_index.lookup
    (call_meets F.slot_int_rmul (typeIs_int s n t) F.entry_int_rmul (F.args_int_rmul_2 _ _) (rmul_listW n t l its.toArray e0 sl) ⟨e1, rfl, ⟨_, e1, rfl⟩, call_meets F.slot_list_mul ⟨_, e1, rfl⟩ F.entry_list_mul (F.args_list_mul_2 _ _) fin ⟨e1, ?_⟩⟩)
  rw [rep_arr]
  exact ⟨.ref _, _, I.lnew (t' := s.toks) (r.rep n.toNat) (by rw [PyProof.Rows.lm_len_rep_flat, Nat.mul_comm]; exact hz), rfl, q _ I.fresh⟩
theorem DaAll.rep {K : PySem.W.Frag} {H : Hp} {vs : List V} {ds : List PyData} (h : DaAll K H vs ds) : ∀ n : Nat, DaAll K H (List.replicate n vs).flatten (List.replicate n ds).flatten
  | 0 => .nil
  | n + 1 => by
    rw [List.replicate_succ, List.replicate_succ, List.flatten_cons, List.flatten_cons]
    exact h.append (DaAll.rep h n)
theorem rep_self {α : Type} {ds : List α} {n : Int} (h : ds = [] ∨ n = 1) : (List.replicate n.toNat ds).flatten = ds := by
  rcases h with rfl | rfl
  · induction n.toNat with
    | zero => rfl
    | succ m ih => rw [List.replicate_succ, List.flatten_cons, ih]; rfl
  · simp
theorem DaAll.nil_iff {K : PySem.W.Frag} {G : Hp} {xs : List V} {ds : List PyData} (h : DaAll K G xs ds) (e : xs = []) : ds = [] := by
  subst e
  cases h
  rfl
theorem binW_ok {o : BO} {op : Operator} {k : R → Prop} (hb : boB o op = true) (r : Rel X.K G H σ env as A) (hx : Pk X.K G H x dx) (hy : Pk X.K G H y dy) (h : binW o dx dy k) {Qv : VK}
    (q : ∀ G' H' v r B, Po X.K as σ G H A G' H' σ env A v r B → k r → Qv v H') : wOp X (binaryOp op) x y H Qv := by
  unfold binW at h
  split at h
  · cases op <;> simp only [boB, Bool.false_eq_true] at hb
    cases hx.int; cases hy.int
    exact wOp_of op_add ⟨_, _, rfl, rfl, q _ _ _ _ _ (Po.same r (.int _)) h⟩
  · cases op <;> simp only [boB, Bool.false_eq_true] at hb
    cases hx.str; cases hy.str
    exact wOp_of op_add_str ⟨_, _, rfl, rfl, h.1, q _ _ _ _ _ (Po.same r (.str _)) h.2⟩
  · cases op <;> simp only [boB, Bool.false_eq_true] at hb
    obtain ⟨p, xs, rfl, h1, h2⟩ := hx.list r.sub
    obtain ⟨p', ys, rfl, h3, h4⟩ := hy.list r.sub
    have z := h.1
    unfold sz at z
    rw [← h2.length, ← h4.length] at z
    exact wOp_of op_catS ⟨_, _, xs, ys, rfl, rfl, h1, h3, z, fun l hl => q _ _ _ _ _ (Po.newL r hl (h2.append h4)) h.2⟩
  · cases op <;> simp only [boB, Bool.false_eq_true] at hb
    obtain ⟨p, xs, rfl, h1, h2, e1⟩ := hx.tup r.sub
    obtain ⟨p', ys, rfl, h3, h4, e2⟩ := hy.tup r.sub
    have z := h.1
    unfold sz at z
    rw [← h2.length, ← h4.length] at z
    rename_i a b _
    refine wOp_of op_catA ⟨_, _, xs, ys, rfl, rfl, h1, h3, z, fun e => ?_, fun _ e => ?_, fun _ _ l hl => q _ _ _ _ _ (Po.newT r hl (h2.append h4)) h.2⟩
    · subst e
      cases h2
      exact q _ _ _ _ _ (Po.same r e2) h.2
    · subst e
      cases h4
      have h' := h.2
      rw [List.append_nil] at h'
      exact q _ _ _ _ _ (Po.same r e1) h'
  · cases op <;> simp only [boB, Bool.false_eq_true] at hb
    cases hx.int; cases hy.int
    exact wOp_of op_sub ⟨_, _, rfl, rfl, q _ _ _ _ _ (Po.same r (.int _)) h⟩
  · cases op <;> simp only [boB, Bool.false_eq_true] at hb
    cases hx.int; cases hy.int
    rcases h.1 with m | m
    · exact wOp_of op_mul ⟨_, _, rfl, rfl, m, q _ _ _ _ _ (Po.same r (.int _)) h.2⟩
    · exact wOp_of op_mulW ⟨_, _, rfl, rfl, m, q _ _ _ _ _ (Po.same r (.int _)) h.2⟩
  · cases op <;> simp only [boB, Bool.false_eq_true] at hb
    obtain ⟨p, xs, rfl, h1, h2⟩ := hx.list r.sub
    cases hy.int
    obtain ⟨z1, z2, z3, z4⟩ := h
    unfold sz at z3
    rw [← h2.length] at z3
    exact wOp_of op_repS ⟨_, _, xs, rfl, rfl, h1, z1, z2, z3, fun l hl => q _ _ _ _ _ (Po.newL r hl (h2.rep _)) z4⟩
  · cases op <;> simp only [boB, Bool.false_eq_true] at hb
    obtain ⟨p, xs, rfl, h1, h2, e1⟩ := hx.tup r.sub
    cases hy.int
    obtain ⟨z1, z2, z3, z4⟩ := h
    rw [← h2.length] at z3
    refine wOp_of op_repA ⟨_, _, xs, rfl, rfl, h1, z1, z2, z3, fun e => ?_, fun l hl => q _ _ _ _ _ (Po.newT r hl (h2.rep _)) z4⟩
    rw [rep_self (e.imp h2.nil_iff id)] at z4
    exact q _ _ _ _ _ (Po.same r e1) z4
  · cases op <;> simp only [boB, Bool.false_eq_true] at hb
    cases hx.int; cases hy.int
    exact wOp_of op_shlW ⟨_, _, rfl, rfl, h.1, q _ _ _ _ _ (Po.same r (.int _)) h.2⟩
  · cases op <;> simp only [boB, Bool.false_eq_true] at hb
    cases hx.int; cases hy.int
    exact wOp_of op_shr ⟨_, _, rfl, rfl, h.1, q _ _ _ _ _ (Po.same r (.int _)) h.2⟩
  · cases op <;> simp only [boB, Bool.false_eq_true] at hb
    cases hx.int; cases hy.int
    rcases h.1 with m | m
    · exact wOp_of op_fdiv ⟨_, _, rfl, rfl, m, q _ _ _ _ _ (Po.same r (.int _)) h.2⟩
    · exact wOp_of op_fdivW ⟨_, _, rfl, rfl, m, q _ _ _ _ _ (Po.same r (.int _)) h.2⟩
  · cases op <;> simp only [boB, Bool.false_eq_true] at hb
    cases hx.int; cases hy.int
    exact wOp_of op_mod ⟨_, _, rfl, rfl, h.1, q _ _ _ _ _ (Po.same r (.int _)) h.2⟩
  · cases op <;> simp only [boB, Bool.false_eq_true] at hb
    cases hx.int; cases hy.int
    exact wOp_of op_pow ⟨_, _, rfl, rfl, h.1, q _ _ _ _ _ (Po.same r (.int _)) h.2⟩
  · exact h.elim
theorem isNone_of {v : V} (h : Pk X.K G H v dx) : decide (v = V.non) = isNone dx := by
  rcases h with h | ⟨ds, p, rfl, rfl, h⟩
  · cases h <;> rfl
  · rfl
/-- x in t, t a tuple -/
theorem op_inT (hu : X.A.units + 65 < cLine) : OpR X (compareOp .In) (fun x y H Q => ∃ d ds, Dp X.K H x d ∧ Dp X.K H y (.tuple ds) ∧ SeqAt.shaped d = true ∧ SeqAt.shaped (.tuple ds) = true ∧ Q (.bl (ds.any fun z => PyData.eqv z d)) H) := by
  intro pins s σ H x y v u Q I rx ry h
  obtain ⟨d, ds, hd, he, sd, se, q⟩ := h
  obtain ⟨a1, g1⟩ := Dp.reads I d x v hd rx
  obtain ⟨a2, g2⟩ := Dp.reads I (.tuple ds) y u he ry
  exact SeqAt.in_tuple_reads g2 g1 (SeqAt.canLay_of_shaped se) (SeqAt.canLay_of_shaped sd) (room_in_shaped sd hu) ⟨.bl _, H, I, rfl, q⟩
theorem op_ninT (hu : X.A.units + 65 < cLine) : OpR X (compareOp .NotIn) (fun x y H Q => ∃ d ds, Dp X.K H x d ∧ Dp X.K H y (.tuple ds) ∧ SeqAt.shaped d = true ∧ SeqAt.shaped (.tuple ds) = true ∧ Q (.bl (!ds.any fun z => PyData.eqv z d)) H) := by
  intro pins s σ H x y v u Q I rx ry h
  obtain ⟨d, ds, hd, he, sd, se, q⟩ := h
  obtain ⟨a1, g1⟩ := Dp.reads I d x v hd rx
  obtain ⟨a2, g2⟩ := Dp.reads I (.tuple ds) y u he ry
  exact SeqAt.notIn_tuple_reads g2 g1 (SeqAt.canLay_of_shaped se) (SeqAt.canLay_of_shaped sd) (room_in_shaped sd hu) ⟨.bl _, H, I, rfl, q⟩
/-- a comparison: nothing changes -/
theorem cmpW_ok {o : CO} {op : CmpOp} {k : Bool → Prop} (hb : coB o op = true) (hu : X.A.units + 65 < cLine) (s : Le G H) (hx : Pk X.K G H x dx) (hy : Pk X.K G H y dy) (h : cmpW o dx dy k) {Qv : VK}
    (q : ∀ b, k b → Qv (.bl b) H) : wOp X (compareOp op) x y H Qv := by
  unfold cmpW at h
  split at h
  · cases op <;> simp only [coB, Bool.false_eq_true] at hb
    cases hx.int; cases hy.int
    exact wOp_of op_lt ⟨_, _, rfl, rfl, q _ h⟩
  · cases op <;> simp only [coB, Bool.false_eq_true] at hb
    cases hx.int; cases hy.int
    exact wOp_of op_le ⟨_, _, rfl, rfl, q _ h⟩
  · cases op <;> simp only [coB, Bool.false_eq_true] at hb
    cases hx.int; cases hy.int
    exact wOp_of op_gt ⟨_, _, rfl, rfl, q _ h⟩
  · cases op <;> simp only [coB, Bool.false_eq_true] at hb
    cases hx.int; cases hy.int
    exact wOp_of op_ge ⟨_, _, rfl, rfl, q _ h⟩
  · cases op <;> simp only [coB, Bool.false_eq_true] at hb
    cases hx.int; cases hy.int
    refine wOp_of op_eq ⟨rfl, ?_⟩
    rw [dec_int, Bool.beq_eq_decide_eq]
    exact q _ h
  · cases op <;> simp only [coB, Bool.false_eq_true] at hb
    cases hx.int; cases hy.int
    refine wOp_of op_ne ⟨rfl, ?_⟩
    rw [dec_int, Bool.beq_eq_decide_eq]
    exact q _ h
  · cases op <;> simp only [coB, Bool.false_eq_true] at hb
    cases hx.str; cases hy.str
    exact wOp_of op_lt_str ⟨_, _, rfl, rfl, q _ h⟩
  · cases op <;> simp only [coB, Bool.false_eq_true] at hb
    cases hx.str; cases hy.str
    exact wOp_of op_le_str ⟨_, _, rfl, rfl, q _ h⟩
  · cases op <;> simp only [coB, Bool.false_eq_true] at hb
    exact wOp_of (op_eqD (by omega)) ⟨_, _, (hx.da s).dp, (hy.da s).dp, h.1, h.2.1, q _ h.2.2⟩
  · cases op <;> simp only [coB, Bool.false_eq_true] at hb
    exact wOp_of (op_neD (by omega)) ⟨_, _, (hx.da s).dp, (hy.da s).dp, h.1, h.2.1, q _ h.2.2⟩
  · cases op <;> simp only [coB, Bool.false_eq_true] at hb
    exact wOp_of (op_inD hu) ⟨_, _, (hx.da s).dp, (hy.da s).dp, h.1, h.2.1, q _ h.2.2⟩
  · cases op <;> simp only [coB, Bool.false_eq_true] at hb
    exact wOp_of (op_notInD hu) ⟨_, _, (hx.da s).dp, (hy.da s).dp, h.1, h.2.1, q _ h.2.2⟩
  · cases op <;> simp only [coB, Bool.false_eq_true] at hb
    exact wOp_of (op_inT hu) ⟨_, _, (hx.da s).dp, (hy.da s).dp, h.1, h.2.1, q _ h.2.2⟩
  · cases op <;> simp only [coB, Bool.false_eq_true] at hb
    exact wOp_of (op_ninT hu) ⟨_, _, (hx.da s).dp, (hy.da s).dp, h.1, h.2.1, q _ h.2.2⟩
  · cases op <;> simp only [coB, Bool.false_eq_true] at hb
    cases hy.non
    refine wOp_of op_isN ⟨rfl, ?_⟩
    rw [isNone_of hx]
    exact q _ h
  · cases op <;> simp only [coB, Bool.false_eq_true] at hb
    cases hy.non
    refine wOp_of op_notN ⟨rfl, ?_⟩
    rw [isNone_of hx]
    exact q _ h
  · exact h.elim
theorem atI_da {K : PySem.W.Frag} {G : Hp} {xs : List V} {ds : List PyData} {i : Int} {d : PyData} (h : DaAll K G xs ds) (e : atI ds i = some d) : ∃ v, atI xs i = some v ∧ Da K G v d := by
  unfold atI at e ⊢
  rw [h.length]
  cases z : ixN ds.length i with
  | none => rw [z] at e; cases e
  | some j =>
    rw [z] at e
    exact h.get e
theorem ixW_ok {k : R → Prop} (r : Rel X.K G H σ env as A) (hx : Pk X.K G H x dx) (hy : Pk X.K G H y dy) (h : ixW dx dy k) {Qv : VK}
    (q : ∀ v d, Da X.K G v d → k (.dat d) → Qv v H) : rIx X.K x y H Qv := by
  unfold ixW at h
  split at h
  · obtain ⟨d, e, h⟩ := h
    obtain ⟨p, xs, rfl, h1, h2⟩ := hx.list r.sub
    cases hy.int
    obtain ⟨v, e', h3⟩ := atI_da h2 e
    exact .inl ⟨_, xs, _, v, rfl, rfl, h1, e', q _ _ h3 h⟩
  · obtain ⟨d, e, h⟩ := h
    obtain ⟨p, xs, rfl, h1, h2, _⟩ := hx.tup r.sub
    cases hy.int
    obtain ⟨v, e', h3⟩ := atI_da h2 e
    exact .inr (.inl ⟨_, xs, _, v, rfl, rfl, h1, e', q _ _ h3 h⟩)
  · obtain ⟨hs, c, e, h⟩ := h
    cases hx.str; cases hy.int
    exact .inr (.inr ⟨_, _, c, rfl, rfl, hs, e, q _ _ (.str _) h⟩)
  · exact h.elim
theorem cut_da {K : PySem.W.Frag} {G : Hp} {xs : List V} {ds : List PyData} (h : DaAll K G xs ds) (lo hi : Option Int) : DaAll K G (cutV xs lo hi) (cutD ds lo hi) := by
  unfold cutV cutD
  rw [h.length]
  exact (h.drop _).take _
def rSlX (K : PySem.W.Frag) : V → Option Int → Option Int → Hp → VK → Prop := fun x lo hi H Q => rSlL K x lo hi H Q ∨ rSlA K x lo hi H Q ∨ rSlS x lo hi H Q
theorem sl_x : L2.SlR X (rSlX X.K) := sl_list.or (sl_tupA.or sl_str)
theorem slW_ok {lo hi : Option Int} {k : R → Prop} (r : Rel X.K G H σ env as A) (hx : Pk X.K G H x dx) (h : slW dx lo hi k) {Qv : VK}
    (q : ∀ G' H' v r B, Po X.K as σ G H A G' H' σ env A v r B → k r → Qv v H') : rSlX X.K x lo hi H Qv := by
  unfold slW at h
  split at h
  · obtain ⟨p, xs, rfl, h1, h2⟩ := hx.list r.sub
    exact .inl ⟨p, xs, rfl, h1, fun l hl => q _ _ _ _ _ (Po.newL r hl (cut_da h2 lo hi)) h⟩
  · rename_i ds
    obtain ⟨p, xs, rfl, h1, h2, e1⟩ := hx.tup r.sub
    refine .inr (.inl ⟨p, xs, rfl, h1, fun e => ?_, fun _ l hl => q _ _ _ _ _ (Po.newT r hl (cut_da h2 lo hi)) h⟩)
    have z : cutD ds lo hi = ds := by
      unfold cutD
      rw [← h2.length, e.1, e.2, h2.length]
      simp
    rw [z] at h
    exact q _ _ _ _ _ (Po.same r e1) h
  · cases hx.str
    exact .inr (.inr ⟨_, rfl, h.1, q _ _ _ _ _ (Po.same r (.str _)) h.2⟩)
  · exact h.elim
end
end Pi

namespace Pi
open PySem L2
theorem inv_v {cf : Cf} {i : Nat} {top : Bool} {sc : Scope} {ast : Ast} (h : chk cf (.v i : N) top sc ast = true) : (∃ x p_1, ast = .e (.Name x p_1) ∧ ((cf.N[i]? == some x) && visB sc x && okN x) = true) := by
  have h : (match (generalizing := false) ast with | .e (.Name x _) => (cf.N[i]? == some x) && visB sc x && okN x | _ => false) = true := h
  split at h
  · exact ⟨_, _, rfl, h⟩
  · cases h
theorem inv_g {cf : Cf} {c : Nat} {top : Bool} {sc : Scope} {ast : Ast} (h : chk cf (.g c : N) top sc ast = true) : (∃ x p_1, ast = .e (.Name x p_1) ∧ ((cf.cn c == x) && glB sc x && okN x) = true) := by
  have h : (match (generalizing := false) ast with | .e (.Name x _) => (cf.cn c == x) && glB sc x && okN x | _ => false) = true := h
  split at h
  · exact ⟨_, _, rfl, h⟩
  · cases h
theorem inv_c {cf : Cf} {d : PyData} {top : Bool} {sc : Scope} {ast : Ast} (h : chk cf (.c d : N) top sc ast = true) : (∃ k p_1 p_2, ast = .e (.Constant k p_1 p_2) ∧ (constB d k) = true) := by
  have h : (match (generalizing := false) ast with | .e (.Constant k _ _) => constB d k | _ => false) = true := h
  split at h
  · exact ⟨_, _, _, rfl, h⟩
  · cases h
theorem inv_bin {cf : Cf} {o : BO} {a : N} {b : N} {top : Bool} {sc : Scope} {ast : Ast} (h : chk cf (.bin o a b : N) top sc ast = true) : (∃ l op r p_1, ast = .e (.BinOp l op r p_1) ∧ (boB o op && chk cf a top sc (.e l) && chk cf b top sc (.e r)) = true) := by
  have h : (match (generalizing := false) ast with | .e (.BinOp l op r _) => boB o op && chk cf a top sc (.e l) && chk cf b top sc (.e r) | _ => false) = true := h
  split at h
  · exact ⟨_, _, _, _, rfl, h⟩
  · cases h
theorem inv_neg {cf : Cf} {a : N} {top : Bool} {sc : Scope} {ast : Ast} (h : chk cf (.neg a : N) top sc ast = true) : (∃ x p_1, ast = .e (.UnaryOp .USub x p_1) ∧ (chk cf a top sc (.e x)) = true) := by
  have h : (match (generalizing := false) ast with | .e (.UnaryOp .USub x _) => chk cf a top sc (.e x) | _ => false) = true := h
  split at h
  · exact ⟨_, _, rfl, h⟩
  · cases h
theorem inv_cmp {cf : Cf} {o : CO} {a : N} {b : N} {top : Bool} {sc : Scope} {ast : Ast} (h : chk cf (.cmp o a b : N) top sc ast = true) : (∃ l op r p_1, ast = .e (.Compare l [op] [r] p_1) ∧ (coB o op && noSet r && chk cf a top sc (.e l) && chk cf b top sc (.e r)) = true) := by
  have h : (match (generalizing := false) ast with | .e (.Compare l [op] [r] _) => coB o op && noSet r && chk cf a top sc (.e l) && chk cf b top sc (.e r) | _ => false) = true := h
  split at h
  · exact ⟨_, _, _, _, rfl, h⟩
  · cases h
theorem inv_chain {cf : Cf} {o : CO} {o' : CO} {a : N} {b : N} {c : N} {top : Bool} {sc : Scope} {ast : Ast} (h : chk cf (.chain o o' a b c : N) top sc ast = true) : (∃ l op op' m r p_1, ast = .e (.Compare l [op, op'] [m, r] p_1) ∧ (coB o op && coB o' op' && noSet r && chk cf a top sc (.e l) && chk cf b top sc (.e m) && chk cf c top sc (.e r)) = true) := by
  have h : (match (generalizing := false) ast with | .e (.Compare l [op, op'] [m, r] _) => coB o op && coB o' op' && noSet r && chk cf a top sc (.e l) && chk cf b top sc (.e m) && chk cf c top sc (.e r) | _ => false) = true := h
  split at h
  · exact ⟨_, _, _, _, _, _, rfl, h⟩
  · cases h
theorem inv_nott {cf : Cf} {a : N} {top : Bool} {sc : Scope} {ast : Ast} (h : chk cf (.nott a : N) top sc ast = true) : (∃ x p_1, ast = .e (.UnaryOp .Not x p_1) ∧ (chk cf a top sc (.e x)) = true) := by
  have h : (match (generalizing := false) ast with | .e (.UnaryOp .Not x _) => chk cf a top sc (.e x) | _ => false) = true := h
  split at h
  · exact ⟨_, _, rfl, h⟩
  · cases h
theorem inv_andd {cf : Cf} {a : N} {b : N} {top : Bool} {sc : Scope} {ast : Ast} (h : chk cf (.andd a b : N) top sc ast = true) : (∃ x y r p, ast = .e (.BoolOp .And (x :: y :: r) p) ∧ (chk cf a top sc (.e x) && chk cf b top sc (.e (.BoolOp .And (y :: r) p))) = true) := by
  have h : (match (generalizing := false) ast with | .e (.BoolOp .And (x :: y :: r) p) => chk cf a top sc (.e x) && chk cf b top sc (.e (.BoolOp .And (y :: r) p)) | _ => false) = true := h
  split at h
  · exact ⟨_, _, _, _, rfl, h⟩
  · cases h
theorem inv_orr {cf : Cf} {a : N} {b : N} {top : Bool} {sc : Scope} {ast : Ast} (h : chk cf (.orr a b : N) top sc ast = true) : (∃ x y r p, ast = .e (.BoolOp .Or (x :: y :: r) p) ∧ (chk cf a top sc (.e x) && chk cf b top sc (.e (.BoolOp .Or (y :: r) p))) = true) := by
  have h : (match (generalizing := false) ast with | .e (.BoolOp .Or (x :: y :: r) p) => chk cf a top sc (.e x) && chk cf b top sc (.e (.BoolOp .Or (y :: r) p)) | _ => false) = true := h
  split at h
  · exact ⟨_, _, _, _, rfl, h⟩
  · cases h
theorem inv_one {cf : Cf} {a : N} {top : Bool} {sc : Scope} {ast : Ast} (h : chk cf (.one a : N) top sc ast = true) : (∃ p_1 x p_2, ast = .e (.BoolOp p_1 [x] p_2) ∧ (chk cf a top sc (.e x)) = true) := by
  have h : (match (generalizing := false) ast with | .e (.BoolOp _ [x] _) => chk cf a top sc (.e x) | _ => false) = true := h
  split at h
  · exact ⟨_, _, _, rfl, h⟩
  · cases h
theorem inv_ite {cf : Cf} {t : N} {a : N} {b : N} {top : Bool} {sc : Scope} {ast : Ast} (h : chk cf (.ite t a b : N) top sc ast = true) : (∃ c x y p_1, ast = .e (.IfExp c x y p_1) ∧ (chk cf t top sc (.t c) && chk cf a top sc (.e x) && chk cf b top sc (.e y)) = true) := by
  have h : (match (generalizing := false) ast with | .e (.IfExp c x y _) => chk cf t top sc (.t c) && chk cf a top sc (.e x) && chk cf b top sc (.e y) | _ => false) = true := h
  split at h
  · exact ⟨_, _, _, _, rfl, h⟩
  · cases h
theorem inv_call {cf : Cf} {f : Nat} {as : N} {top : Bool} {sc : Scope} {ast : Ast} (h : chk cf (.call f as : N) top sc ast = true) : (∃ x p_1 xs p_2, ast = .e (.Call (.Name x p_1) xs [] p_2) ∧ (decide (f < cf.nf) && (cf.nm f == x) && glB sc x && okN x && chk cf as top sc (.a xs)) = true) := by
  have h : (match (generalizing := false) ast with | .e (.Call (.Name x _) xs [] _) => decide (f < cf.nf) && (cf.nm f == x) && glB sc x && okN x && chk cf as top sc (.a xs) | _ => false) = true := h
  split at h
  · exact ⟨_, _, _, _, rfl, h⟩
  · cases h
theorem inv_b1 {cf : Cf} {f : B1} {a : N} {top : Bool} {sc : Scope} {ast : Ast} (h : chk cf (.b1 f a : N) top sc ast = true) : (∃ x p_1 y p_2, ast = .e (.Call (.Name x p_1) [y] [] p_2) ∧ (b1S cf f && (b1n f == x) && glB sc x && cf.bl.contains x && noStar y && chk cf a top sc (.e y)) = true) := by
  have h : (match (generalizing := false) ast with | .e (.Call (.Name x _) [y] [] _) => b1S cf f && (b1n f == x) && glB sc x && cf.bl.contains x && noStar y && chk cf a top sc (.e y) | _ => false) = true := h
  split at h
  · exact ⟨_, _, _, _, rfl, h⟩
  · cases h
theorem inv_b2 {cf : Cf} {f : B2} {a : N} {b : N} {top : Bool} {sc : Scope} {ast : Ast} (h : chk cf (.b2 f a b : N) top sc ast = true) : (∃ x p_1 y z p_2, ast = .e (.Call (.Name x p_1) [y, z] [] p_2) ∧ (b2S cf f x && glB sc x && cf.bl.contains x && noStar y && noStar z && chk cf a top sc (.e y) && chk cf b top sc (.e z)) = true) := by
  have h : (match (generalizing := false) ast with | .e (.Call (.Name x _) [y, z] [] _) => b2S cf f x && glB sc x && cf.bl.contains x && noStar y && noStar z && chk cf a top sc (.e y) && chk cf b top sc (.e z) | _ => false) = true := h
  split at h
  · exact ⟨_, _, _, _, _, rfl, h⟩
  · cases h
theorem inv_isi {cf : Cf} {a : N} {ts : List TY} {top : Bool} {sc : Scope} {ast : Ast} (h : chk cf (.isi a ts : N) top sc ast = true) : (∃ x p_1 y z p_2 p_3, ast = .e (.Call (.Name x p_1) [y, .Name z p_2] [] p_3) ∧ ((("isinstance" : Str) == x) && glB sc x && cf.bl.contains x && noStar y && chk cf a top sc (.e y) && glB sc z && cf.bl.contains z && tyB ts z) = true) := by
  have h : (match (generalizing := false) ast with | .e (.Call (.Name x _) [y, .Name z _] [] _) => (("isinstance" : Str) == x) && glB sc x && cf.bl.contains x && noStar y && chk cf a top sc (.e y) && glB sc z && cf.bl.contains z && tyB ts z | _ => false) = true := h
  split at h
  · exact ⟨_, _, _, _, _, _, rfl, h⟩
  · cases h
theorem inv_ix {cf : Cf} {a : N} {b : N} {top : Bool} {sc : Scope} {ast : Ast} (h : chk cf (.ix a b : N) top sc ast = true) : (∃ o i p_1, ast = .e (.Subscript o i p_1) ∧ (noSlice i && chk cf a top sc (.e o) && chk cf b top sc (.e i)) = true) := by
  have h : (match (generalizing := false) ast with | .e (.Subscript o i _) => noSlice i && chk cf a top sc (.e o) && chk cf b top sc (.e i) | _ => false) = true := h
  split at h
  · exact ⟨_, _, _, rfl, h⟩
  · cases h
theorem inv_sl {cf : Cf} {a : N} {lo : N} {hi : N} {top : Bool} {sc : Scope} {ast : Ast} (h : chk cf (.sl a lo hi : N) top sc ast = true) : (∃ o l h p_1 p_2, ast = .e (.Subscript o (.Slice l h none p_1) p_2) ∧ (chk cf a top sc (.e o) && chk cf lo top sc (.p l) && chk cf hi top sc (.p h)) = true) := by
  have h : (match (generalizing := false) ast with | .e (.Subscript o (.Slice l h none _) _) => chk cf a top sc (.e o) && chk cf lo top sc (.p l) && chk cf hi top sc (.p h) | _ => false) = true := h
  split at h
  · exact ⟨_, _, _, _, _, rfl, h⟩
  · cases h
theorem inv_rv {cf : Cf} {a : N} {top : Bool} {sc : Scope} {ast : Ast} (h : chk cf (.rv a : N) top sc ast = true) : (∃ o p_1 p_2 p_3 p_4 p_5, ast = .e (.Subscript o (.Slice none none (some (.UnaryOp .USub (.Constant (.int 1) p_1 p_2) p_3)) p_4) p_5) ∧ (chk cf a top sc (.e o)) = true) := by
  have h : (match (generalizing := false) ast with | .e (.Subscript o (.Slice none none (some (.UnaryOp .USub (.Constant (.int 1) _ _) _)) _) _) => chk cf a top sc (.e o) | _ => false) = true := h
  split at h
  · exact ⟨_, _, _, _, _, _, rfl, h⟩
  · cases h
theorem inv_tup {cf : Cf} {es : N} {top : Bool} {sc : Scope} {ast : Ast} (h : chk cf (.tup es : N) top sc ast = true) : (∃ xs p_1 p_2, ast = .e (.Tuple xs p_1 p_2) ∧ (decide (xs.length ≤ 1000) && chk cf es top sc (.a xs)) = true) := by
  have h : (match (generalizing := false) ast with | .e (.Tuple xs _ _) => decide (xs.length ≤ 1000) && chk cf es top sc (.a xs) | _ => false) = true := h
  split at h
  · exact ⟨_, _, _, rfl, h⟩
  · cases h
theorem inv_lst {cf : Cf} {es : N} {top : Bool} {sc : Scope} {ast : Ast} (h : chk cf (.lst es : N) top sc ast = true) : (∃ xs p_1, ast = .e (.List xs p_1) ∧ (decide (xs.length ≤ 1000) && chk cf es top sc (.a xs)) = true) := by
  have h : (match (generalizing := false) ast with | .e (.List xs _) => decide (xs.length ≤ 1000) && chk cf es top sc (.a xs) | _ => false) = true := h
  split at h
  · exact ⟨_, _, rfl, h⟩
  · cases h
theorem inv_lc {cf : Cf} {own : List Nat} {x : Tg} {it : N} {cs : N} {e : N} {top : Bool} {sc : Scope} {ast : Ast} (h : chk cf (.lc own x it cs e : N) top sc ast = true) : (∃ elt tg iter ifs scope p_1, ast = .e (.ListComp elt [⟨tg, iter, ifs, 0⟩] scope p_1) ∧ (!cf.hot && blkC cf.N sc scope (ownB cf own) && noSet iter && chk cf it top sc (.i tg iter) && tgB cf false (relS scope sc) x tg && ownTB own x && chk cf cs false (relS scope sc) (.q ifs) && chk cf e false (relS scope sc) (.e elt)) = true) := by
  have h : (match (generalizing := false) ast with | .e (.ListComp elt [⟨tg, iter, ifs, 0⟩] scope _) => !cf.hot && blkC cf.N sc scope (ownB cf own) && noSet iter && chk cf it top sc (.i tg iter) && tgB cf false (relS scope sc) x tg && ownTB own x && chk cf cs false (relS scope sc) (.q ifs) && chk cf e false (relS scope sc) (.e elt) | _ => false) = true := h
  split at h
  · exact ⟨_, _, _, _, _, _, rfl, h⟩
  · cases h
theorem inv_pop {cf : Cf} {i : Nat} {top : Bool} {sc : Scope} {ast : Ast} (h : chk cf (.pop i : N) top sc ast = true) : (∃ x p_1 m ap cp, ast = .e (.Call (.Attribute (.Name x p_1) m ap) [] [] cp) ∧ ((ap.endLine == cp.line) && (m == ("pop" : Str)) && (cf.N[i]? == some x) && visB sc x && okN x) = true) := by
  have h : (match (generalizing := false) ast with | .e (.Call (.Attribute (.Name x _) m ap) [] [] cp) => (ap.endLine == cp.line) && (m == ("pop" : Str)) && (cf.N[i]? == some x) && visB sc x && okN x | _ => false) = true := h
  split at h
  · exact ⟨_, _, _, _, _, rfl, h⟩
  · cases h
theorem inv_popAt {cf : Cf} {i : Nat} {a : N} {top : Bool} {sc : Scope} {ast : Ast} (h : chk cf (.popAt i a : N) top sc ast = true) : (∃ x p_1 m ap y cp, ast = .e (.Call (.Attribute (.Name x p_1) m ap) [y] [] cp) ∧ ((ap.endLine == cp.line) && (m == ("pop" : Str)) && (cf.N[i]? == some x) && visB sc x && okN x && noStar y && chk cf a top sc (.e y)) = true) := by
  have h : (match (generalizing := false) ast with | .e (.Call (.Attribute (.Name x _) m ap) [y] [] cp) => (ap.endLine == cp.line) && (m == ("pop" : Str)) && (cf.N[i]? == some x) && visB sc x && okN x && noStar y && chk cf a top sc (.e y) | _ => false) = true := h
  split at h
  · exact ⟨_, _, _, _, _, _, rfl, h⟩
  · cases h
theorem inv_lib {cf : Cf} {f : LF} {a : N} {b : N} {top : Bool} {sc : Scope} {ast : Ast} (h : chk cf (.lib f a b : N) top sc ast = true) : (∃ x p_1 y z p_2, ast = .e (.Call (.Name x p_1) [y, z] [] p_2) ∧ ((lfn f == x) && glB sc x && okN x && cf.lb.contains x && noStar y && noStar z && chk cf a top sc (.e y) && chk cf b top sc (.e z)) = true) := by
  have h : (match (generalizing := false) ast with | .e (.Call (.Name x _) [y, z] [] _) => (lfn f == x) && glB sc x && okN x && cf.lb.contains x && noStar y && noStar z && chk cf a top sc (.e y) && chk cf b top sc (.e z) | _ => false) = true := h
  split at h
  · exact ⟨_, _, _, _, _, rfl, h⟩
  · cases h
theorem inv_m1 {cf : Cf} {m : MT1} {a : N} {b : N} {top : Bool} {sc : Scope} {ast : Ast} (h : chk cf (.m1 m a b : N) top sc ast = true) : (∃ o mm ap y cp, ast = .e (.Call (.Attribute o mm ap) [y] [] cp) ∧ ((ap.endLine == cp.line) && (m1n m == mm) && noCall o && noStar y && chk cf a top sc (.e o) && chk cf b top sc (.e y)) = true) := by
  have h : (match (generalizing := false) ast with | .e (.Call (.Attribute o mm ap) [y] [] cp) => (ap.endLine == cp.line) && (m1n m == mm) && noCall o && noStar y && chk cf a top sc (.e o) && chk cf b top sc (.e y) | _ => false) = true := h
  split at h
  · exact ⟨_, _, _, _, _, rfl, h⟩
  · cases h
theorem inv_lix {cf : Cf} {a : N} {b : N} {top : Bool} {sc : Scope} {ast : Ast} (h : chk cf (.lix a b : N) top sc ast = true) : (∃ o mm ap y cp, ast = .e (.Call (.Attribute o mm ap) [y] [] cp) ∧ ((ap.endLine == cp.line) && (mm == ("index" : Str)) && noCall o && noStar y && chk cf a top sc (.e o) && chk cf b top sc (.e y)) = true) := by
  have h : (match (generalizing := false) ast with | .e (.Call (.Attribute o mm ap) [y] [] cp) => (ap.endLine == cp.line) && (mm == ("index" : Str)) && noCall o && noStar y && chk cf a top sc (.e o) && chk cf b top sc (.e y) | _ => false) = true := h
  split at h
  · exact ⟨_, _, _, _, _, rfl, h⟩
  · cases h
theorem inv_callD {cf : Cf} {f : Nat} {as : N} {ds : List PyData} {top : Bool} {sc : Scope} {ast : Ast} (h : chk cf (.callD f as ds : N) top sc ast = true) : (∃ x p_1 xs p_2, ast = .e (.Call (.Name x p_1) xs [] p_2) ∧ (decide (f < cf.nf) && (cf.nm f == x) && glB sc x && okN x && chk cf as top sc (.a xs) && dfB (cf.df f) ds) = true) := by
  have h : (match (generalizing := false) ast with | .e (.Call (.Name x _) xs [] _) => decide (f < cf.nf) && (cf.nm f == x) && glB sc x && okN x && chk cf as top sc (.a xs) && dfB (cf.df f) ds | _ => false) = true := h
  split at h
  · exact ⟨_, _, _, _, rfl, h⟩
  · cases h
theorem inv_xw {cf : Cf} {i : Nat} {top : Bool} {sc : Scope} {ast : Ast} (h : chk cf (.xw i : N) top sc ast = true) : (∃ x p_1 m p_2, ast = .e (.Attribute (.Name x p_1) m p_2) ∧ ((m == ("word" : Str)) && (cf.N[i]? == some x) && visB sc x && okN x) = true) := by
  have h : (match (generalizing := false) ast with | .e (.Attribute (.Name x _) m _) => (m == ("word" : Str)) && (cf.N[i]? == some x) && visB sc x && okN x | _ => false) = true := h
  split at h
  · exact ⟨_, _, _, _, rfl, h⟩
  · cases h
theorem inv_xp {cf : Cf} {i : Nat} {top : Bool} {sc : Scope} {ast : Ast} (h : chk cf (.xp i : N) top sc ast = true) : (∃ x p_1 m p_2, ast = .e (.Attribute (.Name x p_1) m p_2) ∧ ((m == ("place" : Str)) && (cf.N[i]? == some x) && visB sc x && okN x) = true) := by
  have h : (match (generalizing := false) ast with | .e (.Attribute (.Name x _) m _) => (m == ("place" : Str)) && (cf.N[i]? == some x) && visB sc x && okN x | _ => false) = true := h
  split at h
  · exact ⟨_, _, _, _, rfl, h⟩
  · cases h
theorem inv_xi {cf : Cf} {i : Nat} {nm : Str} {ts : List Nat} {top : Bool} {sc : Scope} {ast : Ast} (h : chk cf (.xi i nm ts : N) top sc ast = true) : (∃ f p_1 x p_2 z p_3 p_4, ast = .e (.Call (.Name f p_1) [.Name x p_2, .Name z p_3] [] p_4) ∧ ((("isinstance" : Str) == f) && glB sc f && cf.bl.contains f && (cf.N[i]? == some x) && visB sc x && okN x && glB sc z && okN z && (nm == z) && cf.it.contains (nm, ts)) = true) := by
  have h : (match (generalizing := false) ast with | .e (.Call (.Name f _) [.Name x _, .Name z _] [] _) => (("isinstance" : Str) == f) && glB sc f && cf.bl.contains f && (cf.N[i]? == some x) && visB sc x && okN x && glB sc z && okN z && (nm == z) && cf.it.contains (nm, ts) | _ => false) = true := h
  split at h
  · exact ⟨_, _, _, _, _, _, _, rfl, h⟩
  · cases h
theorem inv_nil {cf : Cf}  {top : Bool} {sc : Scope} {ast : Ast} (h : chk cf (.nil : N) top sc ast = true) : (ast = .a [] ∧ (true) = true) := by
  have h : (match (generalizing := false) ast with | .a [] => true | _ => false) = true := h
  split at h
  · exact ⟨rfl, h⟩
  · cases h
theorem inv_cons {cf : Cf} {a : N} {r : N} {top : Bool} {sc : Scope} {ast : Ast} (h : chk cf (.cons a r : N) top sc ast = true) : (∃ x xs, ast = .a (x :: xs) ∧ (noStar x && chk cf a top sc (.e x) && chk cf r top sc (.a xs)) = true) := by
  have h : (match (generalizing := false) ast with | .a (x :: xs) => noStar x && chk cf a top sc (.e x) && chk cf r top sc (.a xs) | _ => false) = true := h
  split at h
  · exact ⟨_, _, rfl, h⟩
  · cases h
theorem inv_consM {cf : Cf} {i : Nat} {r : N} {top : Bool} {sc : Scope} {ast : Ast} (h : chk cf (.consM i r : N) top sc ast = true) : (∃ x p_1 xs, ast = .a (.Name x p_1 :: xs) ∧ ((cf.N[i]? == some x) && visB sc x && okN x && chk cf r top sc (.a xs)) = true) := by
  have h : (match (generalizing := false) ast with | .a (.Name x _ :: xs) => (cf.N[i]? == some x) && visB sc x && okN x && chk cf r top sc (.a xs) | _ => false) = true := h
  split at h
  · exact ⟨_, _, _, rfl, h⟩
  · cases h
theorem inv_sno {cf : Cf}  {top : Bool} {sc : Scope} {ast : Ast} (h : chk cf (.sno : N) top sc ast = true) : (ast = .p none ∧ (true) = true) := by
  have h : (match (generalizing := false) ast with | .p none => true | _ => false) = true := h
  split at h
  · exact ⟨rfl, h⟩
  · cases h
theorem inv_sat {cf : Cf} {a : N} {top : Bool} {sc : Scope} {ast : Ast} (h : chk cf (.sat a : N) top sc ast = true) : (∃ x, ast = .p (some x) ∧ (chk cf a top sc (.e x)) = true) := by
  have h : (match (generalizing := false) ast with | .p (some x) => chk cf a top sc (.e x) | _ => false) = true := h
  split at h
  · exact ⟨_, rfl, h⟩
  · cases h
theorem inv_tcmp {cf : Cf} {o : CO} {a : N} {b : N} {top : Bool} {sc : Scope} {ast : Ast} (h : chk cf (.tcmp o a b : N) top sc ast = true) : (∃ l op r p_1, ast = .t (.Compare l [op] [r] p_1) ∧ (coB o op && noSet r && chk cf a top sc (.e l) && chk cf b top sc (.e r)) = true) := by
  have h : (match (generalizing := false) ast with | .t (.Compare l [op] [r] _) => coB o op && noSet r && chk cf a top sc (.e l) && chk cf b top sc (.e r) | _ => false) = true := h
  split at h
  · exact ⟨_, _, _, _, rfl, h⟩
  · cases h
theorem inv_tchain {cf : Cf} {o : CO} {o' : CO} {a : N} {b : N} {c : N} {top : Bool} {sc : Scope} {ast : Ast} (h : chk cf (.tchain o o' a b c : N) top sc ast = true) : (∃ l op op' m r p_1, ast = .t (.Compare l [op, op'] [m, r] p_1) ∧ (coB o op && coB o' op' && noSet r && chk cf a top sc (.e l) && chk cf b top sc (.e m) && chk cf c top sc (.e r)) = true) := by
  have h : (match (generalizing := false) ast with | .t (.Compare l [op, op'] [m, r] _) => coB o op && coB o' op' && noSet r && chk cf a top sc (.e l) && chk cf b top sc (.e m) && chk cf c top sc (.e r) | _ => false) = true := h
  split at h
  · exact ⟨_, _, _, _, _, _, rfl, h⟩
  · cases h
theorem inv_tnot {cf : Cf} {a : N} {top : Bool} {sc : Scope} {ast : Ast} (h : chk cf (.tnot a : N) top sc ast = true) : (∃ x p_1, ast = .t (.UnaryOp .Not x p_1) ∧ (chk cf a top sc (.t x)) = true) := by
  have h : (match (generalizing := false) ast with | .t (.UnaryOp .Not x _) => chk cf a top sc (.t x) | _ => false) = true := h
  split at h
  · exact ⟨_, _, rfl, h⟩
  · cases h
theorem inv_tand {cf : Cf} {a : N} {b : N} {top : Bool} {sc : Scope} {ast : Ast} (h : chk cf (.tand a b : N) top sc ast = true) : (∃ x y r p, ast = .t (.BoolOp .And (x :: y :: r) p) ∧ (chk cf a top sc (.t x) && chk cf b top sc (.t (.BoolOp .And (y :: r) p))) = true) := by
  have h : (match (generalizing := false) ast with | .t (.BoolOp .And (x :: y :: r) p) => chk cf a top sc (.t x) && chk cf b top sc (.t (.BoolOp .And (y :: r) p)) | _ => false) = true := h
  split at h
  · exact ⟨_, _, _, _, rfl, h⟩
  · cases h
theorem inv_tor {cf : Cf} {a : N} {b : N} {top : Bool} {sc : Scope} {ast : Ast} (h : chk cf (.tor a b : N) top sc ast = true) : (∃ x y r p, ast = .t (.BoolOp .Or (x :: y :: r) p) ∧ (chk cf a top sc (.t x) && chk cf b top sc (.t (.BoolOp .Or (y :: r) p))) = true) := by
  have h : (match (generalizing := false) ast with | .t (.BoolOp .Or (x :: y :: r) p) => chk cf a top sc (.t x) && chk cf b top sc (.t (.BoolOp .Or (y :: r) p)) | _ => false) = true := h
  split at h
  · exact ⟨_, _, _, _, rfl, h⟩
  · cases h
theorem inv_tone {cf : Cf} {a : N} {top : Bool} {sc : Scope} {ast : Ast} (h : chk cf (.tone a : N) top sc ast = true) : (∃ x p_1, ast = .t (.BoolOp .And [x] p_1) ∧ (chk cf a top sc (.t x)) = true) ∨ (∃ x p_1, ast = .t (.BoolOp .Or [x] p_1) ∧ (chk cf a top sc (.t x)) = true) ∨ (∃ x, ast = .q [x] ∧ (chk cf a top sc (.t x)) = true) := by
  have h : (match (generalizing := false) ast with | .t (.BoolOp .And [x] _) => chk cf a top sc (.t x) | .t (.BoolOp .Or [x] _) => chk cf a top sc (.t x) | .q [x] => chk cf a top sc (.t x) | _ => false) = true := h
  split at h
  · exact .inl ⟨_, _, rfl, h⟩
  · exact .inr (.inl ⟨_, _, rfl, h⟩)
  · exact .inr (.inr (⟨_, rfl, h⟩))
  · cases h
theorem inv_tyes {cf : Cf}  {top : Bool} {sc : Scope} {ast : Ast} (h : chk cf (.tyes : N) top sc ast = true) : (ast = .q [] ∧ (true) = true) := by
  have h : (match (generalizing := false) ast with | .q [] => true | _ => false) = true := h
  split at h
  · exact ⟨rfl, h⟩
  · cases h
theorem inv_tval {cf : Cf} {a : N} {top : Bool} {sc : Scope} {ast : Ast} (h : chk cf (.tval a : N) top sc ast = true) : (∃ x, ast = .t x ∧ (plainT x && chk cf a top sc (.e x)) = true) := by
  have h : (match (generalizing := false) ast with | .t x => plainT x && chk cf a top sc (.e x) | _ => false) = true := h
  split at h
  · exact ⟨_, rfl, h⟩
  · cases h
theorem inv_itl {cf : Cf} {a : N} {top : Bool} {sc : Scope} {ast : Ast} (h : chk cf (.itl a : N) top sc ast = true) : (∃ p_1 x, ast = .i p_1 x ∧ (chk cf a top sc (.e x)) = true) := by
  have h : (match (generalizing := false) ast with | .i _ x => chk cf a top sc (.e x) | _ => false) = true := h
  split at h
  · exact ⟨_, _, rfl, h⟩
  · cases h
theorem inv_iten {cf : Cf} {a : N} {top : Bool} {sc : Scope} {ast : Ast} (h : chk cf (.iten a : N) top sc ast = true) : (∃ p_1 p_2 p_3 x p_4 y p_5, ast = .i (.Tuple p_1 p_2 p_3) (.Call (.Name x p_4) [y] [] p_5) ∧ ((("enumerate" : Str) == x) && glB sc x && cf.bl.contains x && noStar y && chk cf a top sc (.e y)) = true) := by
  have h : (match (generalizing := false) ast with | .i (.Tuple _ _ _) (.Call (.Name x _) [y] [] _) => (("enumerate" : Str) == x) && glB sc x && cf.bl.contains x && noStar y && chk cf a top sc (.e y) | _ => false) = true := h
  split at h
  · exact ⟨_, _, _, _, _, _, _, rfl, h⟩
  · cases h
theorem inv_itz {cf : Cf} {a : N} {b : N} {top : Bool} {sc : Scope} {ast : Ast} (h : chk cf (.itz a b : N) top sc ast = true) : (∃ p_1 p_2 p_3 x p_4 y z p_5, ast = .i (.Tuple p_1 p_2 p_3) (.Call (.Name x p_4) [y, z] [] p_5) ∧ ((("zip" : Str) == x) && glB sc x && cf.bl.contains x && noStar y && noStar z && chk cf a top sc (.e y) && chk cf b top sc (.e z)) = true) := by
  have h : (match (generalizing := false) ast with | .i (.Tuple _ _ _) (.Call (.Name x _) [y, z] [] _) => (("zip" : Str) == x) && glB sc x && cf.bl.contains x && noStar y && noStar z && chk cf a top sc (.e y) && chk cf b top sc (.e z) | _ => false) = true := h
  split at h
  · exact ⟨_, _, _, _, _, _, _, _, rfl, h⟩
  · cases h
theorem inv_itr1 {cf : Cf} {a : N} {top : Bool} {sc : Scope} {ast : Ast} (h : chk cf (.itr1 a : N) top sc ast = true) : (∃ p_1 x p_2 y p_3, ast = .i p_1 (.Call (.Name x p_2) [y] [] p_3) ∧ ((("range" : Str) == x) && glB sc x && cf.bl.contains x && noStar y && chk cf a top sc (.e y)) = true) := by
  have h : (match (generalizing := false) ast with | .i _ (.Call (.Name x _) [y] [] _) => (("range" : Str) == x) && glB sc x && cf.bl.contains x && noStar y && chk cf a top sc (.e y) | _ => false) = true := h
  split at h
  · exact ⟨_, _, _, _, _, rfl, h⟩
  · cases h
theorem inv_itr2 {cf : Cf} {a : N} {b : N} {top : Bool} {sc : Scope} {ast : Ast} (h : chk cf (.itr2 a b : N) top sc ast = true) : (∃ p_1 x p_2 y z p_3, ast = .i p_1 (.Call (.Name x p_2) [y, z] [] p_3) ∧ ((("range" : Str) == x) && glB sc x && cf.bl.contains x && noStar y && noStar z && chk cf a top sc (.e y) && chk cf b top sc (.e z)) = true) := by
  have h : (match (generalizing := false) ast with | .i _ (.Call (.Name x _) [y, z] [] _) => (("range" : Str) == x) && glB sc x && cf.bl.contains x && noStar y && noStar z && chk cf a top sc (.e y) && chk cf b top sc (.e z) | _ => false) = true := h
  split at h
  · exact ⟨_, _, _, _, _, _, rfl, h⟩
  · cases h
theorem inv_set {cf : Cf} {i : Nat} {e : N} {top : Bool} {sc : Scope} {ast : Ast} (h : chk cf (.set i e : N) top sc ast = true) : (∃ x p_1 v p_2, ast = .s (.Assign [.Name x p_1] v p_2) ∧ ((noComp v || !(sc.names.lookup x == some .local)) && (cf.N[i]? == some x) && locB top sc x && chk cf e top sc (.e v)) = true) := by
  have h : (match (generalizing := false) ast with | .s (.Assign [.Name x _] v _) => (noComp v || !(sc.names.lookup x == some .local)) && (cf.N[i]? == some x) && locB top sc x && chk cf e top sc (.e v) | _ => false) = true := h
  split at h
  · exact ⟨_, _, _, _, rfl, h⟩
  · cases h
theorem inv_slc {cf : Cf} {i : Nat} {own : List Nat} {x : Tg} {it : N} {cs : N} {e : N} {top : Bool} {sc : Scope} {ast : Ast} (h : chk cf (.slc i own x it cs e : N) top sc ast = true) : (∃ y py elt tg iter ifs scope lp p_1, ast = .s (.Assign [.Name y py] (.ListComp elt [⟨tg, iter, ifs, 0⟩] scope lp) p_1) ∧ (!cf.hot && blkC cf.N sc scope (ownB cf own) && noSet iter && chk cf it top sc (.i tg iter) && tgB cf false (relS scope sc) x tg && ownTB own x && chk cf cs false (relS scope sc) (.q ifs) && chk cf e false (relS scope sc) (.e elt) && top && (cf.N[i]? == some y) && (sc.names.lookup y == some .local) && (py.line == lp.line) && !(scope.names.any fun (n, k) => n == y && (k == .local || k == .cell))) = true) := by
  have h : (match (generalizing := false) ast with | .s (.Assign [.Name y py] (.ListComp elt [⟨tg, iter, ifs, 0⟩] scope lp) _) => !cf.hot && blkC cf.N sc scope (ownB cf own) && noSet iter && chk cf it top sc (.i tg iter) && tgB cf false (relS scope sc) x tg && ownTB own x && chk cf cs false (relS scope sc) (.q ifs) && chk cf e false (relS scope sc) (.e elt) && top && (cf.N[i]? == some y) && (sc.names.lookup y == some .local) && (py.line == lp.line) && !(scope.names.any fun (n, k) => n == y && (k == .local || k == .cell)) | _ => false) = true := h
  split at h
  · exact ⟨_, _, _, _, _, _, _, _, _, rfl, h⟩
  · cases h
theorem inv_unp {cf : Cf} {is : List Pn} {e : N} {top : Bool} {sc : Scope} {ast : Ast} (h : chk cf (.unp is e : N) top sc ast = true) : (∃ es k p v p_1, ast = .s (.Assign [.Tuple es k p] v p_1) ∧ (noComp v && tgB cf top sc (.inr is) (.Tuple es k p) && noTup v && chk cf e top sc (.e v)) = true) := by
  have h : (match (generalizing := false) ast with | .s (.Assign [.Tuple es k p] v _) => noComp v && tgB cf top sc (.inr is) (.Tuple es k p) && noTup v && chk cf e top sc (.e v) | _ => false) = true := h
  split at h
  · exact ⟨_, _, _, _, _, rfl, h⟩
  · cases h
theorem inv_seti {cf : Cf} {i : Nat} {b : N} {e : N} {top : Bool} {sc : Scope} {ast : Ast} (h : chk cf (.seti i b e : N) top sc ast = true) : (∃ x p_1 j p_2 v p_3, ast = .s (.Assign [.Subscript (.Name x p_1) j p_2] v p_3) ∧ (noComp v && noSlice j && (cf.N[i]? == some x) && visB sc x && okN x && chk cf b top sc (.e j) && chk cf e top sc (.e v)) = true) := by
  have h : (match (generalizing := false) ast with | .s (.Assign [.Subscript (.Name x _) j _] v _) => noComp v && noSlice j && (cf.N[i]? == some x) && visB sc x && okN x && chk cf b top sc (.e j) && chk cf e top sc (.e v) | _ => false) = true := h
  split at h
  · exact ⟨_, _, _, _, _, _, rfl, h⟩
  · cases h
theorem inv_aug {cf : Cf} {i : Nat} {o : BO} {e : N} {top : Bool} {sc : Scope} {ast : Ast} (h : chk cf (.aug i o e : N) top sc ast = true) : (∃ x p_1 op v p_2, ast = .s (.AugAssign (.Name x p_1) op v p_2) ∧ ((cf.N[i]? == some x) && locB top sc x && augB o op && chk cf e top sc (.e v)) = true) := by
  have h : (match (generalizing := false) ast with | .s (.AugAssign (.Name x _) op v _) => (cf.N[i]? == some x) && locB top sc x && augB o op && chk cf e top sc (.e v) | _ => false) = true := h
  split at h
  · exact ⟨_, _, _, _, _, rfl, h⟩
  · cases h
theorem inv_augi {cf : Cf} {i : Nat} {o : BO} {b : N} {e : N} {top : Bool} {sc : Scope} {ast : Ast} (h : chk cf (.augi i o b e : N) top sc ast = true) : (∃ x p_1 j p_2 op v p_3, ast = .s (.AugAssign (.Subscript (.Name x p_1) j p_2) op v p_3) ∧ (noSlice j && (cf.N[i]? == some x) && visB sc x && okN x && augB o op && chk cf b top sc (.e j) && chk cf e top sc (.e v)) = true) := by
  have h : (match (generalizing := false) ast with | .s (.AugAssign (.Subscript (.Name x _) j _) op v _) => noSlice j && (cf.N[i]? == some x) && visB sc x && okN x && augB o op && chk cf b top sc (.e j) && chk cf e top sc (.e v) | _ => false) = true := h
  split at h
  · exact ⟨_, _, _, _, _, _, _, rfl, h⟩
  · cases h
theorem inv_ex {cf : Cf} {e : N} {top : Bool} {sc : Scope} {ast : Ast} (h : chk cf (.ex e : N) top sc ast = true) : (∃ v p_1, ast = .s (.Expr v p_1) ∧ (noComp v && chk cf e top sc (.e v)) = true) := by
  have h : (match (generalizing := false) ast with | .s (.Expr v _) => noComp v && chk cf e top sc (.e v) | _ => false) = true := h
  split at h
  · exact ⟨_, _, rfl, h⟩
  · cases h
theorem inv_app {cf : Cf} {i : Nat} {e : N} {top : Bool} {sc : Scope} {ast : Ast} (h : chk cf (.app i e : N) top sc ast = true) : (∃ x p_1 m ap y cp p_2, ast = .s (.Expr (.Call (.Attribute (.Name x p_1) m ap) [y] [] cp) p_2) ∧ ((ap.endLine == cp.line) && (m == ("append" : Str)) && (cf.N[i]? == some x) && visB sc x && okN x && noStar y && chk cf e top sc (.e y)) = true) := by
  have h : (match (generalizing := false) ast with | .s (.Expr (.Call (.Attribute (.Name x _) m ap) [y] [] cp) _) => (ap.endLine == cp.line) && (m == ("append" : Str)) && (cf.N[i]? == some x) && visB sc x && okN x && noStar y && chk cf e top sc (.e y) | _ => false) = true := h
  split at h
  · exact ⟨_, _, _, _, _, _, _, rfl, h⟩
  · cases h
theorem inv_ext {cf : Cf} {i : Nat} {e : N} {top : Bool} {sc : Scope} {ast : Ast} (h : chk cf (.ext i e : N) top sc ast = true) : (∃ x p_1 m ap y cp p_2, ast = .s (.Expr (.Call (.Attribute (.Name x p_1) m ap) [y] [] cp) p_2) ∧ ((ap.endLine == cp.line) && (m == ("extend" : Str)) && (cf.N[i]? == some x) && visB sc x && okN x && noStar y && chk cf e top sc (.e y)) = true) := by
  have h : (match (generalizing := false) ast with | .s (.Expr (.Call (.Attribute (.Name x _) m ap) [y] [] cp) _) => (ap.endLine == cp.line) && (m == ("extend" : Str)) && (cf.N[i]? == some x) && visB sc x && okN x && noStar y && chk cf e top sc (.e y) | _ => false) = true := h
  split at h
  · exact ⟨_, _, _, _, _, _, _, rfl, h⟩
  · cases h
theorem inv_ins {cf : Cf} {i : Nat} {b : N} {e : N} {top : Bool} {sc : Scope} {ast : Ast} (h : chk cf (.ins i b e : N) top sc ast = true) : (∃ x p_1 m ap y z cp p_2, ast = .s (.Expr (.Call (.Attribute (.Name x p_1) m ap) [y, z] [] cp) p_2) ∧ ((ap.endLine == cp.line) && (m == ("insert" : Str)) && (cf.N[i]? == some x) && visB sc x && okN x && noStar y && noStar z && chk cf b top sc (.e y) && chk cf e top sc (.e z)) = true) := by
  have h : (match (generalizing := false) ast with | .s (.Expr (.Call (.Attribute (.Name x _) m ap) [y, z] [] cp) _) => (ap.endLine == cp.line) && (m == ("insert" : Str)) && (cf.N[i]? == some x) && visB sc x && okN x && noStar y && noStar z && chk cf b top sc (.e y) && chk cf e top sc (.e z) | _ => false) = true := h
  split at h
  · exact ⟨_, _, _, _, _, _, _, _, rfl, h⟩
  · cases h
theorem inv_setc {cf : Cf} {is : List Nat} {e : N} {top : Bool} {sc : Scope} {ast : Ast} (h : chk cf (.setc is e : N) top sc ast = true) : (∃ t1 t2 v p_1, ast = .s (.Assign [t1, t2] v p_1) ∧ (noComp v && namesB cf top sc is [t1, t2] && chk cf e top sc (.e v)) = true) ∨ (∃ t1 t2 t3 v p_1, ast = .s (.Assign [t1, t2, t3] v p_1) ∧ (noComp v && namesB cf top sc is [t1, t2, t3] && chk cf e top sc (.e v)) = true) := by
  have h : (match (generalizing := false) ast with | .s (.Assign [t1, t2] v _) => noComp v && namesB cf top sc is [t1, t2] && chk cf e top sc (.e v) | .s (.Assign [t1, t2, t3] v _) => noComp v && namesB cf top sc is [t1, t2, t3] && chk cf e top sc (.e v) | _ => false) = true := h
  split at h
  · exact .inl ⟨_, _, _, _, rfl, h⟩
  · exact .inr (⟨_, _, _, _, _, rfl, h⟩)
  · cases h
theorem inv_ret {cf : Cf} {e : N} {top : Bool} {sc : Scope} {ast : Ast} (h : chk cf (.ret e : N) top sc ast = true) : (∃ v p_1, ast = .s (.Return (some v) p_1) ∧ (chk cf e top sc (.e v)) = true) := by
  have h : (match (generalizing := false) ast with | .s (.Return (some v) _) => chk cf e top sc (.e v) | _ => false) = true := h
  split at h
  · exact ⟨_, _, rfl, h⟩
  · cases h
theorem inv_retn {cf : Cf}  {top : Bool} {sc : Scope} {ast : Ast} (h : chk cf (.retn : N) top sc ast = true) : (∃ p_1, ast = .s (.Return none p_1) ∧ (true) = true) := by
  have h : (match (generalizing := false) ast with | .s (.Return none _) => true | _ => false) = true := h
  split at h
  · exact ⟨_, rfl, h⟩
  · cases h
theorem inv_retv {cf : Cf} {i : Nat} {top : Bool} {sc : Scope} {ast : Ast} (h : chk cf (.retv i : N) top sc ast = true) : (∃ x p_1 p_2, ast = .s (.Return (some (.Name x p_1)) p_2) ∧ ((cf.N[i]? == some x) && visB sc x && okN x) = true) := by
  have h : (match (generalizing := false) ast with | .s (.Return (some (.Name x _)) _) => (cf.N[i]? == some x) && visB sc x && okN x | _ => false) = true := h
  split at h
  · exact ⟨_, _, _, rfl, h⟩
  · cases h
theorem inv_ifs {cf : Cf} {t : N} {a : N} {b : N} {top : Bool} {sc : Scope} {ast : Ast} (h : chk cf (.ifs t a b : N) top sc ast = true) : (∃ c x y p_1, ast = .s (.If c x y p_1) ∧ (chk cf t top sc (.t c) && chk cf a top sc (.b x) && chk cf b top sc (.b y)) = true) := by
  have h : (match (generalizing := false) ast with | .s (.If c x y _) => chk cf t top sc (.t c) && chk cf a top sc (.b x) && chk cf b top sc (.b y) | _ => false) = true := h
  split at h
  · exact ⟨_, _, _, _, rfl, h⟩
  · cases h
theorem inv_forr {cf : Cf} {x : Tg} {it : N} {b : N} {top : Bool} {sc : Scope} {ast : Ast} (h : chk cf (.forr x it b : N) top sc ast = true) : (∃ tg iter body p_1, ast = .s (.For tg iter body [] p_1) ∧ (!cf.hot && top && noSet iter && tgB cf top sc x tg && chk cf it top sc (.i tg iter) && chk cf b top sc (.b body)) = true) := by
  have h : (match (generalizing := false) ast with | .s (.For tg iter body [] _) => !cf.hot && top && noSet iter && tgB cf top sc x tg && chk cf it top sc (.i tg iter) && chk cf b top sc (.b body) | _ => false) = true := h
  split at h
  · exact ⟨_, _, _, _, rfl, h⟩
  · cases h
theorem inv_whl {cf : Cf} {t : N} {b : N} {top : Bool} {sc : Scope} {ast : Ast} (h : chk cf (.whl t b : N) top sc ast = true) : (∃ c body p_1, ast = .s (.While c body [] p_1) ∧ (top && chk cf t top sc (.t c) && chk cf b top sc (.b body)) = true) := by
  have h : (match (generalizing := false) ast with | .s (.While c body [] _) => top && chk cf t top sc (.t c) && chk cf b top sc (.b body) | _ => false) = true := h
  split at h
  · exact ⟨_, _, _, rfl, h⟩
  · cases h
theorem inv_brk {cf : Cf}  {top : Bool} {sc : Scope} {ast : Ast} (h : chk cf (.brk : N) top sc ast = true) : (∃ p_1, ast = .s (.Break p_1) ∧ (true) = true) := by
  have h : (match (generalizing := false) ast with | .s (.Break _) => true | _ => false) = true := h
  split at h
  · exact ⟨_, rfl, h⟩
  · cases h
theorem inv_ctn {cf : Cf}  {top : Bool} {sc : Scope} {ast : Ast} (h : chk cf (.ctn : N) top sc ast = true) : (∃ p_1, ast = .s (.Continue p_1) ∧ (true) = true) := by
  have h : (match (generalizing := false) ast with | .s (.Continue _) => true | _ => false) = true := h
  split at h
  · exact ⟨_, rfl, h⟩
  · cases h
theorem inv_pas {cf : Cf}  {top : Bool} {sc : Scope} {ast : Ast} (h : chk cf (.pas : N) top sc ast = true) : (∃ p_1, ast = .s (.Pass p_1) ∧ (true) = true) := by
  have h : (match (generalizing := false) ast with | .s (.Pass _) => true | _ => false) = true := h
  split at h
  · exact ⟨_, rfl, h⟩
  · cases h
theorem inv_rai {cf : Cf} {c : Nat} {w : Str} {e : N} {top : Bool} {sc : Scope} {ast : Ast} (h : chk cf (.rai c w e : N) top sc ast = true) : (∃ x p_1 y p_2 p_3, ast = .s (.Raise (some (.Call (.Name x p_1) [y] [] p_2)) none p_3) ∧ (decide (c < cf.nx) && (cf.xn c == x) && (w == x) && glB sc x && okN x && noStar y && chk cf e top sc (.e y)) = true) := by
  have h : (match (generalizing := false) ast with | .s (.Raise (some (.Call (.Name x _) [y] [] _)) none _) => decide (c < cf.nx) && (cf.xn c == x) && (w == x) && glB sc x && okN x && noStar y && chk cf e top sc (.e y) | _ => false) = true := h
  split at h
  · exact ⟨_, _, _, _, _, rfl, h⟩
  · cases h
theorem inv_rai0 {cf : Cf} {c : Nat} {w : Str} {top : Bool} {sc : Scope} {ast : Ast} (h : chk cf (.rai0 c w : N) top sc ast = true) : (∃ x p_1 p_2 p_3, ast = .s (.Raise (some (.Call (.Name x p_1) [] [] p_2)) none p_3) ∧ (decide (c < cf.nx) && (cf.xn c == x) && (w == x) && glB sc x && okN x) = true) := by
  have h : (match (generalizing := false) ast with | .s (.Raise (some (.Call (.Name x _) [] [] _)) none _) => decide (c < cf.nx) && (cf.xn c == x) && (w == x) && glB sc x && okN x | _ => false) = true := h
  split at h
  · exact ⟨_, _, _, _, rfl, h⟩
  · cases h
theorem inv_tryx {cf : Cf} {i : Nat} {ts : List Nat} {b : N} {s : N} {top : Bool} {sc : Scope} {ast : Ast} (h : chk cf (.tryx i ts b s : N) top sc ast = true) : (∃ body x p_1 n b0 suite p_2 p_3, ast = .s (.Try body [.ExceptHandler (some (.Name x p_1)) (some n) (b0 :: suite) p_2] [] [] p_3) ∧ (top && !cf.hot && (cf.N[i]? == some n) && (sc.names.lookup n == some .local) && glB sc x && okN x && cf.ct.contains (x, ts) && chk cf b top sc (.b body) && chk (hotC cf) s top sc (.b (b0 :: suite))) = true) := by
  have h : (match (generalizing := false) ast with | .s (.Try body [.ExceptHandler (some (.Name x _)) (some n) (b0 :: suite) _] [] [] _) => top && !cf.hot && (cf.N[i]? == some n) && (sc.names.lookup n == some .local) && glB sc x && okN x && cf.ct.contains (x, ts) && chk cf b top sc (.b body) && chk (hotC cf) s top sc (.b (b0 :: suite)) | _ => false) = true := h
  split at h
  · exact ⟨_, _, _, _, _, _, _, _, rfl, h⟩
  · cases h
theorem inv_try2 {cf : Cf} {i : Nat} {ts : List Nat} {b : N} {s : N} {us : List Nat} {g : N} {top : Bool} {sc : Scope} {ast : Ast} (h : chk cf (.try2 i ts b s us g : N) top sc ast = true) : (∃ body x p_1 n b0 suite p_2 y p_3 m c0 tail p_4 p_5, ast = .s (.Try body [.ExceptHandler (some (.Name x p_1)) (some n) (b0 :: suite) p_2, .ExceptHandler (some (.Name y p_3)) (some m) (c0 :: tail) p_4] [] [] p_5) ∧ (top && !cf.hot && (cf.N[i]? == some n) && (m == n) && (sc.names.lookup n == some .local) && glB sc x && okN x && glB sc y && okN y && cf.ct.contains (x, ts) && cf.ct.contains (y, us) && chk cf b top sc (.b body) && chk (hotC cf) s top sc (.b (b0 :: suite)) && chk (hotC cf) g top sc (.b (c0 :: tail))) = true) := by
  have h : (match (generalizing := false) ast with | .s (.Try body [.ExceptHandler (some (.Name x _)) (some n) (b0 :: suite) _, .ExceptHandler (some (.Name y _)) (some m) (c0 :: tail) _] [] [] _) => top && !cf.hot && (cf.N[i]? == some n) && (m == n) && (sc.names.lookup n == some .local) && glB sc x && okN x && glB sc y && okN y && cf.ct.contains (x, ts) && cf.ct.contains (y, us) && chk cf b top sc (.b body) && chk (hotC cf) s top sc (.b (b0 :: suite)) && chk (hotC cf) g top sc (.b (c0 :: tail)) | _ => false) = true := h
  split at h
  · exact ⟨_, _, _, _, _, _, _, _, _, _, _, _, _, _, rfl, h⟩
  · cases h
theorem inv_done {cf : Cf}  {top : Bool} {sc : Scope} {ast : Ast} (h : chk cf (.done : N) top sc ast = true) : (ast = .b [] ∧ (true) = true) := by
  have h : (match (generalizing := false) ast with | .b [] => true | _ => false) = true := h
  split at h
  · exact ⟨rfl, h⟩
  · cases h
theorem inv_seq {cf : Cf} {s : N} {r : N} {top : Bool} {sc : Scope} {ast : Ast} (h : chk cf (.seq s r : N) top sc ast = true) : (∃ x xs, ast = .b (x :: xs) ∧ (chk cf s top sc (.s x) && chk cf r top sc (.b xs)) = true) := by
  have h : (match (generalizing := false) ast with | .b (x :: xs) => chk cf s top sc (.s x) && chk cf r top sc (.b xs) | _ => false) = true := h
  split at h
  · exact ⟨_, _, rfl, h⟩
  · cases h
end Pi

namespace Pi
open PySem L2 PySem.Spec PyProof.Rows
section
variable {X : Cx}
/-- repr(x), x plain data -/
def rRepr (K : PySem.W.Frag) : List V → Hp → VK → Prop := fun xs H Q => ∃ v d, xs = [v] ∧ Da K H v d ∧ d.showable = true ∧ d.hasDict = false ∧ d.depth ≤ 40 ∧ d.shown.length ≤ sizeLine ∧ Q (.str d.shown) H
theorem cr_repr (hg : X.A.guards = some []) (hu : X.A.units + 180 < cLine) : CallR X (.builtin "repr") (rRepr X.K) := by
  intro pins s σ H xs us Q I r h
  obtain ⟨v, d, rfl, hd, h1, h2, h3, h4, q⟩ := h
  obtain ⟨u, rfl, ru⟩ := vals1 r
  have seq : ∀ {a : Addr}, u = .ref a → wpAny (model X.prog X.w) X.A (call (.builtin "repr") [u]) (EP X pins σ Q) X.xe s := by
    intro a e
    subst e
    obtain ⟨as, rd⟩ := Dp.reads I d _ _ hd.dp ru
    exact repr_of_reads' rd h1 (PyData.noDict_hsm h2) hg (by omega) (fun _ _ e => e) (fun h' t tk k => ⟨.str _, H, I.kept k, ⟨t, rfl⟩, q⟩) h4
  cases hd with
  | non =>
    cases ru
    exact PySem.P.repr_of_none ⟨.str _, H, I.tok _, ⟨_, rfl⟩, q⟩
  | bl b =>
    cases ru
    exact PySem.P.repr_of_bool ⟨.str _, H, I.tok _, ⟨_, rfl⟩, q⟩
  | int i =>
    obtain ⟨t, rfl⟩ := ru
    exact PySem.P.repr_of_int (of_decide_eq_true h1) ⟨.str _, H, I.tok _, ⟨_, rfl⟩, q⟩
  | str x =>
    obtain ⟨t, rfl⟩ := ru
    exact PySem.P.repr_of_str ⟨.str _, H, I.tok _, ⟨_, rfl⟩, q⟩ h4
  | lst _ _ => cases ru; exact seq rfl
  | tup _ _ => cases ru; exact seq rfl
theorem cr_str1 : CallR X (.type "str") (fun xs H Q => ∃ a, xs = [.str a] ∧ Q (.str a) H) := by
  intro pins s σ H xs us Q I r h
  obtain ⟨a, rfl, q⟩ := h
  obtain ⟨u, rfl, t, rfl⟩ := vals1 r
  exact PySem.P.str_of_str ⟨.str a, H, I, ⟨t, rfl⟩, q⟩
/-- lcm of ints of moderate size -/
theorem cr_lcm : CallR X (.builtin "math.lcm") (fun xs H Q => ∃ i j : Int, xs = [.int i, .int j] ∧ i.natAbs.log2 < 13000 ∧ j.natAbs.log2 < 13000 ∧ Q (.int (Nat.lcm i.natAbs j.natAbs : Nat)) H) := by
  intro pins s σ H xs us Q I r h
  obtain ⟨i, j, rfl, hi, hj, q⟩ := h
  cases r with
  | cons r1 r2 =>
    cases r2 with
    | cons r2 r3 =>
      cases r3
      obtain ⟨t, rfl⟩ := r1
      obtain ⟨u, rfl⟩ := r2
      have e1 : Nat.lcm 1 i.natAbs = i.natAbs := by simp [Nat.lcm]
      have b1 : (max 1 i.natAbs).log2 < 13000 := by
        by_cases h : 1 ≤ i.natAbs
        · rw [Nat.max_eq_right h]; exact hi
        · rw [Nat.max_eq_left (by omega)]; decide
      have b2 : (max i.natAbs j.natAbs).log2 < 13000 := by
        by_cases h : i.natAbs ≤ j.natAbs
        · rw [Nat.max_eq_right h]; exact hj
        · rw [Nat.max_eq_left (by omega)]; exact hi
      have b3 : ((((Nat.lcm 1 i.natAbs).lcm j.natAbs : Nat) : Int)).natAbs.log2 < bitsLine := by
        rw [e1, Int.natAbs_natCast]
        have bl : bitsLine = 134217728 := by decide
        by_cases z : Nat.lcm i.natAbs j.natAbs = 0
        · rw [z, bl]; decide
        · have z1 : i.natAbs ≠ 0 := fun e => z (by rw [e]; simp [Nat.lcm])
          have z2 : j.natAbs ≠ 0 := fun e => z (by rw [e]; simp [Nat.lcm])
          have le : Nat.lcm i.natAbs j.natAbs ≤ i.natAbs * j.natAbs := PySem.W.mc_lcm_le _ _
          have l1 : i.natAbs < 2 ^ 13000 := (Nat.log2_lt z1).mp hi
          have l2 : j.natAbs < 2 ^ 13000 := (Nat.log2_lt z2).mp hj
          have l3 : Nat.lcm i.natAbs j.natAbs < 2 ^ 26000 := Nat.lt_of_le_of_lt le (by
            have := Nat.mul_lt_mul'' l1 l2
            rw [← Nat.pow_add] at this
            exact this)
          have := (Nat.log2_lt z).mpr l3
          omega
      refine call_function_meets PySem.W.MGF.kind_lcm PySem.W.MGF.plain_lcm PySem.W.MGF.entry_lcm (PySem.W.MGF.args_lcm _ _) (PySem.W.mg_run_lcm i t j u (by omega) (by omega) b3).meets ?_
      rw [e1]
      exact ⟨.int _, H, I.tok _, ⟨_, rfl⟩, q⟩
/-! ### what a loop walks -/
theorem pi_walk {l tg : Expr} {tl : TE} (hl : PE X l tl) : PI X tg l (fun σ H R => tl σ H fun v H1 => (∃ a xs, v = .ref a ∧ SqL X.K H1 a xs ∧ R (Itl X.K a) H1) ∨ (∃ a xs, v = .ref a ∧ SqT X.K H1 a xs ∧ R (Itt X.K a) H1) ∨ ∃ x, v = .str x ∧ R (Its x) H1) := by
  constructor
  intro pins s σ H R I h
  refine thn (hl.run pins s σ H _ I h) fun u s1 z => ?_
  obtain ⟨v, H1, I1, r, z⟩ := z
  have nw : ∀ b ∈ [s1.heap.objs.size], FpOk X pins H1 b := fun b hb => by
    rw [List.mem_singleton] at hb
    subst hb
    exact I1.fpOk (Nat.le_refl _) (I1.hok.fresh (Nat.le_refl _))
  rcases z with ⟨a, xs, rfl, hq, z⟩ | ⟨a, xs, rfl, hq, z⟩ | ⟨x, rfl, z⟩
  · cases r
    obtain ⟨its, rv, p, _⟩ := I1.list hq
    exact wpAny_pyIter_list p.isList ⟨_, _, _, _, H1, rfl, I1.kept (t' := s1.toks) fun b o e => Heap.get?_push_of_some _ e, turn_list a _, ⟨_, Heap.get?_push_size _ rfl, rfl, rfl⟩, nw, z⟩
  · cases r
    obtain ⟨its, rv, p, _⟩ := I1.tuple hq
    exact wpAny_pyIter_tuple (show s1.heap.IsTuple a its.toArray from p) ⟨_, _, _, _, H1, rfl, I1.kept (t' := s1.toks) fun b o e => Heap.get?_push_of_some _ e, turn_tuple a _, ⟨_, Heap.get?_push_size _ rfl, rfl, rfl⟩, nw, z⟩
  · obtain ⟨t, rfl⟩ := r
    by_cases ha : x.cps.all (· < 128) = true
    · exact wpAny_pyIter_ascii ha (pi_one (tk := s1.toks) I1 _ (turn_str _ x t _ (.inl rfl)) ⟨_, Heap.get?_push_size _ rfl, rfl, rfl⟩ z)
    · exact wpAny_pyIter_wide (by simpa using ha) (pi_one (tk := s1.toks) I1 _ (turn_str _ x t _ (.inr rfl)) ⟨_, Heap.get?_push_size _ rfl, rfl, rfl⟩ z)
end
end Pi

/-! xs[::-1] of a tuple. -/
namespace Pi
open PySem L2 PySem.Spec PyProof.Rows
section
variable {prog : Program} {w : World} {A : Around} {E : Value → Shared → Prop} {s : Shared}
theorem back_adjust (n : Nat) : Builtin.Slice.sliceAdjust none none (-1) (n : Int) = ((n : Int) - 1, -1) := rfl
theorem back_places (n : Nat) : Builtin.Slice.slicePlaces ((n : Int) - 1) (-1) (-1) = n := by
  unfold Builtin.Slice.slicePlaces
  rw [if_neg (by decide)]
  split <;> simp <;> omega
theorem back_applied {sl : Addr} {vl vu vs : Value} {n : Nat} {Q : Int × Int × Nat → Shared → Prop} (hs : s.heap.IsSliceOf sl vl vu vs) (pl : IsPart vl none) (pu : IsPart vu none) (pv : IsPart vs (some (-1)))
    (h : Q ((n : Int) - 1, -1, n) s) : wpAny (model prog w) A (Builtin.Slice.sliceApplied (.ref sl) (pure (n : Int))) Q E s := by
  obtain ⟨so, at1, _, dat⟩ := id hs
  unfold Builtin.Slice.sliceApplied Builtin.Slice.sliceFields
  refine wpAny_bind (wpAny_bind (wpAny_field at1 dat (x := vl) rfl (wpAny_bind (wpAny_field at1 dat (x := vu) rfl (wpAny_bind (wpAny_field at1 dat (x := vs) rfl (wpAny_pure ?_)))))))
  refine wpAny_bind (HT.slicePart_ pv ?_)
  show wpAny _ _ (if ((-1 : Int) == 0) = true then _ else _) _ _ s
  rw [if_neg (by decide)]
  refine wpAny_bind (HT.slicePart_ pl (wpAny_bind (HT.slicePart_ pu (wpAny_bind (wpAny_pure ?_)))))
  show wpAny _ _ (pure ((n : Int) - 1, (-1 : Int), Builtin.Slice.slicePlaces ((n : Int) - 1) (-1) (-1))) _ _ s
  rw [back_places]
  exact wpAny_pure h
theorem fm_map {α β : Type} {f : α → Option β} {g : α → β} : ∀ {l : List α}, (∀ x ∈ l, f x = some (g x)) → l.filterMap f = l.map g
  | [], _ => rfl
  | x :: l, h => by
    rw [List.filterMap_cons_some (h x (.head _)), List.map_cons, fm_map fun y hy => h y (.tail _ hy)]
theorem back_pick (xs : Array Value) : ((List.range xs.size).filterMap fun (m : Nat) => xs[(((xs.size : Int) - 1) + (m : Int) * -1).toNat]?).toArray = xs.toList.reverse.toArray := by
  congr 1
  have e : (List.range xs.size).filterMap (fun (m : Nat) => xs[(((xs.size : Int) - 1) + (m : Int) * -1).toNat]?) = (List.range xs.size).map fun m => xs.toList.reverse.getD m .none := by
    refine fm_map fun m hm => ?_
    have hm := List.mem_range.mp hm
    have hr : m < xs.toList.reverse.length := by rw [List.length_reverse, Array.length_toList]; exact hm
    rw [show (((xs.size : Int) - 1) + (m : Int) * -1).toNat = xs.size - 1 - m by omega]
    show _ = some (xs.toList.reverse.getD m .none)
    rw [List.getD_eq_getElem?_getD, List.getElem?_eq_getElem hr, List.getElem_reverse]
    simp only [Array.length_toList, Option.getD_some, Array.getElem_toList]
    exact Array.getElem?_eq_getElem (by omega)
  rw [e]
  apply List.ext_getElem?
  intro i
  by_cases hi : i < xs.size
  · have hr : i < xs.toList.reverse.length := by rw [List.length_reverse, Array.length_toList]; exact hi
    rw [List.getElem?_map, List.getElem?_range hi]
    show some (xs.toList.reverse.getD i .none) = _
    rw [List.getD_eq_getElem?_getD, List.getElem?_eq_getElem hr]
    rfl
  · rw [List.getElem?_eq_none (by rw [List.length_map, List.length_range]; omega), List.getElem?_eq_none (by rw [List.length_reverse, Array.length_toList]; omega)]
theorem back_tuple {t sl : Addr} {items : Array Value} {vl vu vs : Value} {Q : Value → Shared → Prop} (ht : IsTup s.heap t items) (hs : s.heap.IsSliceOf sl vl vu vs) (pl : IsPart vl none) (pu : IsPart vu none) (pv : IsPart vs (some (-1)))
    (h : Q (.ref s.heap.objs.size) { s with heap := s.heap.push { cls := .type "tuple", data := .seq items.toList.reverse.toArray } }) (hz : items.size ≤ sizeLine) : wpAny (model prog w) A (getItem (.ref t) (.ref sl)) Q E s := by
  have fits : sizeOk (.seq items.toList.reverse.toArray) := by
    show items.toList.reverse.toArray.size ≤ sizeLine
    rw [List.size_toArray, List.length_reverse, Array.length_toList]
    exact hz
  obtain ⟨so, at1, cs, dat⟩ := id hs
  have isS : s.TypeIs (.ref sl) "slice" := ⟨so, at1, cs⟩
  unfold getItem
  try with_reducible refine wpAny_holding ?_
  first
    | refine wpAny_bind (wpAny_pure ?_)
    | skip
  refine wpAny_bind (wpAny_sequenceKey (T := "tuple") ht.typeIs (by decide) ?_)
  refine wpAny_bind (wpAny_callSpecial?_slot (name := "__getitem__") ht.typeIs slot_tuple_getitem
    (wpAny_call_entry slot_tuple_getitem ht.typeIs entry_tuple_getitem ?_ (args_tuple_getitem (.ref t) (.ref sl))))
  show wpAny _ _ (Builtin.Tuple.tupleItemsOf (.ref t) >>= _) _ _ s
  refine wpAny_bind (tupleItemsOf_ ht (wpAny_bind (wpAny_typeOf isS ?_)))
  rw [if_pos (by decide)]
  refine wpAny_bind (back_applied hs pl pu pv ?_)
  show wpAny _ _ (if (((items.size : Int) - 1 == 0 && (-1 : Int) == 1 && items.size == items.size) = true) then _ else _) _ _ s
  rw [if_neg (by simp), back_pick]
  first
    | exact wpAny_bind (m := Builtin.Tuple.tupleExact _) (wpAny_newObj_type (wpAny_pure ⟨_, rfl, wpAny_pure h⟩) fits)
    | exact wpAny_bind (m := Builtin.Tuple.tupleExact _) (wpAny_newObj_type (wpAny_bind (wpAny_pure (wpAny_pure ⟨_, rfl, wpAny_pure h⟩))) fits)
    | exact wpAny_bind (wpAny_bind (m := Builtin.Tuple.tupleExact _) (wpAny_newObj_type (wpAny_pure (wpAny_pure ⟨_, rfl, wpAny_pure h⟩)) fits))
    | exact wpAny_bind (wpAny_bind (m := Builtin.Tuple.tupleExact _) (wpAny_newObj_type (wpAny_pure ⟨_, rfl, wpAny_pure h⟩) fits))
end
/-- xs[::-1] of a list or a tuple -/
def tBack (K : PySem.W.Frag) (te : TE) : TE := fun st hp Q => te st hp fun x h1 => ∃ p xs, x = .ref p ∧ ((SqL K h1 p xs ∧ ∀ q, h1 q = none → Q (.ref q) (upd h1 q (.lst xs.reverse))) ∨ (SqT K h1 p xs ∧ ∀ q, h1 q = none → Q (.ref q) (upd h1 q (.tup xs.reverse))))
theorem pe_rv {X : Cx} {e : Expr} {te : TE} {k : Nat} {q1 q2 q3 pos : Pos} (he : PE X e te) : PE X (.Subscript e (.Slice none none (some (.UnaryOp .USub (.Constant (.int 1) k q1) q2)) q3) pos) (tBack X.K te) := by
  refine ⟨fun pins s st hp Q I h => ?_⟩
  refine Subscript_ (thn (he.run pins s st hp _ I h) fun _ s1 ⟨_, h1, I1, r1, p, xs, ex, q⟩ => ?_)
  subst ex
  cases r1
  have one : PO X (some (.UnaryOp .USub (.Constant (.int 1) k q1) q2)) (tPart (tUn (rU fun z => .int (-z)) (tC (.int 1)))) := po_some (pe_un un_neg pe_int)
  refine wpAny_Slice (thn (po_none.run pins s1 st h1 (fun o hh => o = none ∧ hh = h1) I1 ⟨rfl, rfl⟩) fun vl s2 ⟨_, h2, I2, pl, e1, e2⟩ => ?_)
  subst e1 e2
  refine thn (po_none.run pins s2 st h2 (fun o hh => o = none ∧ hh = h2) I2 ⟨rfl, rfl⟩) fun vu s3 ⟨_, h3, I3, pu, e1, e2⟩ => ?_
  subst e1 e2
  refine thn (one.run pins s3 st h3 (fun o hh => o = some (-1) ∧ hh = h3) I3 ⟨1, rfl, -1, rfl, rfl, rfl⟩) fun vs s4 ⟨_, h4, I4, pv, e1, e2⟩ => ?_
  subst e1 e2
  have I5 : L2.Inv X pins st h4 { s4 with heap := s4.heap.push { cls := .type "slice", data := .fields #[vl, vu, vs] } } := I4.kept (t' := s4.toks) fun _ _ q => Heap.get?_push_of_some _ q
  show wpAny (model X.prog X.w) X.A (subscriptTail e (.Slice none none (some (.UnaryOp .USub (.Constant (.int 1) k q1) q2)) q3) (.ref p) (.ref s4.heap.objs.size)) (EP X pins st Q) X.xe _
  rcases q with ⟨hx, q⟩ | ⟨hx, q⟩
  · obtain ⟨its, r, ht, hz⟩ := I5.list hx
    have ln := r.length
    refine tail_any (ops := [.ref p, .ref s4.heap.objs.size]) ht.isList.typeIs PySem.slot_list_getitem.lookup ?_ (by with_unfolding_all rfl)
    refine wpAny_getItem_list_slice ht.isList (Heap.IsSliceOf.new _ vl vu vs) pl pu pv (by decide) ?_ (by rw [List.size_toArray]; omega)
    rw [PySem.W.krv_pick]
    refine ⟨.ref _, _, I5.laid (t' := s4.toks) (o := .lst xs.reverse) (fun _ _ q => Heap.get?_push_of_some _ q) (Nat.le_refl _) ⟨by rw [List.length_reverse]; exact hz, _, 0, r.reverse, Heap.get?_push_size _ rfl⟩, rfl, q _ (I5.hok.fresh (Nat.le_refl _))⟩
  · obtain ⟨its, r, ht, hz⟩ := I5.tuple hx
    have ln := r.length
    refine tail_any (ops := [.ref p, .ref s4.heap.objs.size]) ht.typeIs PyProof.Rows.slot_tuple_getitem.lookup ?_ (by with_unfolding_all rfl)
    refine back_tuple ht (Heap.IsSliceOf.new _ vl vu vs) pl pu pv ?_ (by rw [List.size_toArray]; omega)
    refine ⟨.ref _, _, I5.laid (t' := s4.toks) (o := .tup xs.reverse) (fun _ _ q => Heap.get?_push_of_some _ q) (Nat.le_refl _) ?_, rfl, q _ (I5.hok.fresh (Nat.le_refl _))⟩
    exact ⟨by rw [List.length_reverse]; exact hz, _, r.reverse, IsTup.new _ _⟩
end Pi

/-! Several except clauses, each with the same name: try .. except C1 as e .. except C2 as e. -/
namespace Pi
open PySem L2 PySem.Spec PyProof.Rows
abbrev SuT := Addr → Value → Option Addr → TS
/-- the name is gone behind the suite -/
def goneEnds (i : Nat) (D : Ends) : Ends := { nx := fun st hp => D.nx (List.set st i none) hp, rt := D.rt, bk := fun st hp => D.bk (List.set st i none) hp, ct := fun st hp => D.ct (List.set st i none) hp }
def wTw (K : PySem.W.Frag) (i : Nat) (Wo : WX) (D : Ends) : List (Value × SuT) → WX
  | [] => Wo
  | q :: r => fun k d st hp => ∃ y, PySem.W.exmOne K k q.1 = some y ∧ (y = true → ∀ p, hp p = none → q.2 p k d (goneEnds i D) (List.set st i (some (.ref p))) hp) ∧ (y = false → wTw K i Wo D r k d st hp)
/-- the clauses, and what each of them wishes -/
inductive TwOk (X : Cx) (nm : Str) : List ExceptHandler → List (Value × SuT) → Prop
  | nil : TwOk X nm [] []
  | more {w : Str} {kv : Value} {su : SuT} {hd : Stmt} {tl : List Stmt} {p1 p2 : Pos} {hs : List ExceptHandler} {ws : List (Value × SuT)}
      (isN : Names X w kv)
      (run : ∀ (p : Addr) (ob : Obj) (k : Value) (d : Option Addr) (more : List (Addr × Obj)), Zc k d ob → (∃ f, ob.data = .fields f) → PSs (X.suite p ((p, ob) :: more)) (hd :: tl) (su p k d))
      (rest : TwOk X nm hs ws) : TwOk X nm (.ExceptHandler (some (.Name w p1)) (some nm) (hd :: tl) p2 :: hs) ((kv, su) :: ws)
section
variable {X : Cx} {nm : Str} {i : Nat} {bd : List Stmt} {h1 : ExceptHandler} {hs : List ExceptHandler} {ws : List (Value × SuT)} {ps : Pos} {tb : WX → TS} {Wo : WX}
theorem ps_try_tw (hst : X.stack = X.env :: X.outer) (hfr : X.env.frame = some X.env.locals) (nd : X.N.Nodup) (hi : X.N[i]? = some nm) (loc : X.env.kindOf nm = some .local) (tk : Takes X Wo)
    (hB : ∀ (W2 : WX) (more : List (Addr × Obj)) (esc : Value → Shared → Prop), Takes (X.tr more esc) W2 → PassesOwn (model X.prog X.w) X.A X.env esc → PSs (X.tr more esc) bd (tb W2))
    (cl : TwOk X nm (h1 :: hs) ws) : PS X (.Try bd (h1 :: hs) [] [] ps) fun D st hp => tb (wTw X.K i Wo D ws) D st hp := by
  refine ⟨fun pins s st hp D I0 h0 => ?_⟩
  have ok := I0.ok
  have frs2 : X.A.frames = some (X.env :: X.outer) := ok.frames.trans (by rw [hst])
  have locN : Loc X.env.scope nm := .inl loc
  refine wpAny_Try_except ?_
  refine wpAny_mono ((hB (wTw X.K i Wo D ws) (X.pn ++ pins)
    (fun ev t1 => wpAny (model X.prog X.w) X.A (noteFrame ev X.env) (fun _ t2 => wpAny (model X.prog X.w) X.A (setFlight ev none) (fun _ t3 => wpAny (model X.prog X.w) X.A (handleBy ev X.env (h1 :: hs)) (SP X pins D) X.xe t3) X.xe t2) X.xe t1)
    (fun u t1 caught => ?_) PassesOwn.looking).run [] s st hp D (I0.toTry _) h0) (fun fl t1 sp => ?_) (fun _ _ z => z)
  · obtain ⟨p, B, sI, pins2, st2, hp2, k, d, rfl, J2, nb, up, sky, na, os, ag, w⟩ := caught
    have J : L2.Inv X pins st2 hp2 sI := J2.ofTry ok
    rw [hst] at sky
    show wpAny (model X.prog X.w) X.A (noteFrame (.ref p) X.env) _ _ _
    refine Sky.land (Z := Zc k d) Zc.steady frs2 hfr sky fun g1 f1 u1 => ?_
    obtain ⟨ob, fs, at1, zc1, dat1⟩ := f1.there
    have apart : p ∉ frs (X.env :: X.outer) := fun hm => by
      obtain ⟨_, ob2, at2, no⟩ := f1.2.2.1.mem hm
      rw [at1] at at2
      cases at2
      exact no _ dat1
    have pL : p ≠ X.env.locals := fun z => apart (List.mem_filterMap.mpr ⟨X.env, List.mem_cons_self, by rw [hfr, z]⟩)
    have pF : p ∉ X.fs := fun hm => by
      obtain ⟨e2, he2, q2⟩ := List.mem_filterMap.mp hm
      exact apart (List.mem_filterMap.mpr ⟨e2, List.mem_cons_of_mem _ he2, q2⟩)
    have J1 : L2.Inv X pins st2 hp2 { t1 with heap := g1 } := J.landed nb f1.1 (up.trans u1) os ag
    have S1 := J1.suite at1 dat1 na pL pF
    suffices each : ∀ {hs2 : List ExceptHandler} {ws2 : List (Value × SuT)}, TwOk X nm hs2 ws2 → wTw X.K i Wo D ws2 k d st2 hp2 → wpAny (model X.prog X.w) X.A (handleBy (.ref p) X.env hs2) (SP X pins D) X.xe { t1 with heap := g1 } from each cl w
    clear w cl
    intro hs2 ws2 c2
    induction c2 with
    | nil =>
      intro w
      refine wpAny_handleBy_nil ?_
      have f2 := f1
      obtain ⟨z1, z2, z3, ob2, fs2, T2, oT2, ts2, q1, q2, q3, q4, q5⟩ := f2
      unfold PySem.passOn
      refine wpAny_bind (wpAny_field q1 q3 q4 ?_)
      rw [if_neg (by simp)]
      have thrown : wpAny (model X.prog X.w) X.A (setFlight (.ref p) X.env.frame) (fun _ t4 => wpAny (model X.prog X.w) X.A (throw (.ref p) : Sem Flow) (SP X pins D) X.xe t4) X.xe { t1 with heap := g1 } := by
        rw [hfr]
        refine HandSPX.setFlight_upZ f1 fun g2 held u2 => wpAny_throw (tk _ _ ⟨p, B, sI, pins, st2, hp2, k, d, rfl, J, nb, (up.trans u1).trans u2, .inr (.inr (by rw [hst]; exact held)), na, os, ag, w⟩)
      first
        | exact wpAny_bind (wpAny_pure (wpAny_bind thrown))
        | exact wpAny_bind thrown
    | @more wd kv su hd tl p1 p2 hs3 ws3 isN run rest ih =>
      rintro ⟨y, m1, yes, no⟩
      refine wpAny_handleBy_cons (codeAny_handlers_test ?_) (fun q => by cases q)
      have its : PySem.W.Looks (model X.prog X.w) g1 (typeOf (.ref p)) k := fun _ _ _ _ kp q => wpAny_typeOf_ref (kp _ _ at1) (by rw [zc1.1]; exact q)
      have mt := PySem.W.exm_one (M := model X.prog X.w) J1.kIn its m1
      have asks : ∀ {Q2 E2 : Value → Shared → Prop}, Q2 kv { t1 with heap := g1 } → wpAny (model X.prog X.w) (X.A.mark (some (.ref p))) (eval (.Name wd p1) X.env) Q2 E2 { t1 with heap := g1 } := fun {_ _} q => by
        obtain ⟨gl, dbg, m2 | ⟨m2, bv, nn⟩⟩ := isN
        · exact ld_glob (X := X.suite p ((p, ob) :: (X.pn ++ pins))) S1 gl m2 q dbg
        · exact ld_blt (X := X.suite p ((p, ob) :: (X.pn ++ pins))) S1 gl m2 bv q nn dbg
      refine asks (mt.here ?_)
      cases y with
      | false => exact ih (no rfl)
      | true =>
        refine codeAny_handlers_suite_as ?_
        refine HandSPX.lands_againZ f1 fun g2 f2 u2 => ?_
        obtain ⟨ob2, fs2, at2, zc2, dat2⟩ := f2.there
        have S2 := (J.landed (s' := { t1 with heap := g2 }) nb f2.1 ((up.trans u1).trans u2) os ag).suite at2 dat2 na pL pF
        refine store_ok (X := X.suite p ((p, ob2) :: (X.pn ++ pins))) (v := .ref p) S2 nd hi locN rfl (fun t5 S5 => ?_) (.inr loc)
        refine wpAny_mono ((run p ob2 k d (X.pn ++ pins) zc2 ⟨_, dat2⟩).run [] t5 _ hp2 _ S5 (yes rfl p na)) (fun fl t6 sp => ?_) (fun _ _ z => z.elim)
        have behind : ∀ {st6 : L2.St} {hp6 : Hp} {Q6 : Shared → Prop}, L2.Inv (X.suite p ((p, ob2) :: (X.pn ++ pins))) [] st6 hp6 t6 → (∀ t7, L2.Inv X pins (List.set st6 i none) hp6 t7 → Q6 t7) →
            wpAny (model X.prog X.w) X.A (do bindName X.env nm .none; unbindBehindTheSuite X.env nm p2) (fun _ t7 => Q6 t7) X.xe t6 := fun {_ _ _} S6 q6 => gone_ok (S6.unsuite ok) nd hi loc q6
        cases fl with
        | ret u =>
          obtain ⟨v6, st6, hp6, S6, r6, q6⟩ := sp
          exact behind S6 fun _ J7 => ⟨_, _, _, J7, r6, q6⟩
        | _ =>
          obtain ⟨st6, hp6, S6, q6⟩ := sp
          exact behind S6 fun _ J7 => ⟨_, _, J7, q6⟩
  · cases fl with
    | next =>
      obtain ⟨st2, hp2, J2, q2⟩ := sp
      exact wpAny_execs_nil ⟨_, _, J2.ofTry ok, q2⟩
    | ret u =>
      obtain ⟨v2, st2, hp2, J2, r2, q2⟩ := sp
      exact ⟨_, _, _, J2.ofTry ok, r2, q2⟩
    | _ =>
      obtain ⟨st2, hp2, J2, q2⟩ := sp
      exact ⟨_, _, J2.ofTry ok, q2⟩
end
end Pi

namespace Pi
open PySem L2 PySem.Spec PyProof.Rows
theorem N.isV_some {n : N} {i : Nat} (h : n.isV = some i) : n = .v i := by
  cases n <;> first | (injection h with h; subst h; rfl) | (simp [N.isV] at h)
theorem vis_of {sc : Scope} {x : Str} (h : visB sc x = true) : Vis sc x := by
  unfold visB at h
  simp only [Bool.or_eq_true, beq_iff_eq] at h
  rcases h with (h | h) | h
  · exact .inl h
  · exact .inr (.inl h)
  · exact .inr (.inr h)
theorem okN_of {x : Str} (h : okN x = true) : (x == ("__debug__" : Str)) = false ∧ (x == ("__classdict__" : Str)) = false ∧ x ≠ "__name__" := by
  unfold okN at h
  simp only [Bool.and_eq_true, Bool.not_eq_true'] at h
  exact ⟨h.1.1, h.1.2, fun e => by rw [e] at h; exact absurd h.2 (by decide +kernel)⟩
theorem glB_of {X : Cx} {x : Str} (h : glB X.env.scope x = true) : Gl X x := by
  unfold glB at h
  exact beq_iff_eq.mp h
section
variable {cf : Cf} {C : Nat → Option PyData} {F : Fs} {X : Cx} {E0 : WX} {top : Bool} {K : PySem.W.Frag} {G H : Hp} {σ : L2.St} {env : Ev} {as : As} {A : Ft}
theorem var_ok (ok : Ok cf C F top X E0) {i : Nat} {e : Expr} {v : V} {Q : VK} (h : chk cf (.v i) top X.env.scope (.e e) = true) (hv : σ[i]? = some (some v)) (q : Q v H) : wE X e σ H Q := by
  obtain ⟨x, p, he, h'⟩ := inv_v h
  cases he
  simp only [Bool.and_eq_true, beq_iff_eq] at h'
  obtain ⟨⟨h1, h2⟩, h3⟩ := h'
  exact wE_of (pe_var (by rw [ok.hN]; exact h1) (vis_of h2) (okN_of h3).1 (okN_of h3).2.1) ⟨v, hv, q⟩
theorem wE_mono {X : Cx} {e : Expr} {σ : L2.St} {H : Hp} {Q Q' : VK} (h : wE X e σ H Q) (q : ∀ v H, Q v H → Q' v H) : wE X e σ H Q' := fun pins s I =>
  wpAny_mono (h pins s I) (fun u s' z => by
    obtain ⟨v, H', I', r, z⟩ := z
    exact ⟨v, H', I', r, q _ _ z⟩) fun _ _ z => z
def opdW (F : Fs) (C : Nat → Option PyData) (a b : N) (env : Ev) (x : Xc → Ev → Prop) (f : PyData → PyData → Ev → Prop) : Prop :=
  match a.isV, b.isV with
  | some i, some j => peek env i fun da => peek env j fun db => f da db env
  | some i, none => peek env i fun _ => wp F C b env (kE x fun rb env1 => peek env1 i fun da => f da rb.d env1)
  | none, some j => wp F C a env (kE x fun ra env1 => peek env1 j fun db => f ra.d db env1)
  | none, none => wp F C a env (kE x fun ra env1 => wp F C b env1 (kE x fun rb env2 => f ra.d rb.d env2))
/-- an expression's value, kept as plain data -/
theorem SE.dat {n : N} {e : Expr} (ih : SE cf C F X E0 n e) {x : Xc → Ev → Prop} {f : PyData → Ev → Prop} (h : wp F C n env (kE x fun r env1 => f r.d env1)) (r : Rel X.K G H σ env as A) (xo : XO X cf E0 as G H A x) {Qv : VK}
    (q : ∀ G' H' A' env' v d, Fr G H A G' H' A' → Rel X.K G' H' σ env' as A' → Da X.K G' v d → f d env' → Qv v H') : wE X e σ H Qv := by
  refine ih env _ G H σ as A h r xo Qv fun G' H' A' env' v rr B p z => ?_
  obtain ⟨G2, f2, r2, d2⟩ := p.freeze
  exact q G2 H' A' env' v _ f2 r2 d2 z
theorem opd2_ok (ok : Ok cf C F top X E0) {a b : N} {e1 e2 : Expr} (iha : SE cf C F X E0 a e1) (ihb : SE cf C F X E0 b e2) (ha : chk cf a top X.env.scope (.e e1) = true) (hb : chk cf b top X.env.scope (.e e2) = true)
    {x : Xc → Ev → Prop} {f : PyData → PyData → Ev → Prop} (h : opdW F C a b env x f) (r : Rel X.K G H σ env as A) (xo : XO X cf E0 as G H A x) {P : V → V → Hp → Prop}
    (q : ∀ G' H' A' env' v1 v2 d1 d2, Fr G H A G' H' A' → Rel X.K G' H' σ env' as A' → Pk X.K G' H' v1 d1 → Pk X.K G' H' v2 d2 → f d1 d2 env' → P v1 v2 H') :
    wE X e1 σ H fun v1 H1 => wE X e2 σ H1 fun v2 H2 => P v1 v2 H2 := by
  unfold opdW at h
  split at h
  · rename_i i j hA hB
    cases N.isV_some hA; cases N.isV_some hB
    obtain ⟨d1, v1, s1, p1, h⟩ := r.peek h
    obtain ⟨d2, v2, s2, p2, h⟩ := r.peek h
    exact var_ok ok ha s1 (var_ok ok hb s2 (q G H A env v1 v2 d1 d2 (Fr.refl G H A) r p1 p2 h))
  · rename_i i hA hB
    cases N.isV_some hA
    obtain ⟨d1, v1, s1, p1, h⟩ := r.peek h
    refine var_ok ok ha s1 ?_
    refine ihb.dat (f := fun d env1 => peek env1 i fun da => f da d env1) h r xo fun G' H' A' env' v d f1 r1 dd z => ?_
    obtain ⟨d2, v2, s2, p2, z⟩ := r1.peek z
    rw [s1] at s2
    cases s2
    exact q G' H' A' env' _ v d2 d f1 r1 p2 (.inl dd) z
  · rename_i j hA hB
    cases N.isV_some hB
    refine iha.dat (f := fun d env1 => peek env1 j fun db => f d db env1) h r xo fun G' H' A' env' v d f1 r1 dd z => ?_
    obtain ⟨d2, v2, s2, p2, z⟩ := r1.peek z
    exact var_ok ok hb s2 (q G' H' A' env' v v2 d d2 f1 r1 (.inl dd) p2 z)
  · refine iha.dat (f := fun d env1 => wp F C b env1 (kE x fun rb env2 => f d rb.d env2)) h r xo fun G' H' A' env' v d f1 r1 dd z => ?_
    refine ihb.dat (f := fun d2 env2 => f d d2 env2) z r1 (xo.mono f1) fun G2 H2 A2 env2 v2 d2 f2 r2 dd2 z => ?_
    exact q G2 H2 A2 env2 v v2 d d2 (f1.trans f2) r2 (.inl (Da.le f2.gg dd)) (.inl dd2) z
def opdW1 (F : Fs) (C : Nat → Option PyData) (a : N) (env : Ev) (x : Xc → Ev → Prop) (f : PyData → Ev → Prop) : Prop :=
  match a.isV with
  | some i => peek env i fun d => f d env
  | none => wp F C a env (kE x fun r env1 => f r.d env1)
theorem opd1_ok (ok : Ok cf C F top X E0) {a : N} {e1 : Expr} (iha : SE cf C F X E0 a e1) (ha : chk cf a top X.env.scope (.e e1) = true)
    {x : Xc → Ev → Prop} {f : PyData → Ev → Prop} (h : opdW1 F C a env x f) (r : Rel X.K G H σ env as A) (xo : XO X cf E0 as G H A x) {P : V → Hp → Prop}
    (q : ∀ G' H' A' env' v1 d1, Fr G H A G' H' A' → Rel X.K G' H' σ env' as A' → Pk X.K G' H' v1 d1 → f d1 env' → P v1 H') : wE X e1 σ H fun v1 H1 => P v1 H1 := by
  unfold opdW1 at h
  split at h
  · rename_i i hA
    cases N.isV_some hA
    obtain ⟨d1, v1, s1, p1, h⟩ := r.peek h
    exact var_ok ok ha s1 (q G H A env v1 d1 (Fr.refl G H A) r p1 h)
  · exact iha.dat (f := f) h r xo fun G' H' A' env' v d f1 r1 dd z => q G' H' A' env' v d f1 r1 (.inl dd) z

/-! ### built-in functions by values -/
variable {v : V} {d : PyData}
theorem Pk.sq (s : Le G H) {ds : List PyData} (h : Pk K G H v (.list ds)) : ∃ p xs, v = .ref p ∧ SqL K H p xs ∧ DaAll K G xs ds := by
  exact h.list s
theorem b1W_ok (ok : Ok cf C F top X E0) {f : B1} (hcool : cf.hot = false ∨ coolB f = true) {k : R → Prop} (r : Rel X.K G H σ env as A) (hx : Pk X.K G H v d) (h : b1W f d k) {Qv : VK}
    (q : ∀ G' H' v r B, Po X.K as σ G H A G' H' σ env A v r B → k r → Qv v H') :
    ∀ w, b1V f = some w → wCl X w [v] H Qv := by
  intro w hw
  unfold b1W at h
  split at h
  · cases hw
    obtain ⟨p, xs, rfl, h1, h2⟩ := hx.sq r.sub
    refine wCl_of call_len ⟨_, xs.length, rfl, .inl ⟨xs, h1, rfl⟩, ?_⟩
    rw [h2.length]
    exact q _ _ _ _ _ (Po.same r (.int _)) h
  · cases hw
    obtain ⟨p, xs, rfl, h1, h2, _⟩ := hx.tup r.sub
    refine wCl_of call_len ⟨_, xs.length, rfl, .inr ⟨xs, h1, rfl⟩, ?_⟩
    rw [h2.length]
    exact q _ _ _ _ _ (Po.same r (.int _)) h
  · cases hw
    cases hx.str
    exact wCl_of call_len ⟨_, _, rfl, ⟨h.1, rfl⟩, q _ _ _ _ _ (Po.same r (.int _)) h.2⟩
  · cases hw
    cases hx.int
    exact wCl_of call_int1 (.inl ⟨_, rfl, q _ _ _ _ _ (Po.same r (.int _)) h⟩)
  · cases hw
    cases hx.bl
    exact wCl_of call_int1 (.inr ⟨_, rfl, q _ _ _ _ _ (Po.same r (.int _)) h⟩)
  · cases hw
    cases hx.int
    exact wCl_of call_abs ⟨_, rfl, q _ _ _ _ _ (Po.same r (.int _)) h⟩
  · cases hw
    obtain ⟨p, xs, rfl, h1, h2⟩ := hx.sq r.sub
    exact wCl_of call_list_of ⟨p, xs, rfl, .inl h1, fun l hl => q _ _ _ _ _ (Po.newL r hl h2) h⟩
  · cases hw
    obtain ⟨p, xs, rfl, h1, h2, _⟩ := hx.tup r.sub
    exact wCl_of call_list_of ⟨p, xs, rfl, .inr h1, fun l hl => q _ _ _ _ _ (Po.newL r hl h2) h⟩
  · cases hw
    obtain ⟨p, xs, rfl, h1, h2⟩ := hx.sq r.sub
    exact wCl_of call_tuple_of ⟨p, xs, rfl, .inl ⟨h1, fun l hl => q _ _ _ _ _ (Po.newT r hl h2) h⟩⟩
  · cases hw
    obtain ⟨p, xs, rfl, h1, h2, h3⟩ := hx.tup r.sub
    exact wCl_of call_tuple_of ⟨p, xs, rfl, .inr ⟨h1, q _ _ _ _ _ (Po.same r h3) h⟩⟩
  · cases hw
    obtain ⟨ns, rfl, h⟩ := h
    obtain ⟨p, xs, rfl, h1, h2⟩ := hx.sq r.sub
    rw [h2.ints] at h1
    exact wCl_of (cr_sum (ok.calm (hcool.resolve_right (by decide)))) ⟨p, ns, rfl, h1, q _ _ _ _ _ (Po.same r (.int _)) h⟩
  · cases hw
    obtain ⟨ns, rfl, hz, h⟩ := h
    obtain ⟨p, xs, rfl, h1, h2⟩ := hx.sq r.sub
    rw [h2.ints] at h1
    exact wCl_of (cr_max (ok.calm (hcool.resolve_right (by decide)))) ⟨p, ns, rfl, h1, hz, fun m hm hl => q _ _ _ _ _ (Po.same r (.int _)) (h m hm hl)⟩
  · cases hw
    obtain ⟨ns, rfl, hz, h⟩ := h
    obtain ⟨p, xs, rfl, h1, h2⟩ := hx.sq r.sub
    rw [h2.ints] at h1
    exact wCl_of (cr_min (ok.calm (hcool.resolve_right (by decide)))) ⟨p, ns, rfl, h1, hz, fun m hm hl => q _ _ _ _ _ (Po.same r (.int _)) (h m hm hl)⟩
  · cases hw
    obtain ⟨ns, rfl, h⟩ := h
    obtain ⟨p, xs, rfl, h1, h2⟩ := hx.sq r.sub
    rw [h2.ints] at h1
    refine wCl_of cr_sortedI ⟨p, ns, rfl, h1, fun ns' l p1 p2 hl => q _ _ _ _ _ (Po.newL r hl ?_) (h ns' p1 p2)⟩
    clear h p1 p2
    induction ns' with
    | nil => exact .nil
    | cons a t ih => exact .cons (.int a) ih
  · cases hw
    obtain ⟨h1, h2, h3, h4, h5⟩ := h
    exact wCl_of (cr_repr ok.gd ok.units) ⟨v, _, rfl, hx.da r.sub, h1, h2, h3, h4, q _ _ _ _ _ (Po.same r (.str _)) h5⟩
  · cases hw
    cases hx.int
    exact wCl_of call_str_int ⟨_, rfl, h.1, q _ _ _ _ _ (Po.same r (.str _)) h.2⟩
  · cases hw
    cases hx.str
    exact wCl_of cr_str1 ⟨_, rfl, q _ _ _ _ _ (Po.same r (.str _)) h⟩
  · cases hw
    cases hx.bl
    exact wCl_of call_bool1 (.inr ⟨_, rfl, q _ _ _ _ _ (Po.same r (.bl _)) h⟩)
  · cases hw
    obtain ⟨ns, rfl, h⟩ := h
    obtain ⟨p, xs, rfl, h1, h2⟩ := hx.sq r.sub
    rw [h2.bls] at h1
    exact wCl_of (cr_any (ok.calm (hcool.resolve_right (by decide)))) ⟨p, ns, rfl, h1, q _ _ _ _ _ (Po.same r (.bl _)) h⟩
  · cases hw
    obtain ⟨ns, rfl, h⟩ := h
    obtain ⟨p, xs, rfl, h1, h2⟩ := hx.sq r.sub
    rw [h2.bls] at h1
    exact wCl_of (cr_all (ok.calm (hcool.resolve_right (by decide)))) ⟨p, ns, rfl, h1, q _ _ _ _ _ (Po.same r (.bl _)) h⟩
  · exact h.elim
/-- the type of plain data -/
def tyD : PyData → String
  | .none => "NoneType" | .bool _ => "bool" | .int _ => "int" | .str _ => "str" | .list _ => "list" | .tuple _ => "tuple" | .dict _ => "dict"
theorem tyx_of (s : Le G H) (h0 : Pk K G H v d) : TyX K H v (.type (tyD d)) := by
  have h1 := h0.da s
  cases h1 with
  | non => exact .base .non
  | bl b => exact .base (.bl b)
  | int i => exact .base (.int i)
  | str x => exact .base (.str x)
  | lst h2 a =>
    rcases h2 with (h2 | ⟨o, h2⟩) | ⟨o, its, n, h2, hc, _⟩
    · exact .base (.lst h2)
    · exact .base (.frz h2)
    · exact .kList h2 hc
  | tup h2 a =>
    rcases h2 with (h2 | ⟨o, h2⟩) | ⟨o, its, n, h2, hc, _⟩
    · exact .base (.tup h2)
    · exact .fTuple h2
    · exact .kTuple h2 hc
def tyS : TY → String
  | .int => "int" | .bool => "bool" | .str => "str" | .list => "list" | .tuple => "tuple" | .non => "NoneType"
theorem mro_none : PySem.fastBuiltinMro "NoneType" = some [.type "NoneType", .type "object"] := by decide +kernel
theorem mro_bool : PySem.fastBuiltinMro "bool" = some [.type "bool", .type "int", .type "object"] := by decide +kernel
theorem mro_int : PySem.fastBuiltinMro "int" = some [.type "int", .type "object"] := by decide +kernel
theorem mro_str : PySem.fastBuiltinMro "str" = some [.type "str", .type "object"] := by decide +kernel
theorem mro_list : PySem.fastBuiltinMro "list" = some [.type "list", .type "object"] := by decide +kernel
theorem mro_tuple : PySem.fastBuiltinMro "tuple" = some [.type "tuple", .type "object"] := by decide +kernel
theorem kim_int : PySem.W.kitMeta "int" = true := by decide +kernel
theorem kim_bool : PySem.W.kitMeta "bool" = true := by decide +kernel
theorem kim_str : PySem.W.kitMeta "str" = true := by decide +kernel
theorem kim_list : PySem.W.kitMeta "list" = true := by decide +kernel
theorem kim_tuple : PySem.W.kitMeta "tuple" = true := by decide +kernel
theorem kitB_by {a b : String} {l : List Value} (h1 : PySem.fastBuiltinMro a = some l) (h2 : PySem.W.kitMeta b = true) : kitB a b = if (Value.type a == Value.type b) = true then some true else some (l.contains (Value.type b)) := by
  unfold kitB
  rw [h1, h2]
  rfl
theorem kitB_ty (a : PyData) (h : ∀ kvs, a ≠ .dict kvs) (t : TY) (ht : t ≠ .non) : kitB (tyD a) (tyS t) = some (isTy a t) := by
  cases a <;> first | exact absurd rfl (h _) | skip
  · cases t <;> first | exact absurd rfl ht | (rw [show tyD .none = "NoneType" from rfl]; first | (rw [show tyS .int = "int" from rfl, kitB_by mro_none kim_int]; decide) | (rw [show tyS .bool = "bool" from rfl, kitB_by mro_none kim_bool]; decide) | (rw [show tyS .str = "str" from rfl, kitB_by mro_none kim_str]; decide) | (rw [show tyS .list = "list" from rfl, kitB_by mro_none kim_list]; decide) | (rw [show tyS .tuple = "tuple" from rfl, kitB_by mro_none kim_tuple]; decide))
  all_goals rename_i z
  · rw [show tyD (.bool z) = "bool" from rfl]
    cases t <;> first | exact absurd rfl ht | (first | (rw [show tyS .int = "int" from rfl, kitB_by mro_bool kim_int, show isTy (.bool z) .int = true from rfl]; decide) | (rw [show tyS .bool = "bool" from rfl, kitB_by mro_bool kim_bool, show isTy (.bool z) .bool = true from rfl]; decide) | (rw [show tyS .str = "str" from rfl, kitB_by mro_bool kim_str, show isTy (.bool z) .str = false from rfl]; decide) | (rw [show tyS .list = "list" from rfl, kitB_by mro_bool kim_list, show isTy (.bool z) .list = false from rfl]; decide) | (rw [show tyS .tuple = "tuple" from rfl, kitB_by mro_bool kim_tuple, show isTy (.bool z) .tuple = false from rfl]; decide))
  · rw [show tyD (.int z) = "int" from rfl]
    cases t <;> first | exact absurd rfl ht | (first | (rw [show tyS .int = "int" from rfl, kitB_by mro_int kim_int, show isTy (.int z) .int = true from rfl]; decide) | (rw [show tyS .bool = "bool" from rfl, kitB_by mro_int kim_bool, show isTy (.int z) .bool = false from rfl]; decide) | (rw [show tyS .str = "str" from rfl, kitB_by mro_int kim_str, show isTy (.int z) .str = false from rfl]; decide) | (rw [show tyS .list = "list" from rfl, kitB_by mro_int kim_list, show isTy (.int z) .list = false from rfl]; decide) | (rw [show tyS .tuple = "tuple" from rfl, kitB_by mro_int kim_tuple, show isTy (.int z) .tuple = false from rfl]; decide))
  · rw [show tyD (.str z) = "str" from rfl]
    cases t <;> first | exact absurd rfl ht | (first | (rw [show tyS .int = "int" from rfl, kitB_by mro_str kim_int, show isTy (.str z) .int = false from rfl]; decide) | (rw [show tyS .bool = "bool" from rfl, kitB_by mro_str kim_bool, show isTy (.str z) .bool = false from rfl]; decide) | (rw [show tyS .str = "str" from rfl, kitB_by mro_str kim_str, show isTy (.str z) .str = true from rfl]; decide) | (rw [show tyS .list = "list" from rfl, kitB_by mro_str kim_list, show isTy (.str z) .list = false from rfl]; decide) | (rw [show tyS .tuple = "tuple" from rfl, kitB_by mro_str kim_tuple, show isTy (.str z) .tuple = false from rfl]; decide))
  · rw [show tyD (.list z) = "list" from rfl]
    cases t <;> first | exact absurd rfl ht | (first | (rw [show tyS .int = "int" from rfl, kitB_by mro_list kim_int, show isTy (.list z) .int = false from rfl]; decide) | (rw [show tyS .bool = "bool" from rfl, kitB_by mro_list kim_bool, show isTy (.list z) .bool = false from rfl]; decide) | (rw [show tyS .str = "str" from rfl, kitB_by mro_list kim_str, show isTy (.list z) .str = false from rfl]; decide) | (rw [show tyS .list = "list" from rfl, kitB_by mro_list kim_list, show isTy (.list z) .list = true from rfl]; decide) | (rw [show tyS .tuple = "tuple" from rfl, kitB_by mro_list kim_tuple, show isTy (.list z) .tuple = false from rfl]; decide))
  · rw [show tyD (.tuple z) = "tuple" from rfl]
    cases t <;> first | exact absurd rfl ht | (first | (rw [show tyS .int = "int" from rfl, kitB_by mro_tuple kim_int, show isTy (.tuple z) .int = false from rfl]; decide) | (rw [show tyS .bool = "bool" from rfl, kitB_by mro_tuple kim_bool, show isTy (.tuple z) .bool = false from rfl]; decide) | (rw [show tyS .str = "str" from rfl, kitB_by mro_tuple kim_str, show isTy (.tuple z) .str = false from rfl]; decide) | (rw [show tyS .list = "list" from rfl, kitB_by mro_tuple kim_list, show isTy (.tuple z) .list = false from rfl]; decide) | (rw [show tyS .tuple = "tuple" from rfl, kitB_by mro_tuple kim_tuple, show isTy (.tuple z) .tuple = true from rfl]; decide))
end
end Pi

namespace Pi
open PySem L2 PySem.Spec PyProof.Rows
def IH (cf : Cf) (C : Nat → Option PyData) (F : Fs) (n : N) : Prop := ∀ {top : Bool} {X : Cx} {E0 : WX}, Ok cf C F top X E0 → ∀ ast, chk cf n top X.env.scope ast = true → Snd cf C F X E0 n ast
section
variable {cf : Cf} {C : Nat → Option PyData} {F : Fs}
theorem s_v {i : Nat} : IH cf C F (.v i) := by
  intro top X E0 ok ast h
  obtain ⟨x, p, rfl, h'⟩ := inv_v h
  intro env k G H σ as A hw r xo Qv q
  have hw : take env i k.e := hw
  unfold take at hw
  split at hw
  · rename_i d e
    obtain ⟨_, v, h1, h2⟩ := r.sl i _ e
    exact var_ok ok h h1 (q _ _ _ _ _ _ _ (Po.same r h2) hw)
  · rename_i ds e
    obtain ⟨G2, A2, v, h1, f2, r2, d2⟩ := r.freeze e
    exact var_ok ok h h1 (q _ _ _ _ _ _ _ ((Po.same r2 d2).pre f2) hw)
  · exact hw.elim
theorem s_g {c : Nat} : IH cf C F (.g c) := by
  intro top X E0 ok ast h
  obtain ⟨x, p, rfl, h'⟩ := inv_g h
  replace h := h'
  simp only [Bool.and_eq_true, beq_iff_eq] at h
  obtain ⟨⟨h1, h2⟩, h3⟩ := h
  intro env k G H σ as A hw r xo Qv q
  have hw : (match C c with | some d => k.e (.dat d) env | none => False) := hw
  split at hw
  · rename_i d e
    obtain ⟨u, v, m, rv, dv⟩ := ok.cn c d e
    rw [h1] at m
    exact wE_of (pe_glob (glB_of h2) m rv (okN_of h3).1) (q _ _ _ _ _ _ _ (Po.same r (Da.le (fun _ _ e => by cases e) dv)) hw)
  · exact hw.elim
theorem s_c {d : PyData} : IH cf C F (.c d) := by
  intro top X E0 ok ast h
  obtain ⟨c, j, p, rfl, h'⟩ := inv_c h
  replace h := h'
  intro env k G H σ as A hw r xo Qv q
  have hw : k.e (.dat d) env := hw
  unfold constB at h
  split at h
  · exact wE_of pe_non (q _ _ _ _ _ _ _ (Po.same r .non) hw)
  · cases beq_iff_eq.mp h
    exact wE_of pe_bl (q _ _ _ _ _ _ _ (Po.same r (.bl _)) hw)
  · cases beq_iff_eq.mp h
    exact wE_of pe_int (q _ _ _ _ _ _ _ (Po.same r (.int _)) hw)
  · cases beq_iff_eq.mp h
    exact wE_of pe_str (q _ _ _ _ _ _ _ (Po.same r (.str _)) hw)
  · cases h
theorem s_bin {o : BO} {a b : N} (iha : IH cf C F a) (ihb : IH cf C F b) : IH cf C F (.bin o a b) := by
  intro top X E0 ok ast h
  obtain ⟨l, op, r, p, rfl, h'⟩ := inv_bin h
  replace h := h'
  simp only [Bool.and_eq_true] at h
  obtain ⟨⟨h1, h2⟩, h3⟩ := h
  intro env k G H σ as A hw rr xo Qv q
  have hw : opdW F C a b env k.x (fun x y e => binW o x y fun r => k.e r e) := hw
  refine wE_of (pe_op op_w pe_w pe_w) ?_
  refine opd2_ok ok (iha ok _ h2) (ihb ok _ h3) h2 h3 hw rr xo fun G' H' A' env' v1 v2 d1 d2 f' r' p1 p2 z => ?_
  exact binW_ok h1 r' p1 p2 z fun G2 H2 v rs B po ke => q _ _ _ _ _ _ _ (po.pre f') ke
theorem s_neg {a : N} (iha : IH cf C F a) : IH cf C F (.neg a) := by
  intro top X E0 ok ast h
  obtain ⟨x, p, rfl, h'⟩ := inv_neg h
  replace h := h'
  intro env k G H σ as A hw rr xo Qv q
  have hw : wp F C a env (kE k.x fun r env1 => intW r.d fun i => k.e (.dat (.int (-i))) env1) := hw
  refine wE_of (pe_un un_neg pe_w) ?_
  refine (iha ok _ h).dat (f := fun d env1 => intW d fun i => k.e (.dat (.int (-i))) env1) hw rr xo fun G' H' A' env' v d f' r' dd z => ?_
  unfold intW at z
  split at z
  · cases dd
    exact ⟨_, rfl, q _ _ _ _ _ _ _ ((Po.same r' (.int _)).pre f') z⟩
  · exact z.elim
theorem s_cmp {o : CO} {a b : N} (iha : IH cf C F a) (ihb : IH cf C F b) : IH cf C F (.cmp o a b) := by
  intro top X E0 ok ast h
  obtain ⟨l, op, r, p, rfl, h'⟩ := inv_cmp h
  replace h := h'
  simp only [Bool.and_eq_true] at h
  obtain ⟨⟨⟨h1, hs⟩, h2⟩, h3⟩ := h
  intro env k G H σ as A hw rr xo Qv q
  have hw : opdW F C a b env k.x (fun x y e => cmpW o x y fun r => k.e (.dat (.bool r)) e) := hw
  refine wE_of (pe_cmpR op_w pe_w pe_w (behind_none hs)) ?_
  refine opd2_ok ok (iha ok _ h2) (ihb ok _ h3) h2 h3 hw rr xo fun G' H' A' env' v1 v2 d1 d2 f' r' p1 p2 z => ?_
  exact cmpW_ok h1 (by have := ok.units; omega) r'.sub p1 p2 z fun b kb => q _ _ _ _ _ _ _ ((Po.same r' (.bl b)).pre f') kb
theorem s_tcmp {o : CO} {a b : N} (iha : IH cf C F a) (ihb : IH cf C F b) : IH cf C F (.tcmp o a b) := by
  intro top X E0 ok ast h
  obtain ⟨l, op, r, p, rfl, h'⟩ := inv_tcmp h
  replace h := h'
  simp only [Bool.and_eq_true] at h
  obtain ⟨⟨⟨h1, hs⟩, h2⟩, h3⟩ := h
  intro env k G H σ as A hw rr xo Qv q
  have hw : opdW F C a b env k.x (fun x y e => cmpW o x y fun r => k.t r e) := hw
  refine wT_of (pt_cmpR op_w pe_w pe_w (behind_none hs)) ?_
  refine opd2_ok ok (iha ok _ h2) (ihb ok _ h3) h2 h3 hw rr xo fun G' H' A' env' v1 v2 d1 d2 f' r' p1 p2 z => ?_
  exact cmpW_ok h1 (by have := ok.units; omega) r'.sub p1 p2 z fun b kb => ⟨b, rfl, q _ _ _ _ _ f' r' kb⟩
theorem lm_none {op op' : CmpOp} {m r : Expr} (h : noSet r = true) : lastMarks [op, op'] [m, r] = false := by
  show behindInMarks op' r = false
  exact behind_none h
theorem bothT {p q : Prop} (h : bothW true p q) : p := h
theorem bothF {p q : Prop} (h : bothW false p q) : q := h
theorem s_chain {o o' : CO} {a b c : N} (iha : IH cf C F a) (ihb : IH cf C F b) (ihc : IH cf C F c) : IH cf C F (.chain o o' a b c) := by
  intro top X E0 ok ast h
  obtain ⟨l, op, op', m, r, p, rfl, h'⟩ := inv_chain h
  replace h := h'
  simp only [Bool.and_eq_true] at h
  obtain ⟨⟨⟨⟨⟨h1, h2⟩, hs⟩, h3⟩, h4⟩, h5⟩ := h
  intro env k G H σ as A hw rr xo Qv q
  have hw : wp F C a env (kE k.x fun ra env1 => wp F C b env1 (kE k.x fun rb env2 => cmpW o ra.d rb.d fun t =>
      bothW t (wp F C c env2 (kE k.x fun rc env3 => cmpW o' rb.d rc.d fun u => k.e (.dat (.bool u)) env3)) (k.e (.dat (.bool false)) env2))) := hw
  refine wE_of (pe_chain (op_w (f := compareOp op)) (op_w (f := compareOp op')) pe_w pe_w pe_w (lm_none hs)) ?_
  refine (iha ok _ h3).dat (f := fun d env1 => wp F C b env1 (kE k.x fun rb env2 => cmpW o d rb.d fun t =>
      bothW t (wp F C c env2 (kE k.x fun rc env3 => cmpW o' rb.d rc.d fun u => k.e (.dat (.bool u)) env3)) (k.e (.dat (.bool false)) env2))) hw rr xo fun G1 H1 A1 env1 v1 d1 f1 r1 dd1 z => ?_
  refine (ihb ok _ h4).dat (f := fun d env2 => cmpW o d1 d fun t =>
      bothW t (wp F C c env2 (kE k.x fun rc env3 => cmpW o' d rc.d fun u => k.e (.dat (.bool u)) env3)) (k.e (.dat (.bool false)) env2)) z r1 (xo.mono f1) fun G2 H2 A2 env2 v2 d2 f2 r2 dd2 z => ?_
  refine cmpW_ok h1 (by have := ok.units; omega) r2.sub (.inl (Da.le f2.gg dd1)) (.inl dd2) z fun t z => ⟨t, rfl, ?_⟩
  cases t with
  | true =>
    refine iteT ?_
    refine (ihc ok _ h5).dat (f := fun d env3 => cmpW o' d2 d fun u => k.e (.dat (.bool u)) env3) (bothT z) r2 (xo.mono (f1.trans f2)) fun G3 H3 A3 env3 v3 d3 f3 r3 dd3 z => ?_
    exact cmpW_ok h2 (by have := ok.units; omega) r3.sub (.inl (Da.le f3.gg dd2)) (.inl dd3) z fun u z => q _ _ _ _ _ _ _ ((Po.same r3 (.bl u)).pre ((f1.trans f2).trans f3)) z
  | false =>
    refine iteF ?_
    exact q _ _ _ _ _ _ _ ((Po.same r2 (.bl false)).pre (f1.trans f2)) (bothF z)
theorem s_tchain {o o' : CO} {a b c : N} (iha : IH cf C F a) (ihb : IH cf C F b) (ihc : IH cf C F c) : IH cf C F (.tchain o o' a b c) := by
  intro top X E0 ok ast h
  obtain ⟨l, op, op', m, r, p, rfl, h'⟩ := inv_tchain h
  replace h := h'
  simp only [Bool.and_eq_true] at h
  obtain ⟨⟨⟨⟨⟨h1, h2⟩, hs⟩, h3⟩, h4⟩, h5⟩ := h
  intro env k G H σ as A hw rr xo Qv q
  have hw : wp F C a env (kE k.x fun ra env1 => wp F C b env1 (kE k.x fun rb env2 => cmpW o ra.d rb.d fun t =>
      bothW t (wp F C c env2 (kE k.x fun rc env3 => cmpW o' rb.d rc.d fun u => k.t u env3)) (k.t false env2))) := hw
  refine wT_of (pt_chain (op_w (f := compareOp op)) (op_w (f := compareOp op')) pe_w pe_w pe_w (lm_none hs)) ?_
  refine (iha ok _ h3).dat (f := fun d env1 => wp F C b env1 (kE k.x fun rb env2 => cmpW o d rb.d fun t =>
      bothW t (wp F C c env2 (kE k.x fun rc env3 => cmpW o' rb.d rc.d fun u => k.t u env3)) (k.t false env2))) hw rr xo fun G1 H1 A1 env1 v1 d1 f1 r1 dd1 z => ?_
  refine (ihb ok _ h4).dat (f := fun d env2 => cmpW o d1 d fun t =>
      bothW t (wp F C c env2 (kE k.x fun rc env3 => cmpW o' d rc.d fun u => k.t u env3)) (k.t false env2)) z r1 (xo.mono f1) fun G2 H2 A2 env2 v2 d2 f2 r2 dd2 z => ?_
  refine cmpW_ok h1 (by have := ok.units; omega) r2.sub (.inl (Da.le f2.gg dd1)) (.inl dd2) z fun t z => ⟨t, rfl, ?_⟩
  cases t with
  | true =>
    refine iteT ?_
    refine (ihc ok _ h5).dat (f := fun d env3 => cmpW o' d2 d fun u => k.t u env3) (bothT z) r2 (xo.mono (f1.trans f2)) fun G3 H3 A3 env3 v3 d3 f3 r3 dd3 z => ?_
    exact cmpW_ok h2 (by have := ok.units; omega) r3.sub (.inl (Da.le f3.gg dd2)) (.inl dd3) z fun u z => ⟨u, rfl, q _ _ _ _ _ ((f1.trans f2).trans f3) r3 z⟩
  | false =>
    refine iteF ?_
    exact ⟨false, rfl, q _ _ _ _ _ (f1.trans f2) r2 (bothF z)⟩
theorem s_nott {a : N} (iha : IH cf C F a) : IH cf C F (.nott a) := by
  intro top X E0 ok ast h
  obtain ⟨x, p, rfl, h'⟩ := inv_nott h
  replace h := h'
  intro env k G H σ as A hw rr xo Qv q
  have hw : wp F C a env (kE k.x fun r env1 => boolW r.d fun b => k.e (.dat (.bool (!b))) env1) := hw
  refine wE_of (pe_not pe_w) ?_
  refine (iha ok _ h).dat (f := fun d env1 => boolW d fun b => k.e (.dat (.bool (!b))) env1) hw rr xo fun G' H' A' env' v d f' r' dd z => ?_
  unfold boolW at z
  split at z
  · cases dd
    exact ⟨_, rfl, q _ _ _ _ _ _ _ ((Po.same r' (.bl _)).pre f') z⟩
  · exact z.elim
theorem s_andd {a b : N} (iha : IH cf C F a) (ihb : IH cf C F b) : IH cf C F (.andd a b) := by
  intro top X E0 ok ast h
  obtain ⟨x, y, r, p, rfl, h'⟩ := inv_andd h
  replace h := h'
  simp only [Bool.and_eq_true] at h
  intro env k G H σ as A hw rr xo Qv q
  have hw : wp F C a env (kE k.x fun r env1 => boolW r.d fun t => bothW t (wp F C b env1 k) (k.e (.dat (.bool false)) env1)) := hw
  refine wE_of (pe_and pe_w pe_w) ?_
  refine (iha ok _ h.1).dat (f := fun d env1 => boolW d fun t => bothW t (wp F C b env1 k) (k.e (.dat (.bool false)) env1)) hw rr xo fun G' H' A' env' v d f' r' dd z => ?_
  unfold boolW at z
  split at z
  · rename_i c
    cases dd
    refine ⟨c, rfl, ?_⟩
    cases c with
    | true => exact iteT (ihb ok _ h.2 env' k G' H' σ as A' (bothT z) r' (xo.mono f') Qv fun G2 H2 A2 env2 v r B po z => q _ _ _ _ _ _ _ (po.pre f') z)
    | false => exact iteF (q _ _ _ _ _ _ _ ((Po.same r' (.bl _)).pre f') (bothF z))
  · exact z.elim
theorem s_orr {a b : N} (iha : IH cf C F a) (ihb : IH cf C F b) : IH cf C F (.orr a b) := by
  intro top X E0 ok ast h
  obtain ⟨x, y, r, p, rfl, h'⟩ := inv_orr h
  replace h := h'
  simp only [Bool.and_eq_true] at h
  intro env k G H σ as A hw rr xo Qv q
  have hw : wp F C a env (kE k.x fun r env1 => boolW r.d fun t => bothW t (k.e (.dat (.bool true)) env1) (wp F C b env1 k)) := hw
  refine wE_of (pe_or pe_w pe_w) ?_
  refine (iha ok _ h.1).dat (f := fun d env1 => boolW d fun t => bothW t (k.e (.dat (.bool true)) env1) (wp F C b env1 k)) hw rr xo fun G' H' A' env' v d f' r' dd z => ?_
  unfold boolW at z
  split at z
  · rename_i c
    cases dd
    refine ⟨c, rfl, ?_⟩
    cases c with
    | true => exact iteT (q _ _ _ _ _ _ _ ((Po.same r' (.bl _)).pre f') (bothT z))
    | false => exact iteF (ihb ok _ h.2 env' k G' H' σ as A' (bothF z) r' (xo.mono f') Qv fun G2 H2 A2 env2 v r B po z => q _ _ _ _ _ _ _ (po.pre f') z)
  · exact z.elim
theorem s_one {a : N} (iha : IH cf C F a) : IH cf C F (.one a) := by
  intro top X E0 ok ast h
  obtain ⟨op, x, p, rfl, h'⟩ := inv_one h
  replace h := h'
  intro env k G H σ as A hw rr xo Qv q
  have hw : wp F C a env k := hw
  exact wE_of (pe_one pe_w) (iha ok _ h env k G H σ as A hw rr xo Qv q)
theorem s_ite {t a b : N} (iht : IH cf C F t) (iha : IH cf C F a) (ihb : IH cf C F b) : IH cf C F (.ite t a b) := by
  intro top X E0 ok ast h
  obtain ⟨c, x, y, p, rfl, h'⟩ := inv_ite h
  replace h := h'
  simp only [Bool.and_eq_true] at h
  obtain ⟨⟨h1, h2⟩, h3⟩ := h
  intro env k G H σ as A hw rr xo Qv q
  have hw : wp F C t env (kT k.x fun c env1 => bothW c (wp F C a env1 k) (wp F C b env1 k)) := hw
  refine wE_of (pe_ifExp pt_w pe_w pe_w) ?_
  refine iht ok _ h1 env _ G H σ as A hw rr xo _ fun G' H' A' env' c f' r' z => ?_
  have z : bothW c (wp F C a env' k) (wp F C b env' k) := z
  cases c with
  | true => exact iteT (iha ok _ h2 env' k G' H' σ as A' (bothT z) r' (xo.mono f') Qv fun G2 H2 A2 env2 v r B po z => q _ _ _ _ _ _ _ (po.pre f') z)
  | false => exact iteF (ihb ok _ h3 env' k G' H' σ as A' (bothF z) r' (xo.mono f') Qv fun G2 H2 A2 env2 v r B po z => q _ _ _ _ _ _ _ (po.pre f') z)
end
end Pi

namespace Pi
open PySem L2 PySem.Spec PyProof.Rows
theorem Paired.imp {α β : Type} {F G : α → β → Prop} (f : ∀ a b, F a b → G a b) : ∀ {l : List α} {m : List β}, Paired F l m → Paired G l m
  | _, _, .nil => .nil
  | _, _, .cons h t => .cons (f _ _ h) (Paired.imp f t)
theorem plain_args {cf : Cf} {top : Bool} {sc : Scope} : ∀ {xs : List Expr} {n : N}, chk cf n top sc (.a xs) = true → xs.all noStar = true
  | [], _, _ => rfl
  | x :: xs, n, h => by
    cases n <;> first | exact absurd h Bool.false_ne_true | skip
    · obtain ⟨y, ys, e, h⟩ := inv_cons h
      cases e
      simp only [Bool.and_eq_true] at h
      rw [List.all_cons, h.1.1, plain_args h.2]
      rfl
    · obtain ⟨y, p, ys, e, h⟩ := inv_consM h
      cases e
      simp only [Bool.and_eq_true] at h
      rw [List.all_cons, plain_args h.2]
      rfl
theorem star_all {env : Env} : ∀ {xs : List Expr}, xs.all noStar = true → ∀ pos, (backTo pos (starEach xs env)).any (·.1) = false
  | [], _, _ => rfl
  | x :: xs, h, pos => by
    rw [List.all_cons, Bool.and_eq_true] at h
    rw [star1 h.1]
    have := star_all (env := env) h.2 pos
    unfold backTo at this ⊢
    rw [List.map_cons, List.any_cons, this]
    rfl
/-! ### the places of a call's changed arguments -/
section
variable {K : PySem.W.Frag} {G H G' H' : Hp} {σ : L2.St} {env : Ev} {as : As} {A : Ft}
theorem ag_ok (r : Rel K G H σ env as A) : ∀ {vs : List V} {l : List (Sum PyData Nat)} {ags : List Ag}, Paired (ArR K G σ) vs l → agOf env l = some ags → nodupB (mutsOf l) = true →
    ∃ ps, AgR K G H vs ags ps ∧ Paired (fun p i => σ[i]? = some (some (.ref p)) ∧ (∀ b, A i b ↔ b = p) ∧ ((∃ ds, env[i]? = some (.own ds)) ∨ ∃ m ds, env[i]? = some (.mu m ds))) ps (mutsOf l)
  | _, _, _, .nil, e, _ => by
    cases e
    exact ⟨[], .nil, .nil⟩
  | v :: vs, .inl d :: l, _, .cons h t, e, nd => by
    have e : (agOf env l).map (Ag.d d :: ·) = some _ := e
    rw [Option.map_eq_some_iff] at e
    obtain ⟨ags, e1, rfl⟩ := e
    obtain ⟨ps, h1, h2⟩ := ag_ok r t e1 nd
    exact ⟨ps, .d h h1, h2⟩
  | v :: vs, .inr i :: l, _, .cons h t, e, nd => by
    have nd : (!(mutsOf l).contains i && nodupB (mutsOf l)) = true := nd
    rw [Bool.and_eq_true] at nd
    have h : σ[i]? = some (some v) := h
    have fin : ∀ {ags : List Ag} {ds : List PyData}, (env[i]? = some (.own ds) ∨ ∃ m, env[i]? = some (.mu m ds)) → agOf env l = some ags → ∃ ps, AgR K G H (v :: vs) (.m ds :: ags) ps ∧
        Paired (fun p i => σ[i]? = some (some (.ref p)) ∧ (∀ b, A i b ↔ b = p) ∧ ((∃ ds, env[i]? = some (.own ds)) ∨ ∃ m ds, env[i]? = some (.mu m ds))) ps (i :: mutsOf l) := by
      intro ags ds hs e1
      obtain ⟨ps, h1, h2⟩ := ag_ok r t e1 nd.2
      obtain ⟨p, q1, q2, q3⟩ := r.lst hs
      rw [q1] at h
      cases h
      refine ⟨p :: ps, .m q3 (fun hm => ?_) h1, .cons ⟨q1, q2, ?_⟩ h2⟩
      · -- two names never share an own list
        have key : ∀ {ps : List Addr} {is : List Nat}, Paired (fun p i => σ[i]? = some (some (.ref p)) ∧ (∀ b, A i b ↔ b = p) ∧ ((∃ ds, env[i]? = some (.own ds)) ∨ ∃ m ds, env[i]? = some (.mu m ds))) ps is → p ∈ ps → ∃ j ∈ is, A j p := by
          intro ps is z
          induction z with
          | nil => intro h; cases h
          | cons a _ ih =>
            intro h
            rcases List.mem_cons.mp h with rfl | h
            · exact ⟨_, List.mem_cons_self, (a.2.1 _).mpr rfl⟩
            · obtain ⟨j, h3, h4⟩ := ih h
              exact ⟨j, List.mem_cons_of_mem _ h3, h4⟩
        obtain ⟨j, h3, h4⟩ := key h2 hm
        have := r.ap i j p ((q2 p).mpr rfl) h4
        subst this
        have nc := nd.1
        rw [List.contains_iff_mem.mpr h3] at nc
        cases nc
      · rcases hs with h | ⟨m, h⟩
        · exact .inl ⟨_, h⟩
        · exact .inr ⟨m, _, h⟩
    unfold agOf at e
    split at e
    · rename_i ds hs
      rw [Option.map_eq_some_iff] at e
      obtain ⟨ags, e1, rfl⟩ := e
      exact fin (.inl hs) e1
    · rename_i m ds hs
      rw [Option.map_eq_some_iff] at e
      obtain ⟨ags, e1, rfl⟩ := e
      exact fin (.inr ⟨m, hs⟩) e1
    · cases e
theorem putM_get {i j : Nat} {ds : List PyData} {s : Sl} (h : (putM env i ds)[j]? = some s) : (j ≠ i ∧ env[j]? = some s) ∨ (j = i ∧ ((∃ d0, env[i]? = some (.own d0) ∧ s = .own ds) ∨ (∃ m d0, env[i]? = some (.mu m d0) ∧ s = .mu m ds) ∨ ((¬ ∃ d0, env[i]? = some (.own d0)) ∧ (¬ ∃ m d0, env[i]? = some (.mu m d0)) ∧ env[i]? = some s))) := by
  unfold putM at h
  by_cases e : j = i
  · subst e
    refine .inr ⟨rfl, ?_⟩
    split at h
    · rename_i d0 hs
      rw [List.getElem?_set_self (List.getElem?_eq_some_iff.mp hs).1] at h
      cases h
      exact .inl ⟨d0, hs, rfl⟩
    · rename_i m d0 hs
      rw [List.getElem?_set_self (List.getElem?_eq_some_iff.mp hs).1] at h
      cases h
      exact .inr (.inl ⟨m, d0, hs, rfl⟩)
    · rename_i n1 n2
      exact .inr (.inr ⟨fun ⟨d0, q⟩ => n1 d0 q, fun ⟨m, d0, q⟩ => n2 m d0 q, h⟩)
  · refine .inl ⟨e, ?_⟩
    split at h
    · rw [List.getElem?_set_ne (Ne.symm e)] at h; exact h
    · rw [List.getElem?_set_ne (Ne.symm e)] at h; exact h
    · exact h
theorem putM_len {i : Nat} {ds : List PyData} : (putM env i ds).length = env.length := by
  unfold putM
  split <;> simp
theorem putMs_len : ∀ {is : List Nat} {ms : List (List PyData)} {env : Ev}, (putMs env is ms).length = env.length
  | [], _, _ => by unfold putMs; rfl
  | _ :: _, [], _ => by unfold putMs; rfl
  | i :: is, ds :: ms, env => by
    unfold putMs
    rw [putMs_len, putM_len]
/-- behind a call: what the names hold -/
theorem back_ok {ps0 : List Addr} (r : Rel K G H σ env as A) (fr : FrC G H ps0 G' H') : ∀ {ps : List Addr} {is : List Nat} {ms : List (List PyData)}, Paired (fun p i => σ[i]? = some (some (.ref p)) ∧ (∀ b, A i b ↔ b = p) ∧ ((∃ ds, env[i]? = some (.own ds)) ∨ ∃ m ds, env[i]? = some (.mu m ds))) ps is →
    MsR K G' H' ps ms → nodupB is = true → ∀ (e2 : Ev), e2.length = env.length → (∀ j s, j ∉ is → e2[j]? = some s → SlotR K G' H' as σ[j]? (A j) s) → (∀ j ∈ is, e2[j]? = env[j]?) →
    ∀ j s, (putMs e2 is ms)[j]? = some s → SlotR K G' H' as σ[j]? (A j) s
  | _, _, _, .nil, .nil, _, e2, hl, h1, _ => fun j s h => h1 j s (by simp) (by unfold putMs at h; exact h)
  | p :: ps, i :: is, ds :: mss, .cons h t, .cons m ms, nd, e2, hl, h1, h2 => by
    have nd : (!is.contains i && nodupB is) = true := nd
    rw [Bool.and_eq_true] at nd
    have ni : i ∉ is := fun z => by
      have := nd.1
      rw [List.contains_iff_mem.mpr z] at this
      cases this
    intro j s hj
    unfold putMs at hj
    refine back_ok r fr t ms nd.2 (putM e2 i ds) (by rw [putM_len]; exact hl) (fun j s hj hs => ?_) (fun j hj => ?_) j s hj
    · rcases putM_get hs with ⟨e, hs⟩ | ⟨rfl, hs⟩
      · exact h1 j s (by simp [e, hj]) hs
      · have e0 : e2[j]? = env[j]? := h2 j (by simp)
        rw [e0] at hs
        rcases hs with ⟨d0, q1, rfl⟩ | ⟨k, d0, q1, rfl⟩ | ⟨n1, n2, _⟩
        · exact ⟨p, h.1, h.2.1, m⟩
        · obtain ⟨p', z1, z2, _⟩ := r.sl j _ q1
          rw [h.1] at z1
          cases z1
          exact ⟨p, h.1, z2, h.2.1, m⟩
        · rcases h.2.2 with q | ⟨k, d0, q⟩
          · exact absurd q n1
          · exact absurd ⟨k, d0, q⟩ n2
    · have ne : j ≠ i := fun z => ni (z ▸ hj)
      have e0 := h2 j (List.mem_cons_of_mem _ hj)
      rw [← e0]
      unfold putM
      split
      · exact List.getElem?_set_ne (Ne.symm ne)
      · exact List.getElem?_set_ne (Ne.symm ne)
      · rfl
theorem call_rel {ps : List Addr} {l : List (Sum PyData Nat)} {ms : List (List PyData)} (r : Rel K G H σ env as A) (fr : FrC G H ps G' H') (hp : Paired (fun p i => σ[i]? = some (some (.ref p)) ∧ (∀ b, A i b ↔ b = p) ∧ ((∃ ds, env[i]? = some (.own ds)) ∨ ∃ m ds, env[i]? = some (.mu m ds))) ps (mutsOf l))
    (hm : MsR K G' H' ps ms) (nd : nodupB (mutsOf l) = true) : Rel K G' H' σ (putMs env (mutsOf l) ms) as A ∧ Fr G H A G' H' A := by
  have inA : ∀ {ps : List Addr} {is : List Nat} {p : Addr}, Paired (fun p i => σ[i]? = some (some (.ref p)) ∧ (∀ b, A i b ↔ b = p) ∧ ((∃ ds, env[i]? = some (.own ds)) ∨ ∃ m ds, env[i]? = some (.mu m ds))) ps is → p ∈ ps → ∃ j ∈ is, A j p := by
    intro ps is p z
    induction z with
    | nil => intro h; cases h
    | cons a _ ih =>
      intro h
      rcases List.mem_cons.mp h with rfl | h
      · exact ⟨_, List.mem_cons_self, (a.2.1 _).mpr rfl⟩
      · obtain ⟨j, h3, h4⟩ := ih h
        exact ⟨j, List.mem_cons_of_mem _ h3, h4⟩
  have stay : ∀ j p, j ∉ mutsOf l → A j p → G' p = none ∧ H' p = H p := fun j p hj hA => by
    obtain ⟨xs, hx, hg⟩ := r.own_some hA
    have np : p ∉ ps := fun z => by
      obtain ⟨i, h1, h2⟩ := inA hp z
      have := r.ap i j p h2 hA
      subst this
      exact hj h1
    refine ⟨?_, by rw [fr.hh p _ hx np, hx]⟩
    cases e : G' p with
    | none => rfl
    | some o =>
      rcases fr.nw p o e with z | z
      · rw [hg] at z; cases z
      · rw [hx] at z; cases z
  refine ⟨⟨fr.sub, by rw [putMs_len]; exact r.len, back_ok r fr hp hm nd env rfl (fun j s hj hs => ?_) (fun _ _ => rfl), fun j hj => r.out j (by rw [putMs_len] at hj; exact hj), r.ap⟩,
    ⟨fr.gg, fun b o e n => fr.hh b o e fun z => ?_, fun b o e => (fr.nw b o e).elim .inl fun z => .inr (.inl z), fun i b e => .inl ⟨i, e⟩⟩⟩
  · have q := r.sl j s hs
    cases s with
    | no => exact q
    | dat d => obtain ⟨q1, v, q2, q3⟩ := q; exact ⟨q1, v, q2, Da.le fr.gg q3⟩
    | own ds =>
      obtain ⟨p, q1, q2, q3⟩ := q
      have z := stay j p hj ((q2 p).mpr rfl)
      exact ⟨p, q1, q2, q3.mono fr.gg z.1 z.2⟩
    | mu m ds =>
      obtain ⟨p, q1, q0, q2, q3⟩ := q
      have z := stay j p hj ((q2 p).mpr rfl)
      exact ⟨p, q1, q0, q2, q3.mono fr.gg z.1 z.2⟩
    | exc x => obtain ⟨q1, u, v, q2, q3, q4, q5, q6⟩ := q; exact ⟨q1, u, v, q2, q3, q4, fr.gg _ _ q5, Da.le fr.gg q6⟩
  · obtain ⟨j, _, h2⟩ := inA hp z
    exact n j h2
end
section
variable {cf : Cf} {C : Nat → Option PyData} {F : Fs}
theorem s_nil : IH cf C F .nil := by
  intro top X E0 ok ast h
  obtain ⟨rfl, h'⟩ := inv_nil h
  intro env k G H σ as A hw rr xo Qv q
  have hw : k.a [] env := hw
  exact wA_of pa_nil (q _ _ _ _ _ [] (Fr.refl G H A) rr .nil rfl hw)
theorem s_cons {a r : N} (iha : IH cf C F a) (ihr : IH cf C F r) : IH cf C F (.cons a r) := by
  intro top X E0 ok ast h
  obtain ⟨x, xs, rfl, h'⟩ := inv_cons h
  replace h := h'
  simp only [Bool.and_eq_true] at h
  intro env k G H σ as A hw rr xo Qv q
  have hw : wp F C a env (kE k.x fun ra env1 => wp F C r env1 (kA k.x fun l env2 => k.a (.inl ra.d :: l) env2)) := hw
  refine wA_of (pa_cons pe_w pa_w (star1 h.1.1)) ?_
  refine (iha ok _ h.1.2).dat (f := fun d env1 => wp F C r env1 (kA k.x fun l env2 => k.a (.inl d :: l) env2)) hw rr xo fun G1 H1 A1 env1 v d f1 r1 dd z => ?_
  refine ihr ok _ h.2 env1 _ G1 H1 σ as A1 z r1 (xo.mono f1) _ fun G2 H2 A2 env2 vs l f2 r2 pp hl z => ?_
  exact q _ _ _ _ _ _ (f1.trans f2) r2 (.cons (show ArR X.K G2 σ v (.inl d) from Da.le f2.gg dd) pp) (congrArg (· + 1) hl) z
theorem s_consM {i : Nat} {r : N} (ihr : IH cf C F r) : IH cf C F (.consM i r) := by
  intro top X E0 ok ast h
  obtain ⟨x, p, xs, rfl, h'⟩ := inv_consM h
  replace h := h'
  simp only [Bool.and_eq_true] at h
  have hc : chk cf (.v i) top X.env.scope (.e (.Name x p)) = true := by
    show ((cf.N[i]? == some x) && visB X.env.scope x && okN x) = true
    rw [h.1.1.1, h.1.1.2, h.1.2]; rfl
  intro env k G H σ as A hw rr xo Qv q
  have hw : peek env i fun _ => wp F C r env (kA k.x fun l env1 => k.a (.inr i :: l) env1) := hw
  obtain ⟨d, v, s1, p1, hw⟩ := rr.peek hw
  refine wA_of (pa_cons pe_w pa_w rfl) ?_
  refine var_ok ok hc s1 ?_
  refine ihr ok _ h.2 env _ G H σ as A hw rr xo _ fun G2 H2 A2 env2 vs l f2 r2 pp hl z => ?_
  exact q _ _ _ _ _ _ f2 r2 (.cons (show ArR X.K G2 σ v (.inr i) from s1) pp) (congrArg (· + 1) hl) z
/-- behind a callee that raised: what it may have changed is not known any more -/
theorem lost_rel {K : PySem.W.Frag} {G H G' H' : Hp} {σ : L2.St} {env : Ev} {as : As} {A : Ft} {ps : List Addr} {is : List Nat} (r : Rel K G H σ env as A) (fx : FrX G H (· ∈ ps) G' H')
    (hp : Paired (fun p i => σ[i]? = some (some (V.ref p)) ∧ (∀ b, A i b ↔ b = p) ∧ ((∃ ds, env[i]? = some (.own ds)) ∨ ∃ m ds, env[i]? = some (.mu m ds))) ps is) :
    ∃ A', Fr G H A G' H' A' ∧ Rel K G' H' σ (wipeE env is) as A' := by
  have inA : ∀ p, p ∈ ps → ∃ i ∈ is, A i p := by
    clear fx
    induction hp with
    | nil => intro p h; cases h
    | cons a _ ih =>
      intro p h
      rcases List.mem_cons.mp h with rfl | h
      · exact ⟨_, .head _, (a.2.1 _).mpr rfl⟩
      · obtain ⟨i, hi, h⟩ := ih p h
        exact ⟨i, .tail _ hi, h⟩
  refine ⟨fun i b => A i b ∧ i ∉ is, ⟨fx.gg, fun b o e n => fx.hh b o e fun hb => ?_, fun b o e => ?_, fun i b h => .inl ⟨i, h.1⟩⟩, ⟨fx.sub, ?_, fun i s h => ?_, fun i hi b h => ?_, fun i j b h1 h2 => r.ap i j b h1.1 h2.1⟩⟩
  · obtain ⟨i, _, h⟩ := inA b hb
    exact n i h
  · rcases fx.nw b o e with z | z | z
    · exact .inl z
    · exact .inr (.inl z)
    · obtain ⟨i, _, h⟩ := inA b z
      exact .inr (.inr ⟨i, h⟩)
  · rw [r.len]
    exact wipeE_len.symm
  · rw [wipeE_get] at h
    by_cases hi : i ∈ is
    · rw [if_pos hi] at h
      split at h
      · cases h
        exact fun b z => z.2 hi
      · cases h
    · rw [if_neg hi] at h
      have q := r.sl i s h
      have eA : (fun b => A i b ∧ i ∉ is) = A i := by funext b; exact propext ⟨fun z => z.1, fun z => ⟨z, hi⟩⟩
      show SlotR K G' H' as σ[i]? (fun b => A i b ∧ i ∉ is) s
      rw [eA]
      have keep : ∀ {p : Addr} {ds : List PyData}, A i p → Lst K G H p ds → Lst K G' H' p ds := fun {p ds} ha l => by
        obtain ⟨g0, xs, hx, hd⟩ := l
        have np : p ∉ ps := fun hp => by
          obtain ⟨j, hj, h⟩ := inA p hp
          rw [r.ap i j p ha h] at hi
          exact hi hj
        refine ⟨?_, xs, fx.hh p _ hx np, DaAll.le fx.gg hd⟩
        cases e : G' p with
        | none => rfl
        | some o =>
          rcases fx.nw p o e with z | z | z
          · rw [g0] at z; cases z
          · rw [hx] at z; cases z
          · exact absurd z np
      cases s with
      | no => exact q
      | dat d =>
        obtain ⟨q1, v, q2, q3⟩ := q
        exact ⟨q1, v, q2, Da.le fx.gg q3⟩
      | own ds =>
        obtain ⟨p, q1, q2, q3⟩ := q
        exact ⟨p, q1, q2, keep ((q2 p).mpr rfl) q3⟩
      | mu m ds =>
        obtain ⟨p, q1, q0, q2, q3⟩ := q
        exact ⟨p, q1, q0, q2, keep ((q2 p).mpr rfl) q3⟩
      | exc x =>
        obtain ⟨q1, u, v, q2, q3, q4, q5, q6⟩ := q
        exact ⟨q1, u, v, q2, q3, q4, fx.gg _ _ q5, Da.le fx.gg q6⟩
  · have : (wipeE env is).length = env.length := wipeE_len
    exact r.out i (by omega) b h.1
def callW (F : Fs) (f : Nat) (ds : List PyData) (k : K) (l : List (Sum PyData Nat)) (env1 : Ev) : Prop :=
  match agOf env1 (l ++ ds.map .inl) with
  | some ags => match nodupB (mutsOf (l ++ ds.map .inl)) with
    | true => F f ags (fun r ms => k.e r (putMs env1 (mutsOf (l ++ ds.map .inl)) ms)) fun e => k.x e (wipeE env1 (mutsOf (l ++ ds.map .inl)))
    | false => False
  | none => False
theorem lit_ok {K : PySem.W.Frag} {G : Hp} {σ : L2.St} : ∀ {a b : List PyData}, dfB a b = true → Paired (ArR K G σ) (b.map litV) (b.map .inl)
  | [], [], _ => .nil
  | [], _ :: _, h => by cases h
  | _ :: _, [], h => by cases h
  | a :: as, b :: bs, h => by
    have h : (litB a b && dfB as bs) = true := h
    rw [Bool.and_eq_true] at h
    refine .cons ?_ (lit_ok h.2)
    show Da K G (litV b) b
    cases a <;> cases b <;> first | exact .non | exact .bl _ | exact .int _ | exact .str _ | exact absurd h.1 Bool.false_ne_true
theorem call_core {f : Nat} {as : N} (iha : IH cf C F as) {top : Bool} {X : Cx} {E0 : WX} (ok : Ok cf C F top X E0) {x : Str} {p p2 : Pos} {xs : List Expr} (h0 : f < cf.nf) (h1 : cf.nm f = x) (h2 : glB X.env.scope x = true) (h3 : okN x = true) (h4 : chk cf as top X.env.scope (.a xs) = true)
    {ds : List PyData} (hds : ds = [] ∨ dfB (cf.df f) ds = true) {env : Ev} {k : K} {G H : Hp} {σ : L2.St} {as0 : As} {A : Ft} (hw : wp F C as env (kA k.x (callW F f ds k))) (rr : Rel X.K G H σ env as0 A) (xo : XO X cf E0 as0 G H A k.x) {Qv : VK}
    (q : ∀ G' H' A' env' v r B, Po X.K as0 σ G H A G' H' σ env' A' v r B → k.e r env' → Qv v H') : wE X (.Call (.Name x p) xs [] p2) σ H Qv := by
  obtain ⟨fa, fd, ps, kk, fok, har, hr, hm, hk, hb, hbd⟩ := ok.fn f h0
  rw [h1] at hm
  have dl : ∀ {G' : Hp}, Paired (ArR X.K G' σ) (ds.map litV) (ds.map .inl) := fun {G'} => by
    rcases hds with rfl | e
    · exact .nil
    · exact lit_ok e
  obtain ⟨us, hu, hbu⟩ : ∃ us, Vals (ds.map litV) us ∧ Binds X.K fd ps us := by
    by_cases e : ds = []
    · subst e; exact ⟨[], .nil, hb⟩
    · exact hbd ds (hds.resolve_left e) e
  have pap : ∀ {α β : Type} {R : α → β → Prop} {a c : List α} {b d : List β}, Paired R a b → Paired R c d → Paired R (a ++ c) (b ++ d) := by
    intro α β R a c b d h1 h2
    induction h1 with
    | nil => exact h2
    | cons h _ ih => exact .cons h ih
  -- the callee's promise, from the arguments
  have key : ∀ G1 H1 A1 env1 vs l, Fr G H A G1 H1 A1 → Rel X.K G1 H1 σ env1 as0 A1 → Paired (ArR X.K G1 σ) vs l → callW F f ds k l env1 → spF X.K X.mg cf F f ps.length (vs ++ ds.map litV) H1 Qv (fun c d H => E0 c d σ H) := by
    intro G1 H1 A1 env1 vs l f1 r1 pp0 z
    have pp := pap pp0 (dl (G' := G1))
    unfold callW at z
    split at z
    · rename_i ags ha
      split at z
      · rename_i nd
        obtain ⟨pl, g1, g2⟩ := ag_ok r1 pp ha nd
        have hl : (vs ++ ds.map litV).length = ps.length := by
          have e1 : ∀ {vs : List V} {ags : List Ag} {as : List Addr}, AgR X.K G1 H1 vs ags as → vs.length = ags.length := by
            intro vs ags as z
            induction z with
            | nil => rfl
            | d _ _ ih => exact congrArg (· + 1) ih
            | m _ _ _ ih => exact congrArg (· + 1) ih
          rw [e1 g1]
          exact har _ _ _ z
        have sub : ∀ p, p ∈ pl → ∃ i, A1 i p := by
          intro p hp
          have key : ∀ {ps : List Addr} {is : List Nat}, Paired (fun p i => σ[i]? = some (some (V.ref p)) ∧ (∀ b, A1 i b ↔ b = p) ∧ ((∃ ds, env1[i]? = some (.own ds)) ∨ ∃ m ds, env1[i]? = some (.mu m ds))) ps is → p ∈ ps → ∃ j, A1 j p := by
            intro ps is z
            induction z with
            | nil => intro h; cases h
            | cons a _ ih =>
              intro h
              rcases List.mem_cons.mp h with rfl | h
              · exact ⟨_, (a.2.1 _).mpr rfl⟩
              · exact ih h
          exact key g2 hp
        refine ⟨G1, ags, pl, _, _, hl, r1.sub, g1, z, fun G' H' v r B ms fr hrr hB hms z => ?_, fun G' H' x cls d fx hex hx => ?_⟩
        · obtain ⟨r2, f2⟩ := call_rel r1 fr g2 hms nd
          refine q _ _ _ _ v r B ((⟨f2, r2, hrr, fun i b hA hb => ?_, fun b hb => .inr (hB b hb)⟩ : Po X.K as0 σ G1 H1 A1 G' H' σ _ A1 v r B).pre f1) z
          obtain ⟨xs, hx, _⟩ := r1.own_some hA
          rw [hB b hb] at hx; cases hx
        · obtain ⟨A2, f2, r2⟩ := lost_rel r1 fx g2
          exact xo.out G' H' A2 σ _ x cls d (f1.trans f2) r2 hex hx
      · exact z.elim
    · exact z.elim
  have hx : PAt X (fun c d H => E0 c d σ H) σ := fun pins H s e s' I c => ok.tk _ _ (XE.of_call I (fun _ _ _ h => h) c)
  cases xs with
  | nil =>
    refine pe_callG0 fok ok.gd hr hbu hu hx (glB_of h2) hm hk (okN_of h3).1 ?_
    have hn : as = .nil := by
      cases as <;> first | rfl | exact absurd h4 Bool.false_ne_true
    subst hn
    have hw : callW F f ds k [] env := hw
    exact key G H A env [] [] (Fr.refl G H A) rr .nil hw
  | cons e es =>
    have pl := plain_args h4
    rw [List.all_cons, Bool.and_eq_true] at pl
    refine pe_callG fok ok.gd hr hbu hu hx (glB_of h2) hm hk pa_w (okN_of h3).1 (star1 pl.1) (star_all pl.2 _) ?_
    exact iha ok _ h4 env _ G H σ as0 A hw rr xo _ fun G1 H1 A1 env1 vs l f1 r1 pp hl z => key G1 H1 A1 env1 vs l f1 r1 pp z
theorem s_call {f : Nat} {as : N} (iha : IH cf C F as) : IH cf C F (.call f as) := by
  intro top X E0 ok ast h
  obtain ⟨x, p, xs, p2, rfl, h'⟩ := inv_call h
  replace h := h'
  simp only [Bool.and_eq_true, beq_iff_eq] at h
  obtain ⟨⟨⟨⟨h0, h1⟩, h2⟩, h3⟩, h4⟩ := h
  intro env k G H σ as0 A hw rr xo Qv q
  have hw : wp F C as env (kA k.x fun l env1 => match agOf env1 l with
    | some ags => match nodupB (mutsOf l) with
      | true => F f ags (fun r ms => k.e r (putMs env1 (mutsOf l) ms)) fun e => k.x e (wipeE env1 (mutsOf l))
      | false => False
    | none => False) := hw
  have e : (fun (l : List (Sum PyData Nat)) (env1 : Ev) => match agOf env1 l with
    | some ags => match nodupB (mutsOf l) with
      | true => F f ags (fun r ms => k.e r (putMs env1 (mutsOf l) ms)) fun e => k.x e (wipeE env1 (mutsOf l))
      | false => False
    | none => False) = callW F f [] k := by
    funext l env1
    unfold callW
    rw [show l ++ ([] : List PyData).map Sum.inl = l from List.append_nil l]
  rw [e] at hw
  exact call_core iha ok (of_decide_eq_true h0) h1 h2 h3 h4 (.inl rfl) hw rr xo q
theorem s_callD {f : Nat} {as : N} {ds : List PyData} (iha : IH cf C F as) : IH cf C F (.callD f as ds) := by
  intro top X E0 ok ast h
  obtain ⟨x, p, xs, p2, rfl, h'⟩ := inv_callD h
  replace h := h'
  simp only [Bool.and_eq_true, beq_iff_eq] at h
  obtain ⟨⟨⟨⟨⟨h0, h1⟩, h2⟩, h3⟩, h4⟩, h5⟩ := h
  intro env k G H σ as0 A hw rr xo Qv q
  have hw : wp F C as env (kA k.x (callW F f ds k)) := hw
  exact call_core iha ok (of_decide_eq_true h0) h1 h2 h3 h4 (.inr h5) hw rr xo q
end
end Pi

namespace Pi
open PySem L2 PySem.Spec PyProof.Rows
section
variable {cf : Cf} {C : Nat → Option PyData} {F : Fs}
theorem s_b1 {f : B1} {a : N} (iha : IH cf C F a) : IH cf C F (.b1 f a) := by
  intro top X E0 ok ast h
  obtain ⟨x, p, y, p2, rfl, h'⟩ := inv_b1 h
  replace h := h'
  simp only [Bool.and_eq_true, beq_iff_eq] at h
  obtain ⟨⟨⟨⟨⟨h0, h1⟩, h2⟩, h3⟩, h4⟩, h5⟩ := h
  intro env k G H σ as A hw r xo Qv q
  have hw : opdW1 F C a env k.x (fun d e => b1W f d fun r => k.e r e) := hw
  have hcool : cf.hot = false ∨ coolB f = true := by
    unfold b1S at h0
    rw [Bool.and_eq_true, Bool.or_eq_true, Bool.not_eq_true'] at h0
    exact h0.2
  have hm := ok.bl x h3
  have hg := glB_of h2
  have key : ∀ w, b1V f = some w → wE X y σ H fun v1 H1 => wCl X w [v1] H1 Qv :=
    fun w ew => opd1_ok ok (iha ok _ h5) h5 hw r xo fun G' H' A' env' v1 d1 f' r' p z => b1W_ok (X := X) ok hcool r' p z (fun G2 H2 v rs B po ke => q _ _ _ _ _ _ _ (po.pre f') ke) w ew
  have ty : ∀ T, b1V f = some (.type T) → bootBuiltins x = some (.type T) → wE X (.Call (.Name x p) [y] [] p2) σ H Qv := fun T e1 e2 =>
    wE_of (pe_callTy (cl_w (f := .type T)) hg hm e2 (pa_cons pe_w pa_nil (star1 h4)) (by subst h1; cases f <;> first | (cases e1; done) | decide) (by subst h1; cases f <;> first | (cases e1; done) | decide) (star1 h4) rfl) (key _ e1)
  have bt : ∀ T, b1V f = some (.builtin T) → bootBuiltins x = some (.builtin T) → wE X (.Call (.Name x p) [y] [] p2) σ H Qv := fun T e1 e2 =>
    wE_of (pe_callB (cl_w (f := .builtin T)) hg hm e2 (pa_cons pe_w pa_nil (star1 h4)) (by subst h1; cases f <;> first | (cases e1; done) | decide) (by subst h1; cases f <;> first | (cases e1; done) | decide) (star1 h4) rfl) (key _ e1)
  subst h1
  cases f with
  | len => exact bt _ rfl PySem.boot_len
  | int => exact ty _ rfl PyProof.Rows.boot_int
  | abs => exact bt _ rfl PyProof.Rows.boot_abs
  | list => exact ty _ rfl PyProof.Rows.boot_list
  | tuple => exact ty _ rfl PyProof.Rows.boot_tuple
  | sum => exact bt _ rfl PyProof.Rows.boot_sum
  | maxl => exact bt _ rfl PyProof.Rows.boot_max
  | minl => exact bt _ rfl PyProof.Rows.boot_min
  | any => exact bt _ rfl PyProof.Rows.boot_any
  | all => exact bt _ rfl PyProof.Rows.boot_all
  | sorted => exact bt _ rfl PyProof.Rows.boot_sorted
  | repr => exact bt _ rfl PyProof.Rows.boot_repr
  | str => exact ty _ rfl PyProof.Rows.boot_str
  | bool => exact ty _ rfl PyProof.Rows.boot_bool
theorem s_b2 {f : B2} {a b : N} (iha : IH cf C F a) (ihb : IH cf C F b) : IH cf C F (.b2 f a b) := by
  intro top X E0 ok ast h
  obtain ⟨x, p, y, z, p2, rfl, h'⟩ := inv_b2 h
  replace h := h'
  simp only [Bool.and_eq_true, beq_iff_eq] at h
  obtain ⟨⟨⟨⟨⟨⟨h1, h2⟩, h3⟩, h4⟩, h5⟩, h6⟩, h7⟩ := h
  unfold b2S at h1
  rw [Bool.and_eq_true, Bool.not_eq_true', beq_iff_eq] at h1
  obtain ⟨hcool, h1⟩ := h1
  intro env k G H σ as A hw r xo Qv q
  have hw : wp F C a env (kE k.x fun ra env1 => wp F C b env1 (kE k.x fun rb env2 => b2W f ra.d rb.d fun r => k.e r env2)) := hw
  have hm := ok.bl x h3
  have hg := glB_of h2
  have key : ∀ {P : V → V → Hp → Prop}, (∀ G' H' A' env' v1 v2 d1 d2, Fr G H A G' H' A' → Rel X.K G' H' σ env' as A' → Da X.K G' v1 d1 → Da X.K G' v2 d2 → b2W f d1 d2 (fun r => k.e r env') → P v1 v2 H') →
      wE X y σ H fun v1 H1 => wE X z σ H1 fun v2 H2 => P v1 v2 H2 := by
    intro P q
    refine (iha ok _ h6).dat (f := fun d env1 => wp F C b env1 (kE k.x fun rb env2 => b2W f d rb.d fun r => k.e r env2)) hw r xo fun G1 H1 A1 env1 v1 d1 f1 r1 dd1 z => ?_
    refine (ihb ok _ h7).dat (f := fun d env2 => b2W f d1 d fun r => k.e r env2) z r1 (xo.mono f1) fun G2 H2 A2 env2 v2 d2 f2 r2 dd2 z => ?_
    exact q _ _ _ _ _ _ _ _ (f1.trans f2) r2 (Da.le f2.gg dd1) dd2 z
  subst h1
  cases f with
  | min =>
    refine wE_of (pe_callB (call_min2 (ok.calm hcool)) hg hm PyProof.Rows.boot_min (pa_cons pe_w (pa_cons pe_w pa_nil (star1 h5)) (star1 h4)) (by decide) (by decide) (star1 h4) (star_all (by rw [List.all_cons, h5]; rfl) _)) (key fun G' H' A' env' v1 v2 d1 d2 f' r' e1 e2 z => ?_)
    unfold b2W at z
    split at z
    · cases e1; cases e2
      exact ⟨_, _, rfl, q _ _ _ _ _ _ _ ((Po.same r' (.int _)).pre f') z⟩
    · contradiction
    · exact z.elim
  | max =>
    refine wE_of (pe_callB (call_max2 (ok.calm hcool)) hg hm PyProof.Rows.boot_max (pa_cons pe_w (pa_cons pe_w pa_nil (star1 h5)) (star1 h4)) (by decide) (by decide) (star1 h4) (star_all (by rw [List.all_cons, h5]; rfl) _)) (key fun G' H' A' env' v1 v2 d1 d2 f' r' e1 e2 z => ?_)
    unfold b2W at z
    split at z
    · contradiction
    · cases e1; cases e2
      exact ⟨_, _, rfl, q _ _ _ _ _ _ _ ((Po.same r' (.int _)).pre f') z⟩
    · exact z.elim
theorem ty_name {t : TY} (h : t ≠ .non) : bootBuiltins (tyn t) = some (.type (tyS t)) := by
  cases t with
  | int => exact PyProof.Rows.boot_int
  | bool => exact PyProof.Rows.boot_bool
  | str => exact PyProof.Rows.boot_str
  | list => exact PyProof.Rows.boot_list
  | tuple => exact PyProof.Rows.boot_tuple
  | non => exact absurd rfl h
theorem Da.nodict {K : PySem.W.Frag} {H : Hp} {v : V} {d : PyData} (h : Da K H v d) : ∀ kvs, d ≠ .dict kvs := fun kvs e => by subst e; cases h
theorem tyB_of : ∀ {ts : List TY} {z : Str}, tyB ts z = true → ∃ t, ts = [t] ∧ t ≠ .non ∧ tyn t = z
  | [], _, h => by cases h
  | [t], z, h => by cases t <;> first | exact ⟨_, rfl, (fun e => by cases e), beq_iff_eq.mp h⟩ | cases h
  | t :: _ :: _, _, h => by cases t <;> exact absurd h Bool.false_ne_true
theorem s_isi {a : N} {ts : List TY} (iha : IH cf C F a) : IH cf C F (.isi a ts) := by
  intro top X E0 ok ast h
  obtain ⟨x, p, y, z, p2, p3, rfl, h'⟩ := inv_isi h
  replace h := h'
  simp only [Bool.and_eq_true, beq_iff_eq] at h
  obtain ⟨⟨⟨⟨⟨⟨⟨h1, h2⟩, h3⟩, h4⟩, h5⟩, h6⟩, h7⟩, h8⟩ := h
  subst h1
  intro env k G H σ as A hw r xo Qv q
  have hw : opdW1 F C a env k.x (fun d e => k.e (.dat (.bool (ts.any (isTy d)))) e) := hw
  obtain ⟨t, rfl, ht, hz⟩ := tyB_of h8
  subst hz
  have hb : PE X (.Name (tyn t) p2) (tC (.ty (tyS t))) := pe_bltn (glB_of h6) (ok.bl _ h7) (ty_name ht) rfl (by cases t <;> first | exact absurd rfl ht | decide) (by cases t <;> first | exact absurd rfl ht | decide)
  refine wE_of (pe_callB call_isi (glB_of h2) (ok.bl _ h3) PyProof.Rows.boot_isinstance (pa_cons pe_w (pa_cons hb pa_nil rfl) (star1 h4)) (by decide) (by decide) (star1 h4) rfl) ?_
  refine opd1_ok ok (iha ok _ h5) h5 hw r xo fun G' H' A' env' v1 d1 f' r' pk z => ?_
  refine ⟨v1, .ty (tyS t), .type (tyD d1), .type (tyS t), isTy d1 t, rfl, .ty _, tyx_of r'.sub pk, kit_ty (kitB_ty d1 (pk.da r'.sub).nodict t ht), ?_⟩
  refine q _ _ _ _ _ _ _ ((Po.same r' (.bl _)).pre f') ?_
  have e : isTy d1 t = [t].any (isTy d1) := by simp
  rw [e]
  exact z
theorem s_ix {a b : N} (iha : IH cf C F a) (ihb : IH cf C F b) : IH cf C F (.ix a b) := by
  intro top X E0 ok ast h
  obtain ⟨o, i, p, rfl, h'⟩ := inv_ix h
  replace h := h'
  simp only [Bool.and_eq_true] at h
  obtain ⟨⟨h1, h2⟩, h3⟩ := h
  intro env k G H σ as A hw rr xo Qv q
  have hw : opdW F C a b env k.x (fun x y e => ixW x y fun r => k.e r e) := hw
  refine wE_of (pe_ix ix_seq pe_w pe_w (plain_ix h1)) ?_
  refine opd2_ok ok (iha ok _ h2) (ihb ok _ h3) h2 h3 hw rr xo fun G' H' A' env' v1 v2 d1 d2 f' r' p1 p2 z => ?_
  exact ixW_ok r' p1 p2 z fun v d dd ke => q _ _ _ _ _ _ _ ((Po.same r' dd).pre f') ke
theorem s_sno : IH cf C F .sno := by
  intro top X E0 ok ast h
  obtain ⟨rfl, h'⟩ := inv_sno h
  intro env k G H σ as A hw r xo Qv q
  have hw : k.i [] env := hw
  exact wO_of po_none (q G H A env [] none (Fr.refl G H A) r rfl hw)
theorem s_sat {a : N} (iha : IH cf C F a) : IH cf C F (.sat a) := by
  intro top X E0 ok ast h
  obtain ⟨x, rfl, h'⟩ := inv_sat h
  replace h := h'
  intro env k G H σ as A hw r xo Qv q
  have hw : wp F C a env (kE k.x fun r env1 => intW r.d fun i => k.i [.int i] env1) := hw
  refine wO_of (po_some pe_w) ?_
  refine (iha ok _ h).dat (f := fun d env1 => intW d fun i => k.i [.int i] env1) hw r xo fun G' H' A' env' v d f' r' dd z => ?_
  unfold intW at z
  split at z
  · cases dd
    exact ⟨_, rfl, q _ _ _ _ _ (some _) f' r' rfl z⟩
  · exact z.elim
theorem partW_opt {o : Option Int} {c : Option Int → Prop} (h : partW (optL o) c) : c o := by
  cases o <;> exact h
theorem s_sl {a lo hi : N} (iha : IH cf C F a) (ihl : IH cf C F lo) (ihh : IH cf C F hi) : IH cf C F (.sl a lo hi) := by
  intro top X E0 ok ast h
  obtain ⟨o, l, hh, p, p2, rfl, h'⟩ := inv_sl h
  replace h := h'
  simp only [Bool.and_eq_true] at h
  obtain ⟨⟨h1, h2⟩, h3⟩ := h
  intro env k G H σ as A hw rr xo Qv q
  have hw : (match a.isV with
    | some i => peek env i fun _ => wp F C lo env (kI k.x fun l env1 => wp F C hi env1 (kI k.x fun h env2 => partW l fun lo' => partW h fun hi' => peek env2 i fun d => slW d lo' hi' fun r => k.e r env2))
    | none => wp F C a env (kE k.x fun ra env0 => wp F C lo env0 (kI k.x fun l env1 => wp F C hi env1 (kI k.x fun h env2 => partW l fun lo' => partW h fun hi' => slW ra.d lo' hi' fun r => k.e r env2)))) := hw
  refine wE_of (pe_slice sl_x pe_w po_w po_w) ?_
  split at hw
  · rename_i i hA
    cases N.isV_some hA
    obtain ⟨d1, v1, s1, p1, hw⟩ := rr.peek hw
    refine var_ok ok h1 s1 ?_
    refine ihl ok _ h2 env _ G H σ as A hw rr xo _ fun G1 H1 A1 env1 l1 o1 f1 r1 e1 z => ?_
    subst e1
    refine ihh ok _ h3 env1 _ G1 H1 σ as A1 z r1 (xo.mono f1) _ fun G2 H2 A2 env2 l2 o2 f2 r2 e2 z => ?_
    subst e2
    have z : partW (optL o1) fun lo' => partW (optL o2) fun hi' => peek env2 i fun d => slW d lo' hi' fun r => k.e r env2 := z
    have z := partW_opt (partW_opt z)
    obtain ⟨d2, v2, s2, p2, z⟩ := r2.peek z
    rw [s1] at s2
    cases s2
    exact slW_ok r2 p2 z fun G3 H3 v rs B po ke => q _ _ _ _ _ _ _ (po.pre (f1.trans f2)) ke
  · refine (iha ok _ h1).dat (f := fun d env0 => wp F C lo env0 (kI k.x fun l env1 => wp F C hi env1 (kI k.x fun h env2 => partW l fun lo' => partW h fun hi' => slW d lo' hi' fun r => k.e r env2))) hw rr xo fun G0 H0 A0 env0 v0 d0 f0 r0 dd0 z => ?_
    refine ihl ok _ h2 env0 _ G0 H0 σ as A0 z r0 (xo.mono f0) _ fun G1 H1 A1 env1 l1 o1 f1 r1 e1 z => ?_
    subst e1
    refine ihh ok _ h3 env1 _ G1 H1 σ as A1 z r1 ((xo.mono f0).mono f1) _ fun G2 H2 A2 env2 l2 o2 f2 r2 e2 z => ?_
    subst e2
    have z : partW (optL o1) fun lo' => partW (optL o2) fun hi' => slW d0 lo' hi' fun r => k.e r env2 := z
    have z := partW_opt (partW_opt z)
    exact slW_ok r2 (.inl (Da.le (f1.gg.trans f2.gg) dd0)) z fun G3 H3 v rs B po ke => q _ _ _ _ _ _ _ (po.pre ((f0.trans f1).trans f2)) ke
theorem rev_da {K : PySem.W.Frag} {G : Hp} : ∀ {vs : List V} {ds : List PyData}, DaAll K G vs ds → DaAll K G vs.reverse ds.reverse
  | _, _, .nil => .nil
  | _, _, .cons h t => by
    rw [List.reverse_cons, List.reverse_cons]
    exact (rev_da t).append (.cons h .nil)
theorem s_rv {a : N} (iha : IH cf C F a) : IH cf C F (.rv a) := by
  intro top X E0 ok ast h
  obtain ⟨o, p1, p2, p3, p4, p5, rfl, h'⟩ := inv_rv h
  replace h := h'
  intro env k G H σ as A hw rr xo Qv q
  have hw : wp F C a env (kE k.x fun r env1 => revW r.d fun r' => k.e r' env1) := hw
  refine wE_of (pe_rv pe_w) ?_
  refine (iha ok _ h).dat (f := fun d env1 => revW d fun r' => k.e r' env1) hw rr xo fun G' H' A' env' v d f' r' dd z => ?_
  unfold revW at z
  split at z
  · cases dd with
    | lst hx ha => exact ⟨_, _, rfl, .inl ⟨r'.sub.l hx, fun p hp => q _ _ _ _ _ _ _ ((Po.newL r' hp (rev_da ha)).pre f') z⟩⟩
  · cases dd with
    | tup hx ha => exact ⟨_, _, rfl, .inr ⟨r'.sub.t hx, fun p hp => q _ _ _ _ _ _ _ ((Po.newT r' hp (rev_da ha)).pre f') z⟩⟩
  · exact z.elim
theorem dats_da {K : PySem.W.Frag} {G : Hp} {σ : L2.St} : ∀ {vs : List V} {l : List (Sum PyData Nat)} {ds : List PyData}, Paired (ArR K G σ) vs l → dats l = some ds → DaAll K G vs ds
  | _, _, _, .nil, e => by cases e; exact .nil
  | v :: vs, .inl d :: l, _, .cons h t, e => by
    have e : (dats l).map (d :: ·) = some _ := e
    rw [Option.map_eq_some_iff] at e
    obtain ⟨ds, e1, rfl⟩ := e
    exact .cons h (dats_da t e1)
  | v :: vs, .inr i :: l, _, .cons h t, e => by cases e
theorem Paired.len {α β : Type} {F : α → β → Prop} : ∀ {l : List α} {m : List β}, Paired F l m → l.length = m.length
  | _, _, .nil => rfl
  | _, _, .cons _ t => congrArg (· + 1) (Paired.len t)
theorem s_tup {es : N} (iha : IH cf C F es) : IH cf C F (.tup es) := by
  intro top X E0 ok ast h
  obtain ⟨xs, j, p, rfl, h'⟩ := inv_tup h
  replace h := h'
  simp only [Bool.and_eq_true, decide_eq_true_eq] at h
  intro env k G H σ as A hw rr xo Qv q
  have hw : wp F C es env (kA k.x fun l env1 => match dats l with
    | some ds => k.e (.dat (.tuple ds)) env1
    | none => False) := hw
  refine wE_of (pe_tup pa_w) ?_
  refine iha ok _ h.2 env _ G H σ as A hw rr xo _ fun G1 H1 A1 env1 vs l f1 r1 pp hl z => ?_
  have z : (match dats l with
    | some ds => k.e (.dat (.tuple ds)) env1
    | none => False) := z
  split at z
  · rename_i ds e
    refine ⟨Nat.le_trans (by rw [Paired.len pp, hl]; exact h.1) (by decide), fun t ht => ?_⟩
    exact q _ _ _ _ _ _ _ ((Po.newT r1 ht (dats_da pp e)).pre f1) z
  · exact z.elim
theorem s_lst {es : N} (iha : IH cf C F es) : IH cf C F (.lst es) := by
  intro top X E0 ok ast h
  obtain ⟨xs, p, rfl, h'⟩ := inv_lst h
  replace h := h'
  simp only [Bool.and_eq_true, decide_eq_true_eq] at h
  intro env k G H σ as A hw rr xo Qv q
  have hw : wp F C es env (kA k.x fun l env1 => match dats l with
    | some ds => k.e (.own ds) env1
    | none => False) := hw
  refine wE_of (pe_lst pa_w) ?_
  refine iha ok _ h.2 env _ G H σ as A hw rr xo _ fun G1 H1 A1 env1 vs l f1 r1 pp hl z => ?_
  have z : (match dats l with
    | some ds => k.e (.own ds) env1
    | none => False) := z
  split at z
  · rename_i ds e
    refine ⟨Nat.le_trans (by rw [Paired.len pp, hl]; exact h.1) (by decide), fun t ht => ?_⟩
    exact q _ _ _ _ _ _ _ ((Po.newL r1 ht (dats_da pp e)).pre f1) z
  · exact z.elim
theorem Lst.sz {X : Cx} {pins : List (Addr × Obj)} {σ : L2.St} {G H : Hp} {s : Shared} {p : Addr} {ds : List PyData} (I : Inv X pins σ H s) (l : Lst X.K G H p ds) : ds.length ≤ sizeLine := by
  obtain ⟨_, xs, h1, h2⟩ := l
  obtain ⟨z, _⟩ := I.lstM h1
  rw [← h2.length]; exact z
theorem Rel.isL {K : PySem.W.Frag} {G H : Hp} {σ : L2.St} {env : Ev} {as : As} {A : Ft} (r : Rel K G H σ env as A) {i : Nat} {c : Prop} (h : isL env i c) : ∃ p xs, σ[i]? = some (some (.ref p)) ∧ H p = some (.lst xs) ∧ c := by
  unfold Pi.isL at h
  split at h
  · rename_i ds e
    obtain ⟨p, h1, _, h2⟩ := r.lst (.inl e)
    obtain ⟨xs, hx, _⟩ := h2.at
    exact ⟨p, xs, h1, hx, h⟩
  · rename_i m ds e
    obtain ⟨p, h1, _, h2⟩ := r.lst (.inr ⟨m, e⟩)
    obtain ⟨xs, hx, _⟩ := h2.at
    exact ⟨p, xs, h1, hx, h⟩
  · exact h.elim
theorem s_pop {i : Nat} : IH cf C F (.pop i) := by
  intro top X E0 ok ast h
  obtain ⟨x, p, m, ap, cp, rfl, h'⟩ := inv_pop h
  replace h := h'
  simp only [Bool.and_eq_true] at h
  obtain ⟨⟨⟨⟨h1, h2⟩, h3⟩, h4⟩, h5⟩ := h
  cases beq_iff_eq.mp h2
  have hc : chk cf (.v i) top X.env.scope (.e (.Name x p)) = true := by
    show ((cf.N[i]? == some x) && visB X.env.scope x && okN x) = true
    rw [h3, h4, h5]; rfl
  intro env k G H σ as A hw rr xo Qv q
  have hw : (match env[i]? with
    | some (.own ds) => ∃ y, ds[ds.length - 1]? = some y ∧ k.e (.dat y) (env.set i (.own ds.dropLast))
    | some (.mu m ds) => ∃ y, ds[ds.length - 1]? = some y ∧ k.e (.dat y) (env.set i (.mu m ds.dropLast))
    | _ => False) := hw
  refine wE_of (pe_bm0 PySem.F.plainAttrs_list PySem.F.slot_list_pop PySem.F.type_list_pop mt_pop pe_w rfl h1) ?_
  have fin : ∀ {ds : List PyData} {y : PyData} {s s' : Sl}, env[i]? = some s → ((s = .own ds ∧ s' = .own ds.dropLast) ∨ ∃ m, s = .mu m ds ∧ s' = .mu m ds.dropLast) → ds[ds.length - 1]? = some y → k.e (.dat y) (env.set i s') →
      wE X (.Name x p) σ H fun v H1 => tyV X.K "list" v H1 ∧ rPop v [] H1 Qv := by
    intro ds y s s' e hs hy ke
    obtain ⟨p', s1, hA, l⟩ := rr.lst (i := i) (ds := ds) (by rcases hs with ⟨rfl, _⟩ | ⟨m, rfl, _⟩; exact .inl e; exact .inr ⟨m, e⟩)
    obtain ⟨xs, hx, hd⟩ := l.at
    refine var_ok ok hc s1 ⟨.inl ⟨rfl, xs, SqL.of hx⟩, ?_⟩
    obtain ⟨v, hv, dv⟩ := hd.get hy
    obtain ⟨r2, f2⟩ := rr.write e s1 hA l (xs' := xs.dropLast) hd.dropLast hs
    exact ⟨p', xs, v, rfl, rfl, hx, by rw [hd.length]; exact hv, q _ _ _ _ _ _ _ ((Po.same r2 dv).pre f2) ke⟩
  split at hw
  · rename_i ds e
    obtain ⟨y, hy, ke⟩ := hw
    exact fin e (.inl ⟨rfl, rfl⟩) hy ke
  · rename_i m ds e
    obtain ⟨y, hy, ke⟩ := hw
    exact fin e (.inr ⟨m, rfl, rfl⟩) hy ke
  · exact hw.elim
theorem s_popAt {i : Nat} {a : N} (iha : IH cf C F a) : IH cf C F (.popAt i a) := by
  intro top X E0 ok ast h
  obtain ⟨x, p, m, ap, y, cp, rfl, h'⟩ := inv_popAt h
  replace h := h'
  simp only [Bool.and_eq_true] at h
  obtain ⟨⟨⟨⟨⟨⟨h1, h2⟩, h3⟩, h4⟩, h5⟩, h6⟩, h7⟩ := h
  cases beq_iff_eq.mp h2
  have hc : chk cf (.v i) top X.env.scope (.e (.Name x p)) = true := by
    show ((cf.N[i]? == some x) && visB X.env.scope x && okN x) = true
    rw [h3, h4, h5]; rfl
  intro env k G H σ as A hw rr xo Qv q
  have hw : isL env i <| wp F C a env (kE k.x fun r env1 => intW r.d fun z => inR z ∧ match env1[i]? with
    | some (.own ds) => ∃ j y, seqIndex? z ds.length = some j ∧ ds[j]? = some y ∧ k.e (.dat y) (env1.set i (.own (ds.eraseIdx j)))
    | some (.mu m ds) => ∃ j y, seqIndex? z ds.length = some j ∧ ds[j]? = some y ∧ k.e (.dat y) (env1.set i (.mu m (ds.eraseIdx j)))
    | _ => False) := hw
  obtain ⟨p0, xs0, s0, hx0, hw⟩ := rr.isL hw
  refine wE_of (pe_bm PySem.F.plainAttrs_list PySem.F.slot_list_pop PySem.F.type_list_pop mt_popAt pe_w (pa_cons pe_w pa_nil (star1 h6)) rfl (by rw [star1 h6]; rfl) h1 (star1 h6) rfl) ?_
  refine var_ok ok hc s0 ⟨.inl ⟨rfl, xs0, SqL.of hx0⟩, ?_⟩
  refine (iha ok _ h7).dat (f := fun d env1 => intW d fun z => inR z ∧ match env1[i]? with
    | some (.own ds) => ∃ j y, seqIndex? z ds.length = some j ∧ ds[j]? = some y ∧ k.e (.dat y) (env1.set i (.own (ds.eraseIdx j)))
    | some (.mu m ds) => ∃ j y, seqIndex? z ds.length = some j ∧ ds[j]? = some y ∧ k.e (.dat y) (env1.set i (.mu m (ds.eraseIdx j)))
    | _ => False) hw rr xo fun G1 H1 A1 env1 v1 d1 f1 r1 dd1 w => ?_
  unfold intW at w
  split at w
  · rename_i z
    cases dd1
    have fin : ∀ {ds : List PyData} {j : Nat} {y : PyData} {s s' : Sl}, env1[i]? = some s → ((s = .own ds ∧ s' = .own (ds.eraseIdx j)) ∨ ∃ m, s = .mu m ds ∧ s' = .mu m (ds.eraseIdx j)) → seqIndex? z ds.length = some j → ds[j]? = some y → k.e (.dat y) (env1.set i s') →
        rPopAt (.ref p0) [V.int z] H1 Qv := by
      intro ds j y s s' e hs hj hy ke
      obtain ⟨p', s1, hA, l⟩ := r1.lst (i := i) (ds := ds) (by rcases hs with ⟨rfl, _⟩ | ⟨m, rfl, _⟩; exact .inl e; exact .inr ⟨m, e⟩)
      rw [s0] at s1
      cases s1
      obtain ⟨xs, hx, hd⟩ := l.at
      obtain ⟨v, hv, dv⟩ := hd.get hy
      obtain ⟨r2, f2⟩ := r1.write e s0 hA l (xs' := xs.eraseIdx j) (hd.eraseIdx j) hs
      exact ⟨p0, xs, z, j, v, rfl, rfl, hx, by have := w.1.1; omega, by have := w.1.2; omega, by rw [hd.length]; exact hj, hv, q _ _ _ _ _ _ _ ((Po.same r2 dv).pre (f1.trans f2)) ke⟩
    have w2 := w.2
    split at w2
    · rename_i ds e
      obtain ⟨j, y, hj, hy, ke⟩ := w2
      exact fin e (.inl ⟨rfl, rfl⟩) hj hy ke
    · rename_i m ds e
      obtain ⟨j, y, hj, hy, ke⟩ := w2
      exact fin e (.inr ⟨m, rfl, rfl⟩) hj hy ke
    · exact w2.elim
  · exact w.elim
theorem s_tnot {a : N} (iha : IH cf C F a) : IH cf C F (.tnot a) := by
  intro top X E0 ok ast h
  obtain ⟨x, p, rfl, h'⟩ := inv_tnot h
  replace h := h'
  intro env k G H σ as A hw r xo Qv q
  have hw : wp F C a env (kT k.x fun b env1 => k.t (!b) env1) := hw
  refine wT_of (pt_not pt_w) ?_
  exact iha ok _ h env _ G H σ as A hw r xo _ fun G1 H1 A1 env1 b f1 r1 z => q _ _ _ _ _ f1 r1 z
theorem pw_any {X : Cx} {op : BoolOp} {vs : List Expr} {p : Pos} : PW X (.BoolOp op vs p) (wT X (.BoolOp op vs p)) := ⟨fun whole pins s σ H Q I h => h pins s I⟩
theorem s_tand {a b : N} (iha : IH cf C F a) (ihb : IH cf C F b) : IH cf C F (.tand a b) := by
  intro top X E0 ok ast h
  obtain ⟨x, y, r, p, rfl, h'⟩ := inv_tand h
  replace h := h'
  simp only [Bool.and_eq_true] at h
  intro env k G H σ as A hw rr xo Qv q
  have hw : wp F C a env (kT k.x fun t env1 => bothW t (wp F C b env1 k) (k.t false env1)) := hw
  refine wT_of (PW.pt (pw_and pt_w pw_any)) ?_
  refine iha ok _ h.1 env _ G H σ as A hw rr xo _ fun G1 H1 A1 env1 t f1 r1 z => ?_
  have z : bothW t (wp F C b env1 k) (k.t false env1) := z
  cases t with
  | true => exact iteT (ihb ok _ h.2 env1 k G1 H1 σ as A1 (bothT z) r1 (xo.mono f1) _ fun G2 H2 A2 env2 u f2 r2 z => q _ _ _ _ _ (f1.trans f2) r2 z)
  | false => exact iteF (q _ _ _ _ _ f1 r1 (bothF z))
theorem s_tor {a b : N} (iha : IH cf C F a) (ihb : IH cf C F b) : IH cf C F (.tor a b) := by
  intro top X E0 ok ast h
  obtain ⟨x, y, r, p, rfl, h'⟩ := inv_tor h
  replace h := h'
  simp only [Bool.and_eq_true] at h
  intro env k G H σ as A hw rr xo Qv q
  have hw : wp F C a env (kT k.x fun t env1 => bothW t (k.t true env1) (wp F C b env1 k)) := hw
  refine wT_of (PW.pt (pw_or pt_w pw_any)) ?_
  refine iha ok _ h.1 env _ G H σ as A hw rr xo _ fun G1 H1 A1 env1 t f1 r1 z => ?_
  have z : bothW t (k.t true env1) (wp F C b env1 k) := z
  cases t with
  | true => exact iteT (q _ _ _ _ _ f1 r1 (bothT z))
  | false => exact iteF (ihb ok _ h.2 env1 k G1 H1 σ as A1 (bothF z) r1 (xo.mono f1) _ fun G2 H2 A2 env2 u f2 r2 z => q _ _ _ _ _ (f1.trans f2) r2 z)
theorem s_tone {a : N} (iha : IH cf C F a) : IH cf C F (.tone a) := by
  intro top X E0 ok ast h
  rcases inv_tone h with ⟨x, p, rfl, h'⟩ | ⟨x, p, rfl, h'⟩ | ⟨x, rfl, h'⟩
  · intro env k G H σ as A hw r xo Qv q
    have hw : wp F C a env k := hw
    exact wT_of (PW.pt (pw_and1 pt_w)) (iha ok _ h' env k G H σ as A hw r xo Qv q)
  · intro env k G H σ as A hw r xo Qv q
    have hw : wp F C a env k := hw
    exact wT_of (PW.pt (pw_or1 pt_w)) (iha ok _ h' env k G H σ as A hw r xo Qv q)
  · intro env k G H σ as A hw r xo Qv q
    have hw : wp F C a env k := hw
    exact wQ_of (pts_one pt_w) (iha ok _ h' env k G H σ as A hw r xo Qv q)
theorem s_tyes : IH cf C F .tyes := by
  intro top X E0 ok ast h
  obtain ⟨rfl, h'⟩ := inv_tyes h
  intro env k G H σ as A hw r xo Qv q
  have hw : k.t true env := hw
  exact wQ_of pts_nil (q G H A env true (Fr.refl G H A) r hw)
theorem tru_of {K : PySem.W.Frag} {G H : Hp} {v : V} {d : PyData} {k : Bool → Prop} (s : Le G H) (h : Pk K G H v d) (z : truthW d k) : ∃ b, TruV K v H b ∧ k b := by
  unfold truthW at z
  split at z
  · cases h.non; exact ⟨_, rfl, z⟩
  · cases h.bl; exact ⟨_, rfl, z⟩
  · cases h.int; exact ⟨_, rfl, z⟩
  · cases h.str; exact ⟨_, ⟨z.1, rfl⟩, z.2⟩
  · obtain ⟨p, xs, rfl, h1, h2⟩ := h.list s
    refine ⟨!xs.isEmpty, .inl ⟨xs, h1, rfl⟩, ?_⟩
    cases h2 <;> exact z
  · obtain ⟨p, xs, rfl, h1, h2, _⟩ := h.tup s
    refine ⟨!xs.isEmpty, .inr (.inl ⟨xs, h1, rfl⟩), ?_⟩
    cases h2 <;> exact z
  · exact z.elim
theorem s_tval {a : N} (iha : IH cf C F a) : IH cf C F (.tval a) := by
  intro top X E0 ok ast h
  obtain ⟨x, rfl, h'⟩ := inv_tval h
  replace h := h'
  simp only [Bool.and_eq_true] at h
  intro env k G H σ as A hw r xo Qv q
  have hw : opdW1 F C a env k.x (fun d e => truthW d fun b => k.t b e) := hw
  refine wT_of (pt_truth pe_w (isTrue_plainT h.1)) ?_
  refine opd1_ok ok (iha ok _ h.2) h.2 hw r xo fun G1 H1 A1 env1 v d f1 r1 p z => ?_
  obtain ⟨b, h1, h2⟩ := tru_of r1.sub p z
  exact ⟨b, h1, q _ _ _ _ _ f1 r1 h2⟩
/-! what a loop walks -/
theorem wk_list {K : PySem.W.Frag} {G : Hp} {a : Addr} {xs : List V} {ds : List PyData} (h : SqL K G a xs) (hd : DaAll K G xs ds) : Wk K (Itl K a) G ds := by
  refine ⟨fun i H hi s => ?_, fun i H hi s => ⟨xs, s.l h, by rw [hd.length]; exact hi⟩, fun i H x H' d G1 e s1 s2 y => ?_⟩
  · obtain ⟨v, hv, _⟩ := hd.get (i := i) (d := ds[i]) (by simp [hi])
    exact ⟨xs, v, s.l h, hv⟩
  · obtain ⟨rfl, y⟩ := y
    have hx := y xs (s2.l (s1.l h))
    obtain ⟨d', e', dv⟩ := hd.getV hx
    rw [e] at e'
    cases e'
    exact .inl ⟨rfl, Da.le s1 dv⟩
theorem wk_tup {K : PySem.W.Frag} {G : Hp} {a : Addr} {xs : List V} {ds : List PyData} (h : SqT K G a xs) (hd : DaAll K G xs ds) : Wk K (Itt K a) G ds := by
  refine ⟨fun i H hi s => ?_, fun i H hi s => ⟨xs, s.t h, by rw [hd.length]; exact hi⟩, fun i H x H' d G1 e s1 s2 y => ?_⟩
  · obtain ⟨v, hv, _⟩ := hd.get (i := i) (d := ds[i]) (by simp [hi])
    exact ⟨xs, v, s.t h, hv⟩
  · obtain ⟨rfl, y⟩ := y
    have hx := y xs (s2.t (s1.t h))
    obtain ⟨d', e', dv⟩ := hd.getV hx
    rw [e] at e'
    cases e'
    exact .inl ⟨rfl, Da.le s1 dv⟩
theorem wk_range {K : PySem.W.Frag} {G : Hp} {lo : Int} {n : Nat} : Wk K (Itr lo n) G (rangeD lo n) := by
  have hl : (rangeD lo n).length = n := by unfold rangeD; rw [List.length_map, List.length_range]
  refine ⟨fun i H hi _ => by rw [hl] at hi; exact hi, fun i H hi _ => by rw [hl] at hi; exact hi, fun i H x H' d G1 e _ _ y => ?_⟩
  obtain ⟨rfl, rfl⟩ := y
  have hi : i < n := by rw [← hl]; exact (List.getElem?_eq_some_iff.mp e).1
  unfold rangeD at e
  rw [List.getElem?_map, List.getElem?_range hi] at e
  cases e
  exact .inl ⟨rfl, .int _⟩
theorem wk_str {K : PySem.W.Frag} {G : Hp} {x : Str} : Wk K (Its x) G (chars x) := by
  have hl : (chars x).length = x.cps.size := by unfold chars; rw [List.length_map, Array.length_toList]
  refine ⟨fun i H hi _ => by rw [hl] at hi; exact hi, fun i H hi _ => by rw [hl] at hi; exact hi, fun i H v H' d G1 e _ _ y => ?_⟩
  obtain ⟨rfl, c, hc, rfl⟩ := y
  unfold chars at e
  rw [List.getElem?_map, Array.getElem?_toList, hc] at e
  cases e
  exact .inl ⟨rfl, .str _⟩
theorem s_itl {a : N} (iha : IH cf C F a) : IH cf C F (.itl a) := by
  intro top X E0 ok ast h
  obtain ⟨tg, x, rfl, h'⟩ := inv_itl h
  replace h := h'
  intro env k G H σ as A hw r xo R q
  have hw : wp F C a env (kE k.x fun r env1 => walkL r.d fun ds => k.i ds env1) := hw
  refine wI_of (pi_walk pe_w) ?_
  refine (iha ok _ h).dat (f := fun d env1 => walkL d fun ds => k.i ds env1) hw r xo fun G1 H1 A1 env1 v d f1 r1 dd z => ?_
  unfold walkL at z
  split at z
  · cases dd with
    | lst h1 h2 => exact .inl ⟨_, _, rfl, r1.sub.l h1, q _ _ _ _ _ _ f1 r1 (wk_list h1 h2) z⟩
  · cases dd with
    | tup h1 h2 => exact .inr (.inl ⟨_, _, rfl, r1.sub.t h1, q _ _ _ _ _ _ f1 r1 (wk_tup h1 h2) z⟩)
  · cases dd
    exact .inr (.inr ⟨_, rfl, q _ _ _ _ _ _ f1 r1 wk_str z⟩)
  · exact z.elim
theorem enumD_get : ∀ {ds : List PyData} {n : Int} {i : Nat} {d : PyData}, (enumD n ds)[i]? = some d → ∃ e, ds[i]? = some e ∧ d = .tuple [.int (n + i), e]
  | [], _, _, _, h => by simp [enumD] at h
  | e :: ds, n, 0, d, h => by
    cases h
    exact ⟨e, rfl, by simp⟩
  | e :: ds, n, i + 1, d, h => by
    obtain ⟨x, h1, rfl⟩ := enumD_get (ds := ds) (n := n + 1) (i := i) (d := d) h
    exact ⟨x, h1, by rw [show n + 1 + (i : Int) = n + ((i + 1 : Nat) : Int) by omega]⟩
theorem enumD_len : ∀ {ds : List PyData} {n : Int}, (enumD n ds).length = ds.length
  | [], _ => rfl
  | _ :: ds, n => congrArg (· + 1) (enumD_len (ds := ds) (n := n + 1))
theorem wk_enum {K : PySem.W.Frag} {G : Hp} {a : Addr} {xs : List V} {ds : List PyData} (h : SqL K G a xs) (hd : DaAll K G xs ds) : Wk K (Ite K a) G (enumD 0 ds) := by
  refine ⟨fun i H hi s => ?_, fun i H hi s => ⟨xs, s.l h, by rw [hd.length, ← enumD_len (n := 0)]; exact hi⟩, fun i H x H' d G1 e s1 s2 y => ?_⟩
  · rw [enumD_len] at hi
    obtain ⟨v, hv, _⟩ := hd.get (i := i) (d := ds[i]) (by simp [hi])
    exact ⟨xs, v, s.l h, hv⟩
  · obtain ⟨T, y, rfl, hT, rfl, hy⟩ := y
    have hx := hy xs (s2.l (s1.l h))
    obtain ⟨d', e', dv⟩ := hd.getV hx
    obtain ⟨e2, e3, rfl⟩ := enumD_get e
    rw [e'] at e3
    cases e3
    have g1 : Le G1 (upd G1 T (.tup [.int (i : Nat), y])) := Le.new (by
      cases q : G1 T with
      | none => rfl
      | some u => have := s2 T u q; rw [hT] at this; cases this)
    refine .inr ⟨T, .tup [.int (i : Nat), y], hT, rfl, .tup (SqT.of upd_same) (.cons ?_ (.cons (Da.le (s1.trans g1) dv) .nil))⟩
    rw [Int.zero_add]
    exact .int _
theorem wk_enumT {K : PySem.W.Frag} {G : Hp} {a : Addr} {xs : List V} {ds : List PyData} (h : SqT K G a xs) (hd : DaAll K G xs ds) : Wk K (IteT K a) G (enumD 0 ds) := by
  refine ⟨fun i H hi s => ?_, fun i H hi s => ⟨xs, s.t h, by rw [hd.length, ← enumD_len (n := 0)]; exact hi⟩, fun i H x H' d G1 e s1 s2 y => ?_⟩
  · rw [enumD_len] at hi
    obtain ⟨v, hv, _⟩ := hd.get (i := i) (d := ds[i]) (by simp [hi])
    exact ⟨xs, v, s.t h, hv⟩
  · obtain ⟨T, y, rfl, hT, rfl, hy⟩ := y
    have hx := hy xs (s2.t (s1.t h))
    obtain ⟨d', e', dv⟩ := hd.getV hx
    obtain ⟨e2, e3, rfl⟩ := enumD_get e
    rw [e'] at e3
    cases e3
    have g1 : Le G1 (upd G1 T (.tup [.int (i : Nat), y])) := Le.new (by
      cases q : G1 T with
      | none => rfl
      | some u => have := s2 T u q; rw [hT] at this; cases this)
    refine .inr ⟨T, .tup [.int (i : Nat), y], hT, rfl, .tup (SqT.of upd_same) (.cons ?_ (.cons (Da.le (s1.trans g1) dv) .nil))⟩
    rw [Int.zero_add]
    exact .int _
theorem s_iten {a : N} (iha : IH cf C F a) : IH cf C F (.iten a) := by
  intro top X E0 ok ast h
  obtain ⟨es, kk, tp, x, p, y, p2, rfl, h'⟩ := inv_iten h
  replace h := h'
  simp only [Bool.and_eq_true, beq_iff_eq] at h
  obtain ⟨⟨⟨⟨h1, h2⟩, h3⟩, h4⟩, h5⟩ := h
  subst h1
  intro env k G H σ as A hw r xo R q
  have hw : wp F C a env (kE k.x fun r env1 => enumW r.d fun ds => k.i ds env1) := hw
  refine wI_of (pi_enumA (glB_of h2) (ok.bl _ h3) (pa_cons pe_w pa_nil (star1 h4)) (star1 h4)) ?_
  refine (iha ok _ h5).dat (f := fun d env1 => enumW d fun ds => k.i ds env1) hw r xo fun G1 H1 A1 env1 v d f1 r1 dd z => ?_
  unfold enumW at z
  split at z
  · cases dd with
    | lst h1 h2 => exact ⟨_, _, rfl, .inl ⟨r1.sub.l h1, q _ _ _ _ _ _ f1 r1 (wk_enum h1 h2) z⟩⟩
  · cases dd with
    | tup h1 h2 => exact ⟨_, _, rfl, .inr ⟨r1.sub.t h1, q _ _ _ _ _ _ f1 r1 (wk_enumT h1 h2) z⟩⟩
  · exact z.elim
theorem zipD_get : ∀ {as bs : List PyData} {i : Nat} {d : PyData}, (zipD as bs)[i]? = some d → ∃ a b, as[i]? = some a ∧ bs[i]? = some b ∧ d = .tuple [a, b]
  | [], bs, _, _, h => by simp [zipD] at h
  | a :: as, [], _, _, h => by simp [zipD] at h
  | a :: as, b :: bs, 0, d, h => by
    cases h
    exact ⟨a, b, rfl, rfl, rfl⟩
  | a :: as, b :: bs, i + 1, d, h => zipD_get (as := as) (bs := bs) (i := i) (d := d) h
theorem zipD_len : ∀ {as bs : List PyData}, (zipD as bs).length = min as.length bs.length
  | [], bs => by simp [zipD]
  | a :: as, [] => by simp [zipD]
  | a :: as, b :: bs => by simp [zipD, zipD_len (as := as) (bs := bs), Nat.succ_min_succ]
theorem wk_zip {K : PySem.W.Frag} {G : Hp} {a b : Addr} {xs ys : List V} {ds es : List PyData} (h : SqL K G a xs) (hd : DaAll K G xs ds) (h' : SqL K G b ys) (hd' : DaAll K G ys es) : Wk K (Itz K a b) G (zipD ds es) := by
  refine ⟨fun i H hi s => ?_, fun i H hi s => ⟨xs, ys, s.l h, s.l h', by rw [hd.length, hd'.length]; rw [zipD_len] at hi; omega⟩, fun i H x H' d G1 e s1 s2 y => ?_⟩
  · rw [zipD_len] at hi
    obtain ⟨v, hv, _⟩ := hd.get (i := i) (d := ds[i]) (by simp [show i < ds.length by omega])
    obtain ⟨w, hw, _⟩ := hd'.get (i := i) (d := es[i]) (by simp [show i < es.length by omega])
    exact ⟨xs, ys, v, w, s.l h, s.l h', hv, hw⟩
  · obtain ⟨T, x, y, rfl, hT, rfl, hx, hy⟩ := y
    have hx := hx xs (s2.l (s1.l h))
    have hy := hy ys (s2.l (s1.l h'))
    obtain ⟨d1, e1, dv1⟩ := hd.getV hx
    obtain ⟨d2, e2, dv2⟩ := hd'.getV hy
    obtain ⟨z1, z2, z3, z4, rfl⟩ := zipD_get e
    rw [e1] at z3; cases z3
    rw [e2] at z4; cases z4
    have g1 : Le G1 (upd G1 T (.tup [x, y])) := Le.new (by
      cases q : G1 T with
      | none => rfl
      | some u => have := s2 T u q; rw [hT] at this; cases this)
    exact .inr ⟨T, .tup [x, y], hT, rfl, .tup (SqT.of upd_same) (.cons (Da.le (s1.trans g1) dv1) (.cons (Da.le (s1.trans g1) dv2) .nil))⟩
theorem wk_zipT {K : PySem.W.Frag} {G : Hp} {a b : Addr} {xs ys : List V} {ds es : List PyData} (h : SqT K G a xs) (hd : DaAll K G xs ds) (h' : SqT K G b ys) (hd' : DaAll K G ys es) : Wk K (RZ.ItzT K a b) G (zipD ds es) := by
  refine ⟨fun i H hi s => ?_, fun i H hi s => ⟨xs, ys, s.t h, s.t h', by rw [hd.length, hd'.length]; rw [zipD_len] at hi; omega⟩, fun i H x H' d G1 e s1 s2 y => ?_⟩
  · rw [zipD_len] at hi
    obtain ⟨v, hv, _⟩ := hd.get (i := i) (d := ds[i]) (by simp [show i < ds.length by omega])
    obtain ⟨w, hw, _⟩ := hd'.get (i := i) (d := es[i]) (by simp [show i < es.length by omega])
    exact ⟨xs, ys, v, w, s.t h, s.t h', hv, hw⟩
  · obtain ⟨T, x, y, rfl, hT, rfl, hx, hy⟩ := y
    have hx := hx xs (s2.t (s1.t h))
    have hy := hy ys (s2.t (s1.t h'))
    obtain ⟨d1, e1, dv1⟩ := hd.getV hx
    obtain ⟨d2, e2, dv2⟩ := hd'.getV hy
    obtain ⟨z1, z2, z3, z4, rfl⟩ := zipD_get e
    rw [e1] at z3; cases z3
    rw [e2] at z4; cases z4
    have g1 : Le G1 (upd G1 T (.tup [x, y])) := Le.new (by
      cases q : G1 T with
      | none => rfl
      | some u => have := s2 T u q; rw [hT] at this; cases this)
    exact .inr ⟨T, .tup [x, y], hT, rfl, .tup (SqT.of upd_same) (.cons (Da.le (s1.trans g1) dv1) (.cons (Da.le (s1.trans g1) dv2) .nil))⟩
theorem s_itz {a b : N} (iha : IH cf C F a) (ihb : IH cf C F b) : IH cf C F (.itz a b) := by
  intro top X E0 ok ast h
  obtain ⟨es, kk, tp, x, p, y, w, p2, rfl, h'⟩ := inv_itz h
  replace h := h'
  simp only [Bool.and_eq_true, beq_iff_eq] at h
  obtain ⟨⟨⟨⟨⟨⟨h1, h2⟩, h3⟩, h4⟩, h5⟩, h6⟩, h7⟩ := h
  subst h1
  intro env k G H σ as A hw r xo R q
  have hw : wp F C a env (kE k.x fun ra env1 => wp F C b env1 (kE k.x fun rb env2 => zipW ra.d rb.d fun ds => k.i ds env2)) := hw
  refine wI_of (RZ.pi_zipA (glB_of h2) (ok.bl _ h3) (pa_cons pe_w (pa_cons pe_w pa_nil (star1 h5)) (star1 h4)) (star1 h4) (by rw [star1 h5]; rfl)) ?_
  refine (iha ok _ h6).dat (f := fun d env1 => wp F C b env1 (kE k.x fun rb env2 => zipW d rb.d fun ds => k.i ds env2)) hw r xo fun G1 H1 A1 env1 v1 d1 f1 r1 dd1 z => ?_
  refine (ihb ok _ h7).dat (f := fun d env2 => zipW d1 d fun ds => k.i ds env2) z r1 (xo.mono f1) fun G2 H2 A2 env2 v2 d2 f2 r2 dd2 z => ?_
  have dd1 := Da.le f2.gg dd1
  unfold zipW at z
  split at z
  · cases dd1 with
    | lst g1 g2 =>
      cases dd2 with
      | lst g3 g4 => exact ⟨_, _, _, _, rfl, .inl ⟨r2.sub.l g1, r2.sub.l g3, q _ _ _ _ _ _ (f1.trans f2) r2 (wk_zip g1 g2 g3 g4) z⟩⟩
  · cases dd1 with
    | tup g1 g2 =>
      cases dd2 with
      | tup g3 g4 => exact ⟨_, _, _, _, rfl, .inr ⟨r2.sub.t g1, r2.sub.t g3, q _ _ _ _ _ _ (f1.trans f2) r2 (wk_zipT g1 g2 g3 g4) z⟩⟩
  · exact z.elim
theorem s_itr1 {a : N} (iha : IH cf C F a) : IH cf C F (.itr1 a) := by
  intro top X E0 ok ast h
  obtain ⟨tg, x, p, y, p2, rfl, h'⟩ := inv_itr1 h
  replace h := h'
  simp only [Bool.and_eq_true, beq_iff_eq] at h
  obtain ⟨⟨⟨⟨h1, h2⟩, h3⟩, h4⟩, h5⟩ := h
  subst h1
  intro env k G H σ as A hw r xo R q
  have hw : wp F C a env (kE k.x fun r env1 => intW r.d fun n => inR n ∧ k.i (rangeD 0 n.toNat) env1) := hw
  refine wI_of (pi_range1 (glB_of h2) (ok.bl _ h3) (pa_cons pe_w pa_nil (star1 h4)) (star1 h4)) ?_
  refine (iha ok _ h5).dat (f := fun d env1 => intW d fun n => inR n ∧ k.i (rangeD 0 n.toNat) env1) hw r xo fun G1 H1 A1 env1 v d f1 r1 dd z => ?_
  unfold intW at z
  split at z
  · cases dd
    exact ⟨_, rfl, z.1.1, z.1.2, q _ _ _ _ _ _ f1 r1 wk_range z.2⟩
  · exact z.elim
theorem s_itr2 {a b : N} (iha : IH cf C F a) (ihb : IH cf C F b) : IH cf C F (.itr2 a b) := by
  intro top X E0 ok ast h
  obtain ⟨tg, x, p, y, w, p2, rfl, h'⟩ := inv_itr2 h
  replace h := h'
  simp only [Bool.and_eq_true, beq_iff_eq] at h
  obtain ⟨⟨⟨⟨⟨⟨h1, h2⟩, h3⟩, h4⟩, h5⟩, h6⟩, h7⟩ := h
  subst h1
  intro env k G H σ as A hw r xo R q
  have hw : wp F C a env (kE k.x fun ra env1 => wp F C b env1 (kE k.x fun rb env2 => intW ra.d fun i => intW rb.d fun j => inR i ∧ inR j ∧ k.i (rangeD i (j - i).toNat) env2)) := hw
  refine wI_of (pi_range2 (glB_of h2) (ok.bl _ h3) (pa_cons pe_w (pa_cons pe_w pa_nil (star1 h5)) (star1 h4)) (by rw [star1 h4, star1 h5]; rfl) (star1 h5)) ?_
  refine (iha ok _ h6).dat (f := fun d env1 => wp F C b env1 (kE k.x fun rb env2 => intW d fun i => intW rb.d fun j => inR i ∧ inR j ∧ k.i (rangeD i (j - i).toNat) env2)) hw r xo fun G1 H1 A1 env1 v1 d1 f1 r1 dd1 z => ?_
  refine (ihb ok _ h7).dat (f := fun d env2 => intW d1 fun i => intW d fun j => inR i ∧ inR j ∧ k.i (rangeD i (j - i).toNat) env2) z r1 (xo.mono f1) fun G2 H2 A2 env2 v2 d2 f2 r2 dd2 z => ?_
  unfold intW at z
  split at z
  · split at z
    · cases dd1; cases dd2
      exact ⟨_, _, rfl, ⟨z.1.1, z.1.2, z.2.1.1, z.2.1.2⟩, q _ _ _ _ _ _ (f1.trans f2) r2 wk_range z.2.2⟩
    · exact z.elim
  · exact z.elim
theorem attr_base {o : Expr} {nm : Str} {env : Env} (h : noCall o = true) : ∀ w, attributeBase o nm env w = w := by
  intro w
  cases o <;> first | rfl | exact absurd h Bool.false_ne_true
theorem gl_v {X : Cx} {x : Str} {p : Pos} {v : Value} {y : V} (hg : Gl X x) (hm : X.mg x = some v) : True := trivial
theorem pe_lib {X : Cx} {id : String} {x : Str} {p pos : Pos} {e : Expr} {es : List Expr} {t : TA} {r : List V → Hp → VK → Prop} (hc : CallR X (.builtin id) r) (hg : Gl X x) (hm : X.mg x = some (.builtin id)) (ha : PA X (e :: es) t) (hx : (x == ("__debug__" : Str)) = false)
    (h1 : starEach (e :: es) X.env = (false, eval e X.env) :: starEach es X.env) (h2 : (backTo pos (starEach es X.env)).any (·.1) = false) : PE X (.Call (.Name x p) (e :: es) [] pos) (tCB r t) := by
  constructor
  intro pins s σ H Q I h
  refine wpAny_Call_Name_kw (ld_glob I hg hm ?_ hx)
  refine PyProof.Rows.callWith_builtin1 (thn (ha.run pos pins s σ H _ I h) fun us s1 z => ?_) h1 h2
  obtain ⟨vs, H1, I1, r1, z⟩ := z
  exact hc pins s1 σ H1 vs us Q I1 r1 z
theorem s_lib {f : LF} {a b : N} (iha : IH cf C F a) (ihb : IH cf C F b) : IH cf C F (.lib f a b) := by
  intro top X E0 ok ast h
  obtain ⟨x, p, y, w, p2, rfl, h'⟩ := inv_lib h
  replace h := h'
  simp only [Bool.and_eq_true, beq_iff_eq] at h
  obtain ⟨⟨⟨⟨⟨⟨⟨h1, h2⟩, h0⟩, h3⟩, h4⟩, h5⟩, h6⟩, h7⟩ := h
  subst h1
  intro env k G H σ as A hw r xo Qv q
  have hw : wp F C a env (kE k.x fun ra env1 => wp F C b env1 (kE k.x fun rb env2 => libW f ra.d rb.d fun r => k.e r env2)) := hw
  have key : ∀ {P : V → V → Hp → Prop}, (∀ G' H' A' env' v1 v2 d1 d2, Fr G H A G' H' A' → Rel X.K G' H' σ env' as A' → Da X.K G' v1 d1 → Da X.K G' v2 d2 → libW f d1 d2 (fun r => k.e r env') → P v1 v2 H') →
      wE X y σ H fun v1 H1 => wE X w σ H1 fun v2 H2 => P v1 v2 H2 := by
    intro P q
    refine (iha ok _ h6).dat (f := fun d env1 => wp F C b env1 (kE k.x fun rb env2 => libW f d rb.d fun r => k.e r env2)) hw r xo fun G1 H1 A1 env1 v1 d1 f1 r1 dd1 z => ?_
    refine (ihb ok _ h7).dat (f := fun d env2 => libW f d1 d fun r => k.e r env2) z r1 (xo.mono f1) fun G2 H2 A2 env2 v2 d2 f2 r2 dd2 z => ?_
    exact q _ _ _ _ _ _ _ _ (f1.trans f2) r2 (Da.le f2.gg dd1) dd2 z
  have hm := ok.lb f h3
  have pl : ∀ pos, (backTo pos (starEach [w] X.env)).any (·.1) = false := star_all (by rw [List.all_cons, h5]; rfl)
  cases f with
  | lcm =>
    refine wE_of (pe_lib cr_lcm (glB_of h2) hm (pa_cons pe_w (pa_cons pe_w pa_nil (star1 h5)) (star1 h4)) (okN_of h0).1 (star1 h4) (pl _)) (key fun G' H' A' env' v1 v2 d1 d2 f' r' e1 e2 z => ?_)
    unfold libW at z
    split at z
    · rename_i i j _
      cases e1; cases e2
      exact ⟨_, _, rfl, z.1, z.2.1, q _ _ _ _ _ _ _ ((Po.same r' (.int _)).pre f') z.2.2⟩
    · rename_i i j _ z0
      cases z0
    · exact z.elim
  | gcd =>
    refine wE_of (pe_lib L2.cr_gcd (glB_of h2) hm (pa_cons pe_w (pa_cons pe_w pa_nil (star1 h5)) (star1 h4)) (okN_of h0).1 (star1 h4) (pl _)) (key fun G' H' A' env' v1 v2 d1 d2 f' r' e1 e2 z => ?_)
    unfold libW at z
    split at z
    · rename_i i j _ z0
      cases z0
    · rename_i i j _ _
      cases e1; cases e2
      exact ⟨_, _, rfl, q _ _ _ _ _ _ _ ((Po.same r' (.int _)).pre f') z⟩
    · exact z.elim
theorem strs_da {K : PySem.W.Frag} {G : Hp} : ∀ {vs : List V} {ys : List Str}, DaAll K G vs (ys.map PyData.str) → vs = ys.map V.str
  | [], [], _ => rfl
  | v :: vs, y :: ys, .cons h t => by
    cases h
    rw [strs_da t]; rfl
theorem da_strs {K : PySem.W.Frag} {G : Hp} : ∀ (ys : List Str), DaAll K G (ys.map V.str) (ys.map PyData.str)
  | [] => .nil
  | y :: ys => .cons (.str y) (da_strs ys)
theorem s_m1 {m : MT1} {a b : N} (iha : IH cf C F a) (ihb : IH cf C F b) : IH cf C F (.m1 m a b) := by
  intro top X E0 ok ast h
  obtain ⟨o, mm, ap, y, cp, rfl, h'⟩ := inv_m1 h
  replace h := h'
  simp only [Bool.and_eq_true] at h
  obtain ⟨⟨⟨⟨⟨h1, h2⟩, h3⟩, h4⟩, h5⟩, h6⟩ := h
  cases beq_iff_eq.mp h2
  intro env k G H σ as A hw r xo Qv q
  have hw : wp F C a env (kE k.x fun ra env1 => strW ra.d fun x => opdW1 F C b env1 k.x fun y e => m1W m x y fun r => k.e r e) := hw
  have key : ∀ {P : Str → V → Hp → Prop}, (∀ G' H' A' env' x v2 d2, Fr G H A G' H' A' → Rel X.K G' H' σ env' as A' → Pk X.K G' H' v2 d2 → m1W m x d2 (fun r => k.e r env') → P x v2 H') →
      wE X o σ H fun v1 H1 => ∃ x, v1 = .str x ∧ wE X y σ H1 fun v2 H2 => P x v2 H2 := by
    intro P q
    refine (iha ok _ h5).dat (f := fun d env1 => strW d fun x => opdW1 F C b env1 k.x fun y e => m1W m x y fun r => k.e r e) hw r xo fun G1 H1 A1 env1 v1 d1 f1 r1 dd1 z => ?_
    unfold strW at z
    split at z
    · cases dd1
      refine ⟨_, rfl, opd1_ok ok (ihb ok _ h6) h6 z r1 (xo.mono f1) fun G2 H2 A2 env2 v2 d2 f2 r2 p2 z => ?_⟩
      exact q _ _ _ _ _ _ _ (f1.trans f2) r2 p2 z
    · exact z.elim
  have nm : ∀ {nm : Str}, attributeBase o nm X.env (eval o X.env) = eval o X.env := attr_base h3 _
  cases m with
  | join =>
    refine wE_of (pe_m1 PySem.F.slot_str_join PySem.F.type_str_join mt_join pe_w pe_w (star1 h4) nm h1) ?_
    refine wE_mono (key (P := fun x v2 H2 => ∃ a p, ∃ ys : List Str, V.str x = .str a ∧ [v2] = [.ref p] ∧ (SqL X.K H2 p (ys.map V.str) ∨ SqT X.K H2 p (ys.map V.str)) ∧ (ys.map (·.length)).sum + ys.length * a.length ≤ 16777216 ∧ Qv (.str (Txt.join a ys)) H2) fun G' H' A' env' x v2 d2 f' r' p z => ?_) fun v1 H1 z => ?_
    · unfold m1W at z
      split at z
      · obtain ⟨ys, rfl, z1, z2⟩ := z
        obtain ⟨pa, xs, rfl, g1, g2⟩ := p.list r'.sub
        rw [strs_da g2] at g1
        exact ⟨_, pa, ys, rfl, rfl, .inl g1, z1, q _ _ _ _ _ _ _ ((Po.same r' (.str _)).pre f') z2⟩
      · obtain ⟨ys, rfl, z1, z2⟩ := z
        obtain ⟨pa, xs, rfl, g1, g2, _⟩ := p.tup r'.sub
        rw [strs_da g2] at g1
        exact ⟨_, pa, ys, rfl, rfl, .inr g1, z1, q _ _ _ _ _ _ _ ((Po.same r' (.str _)).pre f') z2⟩
      · rename_i e; cases e
      · rename_i e; cases e
      · exact z.elim
    · obtain ⟨x, rfl, z⟩ := z
      exact ⟨⟨x, rfl⟩, z⟩
  | split =>
    refine wE_of (pe_m1 PySem.F.slot_str_split PySem.F.type_str_split mt_split pe_w pe_w (star1 h4) nm h1) ?_
    refine wE_mono (key (P := fun x v2 H2 => ∃ a b, V.str x = .str a ∧ [v2] = [.str b] ∧ (b.length == 0) = false ∧ a.length + 2 ≤ sizeLine ∧ rNewStrs (Txt.split a b) H2 Qv) fun G' H' A' env' x v2 d2 f' r' p z => ?_) fun v1 H1 z => ?_
    · unfold m1W at z
      split at z
      · rename_i e; cases e
      · rename_i e; cases e
      · cases p.str
        exact ⟨_, _, rfl, rfl, z.1, z.2.1, fun l hl => q _ _ _ _ _ _ _ ((Po.newL r' hl (da_strs _)).pre f') z.2.2⟩
      · rename_i e; cases e
      · exact z.elim
    · obtain ⟨x, rfl, z⟩ := z
      exact ⟨⟨x, rfl⟩, z⟩
  | starts =>
    refine wE_of (pe_m1 PySem.F.slot_str_startswith PySem.F.type_str_startswith mt_startswith pe_w pe_w (star1 h4) nm h1) ?_
    refine wE_mono (key (P := fun x v2 H2 => ∃ a b, V.str x = .str a ∧ [v2] = [.str b] ∧ Qv (.bl (Txt.startswith a b)) H2) fun G' H' A' env' x v2 d2 f' r' p z => ?_) fun v1 H1 z => ?_
    · unfold m1W at z
      split at z
      · rename_i e; cases e
      · rename_i e; cases e
      · rename_i e; cases e
      · cases p.str
        exact ⟨_, _, rfl, rfl, q _ _ _ _ _ _ _ ((Po.same r' (.bl _)).pre f') z⟩
      · exact z.elim
    · obtain ⟨x, rfl, z⟩ := z
      exact ⟨⟨x, rfl⟩, z⟩
theorem s_lix {a b : N} (iha : IH cf C F a) (ihb : IH cf C F b) : IH cf C F (.lix a b) := by
  intro top X E0 ok ast h
  obtain ⟨o, mm, ap, y, cp, rfl, h'⟩ := inv_lix h
  replace h := h'
  simp only [Bool.and_eq_true] at h
  obtain ⟨⟨⟨⟨⟨h1, h2⟩, h3⟩, h4⟩, h5⟩, h6⟩ := h
  cases beq_iff_eq.mp h2
  intro env k G H σ as A hw r xo Qv q
  have fin : ∀ {G' H' : Hp} {A' : Ft} {env' : Ev} {v1 v2 : V} {d1 d2 : PyData}, Fr G H A G' H' A' → Rel X.K G' H' σ env' as A' → Pk X.K G' H' v1 d1 → Da X.K G' v2 d2 → lixW d1 d2 (fun r => k.e r env') → rIndexD X.K v1 [v2] H' Qv := by
    intro G' H' A' env' v1 v2 d1 d2 f' r' p1 e2 z
    unfold lixW at z
    split at z
    · obtain ⟨z1, z2, j, w, z3, z4, z5, z6⟩ := z
      have e1 := p1.da r'.sub
      cases e1 with
      | lst g1 g2 => exact ⟨_, _, _, _, j, w, rfl, rfl, (Da.lst g1 g2).dp, (Da.le r'.sub e2).dp, z1, z2, z3, z4, z5, q _ _ _ _ _ _ _ ((Po.same r' (.int _)).pre f') z6⟩
    · exact z.elim
  refine wE_of (pe_bm PySem.F.plainAttrs_list PySem.F.slot_list_index PySem.F.type_list_index (mt_indexD (by have := ok.units; omega)) pe_w (pa_cons pe_w pa_nil (star1 h4)) (attr_base h3 _) (by rw [star1 h4]; rfl) h1 (star1 h4) rfl) ?_
  have hw : (match a.isV with
    | some i => peek env i fun x => listW x <| wp F C b env (kE k.x fun rb env1 => peek env1 i fun x => lixW x rb.d fun r => k.e r env1)
    | none => wp F C a env (kE k.x fun ra env1 => listW ra.d <| wp F C b env1 (kE k.x fun rb env2 => lixW ra.d rb.d fun r => k.e r env2))) := hw
  split at hw
  · rename_i i hi
    cases N.isV_some hi
    obtain ⟨d1, v1, s1, p1, hw⟩ := r.peek hw
    unfold listW at hw
    split at hw
    · have e1 := p1.da r.sub
      refine var_ok ok h5 s1 ?_
      cases e1 with
      | lst g1 g2 =>
        refine ⟨.inl ⟨rfl, _, g1⟩, ?_⟩
        refine (ihb ok _ h6).dat (f := fun d env1 => peek env1 i fun x => lixW x d fun r => k.e r env1) hw r xo fun G1 H1 A1 env1 v2 d2 f1 r1 dd z => ?_
        obtain ⟨d3, v3, s3, p3, z⟩ := r1.peek z
        rw [s1] at s3
        cases s3
        exact fin f1 r1 p3 dd z
    · exact hw.elim
  · refine (iha ok _ h5).dat (f := fun d env1 => listW d <| wp F C b env1 (kE k.x fun rb env2 => lixW d rb.d fun r => k.e r env2)) hw r xo fun G1 H1 A1 env1 v1 d1 f1 r1 dd z => ?_
    unfold listW at z
    split at z
    · cases dd with
      | lst g1 g2 =>
        refine ⟨.inl ⟨rfl, _, r1.sub.l g1⟩, ?_⟩
        refine (ihb ok _ h6).dat (f := fun d env2 => lixW _ d fun r => k.e r env2) z r1 (xo.mono f1) fun G2 H2 A2 env2 v2 d2 f2 r2 dd2 z => ?_
        exact fin (f1.trans f2) r2 (.inl (Da.le f2.gg (.lst g1 g2))) dd2 z
    · exact z.elim
end
end Pi

namespace Pi
open PySem L2 PySem.Spec PyProof.Rows
section
variable {cf : Cf} {C : Nat → Option PyData} {F : Fs} {X : Cx} {E0 : WX} {top : Bool} {G H : Hp} {σ : L2.St} {env : Ev} {as : As} {A : Ft}
theorem wipe_get {is : List Nat} {σ : L2.St} {j : Nat} : (wipe σ is)[j]? = if j ∈ is then (if j < σ.length then some none else none) else σ[j]? := by
  induction is with
  | nil => simp [wipe]
  | cons i is ih =>
    unfold wipe
    by_cases e : j = i
    · subst e
      rw [if_pos (by simp)]
      by_cases h : j < σ.length
      · rw [if_pos h, List.getElem?_set_self (by rw [wipe_length]; exact h)]
      · rw [if_neg h, List.getElem?_eq_none (by rw [List.length_set, wipe_length]; omega)]
    · rw [List.getElem?_set_ne (Ne.symm e), ih]
      by_cases h : j ∈ is
      · rw [if_pos h, if_pos (List.mem_cons_of_mem _ h)]
      · rw [if_neg h, if_neg (by simp [e, h])]
theorem wipe_set {is : List Nat} {σ : L2.St} {i : Nat} {v : Option V} (h : i ∈ is) : wipe (σ.set i v) is = wipe σ is := by
  apply List.ext_getElem?
  intro j
  rw [wipe_get, wipe_get, List.length_set]
  by_cases e : j ∈ is
  · rw [if_pos e, if_pos e]
  · rw [if_neg e, if_neg e, List.getElem?_set_ne (show i ≠ j from fun z => e (by rw [← z]; exact h))]
theorem wipe_wipe {is : List Nat} {σ : L2.St} : wipe (wipe σ is) is = wipe σ is := by
  apply List.ext_getElem?
  intro j
  rw [wipe_get, wipe_get, wipe_length]
  by_cases e : j ∈ is
  · rw [if_pos e, if_pos e]
  · rw [if_neg e, if_neg e]
theorem loc_of (ok : Ok cf C F top X E0) {y : Str} (h : locB top X.env.scope y = true) : Loc X.env.scope y ∧ (X.fn y = true ∨ X.env.scope.names.lookup y = some .local) := by
  unfold locB at h
  simp only [Bool.or_eq_true, Bool.and_eq_true, beq_iff_eq] at h
  rcases h with h | ⟨h1, h2⟩
  · exact ⟨.inl h, .inr h⟩
  · exact ⟨.inr h2, .inl (ok.fnT h1 y)⟩
theorem Fr.drop {i : Nat} : Fr G H A G H (A.set i no0) := ⟨Le.refl G, fun _ _ h _ => h, fun _ _ h => .inl h, fun j b h => by
  by_cases e : j = i
  · subst e; exact (Ft.set_self.mp h).elim
  · exact .inl ⟨j, (Ft.set_ne e).mp h⟩⟩
theorem ilt (ok : Ok cf C F top X E0) {pins : List (Addr × Obj)} {s : Shared} (I : Inv X pins σ H s) (r : Rel X.K G H σ env as A) {i : Nat} {y : Str} (h : cf.N[i]? = some y) : i < env.length := by
  rw [← r.len, I.len, ok.hN]
  exact (List.getElem?_eq_some_iff.mp h).1
/-- several names -/
def gNs : List Nat → TGs
  | [] => gNil
  | i :: is => gCons (gName i) (gNs is)
theorem pgs_ns (ok : Ok cf C F top X E0) : ∀ {is : List Nat} {es : List Expr}, namesB cf top X.env.scope is es = true → PGs X es (gNs is) ∧ (assignEach es X.env).length = is.length ∧ (assignEach es X.env).findIdx? (·.1) = none
  | [], [], _ => ⟨pgs_nil, rfl, rfl⟩
  | [], _ :: _, h => by cases h
  | i :: is, [], h => by cases h
  | i :: is, e :: r, h => by
    cases e <;> first | exact absurd h Bool.false_ne_true | skip
    rename_i y p
    have h : ((cf.N[i]? == some y) && locB top X.env.scope y && namesB cf top X.env.scope is r) = true := h
    simp only [Bool.and_eq_true, beq_iff_eq] at h
    obtain ⟨h1, h2, h3⟩ := pgs_ns ok h.2
    obtain ⟨l1, l2⟩ := loc_of ok h.1.2
    refine ⟨pgs_cons (pg_name ok.nd (by rw [ok.hN]; exact h.1.1) l1 l2) h1 rfl, congrArg (· + 1) h2, ?_⟩
    show List.findIdx? (fun x => x.1) ((false, assign (.Name y p) X.env) :: assignEach r X.env) = none
    rw [List.findIdx?_cons, h3]
    rfl
theorem names_lt {sc : Scope} : ∀ {is : List Nat} {es : List Expr}, namesB cf top sc is es = true → ∀ i ∈ is, i < cf.N.length
  | [], _, _ => fun _ h => by cases h
  | i :: is, [], h => by cases h
  | i :: is, e :: r, h => by
    cases e <;> first | exact absurd h Bool.false_ne_true | skip
    rename_i y p
    have h : ((cf.N[i]? == some y) && locB top sc y && namesB cf top sc is r) = true := h
    simp only [Bool.and_eq_true, beq_iff_eq] at h
    intro j hj
    rcases List.mem_cons.mp hj with rfl | hj
    · exact (List.getElem?_eq_some_iff.mp h.1.1).1
    · exact names_lt h.2 j hj
/-- what the names hold behind an unpacking -/
theorem unp_ok {K : PySem.W.Frag} : ∀ {is : List Nat} {ds : List PyData} {vs : List V} {σ : L2.St} {env : Ev} {A : Ft} {c : Ev → Prop} {Q : L2.St → Hp → Prop}, Rel K G H σ env as A → DaAll K G vs ds → (∀ i ∈ is, i < env.length) → unpN is ds env c →
    (∀ σ' env' A', Rel K G H σ' env' as A' → Fr G H A G H A' → (∀ own : List Nat, (∀ i ∈ is, i ∈ own) → wipe σ' own = wipe σ own) → c env' → Q σ' H) → gNs is vs σ H Q
  | [], [], [], σ, env, A, c, Q, r, .nil, _, h, q => ⟨rfl, q σ env A r (Fr.refl G H A) (fun _ _ => rfl) h⟩
  | [], _ :: _, _, _, _, _, _, _, _, _, _, h, _ => h.elim
  | _ :: _, [], _, _, _, _, _, _, _, _, _, h, _ => h.elim
  | i :: is, d :: ds, v :: vs, σ, env, A, c, Q, r, .cons dv t, hl, h, q => by
    have h : unpN is ds (env.set i (.dat d)) c := h
    have hi := hl i (by simp)
    refine ⟨v, vs, rfl, ?_⟩
    have r2 : Rel K G H (σ.set i (some v)) (env.set i (.dat d)) as (A.set i no0) := r.put hi ⟨fun _ z => z, v, rfl, dv⟩ fun _ _ _ _ z => z
    refine unp_ok r2 t (fun j hj => by rw [List.length_set]; exact hl j (List.mem_cons_of_mem _ hj)) h fun σ' env' A' r3 f3 hw z => q σ' env' A' r3 (Fr.drop.trans f3) (fun own ho => ?_) z
    rw [hw own fun j hj => ho j (List.mem_cons_of_mem _ hj)]
    exact wipe_set (ho i (by simp))
/-- parts of a target -/
def gPn (K : PySem.W.Frag) : Pn → TG
  | .inl i => gName i
  | .inr js => gTup K js.length (gNs js)
def gPns (K : PySem.W.Frag) : List Pn → TGs
  | [] => gNil
  | p :: ps => gCons (gPn K p) (gPns K ps)
theorem pgs_pn (ok : Ok cf C F top X E0) (hcool : cf.hot = false) : ∀ {is : List Pn} {es : List Expr}, pnB cf top X.env.scope is es = true → PGs X es (gPns X.K is) ∧ (assignEach es X.env).length = is.length ∧ (assignEach es X.env).findIdx? (·.1) = none
  | [], [], _ => ⟨pgs_nil, rfl, rfl⟩
  | [], _ :: _, h => by cases h
  | .inl i :: is, [], h => by cases h
  | .inr js :: is, [], h => by cases h
  | .inl i :: is, e :: r, h => by
    cases e <;> first | exact absurd h Bool.false_ne_true | skip
    rename_i y p
    have h : ((cf.N[i]? == some y) && locB top X.env.scope y && pnB cf top X.env.scope is r) = true := h
    simp only [Bool.and_eq_true, beq_iff_eq] at h
    obtain ⟨h1, h2, h3⟩ := pgs_pn ok hcool h.2
    obtain ⟨l1, l2⟩ := loc_of ok h.1.2
    refine ⟨pgs_cons (pg_name ok.nd (by rw [ok.hN]; exact h.1.1) l1 l2) h1 rfl, congrArg (· + 1) h2, ?_⟩
    show List.findIdx? (fun x => x.1) ((false, assign (.Name y p) X.env) :: assignEach r X.env) = none
    rw [List.findIdx?_cons, h3]
    rfl
  | .inr js :: is, e :: r, h => by
    cases e <;> first | exact absurd h Bool.false_ne_true | skip
    rename_i es k p
    have h : (namesB cf top X.env.scope js es && pnB cf top X.env.scope is r) = true := h
    rw [Bool.and_eq_true] at h
    obtain ⟨h1, h2, h3⟩ := pgs_pn ok hcool h.2
    obtain ⟨g1, g2, g3⟩ := pgs_ns ok h.1
    refine ⟨pgs_cons (pg_tup (n := js.length) (ok.calm hcool) g1 g2 g3) h1 rfl, congrArg (· + 1) h2, ?_⟩
    show List.findIdx? (fun x => x.1) ((false, assign (.Tuple es k p) X.env) :: assignEach r X.env) = none
    rw [List.findIdx?_cons, h3]
    rfl
def pnIx : Pn → List Nat
  | .inl i => [i]
  | .inr js => js
theorem pn_lt {sc : Scope} : ∀ {is : List Pn} {es : List Expr}, pnB cf top sc is es = true → ∀ p ∈ is, ∀ i ∈ pnIx p, i < cf.N.length
  | [], _, _ => fun _ h => by cases h
  | .inl i :: is, [], h => by cases h
  | .inr js :: is, [], h => by cases h
  | .inl i :: is, e :: r, h => by
    cases e <;> first | exact absurd h Bool.false_ne_true | skip
    rename_i y p
    have h : ((cf.N[i]? == some y) && locB top sc y && pnB cf top sc is r) = true := h
    simp only [Bool.and_eq_true, beq_iff_eq] at h
    intro q hq j hj
    rcases List.mem_cons.mp hq with rfl | hq
    · have : j = i := List.mem_singleton.mp hj
      subst this
      exact (List.getElem?_eq_some_iff.mp h.1.1).1
    · exact pn_lt h.2 q hq j hj
  | .inr js :: is, e :: r, h => by
    cases e <;> first | exact absurd h Bool.false_ne_true | skip
    rename_i es k p
    have h : (namesB cf top sc js es && pnB cf top sc is r) = true := h
    rw [Bool.and_eq_true] at h
    intro q hq j hj
    rcases List.mem_cons.mp hq with rfl | hq
    · exact names_lt h.1 j hj
    · exact pn_lt h.2 q hq j hj
theorem unpN_len {c : Ev → Prop} : ∀ {is : List Nat} {ds : List PyData} {env : Ev}, unpN is ds env c → ds.length = is.length := by
  intro is
  induction is with
  | nil => intro ds env z; cases ds with
    | nil => rfl
    | cons _ _ => exact z.elim
  | cons i is ih => intro ds env z; cases ds with
    | nil => exact z.elim
    | cons _ _ => exact congrArg (· + 1) (ih z)
theorem unpE_len : ∀ {is : List Pn} {ds : List PyData} {env : Ev} {c : Ev → Prop}, unpE is ds env c → ds.length = is.length := by
  intro is
  induction is with
  | nil => intro ds env c z; cases ds with
    | nil => rfl
    | cons _ _ => exact z.elim
  | cons p is ih => intro ds env c z; cases ds with
    | nil => cases p <;> exact z.elim
    | cons d ds =>
      cases p with
      | inl i => exact congrArg (· + 1) (ih z)
      | inr js =>
        have z : tupW d fun es => unpN js es env fun env' => unpE is ds env' c := z
        unfold tupW at z
        split at z
        · have key : ∀ {js : List Nat} {es : List PyData} {env : Ev}, (unpN js es env fun env' => unpE is ds env' c) → ∃ env', unpE is ds env' c := by
            intro js
            induction js with
            | nil => intro es env z; cases es with
              | nil => exact ⟨env, z⟩
              | cons _ _ => exact z.elim
            | cons j js ih => intro es env z; cases es with
              | nil => exact z.elim
              | cons _ _ => exact ih z
          obtain ⟨env', z⟩ := key z
          exact congrArg (· + 1) (ih z)
        · exact z.elim
theorem unpP_ok {K : PySem.W.Frag} : ∀ {is : List Pn} {ds : List PyData} {vs : List V} {σ : L2.St} {env : Ev} {A : Ft} {c : Ev → Prop} {Q : L2.St → Hp → Prop}, Rel K G H σ env as A → DaAll K G vs ds → (∀ p ∈ is, ∀ i ∈ pnIx p, i < env.length) → unpE is ds env c →
    (∀ σ' env' A', Rel K G H σ' env' as A' → Fr G H A G H A' → (∀ own : List Nat, (∀ p ∈ is, ownPB own p = true) → wipe σ' own = wipe σ own) → c env' → Q σ' H) → gPns K is vs σ H Q
  | [], [], [], σ, env, A, c, Q, r, .nil, _, h, q => ⟨rfl, q σ env A r (Fr.refl G H A) (fun _ _ => rfl) h⟩
  | [], _ :: _, _, _, _, _, _, _, _, _, _, h, _ => h.elim
  | .inl _ :: _, [], _, _, _, _, _, _, _, _, _, h, _ => h.elim
  | .inr _ :: _, [], _, _, _, _, _, _, _, _, _, h, _ => h.elim
  | .inl i :: is, d :: ds, v :: vs, σ, env, A, c, Q, r, .cons dv t, hl, h, q => by
    have h : unpE is ds (env.set i (.dat d)) c := h
    have hi := hl _ (List.mem_cons_self) i (by simp [pnIx])
    refine ⟨v, vs, rfl, ?_⟩
    have r2 : Rel K G H (σ.set i (some v)) (env.set i (.dat d)) as (A.set i no0) := r.put hi ⟨fun _ z => z, v, rfl, dv⟩ fun _ _ _ _ z => z
    refine unpP_ok r2 t (fun p hp j hj => by rw [List.length_set]; exact hl p (List.mem_cons_of_mem _ hp) j hj) h fun σ' env' A' r3 f3 hw z => q σ' env' A' r3 (Fr.drop.trans f3) (fun own ho => ?_) z
    rw [hw own fun p hp => ho p (List.mem_cons_of_mem _ hp)]
    have hi' : own.contains i = true := ho _ List.mem_cons_self
    exact wipe_set (List.contains_iff_mem.mp hi')
  | .inr js :: is, d :: ds, v :: vs, σ, env, A, c, Q, r, .cons dv t, hl, h, q => by
    have h : tupW d fun es => unpN js es env fun env' => unpE is ds env' c := h
    unfold tupW at h
    split at h
    · rename_i es
      cases dv with
      | tup h1 h2 =>
        refine ⟨_, vs, rfl, _, _, rfl, r.sub.t h1, by rw [h2.length]; exact unpN_len h, ?_⟩
        refine unp_ok r h2 (fun i hi => hl _ List.mem_cons_self i hi) h fun σ1 env1 A1 r1 f1 hw1 z => ?_
        have e1 : env1.length = env.length := by
          have := congrArg List.length (hw1 js fun i hi => hi)
          rw [wipe_length, wipe_length] at this
          rw [← r1.len, this, r.len]
        refine unpP_ok r1 t (fun p hp j hj => by rw [e1]; exact hl p (List.mem_cons_of_mem _ hp) j hj) z fun σ' env' A' r3 f3 hw z => q σ' env' A' r3 (f1.trans f3) (fun own ho => ?_) z
        rw [hw own fun p hp => ho p (List.mem_cons_of_mem _ hp)]
        have hi' : js.all own.contains = true := ho _ List.mem_cons_self
        exact hw1 own fun i hi => List.contains_iff_mem.mp (List.all_eq_true.mp hi' i hi)
    · exact h.elim
/-- a target -/
theorem sg_ok (ok : Ok cf C F top X E0) {x : Tg} {tg : Expr} {v : V} {d : PyData} {c : Ev → Prop} {Q : L2.St → Hp → Prop} (h : tgB cf top X.env.scope x tg = true) (w : asgW x d env c) (r : Rel X.K G H σ env as A) (dv : Da X.K G v d)
    (q : ∀ σ' env' A', Rel X.K G H σ' env' as A' → Fr G H A G H A' → (∀ own, ownTB own x = true → wipe σ' own = wipe σ own) → c env' → Q σ' H) : wG X tg v σ H Q := by
  intro pins s u I ru
  unfold tgB at h
  split at h
  · rename_i i
    split at h
    · rename_i y p
      simp only [Bool.and_eq_true, beq_iff_eq] at h
      have hi := ilt ok I r h.1
      have w : c (env.set i (.dat d)) := w
      obtain ⟨l1, l2⟩ := loc_of ok h.2
      refine (pg_name ok.nd (by rw [ok.hN]; exact h.1) l1 l2).run pins s σ H v u Q I ru (q _ _ _ (r.put (s := .dat d) (B := no0) hi ⟨fun _ z => z, v, rfl, dv⟩ fun _ _ _ _ z => z) Fr.drop (fun own ho => wipe_set ?_) w)
      have ho : own.contains i = true := ho
      exact List.contains_iff_mem.mp ho
    · cases h
  · rename_i is
    split at h
    · rename_i es k p
      rw [Bool.and_eq_true, Bool.not_eq_true'] at h
      obtain ⟨hcool, h⟩ := h
      have w : (match (generalizing := false) d with
        | .tuple ds => unpE is ds env c
        | _ => False) := w
      cases d with
      | tuple ds =>
        cases dv with
        | tup h1 h2 =>
          obtain ⟨g1, g2, g3⟩ := pgs_pn ok hcool h
          have hl : ∀ p ∈ is, ∀ i ∈ pnIx p, i < env.length := fun p hp i hi => by
            rw [← r.len, I.len, ok.hN]
            exact pn_lt h p hp i hi
          refine (pg_tup (n := is.length) (ok.calm hcool) g1 g2 g3).run pins s σ H _ u Q I ru ⟨_, _, rfl, r.sub.t h1, by rw [h2.length]; exact unpE_len w, ?_⟩
          refine unpP_ok r h2 hl w fun σ' env' A' r3 f3 hw z => q σ' env' A' r3 f3 (fun own ho => hw own fun p hp => ?_) z
          have ho : is.all (ownPB own) = true := ho
          exact List.all_eq_true.mp ho p hp
      | _ => exact w.elim
    · cases h
end
/-! ### a comprehension's own names -/
section
variable {K : PySem.W.Frag} {G H G' H' : Hp} {σ : L2.St} {env env' : Ev} {as : As} {A A' : Ft} {is : List Nat}
theorem unR_len {is : List Nat} {env env' : Ev} : (unR env env' is).length = env'.length := by
  induction is with
  | nil => rfl
  | cons i is ih => unfold unR; rw [List.length_set, ih]
theorem unR_get {j : Nat} : ∀ {is : List Nat}, (unR env env' is)[j]? = if j ∈ is then (if j < env'.length then some (env.getD j .no) else none) else env'[j]? := by
  intro is
  induction is with
  | nil => simp [unR]
  | cons i is ih =>
    unfold unR
    by_cases e : j = i
    · subst e
      rw [if_pos (by simp)]
      by_cases h : j < env'.length
      · rw [if_pos h, List.getElem?_set_self (by rw [unR_len]; exact h)]
      · rw [if_neg h, List.getElem?_eq_none (by rw [List.length_set, unR_len]; omega)]
    · rw [List.getElem?_set_ne (Ne.symm e), ih]
      by_cases h : j ∈ is
      · rw [if_pos h, if_pos (List.mem_cons_of_mem _ h)]
      · rw [if_neg h, if_neg (by simp [e, h])]
theorem plainE_at : ∀ {is : List Nat}, plainE env is → ∀ i ∈ is, env[i]? = some .no ∨ ∃ d, env[i]? = some (.dat d)
  | [], _, i, h => by cases h
  | j :: is, p, i, h => by
    unfold plainE at p
    split at p
    · rename_i e
      rcases List.mem_cons.mp h with rfl | h
      · exact .inl e
      · exact plainE_at p i h
    · rename_i d e
      rcases List.mem_cons.mp h with rfl | h
      · exact .inr ⟨d, e⟩
      · exact plainE_at p i h
    · exact p.elim
theorem Rel.wiped (r : Rel K G H σ env as A) (p : plainE env is) : Rel K G H (wipe σ is) (wipeE env is) as A := by
  refine ⟨r.sub, by rw [wipe_length, wipeE_len]; exact r.len, fun j s h => ?_, fun j h => r.out j (by rw [wipeE_len] at h; exact h), r.ap⟩
  rw [wipeE_get] at h
  by_cases e : j ∈ is
  · rw [if_pos e] at h
    split at h
    · cases h
      rcases plainE_at p j e with q | ⟨d, q⟩
      · exact r.sl j _ q
      · exact (r.sl j _ q).1
    · cases h
  · rw [if_neg e] at h
    rw [wipe_get, if_neg e]
    exact r.sl j s h
theorem Rel.unwiped (r0 : Rel K G H σ env as A) (p : plainE env is) (g : Le G G') (r : Rel K G' H' (wipe σ is) env' as A') (n : ∀ i ∈ is, env'[i]? = some .no) : Rel K G' H' σ (unR env env' is) as A' := by
  have hl : env'.length = σ.length := by rw [← r.len, wipe_length]
  refine ⟨r.sub, by rw [unR_len, hl], fun j s h => ?_, fun j h => r.out j (by rw [unR_len] at h; exact h), r.ap⟩
  rw [unR_get] at h
  by_cases e : j ∈ is
  · rw [if_pos e] at h
    have hn := r.sl j _ (n j e)
    split at h
    · rcases plainE_at p j e with q | ⟨d, q⟩
      · have e2 : env.getD j .no = .no := by rw [List.getD_eq_getElem?_getD, q]; rfl
        rw [e2] at h
        cases h
        exact hn
      · have e2 : env.getD j .no = .dat d := by rw [List.getD_eq_getElem?_getD, q]; rfl
        rw [e2] at h
        cases h
        obtain ⟨_, v, q1, q2⟩ := r0.sl j _ q
        exact ⟨hn, v, q1, Da.le g q2⟩
    · cases h
  · rw [if_neg e] at h
    have q := r.sl j s h
    rw [wipe_get, if_neg e] at q
    exact q
end
section
variable {cf : Cf} {C : Nat → Option PyData} {F : Fs}
theorem Ok.blk {top : Bool} {X : Cx} {E0 : WX} (ok : Ok cf C F top X E0) (s : Shared) (H : Hp) (scope : Scope) (cenv : Env) (fp : List Addr) : Ok cf C F false (X.blk s H scope cenv fp) (fun _ _ _ _ => False) :=
  ⟨ok.calm, ok.nd, ok.hN, ok.units, takes0, (fun h => by cases h), (fun h => by cases h), ok.bl, ok.cn, ok.gd, ok.lb, ok.fn, (fun h => by cases h), fun c h => ⟨(ok.rd c h).ex⟩, fun c h => ⟨(ok.xm c h).ex⟩, ok.it, ok.ct, ok.hx, ok.cg⟩
theorem xo_false {X : Cx} {E0 : WX} {as : As} {G H : Hp} {A : Ft} (h : as.ex = []) : XO X cf E0 as G H A (fun _ _ => False) := ⟨fun _ _ _ _ _ _ _ _ _ _ _ (z : False) => z.elim, fun u hu => (by rw [h] at hu; cases hu), fun _ => h⟩
theorem own_ix {own : List Nat} : (ownB cf own).map (·.2) = own := by
  unfold ownB
  rw [List.map_map]
  induction own with
  | nil => rfl
  | cons a t ih => rw [List.map_cons, ih]; rfl
/-- a block's parts, whatever the block -/
def bG (X : Cx) (scope : Scope) (tg : Expr) : TG := fun v σ H Q => ∀ (s : Shared) (H0 : Hp) (C : Addr) (cl : List (Str × Addr)) (fp : List Addr), wG (X.blk s H0 scope (compEnvC scope cl C X.env) fp) tg v σ H Q
def bQ (X : Cx) (scope : Scope) (ifs : List Expr) : TT := fun σ H Q => ∀ (s : Shared) (H0 : Hp) (C : Addr) (cl : List (Str × Addr)) (fp : List Addr), wQ (X.blk s H0 scope (compEnvC scope cl C X.env) fp) ifs σ H Q
def bE (X : Cx) (scope : Scope) (elt : Expr) : TE := fun σ H Q => ∀ (s : Shared) (H0 : Hp) (C : Addr) (cl : List (Str × Addr)) (fp : List Addr), wE (X.blk s H0 scope (compEnvC scope cl C X.env) fp) elt σ H Q
theorem bG_ok {X : Cx} {scope : Scope} {tg : Expr} (s : Shared) (H : Hp) (C : Addr) (cl : List (Str × Addr)) (fp : List Addr) : PG (X.blk s H scope (compEnvC scope cl C X.env) fp) tg (bG X scope tg) := ⟨fun pins s' σ H' v u Q I r h => h s H C cl fp pins s' u I r⟩
theorem bQ_ok {X : Cx} {scope : Scope} {ifs : List Expr} (s : Shared) (H : Hp) (C : Addr) (cl : List (Str × Addr)) (fp : List Addr) : PTs (X.blk s H scope (compEnvC scope cl C X.env) fp) ifs (bQ X scope ifs) := ⟨fun pins s' σ H' Q I h => h s H C cl fp pins s' I⟩
theorem bE_ok {X : Cx} {scope : Scope} {elt : Expr} (s : Shared) (H : Hp) (C : Addr) (cl : List (Str × Addr)) (fp : List Addr) : PE (X.blk s H scope (compEnvC scope cl C X.env) fp) elt (bE X scope elt) := ⟨fun pins s' σ H' Q I h => h s H C cl fp pins s' I⟩
theorem lc_read {own : List Nat} {x : Tg} {it cs e : N} (hcool : cf.hot = false) (ihi : IH cf C F it) (ihc : IH cf C F cs) (ihe : IH cf C F e) {top : Bool} {X : Cx} {E0 : WX} (ok : Ok cf C F top X E0) {elt tg iter : Expr} {ifs : List Expr} {scope : Scope}
    (h3 : chk cf it top X.env.scope (.i tg iter) = true) (h4 : tgB cf false (relS scope X.env.scope) x tg = true) (h5 : ownTB own x = true) (h6 : chk cf cs false (relS scope X.env.scope) (.q ifs) = true) (h7 : chk cf e false (relS scope X.env.scope) (.e elt) = true)
    {env : Ev} {k : K} {G H : Hp} {σ : L2.St} {as : As} {A : Ft} (hw : wp F C (.lc own x it cs e) env k) (r : Rel X.K G H σ env as A) (xo : XO X cf E0 as G H A k.x) {Qv : VK}
    (q : ∀ G' H' A' env' v r B, Po X.K as σ G H A G' H' σ env' A' v r B → k.e r env' → Qv v H') : tLc (wI X tg iter) (bG X scope tg) (bQ X scope ifs) (bE X scope elt) own σ H Qv := by
  have hw : wp F C it env (kI k.x fun ds env1 => plainE env1 own ∧
      lcW (fun d env2 c => asgW x d env2 fun env3 => wp F C cs env3 (kT (fun _ _ => False) fun b env4 => plainE env4 own ∧ bothW b (wp F C e env4 (kE (fun _ _ => False) fun r env5 => plainE env5 own ∧ c (some r.d) (wipeE env5 own))) (c none (wipeE env4 own))))
        (fun acc env6 => k.e (.own acc) (unR env1 env6 own)) ds [] (wipeE env1 own)) := hw
  have hcold := xo.cold hcool
  generalize hst : (fun (d : PyData) (env2 : Ev) (c : Option PyData → Ev → Prop) => asgW x d env2 fun env3 => wp F C cs env3 (kT (fun _ _ => False) fun b env4 => plainE env4 own ∧ bothW b (wp F C e env4 (kE (fun _ _ => False) fun r env5 => plainE env5 own ∧ c (some r.d) (wipeE env5 own))) (c none (wipeE env4 own)))) = step at hw
  refine ihi ok _ h3 env _ G H σ as A hw r xo _ fun G1 H1 A1 env1 J ds f1 r1 wk z => ?_
  obtain ⟨pl, z⟩ : plainE env1 own ∧ lcW step (fun acc env6 => k.e (.own acc) (unR env1 env6 own)) ds [] (wipeE env1 own) := z
  intro D hD
  have hGD : G1 D = none := by
    cases e : G1 D with
    | none => rfl
    | some u => have := r1.sub D u e; rw [hD] at this; cases this
  let Inv1 : Nat → Hp → Prop := fun i H' => ∃ G' A' env' acc xs, Fr G1 H1 A1 G' H' A' ∧ Rel X.K G' H' (wipe σ own) env' as A' ∧ (∀ j b, A' j b → b ≠ D) ∧ G' D = none ∧ H' D = some (.lst xs) ∧ DaAll X.K G' xs acc ∧
    (∀ i ∈ own, env'[i]? = some .no) ∧ lcW step (fun acc env6 => k.e (.own acc) (unR env1 env6 own)) (ds.drop i) acc env'
  have no_of : ∀ {env' : Ev}, plainE env' own → ∀ i ∈ own, (wipeE env' own)[i]? = some .no := fun {env'} p i hi => by
    rw [wipeE_get, if_pos hi]
    have hl : i < env'.length := by
      rcases plainE_at p i hi with q | ⟨d, q⟩ <;> exact (List.getElem?_eq_some_iff.mp q).1
    rw [if_pos hl]
  have start : Inv1 0 (upd H1 D (.lst [])) := by
    refine ⟨G1, A1, wipeE env1 own, [], [], Fr.upH hD, (r1.upH hD).wiped pl, fun j b hb => ?_, hGD, upd_same, .nil, no_of pl, z⟩
    intro e
    obtain ⟨xs, hx, _⟩ := r1.own_some hb
    rw [e, hD] at hx; cases hx
  refine ⟨fun i m H' => m = ds.length - i ∧ i ≤ ds.length ∧ Inv1 i H', ⟨ds.length, by simp, Nat.zero_le _, start⟩, ?_⟩
  rintro i m H' ⟨rfl, hi, G', A', env', acc, xs, f2, r2, nA, gD, hx, hd, nn, w⟩
  by_cases hlt : i < ds.length
  · refine .inr ⟨wk.go i H' hlt (f2.gg.trans r2.sub), Inv1 (i + 1), fun H'' p' => ⟨ds.length - (i + 1), by omega, rfl, hlt, p'⟩, fun y H2 yl => ?_⟩
    have ed : ds[i]? = some ds[i] := by simp [hlt]
    rw [List.drop_eq_getElem_cons hlt] at w
    have w : step ds[i] env' fun o env'' => match o with
      | some y => acc.length < sizeLine ∧ lcW step (fun acc env6 => k.e (.own acc) (unR env1 env6 own)) (ds.drop (i + 1)) (acc ++ [y]) env''
      | none => lcW step (fun acc env6 => k.e (.own acc) (unR env1 env6 own)) (ds.drop (i + 1)) acc env'' := w
    rw [← hst] at w
    -- the item, laid where it stands
    obtain ⟨G3, f3, r3, gD3, hx3, dv⟩ : ∃ G3, Fr G' H' A' G3 H2 A' ∧ Rel X.K G3 H2 (wipe σ own) env' as A' ∧ G3 D = none ∧ H2 D = some (.lst xs) ∧ Da X.K G3 y ds[i] := by
      rcases wk.yld i H' y H2 ds[i] G' ed f2.gg r2.sub yl with ⟨rfl, dv⟩ | ⟨pp, o, hp, rfl, dv⟩
      · exact ⟨G', Fr.refl _ _ _, r2, gD, hx, dv⟩
      · have ne : D ≠ pp := fun e => by rw [← e, hx] at hp; cases hp
        exact ⟨upd G' pp o, Fr.up hp r2.sub, r2.up hp, by rw [upd_ne ne]; exact gD, by rw [upd_ne ne]; exact hx, dv⟩
    intro s0 H0 Ca cl fp
    have okb := ok.blk s0 H0 scope (compEnvC scope cl Ca X.env) fp
    refine sg_ok (X := X.blk s0 H0 scope (compEnvC scope cl Ca X.env) fp) okb h4 w r3 dv fun σ4 env4 A4 r4 f4 hw4 w => ?_
    have ew : wipe σ4 own = wipe σ own := (hw4 own h5).trans wipe_wipe
    refine ⟨ew, ?_⟩
    intro s1 H01 Ca1 cl1 fp1
    have okb1 := ok.blk s1 H01 scope (compEnvC scope cl1 Ca1 X.env) fp1
    refine ihc (X := X.blk s1 H01 scope (compEnvC scope cl1 Ca1 X.env) fp1) okb1 _ h6 env4 _ G3 H2 σ4 as A4 w r4 (xo_false hcold) _ fun G5 H5 A5 env5 b f5 r5 w => ?_
    obtain ⟨pl5, w⟩ : plainE env5 own ∧ bothW b (wp F C e env5 (kE (fun _ _ => False) fun r env6 => plainE env6 own ∧ acc.length < sizeLine ∧ lcW step (fun acc env6 => k.e (.own acc) (unR env1 env6 own)) (ds.drop (i + 1)) (acc ++ [r.d]) (wipeE env6 own))) (lcW step (fun acc env6 => k.e (.own acc) (unR env1 env6 own)) (ds.drop (i + 1)) acc (wipeE env5 own)) := by
      rw [← hst]; exact w
    -- the new list is nobody's: it stays
    have fA : Fr G' H' A' G5 H5 A5 := (f3.trans f4).trans f5
    have stay : ∀ {G6 H6 : Hp} {A6 : Ft}, Fr G' H' A' G6 H6 A6 → G6 D = none ∧ H6 D = some (.lst xs) ∧ ∀ j b, A6 j b → b ≠ D := fun {G6 H6 A6} ff => by
      have nD : ∀ j, ¬ A' j D := fun j hj => nA j D hj rfl
      refine ⟨?_, ff.hh D _ hx nD, fun j b hb eb => ?_⟩
      · cases e : G6 D with
        | none => rfl
        | some o =>
          rcases ff.nw D o e with z | z | ⟨j, z⟩
          · rw [gD] at z; cases z
          · rw [hx] at z; cases z
          · exact absurd z (nD j)
      · subst eb
        rcases ff.ow j b hb with ⟨j2, z⟩ | z
        · exact nD j2 z
        · rw [hx] at z; cases z
    cases b with
    | false =>
      refine iteF ?_
      obtain ⟨s1', s2', s3'⟩ := stay fA
      have rw5 := r5.wiped pl5
      rw [ew] at rw5
      exact ⟨G5, A5, wipeE env5 own, acc, xs, f2.trans fA, rw5, s3', s1', s2', DaAll.le fA.gg hd, no_of pl5, bothF w⟩
    | true =>
      refine iteT ?_
      intro s2 H02 Ca2 cl2 fp2
      have okb2 := ok.blk s2 H02 scope (compEnvC scope cl2 Ca2 X.env) fp2
      refine (ihe (X := X.blk s2 H02 scope (compEnvC scope cl2 Ca2 X.env) fp2) okb2 _ h7).dat (f := fun d env6 => plainE env6 own ∧ acc.length < sizeLine ∧ lcW step (fun acc env6 => k.e (.own acc) (unR env1 env6 own)) (ds.drop (i + 1)) (acc ++ [d]) (wipeE env6 own)) (bothT w) r5 (xo_false hcold) fun G6 H6 A6 env6 yv yd f6 r6 dy w => ?_
      obtain ⟨pl6, sz, w⟩ := w
      have fB : Fr G' H' A' G6 H6 A6 := fA.trans f6
      obtain ⟨s1', s2', s3'⟩ := stay fB
      refine ⟨xs, s2', by rw [(DaAll.le fB.gg hd).length]; exact sz, ?_⟩
      have rw6 := r6.wiped pl6
      rw [ew] at rw6
      have sub6 : Le G6 (upd H6 D (.lst (xs ++ [yv]))) := fun b o e => by
        have ne : b ≠ D := fun z => by rw [z, s1'] at e; cases e
        rw [upd_ne ne]; exact rw6.sub b o e
      refine ⟨G6, A6, wipeE env6 own, acc ++ [yd], xs ++ [yv], ?_, rw6.grow (Le.refl _) sub6 (fun j b hb => ⟨(rw6.own_some hb).choose_spec.2, upd_ne (s3' j b hb)⟩), s3', s1', upd_same, (DaAll.le fB.gg hd).append (.cons dy .nil), no_of pl6, w⟩
      have fC := f2.trans fB
      refine ⟨fC.gg, fun b o e n => ?_, fC.nw, fC.ow⟩
      have ne : b ≠ D := fun z => by rw [z, hD] at e; cases e
      rw [upd_ne ne]; exact fC.hh b o e n
  · have ei : i = ds.length := by omega
    subst ei
    rw [List.drop_length] at w
    have w : k.e (.own acc) (unR env1 env' own) := w
    refine .inl ⟨wk.stop _ H' (Nat.le_refl _) (f2.gg.trans r2.sub), ?_⟩
    refine q G' H' A' (unR env1 env' own) (.ref D) (.own acc) (fun b => b = D) ⟨f1.trans f2, r1.unwiped pl f2.gg r2 nn, ⟨D, rfl, fun _ => Iff.rfl, gD, xs, hx, hd⟩, fun j b hb e => nA j b hb e, fun b e => ?_⟩ w
    subst e
    cases e2 : H b with
    | none => exact .inr rfl
    | some o =>
      refine .inl (Classical.byContradiction fun n => ?_)
      have := f1.hh b o e2 fun j hj => n ⟨j, hj⟩
      rw [hD] at this; cases this
theorem s_lc {own : List Nat} {x : Tg} {it cs e : N} (ihi : IH cf C F it) (ihc : IH cf C F cs) (ihe : IH cf C F e) : IH cf C F (.lc own x it cs e) := by
  intro top X E0 ok ast h
  obtain ⟨elt, tg, iter, ifs, scope, p, rfl, h'⟩ := inv_lc h
  replace h := h'
  simp only [Bool.and_eq_true, Bool.not_eq_true'] at h
  obtain ⟨⟨⟨⟨⟨⟨⟨h0, h1⟩, h2⟩, h3⟩, h4⟩, h5⟩, h6⟩, h7⟩ := h
  intro env k G H σ as A hw r xo Qv q
  refine wE_of (pe_lc (own := ownB cf own) (ok.calm h0) ok.nd pi_w (blkOk_by (by rw [ok.hN]; exact h1)) bG_ok bQ_ok bE_ok (folded_none h2)) ?_
  rw [own_ix]
  exact lc_read h0 ihi ihc ihe ok h3 h4 h5 h6 h7 hw r xo q
end
end Pi

namespace Pi
open PySem L2 PySem.Spec PyProof.Rows
section
variable {cf : Cf} {C : Nat → Option PyData} {F : Fs}
/-- a result goes to a name -/
theorem Po.store {K : PySem.W.Frag} {as : As} {σ : L2.St} {G H G1 H1 : Hp} {A A1 : Ft} {env1 : Ev} {v : V} {r : R} {B : Addr → Prop} (p : Po K as σ G H A G1 H1 σ env1 A1 v r B) {i : Nat} (hi : i < env1.length) :
    Rel K G1 H1 (σ.set i (some v)) (env1.set i r.sl) as (A1.set i B) ∧ Fr G H A G1 H1 (A1.set i B) := by
  refine ⟨p.rel.put hi ?_ fun j b hj h1 h2 => p.sep j b h1 h2, ⟨p.fr.gg, p.fr.hh, p.fr.nw, fun j b h => ?_⟩⟩
  · have q := p.rr
    cases r with
    | dat d => exact ⟨q.1, v, rfl, q.2⟩
    | own ds =>
      obtain ⟨pp, rfl, h1, h2⟩ := q
      exact ⟨pp, rfl, h1, h2⟩
  · by_cases e : j = i
    · subst e; exact p.org b (Ft.set_self.mp h)
    · exact p.fr.ow j b ((Ft.set_ne e).mp h)
/-- the frame has as many places as it has names -/
theorem wS_len {X : Cx} {st : Stmt} {D : Ends} {σ : L2.St} {H : Hp} (h : σ.length = X.N.length → wS X st D σ H) : wS X st D σ H := fun pins s I => h I.len pins s I
theorem s_set {i : Nat} {e : N} (ihe : IH cf C F e) : IH cf C F (.set i e) := by
  intro top X E0 ok ast h
  obtain ⟨x, p1, v, p2, rfl, h'⟩ := inv_set h
  replace h := h'
  simp only [Bool.and_eq_true, beq_iff_eq] at h
  obtain ⟨⟨⟨h0, h1⟩, h2⟩, h3⟩ := h
  intro env k G H σ as A hw r xo D nx bk ct rt
  have hw : wp F C e env (kE k.x fun r env1 => k.nx (env1.set i r.sl)) := hw
  obtain ⟨l1, l2⟩ := loc_of ok h2
  have hN : X.N[i]? = some x := by rw [ok.hN]; exact h1
  refine wS_len fun hlen => wS_of (ps_set ok.nd hN l1 pe_w (swaps_cell h0) l2) ?_
  refine ihe ok _ h3 env _ G H σ as A hw r xo _ fun G1 H1 A1 env1 y rr B po z => ?_
  have hi : i < env1.length := by rw [← po.rel.len, hlen]; exact (List.getElem?_eq_some_iff.mp hN).1
  obtain ⟨r2, f2⟩ := po.store hi
  exact nx _ _ _ _ _ f2 r2 z
theorem s_slc {i : Nat} {own : List Nat} {x : Tg} {it cs e : N} (ihi : IH cf C F it) (ihc : IH cf C F cs) (ihe : IH cf C F e) : IH cf C F (.slc i own x it cs e) := by
  intro top X E0 ok ast h
  obtain ⟨y, py, elt, tg, iter, ifs, scope, lp, p1, rfl, h'⟩ := inv_slc h
  replace h := h'
  simp only [Bool.and_eq_true] at h
  obtain ⟨⟨⟨⟨⟨⟨⟨⟨⟨⟨⟨⟨h0, h1⟩, h2⟩, h3⟩, h4⟩, h5⟩, h6⟩, h7⟩, h8⟩, h9⟩, h10⟩, h11⟩, h12⟩ := h
  rw [Bool.not_eq_true'] at h0
  have h9 := beq_iff_eq.mp h9
  have h10 := beq_iff_eq.mp h10
  intro env k G H σ as A hw r xo D nx bk ct rt
  have hw : wp F C (.lc own x it cs e) env (kE k.x fun r env1 => k.nx (env1.set i r.sl)) := hw
  have hN : X.N[i]? = some y := by rw [ok.hN]; exact h9
  intro pins s I
  have sw : swapsWith (.ListComp elt [⟨tg, iter, ifs, 0⟩] scope lp) (some (.Name y py)) p1.line X.env = pure true := sw_true I.ok.kind h10 h11 (by simpa using h12)
  have hi : i < σ.length := by rw [I.len]; exact (List.getElem?_eq_some_iff.mp hN).1
  refine (ps_setLc (own := ownB cf own) (ok.calm h0) ok.nd hN h10 sw pi_w (blkOk_by (by rw [ok.hN]; exact h1)) bG_ok bQ_ok bE_ok (folded_none h2)).run pins s σ H D I ?_
  rw [own_ix]
  refine lc_read h0 ihi ihc ihe ok h3 h4 h5 h6 h7 hw r xo fun G1 H1 A1 env1 v rr B po z => ?_
  obtain ⟨r2, f2⟩ := po.store (i := i) (by rw [← po.rel.len]; exact hi)
  exact nx _ _ _ _ _ f2 r2 z
theorem swaps_sole {t v : Expr} {l : Nat} {env : Env} (h : noComp v = true) : swapsWithSole [t] v l env = pure false := swaps_none h
theorem s_ex {e : N} (ihe : IH cf C F e) : IH cf C F (.ex e) := by
  intro top X E0 ok ast h
  obtain ⟨v, p, rfl, h'⟩ := inv_ex h
  replace h := h'
  simp only [Bool.and_eq_true] at h
  intro env k G H σ as A hw r xo D nx bk ct rt
  have hw : wp F C e env (kE k.x fun _ env1 => k.nx env1) := hw
  refine wS_of (ps_expr pe_w (swaps_none h.1)) ?_
  exact ihe ok _ h.2 env _ G H σ as A hw r xo _ fun G1 H1 A1 env1 y rr B po z => nx _ _ _ _ _ po.fr po.rel z
theorem s_ret {e : N} (ihe : IH cf C F e) : IH cf C F (.ret e) := by
  intro top X E0 ok ast h
  obtain ⟨v, p, rfl, h'⟩ := inv_ret h
  replace h := h'
  intro env k G H σ as A hw r xo D nx bk ct rt
  have hw : wp F C e env (kE k.x fun r env1 => k.rt r env1) := hw
  refine wS_of (ps_ret pe_w) ?_
  exact ihe ok _ h env _ G H σ as A hw r xo _ fun G1 H1 A1 env1 y rr B po z => rt _ _ _ _ _ _ _ _ po z
theorem s_retn : IH cf C F .retn := by
  intro top X E0 ok ast h
  obtain ⟨p, rfl, h'⟩ := inv_retn h
  intro env k G H σ as A hw r xo D nx bk ct rt
  have hw : k.rt (.dat .none) env := hw
  exact wS_of ps_retN (rt _ _ _ _ _ _ _ _ (Po.same r .non) hw)
theorem s_retv {i : Nat} : IH cf C F (.retv i) := by
  intro top X E0 ok ast h
  obtain ⟨x, p, p2, rfl, h'⟩ := inv_retv h
  have hc : chk cf (.v i) top X.env.scope (.e (.Name x p)) = true := h'
  intro env k G H σ as A hw r xo D nx bk ct rt
  have hw : (match env[i]? with
    | some (.own ds) => k.rt (.own ds) (env.set i .no)
    | some (.dat d) => k.rt (.dat d) env
    | _ => False) := hw
  refine wS_of (ps_ret pe_w) ?_
  split at hw
  · rename_i ds e
    obtain ⟨pp, h1, h2, h3⟩ := r.sl i _ e
    have hi := r.lt e
    refine var_ok ok hc h1 ?_
    refine rt G H (A.set i no0) σ (env.set i .no) (.ref pp) (.own ds) (fun b => b = pp) ⟨Fr.drop, r.redo hi (fun _ z => z) fun _ _ _ _ z => z, ⟨pp, rfl, fun _ => Iff.rfl, h3⟩, fun j b hb eb => ?_, fun b eb => .inl ⟨i, (h2 b).mpr eb⟩⟩ hw
    by_cases e1 : j = i
    · subst e1; exact Ft.set_self.mp hb
    · exact e1 (r.ap j i b ((Ft.set_ne e1).mp hb) ((h2 b).mpr eb))
  · rename_i d e
    obtain ⟨_, v, h1, h2⟩ := r.sl i _ e
    exact var_ok ok hc h1 (rt _ _ _ _ _ _ _ _ (Po.same r h2) hw)
  · exact hw.elim
theorem s_unp {is : List Pn} {e : N} (ihe : IH cf C F e) : IH cf C F (.unp is e) := by
  intro top X E0 ok ast h
  obtain ⟨es, kk, p, v, p2, rfl, h'⟩ := inv_unp h
  replace h := h'
  simp only [Bool.and_eq_true] at h
  obtain ⟨⟨⟨h1, h2⟩, h3⟩, h4⟩ := h
  intro env k G H σ as A hw r xo D nx bk ct rt
  have hw : wp F C e env (kE k.x fun r env1 => asgW (.inr is) r.d env1 k.nx) := hw
  refine wS_of (ps_asg pe_w pg_w (swaps_sole h1) (by cases v <;> first | rfl | (simp [noTup] at h3; done)) rfl) ?_
  refine (ihe ok _ h4).dat (f := fun d env1 => asgW (.inr is) d env1 k.nx) hw r xo fun G1 H1 A1 env1 y d f1 r1 dd z => ?_
  exact sg_ok ok h2 z r1 dd fun σ' env' A' r2 f2 _ z => nx _ _ _ _ _ (f1.trans f2) r2 z
theorem s_aug {i : Nat} {o : BO} {e : N} (ihe : IH cf C F e) : IH cf C F (.aug i o e) := by
  intro top X E0 ok ast h
  obtain ⟨x, p, op, v, p2, rfl, h'⟩ := inv_aug h
  replace h := h'
  simp only [Bool.and_eq_true, beq_iff_eq] at h
  obtain ⟨⟨⟨h1, h2⟩, h3⟩, h4⟩ := h
  intro env k G H σ as A hw r xo D nx bk ct rt
  have hw : peek env i fun _ => wp F C e env (kE k.x fun r env1 => peek env1 i fun x => augW o x r.d fun z => k.nx (env1.set i (.dat (.int z)))) := hw
  obtain ⟨l1, l2⟩ := loc_of ok h2
  have hN : X.N[i]? = some x := by rw [ok.hN]; exact h1
  obtain ⟨d0, v0, s0, p0, hw⟩ := r.peek hw
  have key : ∀ (P : V → V → Hp → Prop), (∀ G1 H1 A1 env1 a b z, i < env1.length → Fr G H A G1 H1 A1 → Rel X.K G1 H1 σ env1 as A1 → augI o a b z → k.nx (env1.set i (.dat (.int z))) → P (.int a) (.int b) H1) → σ.length = X.N.length →
      wE X v σ H fun y H1 => P v0 y H1 := by
    intro P q hlen
    refine (ihe ok _ h4).dat (f := fun d env1 => peek env1 i fun x => augW o x d fun z => k.nx (env1.set i (.dat (.int z)))) hw r xo fun G1 H1 A1 env1 y d f1 r1 dd z => ?_
    obtain ⟨d1, v1, s1, p1, z⟩ := r1.peek z
    rw [s0] at s1
    cases s1
    unfold augW at z
    split at z
    · cases dd
      cases p1.int
      exact q _ _ _ _ _ _ _ (by rw [← r1.len, hlen]; exact (List.getElem?_eq_some_iff.mp hN).1) f1 r1 rfl z
    · cases dd
      cases p1.int
      exact q _ _ _ _ _ _ _ (by rw [← r1.len, hlen]; exact (List.getElem?_eq_some_iff.mp hN).1) f1 r1 rfl z
    · exact z.elim
  have fin : ∀ {G1 H1 A1 env1 z}, i < env1.length → Fr G H A G1 H1 A1 → Rel X.K G1 H1 σ env1 as A1 → k.nx (env1.set i (.dat (.int z))) → D.nx (σ.set i (some (.int z))) H1 := fun {G1 H1 A1 env1 z} hi f1 r1 kz =>
    nx _ _ _ _ _ (f1.trans Fr.drop) (r1.put (s := .dat (.int z)) (B := no0) hi ⟨fun _ z => z, _, rfl, .int _⟩ fun _ _ _ _ z => z) kz
  refine wS_len fun hlen => ?_
  cases o <;> cases op <;> first | exact absurd h3 Bool.false_ne_true | skip
  · exact wS_of (ps_aug ok.nd hN l1 pe_w ip_add l2) ⟨v0, s0, key (fun x y H1 => ipI (fun i j => i + j) x y H1 fun z H2 => D.nx (σ.set i (some z)) H2) (fun G1 H1 A1 env1 a b z hi f1 r1 e kz => ⟨a, b, rfl, rfl, by have e : a + b = z := e; subst e; exact fin hi f1 r1 kz⟩) hlen⟩
  · exact wS_of (ps_aug ok.nd hN l1 pe_w ip_sub l2) ⟨v0, s0, key (fun x y H1 => ipI (fun i j => i - j) x y H1 fun z H2 => D.nx (σ.set i (some z)) H2) (fun G1 H1 A1 env1 a b z hi f1 r1 e kz => ⟨a, b, rfl, rfl, by have e : a - b = z := e; subst e; exact fin hi f1 r1 kz⟩) hlen⟩
theorem s_seti {i : Nat} {b e : N} (ihb : IH cf C F b) (ihe : IH cf C F e) : IH cf C F (.seti i b e) := by
  intro top X E0 ok ast h
  obtain ⟨x, p, j, p2, v, p3, rfl, h'⟩ := inv_seti h
  replace h := h'
  simp only [Bool.and_eq_true] at h
  obtain ⟨⟨⟨⟨⟨⟨h1, h2⟩, h3⟩, h4⟩, h5⟩, h6⟩, h7⟩ := h
  have hc : chk cf (.v i) top X.env.scope (.e (.Name x p)) = true := by
    show ((cf.N[i]? == some x) && visB X.env.scope x && okN x) = true
    rw [h3, h4, h5]; rfl
  intro env k G H σ as A hw r xo D nx bk ct rt
  have hw : wp F C e env (kE k.x fun r env1 => isL env1 i <| wp F C b env1 (kE k.x fun rb env2 => intW rb.d fun z => putL env2 i (fun ds c => ∃ j, ixN ds.length z = some j ∧ c (ds.set j r.d)) k.nx)) := hw
  refine wS_of (ps_asg pe_w (pg_sub pe_w pe_w set_list (by intro v; cases j <;> first | rfl | (simp [noSlice] at h2; done))) (swaps_sole h1) rfl rfl) ?_
  refine (ihe ok _ h7).dat (f := fun d env1 => isL env1 i <| wp F C b env1 (kE k.x fun rb env2 => intW rb.d fun z => putL env2 i (fun ds c => ∃ j, ixN ds.length z = some j ∧ c (ds.set j d)) k.nx)) hw r xo fun G1 H1 A1 env1 y d f1 r1 dd z => ?_
  obtain ⟨p0, xs0, s0, hx0, z⟩ := r1.isL z
  refine var_ok ok hc s0 ?_
  refine (ihb ok _ h6).dat (f := fun db env2 => intW db fun z => putL env2 i (fun ds c => ∃ j, ixN ds.length z = some j ∧ c (ds.set j d)) k.nx) z r1 (xo.mono f1) fun G2 H2 A2 env2 yb db f2 r2 ddb z => ?_
  unfold intW at z
  split at z
  · rename_i zz
    cases ddb
    have fin : ∀ {ds : List PyData} {j : Nat} {s s' : Sl}, env2[i]? = some s → ((s = .own ds ∧ s' = .own (ds.set j d)) ∨ ∃ m, s = .mu m ds ∧ s' = .mu m (ds.set j d)) → ixN ds.length zz = some j → k.nx (env2.set i s') →
        rSetL (.ref p0) (.int zz) y H2 fun H3 => D.nx σ H3 := by
      intro ds j s s' e hs hj ke
      obtain ⟨p', s1, hA, l⟩ := r2.lst (i := i) (ds := ds) (by rcases hs with ⟨rfl, _⟩ | ⟨m, rfl, _⟩; exact .inl e; exact .inr ⟨m, e⟩)
      rw [s0] at s1
      cases s1
      obtain ⟨xs, hx, hd⟩ := l.at
      obtain ⟨r3, f3⟩ := r2.write e s0 hA l (xs' := xs.set j y) (DaAll.set (Da.le f2.gg dd) j hd) hs
      exact ⟨p0, xs, zz, j, rfl, rfl, hx, by rw [hd.length]; exact hj, nx _ _ _ _ _ ((f1.trans f2).trans f3) r3 ke⟩
    unfold putL at z
    split at z
    · rename_i ds e
      obtain ⟨j, hj, ke⟩ := z
      exact fin e (.inl ⟨rfl, rfl⟩) hj ke
    · rename_i m ds e
      obtain ⟨j, hj, ke⟩ := z
      exact fin e (.inr ⟨m, rfl, rfl⟩) hj ke
    · exact z.elim
  · exact z.elim
theorem s_app {i : Nat} {e : N} (ihe : IH cf C F e) : IH cf C F (.app i e) := by
  intro top X E0 ok ast h
  obtain ⟨x, p, m, ap, y, cp, p2, rfl, h'⟩ := inv_app h
  replace h := h'
  simp only [Bool.and_eq_true] at h
  obtain ⟨⟨⟨⟨⟨⟨h1, h2⟩, h3⟩, h4⟩, h5⟩, h6⟩, h7⟩ := h
  cases beq_iff_eq.mp h2
  have hc : chk cf (.v i) top X.env.scope (.e (.Name x p)) = true := by
    show ((cf.N[i]? == some x) && visB X.env.scope x && okN x) = true
    rw [h3, h4, h5]; rfl
  intro env k G H σ as A hw r xo D nx bk ct rt
  have hw : isL env i <| wp F C e env (kE k.x fun r env1 => putL env1 i (fun ds c => ds.length < sizeLine ∧ c (ds ++ [r.d])) k.nx) := hw
  obtain ⟨p0, xs0, s0, hx0, hw⟩ := r.isL hw
  refine wS_of (ps_expr (pe_bm PySem.F.plainAttrs_list PySem.F.slot_list_append PySem.F.type_list_append mt_append pe_w (pa_cons pe_w pa_nil (star1 h6)) rfl (by rw [star1 h6]; rfl) h1 (star1 h6) rfl) rfl) ?_
  refine var_ok ok hc s0 ⟨.inl ⟨rfl, xs0, SqL.of hx0⟩, ?_⟩
  refine (ihe ok _ h7).dat (f := fun d env1 => putL env1 i (fun ds c => ds.length < sizeLine ∧ c (ds ++ [d])) k.nx) hw r xo fun G1 H1 A1 env1 yv d f1 r1 dd z => ?_
  have fin : ∀ {ds : List PyData} {s s' : Sl}, env1[i]? = some s → ((s = .own ds ∧ s' = .own (ds ++ [d])) ∨ ∃ m, s = .mu m ds ∧ s' = .mu m (ds ++ [d])) → ds.length < sizeLine → k.nx (env1.set i s') →
      rAppend (.ref p0) [yv] H1 fun _ H2 => D.nx σ H2 := by
    intro ds s s' e hs hl ke
    obtain ⟨p', s1, hA, l⟩ := r1.lst (i := i) (ds := ds) (by rcases hs with ⟨rfl, _⟩ | ⟨m, rfl, _⟩; exact .inl e; exact .inr ⟨m, e⟩)
    rw [s0] at s1
    cases s1
    obtain ⟨xs, hx, hd⟩ := l.at
    obtain ⟨r3, f3⟩ := r1.write e s0 hA l (xs' := xs ++ [yv]) (hd.append (.cons dd .nil)) hs
    exact ⟨p0, xs, yv, rfl, rfl, hx, by rw [hd.length]; exact hl, nx _ _ _ _ _ (f1.trans f3) r3 ke⟩
  unfold putL at z
  split at z
  · rename_i ds e
    exact fin e (.inl ⟨rfl, rfl⟩) z.1 z.2
  · rename_i m ds e
    exact fin e (.inr ⟨m, rfl, rfl⟩) z.1 z.2
  · exact z.elim
theorem s_ext {i : Nat} {e : N} (ihe : IH cf C F e) : IH cf C F (.ext i e) := by
  intro top X E0 ok ast h
  obtain ⟨x, p, m, ap, y, cp, p2, rfl, h'⟩ := inv_ext h
  replace h := h'
  simp only [Bool.and_eq_true] at h
  obtain ⟨⟨⟨⟨⟨⟨h1, h2⟩, h3⟩, h4⟩, h5⟩, h6⟩, h7⟩ := h
  cases beq_iff_eq.mp h2
  have hc : chk cf (.v i) top X.env.scope (.e (.Name x p)) = true := by
    show ((cf.N[i]? == some x) && visB X.env.scope x && okN x) = true
    rw [h3, h4, h5]; rfl
  intro env k G H σ as A hw r xo D nx bk ct rt
  have hw : isL env i <| wp F C e env (kE k.x fun r env1 => lstW r.d fun es => putL env1 i (fun ds c => sz (ds.length + es.length) ∧ c (ds ++ es)) k.nx) := hw
  obtain ⟨p0, xs0, s0, hx0, hw⟩ := r.isL hw
  refine wS_of (ps_expr (pe_bm PySem.F.plainAttrs_list PySem.F.slot_list_extend PySem.F.type_list_extend mt_extendX pe_w (pa_cons pe_w pa_nil (star1 h6)) rfl (by rw [star1 h6]; rfl) h1 (star1 h6) rfl) rfl) ?_
  refine var_ok ok hc s0 ⟨.inl ⟨rfl, xs0, SqL.of hx0⟩, ?_⟩
  refine (ihe ok _ h7).dat (f := fun d env1 => lstW d fun es => putL env1 i (fun ds c => sz (ds.length + es.length) ∧ c (ds ++ es)) k.nx) hw r xo fun G1 H1 A1 env1 yv d f1 r1 dd z => ?_
  unfold lstW at z
  split at z
  · rename_i es
    cases dd with
    | lst g1 g2 =>
    rename_i pb zs
    have fin : ∀ {ds : List PyData} {s s' : Sl}, env1[i]? = some s → ((s = .own ds ∧ s' = .own (ds ++ es)) ∨ ∃ m, s = .mu m ds ∧ s' = .mu m (ds ++ es)) → ds.length + es.length ≤ sizeLine → k.nx (env1.set i s') →
        rExtendX X.K (.ref p0) [.ref pb] H1 fun _ H2 => D.nx σ H2 := by
      intro ds s s' e hs hl ke
      obtain ⟨p', s1, hA, l⟩ := r1.lst (i := i) (ds := ds) (by rcases hs with ⟨rfl, _⟩ | ⟨m, rfl, _⟩; exact .inl e; exact .inr ⟨m, e⟩)
      rw [s0] at s1
      cases s1
      obtain ⟨xs, hx, hd⟩ := l.at
      obtain ⟨r3, f3⟩ := r1.write e s0 hA l (xs' := xs ++ zs) (hd.append g2) hs
      exact ⟨p0, pb, xs, zs, rfl, rfl, hx, r1.sub.l g1, by rw [hd.length, g2.length]; exact hl, nx _ _ _ _ _ (f1.trans f3) r3 ke⟩
    unfold putL at z
    split at z
    · rename_i ds e
      exact fin e (.inl ⟨rfl, rfl⟩) z.1 z.2
    · rename_i m ds e
      exact fin e (.inr ⟨m, rfl, rfl⟩) z.1 z.2
    · exact z.elim
  · exact z.elim
theorem pget_list {X : Cx} : PGet X (rIxL X.K) := by
  intro pins s σ H x y v u Q I rx ry h
  obtain ⟨p, xs, i, z, rfl, rfl, hq, he, q⟩ := h
  cases rx
  obtain ⟨t, rfl⟩ := ry
  obtain ⟨its, r, pl, hz⟩ := I.list hq
  obtain ⟨j, h1, h2, h3, h4, h5⟩ := atI_get he
  obtain ⟨w, ew, rw'⟩ := r.get h2
  have hl := r.length
  have hn := line63
  have fin : EP X pins σ Q w s := ⟨z, H, I, rw', q⟩
  by_cases h0 : 0 ≤ i
  · have hj : i.toNat = j := by
      rw [seqIndex_of h0 h5] at h1
      exact Option.some.inj h1
    exact wpAny_getItem_list pl.isList h0 (by omega) (by rw [hj]; simpa using ew) fin
  · have hj : (i + (its.toArray.size : Int)).toNat = j := by
      rw [seqIndex_neg (by omega) h4] at h1
      rw [List.size_toArray, ← hl]
      exact Option.some.inj h1
    exact wpAny_getItem_list_neg pl.isList (by omega) (by rw [List.size_toArray] <;> omega) (by omega) (by rw [hj]; simpa using ew) fin
theorem Rel.item {K : PySem.W.Frag} {G H : Hp} {σ : L2.St} {env : Ev} {as : As} {A : Ft} (r : Rel K G H σ env as A) {i : Nat} {z : Int} {c : Int → Prop} {p : Addr} (hp : σ[i]? = some (some (.ref p))) (h : itemW env i z c) :
    ∃ xs x, SqL K H p xs ∧ atI xs z = some (.int x) ∧ c x := by
  obtain ⟨d, v, h1, h2, h3⟩ := r.peek h
  rw [hp] at h1
  cases h1
  split at h3
  · obtain ⟨x, e1, hc⟩ := h3
    obtain ⟨p', xs, e, h4, h5⟩ := h2.list r.sub
    cases e
    obtain ⟨v, e3, dv⟩ := atI_da h5 e1
    cases dv
    exact ⟨xs, x, h4, e3, hc⟩
  · exact h3.elim
theorem s_augi {i : Nat} {o : BO} {b e : N} (ihb : IH cf C F b) (ihe : IH cf C F e) : IH cf C F (.augi i o b e) := by
  intro top X E0 ok ast h
  obtain ⟨x, p, j, p2, op, v, p3, rfl, h'⟩ := inv_augi h
  replace h := h'
  simp only [Bool.and_eq_true] at h
  obtain ⟨⟨⟨⟨⟨⟨h2, h3⟩, h4⟩, h5⟩, ho⟩, h6⟩, h7⟩ := h
  have hc : chk cf (.v i) top X.env.scope (.e (.Name x p)) = true := by
    show ((cf.N[i]? == some x) && visB X.env.scope x && okN x) = true
    rw [h3, h4, h5]; rfl
  intro env k G H σ as A hw r xo D nx bk ct rt
  have hw : isL env i <| wp F C b env (kE k.x fun rb env1 => intW rb.d fun z => itemW env1 i z fun x => wp F C e env1 (kE k.x fun r env2 => augW o (.int x) r.d fun y => putL env2 i (fun ds c => ∃ j, ixN ds.length z = some j ∧ c (ds.set j (.int y))) k.nx)) := hw
  obtain ⟨p0, xs0, s0, hx0, hw⟩ := r.isL hw
  have key : ∀ {tip : TIp}, (∀ {x y : Int} {c : Int → Prop} {H : Hp} {Q : VK}, augW o (.int x) (.int y) c → (∀ z, c z → Q (.int z) H) → tip (.int x) (.int y) H Q) → PIp X op tip → wS X (.AugAssign (.Subscript (.Name x p) j p2) op v p3) D σ H := by
    intro tip ht hp
    refine wS_of (ps_augS pe_w pe_w pget_list pe_w hp set_list (by intro ov iv new; cases j <;> first | rfl | (simp [noSlice] at h2; done))) ?_
    refine var_ok ok hc s0 ?_
    refine (ihb ok _ h6).dat (f := fun db env1 => intW db fun z => itemW env1 i z fun x => wp F C e env1 (kE k.x fun r env2 => augW o (.int x) r.d fun y => putL env2 i (fun ds c => ∃ j, ixN ds.length z = some j ∧ c (ds.set j (.int y))) k.nx)) hw r xo fun G1 H1 A1 env1 yb db f1 r1 ddb z => ?_
    unfold intW at z
    split at z
    · rename_i zz
      cases ddb
      obtain ⟨xs1, x1, q1, q2, z⟩ := r1.item s0 z
      refine ⟨p0, xs1, zz, .int x1, rfl, rfl, q1, q2, ?_⟩
      refine (ihe ok _ h7).dat (f := fun d env2 => augW o (.int x1) d fun y => putL env2 i (fun ds c => ∃ j, ixN ds.length zz = some j ∧ c (ds.set j (.int y))) k.nx) z r1 (xo.mono f1) fun G2 H2 A2 env2 yv d f2 r2 dd z => ?_
      have hi : ∃ y, d = .int y := by
        cases o <;> cases d <;> first | exact ⟨_, rfl⟩ | exact z.elim
      obtain ⟨y, rfl⟩ := hi
      cases dd
      refine ht z fun y z => ?_
      have fin : ∀ {ds : List PyData} {j : Nat} {s s' : Sl}, env2[i]? = some s → ((s = .own ds ∧ s' = .own (ds.set j (.int y))) ∨ ∃ m, s = .mu m ds ∧ s' = .mu m (ds.set j (.int y))) → ixN ds.length zz = some j → k.nx (env2.set i s') →
          rSetL (.ref p0) (.int zz) (.int y) H2 fun H3 => D.nx σ H3 := by
        intro ds j s s' e hs hj ke
        obtain ⟨p', s1, hA, l⟩ := r2.lst (i := i) (ds := ds) (by rcases hs with ⟨rfl, _⟩ | ⟨m, rfl, _⟩; exact .inl e; exact .inr ⟨m, e⟩)
        rw [s0] at s1
        cases s1
        obtain ⟨xs, hx, hd⟩ := l.at
        obtain ⟨r3, f3⟩ := r2.write e s0 hA l (xs' := xs.set j (.int y)) (DaAll.set (.int y) j hd) hs
        exact ⟨p0, xs, zz, j, rfl, rfl, hx, by rw [hd.length]; exact hj, nx _ _ _ _ _ ((f1.trans f2).trans f3) r3 ke⟩
      unfold putL at z
      split at z
      · rename_i ds e
        obtain ⟨j, hj, ke⟩ := z
        exact fin e (.inl ⟨rfl, rfl⟩) hj ke
      · rename_i m ds e
        obtain ⟨j, hj, ke⟩ := z
        exact fin e (.inr ⟨m, rfl, rfl⟩) hj ke
      · exact z.elim
    · exact z.elim
  cases o <;> cases op <;> first | exact absurd ho Bool.false_ne_true | skip
  · exact key (tip := ipI fun i j => i + j) (fun z q => ⟨_, _, rfl, rfl, q _ z⟩) ip_add
  · exact key (tip := ipI fun i j => i - j) (fun z q => ⟨_, _, rfl, rfl, q _ z⟩) ip_sub
theorem s_ins {i : Nat} {b e : N} (ihb : IH cf C F b) (ihe : IH cf C F e) : IH cf C F (.ins i b e) := by
  intro top X E0 ok ast h
  obtain ⟨x, p, m, ap, y, w, cp, p2, rfl, h'⟩ := inv_ins h
  replace h := h'
  simp only [Bool.and_eq_true] at h
  obtain ⟨⟨⟨⟨⟨⟨⟨⟨h1, h2⟩, h3⟩, h4⟩, h5⟩, h6⟩, h7⟩, h8⟩, h9⟩ := h
  cases beq_iff_eq.mp h2
  have hc : chk cf (.v i) top X.env.scope (.e (.Name x p)) = true := by
    show ((cf.N[i]? == some x) && visB X.env.scope x && okN x) = true
    rw [h3, h4, h5]; rfl
  intro env k G H σ as A hw r xo D nx bk ct rt
  have hw : isL env i <| wp F C b env (kE k.x fun rb env1 => intW rb.d fun z => wp F C e env1 (kE k.x fun r env2 => putL env2 i (fun ds c => ds.length < sizeLine ∧ 0 ≤ z ∧ z < 2 ^ 63 ∧ c (ds.take z.toNat ++ [r.d] ++ ds.drop z.toNat)) k.nx)) := hw
  obtain ⟨p0, xs0, s0, hx0, hw⟩ := r.isL hw
  refine wS_of (ps_expr (pe_bm PySem.F.plainAttrs_list PySem.F.slot_list_insert PySem.F.type_list_insert mt_insert pe_w (pa_cons pe_w (pa_cons pe_w pa_nil (star1 h7)) (star1 h6)) rfl (by rw [star1 h6, star1 h7]; rfl) h1 (star1 h6) (star_all (by rw [List.all_cons, h7]; rfl) _)) rfl) ?_
  refine var_ok ok hc s0 ⟨.inl ⟨rfl, xs0, SqL.of hx0⟩, ?_⟩
  refine (ihb ok _ h8).dat (f := fun d env1 => intW d fun z => wp F C e env1 (kE k.x fun r env2 => putL env2 i (fun ds c => ds.length < sizeLine ∧ 0 ≤ z ∧ z < 2 ^ 63 ∧ c (ds.take z.toNat ++ [r.d] ++ ds.drop z.toNat)) k.nx)) hw r xo fun G1 H1 A1 env1 zv zd f1 r1 dz z => ?_
  unfold intW at z
  split at z
  · rename_i n
    cases dz
    refine (ihe ok _ h9).dat (f := fun d env2 => putL env2 i (fun ds c => ds.length < sizeLine ∧ 0 ≤ n ∧ n < 2 ^ 63 ∧ c (ds.take n.toNat ++ [d] ++ ds.drop n.toNat)) k.nx) z r1 (xo.mono f1) fun G2 H2 A2 env2 yv d f2 r2 dd z => ?_
    have fin : ∀ {ds : List PyData} {s s' : Sl}, env2[i]? = some s → ((s = .own ds ∧ s' = .own (ds.take n.toNat ++ [d] ++ ds.drop n.toNat)) ∨ ∃ m, s = .mu m ds ∧ s' = .mu m (ds.take n.toNat ++ [d] ++ ds.drop n.toNat)) → ds.length < sizeLine ∧ 0 ≤ n ∧ n < 2 ^ 63 ∧ k.nx (env2.set i s') →
        ∃ (l : Addr) (xs : List V) (i : Int) (y : V), V.ref p0 = .ref l ∧ [V.int n, yv] = [.int i, y] ∧ H2 l = some (.lst xs) ∧ xs.length < sizeLine ∧ 0 ≤ i ∧ i < 2 ^ 63 ∧ D.nx σ (upd H2 l (.lst (xs.take i.toNat ++ [y] ++ xs.drop i.toNat))) := by
      intro ds s s' e hs z
      obtain ⟨p', s1, hA, l⟩ := r2.lst (i := i) (ds := ds) (by rcases hs with ⟨rfl, _⟩ | ⟨m, rfl, _⟩; exact .inl e; exact .inr ⟨m, e⟩)
      rw [s0] at s1
      cases s1
      obtain ⟨xs, hx, hd⟩ := l.at
      obtain ⟨r3, f3⟩ := r2.write e s0 hA l (xs' := xs.take n.toNat ++ [yv] ++ xs.drop n.toNat) (((hd.take _).append (.cons dd .nil)).append (hd.drop _)) hs
      exact ⟨p0, xs, n, yv, rfl, rfl, hx, by rw [hd.length]; exact z.1, z.2.1, z.2.2.1, nx _ _ _ _ _ ((f1.trans f2).trans f3) r3 z.2.2.2⟩
    unfold putL at z
    split at z
    · rename_i ds e
      exact fin e (.inl ⟨rfl, rfl⟩) z
    · rename_i m ds e
      exact fin e (.inr ⟨m, rfl, rfl⟩) z
    · exact z.elim
  · exact z.elim
theorem s_setc {is : List Nat} {e : N} (ihe : IH cf C F e) : IH cf C F (.setc is e) := by
  intro top X E0 ok ast h
  rcases inv_setc h with ⟨t1, t2, v, p, rfl, h'⟩ | ⟨t1, t2, t3, v, p, rfl, h'⟩
  · replace h := h'
    simp only [Bool.and_eq_true] at h
    obtain ⟨⟨h1, h2⟩, h3⟩ := h
    obtain ⟨i, j, y1, q1, y2, q2, rfl, rfl, rfl, g1, g2⟩ : ∃ i j y1 q1 y2 q2, is = [i, j] ∧ t1 = .Name y1 q1 ∧ t2 = .Name y2 q2 ∧ tgB cf top X.env.scope (.inl i) (.Name y1 q1) = true ∧ tgB cf top X.env.scope (.inl j) (.Name y2 q2) = true := by
      unfold namesB at h2
      split at h2 <;> first | exact absurd h2 Bool.false_ne_true | (rename_i z; cases z; done) | skip
      rename_i i is y q r e
      cases e
      rw [Bool.and_eq_true] at h2
      have h4 := h2.2
      unfold namesB at h4
      split at h4 <;> first | exact absurd h4 Bool.false_ne_true | (rename_i z; cases z; done) | skip
      rename_i j js y' q' r' e
      cases e
      rw [Bool.and_eq_true] at h4
      have h5 := h4.2
      unfold namesB at h5
      split at h5 <;> first | exact absurd h5 Bool.false_ne_true | (rename_i z; cases z; done) | skip
      exact ⟨i, j, y, q, y', q', rfl, rfl, rfl, h2.1, h4.1⟩
    intro env k G H σ as A hw r xo D nx bk ct rt
    have hw : wp F C e env (kE k.x fun r env1 => k.nx ((env1.set i (.dat r.d)).set j (.dat r.d))) := hw
    refine wS_of (ps_asg2 pe_w pg_w pg_w rfl rfl) ?_
    refine (ihe ok _ h3).dat (f := fun d env1 => k.nx ((env1.set i (.dat d)).set j (.dat d))) hw r xo fun G1 H1 A1 env1 vv d f1 r1 dd z => ?_
    refine sg_ok (c := fun env2 => k.nx (env2.set j (.dat d))) ok g1 z r1 dd fun σ2 env2 A2 r2 f2 _ z => ?_
    refine sg_ok (c := k.nx) ok g2 z r2 dd fun σ3 env3 A3 r3 f3 _ z => ?_
    exact nx _ _ _ _ _ ((f1.trans f2).trans f3) r3 z
  · replace h := h'
    simp only [Bool.and_eq_true] at h
    obtain ⟨⟨h1, h2⟩, h3⟩ := h
    obtain ⟨i, j, l, y1, q1, y2, q2, y3, q3, rfl, rfl, rfl, rfl, g1, g2, g3⟩ : ∃ i j l y1 q1 y2 q2 y3 q3, is = [i, j, l] ∧ t1 = .Name y1 q1 ∧ t2 = .Name y2 q2 ∧ t3 = .Name y3 q3 ∧ tgB cf top X.env.scope (.inl i) (.Name y1 q1) = true ∧ tgB cf top X.env.scope (.inl j) (.Name y2 q2) = true ∧ tgB cf top X.env.scope (.inl l) (.Name y3 q3) = true := by
      unfold namesB at h2
      split at h2 <;> first | exact absurd h2 Bool.false_ne_true | (rename_i z; cases z; done) | skip
      rename_i i is y q r e
      cases e
      rw [Bool.and_eq_true] at h2
      have h4 := h2.2
      unfold namesB at h4
      split at h4 <;> first | exact absurd h4 Bool.false_ne_true | (rename_i z; cases z; done) | skip
      rename_i j js y' q' r' e
      cases e
      rw [Bool.and_eq_true] at h4
      have h5 := h4.2
      unfold namesB at h5
      split at h5 <;> first | exact absurd h5 Bool.false_ne_true | (rename_i z; cases z; done) | skip
      rename_i l ls y2 q2 r2 e
      cases e
      rw [Bool.and_eq_true] at h5
      have h6 := h5.2
      unfold namesB at h6
      split at h6 <;> first | exact absurd h6 Bool.false_ne_true | (rename_i z; cases z; done) | skip
      exact ⟨i, j, l, y, q, y', q', y2, q2, rfl, rfl, rfl, rfl, h2.1, h4.1, h5.1⟩
    intro env k G H σ as A hw r xo D nx bk ct rt
    have hw : wp F C e env (kE k.x fun r env1 => k.nx (((env1.set i (.dat r.d)).set j (.dat r.d)).set l (.dat r.d))) := hw
    refine wS_of (ps_asg3 pe_w pg_w pg_w pg_w rfl rfl) ?_
    refine (ihe ok _ h3).dat (f := fun d env1 => k.nx (((env1.set i (.dat d)).set j (.dat d)).set l (.dat d))) hw r xo fun G1 H1 A1 env1 vv d f1 r1 dd z => ?_
    refine sg_ok (c := fun env2 => k.nx ((env2.set j (.dat d)).set l (.dat d))) ok g1 z r1 dd fun σ2 env2 A2 r2 f2 _ z => ?_
    refine sg_ok (c := fun env2 => k.nx (env2.set l (.dat d))) ok g2 z r2 dd fun σ3 env3 A3 r3 f3 _ z => ?_
    refine sg_ok (c := k.nx) ok g3 z r3 dd fun σ4 env4 A4 r4 f4 _ z => ?_
    exact nx _ _ _ _ _ (((f1.trans f2).trans f3).trans f4) r4 z
theorem s_ifs {t a b : N} (iht : IH cf C F t) (iha : IH cf C F a) (ihb : IH cf C F b) : IH cf C F (.ifs t a b) := by
  intro top X E0 ok ast h
  obtain ⟨c, x, y, p, rfl, h'⟩ := inv_ifs h
  replace h := h'
  simp only [Bool.and_eq_true] at h
  obtain ⟨⟨h1, h2⟩, h3⟩ := h
  intro env k G H σ as A hw r xo D nx bk ct rt
  have hw : wp F C t env (kT k.x fun c env1 => bothW c (wp F C a env1 k) (wp F C b env1 k)) := hw
  refine wS_of (ps_if pt_w pb_w pb_w) ?_
  refine iht ok _ h1 env _ G H σ as A hw r xo _ fun G1 H1 A1 env1 c f1 r1 z => ?_
  have z : bothW c (wp F C a env1 k) (wp F C b env1 k) := z
  cases c with
  | true =>
    exact iteT (iha ok _ h2 env1 k G1 H1 σ as A1 (bothT z) r1 (xo.mono f1) D (fun G2 H2 A2 σ2 env2 f2 => nx _ _ _ _ _ (f1.trans f2)) (fun G2 H2 A2 σ2 env2 f2 => bk _ _ _ _ _ (f1.trans f2)) (fun G2 H2 A2 σ2 env2 f2 => ct _ _ _ _ _ (f1.trans f2)) fun G2 H2 A2 σ2 env2 v r B po => rt _ _ _ _ _ _ _ _ (po.pre f1))
  | false =>
    exact iteF (ihb ok _ h3 env1 k G1 H1 σ as A1 (bothF z) r1 (xo.mono f1) D (fun G2 H2 A2 σ2 env2 f2 => nx _ _ _ _ _ (f1.trans f2)) (fun G2 H2 A2 σ2 env2 f2 => bk _ _ _ _ _ (f1.trans f2)) (fun G2 H2 A2 σ2 env2 f2 => ct _ _ _ _ _ (f1.trans f2)) fun G2 H2 A2 σ2 env2 v r B po => rt _ _ _ _ _ _ _ _ (po.pre f1))
theorem s_brk : IH cf C F .brk := by
  intro top X E0 ok ast h
  obtain ⟨p, rfl, h'⟩ := inv_brk h
  intro env k G H σ as A hw r xo D nx bk ct rt
  exact wS_of ps_break (bk _ _ _ _ _ (Fr.refl G H A) r hw)
theorem s_ctn : IH cf C F .ctn := by
  intro top X E0 ok ast h
  obtain ⟨p, rfl, h'⟩ := inv_ctn h
  intro env k G H σ as A hw r xo D nx bk ct rt
  exact wS_of ps_continue (ct _ _ _ _ _ (Fr.refl G H A) r hw)
theorem s_pas : IH cf C F .pas := by
  intro top X E0 ok ast h
  obtain ⟨p, rfl, h'⟩ := inv_pas h
  intro env k G H σ as A hw r xo D nx bk ct rt
  exact wS_of ps_pass (nx _ _ _ _ _ (Fr.refl G H A) r hw)
theorem s_done : IH cf C F .done := by
  intro top X E0 ok ast h
  obtain ⟨rfl, h'⟩ := inv_done h
  intro env k G H σ as A hw r xo D nx bk ct rt
  exact wB_of pss_nil (nx _ _ _ _ _ (Fr.refl G H A) r hw)
theorem s_seq {s r : N} (ihs : IH cf C F s) (ihr : IH cf C F r) : IH cf C F (.seq s r) := by
  intro top X E0 ok ast h
  obtain ⟨x, xs, rfl, h'⟩ := inv_seq h
  replace h := h'
  simp only [Bool.and_eq_true] at h
  intro env k G H σ as A hw rr xo D nx bk ct rt
  have hw : wp F C s env (k.on fun env1 => wp F C r env1 k) := hw
  refine wB_of (pss_cons ps_w pb_w) ?_
  refine ihs ok _ h.1 env _ G H σ as A hw rr xo { D with nx := wB X xs D } (fun G1 H1 A1 σ1 env1 f1 r1 z => ?_) (fun G2 H2 A2 σ2 env2 f2 => bk _ _ _ _ _ f2) (fun G2 H2 A2 σ2 env2 f2 => ct _ _ _ _ _ f2) fun G2 H2 A2 σ2 env2 v r B po => rt _ _ _ _ _ _ _ _ po
  exact ihr ok _ h.2 env1 k G1 H1 σ1 as A1 z r1 (xo.mono f1) D (fun G2 H2 A2 σ2 env2 f2 => nx _ _ _ _ _ (f1.trans f2)) (fun G2 H2 A2 σ2 env2 f2 => bk _ _ _ _ _ (f1.trans f2)) (fun G2 H2 A2 σ2 env2 f2 => ct _ _ _ _ _ (f1.trans f2)) fun G2 H2 A2 σ2 env2 v r B po => rt _ _ _ _ _ _ _ _ (po.pre f1)
theorem s_forr {x : Tg} {it b : N} (ihi : IH cf C F it) (ihb : IH cf C F b) : IH cf C F (.forr x it b) := by
  intro top X E0 ok ast h
  obtain ⟨tg, iter, body, p, rfl, h'⟩ := inv_forr h
  replace h := h'
  simp only [Bool.and_eq_true] at h
  obtain ⟨⟨⟨⟨⟨hh, h0⟩, h1⟩, h2⟩, h3⟩, h4⟩ := h
  rw [Bool.not_eq_true'] at hh
  intro env k G H σ as A hw r xo D nx bk ct rt
  have hw : wp F C it env (kI k.x fun ds env1 => forW (fun d env2 c => asgW x d env2 fun env3 => wp F C b env3 (k.lp c k.nx)) k.nx ds env1) := hw
  refine wS_of (ps_for (ok.ps h0) (ok.calm hh) pi_w pg_w pb_w (folded_none h1)) ?_
  refine ihi ok _ h3 env _ G H σ as A hw r xo _ fun G1 H1 A1 env1 J ds f1 r1 wk z => ?_
  have z : forW (fun d env2 c => asgW x d env2 fun env3 => wp F C b env3 (k.lp c k.nx)) k.nx ds env1 := z
  let Inv1 : Nat → L2.St → Hp → Prop := fun i σ' H' => ∃ G' A' env', Fr G1 H1 A1 G' H' A' ∧ Rel X.K G' H' σ' env' as A' ∧ forW (fun d env2 c => asgW x d env2 fun env3 => wp F C b env3 (k.lp c k.nx)) k.nx (ds.drop i) env'
  refine ⟨fun i m σ' H' => m = ds.length - i ∧ i ≤ ds.length ∧ Inv1 i σ' H', ⟨ds.length, by simp, Nat.zero_le _, G1, A1, env1, Fr.refl _ _ _, r1, z⟩, ?_⟩
  rintro i m σ' H' ⟨rfl, hi, G', A', env', f2, r2, w⟩
  by_cases hlt : i < ds.length
  · refine .inr ⟨wk.go i H' hlt (f2.gg.trans r2.sub), Inv1 (i + 1), fun σ'' H'' p' => ⟨ds.length - (i + 1), by omega, rfl, hlt, p'⟩, fun y H2 yl => ?_⟩
    have ed : ds[i]? = some ds[i] := by simp [hlt]
    rw [List.drop_eq_getElem_cons hlt] at w
    have w : asgW x ds[i] env' fun env3 => wp F C b env3 (k.lp (forW (fun d env2 c => asgW x d env2 fun env3 => wp F C b env3 (k.lp c k.nx)) k.nx (ds.drop (i + 1))) k.nx) := w
    obtain ⟨G3, f3, r3, dv⟩ : ∃ G3, Fr G' H' A' G3 H2 A' ∧ Rel X.K G3 H2 σ' env' as A' ∧ Da X.K G3 y ds[i] := by
      rcases wk.yld i H' y H2 ds[i] G' ed f2.gg r2.sub yl with ⟨rfl, dv⟩ | ⟨pp, o, hp, rfl, dv⟩
      · exact ⟨G', Fr.refl _ _ _, r2, dv⟩
      · exact ⟨upd G' pp o, Fr.up hp r2.sub, r2.up hp, dv⟩
    refine sg_ok ok h2 w r3 dv fun σ4 env4 A4 r4 f4 _ w => ?_
    have fa := (f2.trans f3).trans f4
    refine ihb ok _ h4 env4 _ G3 H2 σ4 as A4 w r4 (xo.mono (f1.trans fa)) { D with nx := Inv1 (i + 1), ct := Inv1 (i + 1), bk := D.nx } (fun G5 H5 A5 σ5 env5 f5 r5 z => ?_) (fun G5 H5 A5 σ5 env5 f5 r5 z => ?_) (fun G5 H5 A5 σ5 env5 f5 r5 z => ?_) fun G5 H5 A5 σ5 env5 v rr B po z => ?_
    · exact ⟨G5, A5, env5, fa.trans f5, r5, z⟩
    · exact nx _ _ _ _ _ ((f1.trans fa).trans f5) r5 z
    · exact ⟨G5, A5, env5, fa.trans f5, r5, z⟩
    · exact rt _ _ _ _ _ _ _ _ (po.pre (f1.trans fa)) z
  · have ei : i = ds.length := by omega
    subst ei
    rw [List.drop_length] at w
    exact .inl ⟨wk.stop _ H' (Nat.le_refl _) (f2.gg.trans r2.sub), nx _ _ _ _ _ (f1.trans f2) r2 w⟩
theorem s_whl {t b : N} (iht : IH cf C F t) (ihb : IH cf C F b) : IH cf C F (.whl t b) := by
  intro top X E0 ok ast h
  obtain ⟨c, body, p, rfl, h'⟩ := inv_whl h
  replace h := h'
  simp only [Bool.and_eq_true] at h
  obtain ⟨⟨h0, h1⟩, h2⟩ := h
  intro env k G H σ as A hw r xo D nx bk ct rt
  obtain ⟨I, μ, i0, hw⟩ : ∃ (I : Ev → Prop) (μ : Ev → Nat), I env ∧ ∀ env1, I env1 → wp F C t env1 (kT k.x fun c env2 => bothW c (wp F C b env2 (k.lp (fun e => I e ∧ μ e < μ env1) k.nx)) (k.nx env2)) := hw
  refine wS_of (ps_while (ok.ps h0) pt_w pb_w) ?_
  let W : Nat → L2.St → Hp → Prop := fun m σ' H' => ∃ G' A' env', m = μ env' ∧ Fr G H A G' H' A' ∧ Rel X.K G' H' σ' env' as A' ∧ I env'
  refine ⟨W, ⟨_, G, A, env, rfl, Fr.refl _ _ _, r, i0⟩, ?_⟩
  rintro m σ' H' ⟨G', A', env', rfl, f1, r1, i1⟩
  refine iht ok _ h1 env' _ G' H' σ' as A' (hw env' i1) r1 (xo.mono f1) _ fun G2 H2 A2 env2 c f2 r2 z => ?_
  have z : bothW c (wp F C b env2 (k.lp (fun e => I e ∧ μ e < μ env') k.nx)) (k.nx env2) := z
  have fa := f1.trans f2
  cases c with
  | true =>
    refine iteT ⟨fun σ'' H'' => ∃ m', m' < μ env' ∧ W m' σ'' H'', fun _ _ n => n, ?_⟩
    refine ihb ok _ h2 env2 _ G2 H2 σ' as A2 (bothT z) r2 (xo.mono fa) _ (fun G5 H5 A5 σ5 env5 f5 r5 z => ?_) (fun G5 H5 A5 σ5 env5 f5 r5 z => ?_) (fun G5 H5 A5 σ5 env5 f5 r5 z => ?_) fun G5 H5 A5 σ5 env5 v rr B po z => ?_
    · exact ⟨_, z.2, G5, A5, env5, rfl, fa.trans f5, r5, z.1⟩
    · exact nx _ _ _ _ _ (fa.trans f5) r5 z
    · exact ⟨_, z.2, G5, A5, env5, rfl, fa.trans f5, r5, z.1⟩
    · exact rt _ _ _ _ _ _ _ _ (po.pre fa) z
  | false => exact iteF (nx _ _ _ _ _ fa r2 (bothF z))
end
end Pi

/-! Exceptions: raise, try .. except X as e, what is read of e. -/
namespace Pi
open PySem L2 PySem.Spec PyProof.Rows
section
variable {X : Cx} {a C : Addr} {oe : Obj} {d : Option Addr}
/-- isinstance(e, c), e what has been caught -/
def rIsX (K : PySem.W.Frag) (C a : Addr) (dd : Addr) : List V → Hp → VK → Prop := fun xs H Q => ∃ (c : V) (cv : Value) (b : Bool) (fs : List (Str × V)), xs = [.ref a, c] ∧ ClsV c cv ∧ PySem.W.kitOne K (.ref C) cv = some b ∧ H dd = some (.xd fs) ∧ Q (.bl b) H
theorem call_isX {dd : Addr} (hp : (a, oe) ∈ X.pn) (T : XfC X.K C) (hcl : (PySem.W.clsIn X.K C).isSome = true) (hc : PySem.W.findIn X.K (.ref C) "__class__" = some (some (.builtin "object.__class__")))
    (hn : PySem.W.specialIn X.K (.builtin "object.__class__") "__get__" = some (some (.builtin "getset_descriptor.__get__"))) (ht : PySem.W.takesIn X.K (.builtin "object.__class__") = some true) (hm : PySem.W.mroIn X.K C (.type "object") = some true)
    (hz : Zc (.ref C) (some dd) oe) (hf : ∃ vs, oe.data = .fields vs) : CallR X (.builtin "isinstance") (rIsX X.K C a dd) := by
  intro pins s σ H xs us Q I r h
  obtain ⟨c, cv, b, fs, rfl, k, e, ed, q⟩ := h
  obtain ⟨u1, u2, rfl, r1, r2⟩ := vals2 r
  have e2 := k.eq r2
  subst e2
  obtain rfl : u1 = Value.ref a := r1
  obtain ⟨ha, _⟩ := I.pin (a, oe) (List.mem_append_left _ hp)
  obtain ⟨vs, hd⟩ := hf
  obtain ⟨mA, hns, hr⟩ := (show ObjOk X.prog X.w H s.heap dd (.xd fs) from I.hok dd _ ed)
  obtain ⟨od, ho, hl⟩ := lookIn_ns hns
  have J : PySem.W.InstAt s.heap a oe C (some od) := ⟨ha, hz.1, by unfold PySem.W.notCls; rw [hd] <;> rfl, by rw [hz.2]; exact ho⟩
  exact PySem.W.kia_one (PySem.W.kitx_exc (od := some od) hcl T.ga T.gg T.exC hc hn ht hm) I.kIn J e (fun z => nomatch z) fun tk => ⟨.bl b, H, I.tok tk, rfl, q⟩
end
section
variable {cf : Cf} {C : Nat → Option PyData} {F : Fs}
theorem exc_slot {X : Cx} {E0 : WX} {top : Bool} (ok : Ok cf C F top X E0) {G H : Hp} {σ : L2.St} {env : Ev} {as : As} {A : Ft} {x : Xc → Ev → Prop} (r : Rel X.K G H σ env as A) (xo : XO X cf E0 as G H A x) {i : Nat} {e : Xc} (h : env[i]? = some (.exc e)) :
    ∃ (u : Cau) (v : V) (oe : Obj), σ[i]? = some (some (.ref u.a)) ∧ u.x = e ∧ G u.d = some (.xd [("place", v), ("word", .str e.word)]) ∧ Da X.K G v e.place ∧ (∃ (X0 : Cx) (pn : List (Addr × Obj)), X = X0.suite u.a ((u.a, oe) :: pn)) ∧ Zc (.ref u.C) (some u.d) oe ∧ (∃ vs, oe.data = .fields vs) ∧ e.cls < cf.nr ∧ X.mg (cf.xn e.cls) = some (.ref u.C) ∧
      XfC X.K u.C ∧ PySem.W.findIn X.K (.ref u.C) "word" = some none ∧ PySem.W.findIn X.K (.ref u.C) "place" = some none ∧ (PySem.W.clsIn X.K u.C).isSome = true ∧
      PySem.W.findIn X.K (.ref u.C) "__class__" = some (some (.builtin "object.__class__")) ∧ PySem.W.mroIn X.K u.C (.type "object") = some true := by
  obtain ⟨_, u, v, q2, q3, q4, q5, q6⟩ := r.sl i _ h
  obtain ⟨⟨oe, p1, p2, p3⟩, n, m⟩ := xo.cau u q2
  rw [q3] at n m
  obtain ⟨D, m2, z⟩ := (ok.rd _ n).ex
  rw [m] at m2
  cases m2
  exact ⟨u, v, oe, q4, q3, q5, q6, p1, p2, p3, n, m, z⟩
theorem s_xw {i : Nat} : IH cf C F (.xw i) := by
  intro top X E0 ok ast h
  obtain ⟨x, p, m, ap, rfl, h'⟩ := inv_xw h
  replace h := h'
  simp only [Bool.and_eq_true, beq_iff_eq] at h
  obtain ⟨⟨⟨h0, h1⟩, h2⟩, h3⟩ := h
  subst h0
  have hc : chk cf (.v i) top X.env.scope (.e (.Name x p)) = true := by
    show ((cf.N[i]? == some x) && visB X.env.scope x && okN x) = true
    rw [h1, h2, h3]
    simp
  intro env k G H σ as A hw r xo Qv q
  have hw : (match env[i]? with
    | some (.exc x) => k.e (.dat (.str x.word)) env
    | _ => False) := hw
  split at hw
  · rename_i e he
    obtain ⟨u, v, oe, s1, e1, e2, e3, e4, e5, e6, e7, e8, T, n1, n2, _⟩ := exc_slot ok r xo he
    obtain ⟨X0, pn, rfl⟩ := e4
    refine wE_of (pe_xf T n1 e5 e6 pe_w) ?_
    refine var_ok ok hc s1 ⟨rfl, rfl, _, _, _, rfl, r.sub _ _ e2, rfl, ?_⟩
    exact q _ _ _ _ _ _ _ (Po.same r (.str _)) hw
  · exact hw.elim
theorem s_xp {i : Nat} : IH cf C F (.xp i) := by
  intro top X E0 ok ast h
  obtain ⟨x, p, m, ap, rfl, h'⟩ := inv_xp h
  replace h := h'
  simp only [Bool.and_eq_true, beq_iff_eq] at h
  obtain ⟨⟨⟨h0, h1⟩, h2⟩, h3⟩ := h
  subst h0
  have hc : chk cf (.v i) top X.env.scope (.e (.Name x p)) = true := by
    show ((cf.N[i]? == some x) && visB X.env.scope x && okN x) = true
    rw [h1, h2, h3]
    simp
  intro env k G H σ as A hw r xo Qv q
  have hw : (match env[i]? with
    | some (.exc x) => k.e (.dat x.place) env
    | _ => False) := hw
  split at hw
  · rename_i e he
    obtain ⟨u, v, oe, s1, e1, e2, e3, e4, e5, e6, e7, e8, T, n1, n2, _⟩ := exc_slot ok r xo he
    obtain ⟨X0, pn, rfl⟩ := e4
    refine wE_of (pe_xf T n2 e5 e6 pe_w) ?_
    refine var_ok ok hc s1 ⟨rfl, rfl, _, _, _, rfl, r.sub _ _ e2, rfl, ?_⟩
    exact q _ _ _ _ _ _ _ (Po.same r e3) hw
  · exact hw.elim
theorem s_xi {i : Nat} {nm : Str} {ts : List Nat} : IH cf C F (.xi i nm ts) := by
  intro top X E0 ok ast h
  obtain ⟨f, p, x, p2, z, p3, p4, rfl, h'⟩ := inv_xi h
  replace h := h'
  simp only [Bool.and_eq_true] at h
  obtain ⟨⟨⟨⟨⟨⟨⟨⟨⟨h0, h1⟩, h2⟩, h3⟩, h4⟩, h5⟩, h6⟩, h7⟩, h8⟩, h9⟩ := h
  have h0 := beq_iff_eq.mp h0
  have h8 := beq_iff_eq.mp h8
  subst h0
  subst h8
  have hc : chk cf (.v i) top X.env.scope (.e (.Name x p2)) = true := by
    show ((cf.N[i]? == some x) && visB X.env.scope x && okN x) = true
    rw [h3, h4, h5]
    rfl
  intro env k G H σ as A hw r xo Qv q
  have hw : (match env[i]? with
    | some (.exc x) => k.e (.dat (.bool (ts.contains x.cls))) env
    | _ => False) := hw
  split at hw
  · rename_i e he
    obtain ⟨u, v, oe, s1, e1, e2, e3, e4, e5, e6, e7, e8, T, n1, n2, n3, n4, n5⟩ := exc_slot ok r xo he
    obtain ⟨cv, w, nmz, kc, tb⟩ := ok.it _ _ h9
    obtain ⟨g1, g2⟩ := ok.cg (by omega)
    have hb : PE X (.Name nm p3) (tC cv) := by
      rcases nmz with hm | ⟨hm, hbt, hnn⟩
      · exact pe_glob (glB_of h6) hm (by cases kc <;> rfl) (okN_of h7).1
      · cases kc with
        | ty T => exact pe_bltn (glB_of h6) hm hbt rfl hnn (okN_of h7).1
        | own D => exact pe_bltn (glB_of h6) hm hbt rfl hnn (okN_of h7).1
    have e4 : (u.a, oe) ∈ X.pn := by
      obtain ⟨X0, pn, rfl⟩ := e4
      exact .head _
    refine wE_of (pe_callB (call_isX e4 T n3 n4 g1 g2 n5 e5 e6) (glB_of h1) (ok.bl _ h2) PyProof.Rows.boot_isinstance (pa_cons pe_w (pa_cons hb pa_nil rfl) rfl) (by decide) (by decide) rfl rfl) ?_
    refine var_ok ok hc s1 ?_
    refine ⟨cv, w, ts.contains e.cls, _, rfl, kc, tb _ _ e7 e8, r.sub _ _ e2, ?_⟩
    exact q _ _ _ _ _ _ _ (Po.same r (.bl _)) hw
  · exact hw.elim
/-- behind an own __init__: the exception's dict is all that is new -/
theorem new_xd {H1 H' : Hp} {a dx : Addr} {o : HO} (na : H1 a = none) (hne : dx ≠ a) (rest : ∀ b, b ≠ a → b ≠ dx → H' b = upd H1 a o b) (fs : List (Str × V)) : upd (del H' a) dx (.xd fs) = upd H1 dx (.xd fs) := by
  funext b
  by_cases hb : b = dx
  · rw [hb, upd_same, upd_same]
  · rw [upd_ne hb, upd_ne hb]
    by_cases hc : b = a
    · rw [hc, del_same, na]
    · rw [del_ne hc, rest b hc hb, upd_ne hc]
theorem rai_out {X : Cx} {E0 : WX} {top : Bool} (ok : Ok cf C F top X E0) {G H G1 H1 : Hp} {σ : L2.St} {env : Ev} {as : As} {A A1 : Ft} {x : Xc → Ev → Prop} {c : Nat} {CC : Addr} {v : V} {d : PyData}
    (xo : XO X cf E0 as G H A x) (f : Fr G H A G1 H1 A1) (r : Rel X.K G1 H1 σ env as A1) (dv : Da X.K G1 v d) (hm : X.mg (cf.xn c) = some (.ref CC)) (hc : c < cf.nr) (T : OexC X.K CC)
    (n1 : PySem.W.findIn X.K (.ref CC) "word" = some none) (n2 : PySem.W.findIn X.K (.ref CC) "place" = some none) (z : x ⟨c, cf.xn c, d⟩ env) {a : Addr} (na : H1 a = none) :
    spIni X.K (cf.xn c) [.ref a, v] (upd H1 a (exo a CC none)) (fun v H2 => v = .non ∧ ∃ (d : Addr) (fs : List (Str × V)), H2 a = some (exo a CC (some d)) ∧ H2 d = some (exd d fs) ∧ H1 d = none ∧ E0 (.ref CC) (some d) σ (upd (del H2 a) d (.xd fs))) (fun _ _ _ => False) := by
  refine ⟨a, CC, v, rfl, upd_same, T, n1, n2, fun dx H' hdx hne ea ed rest => ⟨rfl, dx, _, ea, ed, ?_, ?_⟩⟩
  · rw [upd_ne hne] at hdx
    exact hdx
  · rw [upd_ne hne] at hdx
    rw [new_xd na hne rest]
    refine xo.out (upd G1 dx (.xd [("place", v), ("word", .str (cf.xn c))])) _ A1 σ env ⟨c, cf.xn c, d⟩ _ _ (f.trans (Fr.up hdx r.sub)) (r.up hdx) ⟨CC, v, hm, hc, rfl, upd_same, Da.le (Le.new ?_) dv⟩ z
    cases e : G1 dx with
    | none => rfl
    | some o => have := r.sub dx o e; rw [hdx] at this; cases this
theorem s_rai {c : Nat} {w : Str} {e : N} (ihe : IH cf C F e) : IH cf C F (.rai c w e) := by
  intro top X E0 ok ast h
  obtain ⟨x, p, y, p2, p3, rfl, h'⟩ := inv_rai h
  replace h := h'
  simp only [Bool.and_eq_true, beq_iff_eq] at h
  obtain ⟨⟨⟨⟨⟨⟨h0, h1⟩, h2⟩, h3⟩, h4⟩, h5⟩, h6⟩ := h
  have h0 := of_decide_eq_true h0
  subst h2
  subst h1
  intro env k G H σ as A hw r xo D nx bk ct rt
  have hw : wp F C e env (kE k.x fun r env1 => k.x ⟨c, cf.xn c, r.d⟩ env1) := hw
  obtain ⟨CC, fI, kk, fd, hm, hc, T, iC, tI, n1, n2, F1, hr, b0, b1⟩ := (ok.xm c h0).ex
  have calm : X.calm = true := ok.calm (by
    cases hh : cf.hot with
    | false => rfl
    | true => exact absurd h0 (by rw [ok.hx hh]; omega))
  refine wS_of (ps_raise calm ok.tk (pmk_oex T iC tI F1 hr b0 .nil passL (glB_of h3) hm (pa_cons pe_w pa_nil (star1 h5)) (okN_of h4).1 (star1 h5) rfl)) ?_
  refine (ihe ok _ h6).dat (f := fun d env1 => k.x ⟨c, cf.xn c, d⟩ env1) hw r xo fun G1 H1 A1 env1 v d f1 r1 dd z => ?_
  refine ⟨by simp, fun a na => ?_⟩
  exact rai_out ok xo f1 r1 dd hm hc T n1 n2 z na
/-- an exception class is called: its own __init__, keeping sp, fills in what is new -/
theorem mk_call {X : Cx} {CX : CXT} {C fI : Addr} {k : Nat} {fd : FuncData} {ps : List Str} {sp : Sp} {ds us : List Value} {dvs vs : List V} {pins : List (Addr × Obj)} {s : Shared} {σ : L2.St} {H : Hp} {Q : XK} (T : OexC X.K C)
    (iC : PySem.W.findIn X.K (.ref C) "__init__" = some (some (.ref fI))) (tI : PySem.W.typeIn X.K (.ref fI) = some (.type "function")) (F1 : FnOk X.prog X.w X.K X.mg X.base CX k fI fd ps sp) (hr : Room (k + 1) X.A) (hb : Binds X.K fd ps ds) (hd : Vals dvs ds)
    (hx : Passes CX X (fun _ _ _ => False)) (I : Inv X pins σ H s) (rv : Vals vs us) (hu : us.length ≤ 1000)
    (h : ∀ a, H a = none → sp (.ref a :: (vs ++ dvs)) (upd H a (exo a C none)) (fun v H2 => v = .non ∧ ∃ (d : Addr) (fs : List (Str × V)), H2 a = some (exo a C (some d)) ∧ H2 d = some (exd d fs) ∧ H d = none ∧ Q (.ref C) (some d) (upd (del H2 a) d (.xd fs))) (fun _ _ _ => False)) :
    wpAny (model X.prog X.w) X.A (call (.ref C) us) (MkP X pins σ Q) X.xe s := by
  obtain ⟨_, _, _, _, bm, _, _, _, _, _, _, _, _, _, _, atC, isVE⟩ := T.cls
  obtain ⟨heap, gens, drawn, toks, os⟩ := s
  -- the tuple of the arguments comes first, the exception behind it
  let top : Heap := (heap.push (PySem.W.kdv_tup us)).push (PySem.HandSPX.excO C heap.objs.size)
  have old : ∀ b o, heap.get? b = some o → top.get? b = some o := fun _ _ z => Heap.get?_push_of_some _ (Heap.get?_push_of_some _ z)
  have new : top.get? (heap.objs.size + 1) = some (PySem.HandSPX.excO C heap.objs.size) := by
    show ((heap.push (PySem.W.kdv_tup us)).push (PySem.HandSPX.excO C heap.objs.size)).get? (heap.objs.size + 1) = _
    heap_get
  have le : heap.objs.size ≤ heap.objs.size + 1 := Nat.le_succ _
  have promise := h _ (I.hok.fresh le)
  have J : Inv X pins σ (upd H (heap.objs.size + 1) (exo (heap.objs.size + 1) C none)) ⟨top, gens, drawn, toks, os⟩ := I.laid (t' := toks) old le (exo_ok new)
  have all : Vals (V.ref (heap.objs.size + 1) :: (vs ++ dvs)) ((Value.ref (heap.objs.size + 1) :: us) ++ ds) := .cons rfl (rv.append hd)
  have many : ((Value.ref (heap.objs.size + 1) :: us) ++ ds).length = ps.length := by rw [← all.length]; exact F1.len _ _ _ _ promise
  refine wpAny_call (PySem.HandSPX.call_own F.excBase_ValueError (fun Y => PySem.HandSPX.refsVE_contains Y bm isVE) (I.kIn _ _ atC) (PySem.W.looks_findIn I.kIn iC) (fun self => PySem.W.bind_fn I.kIn self tI) (by rw [sizeLine_eq]; omega) ?_)
  refine codeAny_mono (F1.run _ X.stack _ _ ⟨Value.ref (heap.objs.size + 1) :: us, []⟩ _ _ _ (fun _ _ _ => False) (hr.make C us []) (J.env0.make C us []) (hb _ _ J.kIn many) all promise) fun r s' z => ?_
  cases r with
  | error er => exact hx pins σ _ _ er s' J z
  | ok fl =>
    cases fl with
    | ret u =>
      obtain ⟨v, H2, z1, z2, z3, z4, rfl', rfl, d, fs, ea, ed, hd1, q⟩ := z
      obtain ⟨heap2, gens2, drawn2, toks2, os2⟩ := s'
      exact ⟨rfl', mk_end (raises_own T.exC T.tyC) I le old z3 z4 z1 z2 ea ed hd1 q⟩
    | next => exact z.elim
    | brk => exact z.elim
    | cont => exact z.elim
/-- C(), the defaults dvs filling up -/
theorem pmk_oex0 {X : Cx} {CX : CXT} {x : Str} {C fI : Addr} {k : Nat} {fd : FuncData} {ps : List Str} {sp : Sp} {ds : List Value} {dvs : List V} {p pos : Pos} (T : OexC X.K C) (iC : PySem.W.findIn X.K (.ref C) "__init__" = some (some (.ref fI))) (tI : PySem.W.typeIn X.K (.ref fI) = some (.type "function"))
    (F1 : FnOk X.prog X.w X.K X.mg X.base CX k fI fd ps sp) (hr : Room (k + 1) X.A) (hb : Binds X.K fd ps ds) (hd : Vals dvs ds) (hx : Passes CX X (fun _ _ _ => False)) (hg : Gl X x) (hm : X.mg x = some (.ref C))
    (hdb : (x == ("__debug__" : Str)) = false := by decide) : PMk X (.Call (.Name x p) [] [] pos) (tMkO C sp dvs tNil) := fun pins s σ H Q I h =>
  wpAny_Call_Name_kw (ld_glob I hg hm (PySem.W.callWith_K0 I.kIn T.kC (mk_call T iC tI F1 hr hb hd hx I .nil (Nat.zero_le _) h.2)) hdb)
theorem s_rai0 {c : Nat} {w : Str} : IH cf C F (.rai0 c w) := by
  intro top X E0 ok ast h
  obtain ⟨x, p, p2, p3, rfl, h'⟩ := inv_rai0 h
  replace h := h'
  simp only [Bool.and_eq_true, beq_iff_eq] at h
  obtain ⟨⟨⟨⟨h0, h1⟩, h2⟩, h3⟩, h4⟩ := h
  have h0 := of_decide_eq_true h0
  subst h2
  subst h1
  intro env k G H σ as A hw r xo D nx bk ct rt
  have hw : k.x ⟨c, cf.xn c, .none⟩ env := hw
  obtain ⟨CC, fI, kk, fd, hm, hc, T, iC, tI, n1, n2, F1, hr, b0, b1⟩ := (ok.xm c h0).ex
  have calm : X.calm = true := ok.calm (by
    cases hh : cf.hot with
    | false => rfl
    | true => exact absurd h0 (by rw [ok.hx hh]; omega))
  refine wS_of (ps_raise calm ok.tk (pmk_oex0 (dvs := [.non]) T iC tI F1 hr b1 (.cons rfl .nil) passL (glB_of h3) hm (okN_of h4).1)) ?_
  refine ⟨by simp, fun a na => ?_⟩
  exact rai_out ok xo (Fr.refl G H A) r .non hm hc T n1 n2 hw na
/-- what has been caught is told otherwise -/
theorem Rel.recau {K : PySem.W.Frag} {G H : Hp} {σ : L2.St} {env : Ev} {as as' : As} {A : Ft} (r : Rel K G H σ env as A) (hl : as'.l = as.l) (h : ∀ (i : Nat) (x : Xc), env[i]? = some (Sl.exc x) → ∀ u ∈ as.ex, u ∈ as'.ex) : Rel K G H σ env as' A := by
  refine ⟨r.sub, r.len, fun i s hs => ?_, r.out, r.ap⟩
  have q := r.sl i s hs
  cases s with
  | no => exact q
  | dat d => exact q
  | own ds => exact q
  | mu k ds =>
    obtain ⟨p, q1, q0, q2⟩ := q
    exact ⟨p, q1, by rw [hl]; exact q0, q2⟩
  | exc x =>
    obtain ⟨q1, u, v, q2, q3⟩ := q
    exact ⟨q1, u, v, h i x hs u q2, q3⟩
theorem clean_at : ∀ {env : Ev} {i : Nat} {x : Xc}, cleanE env → env[i]? ≠ some (.exc x)
  | [], _, _, _, h => by simp at h
  | .exc _ :: _, _, _, c, _ => c.elim
  | .no :: r, 0, _, _, h => by simp at h
  | .dat _ :: r, 0, _, _, h => by simp at h
  | .own _ :: r, 0, _, _, h => by simp at h
  | .mu _ _ :: r, 0, _, _, h => by simp at h
  | .no :: r, i + 1, _, c, h => clean_at (env := r) (i := i) c (by simpa using h)
  | .dat _ :: r, i + 1, _, c, h => clean_at (env := r) (i := i) c (by simpa using h)
  | .own _ :: r, i + 1, _, c, h => clean_at (env := r) (i := i) c (by simpa using h)
  | .mu _ _ :: r, i + 1, _, c, h => clean_at (env := r) (i := i) c (by simpa using h)
/-- a name is unbound -/
theorem Rel.unbind {K : PySem.W.Frag} {G H : Hp} {σ : L2.St} {env : Ev} {as : As} {A : Ft} (r : Rel K G H σ env as A) (i : Nat) : Rel K G H (σ.set i none) (env.set i .no) as (A.set i no0) := by
  refine ⟨r.sub, by rw [List.length_set, List.length_set]; exact r.len, fun j t h => ?_, fun j h b e => ?_, fun j k b h1 h2 => ?_⟩
  · by_cases e : j = i
    · subst e
      have hi : j < env.length := by
        have := (List.getElem?_eq_some_iff.mp h).1
        rwa [List.length_set] at this
      rw [List.getElem?_set_self hi] at h
      cases h
      exact fun b z => Ft.set_self.mp z
    · rw [List.getElem?_set_ne (Ne.symm e)] at h ⊢
      have : A.set i no0 j = A j := by funext b; exact propext (Ft.set_ne e)
      rw [this]; exact r.sl j t h
  · rw [List.length_set] at h
    by_cases e1 : j = i
    · subst e1; exact (Ft.set_self.mp e).elim
    · exact r.out j h b ((Ft.set_ne e1).mp e)
  · by_cases e1 : j = i
    · subst e1; exact (Ft.set_self.mp h1).elim
    · by_cases e2 : k = i
      · subst e2; exact (Ft.set_self.mp h2).elim
      · exact r.ap j k b ((Ft.set_ne e1).mp h1) ((Ft.set_ne e2).mp h2)
theorem s_tryx {i : Nat} {ts : List Nat} {b s : N} (ihb : IH cf C F b) (ihs : IH (hotC cf) C F s) : IH cf C F (.tryx i ts b s) := by
  intro top X E0 ok ast h
  obtain ⟨body, x, p, n, b0, suite, p2, p3, rfl, h'⟩ := inv_tryx h
  replace h := h'
  simp only [Bool.and_eq_true] at h
  obtain ⟨⟨⟨⟨⟨⟨⟨⟨h0, hh⟩, h1⟩, h2⟩, h3⟩, h4⟩, h5⟩, h6⟩, h7⟩ := h
  rw [Bool.not_eq_true'] at hh
  have h1 := beq_iff_eq.mp h1
  have h2 := beq_iff_eq.mp h2
  obtain ⟨cv, nmx, tb⟩ := ok.ct _ _ h5
  obtain ⟨st1, st2⟩ := ok.st h0 hh
  have hN : X.N[i]? = some n := by rw [ok.hN]; exact h1
  intro env k G H σ as A hw r xo D nx bk ct rt
  have hex := xo.cold hh
  have hw : wp F C b env (k.ox fun e env1 => match ts.contains e.cls with
    | true => wp F C s (env1.set i (.exc e)) (k.su i)
    | false => k.x e env1) := hw
  refine wS_of (ps_try_as (c := cv) (i := i) (Wout := E0) st1 st2 ok.nd hN h2 ⟨glB_of h3, (okN_of h4).1, nmx⟩ ok.tk
    (tb := fun W D σ H => ∀ (pn : List (Addr × Obj)) (xe : Value → Shared → Prop), Takes (X.tr pn xe) W → PassesOwn (model X.prog X.w) X.A X.env xe → wB (X.tr pn xe) body D σ H)
    (fun W pn xe tk ps => ⟨fun pins s σ H D I h => h pn xe tk ps pins s I⟩)
    (ts := fun a cls d D σ H => ∀ (oe : Obj) (pn : List (Addr × Obj)), Zc cls d oe → (∃ vs, oe.data = .fields vs) → wB (X.suite a ((a, oe) :: pn)) (b0 :: suite) D σ H)
    (fun a oe cls d pn hz hf => ⟨fun pins s σ H D I h => h oe pn hz hf pins s I⟩)) ?_
  intro pn xe tk ps
  have ok' : Ok cf C F top (X.tr pn xe) (wAs X.K cv i (fun a cls d D σ H => ∀ (oe : Obj) (pn : List (Addr × Obj)), Zc cls d oe → (∃ vs, oe.data = .fields vs) → wB (X.suite a ((a, oe) :: pn)) (b0 :: suite) D σ H) E0 D) :=
    ⟨ok.calm, ok.nd, ok.hN, ok.units, tk, fun _ => ps, ok.fnT, ok.bl, ok.cn, ok.gd, ok.lb, ok.fn, fun _ _ => ⟨st1, st2⟩, fun c h => ⟨(ok.rd c h).ex⟩, fun c h => ⟨(ok.xm c h).ex⟩, ok.it, ok.ct, ok.hx, ok.cg⟩
  refine ihb ok' _ h6 env _ G H σ as A hw r ⟨?_, fun u hu => (by rw [hex] at hu; cases hu), fun _ => hex⟩ D nx bk ct rt
  intro G1 H1 A1 σ1 env1 e cls d f1 r1 hx hk
  obtain ⟨CC, v, hm, hc, rfl, gd, dv⟩ := hx
  refine ⟨ts.contains e.cls, tb _ _ hc hm, fun ht a na oe pn2 hz hf pins sh I => ?_, fun ht => ?_⟩
  · have hk : (match ts.contains e.cls with
      | true => wp F C s (env1.set i (.exc e)) (k.su i)
      | false => k.x e env1) := hk
    rw [ht] at hk
    have hi : i < env1.length := by
      have e1 := I.len
      rw [List.length_set] at e1
      rw [← r1.len, e1]
      exact (List.getElem?_eq_some_iff.mp hN).1
    have r2 : Rel X.K G1 H1 σ1 env1 ⟨as.l, [⟨a, CC, d, e⟩]⟩ A1 := r1.recau rfl fun j y _ u hu => by rw [hex] at hu; cases hu
    have r3 := r2.put (i := i) (v := .ref a) (s := .exc e) (B := no0) hi ⟨fun _ z => z, ⟨a, CC, d, e⟩, v, .head _, rfl, rfl, gd, dv⟩ fun _ _ _ _ z => z
    have ok2 : Ok (hotC cf) C F top (X.suite a ((a, oe) :: pn2)) (fun _ _ _ _ => False) :=
      ⟨fun z => absurd z (show ¬ (true = false) by decide), ok.nd, ok.hN, ok.units, takes0, fun _ => PassesOwn.never, ok.fnT, ok.bl, ok.cn, ok.gd, ok.lb, fun f hf => absurd hf (by show ¬ f < 0; omega), fun _ z => absurd z (show ¬ (true = false) by decide), fun c h => ⟨(ok.rd c h).ex⟩, fun c h => absurd h (by show ¬ c < 0; omega), ok.it, ok.ct, fun _ => rfl, ok.cg⟩
    have f2 : Fr G H A G1 H1 (A1.set i no0) := f1.trans Fr.drop
    have back : ∀ {G' H' : Hp} {A' : Ft} {σ' : L2.St} {env' : Ev}, Rel X.K G' H' σ' env' ⟨as.l, [⟨a, CC, d, e⟩]⟩ A' → cleanE (env'.set i .no) → Rel X.K G' H' (σ'.set i none) (env'.set i .no) as (A'.set i no0) := fun {G' H' A' σ' env'} q c =>
      (q.unbind i).recau rfl fun j y hj => absurd hj (clean_at c)
    refine ihs ok2 _ h7 (env1.set i (.exc e)) (k.su i) G1 H1 _ ⟨as.l, [⟨a, CC, d, e⟩]⟩ (A1.set i no0) hk r3 ⟨fun _ _ _ _ _ _ _ _ _ _ _ (z : False) => z.elim, fun u hu => ?_, fun z => absurd z (show ¬ (true = false) by decide)⟩ _ ?_ ?_ ?_ ?_ pins sh I
    · rw [List.mem_singleton.mp hu]
      exact ⟨⟨oe, ⟨X, pn2, rfl⟩, hz, hf⟩, hc, hm⟩
    · intro G' H' A' σ' env' f q z
      exact nx _ _ _ _ _ ((f2.trans f).trans Fr.drop) (back q z.1) z.2
    · intro G' H' A' σ' env' f q z
      exact bk _ _ _ _ _ ((f2.trans f).trans Fr.drop) (back q z.1) z.2
    · intro G' H' A' σ' env' f q z
      exact ct _ _ _ _ _ ((f2.trans f).trans Fr.drop) (back q z.1) z.2
    · intro G' H' A' σ' env' v r B po z
      refine rt G' H' _ (σ'.set i none) _ v r B ⟨(f2.trans po.fr).trans Fr.drop, back po.rel z.1, po.rr, fun j b hb => ?_, fun b hb => ?_⟩ z.2
      · by_cases hj : j = i
        · subst hj; exact (Ft.set_self.mp hb).elim
        · exact po.sep j b ((Ft.set_ne hj).mp hb)
      · rcases po.org b hb with ⟨j, hj⟩ | hb
        · exact f2.ow j b hj
        · cases eh : H b with
          | none => exact .inr rfl
          | some o =>
            refine .inl (Classical.byContradiction fun nn => ?_)
            have := f2.hh b o eh fun j hj => nn ⟨j, hj⟩
            rw [hb] at this; cases this
  · have hk : (match ts.contains e.cls with
      | true => wp F C s (env1.set i (.exc e)) (k.su i)
      | false => k.x e env1) := hk
    rw [ht] at hk
    exact xo.out G1 H1 A1 σ1 env1 e _ _ f1 r1 ⟨CC, v, hm, hc, rfl, gd, dv⟩ hk
theorem s_try2 {i : Nat} {ts us : List Nat} {b s g : N} (ihb : IH cf C F b) (ihs : IH (hotC cf) C F s) (ihg : IH (hotC cf) C F g) : IH cf C F (.try2 i ts b s us g) := by
  intro top X E0 ok ast h
  obtain ⟨body, x, p, n, b0, suite, p2, y, p3, m, c0, tail, p4, p5, rfl, h'⟩ := inv_try2 h
  replace h := h'
  simp only [Bool.and_eq_true] at h
  obtain ⟨⟨⟨⟨⟨⟨⟨⟨⟨⟨⟨⟨⟨h0, hh⟩, h1⟩, hmn⟩, h2⟩, h3⟩, h4⟩, g3⟩, g4⟩, h5⟩, g5⟩, h6⟩, h7⟩, g7⟩ := h
  rw [Bool.not_eq_true'] at hh
  have h1 := beq_iff_eq.mp h1
  have h2 := beq_iff_eq.mp h2
  obtain rfl := beq_iff_eq.mp hmn
  obtain ⟨cv, nmx, tb⟩ := ok.ct _ _ h5
  obtain ⟨cv2, nmx2, tb2⟩ := ok.ct _ _ g5
  obtain ⟨st1, st2⟩ := ok.st h0 hh
  have hN : X.N[i]? = some m := by rw [ok.hN]; exact h1
  intro env k G H σ as A hw r xo D nx bk ct rt
  have hex := xo.cold hh
  have hw : wp F C b env (k.ox fun e env1 => match ts.contains e.cls with
    | true => wp F C s (env1.set i (.exc e)) (k.su i)
    | false => match us.contains e.cls with
      | true => wp F C g (env1.set i (.exc e)) (k.su i)
      | false => k.x e env1) := hw
  refine wS_of (ps_try_tw (i := i) (Wo := E0) (ws := [(cv, fun a cls d D σ H => ∀ (oe : Obj) (pn : List (Addr × Obj)), Zc cls d oe → (∃ vs, oe.data = .fields vs) → wB (X.suite a ((a, oe) :: pn)) (b0 :: suite) D σ H),
      (cv2, fun a cls d D σ H => ∀ (oe : Obj) (pn : List (Addr × Obj)), Zc cls d oe → (∃ vs, oe.data = .fields vs) → wB (X.suite a ((a, oe) :: pn)) (c0 :: tail) D σ H)]) st1 st2 ok.nd hN h2 ok.tk
    (tb := fun W D σ H => ∀ (pn : List (Addr × Obj)) (xe : Value → Shared → Prop), Takes (X.tr pn xe) W → PassesOwn (model X.prog X.w) X.A X.env xe → wB (X.tr pn xe) body D σ H)
    (fun W pn xe tk ps => ⟨fun pins s σ H D I h => h pn xe tk ps pins s I⟩)
    (.more ⟨glB_of h3, (okN_of h4).1, nmx⟩ (fun a oe cls d pn hz hf => ⟨fun pins s σ H D I h => h oe pn hz hf pins s I⟩)
      (.more ⟨glB_of g3, (okN_of g4).1, nmx2⟩ (fun a oe cls d pn hz hf => ⟨fun pins s σ H D I h => h oe pn hz hf pins s I⟩) .nil))) ?_
  intro pn xe tk ps
  have ok' : Ok cf C F top (X.tr pn xe) _ :=
    ⟨ok.calm, ok.nd, ok.hN, ok.units, tk, fun _ => ps, ok.fnT, ok.bl, ok.cn, ok.gd, ok.lb, ok.fn, fun _ _ => ⟨st1, st2⟩, fun c h => ⟨(ok.rd c h).ex⟩, fun c h => ⟨(ok.xm c h).ex⟩, ok.it, ok.ct, ok.hx, ok.cg⟩
  refine ihb ok' _ h6 env _ G H σ as A hw r ⟨?_, fun u hu => (by rw [hex] at hu; cases hu), fun _ => hex⟩ D nx bk ct rt
  intro G1 H1 A1 σ1 env1 e cls d f1 r1 hx hk
  have hx0 := hx
  obtain ⟨CC, v, hm, hc, rfl, gd, dv⟩ := hx
  have go : ∀ {w0 : Stmt} {ws : List Stmt} {nn : N}, IH (hotC cf) C F nn → chk (hotC cf) nn top X.env.scope (.b (w0 :: ws)) = true → wp F C nn (env1.set i (.exc e)) (k.su i) →
      ∀ (a : Addr), H1 a = none → ∀ (oe : Obj) (pn2 : List (Addr × Obj)), Zc (.ref CC) (some d) oe → (∃ vs, oe.data = .fields vs) → wB (X.suite a ((a, oe) :: pn2)) (w0 :: ws) (goneEnds i D) (List.set σ1 i (some (.ref a))) H1 := by
    intro w0 ws nn ihn hch hk a na oe pn2 hz hf
    intro pins sh I
    have hi : i < env1.length := by
      have e1 := I.len
      rw [List.length_set] at e1
      rw [← r1.len, e1]
      exact (List.getElem?_eq_some_iff.mp hN).1
    have r2 : Rel X.K G1 H1 σ1 env1 ⟨as.l, [⟨a, CC, d, e⟩]⟩ A1 := r1.recau rfl fun j y _ u hu => by rw [hex] at hu; cases hu
    have r3 := r2.put (i := i) (v := .ref a) (s := .exc e) (B := no0) hi ⟨fun _ z => z, ⟨a, CC, d, e⟩, v, .head _, rfl, rfl, gd, dv⟩ fun _ _ _ _ z => z
    have ok2 : Ok (hotC cf) C F top (X.suite a ((a, oe) :: pn2)) (fun _ _ _ _ => False) :=
      ⟨fun z => absurd z (show ¬ (true = false) by decide), ok.nd, ok.hN, ok.units, takes0, fun _ => PassesOwn.never, ok.fnT, ok.bl, ok.cn, ok.gd, ok.lb, fun f hf => absurd hf (by show ¬ f < 0; omega), fun _ z => absurd z (show ¬ (true = false) by decide), fun c h => ⟨(ok.rd c h).ex⟩, fun c h => absurd h (by show ¬ c < 0; omega), ok.it, ok.ct, fun _ => rfl, ok.cg⟩
    have f2 : Fr G H A G1 H1 (A1.set i no0) := f1.trans Fr.drop
    have back : ∀ {G' H' : Hp} {A' : Ft} {σ' : L2.St} {env' : Ev}, Rel X.K G' H' σ' env' ⟨as.l, [⟨a, CC, d, e⟩]⟩ A' → cleanE (env'.set i .no) → Rel X.K G' H' (σ'.set i none) (env'.set i .no) as (A'.set i no0) := fun {G' H' A' σ' env'} q c =>
      (q.unbind i).recau rfl fun j y hj => absurd hj (clean_at c)
    refine ihn ok2 _ hch (env1.set i (.exc e)) (k.su i) G1 H1 _ ⟨as.l, [⟨a, CC, d, e⟩]⟩ (A1.set i no0) hk r3 ⟨fun _ _ _ _ _ _ _ _ _ _ _ (z : False) => z.elim, fun u hu => ?_, fun z => absurd z (show ¬ (true = false) by decide)⟩ _ ?_ ?_ ?_ ?_ pins sh I
    · rw [List.mem_singleton.mp hu]
      exact ⟨⟨oe, ⟨X, pn2, rfl⟩, hz, hf⟩, hc, hm⟩
    · intro G' H' A' σ' env' f q z
      exact nx _ _ _ _ _ ((f2.trans f).trans Fr.drop) (back q z.1) z.2
    · intro G' H' A' σ' env' f q z
      exact bk _ _ _ _ _ ((f2.trans f).trans Fr.drop) (back q z.1) z.2
    · intro G' H' A' σ' env' f q z
      exact ct _ _ _ _ _ ((f2.trans f).trans Fr.drop) (back q z.1) z.2
    · intro G' H' A' σ' env' v r B po z
      refine rt G' H' _ (σ'.set i none) _ v r B ⟨(f2.trans po.fr).trans Fr.drop, back po.rel z.1, po.rr, fun j b hb => ?_, fun b hb => ?_⟩ z.2
      · by_cases hj : j = i
        · subst hj; exact (Ft.set_self.mp hb).elim
        · exact po.sep j b ((Ft.set_ne hj).mp hb)
      · rcases po.org b hb with ⟨j, hj⟩ | hb
        · exact f2.ow j b hj
        · cases eh : H b with
          | none => exact .inr rfl
          | some o =>
            refine .inl (Classical.byContradiction fun nn => ?_)
            have := f2.hh b o eh fun j hj => nn ⟨j, hj⟩
            rw [hb] at this; cases this
  have hk : (match ts.contains e.cls with
    | true => wp F C s (env1.set i (.exc e)) (k.su i)
    | false => match us.contains e.cls with
      | true => wp F C g (env1.set i (.exc e)) (k.su i)
      | false => k.x e env1) := hk
  refine ⟨ts.contains e.cls, tb _ _ hc hm, fun ht => ?_, fun ht => ⟨us.contains e.cls, tb2 _ _ hc hm, fun hu => ?_, fun hu => ?_⟩⟩
  · rw [ht] at hk
    exact go ihs h7 hk
  · rw [ht, hu] at hk
    exact go ihg g7 hk
  · rw [ht, hu] at hk
    exact xo.out G1 H1 A1 σ1 env1 e _ _ f1 r1 ⟨CC, v, hm, hc, rfl, gd, dv⟩ hk
end
end Pi

namespace Pi
open PySem L2 PySem.Spec PyProof.Rows
theorem sound0 (C : Nat → Option PyData) (F : Fs) : ∀ (n : N) (cf : Cf), IH cf C F n := by
  intro n
  induction n with
  | v i => exact fun cf => s_v
  | g x => exact fun cf => s_g
  | c d => exact fun cf => s_c
  | bin o a b iha ihb => exact fun cf => s_bin (iha cf) (ihb cf)
  | neg a iha => exact fun cf => s_neg (iha cf)
  | cmp o a b iha ihb => exact fun cf => s_cmp (iha cf) (ihb cf)
  | chain o o' a b c iha ihb ihc => exact fun cf => s_chain (iha cf) (ihb cf) (ihc cf)
  | nott a iha => exact fun cf => s_nott (iha cf)
  | andd a b iha ihb => exact fun cf => s_andd (iha cf) (ihb cf)
  | orr a b iha ihb => exact fun cf => s_orr (iha cf) (ihb cf)
  | one a iha => exact fun cf => s_one (iha cf)
  | ite t a b iht iha ihb => exact fun cf => s_ite (iht cf) (iha cf) (ihb cf)
  | call f as iha => exact fun cf => s_call (iha cf)
  | b1 f a iha => exact fun cf => s_b1 (iha cf)
  | b2 f a b iha ihb => exact fun cf => s_b2 (iha cf) (ihb cf)
  | isi a ts iha => exact fun cf => s_isi (iha cf)
  | ix a b iha ihb => exact fun cf => s_ix (iha cf) (ihb cf)
  | sl a lo hi iha ihl ihh => exact fun cf => s_sl (iha cf) (ihl cf) (ihh cf)
  | rv a iha => exact fun cf => s_rv (iha cf)
  | tup es iha => exact fun cf => s_tup (iha cf)
  | lst es iha => exact fun cf => s_lst (iha cf)
  | lc own x it cs e ihi ihc ihe => exact fun cf => s_lc (ihi cf) (ihc cf) (ihe cf)
  | pop i => exact fun cf => s_pop
  | popAt i a iha => exact fun cf => s_popAt (iha cf)
  | nil => exact fun cf => s_nil
  | cons a r iha ihr => exact fun cf => s_cons (iha cf) (ihr cf)
  | consM i r ihr => exact fun cf => s_consM (ihr cf)
  | sno => exact fun cf => s_sno
  | sat a iha => exact fun cf => s_sat (iha cf)
  | tcmp o a b iha ihb => exact fun cf => s_tcmp (iha cf) (ihb cf)
  | tchain o o' a b c iha ihb ihc => exact fun cf => s_tchain (iha cf) (ihb cf) (ihc cf)
  | tnot a iha => exact fun cf => s_tnot (iha cf)
  | tand a b iha ihb => exact fun cf => s_tand (iha cf) (ihb cf)
  | tor a b iha ihb => exact fun cf => s_tor (iha cf) (ihb cf)
  | tone a iha => exact fun cf => s_tone (iha cf)
  | tval a iha => exact fun cf => s_tval (iha cf)
  | tyes => exact fun cf => s_tyes
  | itl a iha => exact fun cf => s_itl (iha cf)
  | iten a iha => exact fun cf => s_iten (iha cf)
  | itz a b iha ihb => exact fun cf => s_itz (iha cf) (ihb cf)
  | lib f a b iha ihb => exact fun cf => s_lib (iha cf) (ihb cf)
  | m1 m a b iha ihb => exact fun cf => s_m1 (iha cf) (ihb cf)
  | lix a b iha ihb => exact fun cf => s_lix (iha cf) (ihb cf)
  | callD f as ds iha => exact fun cf => s_callD (iha cf)
  | ins i b e ihb ihe => exact fun cf => s_ins (ihb cf) (ihe cf)
  | setc is e ihe => exact fun cf => s_setc (ihe cf)
  | itr1 a iha => exact fun cf => s_itr1 (iha cf)
  | itr2 a b iha ihb => exact fun cf => s_itr2 (iha cf) (ihb cf)
  | set i e ihe => exact fun cf => s_set (ihe cf)
  | slc i own x it cs e ihi ihc ihe => exact fun cf => s_slc (ihi cf) (ihc cf) (ihe cf)
  | unp is e ihe => exact fun cf => s_unp (ihe cf)
  | seti i b e ihb ihe => exact fun cf => s_seti (ihb cf) (ihe cf)
  | aug i o e ihe => exact fun cf => s_aug (ihe cf)
  | ex e ihe => exact fun cf => s_ex (ihe cf)
  | augi i o b e ihb ihe => exact fun cf => s_augi (ihb cf) (ihe cf)
  | ext i e ihe => exact fun cf => s_ext (ihe cf)
  | app i e ihe => exact fun cf => s_app (ihe cf)
  | ret e ihe => exact fun cf => s_ret (ihe cf)
  | retn => exact fun cf => s_retn
  | retv i => exact fun cf => s_retv
  | ifs t a b iht iha ihb => exact fun cf => s_ifs (iht cf) (iha cf) (ihb cf)
  | forr x it b ihi ihb => exact fun cf => s_forr (ihi cf) (ihb cf)
  | whl t b iht ihb => exact fun cf => s_whl (iht cf) (ihb cf)
  | brk => exact fun cf => s_brk
  | ctn => exact fun cf => s_ctn
  | pas => exact fun cf => s_pas
  | rai c w e ihe => exact fun cf => s_rai (ihe cf)
  | rai0 c w => exact fun cf => s_rai0
  | tryx i ts b s ihb ihs => exact fun cf => s_tryx (ihb cf) (ihs (hotC cf))
  | try2 i ts b s us g ihb ihs ihg => exact fun cf => s_try2 (ihb cf) (ihs (hotC cf)) (ihg (hotC cf))
  | xw i => exact fun cf => s_xw
  | xp i => exact fun cf => s_xp
  | xi i nm ts => exact fun cf => s_xi
  | done => exact fun cf => s_done
  | seq s r ihs ihr => exact fun cf => s_seq (ihs cf) (ihr cf)
theorem sound (cf : Cf) (C : Nat → Option PyData) (F : Fs) : ∀ n : N, IH cf C F n := fun n => sound0 C F n cf
end Pi

namespace Pi
open PySem L2 PySem.Spec PyProof.Rows
section
variable {K : PySem.W.Frag} {G H G' H' : Hp} {l : Nat}
theorem AgR.len {vs : List V} {ags : List Ag} {as : List Addr} (h : AgR K G H vs ags as) : vs.length = ags.length := by
  induction h with
  | nil => rfl
  | d _ _ ih => exact congrArg (· + 1) ih
  | m _ _ _ ih => exact congrArg (· + 1) ih
theorem startE_len : ∀ {ags : List Ag} {m : Nat}, (startE l m ags).length = ags.length + l
  | [], _ => by unfold startE; simp
  | .d _ :: r, m => by unfold startE; rw [List.length_cons, List.length_cons, startE_len]; omega
  | .m _ :: r, m => by unfold startE; rw [List.length_cons, List.length_cons, startE_len]; omega
theorem startE_get : ∀ {vs : List V} {ags : List Ag} {as : List Addr}, AgR K G H vs ags as → ∀ (m : Nat) (i : Nat) (s : Sl), (startE l m ags)[i]? = some s →
    (s = .no ∧ vs.length ≤ i) ∨ (∃ v, vs[i]? = some v ∧ ((∃ d, s = .dat d ∧ Da K G v d) ∨ ∃ k p ds, s = .mu (m + k) ds ∧ v = .ref p ∧ as[k]? = some p ∧ Lst K G H p ds))
  | _, _, _, .nil, m, i, s, h => by
    unfold startE at h
    rw [List.getElem?_replicate] at h
    split at h
    · cases h; exact .inl ⟨rfl, Nat.zero_le _⟩
    · cases h
  | _, _, _, .d (v := v) r t, m, 0, s, h => by
    cases h
    exact .inr ⟨v, rfl, .inl ⟨_, rfl, r⟩⟩
  | _, _, _, .d r t, m, i + 1, s, h => by
    have h : (startE l m _)[i]? = some s := h
    rcases startE_get t m i s h with ⟨h1, h2⟩ | ⟨v, h1, h2⟩
    · exact .inl ⟨h1, Nat.succ_le_succ h2⟩
    · exact .inr ⟨v, h1, h2⟩
  | _, _, _, .m (p := p) r n t, m, 0, s, h => by
    cases h
    exact .inr ⟨.ref p, rfl, .inr ⟨0, p, _, rfl, rfl, rfl, r⟩⟩
  | _, _, _, .m r n t, m, i + 1, s, h => by
    have h : (startE l (m + 1) _)[i]? = some s := h
    rcases startE_get t (m + 1) i s h with ⟨h1, h2⟩ | ⟨v, h1, h2⟩
    · exact .inl ⟨h1, Nat.succ_le_succ h2⟩
    · refine .inr ⟨v, h1, h2.imp id fun ⟨k, p, ds, e1, e2, e3, e4⟩ => ⟨k + 1, p, ds, ?_, e2, e3, e4⟩⟩
      rw [e1]
      exact congrArg (fun z => Sl.mu z ds) (by omega)
theorem startE_ge : ∀ {ags : List Ag} {m i k : Nat} {ds : List PyData}, (startE l m ags)[i]? = some (.mu k ds) → m ≤ k
  | [], m, i, k, ds, h => by
    unfold startE at h
    rw [List.getElem?_replicate] at h
    split at h <;> cases h
  | .d _ :: r, m, 0, k, ds, h => by cases h
  | .d _ :: r, m, i + 1, k, ds, h => startE_ge (ags := r) (m := m) (i := i) h
  | .m _ :: r, m, 0, k, ds, h => by cases h; exact Nat.le_refl _
  | .m _ :: r, m, i + 1, k, ds, h => Nat.le_of_succ_le (startE_ge (ags := r) (m := m + 1) (i := i) h)
theorem startE_inj : ∀ {ags : List Ag} {m i j k : Nat} {ds es : List PyData}, (startE l m ags)[i]? = some (.mu k ds) → (startE l m ags)[j]? = some (.mu k es) → i = j
  | [], m, i, j, k, ds, es, h, _ => by
    unfold startE at h
    rw [List.getElem?_replicate] at h
    split at h <;> cases h
  | .d _ :: r, m, 0, j, k, ds, es, h, _ => by cases h
  | .d _ :: r, m, i + 1, 0, k, ds, es, _, h => by cases h
  | .d _ :: r, m, i + 1, j + 1, k, ds, es, h, h' => congrArg (· + 1) (startE_inj (ags := r) (m := m) h h')
  | .m _ :: r, m, 0, 0, k, ds, es, _, _ => rfl
  | .m _ :: r, m, 0, j + 1, k, ds, es, h, h' => by
    cases h
    have h' : (startE l (m + 1) r)[j]? = some (.mu m es) := h'
    have := startE_ge h'
    omega
  | .m _ :: r, m, i + 1, 0, k, ds, es, h', h => by
    cases h
    have h' : (startE l (m + 1) r)[i]? = some (.mu m ds) := h'
    have := startE_ge h'
    omega
  | .m _ :: r, m, i + 1, j + 1, k, ds, es, h, h' => congrArg (· + 1) (startE_inj (ags := r) (m := m + 1) h h')
theorem AgR.nodup {vs : List V} {ags : List Ag} {as : List Addr} (h : AgR K G H vs ags as) : as.Nodup := by
  induction h with
  | nil => exact List.nodup_nil
  | d _ _ ih => exact ih
  | m _ n _ ih => exact List.nodup_cons.mpr ⟨n, ih⟩
theorem AgR.mlen {vs : List V} {ags : List Ag} {as : List Addr} (h : AgR K G H vs ags as) : as.length = ((ags.map Ag.isM).filter id).length := by
  induction h with
  | nil => rfl
  | d _ _ ih => exact ih
  | m _ n _ ih => exact congrArg (· + 1) ih
/-- the footprint at the entry -/
def ft0 (e : Ev) (as : List Addr) : Ft := fun i b => ∃ k ds, e[i]? = some (.mu k ds) ∧ as[k]? = some b
theorem ft0_mem {e : Ev} {as : List Addr} {i : Nat} {b : Addr} (h : ft0 e as i b) : b ∈ as := by
  obtain ⟨k, ds, _, h⟩ := h
  exact List.mem_iff_getElem?.mpr ⟨k, h⟩
theorem start_rel {vs : List V} {ags : List Ag} {as : List Addr} {Ns : List Str} (s : Le G H) (h : AgR K G H vs ags as) (hN : Ns.length = vs.length + l) : Rel K G H (start Ns vs) (startE l 0 ags) ⟨as, []⟩ (ft0 (startE l 0 ags) as) := by
  have hl := h.len
  refine ⟨s, ?_, fun i sl e => ?_, fun i hi b ⟨k, ds, e, _⟩ => ?_, fun i j b ⟨k, ds, e1, e2⟩ ⟨k', ds', e3, e4⟩ => ?_⟩
  · unfold L2.start
    rw [List.length_append, List.length_map, List.length_replicate, startE_len]; omega
  · rcases startE_get h 0 i sl e with ⟨rfl, h2⟩ | ⟨v, h1, h2⟩
    · intro b ⟨k, ds, e2, _⟩
      rw [e] at e2; cases e2
    · have hi : i < vs.length := (List.getElem?_eq_some_iff.mp h1).1
      have hs : (start Ns vs)[i]? = some (some v) := by
        unfold L2.start
        rw [List.getElem?_append_left (by rw [List.length_map]; exact hi), List.getElem?_map, h1]; rfl
      rw [hs]
      rcases h2 with ⟨d, rfl, h2⟩ | ⟨k, p, ds, rfl, rfl, h3, h4⟩
      · refine ⟨fun b ⟨k, ds, e2, _⟩ => ?_, v, rfl, h2⟩
        rw [e] at e2; cases e2
      · rw [Nat.zero_add] at e ⊢
        refine ⟨p, rfl, h3, fun b => ⟨fun ⟨k', ds', e2, e3⟩ => ?_, fun hb => ⟨k, ds, e, by rw [hb]; exact h3⟩⟩, h4⟩
        rw [e] at e2
        cases e2
        rw [h3] at e3
        cases e3; rfl
  · rw [List.getElem?_eq_none hi] at e; cases e
  · have nd := h.nodup
    have kk : k = k' := by
      have hk := (List.getElem?_eq_some_iff.mp e2)
      have hk' := (List.getElem?_eq_some_iff.mp e4)
      exact (List.getElem_inj nd).mp (hk.2.trans hk'.2.symm)
    subst kk
    exact startE_inj e1 e3
theorem mut_end {σ' : L2.St} {env' : Ev} {A' : Ft} {as : List Addr} (r : Rel K G' H' σ' env' ⟨as, []⟩ A') : ∀ {ps : List Bool} {i m : Nat} {pre post : List Addr} {ms : List (List PyData)}, as = pre ++ post → pre.length = m → post.length = (ps.filter id).length → mutEnd env' i m ps = some ms →
    MsR K G' H' post ms ∧ ∀ p ∈ post, ∃ j, A' j p
  | [], i, m, pre, post, ms, e, hm, hl, h => by
    cases h
    have : post = [] := List.length_eq_zero_iff.mp hl
    subst this
    exact ⟨.nil, fun p hp => by cases hp⟩
  | false :: ps, i, m, pre, post, ms, e, hm, hl, h => mut_end r (ps := ps) e hm hl (show mutEnd env' (i + 1) m ps = some ms from h)
  | true :: ps, i, m, pre, post, ms, e, hm, hl, h => by
    have h : (match env'[i]? with
      | some (.mu k ds) => match k == m with
        | true => (mutEnd env' (i + 1) (m + 1) ps).map (ds :: ·)
        | false => none
      | _ => none) = some ms := h
    split at h
    · rename_i k ds hs
      split at h
      · rename_i hk
        have hk : k = m := by simpa using hk
        subst hk
        rw [Option.map_eq_some_iff] at h
        obtain ⟨ms', h1, rfl⟩ := h
        cases post with
        | nil => simp at hl
        | cons q post =>
          obtain ⟨p, q1, q2, q3, q4⟩ := r.sl i _ hs
          have : p = q := by
            rw [e, List.getElem?_append_right (by omega), hm, Nat.sub_self] at q2
            cases q2; rfl
          subst this
          obtain ⟨z1, z2⟩ := mut_end r (ps := ps) (pre := pre ++ [p]) (post := post) (by rw [e, List.append_assoc]; rfl) (by rw [List.length_append]; exact congrArg (· + 1) hm) (by simpa using hl) h1
          refine ⟨.cons q4 z1, fun b hb => ?_⟩
          rcases List.mem_cons.mp hb with rfl | hb
          · exact ⟨i, (q3 b).mpr rfl⟩
          · exact z2 b hb
      · cases h
    · cases h
theorem MsR.none {as : List Addr} {ms : List (List PyData)} (h : MsR K G H as ms) : ∀ p ∈ as, G p = none := by
  induction h with
  | nil => intro p hp; cases hp
  | cons l _ ih =>
    intro p hp
    rcases List.mem_cons.mp hp with rfl | hp
    · exact l.1
    · exact ih p hp
theorem frc_of {e : Ev} {as : List Addr} {σ' : L2.St} {env' : Ev} {A' : Ft} {ms : List (List PyData)} (f : Fr G H (ft0 e as) G' H' A') (r : Rel K G' H' σ' env' ⟨as, []⟩ A') (m : MsR K G' H' as ms) : FrC G H as G' H' :=
  ⟨f.gg, r.sub, fun b o h n => f.hh b o h fun i hi => n (ft0_mem hi), fun b o h => by
    rcases f.nw b o h with z | z | ⟨i, z⟩
    · exact .inl z
    · exact .inr z
    · have := m.none b (ft0_mem z)
      rw [h] at this; cases this⟩
theorem frx_of {e : Ev} {as : List Addr} {σ' : L2.St} {env' : Ev} {A' : Ft} (f : Fr G H (ft0 e as) G' H' A') (r : Rel K G' H' σ' env' ⟨as, []⟩ A') : FrX G H (· ∈ as) G' H' :=
  ⟨f.gg, r.sub, fun b o h n => f.hh b o h fun i hi => n (ft0_mem hi), fun b o h => by
    rcases f.nw b o h with z | z | ⟨i, z⟩
    · exact .inl z
    · exact .inr (.inl z)
    · exact .inr (.inr (ft0_mem z))⟩
end
/-- a def of the text and its description -/
structure Df (Pg : Program) (w : World) (K : PySem.W.Frag) (mg : Str → Option Value) (cf : Cf) (f : Nat) (P : Fn) : Prop where
  ex : ∃ (qual : Str) (sc : Scope) (body : List Stmt) (Ns : List Str) (fa : Addr) (fd : FuncData), RunsBy Pg w K mg qual sc body Ns (cf.pn f) fa fd ∧ mg (cf.nm f) = some (.ref fa) ∧ PySem.W.keepIn K (.ref fa) = true ∧
    ((cf.df f = [] → ∀ us : List Value, us.length = (cf.pn f).length → bindArgs fd ⟨us, []⟩ = pure ((cf.pn f).zip us)) ∧ Binds K fd (cf.pn f) []) ∧ (∀ ds, dfB (cf.df f) ds = true → ds ≠ [] → ∃ us, Vals (ds.map litV) us ∧ Binds K fd (cf.pn f) us) ∧
    P.ps.length = (cf.pn f).length ∧ Ns.length = (cf.pn f).length + P.locals ∧ Ns.Nodup ∧ chk { cf with N := Ns } P.body true sc (.b body) = true
section
variable {Pg : Program} {w : World} {K : PySem.W.Frag} {mg : Str → Option Value} {cf : Cf} {C : Nat → Option PyData}
theorem no_run {base : Heap} {k : Nat} {f : Addr} {fd : FuncData} {ps : List Str} {sp : Sp} (h : ∀ vs H Q E, ¬ sp vs H Q E) : FnG Pg w K mg base k f fd ps sp :=
  ⟨fun vs H Q E z => absurd z (h vs H Q E), fun {_ _ _ _ _ _ _ _ _} _ _ _ _ _ z => absurd z (h _ _ _ _)⟩
/-- what the written part says of the exceptions -/
structure XFacts (Pg : Program) (w : World) (K : PySem.W.Frag) (mg : Str → Option Value) (cf : Cf) : Prop where
  cool : cf.hot = false
  le : cf.nx ≤ cf.nr
  rd : ∀ c, c < cf.nr → ∃ C, mg (cf.xn c) = some (.ref C) ∧ XfC K C ∧ PySem.W.findIn K (.ref C) "word" = some none ∧ PySem.W.findIn K (.ref C) "place" = some none ∧ (PySem.W.clsIn K C).isSome = true ∧
    PySem.W.findIn K (.ref C) "__class__" = some (some (.builtin "object.__class__")) ∧ PySem.W.mroIn K C (.type "object") = some true
  xm : ∀ c, c < cf.nx → ∃ C fI fd, mg (cf.xn c) = some (.ref C) ∧ OexC K C ∧ PySem.W.findIn K (.ref C) "__init__" = some (some (.ref fI)) ∧ PySem.W.typeIn K (.ref fI) = some (.type "function") ∧
    PySem.W.findIn K (.ref C) "word" = some none ∧ PySem.W.findIn K (.ref C) "place" = some none ∧
    (∀ base, FnOk Pg w K mg base (L2.CX Pg w) 2 fI fd ["self", "place"] (spIni K (cf.xn c))) ∧ Binds K fd ["self", "place"] [] ∧ Binds K fd ["self", "place"] [.none]
  it : ∀ z ts, cf.it.contains (z, ts) = true → ∃ cv u, (mg z = some u ∨ (mg z = none ∧ bootBuiltins z = some u ∧ z ≠ "__name__")) ∧ ClsV cv u ∧ ∀ c C, c < cf.nr → mg (cf.xn c) = some (.ref C) → PySem.W.kitOne K (.ref C) u = some (ts.contains c)
  ct : ∀ z ts, cf.ct.contains (z, ts) = true → ∃ u, (mg z = some u ∨ (mg z = none ∧ bootBuiltins z = some u ∧ z ≠ "__name__")) ∧ ∀ c C, c < cf.nr → mg (cf.xn c) = some (.ref C) → PySem.W.exmOne K (.ref C) u = some (ts.contains c)
  cg : 0 < cf.nr → PySem.W.specialIn K (.builtin "object.__class__") "__get__" = some (some (.builtin "getset_descriptor.__get__")) ∧ PySem.W.takesIn K (.builtin "object.__class__") = some true
theorem fn_level (xf : XFacts Pg w K mg cf) {T : List Fn} (hT : ∀ f, f < cf.nf → ∃ P, T[f]? = some P ∧ Df Pg w K mg cf f P) (bl : ∀ x, cf.bl.contains x = true → mg x = none)
    (cn : ∀ c d, C c = some d → ∃ u v, mg (cf.cn c) = some u ∧ RelV v u ∧ Da K (fun _ => none) v d) (lb : ∀ f, cf.lb.contains (lfn f) = true → mg (lfn f) = some (.builtin (lfi f))) : ∀ n f, f < cf.nf →
    ∃ fa fd, (∀ base, FnG Pg w K mg base (n + 3) fa fd (cf.pn f) (spF K mg cf (Γ T C n) f (cf.pn f).length)) ∧ (∀ ags Q x, Γ T C n f ags Q x → ags.length = (cf.pn f).length) ∧ mg (cf.nm f) = some (.ref fa) ∧ PySem.W.keepIn K (.ref fa) = true ∧
      ((cf.df f = [] → ∀ us : List Value, us.length = (cf.pn f).length → bindArgs fd ⟨us, []⟩ = pure ((cf.pn f).zip us)) ∧ Binds K fd (cf.pn f) []) ∧ (∀ ds, dfB (cf.df f) ds = true → ds ≠ [] → ∃ us, Vals (ds.map litV) us ∧ Binds K fd (cf.pn f) us) := by
  intro n
  induction n with
  | zero =>
    intro f hf
    obtain ⟨P, hP, ⟨qual, sc, body, Ns, fa, fd, run, hm, hk, hb, hb2, _⟩⟩ := hT f hf
    have no : ∀ ags Q x, ¬ Γ T C 0 f ags Q x := fun ags Q x z => by rw [Γ_eq] at z; exact z
    exact ⟨fa, fd, fun base => no_run fun vs H Q E z => by
      obtain ⟨G, ags, as, Qd, xd, _, _, _, z, _⟩ := z
      exact no _ _ _ z, fun ags Q x z => absurd z (no ags Q x), hm, hk, hb, hb2⟩
  | succ n ih =>
    intro f hf
    obtain ⟨P, hP, ⟨qual, sc, body, Ns, fa, fd, run, hm, hk, hb, hb2, hl, hN, hnd, hc⟩⟩ := hT f hf
    have un : ∀ ags Q x, Γ T C (n + 1) f ags Q x → bodyW (Γ T C n) C P ags Q x := fun ags Q x z => by
      rw [Γ_eq] at z
      obtain ⟨P', h1, z⟩ := z
      rw [hP] at h1
      cases h1
      rw [Γ_eq]
      exact z
    refine ⟨fa, fd, fun base => run base (n + 3) _ (fun vs H Q E z => ?_) fun cdv A outer s H vs Q E hgd hr hsp => ?_, fun ags Q x z => ?_, hm, hk, hb, hb2⟩
    · obtain ⟨G, ags, as, Qd, xd, z, _⟩ := z
      exact z
    · obtain ⟨G, ags, as, Qd, xd, hv, hGH, hag, z, q, qx⟩ := hsp
      obtain ⟨zm, z⟩ := un _ _ _ z
      refine ⟨_, pb_w, ?_⟩
      have okX : Ok { cf with N := Ns } C (Γ T C n) true (cxOf (L2.CX Pg w) Pg w K mg base Ns qual sc fa cdv A outer s H E) (fun c d _ H => E c d H) :=
        ⟨fun _ => rfl, hnd, rfl, by have := hr.un; show (A.deeper _).units + 180 < cLine; omega, takes_of rfl rfl rfl rfl, fun _ => passes_of rfl, fun _ _ => rfl, bl, cn, hgd, lb, fun f hf => by
          obtain ⟨fa', fd', h1, h2, h3, h4, h5, h6⟩ := ih f hf
          exact ⟨fa', fd', _, n + 3, h1 base, h2, hr, h3, h4, h5.2, h6⟩, fun _ _ => ⟨rfl, rfl⟩, fun c h => ⟨xf.rd c h⟩, fun c h => ⟨by
          obtain ⟨CC, fI, fd', h1, h2, h3, h4, h5, h6, h7, h8, h9⟩ := xf.xm c h
          exact ⟨CC, fI, 2, fd', h1, Nat.lt_of_lt_of_le h xf.le, h2, h3, h4, h5, h6, h7 base, hr.mono (by omega), h8, h9⟩⟩, xf.it, xf.ct, fun hh => absurd hh (by show ¬ cf.hot = true; rw [xf.cool]; decide), xf.cg⟩
      have hml : as.length = (P.ps.filter id).length := by rw [hag.mlen, zm]
      refine sound _ C _ P.body okX (.b body) hc _ _ G H _ ⟨as, []⟩ _ z (start_rel hGH hag (by rw [hN, hv])) ⟨fun G' H' A' σ' env' e cls d f r hex hx => qx G' H' e cls d (frx_of f r) hex hx, fun u hu => (by cases hu), fun _ => rfl⟩ _ (fun G' H' A' σ' env' fr rr z => ?_) (fun _ _ _ _ _ _ _ z => z.elim) (fun _ _ _ _ _ _ _ z => z.elim) (fun G' H' A' σ' env' v r B po z => ?_)
      · have z : retW env' P.ps (Qd (.dat .none)) := z
        unfold retW at z
        split at z
        · rename_i ms hms
          obtain ⟨m1, m2⟩ := mut_end rr (pre := []) rfl rfl hml hms
          exact q G' H' .non (.dat .none) no0 ms (frc_of fr rr m1) ⟨fun _ z => z, .non⟩ (fun _ z => z.elim) m1 z
        · exact z.elim
      · have z : retW env' P.ps (Qd r) := z
        unfold retW at z
        split at z
        · rename_i ms hms
          obtain ⟨m1, m2⟩ := mut_end po.rel (pre := []) rfl rfl hml hms
          refine q G' H' v r B ms (frc_of po.fr po.rel m1) po.rr (fun b hb => ?_) m1 z
          rcases po.org b hb with ⟨j, hj⟩ | h
          · obtain ⟨i, hi⟩ := m2 b (ft0_mem hj)
            exact absurd hb (po.sep i b hi)
          · exact h
        · exact z.elim
    · have h1 := (un _ _ _ z).1
      rw [← hl, ← h1, List.length_map]
/-! ### the facts that the top leaves -/
def fsB (N P : List Str) (sc : Scope) : Bool :=
  decide (sc.kind = .function) && !sc.isCoroutine && !sc.isGenerator && decide N.Nodup && (N.take P.length == P) && P.all (fun x => sc.names.lookup x == some .local || sc.names.lookup x == some .cell) && sc.names.all (fun y => !(y.2 == .free))
theorem fs_of {N P : List Str} {sc : Scope} (h : fsB N P sc = true) : FnScope N P sc := by
  unfold fsB at h
  simp only [Bool.and_eq_true, Bool.not_eq_true', decide_eq_true_eq, beq_iff_eq, List.all_eq_true, Bool.or_eq_true] at h
  obtain ⟨⟨⟨⟨⟨⟨h1, h2⟩, h3⟩, h4⟩, h5⟩, h6⟩, h7⟩ := h
  exact ⟨h1, h2, h3, h4, h5, fun x hx => h6 x hx, fun y hy e => by
    have := h7 y hy
    rw [e] at this
    exact absurd this (by decide)⟩
def dfChk (cf : Cf) (f : Nat) (P : Fn) (Ns : List Str) (st : Stmt) : Bool :=
  fsB Ns (cf.pn f) (defScope st) && decide (P.ps.length = (cf.pn f).length) && decide (Ns.length = (cf.pn f).length + P.locals) && chk { cf with N := Ns } P.body true (defScope st) (.b (defBody st))
theorem df_mk {f : Nat} {P : Fn} {Ns : List Str} {x qual : Str} {st : Stmt} {fa : Addr} {oc kV doc pm cdv ct : Value} {od an : Option Addr} {osl : Array (Option Value)}
    (l : K.lookup fa = some ⟨oc, od, .func (PySem.W.fnOf x qual (defArgs st) (defBody st) (defScope st) .none kV doc pm an cdv ct), osl⟩) (c : PySem.W.codeIn K cdv qual = true) (k : PySem.W.keepIn K (.ref fa) = true) (hm : mg x = some (.ref fa)) (hn : cf.nm f = x) (hd : cf.df f = [])
    (hb : ∀ us : List Value, us.length = (cf.pn f).length → bindArgs (PySem.W.fnOf x qual (defArgs st) (defBody st) (defScope st) .none kV doc pm an cdv ct) ⟨us, []⟩ = pure ((cf.pn f).zip us)) (ck : dfChk cf f P Ns st = true) : Df Pg w K mg cf f P := by
  unfold dfChk at ck
  simp only [Bool.and_eq_true, decide_eq_true_eq] at ck
  obtain ⟨⟨⟨h1, h2⟩, h3⟩, h4⟩ := ck
  have S := fs_of h1
  refine ⟨⟨qual, _, _, Ns, fa, _, runs_of l c S, by rw [hn]; exact hm, k, ⟨fun _ => hb, Binds.all hb⟩, fun ds e ne => ?_, h2, h3, S.nd, h4⟩⟩
  rw [hd] at e
  cases ds with
  | nil => exact absurd rfl ne
  | cons _ _ => exact absurd e Bool.false_ne_true
/-- the table's defs, from the first on -/
def AllDf (Pg : Program) (w : World) (K : PySem.W.Frag) (mg : Str → Option Value) (cf : Cf) : Nat → List Fn → Prop
  | _, [] => True
  | f, P :: r => Df Pg w K mg cf f P ∧ AllDf Pg w K mg cf (f + 1) r
theorem AllDf.get : ∀ {T : List Fn} {f g : Nat} {P : Fn}, AllDf Pg w K mg cf f T → T[g]? = some P → Df Pg w K mg cf (f + g) P
  | [], _, _, _, _, h => by simp at h
  | Q :: r, f, 0, P, h, e => by
    simp at e
    subst e
    exact h.1
  | Q :: r, f, g + 1, P, h, e => by
    have := AllDf.get (f := f + 1) (g := g) h.2 (by simpa using e)
    rw [show f + (g + 1) = f + 1 + g by omega]
    exact this
def AllNo (mg : Str → Option Value) : List Str → Prop
  | [] => True
  | x :: r => mg x = none ∧ AllNo mg r
theorem AllNo.get : ∀ {l : List Str}, AllNo mg l → ∀ x, l.contains x = true → mg x = none
  | [], _, x, h => by simp at h
  | y :: r, h, x, e => by
    rw [List.contains_cons, Bool.or_eq_true] at e
    rcases e with e | e
    · rw [beq_iff_eq.mp e]; exact h.1
    · exact AllNo.get h.2 x e
/-- the module's constants -/
def AllCn (K : PySem.W.Frag) (mg : Str → Option Value) : List (Str × PyData) → Prop
  | [] => True
  | c :: r => (∃ u v, mg c.1 = some u ∧ RelV v u ∧ Da K (fun _ => none) v c.2) ∧ AllCn K mg r
theorem AllCn.get : ∀ {l : List (Str × PyData)}, AllCn K mg l → ∀ c d, (l[c]?).map (·.2) = some d → ∃ u v, mg ((l.map (·.1)).getD c ⟨#[]⟩) = some u ∧ RelV v u ∧ Da K (fun _ => none) v d
  | [], _, c, d, h => by simp at h
  | y :: r, h, 0, d, e => by
    simp at e
    subst e
    simpa using h.1
  | y :: r, h, c + 1, d, e => by
    have := AllCn.get (l := r) h.2 c d (by simpa using e)
    simpa using this
def AllLb (mg : Str → Option Value) : List LF → Prop
  | [] => True
  | f :: r => mg (lfn f) = some (.builtin (lfi f)) ∧ AllLb mg r
theorem lfn_inj {f g : LF} (h : lfn f = lfn g) : f = g := by
  cases f <;> cases g <;> first | rfl | exact absurd h (by decide +kernel)
theorem AllLb.get : ∀ {l : List LF}, AllLb mg l → ∀ f, (l.map lfn).contains (lfn f) = true → mg (lfn f) = some (.builtin (lfi f))
  | [], _, x, h => by simp at h
  | y :: r, h, f, e => by
    rw [List.map_cons, List.contains_cons, Bool.or_eq_true] at e
    rcases e with e | e
    · rw [lfn_inj (beq_iff_eq.mp e)]; exact h.1
    · exact AllLb.get h.2 f e
/-- the configuration of a program -/
def mkCf (nms : List Str) (pns : List (List Str)) (dfs : List (List PyData)) (cs : List (Str × PyData)) (xs bl : List Str) (lb : List LF) (it ct : List (Str × List Nat)) : Cf :=
  ⟨nms.length, [], fun f => nms.getD f ⟨#[]⟩, fun c => (cs.map (·.1)).getD c ⟨#[]⟩, fun c => xs.getD c ⟨#[]⟩, bl, lb.map lfn, fun f => dfs.getD f [], fun f => pns.getD f [], xs.length, xs.length, it, ct, false⟩
def mkC (cs : List (Str × PyData)) : Nat → Option PyData := fun c => (cs[c]?).map (·.2)
theorem law_pi {T : List Fn} {nms : List Str} {pns : List (List Str)} {dfs : List (List PyData)} {cs : List (Str × PyData)} {xs bl : List Str} {lb : List LF} {it ct : List (Str × List Nat)} {n f : Nat} {fa : Addr} {x nm : Str}
    (hT : T.length = nms.length) (hf : f < nms.length) (e1 : nms.getD f ⟨#[]⟩ = nm) (e2 : pns.getD f [] = [x]) (e3 : dfs.getD f [] = []) (hmg : mg nm = some (.ref fa))
    (aD : AllDf Pg w K mg (mkCf nms pns dfs cs xs bl lb it ct) 0 T) (aN : AllNo mg bl) (aC : AllCn K mg cs) (aL : AllLb mg lb) (aX : XFacts Pg w K mg (mkCf nms pns dfs cs xs bl lb it ct))
    (prom : ∀ ns : List Int, ns.length ≤ 63 → (∀ k ∈ ns, Builtin.Int.intBits k ≤ 1048576) → Γ T (mkC cs) n f [.d (.list (ns.map PyData.int))] (fun r _ => r = .dat (.bool true)) (fun _ => False)) :
    ∃ fd : FuncData, (∀ (s : Shared) (u : Value), BindsTo s fd ⟨[u], []⟩ [(x, u)]) ∧ ∀ base : Heap, FnG Pg w K mg base (n + 3) fa fd [x] (spLaw K) := by
  obtain ⟨fa', fd, h1, h2, h3, h4, h5, h6⟩ := fn_level aX (cf := mkCf nms pns dfs cs xs bl lb it ct) (C := mkC cs) (T := T) (fun g hg => by
    have hg : g < T.length := by rw [hT]; exact hg
    refine ⟨T[g], by simp [hg], ?_⟩
    have := aD.get (g := g) (P := T[g]) (by simp [hg])
    rwa [Nat.zero_add] at this) aN.get aC.get aL.get n f hf
  have e1' : (mkCf nms pns dfs cs xs bl lb it ct).nm f = nm := e1
  have e2' : (mkCf nms pns dfs cs xs bl lb it ct).pn f = [x] := e2
  rw [e1', hmg] at h3
  cases h3
  rw [e2'] at h1
  have h5 := h5.1 e3
  rw [e2'] at h5
  refine ⟨fd, fun s u => .of_eq (h5 [u] rfl), fun base => ⟨fun vs H Q E z => ?_, fun {A outer s H args us vs Q E} g room en bd rv z => (h1 base).run g room en bd rv ?_⟩⟩
  · obtain ⟨a, ns, rfl, _⟩ := z
    rfl
  · obtain ⟨a, ns, rfl, hS, hl, hb, q⟩ := z
    have hints : ∀ ns : List Int, DaAll K H (ns.map V.int) (ns.map PyData.int) := fun ns => by
      induction ns with
      | nil => exact .nil
      | cons a t ih => exact .cons (.int a) ih
    refine ⟨H, [.d (.list (ns.map PyData.int))], [], _, _, rfl, Le.refl H, .d (.lst hS (hints ns)) .nil, prom ns hl hb, fun G' H' v r B ms _ rr _ _ z => ?_, fun _ _ _ _ _ _ _ z => z.elim⟩
    have z : r = .dat (.bool true) := z
    subst z
    cases rr.2
    exact q H'
end
end Pi

/-! The exception classes of a program: a base over ValueError with a word and a place, classes over it with their names as words. -/
namespace Pi
open PySem L2 PySem.Spec PyProof.Rows
def clsBody : Stmt → List Stmt
  | .ClassDef _ _ _ b _ _ _ _ _ _ _ => b
  | _ => []
def iniOf (st : Stmt) : Stmt := (clsBody st).getD 0 (.Pass ⟨0, 0, 0, 0⟩)
def nmB (e : Expr) (x : Str) : Bool := match e with
  | .Name y _ => y == x
  | _ => false
/-- the base's __init__ -/
def baseB (st : Stmt) : Bool := fsB ["self", "word", "place"] ["self", "word", "place"] (defScope st) && glB (defScope st) "ValueError" && match defBody st with
  | [.Expr (.Call (.Attribute (.Name v _) i ap) [a, b] [] cp) _, .Assign [.Attribute c w _] d _, .Assign [.Attribute e p _] f _] => (ap.endLine == cp.line) && v == ("ValueError" : Str) && i == ("__init__" : Str) && nmB a "self" && nmB b "word" && nmB c "self" && w == ("word" : Str) && nmB d "word" && nmB e "self" && p == ("place" : Str) && nmB f "place"
  | _ => false
/-- the __init__ of a class over the base x, its name n -/
def dervB (x n : Str) (st : Stmt) : Bool := fsB ["self", "place"] ["self", "place"] (defScope st) && glB (defScope st) x && !(x == ("__debug__" : Str)) && match defBody st with
  | [.Expr (.Call (.Attribute (.Name v _) i ap) [a, .Constant (.str m) _ _, b] [] cp) _] => (ap.endLine == cp.line) && v == x && i == ("__init__" : Str) && nmB a "self" && m == n && nmB b "place"
  | _ => false
theorem call_form {o : Expr} {m : Str} {apos pos : Pos} {env : Env} {es : List Expr} (hb : attributeBase o m env (eval o env) = eval o env) (hf : methodCallForm (es.length + 0) (backTo pos (starEach es env)) (backToKw pos (keywordEach [] env)) = true) (hl : (apos.endLine == pos.line) = true) :
    eval (.Call (.Attribute o m apos) es [] pos) env = (do
      let ov ← eval o env
      standAt apos.atName
      let (f, first) ← holding [ov] (getMethod ov m (plainOf o env))
      callWith pos f first (backTo pos (starEach es env)) (backToKw pos (keywordEach [] env))) := by
  show (do
    let ov ← attributeBase o m env (eval o env)
    standAt apos.atName
    methodCall o m apos pos env ov (es.length + 0) (backTo pos (starEach es env)) (backToKw pos (keywordEach [] env))) = _
  rw [hb]
  simp only [mcall_line hf hl]
theorem nmB_of {e : Expr} {x : Str} (h : nmB e x = true) : ∃ p, e = .Name x p := by
  unfold nmB at h
  split at h
  · rename_i y p
    exact ⟨p, by rw [beq_iff_eq.mp h]⟩
  · cases h
def spBase (K : PySem.W.Frag) : Sp := fun vs H Q _ => ∃ (a C : Addr) (wd : Str) (v : V), vs = [.ref a, .str wd, v] ∧ H a = some (exo a C none) ∧ OexC K C ∧ PySem.W.findIn K (.ref C) "word" = some none ∧ PySem.W.findIn K (.ref C) "place" = some none ∧
  ∀ dx H', H dx = none → dx ≠ a → H' a = some (exo a C (some dx)) → H' dx = some (exd dx [("place", v), ("word", .str wd)]) → (∀ b, b ≠ a → b ≠ dx → H' b = H b) → Q .non H'
section
variable {Pg : Program} {w : World} {K : PySem.W.Frag} {mg : Str → Option Value} {base : Heap}
theorem base_ok {f : Addr} {x qual : Str} {params : Arguments} {st : Stmt} {dV kV doc pm cdv ct oc : Value} {an od : Option Addr} {osl : Array (Option Value)}
    (lk : K.lookup f = some ⟨oc, od, .func (PySem.W.fnOf x qual params (defBody st) (defScope st) dV kV doc pm an cdv ct), osl⟩) (hcd : PySem.W.codeIn K cdv qual = true) (h : baseB st = true) (hm : mg "ValueError" = none)
    (vV : PySem.W.findCls K (.type "ValueError") (.type "type") "__init__" = some (.val (.builtin "ValueError.__init__"))) :
    FnOk Pg w K mg base (L2.CX Pg w) 1 f (PySem.W.fnOf x qual params (defBody st) (defScope st) dV kV doc pm an cdv ct) ["self", "word", "place"] (spBase K) := by
  unfold baseB at h
  simp only [Bool.and_eq_true] at h
  obtain ⟨⟨h1, h2⟩, h3⟩ := h
  have S := fs_of h1
  refine fn_of lk hcd S (fun vs H Q E hs => by obtain ⟨a, C, wd, v, rfl, _⟩ := hs; rfl) fun A outer s H vs Q E hr hs => ?_
  obtain ⟨a, C, wd, v, rfl, ha, T, n1, n2, q⟩ := hs
  have vs : ∀ y ∈ (["self", "word", "place"] : List Str), Vis (defScope st) y := fun y hy => by
    rcases S.par y hy with z | z
    · exact .inl z
    · exact .inr (.inl z)
  split at h3
  · rename_i v' _ i' ap ea eb cp _ ec w' _ ed _ ee p' _ ef _ hb
    simp only [Bool.and_eq_true, beq_iff_eq] at h3
    obtain ⟨⟨⟨⟨⟨⟨⟨⟨⟨⟨hl, rfl⟩, rfl⟩, q1⟩, q2⟩, q3⟩, rfl⟩, q4⟩, q5⟩, rfl⟩, q6⟩ := h3
    obtain ⟨_, rfl⟩ := nmB_of q1
    obtain ⟨_, rfl⟩ := nmB_of q2
    obtain ⟨_, rfl⟩ := nmB_of q3
    obtain ⟨_, rfl⟩ := nmB_of q4
    obtain ⟨_, rfl⟩ := nmB_of q5
    obtain ⟨_, rfl⟩ := nmB_of q6
    rw [hb]
    have pv : ∀ {X : Cx} {p : Pos} (i : Nat) (y : Str), X.N = (["self", "word", "place"] : List Str) → X.env.scope = defScope st → (["self", "word", "place"] : List Str)[i]? = some y → y ∈ (["self", "word", "place"] : List Str) → (y == ("__debug__" : Str)) = false → (y == ("__classdict__" : Str)) = false → PE X (.Name y p) (tVar i) :=
      fun {X p} i y e1 e2 e3 e4 e5 e6 => pe_var (by rw [e1]; exact e3) (by rw [e2]; exact vs y e4) e5 e6
    refine ⟨_, pss_cons (ps_expr (pe_veinit (glB_of h2) hm vV (pa_cons (pv 0 "self" rfl rfl rfl (by decide) (by decide) (by decide)) (pa_cons (pv 1 "word" rfl rfl rfl (by decide) (by decide) (by decide)) pa_nil rfl) rfl) (call_form rfl rfl (beq_iff_eq.mpr hl))) rfl)
      (pss_cons (ps_ost (pv 0 "self" rfl rfl rfl (by decide) (by decide) (by decide)) (pv 1 "word" rfl rfl rfl (by decide) (by decide) (by decide)))
      (pss_cons (ps_ost (pv 0 "self" rfl rfl rfl (by decide) (by decide) (by decide)) (pv 2 "place" rfl rfl rfl (by decide) (by decide) (by decide))) pss_nil)), ?_⟩
    refine ⟨.ref a, rfl, .str wd, rfl, a, C, [.str wd], rfl, by simp, T, ha, ?_⟩
    refine ⟨.str wd, rfl, .ref a, rfl, a, C, rfl, T, n1, .inl ⟨ha, fun dx hdx hne => ?_⟩⟩
    refine ⟨v, rfl, .ref a, rfl, a, C, rfl, T, n2, .inr ⟨dx, [("word", .str wd)], upd_same, by rw [upd_ne hne]; exact upd_same, by simp, ?_⟩⟩
    refine q dx _ hdx hne ?_ upd_same fun b h1 h2 => ?_
    · rw [upd_ne (Ne.symm hne)]; exact upd_same
    · rw [upd_ne h2, upd_ne h1, upd_ne h2]
  · cases h3
theorem pe_clsini {X : Cx} {CX : CXT} {x : Str} {C0 f0 : Addr} {k : Nat} {fd : FuncData} {ps : List Str} {sp : Sp} {E : XK} {e : Expr} {es : List Expr} {t : TA} {p1 p2 pos : Pos} {pl : Sem Bool}
    (hg : Gl X x) (hd : (x == ("__debug__" : Str)) = false) (hm : X.mg x = some (.ref C0)) (hsp : PySem.W.specialIn X.K (.ref C0) "__getattribute__" = some (some (.builtin "type.__getattribute__"))) (hr0 : PySem.W.readsIn X.K C0 (.type "type") = true)
    (hf : PySem.W.findCls X.K (.ref C0) (.type "type") "__init__" = some (.val (.ref f0))) (hk : PySem.W.keepIn X.K (.ref f0) = true)
    (F : FnOk X.prog X.w X.K X.mg X.base CX k f0 fd ps sp) (hr : Room k X.A) (hb : Binds X.K fd ps []) (hx : Passes CX X E) (ha : PA X (e :: es) t)
    (he : starEach (e :: es) X.env = (false, eval e X.env) :: starEach es X.env := by rfl) (hpl : (backTo pos (starEach es X.env)).any (·.1) = false := by rfl)
    (ht : eval (.Call (.Attribute (.Name x p1) "__init__" p2) (e :: es) [] pos) X.env = (do
      let ov ← eval (.Name x p1) X.env
      standAt p2.atName
      let (f, first) ← holding [ov] (getMethod ov "__init__" pl)
      callWith pos f first (backTo pos (starEach (e :: es) X.env)) (backToKw pos (keywordEach [] X.env))) := by rfl) :
    PE X (.Call (.Attribute (.Name x p1) "__init__" p2) (e :: es) [] pos) (tCall sp [] E t) := by
  refine ⟨fun pins s σ H Q I h => ?_⟩
  refine PySem.W.methodCall_KW (pl := pl) (ld_glob I hg hm ?_ hd) ht
  refine PySem.W.method_cls I.kIn hsp (PySem.W.cls_value I.kIn hr0 hf rfl ?_)
  refine PySem.W.callWith_K (first := []) (h₀ := X.base) I.ok.mod.kin hk (thn (ha.run pos pins _ σ H _ (I.tok _) h) fun us s2 ⟨vs, H2, I2, r, q2⟩ => ⟨I2.kIn, ?_⟩) he hpl
  exact run_fn F hr hb .nil hx I2 r q2
theorem derv_ok {f C0 f0 : Addr} {x qual bx nm : Str} {params : Arguments} {st : Stmt} {dV kV doc pm cdv ct oc : Value} {an od : Option Addr} {osl : Array (Option Value)} {fd0 : FuncData}
    (lk : K.lookup f = some ⟨oc, od, .func (PySem.W.fnOf x qual params (defBody st) (defScope st) dV kV doc pm an cdv ct), osl⟩) (hcd : PySem.W.codeIn K cdv qual = true) (h : dervB bx nm st = true) (hm : mg bx = some (.ref C0))
    (hsp : PySem.W.specialIn K (.ref C0) "__getattribute__" = some (some (.builtin "type.__getattribute__"))) (hr0 : PySem.W.readsIn K C0 (.type "type") = true)
    (hf : PySem.W.findCls K (.ref C0) (.type "type") "__init__" = some (.val (.ref f0))) (hk : PySem.W.keepIn K (.ref f0) = true)
    (F : FnOk Pg w K mg base (L2.CX Pg w) 1 f0 fd0 ["self", "word", "place"] (spBase K)) (hb0 : Binds K fd0 ["self", "word", "place"] []) :
    FnOk Pg w K mg base (L2.CX Pg w) 2 f (PySem.W.fnOf x qual params (defBody st) (defScope st) dV kV doc pm an cdv ct) ["self", "place"] (spIni K nm) := by
  unfold dervB at h
  simp only [Bool.and_eq_true, Bool.not_eq_true'] at h
  obtain ⟨⟨⟨h1, h2⟩, h4⟩, h3⟩ := h
  have S := fs_of h1
  refine fn_of lk hcd S (fun vs H Q E hs => by obtain ⟨a, C, v, rfl, _⟩ := hs; rfl) fun A outer s H vs Q E hr hs => ?_
  obtain ⟨a, C, v, rfl, ha, T, n1, n2, q⟩ := hs
  have vs : ∀ y ∈ (["self", "place"] : List Str), Vis (defScope st) y := fun y hy => by
    rcases S.par y hy with z | z
    · exact .inl z
    · exact .inr (.inl z)
  split at h3
  · rename_i v' _ i' ap ea m' _ _ eb cp _ hb
    simp only [Bool.and_eq_true, beq_iff_eq] at h3
    obtain ⟨⟨⟨⟨⟨hl, rfl⟩, rfl⟩, q1⟩, rfl⟩, q2⟩ := h3
    obtain ⟨_, rfl⟩ := nmB_of q1
    obtain ⟨_, rfl⟩ := nmB_of q2
    rw [hb]
    have pv : ∀ {X : Cx} {p : Pos} (i : Nat) (y : Str), X.N = (["self", "place"] : List Str) → X.env.scope = defScope st → (["self", "place"] : List Str)[i]? = some y → y ∈ (["self", "place"] : List Str) → (y == ("__debug__" : Str)) = false → (y == ("__classdict__" : Str)) = false → PE X (.Name y p) (tVar i) :=
      fun {X p} i y e1 e2 e3 e4 e5 e6 => pe_var (by rw [e1]; exact e3) (by rw [e2]; exact vs y e4) e5 e6
    refine ⟨_, pss_cons (ps_expr (pe_clsini (glB_of h2) h4 hm hsp hr0 hf hk F hr hb0 passL
      (pa_cons (pv 0 "self" rfl rfl rfl (by decide) (by decide) (by decide)) (pa_cons pe_str (pa_cons (pv 1 "place" rfl rfl rfl (by decide) (by decide) (by decide)) pa_nil rfl) rfl) rfl) rfl rfl (call_form rfl rfl (beq_iff_eq.mpr hl))) rfl) pss_nil, ?_⟩
    refine ⟨.ref a, rfl, ?_⟩
    refine ⟨v, rfl, ?_⟩
    exact ⟨a, C, m', v, rfl, ha, T, n1, n2, fun dx H' h1 h2 h3 h4 h5 => q dx H' h1 h2 h3 h4 h5⟩
  · cases h3
theorem binds_none {fd : FuncData} {ps : List Str} {T : Addr} {oc : Value} {od : Option Addr} {n k : Nat} {sl : Array (Option Value)} (lT : K.lookup T = some ⟨oc, od, .seq #[.none] n, sl⟩) (hk : k + 1 = ps.length)
    (h : ∀ us : List Value, us.length = k → ∃ g, bindArgs fd ⟨us, []⟩ = seqItems? (.ref T) >>= g ∧ g (some #[.none]) = pure (ps.zip (us ++ [.none]))) : Binds K fd ps [.none] := fun s us X hlen => by
  obtain ⟨g, e1, e2⟩ := h us (by rw [List.length_append, List.length_singleton] at hlen; omega)
  refine BindsTo.of_looks fun M => ?_
  rw [e1]
  exact looks_items X lT rfl (.of_pure e2)
theorem binds_full {fd : FuncData} {ps : List Str} {T : Addr} {oc : Value} {od : Option Addr} {n : Nat} {sl : Array (Option Value)} (lT : K.lookup T = some ⟨oc, od, .seq #[.none] n, sl⟩)
    (h : ∀ us : List Value, us.length = ps.length → ∃ g, bindArgs fd ⟨us, []⟩ = seqItems? (.ref T) >>= g ∧ g (some #[.none]) = pure (ps.zip us)) : Binds K fd ps [] := fun s us X hlen => by
  rw [List.append_nil] at hlen ⊢
  obtain ⟨g, e1, e2⟩ := h us hlen
  refine BindsTo.of_looks fun M => ?_
  rw [e1]
  exact looks_items X lT rfl (.of_pure e2)
/-- a def whose last parameter has the default None -/
theorem df_mkN {cf : Cf} {f : Nat} {P : Fn} {Ns : List Str} {x qual : Str} {st : Stmt} {fa T : Addr} {oc oct kV doc pm cdv ct : Value} {od odt an : Option Addr} {nt : Nat} {osl slt : Array (Option Value)}
    (l : K.lookup fa = some ⟨oc, od, .func (PySem.W.fnOf x qual (defArgs st) (defBody st) (defScope st) (.ref T) kV doc pm an cdv ct), osl⟩) (dt : K.lookup T = some ⟨oct, odt, .seq #[.none] nt, slt⟩) (c : PySem.W.codeIn K cdv qual = true) (k : PySem.W.keepIn K (.ref fa) = true) (hm : mg x = some (.ref fa)) (hn : cf.nm f = x) (hd : cf.df f = [.none]) {m : Nat} (hk : m + 1 = (cf.pn f).length)
    (hb : ∀ us : List Value, us.length = (cf.pn f).length → ∃ g, bindArgs (PySem.W.fnOf x qual (defArgs st) (defBody st) (defScope st) (.ref T) kV doc pm an cdv ct) ⟨us, []⟩ = seqItems? (.ref T) >>= g ∧ g (some #[.none]) = pure ((cf.pn f).zip us))
    (hb2 : ∀ us : List Value, us.length = m → ∃ g, bindArgs (PySem.W.fnOf x qual (defArgs st) (defBody st) (defScope st) (.ref T) kV doc pm an cdv ct) ⟨us, []⟩ = seqItems? (.ref T) >>= g ∧ g (some #[.none]) = pure ((cf.pn f).zip (us ++ [.none])))
    (ck : dfChk cf f P Ns st = true) : Df Pg w K mg cf f P := by
  unfold dfChk at ck
  simp only [Bool.and_eq_true, decide_eq_true_eq] at ck
  obtain ⟨⟨⟨h1, h2⟩, h3⟩, h4⟩ := ck
  have S := fs_of h1
  refine ⟨⟨qual, _, _, Ns, fa, _, runs_of l c S, by rw [hn]; exact hm, k, ⟨(fun e => by rw [hd] at e; cases e), binds_full dt hb⟩, fun ds e ne => ?_, h2, h3, S.nd, h4⟩⟩
  rw [hd] at e
  match ds, e, ne with
  | [], _, ne => exact absurd rfl ne
  | [d], e, _ =>
    have e : (litB .none d && true) = true := e
    rw [Bool.and_true] at e
    cases d <;> first | exact absurd e Bool.false_ne_true | skip
    exact ⟨[.none], .cons rfl .nil, binds_none dt hk hb2⟩
  | _ :: _ :: _, e, _ =>
    have e : (litB .none _ && false) = true := e
    rw [Bool.and_false] at e
    cases e
/-- reading an exception class -/
structure ClsF (K : PySem.W.Frag) (mg : Str → Option Value) (nm : Str) (C : Addr) : Prop where
  m : mg nm = some (.ref C)
  xf : XfC K C
  wd : PySem.W.findIn K (.ref C) "word" = some none
  pl : PySem.W.findIn K (.ref C) "place" = some none
  cl : (PySem.W.clsIn K C).isSome = true
  cc : PySem.W.findIn K (.ref C) "__class__" = some (some (.builtin "object.__class__"))
  mo : PySem.W.mroIn K C (.type "object") = some true
/-- making one -/
structure MkF (Pg : Program) (w : World) (K : PySem.W.Frag) (mg : Str → Option Value) (nm : Str) (C : Addr) : Prop where
  ox : OexC K C
  ex : ∃ fI fd, PySem.W.findIn K (.ref C) "__init__" = some (some (.ref fI)) ∧ PySem.W.typeIn K (.ref fI) = some (.type "function") ∧
    (∀ base, FnOk Pg w K mg base (L2.CX Pg w) 2 fI fd ["self", "place"] (spIni K nm)) ∧ Binds K fd ["self", "place"] [] ∧ Binds K fd ["self", "place"] [.none]
def AllCl (Pg : Program) (w : World) (K : PySem.W.Frag) (mg : Str → Option Value) : List Str → List Addr → Prop
  | [], [] => True
  | x :: xs, C :: Cs => (ClsF K mg x C ∧ MkF Pg w K mg x C) ∧ AllCl Pg w K mg xs Cs
  | _, _ => False
theorem AllCl.get : ∀ {xs : List Str} {Cs : List Addr}, AllCl Pg w K mg xs Cs → ∀ c, c < xs.length → ∃ C, Cs[c]? = some C ∧ ClsF K mg (xs.getD c ⟨#[]⟩) C ∧ MkF Pg w K mg (xs.getD c ⟨#[]⟩) C
  | [], [], _, c, h => by simp at h
  | x :: xs, C :: Cs, h, 0, _ => ⟨C, rfl, h.1⟩
  | x :: xs, C :: Cs, h, c + 1, hc => by
    obtain ⟨D, h1, h2⟩ := AllCl.get h.2 c (by simpa using hc)
    exact ⟨D, by simpa using h1, by simpa using h2⟩
  | [], _ :: _, h, _, _ => h.elim
  | _ :: _, [], h, _, _ => h.elim
/-- a table of answers, class by class -/
def AllTb (f : Value → Option Bool) (ts : List Nat) : Nat → List Addr → Prop
  | _, [] => True
  | i, C :: Cs => f (.ref C) = some (ts.contains i) ∧ AllTb f ts (i + 1) Cs
theorem AllTb.get {f : Value → Option Bool} {ts : List Nat} : ∀ {Cs : List Addr} {i c : Nat} {C : Addr}, AllTb f ts i Cs → Cs[c]? = some C → f (.ref C) = some (ts.contains (i + c))
  | [], _, _, _, _, h => by simp at h
  | D :: Cs, i, 0, C, h, e => by
    simp at e
    subst e
    exact h.1
  | D :: Cs, i, c + 1, C, h, e => by
    have := AllTb.get (i := i + 1) (c := c) h.2 (by simpa using e)
    rwa [show i + 1 + c = i + (c + 1) by omega] at this
def NmV (mg : Str → Option Value) (z : Str) (u : Value) : Prop := mg z = some u ∨ (mg z = none ∧ bootBuiltins z = some u ∧ z ≠ "__name__")
def AllIt (K : PySem.W.Frag) (mg : Str → Option Value) (Cs : List Addr) : List (Str × List Nat) → Prop
  | [] => True
  | e :: r => (∃ cv u, NmV mg e.1 u ∧ ClsV cv u ∧ AllTb (fun c => PySem.W.kitOne K c u) e.2 0 Cs) ∧ AllIt K mg Cs r
def AllCt (K : PySem.W.Frag) (mg : Str → Option Value) (Cs : List Addr) : List (Str × List Nat) → Prop
  | [] => True
  | e :: r => (∃ u, NmV mg e.1 u ∧ AllTb (fun c => PySem.W.exmOne K c u) e.2 0 Cs) ∧ AllCt K mg Cs r
theorem AllIt.get {Cs : List Addr} : ∀ {l : List (Str × List Nat)}, AllIt K mg Cs l → ∀ e, l.contains e = true → ∃ cv u, NmV mg e.1 u ∧ ClsV cv u ∧ AllTb (fun c => PySem.W.kitOne K c u) e.2 0 Cs
  | [], _, _, h => by simp at h
  | y :: r, h, e, c => by
    rw [List.contains_cons, Bool.or_eq_true] at c
    rcases c with c | c
    · rw [eq_of_beq c]; exact h.1
    · exact AllIt.get h.2 e c
theorem AllCt.get {Cs : List Addr} : ∀ {l : List (Str × List Nat)}, AllCt K mg Cs l → ∀ e, l.contains e = true → ∃ u, NmV mg e.1 u ∧ AllTb (fun c => PySem.W.exmOne K c u) e.2 0 Cs
  | [], _, _, h => by simp at h
  | y :: r, h, e, c => by
    rw [List.contains_cons, Bool.or_eq_true] at c
    rcases c with c | c
    · rw [eq_of_beq c]; exact h.1
    · exact AllCt.get h.2 e c
theorem xfacts {nms : List Str} {pns : List (List Str)} {dfs : List (List PyData)} {cs : List (Str × PyData)} {xs bl : List Str} {lb : List LF} {it ct : List (Str × List Nat)} (Cs : List Addr) (h : AllCl Pg w K mg xs Cs) (hi : AllIt K mg Cs it) (hc : AllCt K mg Cs ct)
    (cg : 0 < xs.length → PySem.W.specialIn K (.builtin "object.__class__") "__get__" = some (some (.builtin "getset_descriptor.__get__")) ∧ PySem.W.takesIn K (.builtin "object.__class__") = some true) : XFacts Pg w K mg (mkCf nms pns dfs cs xs bl lb it ct) := by
  refine ⟨rfl, Nat.le_refl _, fun c hl => ?_, fun c hl => ?_, fun z ts hz => ?_, fun z ts hz => ?_, cg⟩
  · obtain ⟨C, _, a, _⟩ := h.get c hl
    exact ⟨C, a.m, a.xf, a.wd, a.pl, a.cl, a.cc, a.mo⟩
  · obtain ⟨C, _, a, b⟩ := h.get c hl
    obtain ⟨fI, fd, h1, h2, h3, h4, h5⟩ := b.ex
    exact ⟨C, fI, fd, a.m, b.ox, h1, h2, a.wd, a.pl, h3, h4, h5⟩
  · obtain ⟨cv, u, h1, h2, h3⟩ := hi.get _ hz
    refine ⟨cv, u, h1, h2, fun c C hl hm => ?_⟩
    obtain ⟨D, e, a, _⟩ := h.get c hl
    have a2 : mg (xs.getD c ⟨#[]⟩) = some (.ref C) := hm
    rw [a.m] at a2
    cases a2
    have := h3.get e
    rwa [Nat.zero_add] at this
  · obtain ⟨u, h1, h3⟩ := hc.get _ hz
    refine ⟨u, h1, fun c C hl hm => ?_⟩
    obtain ⟨D, e, a, _⟩ := h.get c hl
    have a2 : mg (xs.getD c ⟨#[]⟩) = some (.ref C) := hm
    rw [a.m] at a2
    cases a2
    have := h3.get e
    rwa [Nat.zero_add] at this
end
end Pi

/-! A weaker end is reached as well. -/
namespace Pi
open PySem L2
structure KLe (k k' : K) : Prop where
  e : ∀ r env, k.e r env → k'.e r env
  a : ∀ l env, k.a l env → k'.a l env
  t : ∀ b env, k.t b env → k'.t b env
  i : ∀ l env, k.i l env → k'.i l env
  nx : ∀ env, k.nx env → k'.nx env
  bk : ∀ env, k.bk env → k'.bk env
  ct : ∀ env, k.ct env → k'.ct env
  rt : ∀ r env, k.rt r env → k'.rt r env
  x : ∀ e env, k.x e env → k'.x e env
section
variable {x x' : Xc → Ev → Prop} {k k' : K}
theorem kE_le {e e' : R → Ev → Prop} (hx : ∀ z env, x z env → x' z env) (h : ∀ r env, e r env → e' r env) : KLe (kE x e) (kE x' e') := ⟨h, fun _ _ z => z, fun _ _ z => z, fun _ _ z => z, fun _ z => z, fun _ z => z, fun _ z => z, fun _ _ z => z, hx⟩
theorem kA_le {e e' : List (Sum PyData Nat) → Ev → Prop} (hx : ∀ z env, x z env → x' z env) (h : ∀ r env, e r env → e' r env) : KLe (kA x e) (kA x' e') := ⟨fun _ _ z => z, h, fun _ _ z => z, fun _ _ z => z, fun _ z => z, fun _ z => z, fun _ z => z, fun _ _ z => z, hx⟩
theorem kT_le {e e' : Bool → Ev → Prop} (hx : ∀ z env, x z env → x' z env) (h : ∀ r env, e r env → e' r env) : KLe (kT x e) (kT x' e') := ⟨fun _ _ z => z, fun _ _ z => z, h, fun _ _ z => z, fun _ z => z, fun _ z => z, fun _ z => z, fun _ _ z => z, hx⟩
theorem kI_le {e e' : List PyData → Ev → Prop} (hx : ∀ z env, x z env → x' z env) (h : ∀ r env, e r env → e' r env) : KLe (kI x e) (kI x' e') := ⟨fun _ _ z => z, fun _ _ z => z, fun _ _ z => z, h, fun _ z => z, fun _ z => z, fun _ z => z, fun _ _ z => z, hx⟩
theorem kB_le {x x' : Xc → Prop} {nx nx' : Ev → Prop} {rt rt' : R → Ev → Prop} (hx : ∀ z, x z → x' z) (h : ∀ env, nx env → nx' env) (h2 : ∀ r env, rt r env → rt' r env) : KLe (kB nx rt x) (kB nx' rt' x') := ⟨fun _ _ z => z, fun _ _ z => z, fun _ _ z => z, fun _ _ z => z, h, fun _ z => z, fun _ z => z, h2, fun e _ => hx e⟩
theorem on_le (hk : KLe k k') {n n' : Ev → Prop} (h : ∀ env, n env → n' env) : KLe (k.on n) (k'.on n') := ⟨hk.e, hk.a, hk.t, hk.i, h, hk.bk, hk.ct, hk.rt, hk.x⟩
theorem lp_le (hk : KLe k k') {c c' b b' : Ev → Prop} (h : ∀ env, c env → c' env) (h2 : ∀ env, b env → b' env) : KLe (k.lp c b) (k'.lp c' b') := ⟨hk.e, hk.a, hk.t, hk.i, h, h2, h, hk.rt, hk.x⟩
theorem ox_le (hk : KLe k k') {y y' : Xc → Ev → Prop} (h : ∀ e env, y e env → y' e env) : KLe (k.ox y) (k'.ox y') := ⟨hk.e, hk.a, hk.t, hk.i, hk.nx, hk.bk, hk.ct, hk.rt, h⟩
theorem su_le (hk : KLe k k') {i : Nat} : KLe (k.su i) (k'.su i) := ⟨hk.e, hk.a, hk.t, hk.i, fun _ z => ⟨z.1, hk.nx _ z.2⟩, fun _ z => ⟨z.1, hk.bk _ z.2⟩, fun _ z => ⟨z.1, hk.ct _ z.2⟩, fun _ _ z => ⟨z.1, hk.rt _ _ z.2⟩, fun _ _ z => z⟩
theorem KLe.refl (k : K) : KLe k k := ⟨fun _ _ z => z, fun _ _ z => z, fun _ _ z => z, fun _ _ z => z, fun _ z => z, fun _ z => z, fun _ z => z, fun _ _ z => z, fun _ _ z => z⟩
theorem and_r {p q q' : Prop} (h : q → q') : p ∧ q → p ∧ q' := fun z => ⟨z.1, h z.2⟩
theorem ex_mono {α : Type} {p q : α → Prop} (h : ∀ a, p a → q a) : (∃ a, p a) → ∃ a, q a := fun ⟨a, z⟩ => ⟨a, h a z⟩
theorem bothW_mono {b : Bool} {p q p' q' : Prop} (h : p → p') (h2 : q → q') : bothW b p q → bothW b p' q' := by
  cases b
  · exact h2
  · exact h
theorem take_mono {env : Ev} {i : Nat} {c c' : R → Ev → Prop} (h : ∀ r env, c r env → c' r env) : take env i c → take env i c' := by
  unfold take
  split
  · exact h _ _
  · exact h _ _
  · exact fun z => z
theorem peek_mono {env : Ev} {i : Nat} {c c' : PyData → Prop} (h : ∀ d, c d → c' d) : peek env i c → peek env i c' := by
  unfold peek
  split
  · exact h _
  · exact h _
  · exact h _
  · exact fun z => z
theorem isL_mono {env : Ev} {i : Nat} {p q : Prop} (h : p → q) : isL env i p → isL env i q := by
  unfold isL
  split
  · exact h
  · exact h
  · exact fun z => z
theorem putL_mono {env : Ev} {i : Nat} {f g : List PyData → (List PyData → Prop) → Prop} {c c' : Ev → Prop} (h : ∀ ds p q, (∀ z, p z → q z) → f ds p → g ds q) (hc : ∀ env, c env → c' env) : putL env i f c → putL env i g c' := by
  unfold putL
  split
  · exact h _ _ _ fun _ => hc _
  · exact h _ _ _ fun _ => hc _
  · exact fun z => z
theorem unpN_mono {c c' : Ev → Prop} (h : ∀ env, c env → c' env) : ∀ {is : List Nat} {ds : List PyData} {env : Ev}, unpN is ds env c → unpN is ds env c'
  | [], [], env => h env
  | i :: is, d :: ds, env => unpN_mono h (is := is) (ds := ds)
  | [], _ :: _, _ => fun z => z
  | _ :: _, [], _ => fun z => z
theorem tupW_mono {d : PyData} {c c' : List PyData → Prop} (h : ∀ r, c r → c' r) : tupW d c → tupW d c' := by
  unfold tupW
  split <;> first | exact h _ | exact fun z => z
theorem lstW_mono {d : PyData} {c c' : List PyData → Prop} (h : ∀ r, c r → c' r) : lstW d c → lstW d c' := by
  unfold lstW
  split <;> first | exact h _ | exact fun z => z
theorem truthW_mono {d : PyData} {c c' : Bool → Prop} (h : ∀ r, c r → c' r) : truthW d c → truthW d c' := by
  unfold truthW
  split <;> first | exact h _ | exact and_r (h _) | exact fun z => z
theorem itemW_mono {env : Ev} {i : Nat} {z : Int} {c c' : Int → Prop} (h : ∀ r, c r → c' r) : itemW env i z c → itemW env i z c' := by
  unfold itemW
  refine peek_mono fun d => ?_
  split <;> first | exact ex_mono fun _ => and_r (h _) | exact fun z => z
theorem unpE_mono {c c' : Ev → Prop} (h : ∀ env, c env → c' env) : ∀ {is : List Pn} {ds : List PyData} {env : Ev}, unpE is ds env c → unpE is ds env c'
  | [], [], env => h env
  | .inl i :: is, d :: ds, env => unpE_mono h (is := is) (ds := ds)
  | .inr js :: is, d :: ds, env => tupW_mono fun es => unpN_mono fun env' => unpE_mono h (is := is) (ds := ds)
  | [], _ :: _, _ => fun z => z
  | .inl _ :: _, [], _ => fun z => z
  | .inr _ :: _, [], _ => fun z => z
theorem asgW_mono {x : Tg} {d : PyData} {env : Ev} {c c' : Ev → Prop} (h : ∀ env, c env → c' env) : asgW x d env c → asgW x d env c' := by
  unfold asgW
  split
  · exact h _
  · split
    · exact unpE_mono h
    · exact fun z => z
theorem binW_mono {o : BO} {a b : PyData} {c c' : R → Prop} (h : ∀ r, c r → c' r) : binW o a b c → binW o a b c' := by
  unfold binW
  split <;> first | exact h _ | exact and_r (h _) | exact and_r (and_r (and_r (h _))) | exact fun z => z
theorem cmpW_mono {o : CO} {a b : PyData} {c c' : Bool → Prop} (h : ∀ r, c r → c' r) : cmpW o a b c → cmpW o a b c' := by
  unfold cmpW
  split <;> first | exact h _ | exact and_r (and_r (h _)) | exact fun z => z
theorem b1W_mono {o : B1} {a : PyData} {c c' : R → Prop} (h : ∀ r, c r → c' r) : b1W o a c → b1W o a c' := by
  unfold b1W
  split <;> first | exact h _ | exact and_r (h _) | exact ex_mono (fun _ => and_r (h _)) | exact ex_mono (fun _ => and_r fun z m h1 h2 => h _ (z m h1 h2)) | exact ex_mono (fun _ => and_r (and_r fun z m h1 h2 => h _ (z m h1 h2))) | exact and_r (and_r (and_r (and_r (h _)))) | exact fun z => z
theorem b2W_mono {o : B2} {a b : PyData} {c c' : R → Prop} (h : ∀ r, c r → c' r) : b2W o a b c → b2W o a b c' := by
  unfold b2W
  split <;> first | exact h _ | exact fun z => z
theorem ixW_mono {a b : PyData} {c c' : R → Prop} (h : ∀ r, c r → c' r) : ixW a b c → ixW a b c' := by
  unfold ixW
  split <;> first | exact ex_mono (fun _ => and_r (h _)) | exact and_r (ex_mono (fun _ => and_r (h _))) | exact fun z => z
theorem slW_mono {a : PyData} {l m : Option Int} {c c' : R → Prop} (h : ∀ r, c r → c' r) : slW a l m c → slW a l m c' := by
  unfold slW
  split <;> first | exact h _ | exact and_r (h _) | exact fun z => z
theorem revW_mono {a : PyData} {c c' : R → Prop} (h : ∀ r, c r → c' r) : revW a c → revW a c' := by
  unfold revW
  split <;> first | exact h _ | exact fun z => z
theorem partW_mono {l : List PyData} {c c' : Option Int → Prop} (h : ∀ r, c r → c' r) : partW l c → partW l c' := by
  unfold partW
  split <;> first | exact h _ | exact fun z => z
theorem intW_mono {d : PyData} {c c' : Int → Prop} (h : ∀ r, c r → c' r) : intW d c → intW d c' := by
  unfold intW
  split <;> first | exact h _ | exact fun z => z
theorem boolW_mono {d : PyData} {c c' : Bool → Prop} (h : ∀ r, c r → c' r) : boolW d c → boolW d c' := by
  unfold boolW
  split <;> first | exact h _ | exact fun z => z
theorem strW_mono {d : PyData} {c c' : Str → Prop} (h : ∀ r, c r → c' r) : strW d c → strW d c' := by
  unfold strW
  split <;> first | exact h _ | exact fun z => z
theorem m1W_mono {m : MT1} {a : Str} {b : PyData} {c c' : R → Prop} (h : ∀ r, c r → c' r) : m1W m a b c → m1W m a b c' := by
  unfold m1W
  split <;> first | exact h _ | exact ex_mono (fun _ => and_r (and_r (h _))) | exact and_r (and_r (h _)) | exact fun z => z
theorem libW_mono {m : LF} {a b : PyData} {c c' : R → Prop} (h : ∀ r, c r → c' r) : libW m a b c → libW m a b c' := by
  unfold libW
  split <;> first | exact h _ | exact and_r (and_r (h _)) | exact fun z => z
theorem lixW_mono {a b : PyData} {c c' : R → Prop} (h : ∀ r, c r → c' r) : lixW a b c → lixW a b c' := by
  unfold lixW
  split <;> first | exact and_r (and_r (ex_mono fun _ => ex_mono fun _ => and_r (and_r (and_r (h _))))) | exact fun z => z
theorem listW_mono {d : PyData} {p q : Prop} (h : p → q) : listW d p → listW d q := by
  unfold listW
  split <;> first | exact h | exact fun z => z
theorem walkL_mono {d : PyData} {c c' : List PyData → Prop} (h : ∀ r, c r → c' r) : walkL d c → walkL d c' := by
  unfold walkL
  split <;> first | exact h _ | exact fun z => z
theorem enumW_mono {d : PyData} {c c' : List PyData → Prop} (h : ∀ r, c r → c' r) : enumW d c → enumW d c' := by
  unfold enumW
  split <;> first | exact h _ | exact fun z => z
theorem zipW_mono {d e : PyData} {c c' : List PyData → Prop} (h : ∀ r, c r → c' r) : zipW d e c → zipW d e c' := by
  unfold zipW
  split <;> first | exact h _ | exact fun z => z
theorem augW_mono {o : BO} {d e : PyData} {c c' : Int → Prop} (h : ∀ r, c r → c' r) : augW o d e c → augW o d e c' := by
  unfold augW
  split <;> first | exact h _ | exact fun z => z
theorem lcW_mono {s s' : PyData → Ev → (Option PyData → Ev → Prop) → Prop} {n n' : List PyData → Ev → Prop} (hs : ∀ d env c c', (∀ o env, c o env → c' o env) → s d env c → s' d env c') (hn : ∀ a env, n a env → n' a env) : ∀ {ds acc : List PyData} {env : Ev}, lcW s n ds acc env → lcW s' n' ds acc env
  | [], acc, env => hn _ _
  | d :: ds, acc, env => hs _ _ _ _ fun o env => by
    cases o with
    | none => exact lcW_mono hs hn (ds := ds)
    | some y => exact and_r (lcW_mono hs hn (ds := ds))
theorem forW_mono {s s' : PyData → Ev → (Ev → Prop) → Prop} {n n' : Ev → Prop} (hs : ∀ d env c c', (∀ env, c env → c' env) → s d env c → s' d env c') (hn : ∀ env, n env → n' env) : ∀ {ds : List PyData} {env : Ev}, forW s n ds env → forW s' n' ds env
  | [], env => hn _
  | d :: ds, env => hs _ _ _ _ fun env => forW_mono hs hn (ds := ds)
end
def FMono (F : Fs) : Prop := ∀ f ags Q Q' x x', (∀ r ms, Q r ms → Q' r ms) → (∀ e, x e → x' e) → F f ags Q x → F f ags Q' x'
def WM (F : Fs) (C : Nat → Option PyData) (n : N) : Prop := ∀ env k k', KLe k k' → wp F C n env k → wp F C n env k'
section
variable {F : Fs} {C : Nat → Option PyData} (hF : FMono F)
include hF
theorem wm_v {i : Nat}  : WM F C (.v i) := by
  intro env k k' hk h
  have h : take env i k.e := h
  show take env i k'.e
  revert h
  repeat' (first
    | exact fun z => z
    | exact hk.e _ _ | exact hk.t _ _ | exact hk.a _ _ | exact hk.i _ _ | exact hk.nx _ | exact hk.bk _ | exact hk.ct _ | exact hk.rt _ _ | exact hk.x _ _
    | exact hF _ _ _ _ _ _ (fun _ _ => hk.e _ _) (fun _ => hk.x _ _)
    
    
    | refine and_r ?_ | refine bothW_mono ?_ ?_ | refine ex_mono fun _ => ?_
    | refine take_mono hk.e | refine peek_mono fun _ => ?_ | refine binW_mono fun _ => ?_ | refine cmpW_mono fun _ => ?_ | refine b1W_mono fun _ => ?_ | refine b2W_mono fun _ => ?_ | refine ixW_mono fun _ => ?_ | refine slW_mono fun _ => ?_ | refine revW_mono fun _ => ?_ | refine partW_mono fun _ => ?_
    | refine intW_mono fun _ => ?_ | refine boolW_mono fun _ => ?_ | refine truthW_mono fun _ => ?_ | refine itemW_mono fun _ => ?_ | refine lstW_mono fun _ => ?_ | refine strW_mono fun _ => ?_ | refine m1W_mono fun _ => ?_ | refine libW_mono fun _ => ?_ | refine lixW_mono fun _ => ?_ | refine listW_mono ?_ | refine isL_mono ?_ | refine walkL_mono fun _ => ?_ | refine enumW_mono fun _ => ?_ | refine zipW_mono fun _ => ?_
    | refine asgW_mono fun _ => ?_ | refine putL_mono (fun _ _ _ q => ?_) hk.nx | refine augW_mono fun _ => ?_ | refine lcW_mono (fun _ _ _ _ q => ?_) fun _ _ => ?_ | refine forW_mono (fun _ _ _ _ q => ?_) fun _ => ?_ | exact q _ _ | exact q _
    | split)
theorem wm_g {x : Nat}  : WM F C (.g x) := by
  intro env k k' hk h
  have h : match C x with
    | some d => k.e (.dat d) env
    | none => False := h
  show match C x with
    | some d => k'.e (.dat d) env
    | none => False
  revert h
  repeat' (first
    | exact fun z => z
    | exact hk.e _ _ | exact hk.t _ _ | exact hk.a _ _ | exact hk.i _ _ | exact hk.nx _ | exact hk.bk _ | exact hk.ct _ | exact hk.rt _ _ | exact hk.x _ _
    | exact hF _ _ _ _ _ _ (fun _ _ => hk.e _ _) (fun _ => hk.x _ _)
    
    
    | refine and_r ?_ | refine bothW_mono ?_ ?_ | refine ex_mono fun _ => ?_
    | refine take_mono hk.e | refine peek_mono fun _ => ?_ | refine binW_mono fun _ => ?_ | refine cmpW_mono fun _ => ?_ | refine b1W_mono fun _ => ?_ | refine b2W_mono fun _ => ?_ | refine ixW_mono fun _ => ?_ | refine slW_mono fun _ => ?_ | refine revW_mono fun _ => ?_ | refine partW_mono fun _ => ?_
    | refine intW_mono fun _ => ?_ | refine boolW_mono fun _ => ?_ | refine truthW_mono fun _ => ?_ | refine itemW_mono fun _ => ?_ | refine lstW_mono fun _ => ?_ | refine strW_mono fun _ => ?_ | refine m1W_mono fun _ => ?_ | refine libW_mono fun _ => ?_ | refine lixW_mono fun _ => ?_ | refine listW_mono ?_ | refine isL_mono ?_ | refine walkL_mono fun _ => ?_ | refine enumW_mono fun _ => ?_ | refine zipW_mono fun _ => ?_
    | refine asgW_mono fun _ => ?_ | refine putL_mono (fun _ _ _ q => ?_) hk.nx | refine augW_mono fun _ => ?_ | refine lcW_mono (fun _ _ _ _ q => ?_) fun _ _ => ?_ | refine forW_mono (fun _ _ _ _ q => ?_) fun _ => ?_ | exact q _ _ | exact q _
    | split)
theorem wm_c {d : PyData}  : WM F C (.c d) := by
  intro env k k' hk h
  have h : k.e (.dat d) env := h
  show k'.e (.dat d) env
  revert h
  repeat' (first
    | exact fun z => z
    | exact hk.e _ _ | exact hk.t _ _ | exact hk.a _ _ | exact hk.i _ _ | exact hk.nx _ | exact hk.bk _ | exact hk.ct _ | exact hk.rt _ _ | exact hk.x _ _
    | exact hF _ _ _ _ _ _ (fun _ _ => hk.e _ _) (fun _ => hk.x _ _)
    
    
    | refine and_r ?_ | refine bothW_mono ?_ ?_ | refine ex_mono fun _ => ?_
    | refine take_mono hk.e | refine peek_mono fun _ => ?_ | refine binW_mono fun _ => ?_ | refine cmpW_mono fun _ => ?_ | refine b1W_mono fun _ => ?_ | refine b2W_mono fun _ => ?_ | refine ixW_mono fun _ => ?_ | refine slW_mono fun _ => ?_ | refine revW_mono fun _ => ?_ | refine partW_mono fun _ => ?_
    | refine intW_mono fun _ => ?_ | refine boolW_mono fun _ => ?_ | refine truthW_mono fun _ => ?_ | refine itemW_mono fun _ => ?_ | refine lstW_mono fun _ => ?_ | refine strW_mono fun _ => ?_ | refine m1W_mono fun _ => ?_ | refine libW_mono fun _ => ?_ | refine lixW_mono fun _ => ?_ | refine listW_mono ?_ | refine isL_mono ?_ | refine walkL_mono fun _ => ?_ | refine enumW_mono fun _ => ?_ | refine zipW_mono fun _ => ?_
    | refine asgW_mono fun _ => ?_ | refine putL_mono (fun _ _ _ q => ?_) hk.nx | refine augW_mono fun _ => ?_ | refine lcW_mono (fun _ _ _ _ q => ?_) fun _ _ => ?_ | refine forW_mono (fun _ _ _ _ q => ?_) fun _ => ?_ | exact q _ _ | exact q _
    | split)
theorem wm_bin {o : BO} {a : N} {b : N} (ih_a : WM F C a) (ih_b : WM F C b) : WM F C (.bin o a b) := by
  intro env k k' hk h
  have h : match a.isV, b.isV with
    | some i, some j => peek env i fun x => peek env j fun y => binW o x y fun r => k.e r env
    | some i, none => peek env i fun _ => wp F C b env (kE k.x fun rb env1 => peek env1 i fun x => binW o x rb.d fun r => k.e r env1)
    | none, some j => wp F C a env (kE k.x fun ra env1 => peek env1 j fun y => binW o ra.d y fun r => k.e r env1)
    | none, none => wp F C a env (kE k.x fun ra env1 => wp F C b env1 (kE k.x fun rb env2 => binW o ra.d rb.d fun r => k.e r env2)) := h
  show match a.isV, b.isV with
    | some i, some j => peek env i fun x => peek env j fun y => binW o x y fun r => k'.e r env
    | some i, none => peek env i fun _ => wp F C b env (kE k'.x fun rb env1 => peek env1 i fun x => binW o x rb.d fun r => k'.e r env1)
    | none, some j => wp F C a env (kE k'.x fun ra env1 => peek env1 j fun y => binW o ra.d y fun r => k'.e r env1)
    | none, none => wp F C a env (kE k'.x fun ra env1 => wp F C b env1 (kE k'.x fun rb env2 => binW o ra.d rb.d fun r => k'.e r env2))
  generalize a.isV = o_a at h ⊢
  revert h
  cases o_a <;> repeat' (first
    | exact fun z => z
    | exact hk.e _ _ | exact hk.t _ _ | exact hk.a _ _ | exact hk.i _ _ | exact hk.nx _ | exact hk.bk _ | exact hk.ct _ | exact hk.rt _ _ | exact hk.x _ _
    | exact hF _ _ _ _ _ _ (fun _ _ => hk.e _ _) (fun _ => hk.x _ _)
    | exact ih_a _ _ _ hk | refine ih_a _ _ _ (kE_le hk.x fun _ _ => ?_) | refine ih_a _ _ _ (kE_le (fun _ _ z => z) fun _ _ => ?_) | refine ih_a _ _ _ (kT_le hk.x fun _ _ => ?_) | refine ih_a _ _ _ (kT_le (fun _ _ z => z) fun _ _ => ?_) | refine ih_a _ _ _ (kA_le hk.x fun _ _ => ?_) | refine ih_a _ _ _ (kI_le hk.x fun _ _ => ?_) | refine ih_a _ _ _ (on_le hk fun _ => ?_) | refine ih_a _ _ _ (lp_le hk (fun _ => ?_) hk.nx) | refine ih_a _ _ _ (ox_le hk fun _ _ => ?_) | exact ih_a _ _ _ (su_le hk) | exact ih_b _ _ _ hk | refine ih_b _ _ _ (kE_le hk.x fun _ _ => ?_) | refine ih_b _ _ _ (kE_le (fun _ _ z => z) fun _ _ => ?_) | refine ih_b _ _ _ (kT_le hk.x fun _ _ => ?_) | refine ih_b _ _ _ (kT_le (fun _ _ z => z) fun _ _ => ?_) | refine ih_b _ _ _ (kA_le hk.x fun _ _ => ?_) | refine ih_b _ _ _ (kI_le hk.x fun _ _ => ?_) | refine ih_b _ _ _ (on_le hk fun _ => ?_) | refine ih_b _ _ _ (lp_le hk (fun _ => ?_) hk.nx) | refine ih_b _ _ _ (ox_le hk fun _ _ => ?_) | exact ih_b _ _ _ (su_le hk)
    | refine ih_a _ _ _ (lp_le hk (fun _ z => z) hk.nx) | refine ih_b _ _ _ (lp_le hk (fun _ z => z) hk.nx)
    | refine and_r ?_ | refine bothW_mono ?_ ?_ | refine ex_mono fun _ => ?_
    | refine take_mono hk.e | refine peek_mono fun _ => ?_ | refine binW_mono fun _ => ?_ | refine cmpW_mono fun _ => ?_ | refine b1W_mono fun _ => ?_ | refine b2W_mono fun _ => ?_ | refine ixW_mono fun _ => ?_ | refine slW_mono fun _ => ?_ | refine revW_mono fun _ => ?_ | refine partW_mono fun _ => ?_
    | refine intW_mono fun _ => ?_ | refine boolW_mono fun _ => ?_ | refine truthW_mono fun _ => ?_ | refine itemW_mono fun _ => ?_ | refine lstW_mono fun _ => ?_ | refine strW_mono fun _ => ?_ | refine m1W_mono fun _ => ?_ | refine libW_mono fun _ => ?_ | refine lixW_mono fun _ => ?_ | refine listW_mono ?_ | refine isL_mono ?_ | refine walkL_mono fun _ => ?_ | refine enumW_mono fun _ => ?_ | refine zipW_mono fun _ => ?_
    | refine asgW_mono fun _ => ?_ | refine putL_mono (fun _ _ _ q => ?_) hk.nx | refine augW_mono fun _ => ?_ | refine lcW_mono (fun _ _ _ _ q => ?_) fun _ _ => ?_ | refine forW_mono (fun _ _ _ _ q => ?_) fun _ => ?_ | exact q _ _ | exact q _
    | split)
theorem wm_neg {a : N} (ih_a : WM F C a) : WM F C (.neg a) := by
  intro env k k' hk h
  have h : wp F C a env (kE k.x fun r env1 => intW r.d fun i => k.e (.dat (.int (-i))) env1) := h
  show wp F C a env (kE k'.x fun r env1 => intW r.d fun i => k'.e (.dat (.int (-i))) env1)
  revert h
  repeat' (first
    | exact fun z => z
    | exact hk.e _ _ | exact hk.t _ _ | exact hk.a _ _ | exact hk.i _ _ | exact hk.nx _ | exact hk.bk _ | exact hk.ct _ | exact hk.rt _ _ | exact hk.x _ _
    | exact hF _ _ _ _ _ _ (fun _ _ => hk.e _ _) (fun _ => hk.x _ _)
    | exact ih_a _ _ _ hk | refine ih_a _ _ _ (kE_le hk.x fun _ _ => ?_) | refine ih_a _ _ _ (kE_le (fun _ _ z => z) fun _ _ => ?_) | refine ih_a _ _ _ (kT_le hk.x fun _ _ => ?_) | refine ih_a _ _ _ (kT_le (fun _ _ z => z) fun _ _ => ?_) | refine ih_a _ _ _ (kA_le hk.x fun _ _ => ?_) | refine ih_a _ _ _ (kI_le hk.x fun _ _ => ?_) | refine ih_a _ _ _ (on_le hk fun _ => ?_) | refine ih_a _ _ _ (lp_le hk (fun _ => ?_) hk.nx) | refine ih_a _ _ _ (ox_le hk fun _ _ => ?_) | exact ih_a _ _ _ (su_le hk)
    | refine ih_a _ _ _ (lp_le hk (fun _ z => z) hk.nx)
    | refine and_r ?_ | refine bothW_mono ?_ ?_ | refine ex_mono fun _ => ?_
    | refine take_mono hk.e | refine peek_mono fun _ => ?_ | refine binW_mono fun _ => ?_ | refine cmpW_mono fun _ => ?_ | refine b1W_mono fun _ => ?_ | refine b2W_mono fun _ => ?_ | refine ixW_mono fun _ => ?_ | refine slW_mono fun _ => ?_ | refine revW_mono fun _ => ?_ | refine partW_mono fun _ => ?_
    | refine intW_mono fun _ => ?_ | refine boolW_mono fun _ => ?_ | refine truthW_mono fun _ => ?_ | refine itemW_mono fun _ => ?_ | refine lstW_mono fun _ => ?_ | refine strW_mono fun _ => ?_ | refine m1W_mono fun _ => ?_ | refine libW_mono fun _ => ?_ | refine lixW_mono fun _ => ?_ | refine listW_mono ?_ | refine isL_mono ?_ | refine walkL_mono fun _ => ?_ | refine enumW_mono fun _ => ?_ | refine zipW_mono fun _ => ?_
    | refine asgW_mono fun _ => ?_ | refine putL_mono (fun _ _ _ q => ?_) hk.nx | refine augW_mono fun _ => ?_ | refine lcW_mono (fun _ _ _ _ q => ?_) fun _ _ => ?_ | refine forW_mono (fun _ _ _ _ q => ?_) fun _ => ?_ | exact q _ _ | exact q _
    | split)
theorem wm_cmp {o : CO} {a : N} {b : N} (ih_a : WM F C a) (ih_b : WM F C b) : WM F C (.cmp o a b) := by
  intro env k k' hk h
  have h : match a.isV, b.isV with
    | some i, some j => peek env i fun x => peek env j fun y => cmpW o x y fun r => k.e (.dat (.bool r)) env
    | some i, none => peek env i fun _ => wp F C b env (kE k.x fun rb env1 => peek env1 i fun x => cmpW o x rb.d fun r => k.e (.dat (.bool r)) env1)
    | none, some j => wp F C a env (kE k.x fun ra env1 => peek env1 j fun y => cmpW o ra.d y fun r => k.e (.dat (.bool r)) env1)
    | none, none => wp F C a env (kE k.x fun ra env1 => wp F C b env1 (kE k.x fun rb env2 => cmpW o ra.d rb.d fun r => k.e (.dat (.bool r)) env2)) := h
  show match a.isV, b.isV with
    | some i, some j => peek env i fun x => peek env j fun y => cmpW o x y fun r => k'.e (.dat (.bool r)) env
    | some i, none => peek env i fun _ => wp F C b env (kE k'.x fun rb env1 => peek env1 i fun x => cmpW o x rb.d fun r => k'.e (.dat (.bool r)) env1)
    | none, some j => wp F C a env (kE k'.x fun ra env1 => peek env1 j fun y => cmpW o ra.d y fun r => k'.e (.dat (.bool r)) env1)
    | none, none => wp F C a env (kE k'.x fun ra env1 => wp F C b env1 (kE k'.x fun rb env2 => cmpW o ra.d rb.d fun r => k'.e (.dat (.bool r)) env2))
  generalize a.isV = o_a at h ⊢
  revert h
  cases o_a <;> repeat' (first
    | exact fun z => z
    | exact hk.e _ _ | exact hk.t _ _ | exact hk.a _ _ | exact hk.i _ _ | exact hk.nx _ | exact hk.bk _ | exact hk.ct _ | exact hk.rt _ _ | exact hk.x _ _
    | exact hF _ _ _ _ _ _ (fun _ _ => hk.e _ _) (fun _ => hk.x _ _)
    | exact ih_a _ _ _ hk | refine ih_a _ _ _ (kE_le hk.x fun _ _ => ?_) | refine ih_a _ _ _ (kE_le (fun _ _ z => z) fun _ _ => ?_) | refine ih_a _ _ _ (kT_le hk.x fun _ _ => ?_) | refine ih_a _ _ _ (kT_le (fun _ _ z => z) fun _ _ => ?_) | refine ih_a _ _ _ (kA_le hk.x fun _ _ => ?_) | refine ih_a _ _ _ (kI_le hk.x fun _ _ => ?_) | refine ih_a _ _ _ (on_le hk fun _ => ?_) | refine ih_a _ _ _ (lp_le hk (fun _ => ?_) hk.nx) | refine ih_a _ _ _ (ox_le hk fun _ _ => ?_) | exact ih_a _ _ _ (su_le hk) | exact ih_b _ _ _ hk | refine ih_b _ _ _ (kE_le hk.x fun _ _ => ?_) | refine ih_b _ _ _ (kE_le (fun _ _ z => z) fun _ _ => ?_) | refine ih_b _ _ _ (kT_le hk.x fun _ _ => ?_) | refine ih_b _ _ _ (kT_le (fun _ _ z => z) fun _ _ => ?_) | refine ih_b _ _ _ (kA_le hk.x fun _ _ => ?_) | refine ih_b _ _ _ (kI_le hk.x fun _ _ => ?_) | refine ih_b _ _ _ (on_le hk fun _ => ?_) | refine ih_b _ _ _ (lp_le hk (fun _ => ?_) hk.nx) | refine ih_b _ _ _ (ox_le hk fun _ _ => ?_) | exact ih_b _ _ _ (su_le hk)
    | refine ih_a _ _ _ (lp_le hk (fun _ z => z) hk.nx) | refine ih_b _ _ _ (lp_le hk (fun _ z => z) hk.nx)
    | refine and_r ?_ | refine bothW_mono ?_ ?_ | refine ex_mono fun _ => ?_
    | refine take_mono hk.e | refine peek_mono fun _ => ?_ | refine binW_mono fun _ => ?_ | refine cmpW_mono fun _ => ?_ | refine b1W_mono fun _ => ?_ | refine b2W_mono fun _ => ?_ | refine ixW_mono fun _ => ?_ | refine slW_mono fun _ => ?_ | refine revW_mono fun _ => ?_ | refine partW_mono fun _ => ?_
    | refine intW_mono fun _ => ?_ | refine boolW_mono fun _ => ?_ | refine truthW_mono fun _ => ?_ | refine itemW_mono fun _ => ?_ | refine lstW_mono fun _ => ?_ | refine strW_mono fun _ => ?_ | refine m1W_mono fun _ => ?_ | refine libW_mono fun _ => ?_ | refine lixW_mono fun _ => ?_ | refine listW_mono ?_ | refine isL_mono ?_ | refine walkL_mono fun _ => ?_ | refine enumW_mono fun _ => ?_ | refine zipW_mono fun _ => ?_
    | refine asgW_mono fun _ => ?_ | refine putL_mono (fun _ _ _ q => ?_) hk.nx | refine augW_mono fun _ => ?_ | refine lcW_mono (fun _ _ _ _ q => ?_) fun _ _ => ?_ | refine forW_mono (fun _ _ _ _ q => ?_) fun _ => ?_ | exact q _ _ | exact q _
    | split)
theorem wm_chain {o : CO} {o' : CO} {a : N} {b : N} {c : N} (ih_a : WM F C a) (ih_b : WM F C b) (ih_c : WM F C c) : WM F C (.chain o o' a b c) := by
  intro env k k' hk h
  have h : wp F C a env (kE k.x fun ra env1 => wp F C b env1 (kE k.x fun rb env2 => cmpW o ra.d rb.d fun t =>
      bothW t (wp F C c env2 (kE k.x fun rc env3 => cmpW o' rb.d rc.d fun u => k.e (.dat (.bool u)) env3)) (k.e (.dat (.bool false)) env2))) := h
  show wp F C a env (kE k'.x fun ra env1 => wp F C b env1 (kE k'.x fun rb env2 => cmpW o ra.d rb.d fun t =>
      bothW t (wp F C c env2 (kE k'.x fun rc env3 => cmpW o' rb.d rc.d fun u => k'.e (.dat (.bool u)) env3)) (k'.e (.dat (.bool false)) env2)))
  revert h
  repeat' (first
    | exact fun z => z
    | exact hk.e _ _ | exact hk.t _ _ | exact hk.a _ _ | exact hk.i _ _ | exact hk.nx _ | exact hk.bk _ | exact hk.ct _ | exact hk.rt _ _ | exact hk.x _ _
    | exact hF _ _ _ _ _ _ (fun _ _ => hk.e _ _) (fun _ => hk.x _ _)
    | exact ih_a _ _ _ hk | refine ih_a _ _ _ (kE_le hk.x fun _ _ => ?_) | refine ih_a _ _ _ (kE_le (fun _ _ z => z) fun _ _ => ?_) | refine ih_a _ _ _ (kT_le hk.x fun _ _ => ?_) | refine ih_a _ _ _ (kT_le (fun _ _ z => z) fun _ _ => ?_) | refine ih_a _ _ _ (kA_le hk.x fun _ _ => ?_) | refine ih_a _ _ _ (kI_le hk.x fun _ _ => ?_) | refine ih_a _ _ _ (on_le hk fun _ => ?_) | refine ih_a _ _ _ (lp_le hk (fun _ => ?_) hk.nx) | refine ih_a _ _ _ (ox_le hk fun _ _ => ?_) | exact ih_a _ _ _ (su_le hk) | exact ih_b _ _ _ hk | refine ih_b _ _ _ (kE_le hk.x fun _ _ => ?_) | refine ih_b _ _ _ (kE_le (fun _ _ z => z) fun _ _ => ?_) | refine ih_b _ _ _ (kT_le hk.x fun _ _ => ?_) | refine ih_b _ _ _ (kT_le (fun _ _ z => z) fun _ _ => ?_) | refine ih_b _ _ _ (kA_le hk.x fun _ _ => ?_) | refine ih_b _ _ _ (kI_le hk.x fun _ _ => ?_) | refine ih_b _ _ _ (on_le hk fun _ => ?_) | refine ih_b _ _ _ (lp_le hk (fun _ => ?_) hk.nx) | refine ih_b _ _ _ (ox_le hk fun _ _ => ?_) | exact ih_b _ _ _ (su_le hk) | exact ih_c _ _ _ hk | refine ih_c _ _ _ (kE_le hk.x fun _ _ => ?_) | refine ih_c _ _ _ (kE_le (fun _ _ z => z) fun _ _ => ?_) | refine ih_c _ _ _ (kT_le hk.x fun _ _ => ?_) | refine ih_c _ _ _ (kT_le (fun _ _ z => z) fun _ _ => ?_) | refine ih_c _ _ _ (kA_le hk.x fun _ _ => ?_) | refine ih_c _ _ _ (kI_le hk.x fun _ _ => ?_) | refine ih_c _ _ _ (on_le hk fun _ => ?_) | refine ih_c _ _ _ (lp_le hk (fun _ => ?_) hk.nx) | refine ih_c _ _ _ (ox_le hk fun _ _ => ?_) | exact ih_c _ _ _ (su_le hk)
    | refine ih_a _ _ _ (lp_le hk (fun _ z => z) hk.nx) | refine ih_b _ _ _ (lp_le hk (fun _ z => z) hk.nx) | refine ih_c _ _ _ (lp_le hk (fun _ z => z) hk.nx)
    | refine and_r ?_ | refine bothW_mono ?_ ?_ | refine ex_mono fun _ => ?_
    | refine take_mono hk.e | refine peek_mono fun _ => ?_ | refine binW_mono fun _ => ?_ | refine cmpW_mono fun _ => ?_ | refine b1W_mono fun _ => ?_ | refine b2W_mono fun _ => ?_ | refine ixW_mono fun _ => ?_ | refine slW_mono fun _ => ?_ | refine revW_mono fun _ => ?_ | refine partW_mono fun _ => ?_
    | refine intW_mono fun _ => ?_ | refine boolW_mono fun _ => ?_ | refine truthW_mono fun _ => ?_ | refine itemW_mono fun _ => ?_ | refine lstW_mono fun _ => ?_ | refine strW_mono fun _ => ?_ | refine m1W_mono fun _ => ?_ | refine libW_mono fun _ => ?_ | refine lixW_mono fun _ => ?_ | refine listW_mono ?_ | refine isL_mono ?_ | refine walkL_mono fun _ => ?_ | refine enumW_mono fun _ => ?_ | refine zipW_mono fun _ => ?_
    | refine asgW_mono fun _ => ?_ | refine putL_mono (fun _ _ _ q => ?_) hk.nx | refine augW_mono fun _ => ?_ | refine lcW_mono (fun _ _ _ _ q => ?_) fun _ _ => ?_ | refine forW_mono (fun _ _ _ _ q => ?_) fun _ => ?_ | exact q _ _ | exact q _
    | split)
theorem wm_nott {a : N} (ih_a : WM F C a) : WM F C (.nott a) := by
  intro env k k' hk h
  have h : wp F C a env (kE k.x fun r env1 => boolW r.d fun b => k.e (.dat (.bool (!b))) env1) := h
  show wp F C a env (kE k'.x fun r env1 => boolW r.d fun b => k'.e (.dat (.bool (!b))) env1)
  revert h
  repeat' (first
    | exact fun z => z
    | exact hk.e _ _ | exact hk.t _ _ | exact hk.a _ _ | exact hk.i _ _ | exact hk.nx _ | exact hk.bk _ | exact hk.ct _ | exact hk.rt _ _ | exact hk.x _ _
    | exact hF _ _ _ _ _ _ (fun _ _ => hk.e _ _) (fun _ => hk.x _ _)
    | exact ih_a _ _ _ hk | refine ih_a _ _ _ (kE_le hk.x fun _ _ => ?_) | refine ih_a _ _ _ (kE_le (fun _ _ z => z) fun _ _ => ?_) | refine ih_a _ _ _ (kT_le hk.x fun _ _ => ?_) | refine ih_a _ _ _ (kT_le (fun _ _ z => z) fun _ _ => ?_) | refine ih_a _ _ _ (kA_le hk.x fun _ _ => ?_) | refine ih_a _ _ _ (kI_le hk.x fun _ _ => ?_) | refine ih_a _ _ _ (on_le hk fun _ => ?_) | refine ih_a _ _ _ (lp_le hk (fun _ => ?_) hk.nx) | refine ih_a _ _ _ (ox_le hk fun _ _ => ?_) | exact ih_a _ _ _ (su_le hk)
    | refine ih_a _ _ _ (lp_le hk (fun _ z => z) hk.nx)
    | refine and_r ?_ | refine bothW_mono ?_ ?_ | refine ex_mono fun _ => ?_
    | refine take_mono hk.e | refine peek_mono fun _ => ?_ | refine binW_mono fun _ => ?_ | refine cmpW_mono fun _ => ?_ | refine b1W_mono fun _ => ?_ | refine b2W_mono fun _ => ?_ | refine ixW_mono fun _ => ?_ | refine slW_mono fun _ => ?_ | refine revW_mono fun _ => ?_ | refine partW_mono fun _ => ?_
    | refine intW_mono fun _ => ?_ | refine boolW_mono fun _ => ?_ | refine truthW_mono fun _ => ?_ | refine itemW_mono fun _ => ?_ | refine lstW_mono fun _ => ?_ | refine strW_mono fun _ => ?_ | refine m1W_mono fun _ => ?_ | refine libW_mono fun _ => ?_ | refine lixW_mono fun _ => ?_ | refine listW_mono ?_ | refine isL_mono ?_ | refine walkL_mono fun _ => ?_ | refine enumW_mono fun _ => ?_ | refine zipW_mono fun _ => ?_
    | refine asgW_mono fun _ => ?_ | refine putL_mono (fun _ _ _ q => ?_) hk.nx | refine augW_mono fun _ => ?_ | refine lcW_mono (fun _ _ _ _ q => ?_) fun _ _ => ?_ | refine forW_mono (fun _ _ _ _ q => ?_) fun _ => ?_ | exact q _ _ | exact q _
    | split)
theorem wm_andd {a : N} {b : N} (ih_a : WM F C a) (ih_b : WM F C b) : WM F C (.andd a b) := by
  intro env k k' hk h
  have h : wp F C a env (kE k.x fun r env1 => boolW r.d fun t => bothW t (wp F C b env1 k) (k.e (.dat (.bool false)) env1)) := h
  show wp F C a env (kE k'.x fun r env1 => boolW r.d fun t => bothW t (wp F C b env1 k') (k'.e (.dat (.bool false)) env1))
  revert h
  repeat' (first
    | exact fun z => z
    | exact hk.e _ _ | exact hk.t _ _ | exact hk.a _ _ | exact hk.i _ _ | exact hk.nx _ | exact hk.bk _ | exact hk.ct _ | exact hk.rt _ _ | exact hk.x _ _
    | exact hF _ _ _ _ _ _ (fun _ _ => hk.e _ _) (fun _ => hk.x _ _)
    | exact ih_a _ _ _ hk | refine ih_a _ _ _ (kE_le hk.x fun _ _ => ?_) | refine ih_a _ _ _ (kE_le (fun _ _ z => z) fun _ _ => ?_) | refine ih_a _ _ _ (kT_le hk.x fun _ _ => ?_) | refine ih_a _ _ _ (kT_le (fun _ _ z => z) fun _ _ => ?_) | refine ih_a _ _ _ (kA_le hk.x fun _ _ => ?_) | refine ih_a _ _ _ (kI_le hk.x fun _ _ => ?_) | refine ih_a _ _ _ (on_le hk fun _ => ?_) | refine ih_a _ _ _ (lp_le hk (fun _ => ?_) hk.nx) | refine ih_a _ _ _ (ox_le hk fun _ _ => ?_) | exact ih_a _ _ _ (su_le hk) | exact ih_b _ _ _ hk | refine ih_b _ _ _ (kE_le hk.x fun _ _ => ?_) | refine ih_b _ _ _ (kE_le (fun _ _ z => z) fun _ _ => ?_) | refine ih_b _ _ _ (kT_le hk.x fun _ _ => ?_) | refine ih_b _ _ _ (kT_le (fun _ _ z => z) fun _ _ => ?_) | refine ih_b _ _ _ (kA_le hk.x fun _ _ => ?_) | refine ih_b _ _ _ (kI_le hk.x fun _ _ => ?_) | refine ih_b _ _ _ (on_le hk fun _ => ?_) | refine ih_b _ _ _ (lp_le hk (fun _ => ?_) hk.nx) | refine ih_b _ _ _ (ox_le hk fun _ _ => ?_) | exact ih_b _ _ _ (su_le hk)
    | refine ih_a _ _ _ (lp_le hk (fun _ z => z) hk.nx) | refine ih_b _ _ _ (lp_le hk (fun _ z => z) hk.nx)
    | refine and_r ?_ | refine bothW_mono ?_ ?_ | refine ex_mono fun _ => ?_
    | refine take_mono hk.e | refine peek_mono fun _ => ?_ | refine binW_mono fun _ => ?_ | refine cmpW_mono fun _ => ?_ | refine b1W_mono fun _ => ?_ | refine b2W_mono fun _ => ?_ | refine ixW_mono fun _ => ?_ | refine slW_mono fun _ => ?_ | refine revW_mono fun _ => ?_ | refine partW_mono fun _ => ?_
    | refine intW_mono fun _ => ?_ | refine boolW_mono fun _ => ?_ | refine truthW_mono fun _ => ?_ | refine itemW_mono fun _ => ?_ | refine lstW_mono fun _ => ?_ | refine strW_mono fun _ => ?_ | refine m1W_mono fun _ => ?_ | refine libW_mono fun _ => ?_ | refine lixW_mono fun _ => ?_ | refine listW_mono ?_ | refine isL_mono ?_ | refine walkL_mono fun _ => ?_ | refine enumW_mono fun _ => ?_ | refine zipW_mono fun _ => ?_
    | refine asgW_mono fun _ => ?_ | refine putL_mono (fun _ _ _ q => ?_) hk.nx | refine augW_mono fun _ => ?_ | refine lcW_mono (fun _ _ _ _ q => ?_) fun _ _ => ?_ | refine forW_mono (fun _ _ _ _ q => ?_) fun _ => ?_ | exact q _ _ | exact q _
    | split)
theorem wm_orr {a : N} {b : N} (ih_a : WM F C a) (ih_b : WM F C b) : WM F C (.orr a b) := by
  intro env k k' hk h
  have h : wp F C a env (kE k.x fun r env1 => boolW r.d fun t => bothW t (k.e (.dat (.bool true)) env1) (wp F C b env1 k)) := h
  show wp F C a env (kE k'.x fun r env1 => boolW r.d fun t => bothW t (k'.e (.dat (.bool true)) env1) (wp F C b env1 k'))
  revert h
  repeat' (first
    | exact fun z => z
    | exact hk.e _ _ | exact hk.t _ _ | exact hk.a _ _ | exact hk.i _ _ | exact hk.nx _ | exact hk.bk _ | exact hk.ct _ | exact hk.rt _ _ | exact hk.x _ _
    | exact hF _ _ _ _ _ _ (fun _ _ => hk.e _ _) (fun _ => hk.x _ _)
    | exact ih_a _ _ _ hk | refine ih_a _ _ _ (kE_le hk.x fun _ _ => ?_) | refine ih_a _ _ _ (kE_le (fun _ _ z => z) fun _ _ => ?_) | refine ih_a _ _ _ (kT_le hk.x fun _ _ => ?_) | refine ih_a _ _ _ (kT_le (fun _ _ z => z) fun _ _ => ?_) | refine ih_a _ _ _ (kA_le hk.x fun _ _ => ?_) | refine ih_a _ _ _ (kI_le hk.x fun _ _ => ?_) | refine ih_a _ _ _ (on_le hk fun _ => ?_) | refine ih_a _ _ _ (lp_le hk (fun _ => ?_) hk.nx) | refine ih_a _ _ _ (ox_le hk fun _ _ => ?_) | exact ih_a _ _ _ (su_le hk) | exact ih_b _ _ _ hk | refine ih_b _ _ _ (kE_le hk.x fun _ _ => ?_) | refine ih_b _ _ _ (kE_le (fun _ _ z => z) fun _ _ => ?_) | refine ih_b _ _ _ (kT_le hk.x fun _ _ => ?_) | refine ih_b _ _ _ (kT_le (fun _ _ z => z) fun _ _ => ?_) | refine ih_b _ _ _ (kA_le hk.x fun _ _ => ?_) | refine ih_b _ _ _ (kI_le hk.x fun _ _ => ?_) | refine ih_b _ _ _ (on_le hk fun _ => ?_) | refine ih_b _ _ _ (lp_le hk (fun _ => ?_) hk.nx) | refine ih_b _ _ _ (ox_le hk fun _ _ => ?_) | exact ih_b _ _ _ (su_le hk)
    | refine ih_a _ _ _ (lp_le hk (fun _ z => z) hk.nx) | refine ih_b _ _ _ (lp_le hk (fun _ z => z) hk.nx)
    | refine and_r ?_ | refine bothW_mono ?_ ?_ | refine ex_mono fun _ => ?_
    | refine take_mono hk.e | refine peek_mono fun _ => ?_ | refine binW_mono fun _ => ?_ | refine cmpW_mono fun _ => ?_ | refine b1W_mono fun _ => ?_ | refine b2W_mono fun _ => ?_ | refine ixW_mono fun _ => ?_ | refine slW_mono fun _ => ?_ | refine revW_mono fun _ => ?_ | refine partW_mono fun _ => ?_
    | refine intW_mono fun _ => ?_ | refine boolW_mono fun _ => ?_ | refine truthW_mono fun _ => ?_ | refine itemW_mono fun _ => ?_ | refine lstW_mono fun _ => ?_ | refine strW_mono fun _ => ?_ | refine m1W_mono fun _ => ?_ | refine libW_mono fun _ => ?_ | refine lixW_mono fun _ => ?_ | refine listW_mono ?_ | refine isL_mono ?_ | refine walkL_mono fun _ => ?_ | refine enumW_mono fun _ => ?_ | refine zipW_mono fun _ => ?_
    | refine asgW_mono fun _ => ?_ | refine putL_mono (fun _ _ _ q => ?_) hk.nx | refine augW_mono fun _ => ?_ | refine lcW_mono (fun _ _ _ _ q => ?_) fun _ _ => ?_ | refine forW_mono (fun _ _ _ _ q => ?_) fun _ => ?_ | exact q _ _ | exact q _
    | split)
theorem wm_one {a : N} (ih_a : WM F C a) : WM F C (.one a) := by
  intro env k k' hk h
  have h : wp F C a env k := h
  show wp F C a env k'
  revert h
  repeat' (first
    | exact fun z => z
    | exact hk.e _ _ | exact hk.t _ _ | exact hk.a _ _ | exact hk.i _ _ | exact hk.nx _ | exact hk.bk _ | exact hk.ct _ | exact hk.rt _ _ | exact hk.x _ _
    | exact hF _ _ _ _ _ _ (fun _ _ => hk.e _ _) (fun _ => hk.x _ _)
    | exact ih_a _ _ _ hk | refine ih_a _ _ _ (kE_le hk.x fun _ _ => ?_) | refine ih_a _ _ _ (kE_le (fun _ _ z => z) fun _ _ => ?_) | refine ih_a _ _ _ (kT_le hk.x fun _ _ => ?_) | refine ih_a _ _ _ (kT_le (fun _ _ z => z) fun _ _ => ?_) | refine ih_a _ _ _ (kA_le hk.x fun _ _ => ?_) | refine ih_a _ _ _ (kI_le hk.x fun _ _ => ?_) | refine ih_a _ _ _ (on_le hk fun _ => ?_) | refine ih_a _ _ _ (lp_le hk (fun _ => ?_) hk.nx) | refine ih_a _ _ _ (ox_le hk fun _ _ => ?_) | exact ih_a _ _ _ (su_le hk)
    | refine ih_a _ _ _ (lp_le hk (fun _ z => z) hk.nx)
    | refine and_r ?_ | refine bothW_mono ?_ ?_ | refine ex_mono fun _ => ?_
    | refine take_mono hk.e | refine peek_mono fun _ => ?_ | refine binW_mono fun _ => ?_ | refine cmpW_mono fun _ => ?_ | refine b1W_mono fun _ => ?_ | refine b2W_mono fun _ => ?_ | refine ixW_mono fun _ => ?_ | refine slW_mono fun _ => ?_ | refine revW_mono fun _ => ?_ | refine partW_mono fun _ => ?_
    | refine intW_mono fun _ => ?_ | refine boolW_mono fun _ => ?_ | refine truthW_mono fun _ => ?_ | refine itemW_mono fun _ => ?_ | refine lstW_mono fun _ => ?_ | refine strW_mono fun _ => ?_ | refine m1W_mono fun _ => ?_ | refine libW_mono fun _ => ?_ | refine lixW_mono fun _ => ?_ | refine listW_mono ?_ | refine isL_mono ?_ | refine walkL_mono fun _ => ?_ | refine enumW_mono fun _ => ?_ | refine zipW_mono fun _ => ?_
    | refine asgW_mono fun _ => ?_ | refine putL_mono (fun _ _ _ q => ?_) hk.nx | refine augW_mono fun _ => ?_ | refine lcW_mono (fun _ _ _ _ q => ?_) fun _ _ => ?_ | refine forW_mono (fun _ _ _ _ q => ?_) fun _ => ?_ | exact q _ _ | exact q _
    | split)
theorem wm_ite {t : N} {a : N} {b : N} (ih_t : WM F C t) (ih_a : WM F C a) (ih_b : WM F C b) : WM F C (.ite t a b) := by
  intro env k k' hk h
  have h : wp F C t env (kT k.x fun c env1 => bothW c (wp F C a env1 k) (wp F C b env1 k)) := h
  show wp F C t env (kT k'.x fun c env1 => bothW c (wp F C a env1 k') (wp F C b env1 k'))
  revert h
  repeat' (first
    | exact fun z => z
    | exact hk.e _ _ | exact hk.t _ _ | exact hk.a _ _ | exact hk.i _ _ | exact hk.nx _ | exact hk.bk _ | exact hk.ct _ | exact hk.rt _ _ | exact hk.x _ _
    | exact hF _ _ _ _ _ _ (fun _ _ => hk.e _ _) (fun _ => hk.x _ _)
    | exact ih_t _ _ _ hk | refine ih_t _ _ _ (kE_le hk.x fun _ _ => ?_) | refine ih_t _ _ _ (kE_le (fun _ _ z => z) fun _ _ => ?_) | refine ih_t _ _ _ (kT_le hk.x fun _ _ => ?_) | refine ih_t _ _ _ (kT_le (fun _ _ z => z) fun _ _ => ?_) | refine ih_t _ _ _ (kA_le hk.x fun _ _ => ?_) | refine ih_t _ _ _ (kI_le hk.x fun _ _ => ?_) | refine ih_t _ _ _ (on_le hk fun _ => ?_) | refine ih_t _ _ _ (lp_le hk (fun _ => ?_) hk.nx) | refine ih_t _ _ _ (ox_le hk fun _ _ => ?_) | exact ih_t _ _ _ (su_le hk) | exact ih_a _ _ _ hk | refine ih_a _ _ _ (kE_le hk.x fun _ _ => ?_) | refine ih_a _ _ _ (kE_le (fun _ _ z => z) fun _ _ => ?_) | refine ih_a _ _ _ (kT_le hk.x fun _ _ => ?_) | refine ih_a _ _ _ (kT_le (fun _ _ z => z) fun _ _ => ?_) | refine ih_a _ _ _ (kA_le hk.x fun _ _ => ?_) | refine ih_a _ _ _ (kI_le hk.x fun _ _ => ?_) | refine ih_a _ _ _ (on_le hk fun _ => ?_) | refine ih_a _ _ _ (lp_le hk (fun _ => ?_) hk.nx) | refine ih_a _ _ _ (ox_le hk fun _ _ => ?_) | exact ih_a _ _ _ (su_le hk) | exact ih_b _ _ _ hk | refine ih_b _ _ _ (kE_le hk.x fun _ _ => ?_) | refine ih_b _ _ _ (kE_le (fun _ _ z => z) fun _ _ => ?_) | refine ih_b _ _ _ (kT_le hk.x fun _ _ => ?_) | refine ih_b _ _ _ (kT_le (fun _ _ z => z) fun _ _ => ?_) | refine ih_b _ _ _ (kA_le hk.x fun _ _ => ?_) | refine ih_b _ _ _ (kI_le hk.x fun _ _ => ?_) | refine ih_b _ _ _ (on_le hk fun _ => ?_) | refine ih_b _ _ _ (lp_le hk (fun _ => ?_) hk.nx) | refine ih_b _ _ _ (ox_le hk fun _ _ => ?_) | exact ih_b _ _ _ (su_le hk)
    | refine ih_t _ _ _ (lp_le hk (fun _ z => z) hk.nx) | refine ih_a _ _ _ (lp_le hk (fun _ z => z) hk.nx) | refine ih_b _ _ _ (lp_le hk (fun _ z => z) hk.nx)
    | refine and_r ?_ | refine bothW_mono ?_ ?_ | refine ex_mono fun _ => ?_
    | refine take_mono hk.e | refine peek_mono fun _ => ?_ | refine binW_mono fun _ => ?_ | refine cmpW_mono fun _ => ?_ | refine b1W_mono fun _ => ?_ | refine b2W_mono fun _ => ?_ | refine ixW_mono fun _ => ?_ | refine slW_mono fun _ => ?_ | refine revW_mono fun _ => ?_ | refine partW_mono fun _ => ?_
    | refine intW_mono fun _ => ?_ | refine boolW_mono fun _ => ?_ | refine truthW_mono fun _ => ?_ | refine itemW_mono fun _ => ?_ | refine lstW_mono fun _ => ?_ | refine strW_mono fun _ => ?_ | refine m1W_mono fun _ => ?_ | refine libW_mono fun _ => ?_ | refine lixW_mono fun _ => ?_ | refine listW_mono ?_ | refine isL_mono ?_ | refine walkL_mono fun _ => ?_ | refine enumW_mono fun _ => ?_ | refine zipW_mono fun _ => ?_
    | refine asgW_mono fun _ => ?_ | refine putL_mono (fun _ _ _ q => ?_) hk.nx | refine augW_mono fun _ => ?_ | refine lcW_mono (fun _ _ _ _ q => ?_) fun _ _ => ?_ | refine forW_mono (fun _ _ _ _ q => ?_) fun _ => ?_ | exact q _ _ | exact q _
    | split)
theorem wm_call {f : Nat} {as : N} (ih_as : WM F C as) : WM F C (.call f as) := by
  intro env k k' hk h
  have h : wp F C as env (kA k.x fun l env1 => match agOf env1 l with
    | some ags => match nodupB (mutsOf l) with
      | true => F f ags (fun r ms => k.e r (putMs env1 (mutsOf l) ms)) fun e => k.x e (wipeE env1 (mutsOf l))
      | false => False
    | none => False) := h
  show wp F C as env (kA k'.x fun l env1 => match agOf env1 l with
    | some ags => match nodupB (mutsOf l) with
      | true => F f ags (fun r ms => k'.e r (putMs env1 (mutsOf l) ms)) fun e => k'.x e (wipeE env1 (mutsOf l))
      | false => False
    | none => False)
  revert h
  repeat' (first
    | exact fun z => z
    | exact hk.e _ _ | exact hk.t _ _ | exact hk.a _ _ | exact hk.i _ _ | exact hk.nx _ | exact hk.bk _ | exact hk.ct _ | exact hk.rt _ _ | exact hk.x _ _
    | exact hF _ _ _ _ _ _ (fun _ _ => hk.e _ _) (fun _ => hk.x _ _)
    | exact ih_as _ _ _ hk | refine ih_as _ _ _ (kE_le hk.x fun _ _ => ?_) | refine ih_as _ _ _ (kE_le (fun _ _ z => z) fun _ _ => ?_) | refine ih_as _ _ _ (kT_le hk.x fun _ _ => ?_) | refine ih_as _ _ _ (kT_le (fun _ _ z => z) fun _ _ => ?_) | refine ih_as _ _ _ (kA_le hk.x fun _ _ => ?_) | refine ih_as _ _ _ (kI_le hk.x fun _ _ => ?_) | refine ih_as _ _ _ (on_le hk fun _ => ?_) | refine ih_as _ _ _ (lp_le hk (fun _ => ?_) hk.nx) | refine ih_as _ _ _ (ox_le hk fun _ _ => ?_) | exact ih_as _ _ _ (su_le hk)
    | refine ih_as _ _ _ (lp_le hk (fun _ z => z) hk.nx)
    | refine and_r ?_ | refine bothW_mono ?_ ?_ | refine ex_mono fun _ => ?_
    | refine take_mono hk.e | refine peek_mono fun _ => ?_ | refine binW_mono fun _ => ?_ | refine cmpW_mono fun _ => ?_ | refine b1W_mono fun _ => ?_ | refine b2W_mono fun _ => ?_ | refine ixW_mono fun _ => ?_ | refine slW_mono fun _ => ?_ | refine revW_mono fun _ => ?_ | refine partW_mono fun _ => ?_
    | refine intW_mono fun _ => ?_ | refine boolW_mono fun _ => ?_ | refine truthW_mono fun _ => ?_ | refine itemW_mono fun _ => ?_ | refine lstW_mono fun _ => ?_ | refine strW_mono fun _ => ?_ | refine m1W_mono fun _ => ?_ | refine libW_mono fun _ => ?_ | refine lixW_mono fun _ => ?_ | refine listW_mono ?_ | refine isL_mono ?_ | refine walkL_mono fun _ => ?_ | refine enumW_mono fun _ => ?_ | refine zipW_mono fun _ => ?_
    | refine asgW_mono fun _ => ?_ | refine putL_mono (fun _ _ _ q => ?_) hk.nx | refine augW_mono fun _ => ?_ | refine lcW_mono (fun _ _ _ _ q => ?_) fun _ _ => ?_ | refine forW_mono (fun _ _ _ _ q => ?_) fun _ => ?_ | exact q _ _ | exact q _
    | split)
theorem wm_b1 {f : B1} {a : N} (ih_a : WM F C a) : WM F C (.b1 f a) := by
  intro env k k' hk h
  have h : match a.isV with
    | some i => peek env i fun d => b1W f d fun r => k.e r env
    | none => wp F C a env (kE k.x fun r env1 => b1W f r.d fun r' => k.e r' env1) := h
  show match a.isV with
    | some i => peek env i fun d => b1W f d fun r => k'.e r env
    | none => wp F C a env (kE k'.x fun r env1 => b1W f r.d fun r' => k'.e r' env1)
  generalize a.isV = o_a at h ⊢
  revert h
  cases o_a <;> repeat' (first
    | exact fun z => z
    | exact hk.e _ _ | exact hk.t _ _ | exact hk.a _ _ | exact hk.i _ _ | exact hk.nx _ | exact hk.bk _ | exact hk.ct _ | exact hk.rt _ _ | exact hk.x _ _
    | exact hF _ _ _ _ _ _ (fun _ _ => hk.e _ _) (fun _ => hk.x _ _)
    | exact ih_a _ _ _ hk | refine ih_a _ _ _ (kE_le hk.x fun _ _ => ?_) | refine ih_a _ _ _ (kE_le (fun _ _ z => z) fun _ _ => ?_) | refine ih_a _ _ _ (kT_le hk.x fun _ _ => ?_) | refine ih_a _ _ _ (kT_le (fun _ _ z => z) fun _ _ => ?_) | refine ih_a _ _ _ (kA_le hk.x fun _ _ => ?_) | refine ih_a _ _ _ (kI_le hk.x fun _ _ => ?_) | refine ih_a _ _ _ (on_le hk fun _ => ?_) | refine ih_a _ _ _ (lp_le hk (fun _ => ?_) hk.nx) | refine ih_a _ _ _ (ox_le hk fun _ _ => ?_) | exact ih_a _ _ _ (su_le hk)
    | refine ih_a _ _ _ (lp_le hk (fun _ z => z) hk.nx)
    | refine and_r ?_ | refine bothW_mono ?_ ?_ | refine ex_mono fun _ => ?_
    | refine take_mono hk.e | refine peek_mono fun _ => ?_ | refine binW_mono fun _ => ?_ | refine cmpW_mono fun _ => ?_ | refine b1W_mono fun _ => ?_ | refine b2W_mono fun _ => ?_ | refine ixW_mono fun _ => ?_ | refine slW_mono fun _ => ?_ | refine revW_mono fun _ => ?_ | refine partW_mono fun _ => ?_
    | refine intW_mono fun _ => ?_ | refine boolW_mono fun _ => ?_ | refine truthW_mono fun _ => ?_ | refine itemW_mono fun _ => ?_ | refine lstW_mono fun _ => ?_ | refine strW_mono fun _ => ?_ | refine m1W_mono fun _ => ?_ | refine libW_mono fun _ => ?_ | refine lixW_mono fun _ => ?_ | refine listW_mono ?_ | refine isL_mono ?_ | refine walkL_mono fun _ => ?_ | refine enumW_mono fun _ => ?_ | refine zipW_mono fun _ => ?_
    | refine asgW_mono fun _ => ?_ | refine putL_mono (fun _ _ _ q => ?_) hk.nx | refine augW_mono fun _ => ?_ | refine lcW_mono (fun _ _ _ _ q => ?_) fun _ _ => ?_ | refine forW_mono (fun _ _ _ _ q => ?_) fun _ => ?_ | exact q _ _ | exact q _
    | split)
theorem wm_b2 {f : B2} {a : N} {b : N} (ih_a : WM F C a) (ih_b : WM F C b) : WM F C (.b2 f a b) := by
  intro env k k' hk h
  have h : wp F C a env (kE k.x fun ra env1 => wp F C b env1 (kE k.x fun rb env2 => b2W f ra.d rb.d fun r => k.e r env2)) := h
  show wp F C a env (kE k'.x fun ra env1 => wp F C b env1 (kE k'.x fun rb env2 => b2W f ra.d rb.d fun r => k'.e r env2))
  revert h
  repeat' (first
    | exact fun z => z
    | exact hk.e _ _ | exact hk.t _ _ | exact hk.a _ _ | exact hk.i _ _ | exact hk.nx _ | exact hk.bk _ | exact hk.ct _ | exact hk.rt _ _ | exact hk.x _ _
    | exact hF _ _ _ _ _ _ (fun _ _ => hk.e _ _) (fun _ => hk.x _ _)
    | exact ih_a _ _ _ hk | refine ih_a _ _ _ (kE_le hk.x fun _ _ => ?_) | refine ih_a _ _ _ (kE_le (fun _ _ z => z) fun _ _ => ?_) | refine ih_a _ _ _ (kT_le hk.x fun _ _ => ?_) | refine ih_a _ _ _ (kT_le (fun _ _ z => z) fun _ _ => ?_) | refine ih_a _ _ _ (kA_le hk.x fun _ _ => ?_) | refine ih_a _ _ _ (kI_le hk.x fun _ _ => ?_) | refine ih_a _ _ _ (on_le hk fun _ => ?_) | refine ih_a _ _ _ (lp_le hk (fun _ => ?_) hk.nx) | refine ih_a _ _ _ (ox_le hk fun _ _ => ?_) | exact ih_a _ _ _ (su_le hk) | exact ih_b _ _ _ hk | refine ih_b _ _ _ (kE_le hk.x fun _ _ => ?_) | refine ih_b _ _ _ (kE_le (fun _ _ z => z) fun _ _ => ?_) | refine ih_b _ _ _ (kT_le hk.x fun _ _ => ?_) | refine ih_b _ _ _ (kT_le (fun _ _ z => z) fun _ _ => ?_) | refine ih_b _ _ _ (kA_le hk.x fun _ _ => ?_) | refine ih_b _ _ _ (kI_le hk.x fun _ _ => ?_) | refine ih_b _ _ _ (on_le hk fun _ => ?_) | refine ih_b _ _ _ (lp_le hk (fun _ => ?_) hk.nx) | refine ih_b _ _ _ (ox_le hk fun _ _ => ?_) | exact ih_b _ _ _ (su_le hk)
    | refine ih_a _ _ _ (lp_le hk (fun _ z => z) hk.nx) | refine ih_b _ _ _ (lp_le hk (fun _ z => z) hk.nx)
    | refine and_r ?_ | refine bothW_mono ?_ ?_ | refine ex_mono fun _ => ?_
    | refine take_mono hk.e | refine peek_mono fun _ => ?_ | refine binW_mono fun _ => ?_ | refine cmpW_mono fun _ => ?_ | refine b1W_mono fun _ => ?_ | refine b2W_mono fun _ => ?_ | refine ixW_mono fun _ => ?_ | refine slW_mono fun _ => ?_ | refine revW_mono fun _ => ?_ | refine partW_mono fun _ => ?_
    | refine intW_mono fun _ => ?_ | refine boolW_mono fun _ => ?_ | refine truthW_mono fun _ => ?_ | refine itemW_mono fun _ => ?_ | refine lstW_mono fun _ => ?_ | refine strW_mono fun _ => ?_ | refine m1W_mono fun _ => ?_ | refine libW_mono fun _ => ?_ | refine lixW_mono fun _ => ?_ | refine listW_mono ?_ | refine isL_mono ?_ | refine walkL_mono fun _ => ?_ | refine enumW_mono fun _ => ?_ | refine zipW_mono fun _ => ?_
    | refine asgW_mono fun _ => ?_ | refine putL_mono (fun _ _ _ q => ?_) hk.nx | refine augW_mono fun _ => ?_ | refine lcW_mono (fun _ _ _ _ q => ?_) fun _ _ => ?_ | refine forW_mono (fun _ _ _ _ q => ?_) fun _ => ?_ | exact q _ _ | exact q _
    | split)
theorem wm_isi {a : N} {ts : List TY} (ih_a : WM F C a) : WM F C (.isi a ts) := by
  intro env k k' hk h
  have h : match a.isV with
    | some i => peek env i fun d => k.e (.dat (.bool (ts.any (isTy d)))) env
    | none => wp F C a env (kE k.x fun r env1 => k.e (.dat (.bool (ts.any (isTy r.d)))) env1) := h
  show match a.isV with
    | some i => peek env i fun d => k'.e (.dat (.bool (ts.any (isTy d)))) env
    | none => wp F C a env (kE k'.x fun r env1 => k'.e (.dat (.bool (ts.any (isTy r.d)))) env1)
  generalize a.isV = o_a at h ⊢
  revert h
  cases o_a <;> repeat' (first
    | exact fun z => z
    | exact hk.e _ _ | exact hk.t _ _ | exact hk.a _ _ | exact hk.i _ _ | exact hk.nx _ | exact hk.bk _ | exact hk.ct _ | exact hk.rt _ _ | exact hk.x _ _
    | exact hF _ _ _ _ _ _ (fun _ _ => hk.e _ _) (fun _ => hk.x _ _)
    | exact ih_a _ _ _ hk | refine ih_a _ _ _ (kE_le hk.x fun _ _ => ?_) | refine ih_a _ _ _ (kE_le (fun _ _ z => z) fun _ _ => ?_) | refine ih_a _ _ _ (kT_le hk.x fun _ _ => ?_) | refine ih_a _ _ _ (kT_le (fun _ _ z => z) fun _ _ => ?_) | refine ih_a _ _ _ (kA_le hk.x fun _ _ => ?_) | refine ih_a _ _ _ (kI_le hk.x fun _ _ => ?_) | refine ih_a _ _ _ (on_le hk fun _ => ?_) | refine ih_a _ _ _ (lp_le hk (fun _ => ?_) hk.nx) | refine ih_a _ _ _ (ox_le hk fun _ _ => ?_) | exact ih_a _ _ _ (su_le hk)
    | refine ih_a _ _ _ (lp_le hk (fun _ z => z) hk.nx)
    | refine and_r ?_ | refine bothW_mono ?_ ?_ | refine ex_mono fun _ => ?_
    | refine take_mono hk.e | refine peek_mono fun _ => ?_ | refine binW_mono fun _ => ?_ | refine cmpW_mono fun _ => ?_ | refine b1W_mono fun _ => ?_ | refine b2W_mono fun _ => ?_ | refine ixW_mono fun _ => ?_ | refine slW_mono fun _ => ?_ | refine revW_mono fun _ => ?_ | refine partW_mono fun _ => ?_
    | refine intW_mono fun _ => ?_ | refine boolW_mono fun _ => ?_ | refine truthW_mono fun _ => ?_ | refine itemW_mono fun _ => ?_ | refine lstW_mono fun _ => ?_ | refine strW_mono fun _ => ?_ | refine m1W_mono fun _ => ?_ | refine libW_mono fun _ => ?_ | refine lixW_mono fun _ => ?_ | refine listW_mono ?_ | refine isL_mono ?_ | refine walkL_mono fun _ => ?_ | refine enumW_mono fun _ => ?_ | refine zipW_mono fun _ => ?_
    | refine asgW_mono fun _ => ?_ | refine putL_mono (fun _ _ _ q => ?_) hk.nx | refine augW_mono fun _ => ?_ | refine lcW_mono (fun _ _ _ _ q => ?_) fun _ _ => ?_ | refine forW_mono (fun _ _ _ _ q => ?_) fun _ => ?_ | exact q _ _ | exact q _
    | split)
theorem wm_ix {a : N} {b : N} (ih_a : WM F C a) (ih_b : WM F C b) : WM F C (.ix a b) := by
  intro env k k' hk h
  have h : match a.isV, b.isV with
    | some i, some j => peek env i fun x => peek env j fun y => ixW x y fun r => k.e r env
    | some i, none => peek env i fun _ => wp F C b env (kE k.x fun rb env1 => peek env1 i fun x => ixW x rb.d fun r => k.e r env1)
    | none, some j => wp F C a env (kE k.x fun ra env1 => peek env1 j fun y => ixW ra.d y fun r => k.e r env1)
    | none, none => wp F C a env (kE k.x fun ra env1 => wp F C b env1 (kE k.x fun rb env2 => ixW ra.d rb.d fun r => k.e r env2)) := h
  show match a.isV, b.isV with
    | some i, some j => peek env i fun x => peek env j fun y => ixW x y fun r => k'.e r env
    | some i, none => peek env i fun _ => wp F C b env (kE k'.x fun rb env1 => peek env1 i fun x => ixW x rb.d fun r => k'.e r env1)
    | none, some j => wp F C a env (kE k'.x fun ra env1 => peek env1 j fun y => ixW ra.d y fun r => k'.e r env1)
    | none, none => wp F C a env (kE k'.x fun ra env1 => wp F C b env1 (kE k'.x fun rb env2 => ixW ra.d rb.d fun r => k'.e r env2))
  generalize a.isV = o_a at h ⊢
  revert h
  cases o_a <;> repeat' (first
    | exact fun z => z
    | exact hk.e _ _ | exact hk.t _ _ | exact hk.a _ _ | exact hk.i _ _ | exact hk.nx _ | exact hk.bk _ | exact hk.ct _ | exact hk.rt _ _ | exact hk.x _ _
    | exact hF _ _ _ _ _ _ (fun _ _ => hk.e _ _) (fun _ => hk.x _ _)
    | exact ih_a _ _ _ hk | refine ih_a _ _ _ (kE_le hk.x fun _ _ => ?_) | refine ih_a _ _ _ (kE_le (fun _ _ z => z) fun _ _ => ?_) | refine ih_a _ _ _ (kT_le hk.x fun _ _ => ?_) | refine ih_a _ _ _ (kT_le (fun _ _ z => z) fun _ _ => ?_) | refine ih_a _ _ _ (kA_le hk.x fun _ _ => ?_) | refine ih_a _ _ _ (kI_le hk.x fun _ _ => ?_) | refine ih_a _ _ _ (on_le hk fun _ => ?_) | refine ih_a _ _ _ (lp_le hk (fun _ => ?_) hk.nx) | refine ih_a _ _ _ (ox_le hk fun _ _ => ?_) | exact ih_a _ _ _ (su_le hk) | exact ih_b _ _ _ hk | refine ih_b _ _ _ (kE_le hk.x fun _ _ => ?_) | refine ih_b _ _ _ (kE_le (fun _ _ z => z) fun _ _ => ?_) | refine ih_b _ _ _ (kT_le hk.x fun _ _ => ?_) | refine ih_b _ _ _ (kT_le (fun _ _ z => z) fun _ _ => ?_) | refine ih_b _ _ _ (kA_le hk.x fun _ _ => ?_) | refine ih_b _ _ _ (kI_le hk.x fun _ _ => ?_) | refine ih_b _ _ _ (on_le hk fun _ => ?_) | refine ih_b _ _ _ (lp_le hk (fun _ => ?_) hk.nx) | refine ih_b _ _ _ (ox_le hk fun _ _ => ?_) | exact ih_b _ _ _ (su_le hk)
    | refine ih_a _ _ _ (lp_le hk (fun _ z => z) hk.nx) | refine ih_b _ _ _ (lp_le hk (fun _ z => z) hk.nx)
    | refine and_r ?_ | refine bothW_mono ?_ ?_ | refine ex_mono fun _ => ?_
    | refine take_mono hk.e | refine peek_mono fun _ => ?_ | refine binW_mono fun _ => ?_ | refine cmpW_mono fun _ => ?_ | refine b1W_mono fun _ => ?_ | refine b2W_mono fun _ => ?_ | refine ixW_mono fun _ => ?_ | refine slW_mono fun _ => ?_ | refine revW_mono fun _ => ?_ | refine partW_mono fun _ => ?_
    | refine intW_mono fun _ => ?_ | refine boolW_mono fun _ => ?_ | refine truthW_mono fun _ => ?_ | refine itemW_mono fun _ => ?_ | refine lstW_mono fun _ => ?_ | refine strW_mono fun _ => ?_ | refine m1W_mono fun _ => ?_ | refine libW_mono fun _ => ?_ | refine lixW_mono fun _ => ?_ | refine listW_mono ?_ | refine isL_mono ?_ | refine walkL_mono fun _ => ?_ | refine enumW_mono fun _ => ?_ | refine zipW_mono fun _ => ?_
    | refine asgW_mono fun _ => ?_ | refine putL_mono (fun _ _ _ q => ?_) hk.nx | refine augW_mono fun _ => ?_ | refine lcW_mono (fun _ _ _ _ q => ?_) fun _ _ => ?_ | refine forW_mono (fun _ _ _ _ q => ?_) fun _ => ?_ | exact q _ _ | exact q _
    | split)
theorem wm_sl {a : N} {lo : N} {hi : N} (ih_a : WM F C a) (ih_lo : WM F C lo) (ih_hi : WM F C hi) : WM F C (.sl a lo hi) := by
  intro env k k' hk h
  have h : match a.isV with
    | some i => peek env i fun _ => wp F C lo env (kI k.x fun l env1 => wp F C hi env1 (kI k.x fun h env2 => partW l fun lo' => partW h fun hi' => peek env2 i fun d => slW d lo' hi' fun r => k.e r env2))
    | none => wp F C a env (kE k.x fun ra env0 => wp F C lo env0 (kI k.x fun l env1 => wp F C hi env1 (kI k.x fun h env2 => partW l fun lo' => partW h fun hi' => slW ra.d lo' hi' fun r => k.e r env2))) := h
  show match a.isV with
    | some i => peek env i fun _ => wp F C lo env (kI k'.x fun l env1 => wp F C hi env1 (kI k'.x fun h env2 => partW l fun lo' => partW h fun hi' => peek env2 i fun d => slW d lo' hi' fun r => k'.e r env2))
    | none => wp F C a env (kE k'.x fun ra env0 => wp F C lo env0 (kI k'.x fun l env1 => wp F C hi env1 (kI k'.x fun h env2 => partW l fun lo' => partW h fun hi' => slW ra.d lo' hi' fun r => k'.e r env2)))
  generalize a.isV = o_a at h ⊢
  revert h
  cases o_a <;> repeat' (first
    | exact fun z => z
    | exact hk.e _ _ | exact hk.t _ _ | exact hk.a _ _ | exact hk.i _ _ | exact hk.nx _ | exact hk.bk _ | exact hk.ct _ | exact hk.rt _ _ | exact hk.x _ _
    | exact hF _ _ _ _ _ _ (fun _ _ => hk.e _ _) (fun _ => hk.x _ _)
    | exact ih_a _ _ _ hk | refine ih_a _ _ _ (kE_le hk.x fun _ _ => ?_) | refine ih_a _ _ _ (kE_le (fun _ _ z => z) fun _ _ => ?_) | refine ih_a _ _ _ (kT_le hk.x fun _ _ => ?_) | refine ih_a _ _ _ (kT_le (fun _ _ z => z) fun _ _ => ?_) | refine ih_a _ _ _ (kA_le hk.x fun _ _ => ?_) | refine ih_a _ _ _ (kI_le hk.x fun _ _ => ?_) | refine ih_a _ _ _ (on_le hk fun _ => ?_) | refine ih_a _ _ _ (lp_le hk (fun _ => ?_) hk.nx) | refine ih_a _ _ _ (ox_le hk fun _ _ => ?_) | exact ih_a _ _ _ (su_le hk) | exact ih_lo _ _ _ hk | refine ih_lo _ _ _ (kE_le hk.x fun _ _ => ?_) | refine ih_lo _ _ _ (kE_le (fun _ _ z => z) fun _ _ => ?_) | refine ih_lo _ _ _ (kT_le hk.x fun _ _ => ?_) | refine ih_lo _ _ _ (kT_le (fun _ _ z => z) fun _ _ => ?_) | refine ih_lo _ _ _ (kA_le hk.x fun _ _ => ?_) | refine ih_lo _ _ _ (kI_le hk.x fun _ _ => ?_) | refine ih_lo _ _ _ (on_le hk fun _ => ?_) | refine ih_lo _ _ _ (lp_le hk (fun _ => ?_) hk.nx) | refine ih_lo _ _ _ (ox_le hk fun _ _ => ?_) | exact ih_lo _ _ _ (su_le hk) | exact ih_hi _ _ _ hk | refine ih_hi _ _ _ (kE_le hk.x fun _ _ => ?_) | refine ih_hi _ _ _ (kE_le (fun _ _ z => z) fun _ _ => ?_) | refine ih_hi _ _ _ (kT_le hk.x fun _ _ => ?_) | refine ih_hi _ _ _ (kT_le (fun _ _ z => z) fun _ _ => ?_) | refine ih_hi _ _ _ (kA_le hk.x fun _ _ => ?_) | refine ih_hi _ _ _ (kI_le hk.x fun _ _ => ?_) | refine ih_hi _ _ _ (on_le hk fun _ => ?_) | refine ih_hi _ _ _ (lp_le hk (fun _ => ?_) hk.nx) | refine ih_hi _ _ _ (ox_le hk fun _ _ => ?_) | exact ih_hi _ _ _ (su_le hk)
    | refine ih_a _ _ _ (lp_le hk (fun _ z => z) hk.nx) | refine ih_lo _ _ _ (lp_le hk (fun _ z => z) hk.nx) | refine ih_hi _ _ _ (lp_le hk (fun _ z => z) hk.nx)
    | refine and_r ?_ | refine bothW_mono ?_ ?_ | refine ex_mono fun _ => ?_
    | refine take_mono hk.e | refine peek_mono fun _ => ?_ | refine binW_mono fun _ => ?_ | refine cmpW_mono fun _ => ?_ | refine b1W_mono fun _ => ?_ | refine b2W_mono fun _ => ?_ | refine ixW_mono fun _ => ?_ | refine slW_mono fun _ => ?_ | refine revW_mono fun _ => ?_ | refine partW_mono fun _ => ?_
    | refine intW_mono fun _ => ?_ | refine boolW_mono fun _ => ?_ | refine truthW_mono fun _ => ?_ | refine itemW_mono fun _ => ?_ | refine lstW_mono fun _ => ?_ | refine strW_mono fun _ => ?_ | refine m1W_mono fun _ => ?_ | refine libW_mono fun _ => ?_ | refine lixW_mono fun _ => ?_ | refine listW_mono ?_ | refine isL_mono ?_ | refine walkL_mono fun _ => ?_ | refine enumW_mono fun _ => ?_ | refine zipW_mono fun _ => ?_
    | refine asgW_mono fun _ => ?_ | refine putL_mono (fun _ _ _ q => ?_) hk.nx | refine augW_mono fun _ => ?_ | refine lcW_mono (fun _ _ _ _ q => ?_) fun _ _ => ?_ | refine forW_mono (fun _ _ _ _ q => ?_) fun _ => ?_ | exact q _ _ | exact q _
    | split)
theorem wm_rv {a : N} (ih_a : WM F C a) : WM F C (.rv a) := by
  intro env k k' hk h
  have h : wp F C a env (kE k.x fun r env1 => revW r.d fun r' => k.e r' env1) := h
  show wp F C a env (kE k'.x fun r env1 => revW r.d fun r' => k'.e r' env1)
  revert h
  repeat' (first
    | exact fun z => z
    | exact hk.e _ _ | exact hk.t _ _ | exact hk.a _ _ | exact hk.i _ _ | exact hk.nx _ | exact hk.bk _ | exact hk.ct _ | exact hk.rt _ _ | exact hk.x _ _
    | exact hF _ _ _ _ _ _ (fun _ _ => hk.e _ _) (fun _ => hk.x _ _)
    | exact ih_a _ _ _ hk | refine ih_a _ _ _ (kE_le hk.x fun _ _ => ?_) | refine ih_a _ _ _ (kE_le (fun _ _ z => z) fun _ _ => ?_) | refine ih_a _ _ _ (kT_le hk.x fun _ _ => ?_) | refine ih_a _ _ _ (kT_le (fun _ _ z => z) fun _ _ => ?_) | refine ih_a _ _ _ (kA_le hk.x fun _ _ => ?_) | refine ih_a _ _ _ (kI_le hk.x fun _ _ => ?_) | refine ih_a _ _ _ (on_le hk fun _ => ?_) | refine ih_a _ _ _ (lp_le hk (fun _ => ?_) hk.nx) | refine ih_a _ _ _ (ox_le hk fun _ _ => ?_) | exact ih_a _ _ _ (su_le hk)
    | refine ih_a _ _ _ (lp_le hk (fun _ z => z) hk.nx)
    | refine and_r ?_ | refine bothW_mono ?_ ?_ | refine ex_mono fun _ => ?_
    | refine take_mono hk.e | refine peek_mono fun _ => ?_ | refine binW_mono fun _ => ?_ | refine cmpW_mono fun _ => ?_ | refine b1W_mono fun _ => ?_ | refine b2W_mono fun _ => ?_ | refine ixW_mono fun _ => ?_ | refine slW_mono fun _ => ?_ | refine revW_mono fun _ => ?_ | refine partW_mono fun _ => ?_
    | refine intW_mono fun _ => ?_ | refine boolW_mono fun _ => ?_ | refine truthW_mono fun _ => ?_ | refine itemW_mono fun _ => ?_ | refine lstW_mono fun _ => ?_ | refine strW_mono fun _ => ?_ | refine m1W_mono fun _ => ?_ | refine libW_mono fun _ => ?_ | refine lixW_mono fun _ => ?_ | refine listW_mono ?_ | refine isL_mono ?_ | refine walkL_mono fun _ => ?_ | refine enumW_mono fun _ => ?_ | refine zipW_mono fun _ => ?_
    | refine asgW_mono fun _ => ?_ | refine putL_mono (fun _ _ _ q => ?_) hk.nx | refine augW_mono fun _ => ?_ | refine lcW_mono (fun _ _ _ _ q => ?_) fun _ _ => ?_ | refine forW_mono (fun _ _ _ _ q => ?_) fun _ => ?_ | exact q _ _ | exact q _
    | split)
theorem wm_tup {es : N} (ih_es : WM F C es) : WM F C (.tup es) := by
  intro env k k' hk h
  have h : wp F C es env (kA k.x fun l env1 => match dats l with
    | some ds => k.e (.dat (.tuple ds)) env1
    | none => False) := h
  show wp F C es env (kA k'.x fun l env1 => match dats l with
    | some ds => k'.e (.dat (.tuple ds)) env1
    | none => False)
  revert h
  repeat' (first
    | exact fun z => z
    | exact hk.e _ _ | exact hk.t _ _ | exact hk.a _ _ | exact hk.i _ _ | exact hk.nx _ | exact hk.bk _ | exact hk.ct _ | exact hk.rt _ _ | exact hk.x _ _
    | exact hF _ _ _ _ _ _ (fun _ _ => hk.e _ _) (fun _ => hk.x _ _)
    | exact ih_es _ _ _ hk | refine ih_es _ _ _ (kE_le hk.x fun _ _ => ?_) | refine ih_es _ _ _ (kE_le (fun _ _ z => z) fun _ _ => ?_) | refine ih_es _ _ _ (kT_le hk.x fun _ _ => ?_) | refine ih_es _ _ _ (kT_le (fun _ _ z => z) fun _ _ => ?_) | refine ih_es _ _ _ (kA_le hk.x fun _ _ => ?_) | refine ih_es _ _ _ (kI_le hk.x fun _ _ => ?_) | refine ih_es _ _ _ (on_le hk fun _ => ?_) | refine ih_es _ _ _ (lp_le hk (fun _ => ?_) hk.nx) | refine ih_es _ _ _ (ox_le hk fun _ _ => ?_) | exact ih_es _ _ _ (su_le hk)
    | refine ih_es _ _ _ (lp_le hk (fun _ z => z) hk.nx)
    | refine and_r ?_ | refine bothW_mono ?_ ?_ | refine ex_mono fun _ => ?_
    | refine take_mono hk.e | refine peek_mono fun _ => ?_ | refine binW_mono fun _ => ?_ | refine cmpW_mono fun _ => ?_ | refine b1W_mono fun _ => ?_ | refine b2W_mono fun _ => ?_ | refine ixW_mono fun _ => ?_ | refine slW_mono fun _ => ?_ | refine revW_mono fun _ => ?_ | refine partW_mono fun _ => ?_
    | refine intW_mono fun _ => ?_ | refine boolW_mono fun _ => ?_ | refine truthW_mono fun _ => ?_ | refine itemW_mono fun _ => ?_ | refine lstW_mono fun _ => ?_ | refine strW_mono fun _ => ?_ | refine m1W_mono fun _ => ?_ | refine libW_mono fun _ => ?_ | refine lixW_mono fun _ => ?_ | refine listW_mono ?_ | refine isL_mono ?_ | refine walkL_mono fun _ => ?_ | refine enumW_mono fun _ => ?_ | refine zipW_mono fun _ => ?_
    | refine asgW_mono fun _ => ?_ | refine putL_mono (fun _ _ _ q => ?_) hk.nx | refine augW_mono fun _ => ?_ | refine lcW_mono (fun _ _ _ _ q => ?_) fun _ _ => ?_ | refine forW_mono (fun _ _ _ _ q => ?_) fun _ => ?_ | exact q _ _ | exact q _
    | split)
theorem wm_lst {es : N} (ih_es : WM F C es) : WM F C (.lst es) := by
  intro env k k' hk h
  have h : wp F C es env (kA k.x fun l env1 => match dats l with
    | some ds => k.e (.own ds) env1
    | none => False) := h
  show wp F C es env (kA k'.x fun l env1 => match dats l with
    | some ds => k'.e (.own ds) env1
    | none => False)
  revert h
  repeat' (first
    | exact fun z => z
    | exact hk.e _ _ | exact hk.t _ _ | exact hk.a _ _ | exact hk.i _ _ | exact hk.nx _ | exact hk.bk _ | exact hk.ct _ | exact hk.rt _ _ | exact hk.x _ _
    | exact hF _ _ _ _ _ _ (fun _ _ => hk.e _ _) (fun _ => hk.x _ _)
    | exact ih_es _ _ _ hk | refine ih_es _ _ _ (kE_le hk.x fun _ _ => ?_) | refine ih_es _ _ _ (kE_le (fun _ _ z => z) fun _ _ => ?_) | refine ih_es _ _ _ (kT_le hk.x fun _ _ => ?_) | refine ih_es _ _ _ (kT_le (fun _ _ z => z) fun _ _ => ?_) | refine ih_es _ _ _ (kA_le hk.x fun _ _ => ?_) | refine ih_es _ _ _ (kI_le hk.x fun _ _ => ?_) | refine ih_es _ _ _ (on_le hk fun _ => ?_) | refine ih_es _ _ _ (lp_le hk (fun _ => ?_) hk.nx) | refine ih_es _ _ _ (ox_le hk fun _ _ => ?_) | exact ih_es _ _ _ (su_le hk)
    | refine ih_es _ _ _ (lp_le hk (fun _ z => z) hk.nx)
    | refine and_r ?_ | refine bothW_mono ?_ ?_ | refine ex_mono fun _ => ?_
    | refine take_mono hk.e | refine peek_mono fun _ => ?_ | refine binW_mono fun _ => ?_ | refine cmpW_mono fun _ => ?_ | refine b1W_mono fun _ => ?_ | refine b2W_mono fun _ => ?_ | refine ixW_mono fun _ => ?_ | refine slW_mono fun _ => ?_ | refine revW_mono fun _ => ?_ | refine partW_mono fun _ => ?_
    | refine intW_mono fun _ => ?_ | refine boolW_mono fun _ => ?_ | refine truthW_mono fun _ => ?_ | refine itemW_mono fun _ => ?_ | refine lstW_mono fun _ => ?_ | refine strW_mono fun _ => ?_ | refine m1W_mono fun _ => ?_ | refine libW_mono fun _ => ?_ | refine lixW_mono fun _ => ?_ | refine listW_mono ?_ | refine isL_mono ?_ | refine walkL_mono fun _ => ?_ | refine enumW_mono fun _ => ?_ | refine zipW_mono fun _ => ?_
    | refine asgW_mono fun _ => ?_ | refine putL_mono (fun _ _ _ q => ?_) hk.nx | refine augW_mono fun _ => ?_ | refine lcW_mono (fun _ _ _ _ q => ?_) fun _ _ => ?_ | refine forW_mono (fun _ _ _ _ q => ?_) fun _ => ?_ | exact q _ _ | exact q _
    | split)
theorem wm_lc {own : List Nat} {x : Tg} {it : N} {cs : N} {e : N} (ih_it : WM F C it) (ih_cs : WM F C cs) (ih_e : WM F C e) : WM F C (.lc own x it cs e) := by
  intro env k k' hk h
  have h : wp F C it env (kI k.x fun ds env1 => plainE env1 own ∧
      lcW (fun d env2 c => asgW x d env2 fun env3 => wp F C cs env3 (kT (fun _ _ => False) fun b env4 => plainE env4 own ∧ bothW b (wp F C e env4 (kE (fun _ _ => False) fun r env5 => plainE env5 own ∧ c (some r.d) (wipeE env5 own))) (c none (wipeE env4 own))))
        (fun acc env6 => k.e (.own acc) (unR env1 env6 own)) ds [] (wipeE env1 own)) := h
  show wp F C it env (kI k'.x fun ds env1 => plainE env1 own ∧
      lcW (fun d env2 c => asgW x d env2 fun env3 => wp F C cs env3 (kT (fun _ _ => False) fun b env4 => plainE env4 own ∧ bothW b (wp F C e env4 (kE (fun _ _ => False) fun r env5 => plainE env5 own ∧ c (some r.d) (wipeE env5 own))) (c none (wipeE env4 own))))
        (fun acc env6 => k'.e (.own acc) (unR env1 env6 own)) ds [] (wipeE env1 own))
  revert h
  repeat' (first
    | exact fun z => z
    | exact hk.e _ _ | exact hk.t _ _ | exact hk.a _ _ | exact hk.i _ _ | exact hk.nx _ | exact hk.bk _ | exact hk.ct _ | exact hk.rt _ _ | exact hk.x _ _
    | exact hF _ _ _ _ _ _ (fun _ _ => hk.e _ _) (fun _ => hk.x _ _)
    | exact ih_it _ _ _ hk | refine ih_it _ _ _ (kE_le hk.x fun _ _ => ?_) | refine ih_it _ _ _ (kE_le (fun _ _ z => z) fun _ _ => ?_) | refine ih_it _ _ _ (kT_le hk.x fun _ _ => ?_) | refine ih_it _ _ _ (kT_le (fun _ _ z => z) fun _ _ => ?_) | refine ih_it _ _ _ (kA_le hk.x fun _ _ => ?_) | refine ih_it _ _ _ (kI_le hk.x fun _ _ => ?_) | refine ih_it _ _ _ (on_le hk fun _ => ?_) | refine ih_it _ _ _ (lp_le hk (fun _ => ?_) hk.nx) | refine ih_it _ _ _ (ox_le hk fun _ _ => ?_) | exact ih_it _ _ _ (su_le hk) | exact ih_cs _ _ _ hk | refine ih_cs _ _ _ (kE_le hk.x fun _ _ => ?_) | refine ih_cs _ _ _ (kE_le (fun _ _ z => z) fun _ _ => ?_) | refine ih_cs _ _ _ (kT_le hk.x fun _ _ => ?_) | refine ih_cs _ _ _ (kT_le (fun _ _ z => z) fun _ _ => ?_) | refine ih_cs _ _ _ (kA_le hk.x fun _ _ => ?_) | refine ih_cs _ _ _ (kI_le hk.x fun _ _ => ?_) | refine ih_cs _ _ _ (on_le hk fun _ => ?_) | refine ih_cs _ _ _ (lp_le hk (fun _ => ?_) hk.nx) | refine ih_cs _ _ _ (ox_le hk fun _ _ => ?_) | exact ih_cs _ _ _ (su_le hk) | exact ih_e _ _ _ hk | refine ih_e _ _ _ (kE_le hk.x fun _ _ => ?_) | refine ih_e _ _ _ (kE_le (fun _ _ z => z) fun _ _ => ?_) | refine ih_e _ _ _ (kT_le hk.x fun _ _ => ?_) | refine ih_e _ _ _ (kT_le (fun _ _ z => z) fun _ _ => ?_) | refine ih_e _ _ _ (kA_le hk.x fun _ _ => ?_) | refine ih_e _ _ _ (kI_le hk.x fun _ _ => ?_) | refine ih_e _ _ _ (on_le hk fun _ => ?_) | refine ih_e _ _ _ (lp_le hk (fun _ => ?_) hk.nx) | refine ih_e _ _ _ (ox_le hk fun _ _ => ?_) | exact ih_e _ _ _ (su_le hk)
    | refine ih_it _ _ _ (lp_le hk (fun _ z => z) hk.nx) | refine ih_cs _ _ _ (lp_le hk (fun _ z => z) hk.nx) | refine ih_e _ _ _ (lp_le hk (fun _ z => z) hk.nx)
    | refine and_r ?_ | refine bothW_mono ?_ ?_ | refine ex_mono fun _ => ?_
    | refine take_mono hk.e | refine peek_mono fun _ => ?_ | refine binW_mono fun _ => ?_ | refine cmpW_mono fun _ => ?_ | refine b1W_mono fun _ => ?_ | refine b2W_mono fun _ => ?_ | refine ixW_mono fun _ => ?_ | refine slW_mono fun _ => ?_ | refine revW_mono fun _ => ?_ | refine partW_mono fun _ => ?_
    | refine intW_mono fun _ => ?_ | refine boolW_mono fun _ => ?_ | refine truthW_mono fun _ => ?_ | refine itemW_mono fun _ => ?_ | refine lstW_mono fun _ => ?_ | refine strW_mono fun _ => ?_ | refine m1W_mono fun _ => ?_ | refine libW_mono fun _ => ?_ | refine lixW_mono fun _ => ?_ | refine listW_mono ?_ | refine isL_mono ?_ | refine walkL_mono fun _ => ?_ | refine enumW_mono fun _ => ?_ | refine zipW_mono fun _ => ?_
    | refine asgW_mono fun _ => ?_ | refine putL_mono (fun _ _ _ q => ?_) hk.nx | refine augW_mono fun _ => ?_ | refine lcW_mono (fun _ _ _ _ q => ?_) fun _ _ => ?_ | refine forW_mono (fun _ _ _ _ q => ?_) fun _ => ?_ | exact q _ _ | exact q _
    | split)
theorem wm_slc {i : Nat} {own : List Nat} {x : Tg} {it : N} {cs : N} {e : N} (ih_it : WM F C it) (ih_cs : WM F C cs) (ih_e : WM F C e) : WM F C (.slc i own x it cs e) := by
  intro env k k' hk h
  have h : wp F C it env (kI k.x fun ds env1 => plainE env1 own ∧
      lcW (fun d env2 c => asgW x d env2 fun env3 => wp F C cs env3 (kT (fun _ _ => False) fun b env4 => plainE env4 own ∧ bothW b (wp F C e env4 (kE (fun _ _ => False) fun r env5 => plainE env5 own ∧ c (some r.d) (wipeE env5 own))) (c none (wipeE env4 own))))
        (fun acc env6 => k.nx ((unR env1 env6 own).set i (.own acc))) ds [] (wipeE env1 own)) := h
  show wp F C it env (kI k'.x fun ds env1 => plainE env1 own ∧
      lcW (fun d env2 c => asgW x d env2 fun env3 => wp F C cs env3 (kT (fun _ _ => False) fun b env4 => plainE env4 own ∧ bothW b (wp F C e env4 (kE (fun _ _ => False) fun r env5 => plainE env5 own ∧ c (some r.d) (wipeE env5 own))) (c none (wipeE env4 own))))
        (fun acc env6 => k'.nx ((unR env1 env6 own).set i (.own acc))) ds [] (wipeE env1 own))
  revert h
  repeat' (first
    | exact fun z => z
    | exact hk.e _ _ | exact hk.t _ _ | exact hk.a _ _ | exact hk.i _ _ | exact hk.nx _ | exact hk.bk _ | exact hk.ct _ | exact hk.rt _ _ | exact hk.x _ _
    | exact hF _ _ _ _ _ _ (fun _ _ => hk.e _ _) (fun _ => hk.x _ _)
    | exact ih_it _ _ _ hk | refine ih_it _ _ _ (kE_le hk.x fun _ _ => ?_) | refine ih_it _ _ _ (kE_le (fun _ _ z => z) fun _ _ => ?_) | refine ih_it _ _ _ (kT_le hk.x fun _ _ => ?_) | refine ih_it _ _ _ (kT_le (fun _ _ z => z) fun _ _ => ?_) | refine ih_it _ _ _ (kA_le hk.x fun _ _ => ?_) | refine ih_it _ _ _ (kI_le hk.x fun _ _ => ?_) | refine ih_it _ _ _ (on_le hk fun _ => ?_) | refine ih_it _ _ _ (lp_le hk (fun _ => ?_) hk.nx) | refine ih_it _ _ _ (ox_le hk fun _ _ => ?_) | exact ih_it _ _ _ (su_le hk) | exact ih_cs _ _ _ hk | refine ih_cs _ _ _ (kE_le hk.x fun _ _ => ?_) | refine ih_cs _ _ _ (kE_le (fun _ _ z => z) fun _ _ => ?_) | refine ih_cs _ _ _ (kT_le hk.x fun _ _ => ?_) | refine ih_cs _ _ _ (kT_le (fun _ _ z => z) fun _ _ => ?_) | refine ih_cs _ _ _ (kA_le hk.x fun _ _ => ?_) | refine ih_cs _ _ _ (kI_le hk.x fun _ _ => ?_) | refine ih_cs _ _ _ (on_le hk fun _ => ?_) | refine ih_cs _ _ _ (lp_le hk (fun _ => ?_) hk.nx) | refine ih_cs _ _ _ (ox_le hk fun _ _ => ?_) | exact ih_cs _ _ _ (su_le hk) | exact ih_e _ _ _ hk | refine ih_e _ _ _ (kE_le hk.x fun _ _ => ?_) | refine ih_e _ _ _ (kE_le (fun _ _ z => z) fun _ _ => ?_) | refine ih_e _ _ _ (kT_le hk.x fun _ _ => ?_) | refine ih_e _ _ _ (kT_le (fun _ _ z => z) fun _ _ => ?_) | refine ih_e _ _ _ (kA_le hk.x fun _ _ => ?_) | refine ih_e _ _ _ (kI_le hk.x fun _ _ => ?_) | refine ih_e _ _ _ (on_le hk fun _ => ?_) | refine ih_e _ _ _ (lp_le hk (fun _ => ?_) hk.nx) | refine ih_e _ _ _ (ox_le hk fun _ _ => ?_) | exact ih_e _ _ _ (su_le hk)
    | refine ih_it _ _ _ (lp_le hk (fun _ z => z) hk.nx) | refine ih_cs _ _ _ (lp_le hk (fun _ z => z) hk.nx) | refine ih_e _ _ _ (lp_le hk (fun _ z => z) hk.nx)
    | refine and_r ?_ | refine bothW_mono ?_ ?_ | refine ex_mono fun _ => ?_
    | refine take_mono hk.e | refine peek_mono fun _ => ?_ | refine binW_mono fun _ => ?_ | refine cmpW_mono fun _ => ?_ | refine b1W_mono fun _ => ?_ | refine b2W_mono fun _ => ?_ | refine ixW_mono fun _ => ?_ | refine slW_mono fun _ => ?_ | refine revW_mono fun _ => ?_ | refine partW_mono fun _ => ?_
    | refine intW_mono fun _ => ?_ | refine boolW_mono fun _ => ?_ | refine truthW_mono fun _ => ?_ | refine itemW_mono fun _ => ?_ | refine lstW_mono fun _ => ?_ | refine strW_mono fun _ => ?_ | refine m1W_mono fun _ => ?_ | refine libW_mono fun _ => ?_ | refine lixW_mono fun _ => ?_ | refine listW_mono ?_ | refine isL_mono ?_ | refine walkL_mono fun _ => ?_ | refine enumW_mono fun _ => ?_ | refine zipW_mono fun _ => ?_
    | refine asgW_mono fun _ => ?_ | refine putL_mono (fun _ _ _ q => ?_) hk.nx | refine augW_mono fun _ => ?_ | refine lcW_mono (fun _ _ _ _ q => ?_) fun _ _ => ?_ | refine forW_mono (fun _ _ _ _ q => ?_) fun _ => ?_ | exact q _ _ | exact q _
    | split)
theorem wm_pop {i : Nat}  : WM F C (.pop i) := by
  intro env k k' hk h
  have h : match env[i]? with
    | some (.own ds) => ∃ y, ds[ds.length - 1]? = some y ∧ k.e (.dat y) (env.set i (.own ds.dropLast))
    | some (.mu m ds) => ∃ y, ds[ds.length - 1]? = some y ∧ k.e (.dat y) (env.set i (.mu m ds.dropLast))
    | _ => False := h
  show match env[i]? with
    | some (.own ds) => ∃ y, ds[ds.length - 1]? = some y ∧ k'.e (.dat y) (env.set i (.own ds.dropLast))
    | some (.mu m ds) => ∃ y, ds[ds.length - 1]? = some y ∧ k'.e (.dat y) (env.set i (.mu m ds.dropLast))
    | _ => False
  revert h
  repeat' (first
    | exact fun z => z
    | exact hk.e _ _ | exact hk.t _ _ | exact hk.a _ _ | exact hk.i _ _ | exact hk.nx _ | exact hk.bk _ | exact hk.ct _ | exact hk.rt _ _ | exact hk.x _ _
    | exact hF _ _ _ _ _ _ (fun _ _ => hk.e _ _) (fun _ => hk.x _ _)
    
    
    | refine and_r ?_ | refine bothW_mono ?_ ?_ | refine ex_mono fun _ => ?_
    | refine take_mono hk.e | refine peek_mono fun _ => ?_ | refine binW_mono fun _ => ?_ | refine cmpW_mono fun _ => ?_ | refine b1W_mono fun _ => ?_ | refine b2W_mono fun _ => ?_ | refine ixW_mono fun _ => ?_ | refine slW_mono fun _ => ?_ | refine revW_mono fun _ => ?_ | refine partW_mono fun _ => ?_
    | refine intW_mono fun _ => ?_ | refine boolW_mono fun _ => ?_ | refine truthW_mono fun _ => ?_ | refine itemW_mono fun _ => ?_ | refine lstW_mono fun _ => ?_ | refine strW_mono fun _ => ?_ | refine m1W_mono fun _ => ?_ | refine libW_mono fun _ => ?_ | refine lixW_mono fun _ => ?_ | refine listW_mono ?_ | refine isL_mono ?_ | refine walkL_mono fun _ => ?_ | refine enumW_mono fun _ => ?_ | refine zipW_mono fun _ => ?_
    | refine asgW_mono fun _ => ?_ | refine putL_mono (fun _ _ _ q => ?_) hk.nx | refine augW_mono fun _ => ?_ | refine lcW_mono (fun _ _ _ _ q => ?_) fun _ _ => ?_ | refine forW_mono (fun _ _ _ _ q => ?_) fun _ => ?_ | exact q _ _ | exact q _
    | split)
theorem wm_popAt {i : Nat} {a : N} (ih_a : WM F C a) : WM F C (.popAt i a) := by
  intro env k k' hk h
  have h : isL env i <| wp F C a env (kE k.x fun r env1 => intW r.d fun z => inR z ∧ match env1[i]? with
    | some (.own ds) => ∃ j y, seqIndex? z ds.length = some j ∧ ds[j]? = some y ∧ k.e (.dat y) (env1.set i (.own (ds.eraseIdx j)))
    | some (.mu m ds) => ∃ j y, seqIndex? z ds.length = some j ∧ ds[j]? = some y ∧ k.e (.dat y) (env1.set i (.mu m (ds.eraseIdx j)))
    | _ => False) := h
  show isL env i <| wp F C a env (kE k'.x fun r env1 => intW r.d fun z => inR z ∧ match env1[i]? with
    | some (.own ds) => ∃ j y, seqIndex? z ds.length = some j ∧ ds[j]? = some y ∧ k'.e (.dat y) (env1.set i (.own (ds.eraseIdx j)))
    | some (.mu m ds) => ∃ j y, seqIndex? z ds.length = some j ∧ ds[j]? = some y ∧ k'.e (.dat y) (env1.set i (.mu m (ds.eraseIdx j)))
    | _ => False)
  revert h
  repeat' (first
    | exact fun z => z
    | exact hk.e _ _ | exact hk.t _ _ | exact hk.a _ _ | exact hk.i _ _ | exact hk.nx _ | exact hk.bk _ | exact hk.ct _ | exact hk.rt _ _ | exact hk.x _ _
    | exact hF _ _ _ _ _ _ (fun _ _ => hk.e _ _) (fun _ => hk.x _ _)
    | exact ih_a _ _ _ hk | refine ih_a _ _ _ (kE_le hk.x fun _ _ => ?_) | refine ih_a _ _ _ (kE_le (fun _ _ z => z) fun _ _ => ?_) | refine ih_a _ _ _ (kT_le hk.x fun _ _ => ?_) | refine ih_a _ _ _ (kT_le (fun _ _ z => z) fun _ _ => ?_) | refine ih_a _ _ _ (kA_le hk.x fun _ _ => ?_) | refine ih_a _ _ _ (kI_le hk.x fun _ _ => ?_) | refine ih_a _ _ _ (on_le hk fun _ => ?_) | refine ih_a _ _ _ (lp_le hk (fun _ => ?_) hk.nx) | refine ih_a _ _ _ (ox_le hk fun _ _ => ?_) | exact ih_a _ _ _ (su_le hk)
    | refine ih_a _ _ _ (lp_le hk (fun _ z => z) hk.nx)
    | refine and_r ?_ | refine bothW_mono ?_ ?_ | refine ex_mono fun _ => ?_
    | refine take_mono hk.e | refine peek_mono fun _ => ?_ | refine binW_mono fun _ => ?_ | refine cmpW_mono fun _ => ?_ | refine b1W_mono fun _ => ?_ | refine b2W_mono fun _ => ?_ | refine ixW_mono fun _ => ?_ | refine slW_mono fun _ => ?_ | refine revW_mono fun _ => ?_ | refine partW_mono fun _ => ?_
    | refine intW_mono fun _ => ?_ | refine boolW_mono fun _ => ?_ | refine truthW_mono fun _ => ?_ | refine itemW_mono fun _ => ?_ | refine lstW_mono fun _ => ?_ | refine strW_mono fun _ => ?_ | refine m1W_mono fun _ => ?_ | refine libW_mono fun _ => ?_ | refine lixW_mono fun _ => ?_ | refine listW_mono ?_ | refine isL_mono ?_ | refine walkL_mono fun _ => ?_ | refine enumW_mono fun _ => ?_ | refine zipW_mono fun _ => ?_
    | refine asgW_mono fun _ => ?_ | refine putL_mono (fun _ _ _ q => ?_) hk.nx | refine augW_mono fun _ => ?_ | refine lcW_mono (fun _ _ _ _ q => ?_) fun _ _ => ?_ | refine forW_mono (fun _ _ _ _ q => ?_) fun _ => ?_ | exact q _ _ | exact q _
    | split)
theorem wm_lib {f : LF} {a : N} {b : N} (ih_a : WM F C a) (ih_b : WM F C b) : WM F C (.lib f a b) := by
  intro env k k' hk h
  have h : wp F C a env (kE k.x fun ra env1 => wp F C b env1 (kE k.x fun rb env2 => libW f ra.d rb.d fun r => k.e r env2)) := h
  show wp F C a env (kE k'.x fun ra env1 => wp F C b env1 (kE k'.x fun rb env2 => libW f ra.d rb.d fun r => k'.e r env2))
  revert h
  repeat' (first
    | exact fun z => z
    | exact hk.e _ _ | exact hk.t _ _ | exact hk.a _ _ | exact hk.i _ _ | exact hk.nx _ | exact hk.bk _ | exact hk.ct _ | exact hk.rt _ _ | exact hk.x _ _
    | exact hF _ _ _ _ _ _ (fun _ _ => hk.e _ _) (fun _ => hk.x _ _)
    | exact ih_a _ _ _ hk | refine ih_a _ _ _ (kE_le hk.x fun _ _ => ?_) | refine ih_a _ _ _ (kE_le (fun _ _ z => z) fun _ _ => ?_) | refine ih_a _ _ _ (kT_le hk.x fun _ _ => ?_) | refine ih_a _ _ _ (kT_le (fun _ _ z => z) fun _ _ => ?_) | refine ih_a _ _ _ (kA_le hk.x fun _ _ => ?_) | refine ih_a _ _ _ (kI_le hk.x fun _ _ => ?_) | refine ih_a _ _ _ (on_le hk fun _ => ?_) | refine ih_a _ _ _ (lp_le hk (fun _ => ?_) hk.nx) | refine ih_a _ _ _ (ox_le hk fun _ _ => ?_) | exact ih_a _ _ _ (su_le hk) | exact ih_b _ _ _ hk | refine ih_b _ _ _ (kE_le hk.x fun _ _ => ?_) | refine ih_b _ _ _ (kE_le (fun _ _ z => z) fun _ _ => ?_) | refine ih_b _ _ _ (kT_le hk.x fun _ _ => ?_) | refine ih_b _ _ _ (kT_le (fun _ _ z => z) fun _ _ => ?_) | refine ih_b _ _ _ (kA_le hk.x fun _ _ => ?_) | refine ih_b _ _ _ (kI_le hk.x fun _ _ => ?_) | refine ih_b _ _ _ (on_le hk fun _ => ?_) | refine ih_b _ _ _ (lp_le hk (fun _ => ?_) hk.nx) | refine ih_b _ _ _ (ox_le hk fun _ _ => ?_) | exact ih_b _ _ _ (su_le hk)
    | refine ih_a _ _ _ (lp_le hk (fun _ z => z) hk.nx) | refine ih_b _ _ _ (lp_le hk (fun _ z => z) hk.nx)
    | refine and_r ?_ | refine bothW_mono ?_ ?_ | refine ex_mono fun _ => ?_
    | refine take_mono hk.e | refine peek_mono fun _ => ?_ | refine binW_mono fun _ => ?_ | refine cmpW_mono fun _ => ?_ | refine b1W_mono fun _ => ?_ | refine b2W_mono fun _ => ?_ | refine ixW_mono fun _ => ?_ | refine slW_mono fun _ => ?_ | refine revW_mono fun _ => ?_ | refine partW_mono fun _ => ?_
    | refine intW_mono fun _ => ?_ | refine boolW_mono fun _ => ?_ | refine truthW_mono fun _ => ?_ | refine itemW_mono fun _ => ?_ | refine lstW_mono fun _ => ?_ | refine strW_mono fun _ => ?_ | refine m1W_mono fun _ => ?_ | refine libW_mono fun _ => ?_ | refine lixW_mono fun _ => ?_ | refine listW_mono ?_ | refine isL_mono ?_ | refine walkL_mono fun _ => ?_ | refine enumW_mono fun _ => ?_ | refine zipW_mono fun _ => ?_
    | refine asgW_mono fun _ => ?_ | refine putL_mono (fun _ _ _ q => ?_) hk.nx | refine augW_mono fun _ => ?_ | refine lcW_mono (fun _ _ _ _ q => ?_) fun _ _ => ?_ | refine forW_mono (fun _ _ _ _ q => ?_) fun _ => ?_ | exact q _ _ | exact q _
    | split)
theorem wm_m1 {m : MT1} {a : N} {b : N} (ih_a : WM F C a) (ih_b : WM F C b) : WM F C (.m1 m a b) := by
  intro env k k' hk h
  have h : wp F C a env (kE k.x fun ra env1 => strW ra.d fun x => match b.isV with
    | some j => peek env1 j fun y => m1W m x y fun r => k.e r env1
    | none => wp F C b env1 (kE k.x fun rb env2 => m1W m x rb.d fun r => k.e r env2)) := h
  show wp F C a env (kE k'.x fun ra env1 => strW ra.d fun x => match b.isV with
    | some j => peek env1 j fun y => m1W m x y fun r => k'.e r env1
    | none => wp F C b env1 (kE k'.x fun rb env2 => m1W m x rb.d fun r => k'.e r env2))
  generalize b.isV = o_b at h ⊢
  revert h
  cases o_b <;> repeat' (first
    | exact fun z => z
    | exact hk.e _ _ | exact hk.t _ _ | exact hk.a _ _ | exact hk.i _ _ | exact hk.nx _ | exact hk.bk _ | exact hk.ct _ | exact hk.rt _ _ | exact hk.x _ _
    | exact hF _ _ _ _ _ _ (fun _ _ => hk.e _ _) (fun _ => hk.x _ _)
    | exact ih_a _ _ _ hk | refine ih_a _ _ _ (kE_le hk.x fun _ _ => ?_) | refine ih_a _ _ _ (kE_le (fun _ _ z => z) fun _ _ => ?_) | refine ih_a _ _ _ (kT_le hk.x fun _ _ => ?_) | refine ih_a _ _ _ (kT_le (fun _ _ z => z) fun _ _ => ?_) | refine ih_a _ _ _ (kA_le hk.x fun _ _ => ?_) | refine ih_a _ _ _ (kI_le hk.x fun _ _ => ?_) | refine ih_a _ _ _ (on_le hk fun _ => ?_) | refine ih_a _ _ _ (lp_le hk (fun _ => ?_) hk.nx) | refine ih_a _ _ _ (ox_le hk fun _ _ => ?_) | exact ih_a _ _ _ (su_le hk) | exact ih_b _ _ _ hk | refine ih_b _ _ _ (kE_le hk.x fun _ _ => ?_) | refine ih_b _ _ _ (kE_le (fun _ _ z => z) fun _ _ => ?_) | refine ih_b _ _ _ (kT_le hk.x fun _ _ => ?_) | refine ih_b _ _ _ (kT_le (fun _ _ z => z) fun _ _ => ?_) | refine ih_b _ _ _ (kA_le hk.x fun _ _ => ?_) | refine ih_b _ _ _ (kI_le hk.x fun _ _ => ?_) | refine ih_b _ _ _ (on_le hk fun _ => ?_) | refine ih_b _ _ _ (lp_le hk (fun _ => ?_) hk.nx) | refine ih_b _ _ _ (ox_le hk fun _ _ => ?_) | exact ih_b _ _ _ (su_le hk)
    | refine ih_a _ _ _ (lp_le hk (fun _ z => z) hk.nx) | refine ih_b _ _ _ (lp_le hk (fun _ z => z) hk.nx)
    | refine and_r ?_ | refine bothW_mono ?_ ?_ | refine ex_mono fun _ => ?_
    | refine take_mono hk.e | refine peek_mono fun _ => ?_ | refine binW_mono fun _ => ?_ | refine cmpW_mono fun _ => ?_ | refine b1W_mono fun _ => ?_ | refine b2W_mono fun _ => ?_ | refine ixW_mono fun _ => ?_ | refine slW_mono fun _ => ?_ | refine revW_mono fun _ => ?_ | refine partW_mono fun _ => ?_
    | refine intW_mono fun _ => ?_ | refine boolW_mono fun _ => ?_ | refine truthW_mono fun _ => ?_ | refine itemW_mono fun _ => ?_ | refine lstW_mono fun _ => ?_ | refine strW_mono fun _ => ?_ | refine m1W_mono fun _ => ?_ | refine libW_mono fun _ => ?_ | refine lixW_mono fun _ => ?_ | refine listW_mono ?_ | refine isL_mono ?_ | refine walkL_mono fun _ => ?_ | refine enumW_mono fun _ => ?_ | refine zipW_mono fun _ => ?_
    | refine asgW_mono fun _ => ?_ | refine putL_mono (fun _ _ _ q => ?_) hk.nx | refine augW_mono fun _ => ?_ | refine lcW_mono (fun _ _ _ _ q => ?_) fun _ _ => ?_ | refine forW_mono (fun _ _ _ _ q => ?_) fun _ => ?_ | exact q _ _ | exact q _
    | split)
theorem wm_lix {a : N} {b : N} (ih_a : WM F C a) (ih_b : WM F C b) : WM F C (.lix a b) := by
  intro env k k' hk h
  have h : match a.isV with
    | some i => peek env i fun x => listW x <| wp F C b env (kE k.x fun rb env1 => peek env1 i fun x => lixW x rb.d fun r => k.e r env1)
    | none => wp F C a env (kE k.x fun ra env1 => listW ra.d <| wp F C b env1 (kE k.x fun rb env2 => lixW ra.d rb.d fun r => k.e r env2)) := h
  show match a.isV with
    | some i => peek env i fun x => listW x <| wp F C b env (kE k'.x fun rb env1 => peek env1 i fun x => lixW x rb.d fun r => k'.e r env1)
    | none => wp F C a env (kE k'.x fun ra env1 => listW ra.d <| wp F C b env1 (kE k'.x fun rb env2 => lixW ra.d rb.d fun r => k'.e r env2))
  generalize a.isV = o_a at h ⊢
  revert h
  cases o_a <;> repeat' (first
    | exact fun z => z
    | exact hk.e _ _ | exact hk.t _ _ | exact hk.a _ _ | exact hk.i _ _ | exact hk.nx _ | exact hk.bk _ | exact hk.ct _ | exact hk.rt _ _ | exact hk.x _ _
    | exact hF _ _ _ _ _ _ (fun _ _ => hk.e _ _) (fun _ => hk.x _ _)
    | exact ih_a _ _ _ hk | refine ih_a _ _ _ (kE_le hk.x fun _ _ => ?_) | refine ih_a _ _ _ (kE_le (fun _ _ z => z) fun _ _ => ?_) | refine ih_a _ _ _ (kT_le hk.x fun _ _ => ?_) | refine ih_a _ _ _ (kT_le (fun _ _ z => z) fun _ _ => ?_) | refine ih_a _ _ _ (kA_le hk.x fun _ _ => ?_) | refine ih_a _ _ _ (kI_le hk.x fun _ _ => ?_) | refine ih_a _ _ _ (on_le hk fun _ => ?_) | refine ih_a _ _ _ (lp_le hk (fun _ => ?_) hk.nx) | refine ih_a _ _ _ (ox_le hk fun _ _ => ?_) | exact ih_a _ _ _ (su_le hk) | exact ih_b _ _ _ hk | refine ih_b _ _ _ (kE_le hk.x fun _ _ => ?_) | refine ih_b _ _ _ (kE_le (fun _ _ z => z) fun _ _ => ?_) | refine ih_b _ _ _ (kT_le hk.x fun _ _ => ?_) | refine ih_b _ _ _ (kT_le (fun _ _ z => z) fun _ _ => ?_) | refine ih_b _ _ _ (kA_le hk.x fun _ _ => ?_) | refine ih_b _ _ _ (kI_le hk.x fun _ _ => ?_) | refine ih_b _ _ _ (on_le hk fun _ => ?_) | refine ih_b _ _ _ (lp_le hk (fun _ => ?_) hk.nx) | refine ih_b _ _ _ (ox_le hk fun _ _ => ?_) | exact ih_b _ _ _ (su_le hk)
    | refine ih_a _ _ _ (lp_le hk (fun _ z => z) hk.nx) | refine ih_b _ _ _ (lp_le hk (fun _ z => z) hk.nx)
    | refine and_r ?_ | refine bothW_mono ?_ ?_ | refine ex_mono fun _ => ?_
    | refine take_mono hk.e | refine peek_mono fun _ => ?_ | refine binW_mono fun _ => ?_ | refine cmpW_mono fun _ => ?_ | refine b1W_mono fun _ => ?_ | refine b2W_mono fun _ => ?_ | refine ixW_mono fun _ => ?_ | refine slW_mono fun _ => ?_ | refine revW_mono fun _ => ?_ | refine partW_mono fun _ => ?_
    | refine intW_mono fun _ => ?_ | refine boolW_mono fun _ => ?_ | refine truthW_mono fun _ => ?_ | refine itemW_mono fun _ => ?_ | refine lstW_mono fun _ => ?_ | refine strW_mono fun _ => ?_ | refine m1W_mono fun _ => ?_ | refine libW_mono fun _ => ?_ | refine lixW_mono fun _ => ?_ | refine listW_mono ?_ | refine isL_mono ?_ | refine walkL_mono fun _ => ?_ | refine enumW_mono fun _ => ?_ | refine zipW_mono fun _ => ?_
    | refine asgW_mono fun _ => ?_ | refine putL_mono (fun _ _ _ q => ?_) hk.nx | refine augW_mono fun _ => ?_ | refine lcW_mono (fun _ _ _ _ q => ?_) fun _ _ => ?_ | refine forW_mono (fun _ _ _ _ q => ?_) fun _ => ?_ | exact q _ _ | exact q _
    | split)
theorem wm_callD {f : Nat} {as : N} {ds : List PyData} (ih_as : WM F C as) : WM F C (.callD f as ds) := by
  intro env k k' hk h
  have h : wp F C as env (kA k.x fun l env1 => match agOf env1 (l ++ ds.map .inl) with
    | some ags => match nodupB (mutsOf (l ++ ds.map .inl)) with
      | true => F f ags (fun r ms => k.e r (putMs env1 (mutsOf (l ++ ds.map .inl)) ms)) fun e => k.x e (wipeE env1 (mutsOf (l ++ ds.map .inl)))
      | false => False
    | none => False) := h
  show wp F C as env (kA k'.x fun l env1 => match agOf env1 (l ++ ds.map .inl) with
    | some ags => match nodupB (mutsOf (l ++ ds.map .inl)) with
      | true => F f ags (fun r ms => k'.e r (putMs env1 (mutsOf (l ++ ds.map .inl)) ms)) fun e => k'.x e (wipeE env1 (mutsOf (l ++ ds.map .inl)))
      | false => False
    | none => False)
  revert h
  repeat' (first
    | exact fun z => z
    | exact hk.e _ _ | exact hk.t _ _ | exact hk.a _ _ | exact hk.i _ _ | exact hk.nx _ | exact hk.bk _ | exact hk.ct _ | exact hk.rt _ _ | exact hk.x _ _
    | exact hF _ _ _ _ _ _ (fun _ _ => hk.e _ _) (fun _ => hk.x _ _)
    | exact ih_as _ _ _ hk | refine ih_as _ _ _ (kE_le hk.x fun _ _ => ?_) | refine ih_as _ _ _ (kE_le (fun _ _ z => z) fun _ _ => ?_) | refine ih_as _ _ _ (kT_le hk.x fun _ _ => ?_) | refine ih_as _ _ _ (kT_le (fun _ _ z => z) fun _ _ => ?_) | refine ih_as _ _ _ (kA_le hk.x fun _ _ => ?_) | refine ih_as _ _ _ (kI_le hk.x fun _ _ => ?_) | refine ih_as _ _ _ (on_le hk fun _ => ?_) | refine ih_as _ _ _ (lp_le hk (fun _ => ?_) hk.nx) | refine ih_as _ _ _ (ox_le hk fun _ _ => ?_) | exact ih_as _ _ _ (su_le hk)
    | refine ih_as _ _ _ (lp_le hk (fun _ z => z) hk.nx)
    | refine and_r ?_ | refine bothW_mono ?_ ?_ | refine ex_mono fun _ => ?_
    | refine take_mono hk.e | refine peek_mono fun _ => ?_ | refine binW_mono fun _ => ?_ | refine cmpW_mono fun _ => ?_ | refine b1W_mono fun _ => ?_ | refine b2W_mono fun _ => ?_ | refine ixW_mono fun _ => ?_ | refine slW_mono fun _ => ?_ | refine revW_mono fun _ => ?_ | refine partW_mono fun _ => ?_
    | refine intW_mono fun _ => ?_ | refine boolW_mono fun _ => ?_ | refine truthW_mono fun _ => ?_ | refine itemW_mono fun _ => ?_ | refine lstW_mono fun _ => ?_ | refine strW_mono fun _ => ?_ | refine m1W_mono fun _ => ?_ | refine libW_mono fun _ => ?_ | refine lixW_mono fun _ => ?_ | refine listW_mono ?_ | refine isL_mono ?_ | refine walkL_mono fun _ => ?_ | refine enumW_mono fun _ => ?_ | refine zipW_mono fun _ => ?_
    | refine asgW_mono fun _ => ?_ | refine putL_mono (fun _ _ _ q => ?_) hk.nx | refine augW_mono fun _ => ?_ | refine lcW_mono (fun _ _ _ _ q => ?_) fun _ _ => ?_ | refine forW_mono (fun _ _ _ _ q => ?_) fun _ => ?_ | exact q _ _ | exact q _
    | split)
theorem wm_xw {i : Nat}  : WM F C (.xw i) := by
  intro env k k' hk h
  have h : match env[i]? with
    | some (.exc x) => k.e (.dat (.str x.word)) env
    | _ => False := h
  show match env[i]? with
    | some (.exc x) => k'.e (.dat (.str x.word)) env
    | _ => False
  revert h
  repeat' (first
    | exact fun z => z
    | exact hk.e _ _ | exact hk.t _ _ | exact hk.a _ _ | exact hk.i _ _ | exact hk.nx _ | exact hk.bk _ | exact hk.ct _ | exact hk.rt _ _ | exact hk.x _ _
    | exact hF _ _ _ _ _ _ (fun _ _ => hk.e _ _) (fun _ => hk.x _ _)
    
    
    | refine and_r ?_ | refine bothW_mono ?_ ?_ | refine ex_mono fun _ => ?_
    | refine take_mono hk.e | refine peek_mono fun _ => ?_ | refine binW_mono fun _ => ?_ | refine cmpW_mono fun _ => ?_ | refine b1W_mono fun _ => ?_ | refine b2W_mono fun _ => ?_ | refine ixW_mono fun _ => ?_ | refine slW_mono fun _ => ?_ | refine revW_mono fun _ => ?_ | refine partW_mono fun _ => ?_
    | refine intW_mono fun _ => ?_ | refine boolW_mono fun _ => ?_ | refine truthW_mono fun _ => ?_ | refine itemW_mono fun _ => ?_ | refine lstW_mono fun _ => ?_ | refine strW_mono fun _ => ?_ | refine m1W_mono fun _ => ?_ | refine libW_mono fun _ => ?_ | refine lixW_mono fun _ => ?_ | refine listW_mono ?_ | refine isL_mono ?_ | refine walkL_mono fun _ => ?_ | refine enumW_mono fun _ => ?_ | refine zipW_mono fun _ => ?_
    | refine asgW_mono fun _ => ?_ | refine putL_mono (fun _ _ _ q => ?_) hk.nx | refine augW_mono fun _ => ?_ | refine lcW_mono (fun _ _ _ _ q => ?_) fun _ _ => ?_ | refine forW_mono (fun _ _ _ _ q => ?_) fun _ => ?_ | exact q _ _ | exact q _
    | split)
theorem wm_xp {i : Nat}  : WM F C (.xp i) := by
  intro env k k' hk h
  have h : match env[i]? with
    | some (.exc x) => k.e (.dat x.place) env
    | _ => False := h
  show match env[i]? with
    | some (.exc x) => k'.e (.dat x.place) env
    | _ => False
  revert h
  repeat' (first
    | exact fun z => z
    | exact hk.e _ _ | exact hk.t _ _ | exact hk.a _ _ | exact hk.i _ _ | exact hk.nx _ | exact hk.bk _ | exact hk.ct _ | exact hk.rt _ _ | exact hk.x _ _
    | exact hF _ _ _ _ _ _ (fun _ _ => hk.e _ _) (fun _ => hk.x _ _)
    
    
    | refine and_r ?_ | refine bothW_mono ?_ ?_ | refine ex_mono fun _ => ?_
    | refine take_mono hk.e | refine peek_mono fun _ => ?_ | refine binW_mono fun _ => ?_ | refine cmpW_mono fun _ => ?_ | refine b1W_mono fun _ => ?_ | refine b2W_mono fun _ => ?_ | refine ixW_mono fun _ => ?_ | refine slW_mono fun _ => ?_ | refine revW_mono fun _ => ?_ | refine partW_mono fun _ => ?_
    | refine intW_mono fun _ => ?_ | refine boolW_mono fun _ => ?_ | refine truthW_mono fun _ => ?_ | refine itemW_mono fun _ => ?_ | refine lstW_mono fun _ => ?_ | refine strW_mono fun _ => ?_ | refine m1W_mono fun _ => ?_ | refine libW_mono fun _ => ?_ | refine lixW_mono fun _ => ?_ | refine listW_mono ?_ | refine isL_mono ?_ | refine walkL_mono fun _ => ?_ | refine enumW_mono fun _ => ?_ | refine zipW_mono fun _ => ?_
    | refine asgW_mono fun _ => ?_ | refine putL_mono (fun _ _ _ q => ?_) hk.nx | refine augW_mono fun _ => ?_ | refine lcW_mono (fun _ _ _ _ q => ?_) fun _ _ => ?_ | refine forW_mono (fun _ _ _ _ q => ?_) fun _ => ?_ | exact q _ _ | exact q _
    | split)
theorem wm_xi {i : Nat} {nm : Str} {ts : List Nat}  : WM F C (.xi i nm ts) := by
  intro env k k' hk h
  have h : match env[i]? with
    | some (.exc x) => k.e (.dat (.bool (ts.contains x.cls))) env
    | _ => False := h
  show match env[i]? with
    | some (.exc x) => k'.e (.dat (.bool (ts.contains x.cls))) env
    | _ => False
  revert h
  repeat' (first
    | exact fun z => z
    | exact hk.e _ _ | exact hk.t _ _ | exact hk.a _ _ | exact hk.i _ _ | exact hk.nx _ | exact hk.bk _ | exact hk.ct _ | exact hk.rt _ _ | exact hk.x _ _
    | exact hF _ _ _ _ _ _ (fun _ _ => hk.e _ _) (fun _ => hk.x _ _)
    
    
    | refine and_r ?_ | refine bothW_mono ?_ ?_ | refine ex_mono fun _ => ?_
    | refine take_mono hk.e | refine peek_mono fun _ => ?_ | refine binW_mono fun _ => ?_ | refine cmpW_mono fun _ => ?_ | refine b1W_mono fun _ => ?_ | refine b2W_mono fun _ => ?_ | refine ixW_mono fun _ => ?_ | refine slW_mono fun _ => ?_ | refine revW_mono fun _ => ?_ | refine partW_mono fun _ => ?_
    | refine intW_mono fun _ => ?_ | refine boolW_mono fun _ => ?_ | refine truthW_mono fun _ => ?_ | refine itemW_mono fun _ => ?_ | refine lstW_mono fun _ => ?_ | refine strW_mono fun _ => ?_ | refine m1W_mono fun _ => ?_ | refine libW_mono fun _ => ?_ | refine lixW_mono fun _ => ?_ | refine listW_mono ?_ | refine isL_mono ?_ | refine walkL_mono fun _ => ?_ | refine enumW_mono fun _ => ?_ | refine zipW_mono fun _ => ?_
    | refine asgW_mono fun _ => ?_ | refine putL_mono (fun _ _ _ q => ?_) hk.nx | refine augW_mono fun _ => ?_ | refine lcW_mono (fun _ _ _ _ q => ?_) fun _ _ => ?_ | refine forW_mono (fun _ _ _ _ q => ?_) fun _ => ?_ | exact q _ _ | exact q _
    | split)
theorem wm_nil   : WM F C (.nil ) := by
  intro env k k' hk h
  have h : k.a [] env := h
  show k'.a [] env
  revert h
  repeat' (first
    | exact fun z => z
    | exact hk.e _ _ | exact hk.t _ _ | exact hk.a _ _ | exact hk.i _ _ | exact hk.nx _ | exact hk.bk _ | exact hk.ct _ | exact hk.rt _ _ | exact hk.x _ _
    | exact hF _ _ _ _ _ _ (fun _ _ => hk.e _ _) (fun _ => hk.x _ _)
    
    
    | refine and_r ?_ | refine bothW_mono ?_ ?_ | refine ex_mono fun _ => ?_
    | refine take_mono hk.e | refine peek_mono fun _ => ?_ | refine binW_mono fun _ => ?_ | refine cmpW_mono fun _ => ?_ | refine b1W_mono fun _ => ?_ | refine b2W_mono fun _ => ?_ | refine ixW_mono fun _ => ?_ | refine slW_mono fun _ => ?_ | refine revW_mono fun _ => ?_ | refine partW_mono fun _ => ?_
    | refine intW_mono fun _ => ?_ | refine boolW_mono fun _ => ?_ | refine truthW_mono fun _ => ?_ | refine itemW_mono fun _ => ?_ | refine lstW_mono fun _ => ?_ | refine strW_mono fun _ => ?_ | refine m1W_mono fun _ => ?_ | refine libW_mono fun _ => ?_ | refine lixW_mono fun _ => ?_ | refine listW_mono ?_ | refine isL_mono ?_ | refine walkL_mono fun _ => ?_ | refine enumW_mono fun _ => ?_ | refine zipW_mono fun _ => ?_
    | refine asgW_mono fun _ => ?_ | refine putL_mono (fun _ _ _ q => ?_) hk.nx | refine augW_mono fun _ => ?_ | refine lcW_mono (fun _ _ _ _ q => ?_) fun _ _ => ?_ | refine forW_mono (fun _ _ _ _ q => ?_) fun _ => ?_ | exact q _ _ | exact q _
    | split)
theorem wm_sno   : WM F C (.sno ) := by
  intro env k k' hk h
  have h : k.i [] env := h
  show k'.i [] env
  revert h
  repeat' (first
    | exact fun z => z
    | exact hk.e _ _ | exact hk.t _ _ | exact hk.a _ _ | exact hk.i _ _ | exact hk.nx _ | exact hk.bk _ | exact hk.ct _ | exact hk.rt _ _ | exact hk.x _ _
    | exact hF _ _ _ _ _ _ (fun _ _ => hk.e _ _) (fun _ => hk.x _ _)
    
    
    | refine and_r ?_ | refine bothW_mono ?_ ?_ | refine ex_mono fun _ => ?_
    | refine take_mono hk.e | refine peek_mono fun _ => ?_ | refine binW_mono fun _ => ?_ | refine cmpW_mono fun _ => ?_ | refine b1W_mono fun _ => ?_ | refine b2W_mono fun _ => ?_ | refine ixW_mono fun _ => ?_ | refine slW_mono fun _ => ?_ | refine revW_mono fun _ => ?_ | refine partW_mono fun _ => ?_
    | refine intW_mono fun _ => ?_ | refine boolW_mono fun _ => ?_ | refine truthW_mono fun _ => ?_ | refine itemW_mono fun _ => ?_ | refine lstW_mono fun _ => ?_ | refine strW_mono fun _ => ?_ | refine m1W_mono fun _ => ?_ | refine libW_mono fun _ => ?_ | refine lixW_mono fun _ => ?_ | refine listW_mono ?_ | refine isL_mono ?_ | refine walkL_mono fun _ => ?_ | refine enumW_mono fun _ => ?_ | refine zipW_mono fun _ => ?_
    | refine asgW_mono fun _ => ?_ | refine putL_mono (fun _ _ _ q => ?_) hk.nx | refine augW_mono fun _ => ?_ | refine lcW_mono (fun _ _ _ _ q => ?_) fun _ _ => ?_ | refine forW_mono (fun _ _ _ _ q => ?_) fun _ => ?_ | exact q _ _ | exact q _
    | split)
theorem wm_sat {e : N} (ih_e : WM F C e) : WM F C (.sat e) := by
  intro env k k' hk h
  have h : wp F C e env (kE k.x fun r env1 => intW r.d fun i => k.i [.int i] env1) := h
  show wp F C e env (kE k'.x fun r env1 => intW r.d fun i => k'.i [.int i] env1)
  revert h
  repeat' (first
    | exact fun z => z
    | exact hk.e _ _ | exact hk.t _ _ | exact hk.a _ _ | exact hk.i _ _ | exact hk.nx _ | exact hk.bk _ | exact hk.ct _ | exact hk.rt _ _ | exact hk.x _ _
    | exact hF _ _ _ _ _ _ (fun _ _ => hk.e _ _) (fun _ => hk.x _ _)
    | exact ih_e _ _ _ hk | refine ih_e _ _ _ (kE_le hk.x fun _ _ => ?_) | refine ih_e _ _ _ (kE_le (fun _ _ z => z) fun _ _ => ?_) | refine ih_e _ _ _ (kT_le hk.x fun _ _ => ?_) | refine ih_e _ _ _ (kT_le (fun _ _ z => z) fun _ _ => ?_) | refine ih_e _ _ _ (kA_le hk.x fun _ _ => ?_) | refine ih_e _ _ _ (kI_le hk.x fun _ _ => ?_) | refine ih_e _ _ _ (on_le hk fun _ => ?_) | refine ih_e _ _ _ (lp_le hk (fun _ => ?_) hk.nx) | refine ih_e _ _ _ (ox_le hk fun _ _ => ?_) | exact ih_e _ _ _ (su_le hk)
    | refine ih_e _ _ _ (lp_le hk (fun _ z => z) hk.nx)
    | refine and_r ?_ | refine bothW_mono ?_ ?_ | refine ex_mono fun _ => ?_
    | refine take_mono hk.e | refine peek_mono fun _ => ?_ | refine binW_mono fun _ => ?_ | refine cmpW_mono fun _ => ?_ | refine b1W_mono fun _ => ?_ | refine b2W_mono fun _ => ?_ | refine ixW_mono fun _ => ?_ | refine slW_mono fun _ => ?_ | refine revW_mono fun _ => ?_ | refine partW_mono fun _ => ?_
    | refine intW_mono fun _ => ?_ | refine boolW_mono fun _ => ?_ | refine truthW_mono fun _ => ?_ | refine itemW_mono fun _ => ?_ | refine lstW_mono fun _ => ?_ | refine strW_mono fun _ => ?_ | refine m1W_mono fun _ => ?_ | refine libW_mono fun _ => ?_ | refine lixW_mono fun _ => ?_ | refine listW_mono ?_ | refine isL_mono ?_ | refine walkL_mono fun _ => ?_ | refine enumW_mono fun _ => ?_ | refine zipW_mono fun _ => ?_
    | refine asgW_mono fun _ => ?_ | refine putL_mono (fun _ _ _ q => ?_) hk.nx | refine augW_mono fun _ => ?_ | refine lcW_mono (fun _ _ _ _ q => ?_) fun _ _ => ?_ | refine forW_mono (fun _ _ _ _ q => ?_) fun _ => ?_ | exact q _ _ | exact q _
    | split)
theorem wm_cons {a : N} {r : N} (ih_a : WM F C a) (ih_r : WM F C r) : WM F C (.cons a r) := by
  intro env k k' hk h
  have h : wp F C a env (kE k.x fun ra env1 => wp F C r env1 (kA k.x fun l env2 => k.a (.inl ra.d :: l) env2)) := h
  show wp F C a env (kE k'.x fun ra env1 => wp F C r env1 (kA k'.x fun l env2 => k'.a (.inl ra.d :: l) env2))
  revert h
  repeat' (first
    | exact fun z => z
    | exact hk.e _ _ | exact hk.t _ _ | exact hk.a _ _ | exact hk.i _ _ | exact hk.nx _ | exact hk.bk _ | exact hk.ct _ | exact hk.rt _ _ | exact hk.x _ _
    | exact hF _ _ _ _ _ _ (fun _ _ => hk.e _ _) (fun _ => hk.x _ _)
    | exact ih_a _ _ _ hk | refine ih_a _ _ _ (kE_le hk.x fun _ _ => ?_) | refine ih_a _ _ _ (kE_le (fun _ _ z => z) fun _ _ => ?_) | refine ih_a _ _ _ (kT_le hk.x fun _ _ => ?_) | refine ih_a _ _ _ (kT_le (fun _ _ z => z) fun _ _ => ?_) | refine ih_a _ _ _ (kA_le hk.x fun _ _ => ?_) | refine ih_a _ _ _ (kI_le hk.x fun _ _ => ?_) | refine ih_a _ _ _ (on_le hk fun _ => ?_) | refine ih_a _ _ _ (lp_le hk (fun _ => ?_) hk.nx) | refine ih_a _ _ _ (ox_le hk fun _ _ => ?_) | exact ih_a _ _ _ (su_le hk) | exact ih_r _ _ _ hk | refine ih_r _ _ _ (kE_le hk.x fun _ _ => ?_) | refine ih_r _ _ _ (kE_le (fun _ _ z => z) fun _ _ => ?_) | refine ih_r _ _ _ (kT_le hk.x fun _ _ => ?_) | refine ih_r _ _ _ (kT_le (fun _ _ z => z) fun _ _ => ?_) | refine ih_r _ _ _ (kA_le hk.x fun _ _ => ?_) | refine ih_r _ _ _ (kI_le hk.x fun _ _ => ?_) | refine ih_r _ _ _ (on_le hk fun _ => ?_) | refine ih_r _ _ _ (lp_le hk (fun _ => ?_) hk.nx) | refine ih_r _ _ _ (ox_le hk fun _ _ => ?_) | exact ih_r _ _ _ (su_le hk)
    | refine ih_a _ _ _ (lp_le hk (fun _ z => z) hk.nx) | refine ih_r _ _ _ (lp_le hk (fun _ z => z) hk.nx)
    | refine and_r ?_ | refine bothW_mono ?_ ?_ | refine ex_mono fun _ => ?_
    | refine take_mono hk.e | refine peek_mono fun _ => ?_ | refine binW_mono fun _ => ?_ | refine cmpW_mono fun _ => ?_ | refine b1W_mono fun _ => ?_ | refine b2W_mono fun _ => ?_ | refine ixW_mono fun _ => ?_ | refine slW_mono fun _ => ?_ | refine revW_mono fun _ => ?_ | refine partW_mono fun _ => ?_
    | refine intW_mono fun _ => ?_ | refine boolW_mono fun _ => ?_ | refine truthW_mono fun _ => ?_ | refine itemW_mono fun _ => ?_ | refine lstW_mono fun _ => ?_ | refine strW_mono fun _ => ?_ | refine m1W_mono fun _ => ?_ | refine libW_mono fun _ => ?_ | refine lixW_mono fun _ => ?_ | refine listW_mono ?_ | refine isL_mono ?_ | refine walkL_mono fun _ => ?_ | refine enumW_mono fun _ => ?_ | refine zipW_mono fun _ => ?_
    | refine asgW_mono fun _ => ?_ | refine putL_mono (fun _ _ _ q => ?_) hk.nx | refine augW_mono fun _ => ?_ | refine lcW_mono (fun _ _ _ _ q => ?_) fun _ _ => ?_ | refine forW_mono (fun _ _ _ _ q => ?_) fun _ => ?_ | exact q _ _ | exact q _
    | split)
theorem wm_consM {i : Nat} {r : N} (ih_r : WM F C r) : WM F C (.consM i r) := by
  intro env k k' hk h
  have h : peek env i fun _ => wp F C r env (kA k.x fun l env1 => k.a (.inr i :: l) env1) := h
  show peek env i fun _ => wp F C r env (kA k'.x fun l env1 => k'.a (.inr i :: l) env1)
  revert h
  repeat' (first
    | exact fun z => z
    | exact hk.e _ _ | exact hk.t _ _ | exact hk.a _ _ | exact hk.i _ _ | exact hk.nx _ | exact hk.bk _ | exact hk.ct _ | exact hk.rt _ _ | exact hk.x _ _
    | exact hF _ _ _ _ _ _ (fun _ _ => hk.e _ _) (fun _ => hk.x _ _)
    | exact ih_r _ _ _ hk | refine ih_r _ _ _ (kE_le hk.x fun _ _ => ?_) | refine ih_r _ _ _ (kE_le (fun _ _ z => z) fun _ _ => ?_) | refine ih_r _ _ _ (kT_le hk.x fun _ _ => ?_) | refine ih_r _ _ _ (kT_le (fun _ _ z => z) fun _ _ => ?_) | refine ih_r _ _ _ (kA_le hk.x fun _ _ => ?_) | refine ih_r _ _ _ (kI_le hk.x fun _ _ => ?_) | refine ih_r _ _ _ (on_le hk fun _ => ?_) | refine ih_r _ _ _ (lp_le hk (fun _ => ?_) hk.nx) | refine ih_r _ _ _ (ox_le hk fun _ _ => ?_) | exact ih_r _ _ _ (su_le hk)
    | refine ih_r _ _ _ (lp_le hk (fun _ z => z) hk.nx)
    | refine and_r ?_ | refine bothW_mono ?_ ?_ | refine ex_mono fun _ => ?_
    | refine take_mono hk.e | refine peek_mono fun _ => ?_ | refine binW_mono fun _ => ?_ | refine cmpW_mono fun _ => ?_ | refine b1W_mono fun _ => ?_ | refine b2W_mono fun _ => ?_ | refine ixW_mono fun _ => ?_ | refine slW_mono fun _ => ?_ | refine revW_mono fun _ => ?_ | refine partW_mono fun _ => ?_
    | refine intW_mono fun _ => ?_ | refine boolW_mono fun _ => ?_ | refine truthW_mono fun _ => ?_ | refine itemW_mono fun _ => ?_ | refine lstW_mono fun _ => ?_ | refine strW_mono fun _ => ?_ | refine m1W_mono fun _ => ?_ | refine libW_mono fun _ => ?_ | refine lixW_mono fun _ => ?_ | refine listW_mono ?_ | refine isL_mono ?_ | refine walkL_mono fun _ => ?_ | refine enumW_mono fun _ => ?_ | refine zipW_mono fun _ => ?_
    | refine asgW_mono fun _ => ?_ | refine putL_mono (fun _ _ _ q => ?_) hk.nx | refine augW_mono fun _ => ?_ | refine lcW_mono (fun _ _ _ _ q => ?_) fun _ _ => ?_ | refine forW_mono (fun _ _ _ _ q => ?_) fun _ => ?_ | exact q _ _ | exact q _
    | split)
theorem wm_tcmp {o : CO} {a : N} {b : N} (ih_a : WM F C a) (ih_b : WM F C b) : WM F C (.tcmp o a b) := by
  intro env k k' hk h
  have h : match a.isV, b.isV with
    | some i, some j => peek env i fun x => peek env j fun y => cmpW o x y fun r => k.t r env
    | some i, none => peek env i fun _ => wp F C b env (kE k.x fun rb env1 => peek env1 i fun x => cmpW o x rb.d fun r => k.t r env1)
    | none, some j => wp F C a env (kE k.x fun ra env1 => peek env1 j fun y => cmpW o ra.d y fun r => k.t r env1)
    | none, none => wp F C a env (kE k.x fun ra env1 => wp F C b env1 (kE k.x fun rb env2 => cmpW o ra.d rb.d fun r => k.t r env2)) := h
  show match a.isV, b.isV with
    | some i, some j => peek env i fun x => peek env j fun y => cmpW o x y fun r => k'.t r env
    | some i, none => peek env i fun _ => wp F C b env (kE k'.x fun rb env1 => peek env1 i fun x => cmpW o x rb.d fun r => k'.t r env1)
    | none, some j => wp F C a env (kE k'.x fun ra env1 => peek env1 j fun y => cmpW o ra.d y fun r => k'.t r env1)
    | none, none => wp F C a env (kE k'.x fun ra env1 => wp F C b env1 (kE k'.x fun rb env2 => cmpW o ra.d rb.d fun r => k'.t r env2))
  generalize a.isV = o_a at h ⊢
  revert h
  cases o_a <;> repeat' (first
    | exact fun z => z
    | exact hk.e _ _ | exact hk.t _ _ | exact hk.a _ _ | exact hk.i _ _ | exact hk.nx _ | exact hk.bk _ | exact hk.ct _ | exact hk.rt _ _ | exact hk.x _ _
    | exact hF _ _ _ _ _ _ (fun _ _ => hk.e _ _) (fun _ => hk.x _ _)
    | exact ih_a _ _ _ hk | refine ih_a _ _ _ (kE_le hk.x fun _ _ => ?_) | refine ih_a _ _ _ (kE_le (fun _ _ z => z) fun _ _ => ?_) | refine ih_a _ _ _ (kT_le hk.x fun _ _ => ?_) | refine ih_a _ _ _ (kT_le (fun _ _ z => z) fun _ _ => ?_) | refine ih_a _ _ _ (kA_le hk.x fun _ _ => ?_) | refine ih_a _ _ _ (kI_le hk.x fun _ _ => ?_) | refine ih_a _ _ _ (on_le hk fun _ => ?_) | refine ih_a _ _ _ (lp_le hk (fun _ => ?_) hk.nx) | refine ih_a _ _ _ (ox_le hk fun _ _ => ?_) | exact ih_a _ _ _ (su_le hk) | exact ih_b _ _ _ hk | refine ih_b _ _ _ (kE_le hk.x fun _ _ => ?_) | refine ih_b _ _ _ (kE_le (fun _ _ z => z) fun _ _ => ?_) | refine ih_b _ _ _ (kT_le hk.x fun _ _ => ?_) | refine ih_b _ _ _ (kT_le (fun _ _ z => z) fun _ _ => ?_) | refine ih_b _ _ _ (kA_le hk.x fun _ _ => ?_) | refine ih_b _ _ _ (kI_le hk.x fun _ _ => ?_) | refine ih_b _ _ _ (on_le hk fun _ => ?_) | refine ih_b _ _ _ (lp_le hk (fun _ => ?_) hk.nx) | refine ih_b _ _ _ (ox_le hk fun _ _ => ?_) | exact ih_b _ _ _ (su_le hk)
    | refine ih_a _ _ _ (lp_le hk (fun _ z => z) hk.nx) | refine ih_b _ _ _ (lp_le hk (fun _ z => z) hk.nx)
    | refine and_r ?_ | refine bothW_mono ?_ ?_ | refine ex_mono fun _ => ?_
    | refine take_mono hk.e | refine peek_mono fun _ => ?_ | refine binW_mono fun _ => ?_ | refine cmpW_mono fun _ => ?_ | refine b1W_mono fun _ => ?_ | refine b2W_mono fun _ => ?_ | refine ixW_mono fun _ => ?_ | refine slW_mono fun _ => ?_ | refine revW_mono fun _ => ?_ | refine partW_mono fun _ => ?_
    | refine intW_mono fun _ => ?_ | refine boolW_mono fun _ => ?_ | refine truthW_mono fun _ => ?_ | refine itemW_mono fun _ => ?_ | refine lstW_mono fun _ => ?_ | refine strW_mono fun _ => ?_ | refine m1W_mono fun _ => ?_ | refine libW_mono fun _ => ?_ | refine lixW_mono fun _ => ?_ | refine listW_mono ?_ | refine isL_mono ?_ | refine walkL_mono fun _ => ?_ | refine enumW_mono fun _ => ?_ | refine zipW_mono fun _ => ?_
    | refine asgW_mono fun _ => ?_ | refine putL_mono (fun _ _ _ q => ?_) hk.nx | refine augW_mono fun _ => ?_ | refine lcW_mono (fun _ _ _ _ q => ?_) fun _ _ => ?_ | refine forW_mono (fun _ _ _ _ q => ?_) fun _ => ?_ | exact q _ _ | exact q _
    | split)
theorem wm_tchain {o : CO} {o' : CO} {a : N} {b : N} {c : N} (ih_a : WM F C a) (ih_b : WM F C b) (ih_c : WM F C c) : WM F C (.tchain o o' a b c) := by
  intro env k k' hk h
  have h : wp F C a env (kE k.x fun ra env1 => wp F C b env1 (kE k.x fun rb env2 => cmpW o ra.d rb.d fun t =>
      bothW t (wp F C c env2 (kE k.x fun rc env3 => cmpW o' rb.d rc.d fun u => k.t u env3)) (k.t false env2))) := h
  show wp F C a env (kE k'.x fun ra env1 => wp F C b env1 (kE k'.x fun rb env2 => cmpW o ra.d rb.d fun t =>
      bothW t (wp F C c env2 (kE k'.x fun rc env3 => cmpW o' rb.d rc.d fun u => k'.t u env3)) (k'.t false env2)))
  revert h
  repeat' (first
    | exact fun z => z
    | exact hk.e _ _ | exact hk.t _ _ | exact hk.a _ _ | exact hk.i _ _ | exact hk.nx _ | exact hk.bk _ | exact hk.ct _ | exact hk.rt _ _ | exact hk.x _ _
    | exact hF _ _ _ _ _ _ (fun _ _ => hk.e _ _) (fun _ => hk.x _ _)
    | exact ih_a _ _ _ hk | refine ih_a _ _ _ (kE_le hk.x fun _ _ => ?_) | refine ih_a _ _ _ (kE_le (fun _ _ z => z) fun _ _ => ?_) | refine ih_a _ _ _ (kT_le hk.x fun _ _ => ?_) | refine ih_a _ _ _ (kT_le (fun _ _ z => z) fun _ _ => ?_) | refine ih_a _ _ _ (kA_le hk.x fun _ _ => ?_) | refine ih_a _ _ _ (kI_le hk.x fun _ _ => ?_) | refine ih_a _ _ _ (on_le hk fun _ => ?_) | refine ih_a _ _ _ (lp_le hk (fun _ => ?_) hk.nx) | refine ih_a _ _ _ (ox_le hk fun _ _ => ?_) | exact ih_a _ _ _ (su_le hk) | exact ih_b _ _ _ hk | refine ih_b _ _ _ (kE_le hk.x fun _ _ => ?_) | refine ih_b _ _ _ (kE_le (fun _ _ z => z) fun _ _ => ?_) | refine ih_b _ _ _ (kT_le hk.x fun _ _ => ?_) | refine ih_b _ _ _ (kT_le (fun _ _ z => z) fun _ _ => ?_) | refine ih_b _ _ _ (kA_le hk.x fun _ _ => ?_) | refine ih_b _ _ _ (kI_le hk.x fun _ _ => ?_) | refine ih_b _ _ _ (on_le hk fun _ => ?_) | refine ih_b _ _ _ (lp_le hk (fun _ => ?_) hk.nx) | refine ih_b _ _ _ (ox_le hk fun _ _ => ?_) | exact ih_b _ _ _ (su_le hk) | exact ih_c _ _ _ hk | refine ih_c _ _ _ (kE_le hk.x fun _ _ => ?_) | refine ih_c _ _ _ (kE_le (fun _ _ z => z) fun _ _ => ?_) | refine ih_c _ _ _ (kT_le hk.x fun _ _ => ?_) | refine ih_c _ _ _ (kT_le (fun _ _ z => z) fun _ _ => ?_) | refine ih_c _ _ _ (kA_le hk.x fun _ _ => ?_) | refine ih_c _ _ _ (kI_le hk.x fun _ _ => ?_) | refine ih_c _ _ _ (on_le hk fun _ => ?_) | refine ih_c _ _ _ (lp_le hk (fun _ => ?_) hk.nx) | refine ih_c _ _ _ (ox_le hk fun _ _ => ?_) | exact ih_c _ _ _ (su_le hk)
    | refine ih_a _ _ _ (lp_le hk (fun _ z => z) hk.nx) | refine ih_b _ _ _ (lp_le hk (fun _ z => z) hk.nx) | refine ih_c _ _ _ (lp_le hk (fun _ z => z) hk.nx)
    | refine and_r ?_ | refine bothW_mono ?_ ?_ | refine ex_mono fun _ => ?_
    | refine take_mono hk.e | refine peek_mono fun _ => ?_ | refine binW_mono fun _ => ?_ | refine cmpW_mono fun _ => ?_ | refine b1W_mono fun _ => ?_ | refine b2W_mono fun _ => ?_ | refine ixW_mono fun _ => ?_ | refine slW_mono fun _ => ?_ | refine revW_mono fun _ => ?_ | refine partW_mono fun _ => ?_
    | refine intW_mono fun _ => ?_ | refine boolW_mono fun _ => ?_ | refine truthW_mono fun _ => ?_ | refine itemW_mono fun _ => ?_ | refine lstW_mono fun _ => ?_ | refine strW_mono fun _ => ?_ | refine m1W_mono fun _ => ?_ | refine libW_mono fun _ => ?_ | refine lixW_mono fun _ => ?_ | refine listW_mono ?_ | refine isL_mono ?_ | refine walkL_mono fun _ => ?_ | refine enumW_mono fun _ => ?_ | refine zipW_mono fun _ => ?_
    | refine asgW_mono fun _ => ?_ | refine putL_mono (fun _ _ _ q => ?_) hk.nx | refine augW_mono fun _ => ?_ | refine lcW_mono (fun _ _ _ _ q => ?_) fun _ _ => ?_ | refine forW_mono (fun _ _ _ _ q => ?_) fun _ => ?_ | exact q _ _ | exact q _
    | split)
theorem wm_tnot {a : N} (ih_a : WM F C a) : WM F C (.tnot a) := by
  intro env k k' hk h
  have h : wp F C a env (kT k.x fun b env1 => k.t (!b) env1) := h
  show wp F C a env (kT k'.x fun b env1 => k'.t (!b) env1)
  revert h
  repeat' (first
    | exact fun z => z
    | exact hk.e _ _ | exact hk.t _ _ | exact hk.a _ _ | exact hk.i _ _ | exact hk.nx _ | exact hk.bk _ | exact hk.ct _ | exact hk.rt _ _ | exact hk.x _ _
    | exact hF _ _ _ _ _ _ (fun _ _ => hk.e _ _) (fun _ => hk.x _ _)
    | exact ih_a _ _ _ hk | refine ih_a _ _ _ (kE_le hk.x fun _ _ => ?_) | refine ih_a _ _ _ (kE_le (fun _ _ z => z) fun _ _ => ?_) | refine ih_a _ _ _ (kT_le hk.x fun _ _ => ?_) | refine ih_a _ _ _ (kT_le (fun _ _ z => z) fun _ _ => ?_) | refine ih_a _ _ _ (kA_le hk.x fun _ _ => ?_) | refine ih_a _ _ _ (kI_le hk.x fun _ _ => ?_) | refine ih_a _ _ _ (on_le hk fun _ => ?_) | refine ih_a _ _ _ (lp_le hk (fun _ => ?_) hk.nx) | refine ih_a _ _ _ (ox_le hk fun _ _ => ?_) | exact ih_a _ _ _ (su_le hk)
    | refine ih_a _ _ _ (lp_le hk (fun _ z => z) hk.nx)
    | refine and_r ?_ | refine bothW_mono ?_ ?_ | refine ex_mono fun _ => ?_
    | refine take_mono hk.e | refine peek_mono fun _ => ?_ | refine binW_mono fun _ => ?_ | refine cmpW_mono fun _ => ?_ | refine b1W_mono fun _ => ?_ | refine b2W_mono fun _ => ?_ | refine ixW_mono fun _ => ?_ | refine slW_mono fun _ => ?_ | refine revW_mono fun _ => ?_ | refine partW_mono fun _ => ?_
    | refine intW_mono fun _ => ?_ | refine boolW_mono fun _ => ?_ | refine truthW_mono fun _ => ?_ | refine itemW_mono fun _ => ?_ | refine lstW_mono fun _ => ?_ | refine strW_mono fun _ => ?_ | refine m1W_mono fun _ => ?_ | refine libW_mono fun _ => ?_ | refine lixW_mono fun _ => ?_ | refine listW_mono ?_ | refine isL_mono ?_ | refine walkL_mono fun _ => ?_ | refine enumW_mono fun _ => ?_ | refine zipW_mono fun _ => ?_
    | refine asgW_mono fun _ => ?_ | refine putL_mono (fun _ _ _ q => ?_) hk.nx | refine augW_mono fun _ => ?_ | refine lcW_mono (fun _ _ _ _ q => ?_) fun _ _ => ?_ | refine forW_mono (fun _ _ _ _ q => ?_) fun _ => ?_ | exact q _ _ | exact q _
    | split)
theorem wm_tand {a : N} {b : N} (ih_a : WM F C a) (ih_b : WM F C b) : WM F C (.tand a b) := by
  intro env k k' hk h
  have h : wp F C a env (kT k.x fun t env1 => bothW t (wp F C b env1 k) (k.t false env1)) := h
  show wp F C a env (kT k'.x fun t env1 => bothW t (wp F C b env1 k') (k'.t false env1))
  revert h
  repeat' (first
    | exact fun z => z
    | exact hk.e _ _ | exact hk.t _ _ | exact hk.a _ _ | exact hk.i _ _ | exact hk.nx _ | exact hk.bk _ | exact hk.ct _ | exact hk.rt _ _ | exact hk.x _ _
    | exact hF _ _ _ _ _ _ (fun _ _ => hk.e _ _) (fun _ => hk.x _ _)
    | exact ih_a _ _ _ hk | refine ih_a _ _ _ (kE_le hk.x fun _ _ => ?_) | refine ih_a _ _ _ (kE_le (fun _ _ z => z) fun _ _ => ?_) | refine ih_a _ _ _ (kT_le hk.x fun _ _ => ?_) | refine ih_a _ _ _ (kT_le (fun _ _ z => z) fun _ _ => ?_) | refine ih_a _ _ _ (kA_le hk.x fun _ _ => ?_) | refine ih_a _ _ _ (kI_le hk.x fun _ _ => ?_) | refine ih_a _ _ _ (on_le hk fun _ => ?_) | refine ih_a _ _ _ (lp_le hk (fun _ => ?_) hk.nx) | refine ih_a _ _ _ (ox_le hk fun _ _ => ?_) | exact ih_a _ _ _ (su_le hk) | exact ih_b _ _ _ hk | refine ih_b _ _ _ (kE_le hk.x fun _ _ => ?_) | refine ih_b _ _ _ (kE_le (fun _ _ z => z) fun _ _ => ?_) | refine ih_b _ _ _ (kT_le hk.x fun _ _ => ?_) | refine ih_b _ _ _ (kT_le (fun _ _ z => z) fun _ _ => ?_) | refine ih_b _ _ _ (kA_le hk.x fun _ _ => ?_) | refine ih_b _ _ _ (kI_le hk.x fun _ _ => ?_) | refine ih_b _ _ _ (on_le hk fun _ => ?_) | refine ih_b _ _ _ (lp_le hk (fun _ => ?_) hk.nx) | refine ih_b _ _ _ (ox_le hk fun _ _ => ?_) | exact ih_b _ _ _ (su_le hk)
    | refine ih_a _ _ _ (lp_le hk (fun _ z => z) hk.nx) | refine ih_b _ _ _ (lp_le hk (fun _ z => z) hk.nx)
    | refine and_r ?_ | refine bothW_mono ?_ ?_ | refine ex_mono fun _ => ?_
    | refine take_mono hk.e | refine peek_mono fun _ => ?_ | refine binW_mono fun _ => ?_ | refine cmpW_mono fun _ => ?_ | refine b1W_mono fun _ => ?_ | refine b2W_mono fun _ => ?_ | refine ixW_mono fun _ => ?_ | refine slW_mono fun _ => ?_ | refine revW_mono fun _ => ?_ | refine partW_mono fun _ => ?_
    | refine intW_mono fun _ => ?_ | refine boolW_mono fun _ => ?_ | refine truthW_mono fun _ => ?_ | refine itemW_mono fun _ => ?_ | refine lstW_mono fun _ => ?_ | refine strW_mono fun _ => ?_ | refine m1W_mono fun _ => ?_ | refine libW_mono fun _ => ?_ | refine lixW_mono fun _ => ?_ | refine listW_mono ?_ | refine isL_mono ?_ | refine walkL_mono fun _ => ?_ | refine enumW_mono fun _ => ?_ | refine zipW_mono fun _ => ?_
    | refine asgW_mono fun _ => ?_ | refine putL_mono (fun _ _ _ q => ?_) hk.nx | refine augW_mono fun _ => ?_ | refine lcW_mono (fun _ _ _ _ q => ?_) fun _ _ => ?_ | refine forW_mono (fun _ _ _ _ q => ?_) fun _ => ?_ | exact q _ _ | exact q _
    | split)
theorem wm_tor {a : N} {b : N} (ih_a : WM F C a) (ih_b : WM F C b) : WM F C (.tor a b) := by
  intro env k k' hk h
  have h : wp F C a env (kT k.x fun t env1 => bothW t (k.t true env1) (wp F C b env1 k)) := h
  show wp F C a env (kT k'.x fun t env1 => bothW t (k'.t true env1) (wp F C b env1 k'))
  revert h
  repeat' (first
    | exact fun z => z
    | exact hk.e _ _ | exact hk.t _ _ | exact hk.a _ _ | exact hk.i _ _ | exact hk.nx _ | exact hk.bk _ | exact hk.ct _ | exact hk.rt _ _ | exact hk.x _ _
    | exact hF _ _ _ _ _ _ (fun _ _ => hk.e _ _) (fun _ => hk.x _ _)
    | exact ih_a _ _ _ hk | refine ih_a _ _ _ (kE_le hk.x fun _ _ => ?_) | refine ih_a _ _ _ (kE_le (fun _ _ z => z) fun _ _ => ?_) | refine ih_a _ _ _ (kT_le hk.x fun _ _ => ?_) | refine ih_a _ _ _ (kT_le (fun _ _ z => z) fun _ _ => ?_) | refine ih_a _ _ _ (kA_le hk.x fun _ _ => ?_) | refine ih_a _ _ _ (kI_le hk.x fun _ _ => ?_) | refine ih_a _ _ _ (on_le hk fun _ => ?_) | refine ih_a _ _ _ (lp_le hk (fun _ => ?_) hk.nx) | refine ih_a _ _ _ (ox_le hk fun _ _ => ?_) | exact ih_a _ _ _ (su_le hk) | exact ih_b _ _ _ hk | refine ih_b _ _ _ (kE_le hk.x fun _ _ => ?_) | refine ih_b _ _ _ (kE_le (fun _ _ z => z) fun _ _ => ?_) | refine ih_b _ _ _ (kT_le hk.x fun _ _ => ?_) | refine ih_b _ _ _ (kT_le (fun _ _ z => z) fun _ _ => ?_) | refine ih_b _ _ _ (kA_le hk.x fun _ _ => ?_) | refine ih_b _ _ _ (kI_le hk.x fun _ _ => ?_) | refine ih_b _ _ _ (on_le hk fun _ => ?_) | refine ih_b _ _ _ (lp_le hk (fun _ => ?_) hk.nx) | refine ih_b _ _ _ (ox_le hk fun _ _ => ?_) | exact ih_b _ _ _ (su_le hk)
    | refine ih_a _ _ _ (lp_le hk (fun _ z => z) hk.nx) | refine ih_b _ _ _ (lp_le hk (fun _ z => z) hk.nx)
    | refine and_r ?_ | refine bothW_mono ?_ ?_ | refine ex_mono fun _ => ?_
    | refine take_mono hk.e | refine peek_mono fun _ => ?_ | refine binW_mono fun _ => ?_ | refine cmpW_mono fun _ => ?_ | refine b1W_mono fun _ => ?_ | refine b2W_mono fun _ => ?_ | refine ixW_mono fun _ => ?_ | refine slW_mono fun _ => ?_ | refine revW_mono fun _ => ?_ | refine partW_mono fun _ => ?_
    | refine intW_mono fun _ => ?_ | refine boolW_mono fun _ => ?_ | refine truthW_mono fun _ => ?_ | refine itemW_mono fun _ => ?_ | refine lstW_mono fun _ => ?_ | refine strW_mono fun _ => ?_ | refine m1W_mono fun _ => ?_ | refine libW_mono fun _ => ?_ | refine lixW_mono fun _ => ?_ | refine listW_mono ?_ | refine isL_mono ?_ | refine walkL_mono fun _ => ?_ | refine enumW_mono fun _ => ?_ | refine zipW_mono fun _ => ?_
    | refine asgW_mono fun _ => ?_ | refine putL_mono (fun _ _ _ q => ?_) hk.nx | refine augW_mono fun _ => ?_ | refine lcW_mono (fun _ _ _ _ q => ?_) fun _ _ => ?_ | refine forW_mono (fun _ _ _ _ q => ?_) fun _ => ?_ | exact q _ _ | exact q _
    | split)
theorem wm_tone {a : N} (ih_a : WM F C a) : WM F C (.tone a) := by
  intro env k k' hk h
  have h : wp F C a env k := h
  show wp F C a env k'
  revert h
  repeat' (first
    | exact fun z => z
    | exact hk.e _ _ | exact hk.t _ _ | exact hk.a _ _ | exact hk.i _ _ | exact hk.nx _ | exact hk.bk _ | exact hk.ct _ | exact hk.rt _ _ | exact hk.x _ _
    | exact hF _ _ _ _ _ _ (fun _ _ => hk.e _ _) (fun _ => hk.x _ _)
    | exact ih_a _ _ _ hk | refine ih_a _ _ _ (kE_le hk.x fun _ _ => ?_) | refine ih_a _ _ _ (kE_le (fun _ _ z => z) fun _ _ => ?_) | refine ih_a _ _ _ (kT_le hk.x fun _ _ => ?_) | refine ih_a _ _ _ (kT_le (fun _ _ z => z) fun _ _ => ?_) | refine ih_a _ _ _ (kA_le hk.x fun _ _ => ?_) | refine ih_a _ _ _ (kI_le hk.x fun _ _ => ?_) | refine ih_a _ _ _ (on_le hk fun _ => ?_) | refine ih_a _ _ _ (lp_le hk (fun _ => ?_) hk.nx) | refine ih_a _ _ _ (ox_le hk fun _ _ => ?_) | exact ih_a _ _ _ (su_le hk)
    | refine ih_a _ _ _ (lp_le hk (fun _ z => z) hk.nx)
    | refine and_r ?_ | refine bothW_mono ?_ ?_ | refine ex_mono fun _ => ?_
    | refine take_mono hk.e | refine peek_mono fun _ => ?_ | refine binW_mono fun _ => ?_ | refine cmpW_mono fun _ => ?_ | refine b1W_mono fun _ => ?_ | refine b2W_mono fun _ => ?_ | refine ixW_mono fun _ => ?_ | refine slW_mono fun _ => ?_ | refine revW_mono fun _ => ?_ | refine partW_mono fun _ => ?_
    | refine intW_mono fun _ => ?_ | refine boolW_mono fun _ => ?_ | refine truthW_mono fun _ => ?_ | refine itemW_mono fun _ => ?_ | refine lstW_mono fun _ => ?_ | refine strW_mono fun _ => ?_ | refine m1W_mono fun _ => ?_ | refine libW_mono fun _ => ?_ | refine lixW_mono fun _ => ?_ | refine listW_mono ?_ | refine isL_mono ?_ | refine walkL_mono fun _ => ?_ | refine enumW_mono fun _ => ?_ | refine zipW_mono fun _ => ?_
    | refine asgW_mono fun _ => ?_ | refine putL_mono (fun _ _ _ q => ?_) hk.nx | refine augW_mono fun _ => ?_ | refine lcW_mono (fun _ _ _ _ q => ?_) fun _ _ => ?_ | refine forW_mono (fun _ _ _ _ q => ?_) fun _ => ?_ | exact q _ _ | exact q _
    | split)
theorem wm_tyes   : WM F C (.tyes ) := by
  intro env k k' hk h
  have h : k.t true env := h
  show k'.t true env
  revert h
  repeat' (first
    | exact fun z => z
    | exact hk.e _ _ | exact hk.t _ _ | exact hk.a _ _ | exact hk.i _ _ | exact hk.nx _ | exact hk.bk _ | exact hk.ct _ | exact hk.rt _ _ | exact hk.x _ _
    | exact hF _ _ _ _ _ _ (fun _ _ => hk.e _ _) (fun _ => hk.x _ _)
    
    
    | refine and_r ?_ | refine bothW_mono ?_ ?_ | refine ex_mono fun _ => ?_
    | refine take_mono hk.e | refine peek_mono fun _ => ?_ | refine binW_mono fun _ => ?_ | refine cmpW_mono fun _ => ?_ | refine b1W_mono fun _ => ?_ | refine b2W_mono fun _ => ?_ | refine ixW_mono fun _ => ?_ | refine slW_mono fun _ => ?_ | refine revW_mono fun _ => ?_ | refine partW_mono fun _ => ?_
    | refine intW_mono fun _ => ?_ | refine boolW_mono fun _ => ?_ | refine truthW_mono fun _ => ?_ | refine itemW_mono fun _ => ?_ | refine lstW_mono fun _ => ?_ | refine strW_mono fun _ => ?_ | refine m1W_mono fun _ => ?_ | refine libW_mono fun _ => ?_ | refine lixW_mono fun _ => ?_ | refine listW_mono ?_ | refine isL_mono ?_ | refine walkL_mono fun _ => ?_ | refine enumW_mono fun _ => ?_ | refine zipW_mono fun _ => ?_
    | refine asgW_mono fun _ => ?_ | refine putL_mono (fun _ _ _ q => ?_) hk.nx | refine augW_mono fun _ => ?_ | refine lcW_mono (fun _ _ _ _ q => ?_) fun _ _ => ?_ | refine forW_mono (fun _ _ _ _ q => ?_) fun _ => ?_ | exact q _ _ | exact q _
    | split)
theorem wm_tval {a : N} (ih_a : WM F C a) : WM F C (.tval a) := by
  intro env k k' hk h
  have h : match a.isV with
    | some i => peek env i fun d => truthW d fun b => k.t b env
    | none => wp F C a env (kE k.x fun r env1 => truthW r.d fun b => k.t b env1) := h
  show match a.isV with
    | some i => peek env i fun d => truthW d fun b => k'.t b env
    | none => wp F C a env (kE k'.x fun r env1 => truthW r.d fun b => k'.t b env1)
  generalize a.isV = o_a at h ⊢
  revert h
  cases o_a <;> repeat' (first
    | exact fun z => z
    | exact hk.e _ _ | exact hk.t _ _ | exact hk.a _ _ | exact hk.i _ _ | exact hk.nx _ | exact hk.bk _ | exact hk.ct _ | exact hk.rt _ _ | exact hk.x _ _
    | exact hF _ _ _ _ _ _ (fun _ _ => hk.e _ _) (fun _ => hk.x _ _)
    | exact ih_a _ _ _ hk | refine ih_a _ _ _ (kE_le hk.x fun _ _ => ?_) | refine ih_a _ _ _ (kE_le (fun _ _ z => z) fun _ _ => ?_) | refine ih_a _ _ _ (kT_le hk.x fun _ _ => ?_) | refine ih_a _ _ _ (kT_le (fun _ _ z => z) fun _ _ => ?_) | refine ih_a _ _ _ (kA_le hk.x fun _ _ => ?_) | refine ih_a _ _ _ (kI_le hk.x fun _ _ => ?_) | refine ih_a _ _ _ (on_le hk fun _ => ?_) | refine ih_a _ _ _ (lp_le hk (fun _ => ?_) hk.nx) | refine ih_a _ _ _ (ox_le hk fun _ _ => ?_) | exact ih_a _ _ _ (su_le hk)
    | refine ih_a _ _ _ (lp_le hk (fun _ z => z) hk.nx)
    | refine and_r ?_ | refine bothW_mono ?_ ?_ | refine ex_mono fun _ => ?_
    | refine take_mono hk.e | refine peek_mono fun _ => ?_ | refine binW_mono fun _ => ?_ | refine cmpW_mono fun _ => ?_ | refine b1W_mono fun _ => ?_ | refine b2W_mono fun _ => ?_ | refine ixW_mono fun _ => ?_ | refine slW_mono fun _ => ?_ | refine revW_mono fun _ => ?_ | refine partW_mono fun _ => ?_
    | refine intW_mono fun _ => ?_ | refine boolW_mono fun _ => ?_ | refine truthW_mono fun _ => ?_ | refine itemW_mono fun _ => ?_ | refine lstW_mono fun _ => ?_ | refine strW_mono fun _ => ?_ | refine m1W_mono fun _ => ?_ | refine libW_mono fun _ => ?_ | refine lixW_mono fun _ => ?_ | refine listW_mono ?_ | refine isL_mono ?_ | refine walkL_mono fun _ => ?_ | refine enumW_mono fun _ => ?_ | refine zipW_mono fun _ => ?_
    | refine asgW_mono fun _ => ?_ | refine putL_mono (fun _ _ _ q => ?_) hk.nx | refine augW_mono fun _ => ?_ | refine lcW_mono (fun _ _ _ _ q => ?_) fun _ _ => ?_ | refine forW_mono (fun _ _ _ _ q => ?_) fun _ => ?_ | exact q _ _ | exact q _
    | split)
theorem wm_itl {a : N} (ih_a : WM F C a) : WM F C (.itl a) := by
  intro env k k' hk h
  have h : wp F C a env (kE k.x fun r env1 => walkL r.d fun ds => k.i ds env1) := h
  show wp F C a env (kE k'.x fun r env1 => walkL r.d fun ds => k'.i ds env1)
  revert h
  repeat' (first
    | exact fun z => z
    | exact hk.e _ _ | exact hk.t _ _ | exact hk.a _ _ | exact hk.i _ _ | exact hk.nx _ | exact hk.bk _ | exact hk.ct _ | exact hk.rt _ _ | exact hk.x _ _
    | exact hF _ _ _ _ _ _ (fun _ _ => hk.e _ _) (fun _ => hk.x _ _)
    | exact ih_a _ _ _ hk | refine ih_a _ _ _ (kE_le hk.x fun _ _ => ?_) | refine ih_a _ _ _ (kE_le (fun _ _ z => z) fun _ _ => ?_) | refine ih_a _ _ _ (kT_le hk.x fun _ _ => ?_) | refine ih_a _ _ _ (kT_le (fun _ _ z => z) fun _ _ => ?_) | refine ih_a _ _ _ (kA_le hk.x fun _ _ => ?_) | refine ih_a _ _ _ (kI_le hk.x fun _ _ => ?_) | refine ih_a _ _ _ (on_le hk fun _ => ?_) | refine ih_a _ _ _ (lp_le hk (fun _ => ?_) hk.nx) | refine ih_a _ _ _ (ox_le hk fun _ _ => ?_) | exact ih_a _ _ _ (su_le hk)
    | refine ih_a _ _ _ (lp_le hk (fun _ z => z) hk.nx)
    | refine and_r ?_ | refine bothW_mono ?_ ?_ | refine ex_mono fun _ => ?_
    | refine take_mono hk.e | refine peek_mono fun _ => ?_ | refine binW_mono fun _ => ?_ | refine cmpW_mono fun _ => ?_ | refine b1W_mono fun _ => ?_ | refine b2W_mono fun _ => ?_ | refine ixW_mono fun _ => ?_ | refine slW_mono fun _ => ?_ | refine revW_mono fun _ => ?_ | refine partW_mono fun _ => ?_
    | refine intW_mono fun _ => ?_ | refine boolW_mono fun _ => ?_ | refine truthW_mono fun _ => ?_ | refine itemW_mono fun _ => ?_ | refine lstW_mono fun _ => ?_ | refine strW_mono fun _ => ?_ | refine m1W_mono fun _ => ?_ | refine libW_mono fun _ => ?_ | refine lixW_mono fun _ => ?_ | refine listW_mono ?_ | refine isL_mono ?_ | refine walkL_mono fun _ => ?_ | refine enumW_mono fun _ => ?_ | refine zipW_mono fun _ => ?_
    | refine asgW_mono fun _ => ?_ | refine putL_mono (fun _ _ _ q => ?_) hk.nx | refine augW_mono fun _ => ?_ | refine lcW_mono (fun _ _ _ _ q => ?_) fun _ _ => ?_ | refine forW_mono (fun _ _ _ _ q => ?_) fun _ => ?_ | exact q _ _ | exact q _
    | split)
theorem wm_iten {a : N} (ih_a : WM F C a) : WM F C (.iten a) := by
  intro env k k' hk h
  have h : wp F C a env (kE k.x fun r env1 => enumW r.d fun ds => k.i ds env1) := h
  show wp F C a env (kE k'.x fun r env1 => enumW r.d fun ds => k'.i ds env1)
  revert h
  repeat' (first
    | exact fun z => z
    | exact hk.e _ _ | exact hk.t _ _ | exact hk.a _ _ | exact hk.i _ _ | exact hk.nx _ | exact hk.bk _ | exact hk.ct _ | exact hk.rt _ _ | exact hk.x _ _
    | exact hF _ _ _ _ _ _ (fun _ _ => hk.e _ _) (fun _ => hk.x _ _)
    | exact ih_a _ _ _ hk | refine ih_a _ _ _ (kE_le hk.x fun _ _ => ?_) | refine ih_a _ _ _ (kE_le (fun _ _ z => z) fun _ _ => ?_) | refine ih_a _ _ _ (kT_le hk.x fun _ _ => ?_) | refine ih_a _ _ _ (kT_le (fun _ _ z => z) fun _ _ => ?_) | refine ih_a _ _ _ (kA_le hk.x fun _ _ => ?_) | refine ih_a _ _ _ (kI_le hk.x fun _ _ => ?_) | refine ih_a _ _ _ (on_le hk fun _ => ?_) | refine ih_a _ _ _ (lp_le hk (fun _ => ?_) hk.nx) | refine ih_a _ _ _ (ox_le hk fun _ _ => ?_) | exact ih_a _ _ _ (su_le hk)
    | refine ih_a _ _ _ (lp_le hk (fun _ z => z) hk.nx)
    | refine and_r ?_ | refine bothW_mono ?_ ?_ | refine ex_mono fun _ => ?_
    | refine take_mono hk.e | refine peek_mono fun _ => ?_ | refine binW_mono fun _ => ?_ | refine cmpW_mono fun _ => ?_ | refine b1W_mono fun _ => ?_ | refine b2W_mono fun _ => ?_ | refine ixW_mono fun _ => ?_ | refine slW_mono fun _ => ?_ | refine revW_mono fun _ => ?_ | refine partW_mono fun _ => ?_
    | refine intW_mono fun _ => ?_ | refine boolW_mono fun _ => ?_ | refine truthW_mono fun _ => ?_ | refine itemW_mono fun _ => ?_ | refine lstW_mono fun _ => ?_ | refine strW_mono fun _ => ?_ | refine m1W_mono fun _ => ?_ | refine libW_mono fun _ => ?_ | refine lixW_mono fun _ => ?_ | refine listW_mono ?_ | refine isL_mono ?_ | refine walkL_mono fun _ => ?_ | refine enumW_mono fun _ => ?_ | refine zipW_mono fun _ => ?_
    | refine asgW_mono fun _ => ?_ | refine putL_mono (fun _ _ _ q => ?_) hk.nx | refine augW_mono fun _ => ?_ | refine lcW_mono (fun _ _ _ _ q => ?_) fun _ _ => ?_ | refine forW_mono (fun _ _ _ _ q => ?_) fun _ => ?_ | exact q _ _ | exact q _
    | split)
theorem wm_itz {a : N} {b : N} (ih_a : WM F C a) (ih_b : WM F C b) : WM F C (.itz a b) := by
  intro env k k' hk h
  have h : wp F C a env (kE k.x fun ra env1 => wp F C b env1 (kE k.x fun rb env2 => zipW ra.d rb.d fun ds => k.i ds env2)) := h
  show wp F C a env (kE k'.x fun ra env1 => wp F C b env1 (kE k'.x fun rb env2 => zipW ra.d rb.d fun ds => k'.i ds env2))
  revert h
  repeat' (first
    | exact fun z => z
    | exact hk.e _ _ | exact hk.t _ _ | exact hk.a _ _ | exact hk.i _ _ | exact hk.nx _ | exact hk.bk _ | exact hk.ct _ | exact hk.rt _ _ | exact hk.x _ _
    | exact hF _ _ _ _ _ _ (fun _ _ => hk.e _ _) (fun _ => hk.x _ _)
    | exact ih_a _ _ _ hk | refine ih_a _ _ _ (kE_le hk.x fun _ _ => ?_) | refine ih_a _ _ _ (kE_le (fun _ _ z => z) fun _ _ => ?_) | refine ih_a _ _ _ (kT_le hk.x fun _ _ => ?_) | refine ih_a _ _ _ (kT_le (fun _ _ z => z) fun _ _ => ?_) | refine ih_a _ _ _ (kA_le hk.x fun _ _ => ?_) | refine ih_a _ _ _ (kI_le hk.x fun _ _ => ?_) | refine ih_a _ _ _ (on_le hk fun _ => ?_) | refine ih_a _ _ _ (lp_le hk (fun _ => ?_) hk.nx) | refine ih_a _ _ _ (ox_le hk fun _ _ => ?_) | exact ih_a _ _ _ (su_le hk) | exact ih_b _ _ _ hk | refine ih_b _ _ _ (kE_le hk.x fun _ _ => ?_) | refine ih_b _ _ _ (kE_le (fun _ _ z => z) fun _ _ => ?_) | refine ih_b _ _ _ (kT_le hk.x fun _ _ => ?_) | refine ih_b _ _ _ (kT_le (fun _ _ z => z) fun _ _ => ?_) | refine ih_b _ _ _ (kA_le hk.x fun _ _ => ?_) | refine ih_b _ _ _ (kI_le hk.x fun _ _ => ?_) | refine ih_b _ _ _ (on_le hk fun _ => ?_) | refine ih_b _ _ _ (lp_le hk (fun _ => ?_) hk.nx) | refine ih_b _ _ _ (ox_le hk fun _ _ => ?_) | exact ih_b _ _ _ (su_le hk)
    | refine ih_a _ _ _ (lp_le hk (fun _ z => z) hk.nx) | refine ih_b _ _ _ (lp_le hk (fun _ z => z) hk.nx)
    | refine and_r ?_ | refine bothW_mono ?_ ?_ | refine ex_mono fun _ => ?_
    | refine take_mono hk.e | refine peek_mono fun _ => ?_ | refine binW_mono fun _ => ?_ | refine cmpW_mono fun _ => ?_ | refine b1W_mono fun _ => ?_ | refine b2W_mono fun _ => ?_ | refine ixW_mono fun _ => ?_ | refine slW_mono fun _ => ?_ | refine revW_mono fun _ => ?_ | refine partW_mono fun _ => ?_
    | refine intW_mono fun _ => ?_ | refine boolW_mono fun _ => ?_ | refine truthW_mono fun _ => ?_ | refine itemW_mono fun _ => ?_ | refine lstW_mono fun _ => ?_ | refine strW_mono fun _ => ?_ | refine m1W_mono fun _ => ?_ | refine libW_mono fun _ => ?_ | refine lixW_mono fun _ => ?_ | refine listW_mono ?_ | refine isL_mono ?_ | refine walkL_mono fun _ => ?_ | refine enumW_mono fun _ => ?_ | refine zipW_mono fun _ => ?_
    | refine asgW_mono fun _ => ?_ | refine putL_mono (fun _ _ _ q => ?_) hk.nx | refine augW_mono fun _ => ?_ | refine lcW_mono (fun _ _ _ _ q => ?_) fun _ _ => ?_ | refine forW_mono (fun _ _ _ _ q => ?_) fun _ => ?_ | exact q _ _ | exact q _
    | split)
theorem wm_itr1 {a : N} (ih_a : WM F C a) : WM F C (.itr1 a) := by
  intro env k k' hk h
  have h : wp F C a env (kE k.x fun r env1 => intW r.d fun n => inR n ∧ k.i (rangeD 0 n.toNat) env1) := h
  show wp F C a env (kE k'.x fun r env1 => intW r.d fun n => inR n ∧ k'.i (rangeD 0 n.toNat) env1)
  revert h
  repeat' (first
    | exact fun z => z
    | exact hk.e _ _ | exact hk.t _ _ | exact hk.a _ _ | exact hk.i _ _ | exact hk.nx _ | exact hk.bk _ | exact hk.ct _ | exact hk.rt _ _ | exact hk.x _ _
    | exact hF _ _ _ _ _ _ (fun _ _ => hk.e _ _) (fun _ => hk.x _ _)
    | exact ih_a _ _ _ hk | refine ih_a _ _ _ (kE_le hk.x fun _ _ => ?_) | refine ih_a _ _ _ (kE_le (fun _ _ z => z) fun _ _ => ?_) | refine ih_a _ _ _ (kT_le hk.x fun _ _ => ?_) | refine ih_a _ _ _ (kT_le (fun _ _ z => z) fun _ _ => ?_) | refine ih_a _ _ _ (kA_le hk.x fun _ _ => ?_) | refine ih_a _ _ _ (kI_le hk.x fun _ _ => ?_) | refine ih_a _ _ _ (on_le hk fun _ => ?_) | refine ih_a _ _ _ (lp_le hk (fun _ => ?_) hk.nx) | refine ih_a _ _ _ (ox_le hk fun _ _ => ?_) | exact ih_a _ _ _ (su_le hk)
    | refine ih_a _ _ _ (lp_le hk (fun _ z => z) hk.nx)
    | refine and_r ?_ | refine bothW_mono ?_ ?_ | refine ex_mono fun _ => ?_
    | refine take_mono hk.e | refine peek_mono fun _ => ?_ | refine binW_mono fun _ => ?_ | refine cmpW_mono fun _ => ?_ | refine b1W_mono fun _ => ?_ | refine b2W_mono fun _ => ?_ | refine ixW_mono fun _ => ?_ | refine slW_mono fun _ => ?_ | refine revW_mono fun _ => ?_ | refine partW_mono fun _ => ?_
    | refine intW_mono fun _ => ?_ | refine boolW_mono fun _ => ?_ | refine truthW_mono fun _ => ?_ | refine itemW_mono fun _ => ?_ | refine lstW_mono fun _ => ?_ | refine strW_mono fun _ => ?_ | refine m1W_mono fun _ => ?_ | refine libW_mono fun _ => ?_ | refine lixW_mono fun _ => ?_ | refine listW_mono ?_ | refine isL_mono ?_ | refine walkL_mono fun _ => ?_ | refine enumW_mono fun _ => ?_ | refine zipW_mono fun _ => ?_
    | refine asgW_mono fun _ => ?_ | refine putL_mono (fun _ _ _ q => ?_) hk.nx | refine augW_mono fun _ => ?_ | refine lcW_mono (fun _ _ _ _ q => ?_) fun _ _ => ?_ | refine forW_mono (fun _ _ _ _ q => ?_) fun _ => ?_ | exact q _ _ | exact q _
    | split)
theorem wm_itr2 {a : N} {b : N} (ih_a : WM F C a) (ih_b : WM F C b) : WM F C (.itr2 a b) := by
  intro env k k' hk h
  have h : wp F C a env (kE k.x fun ra env1 => wp F C b env1 (kE k.x fun rb env2 => intW ra.d fun i => intW rb.d fun j => inR i ∧ inR j ∧ k.i (rangeD i (j - i).toNat) env2)) := h
  show wp F C a env (kE k'.x fun ra env1 => wp F C b env1 (kE k'.x fun rb env2 => intW ra.d fun i => intW rb.d fun j => inR i ∧ inR j ∧ k'.i (rangeD i (j - i).toNat) env2))
  revert h
  repeat' (first
    | exact fun z => z
    | exact hk.e _ _ | exact hk.t _ _ | exact hk.a _ _ | exact hk.i _ _ | exact hk.nx _ | exact hk.bk _ | exact hk.ct _ | exact hk.rt _ _ | exact hk.x _ _
    | exact hF _ _ _ _ _ _ (fun _ _ => hk.e _ _) (fun _ => hk.x _ _)
    | exact ih_a _ _ _ hk | refine ih_a _ _ _ (kE_le hk.x fun _ _ => ?_) | refine ih_a _ _ _ (kE_le (fun _ _ z => z) fun _ _ => ?_) | refine ih_a _ _ _ (kT_le hk.x fun _ _ => ?_) | refine ih_a _ _ _ (kT_le (fun _ _ z => z) fun _ _ => ?_) | refine ih_a _ _ _ (kA_le hk.x fun _ _ => ?_) | refine ih_a _ _ _ (kI_le hk.x fun _ _ => ?_) | refine ih_a _ _ _ (on_le hk fun _ => ?_) | refine ih_a _ _ _ (lp_le hk (fun _ => ?_) hk.nx) | refine ih_a _ _ _ (ox_le hk fun _ _ => ?_) | exact ih_a _ _ _ (su_le hk) | exact ih_b _ _ _ hk | refine ih_b _ _ _ (kE_le hk.x fun _ _ => ?_) | refine ih_b _ _ _ (kE_le (fun _ _ z => z) fun _ _ => ?_) | refine ih_b _ _ _ (kT_le hk.x fun _ _ => ?_) | refine ih_b _ _ _ (kT_le (fun _ _ z => z) fun _ _ => ?_) | refine ih_b _ _ _ (kA_le hk.x fun _ _ => ?_) | refine ih_b _ _ _ (kI_le hk.x fun _ _ => ?_) | refine ih_b _ _ _ (on_le hk fun _ => ?_) | refine ih_b _ _ _ (lp_le hk (fun _ => ?_) hk.nx) | refine ih_b _ _ _ (ox_le hk fun _ _ => ?_) | exact ih_b _ _ _ (su_le hk)
    | refine ih_a _ _ _ (lp_le hk (fun _ z => z) hk.nx) | refine ih_b _ _ _ (lp_le hk (fun _ z => z) hk.nx)
    | refine and_r ?_ | refine bothW_mono ?_ ?_ | refine ex_mono fun _ => ?_
    | refine take_mono hk.e | refine peek_mono fun _ => ?_ | refine binW_mono fun _ => ?_ | refine cmpW_mono fun _ => ?_ | refine b1W_mono fun _ => ?_ | refine b2W_mono fun _ => ?_ | refine ixW_mono fun _ => ?_ | refine slW_mono fun _ => ?_ | refine revW_mono fun _ => ?_ | refine partW_mono fun _ => ?_
    | refine intW_mono fun _ => ?_ | refine boolW_mono fun _ => ?_ | refine truthW_mono fun _ => ?_ | refine itemW_mono fun _ => ?_ | refine lstW_mono fun _ => ?_ | refine strW_mono fun _ => ?_ | refine m1W_mono fun _ => ?_ | refine libW_mono fun _ => ?_ | refine lixW_mono fun _ => ?_ | refine listW_mono ?_ | refine isL_mono ?_ | refine walkL_mono fun _ => ?_ | refine enumW_mono fun _ => ?_ | refine zipW_mono fun _ => ?_
    | refine asgW_mono fun _ => ?_ | refine putL_mono (fun _ _ _ q => ?_) hk.nx | refine augW_mono fun _ => ?_ | refine lcW_mono (fun _ _ _ _ q => ?_) fun _ _ => ?_ | refine forW_mono (fun _ _ _ _ q => ?_) fun _ => ?_ | exact q _ _ | exact q _
    | split)
theorem wm_set {i : Nat} {e : N} (ih_e : WM F C e) : WM F C (.set i e) := by
  intro env k k' hk h
  have h : wp F C e env (kE k.x fun r env1 => stR i r env1 k.nx) := h
  show wp F C e env (kE k'.x fun r env1 => stR i r env1 k'.nx)
  revert h
  repeat' (first
    | exact fun z => z
    | exact hk.e _ _ | exact hk.t _ _ | exact hk.a _ _ | exact hk.i _ _ | exact hk.nx _ | exact hk.bk _ | exact hk.ct _ | exact hk.rt _ _ | exact hk.x _ _
    | exact hF _ _ _ _ _ _ (fun _ _ => hk.e _ _) (fun _ => hk.x _ _)
    | exact ih_e _ _ _ hk | refine ih_e _ _ _ (kE_le hk.x fun _ _ => ?_) | refine ih_e _ _ _ (kE_le (fun _ _ z => z) fun _ _ => ?_) | refine ih_e _ _ _ (kT_le hk.x fun _ _ => ?_) | refine ih_e _ _ _ (kT_le (fun _ _ z => z) fun _ _ => ?_) | refine ih_e _ _ _ (kA_le hk.x fun _ _ => ?_) | refine ih_e _ _ _ (kI_le hk.x fun _ _ => ?_) | refine ih_e _ _ _ (on_le hk fun _ => ?_) | refine ih_e _ _ _ (lp_le hk (fun _ => ?_) hk.nx) | refine ih_e _ _ _ (ox_le hk fun _ _ => ?_) | exact ih_e _ _ _ (su_le hk)
    | refine ih_e _ _ _ (lp_le hk (fun _ z => z) hk.nx)
    | refine and_r ?_ | refine bothW_mono ?_ ?_ | refine ex_mono fun _ => ?_
    | refine take_mono hk.e | refine peek_mono fun _ => ?_ | refine binW_mono fun _ => ?_ | refine cmpW_mono fun _ => ?_ | refine b1W_mono fun _ => ?_ | refine b2W_mono fun _ => ?_ | refine ixW_mono fun _ => ?_ | refine slW_mono fun _ => ?_ | refine revW_mono fun _ => ?_ | refine partW_mono fun _ => ?_
    | refine intW_mono fun _ => ?_ | refine boolW_mono fun _ => ?_ | refine truthW_mono fun _ => ?_ | refine itemW_mono fun _ => ?_ | refine lstW_mono fun _ => ?_ | refine strW_mono fun _ => ?_ | refine m1W_mono fun _ => ?_ | refine libW_mono fun _ => ?_ | refine lixW_mono fun _ => ?_ | refine listW_mono ?_ | refine isL_mono ?_ | refine walkL_mono fun _ => ?_ | refine enumW_mono fun _ => ?_ | refine zipW_mono fun _ => ?_
    | refine asgW_mono fun _ => ?_ | refine putL_mono (fun _ _ _ q => ?_) hk.nx | refine augW_mono fun _ => ?_ | refine lcW_mono (fun _ _ _ _ q => ?_) fun _ _ => ?_ | refine forW_mono (fun _ _ _ _ q => ?_) fun _ => ?_ | exact q _ _ | exact q _
    | split)
theorem wm_unp {is : List Pn} {e : N} (ih_e : WM F C e) : WM F C (.unp is e) := by
  intro env k k' hk h
  have h : wp F C e env (kE k.x fun r env1 => asgW (.inr is) r.d env1 k.nx) := h
  show wp F C e env (kE k'.x fun r env1 => asgW (.inr is) r.d env1 k'.nx)
  revert h
  repeat' (first
    | exact fun z => z
    | exact hk.e _ _ | exact hk.t _ _ | exact hk.a _ _ | exact hk.i _ _ | exact hk.nx _ | exact hk.bk _ | exact hk.ct _ | exact hk.rt _ _ | exact hk.x _ _
    | exact hF _ _ _ _ _ _ (fun _ _ => hk.e _ _) (fun _ => hk.x _ _)
    | exact ih_e _ _ _ hk | refine ih_e _ _ _ (kE_le hk.x fun _ _ => ?_) | refine ih_e _ _ _ (kE_le (fun _ _ z => z) fun _ _ => ?_) | refine ih_e _ _ _ (kT_le hk.x fun _ _ => ?_) | refine ih_e _ _ _ (kT_le (fun _ _ z => z) fun _ _ => ?_) | refine ih_e _ _ _ (kA_le hk.x fun _ _ => ?_) | refine ih_e _ _ _ (kI_le hk.x fun _ _ => ?_) | refine ih_e _ _ _ (on_le hk fun _ => ?_) | refine ih_e _ _ _ (lp_le hk (fun _ => ?_) hk.nx) | refine ih_e _ _ _ (ox_le hk fun _ _ => ?_) | exact ih_e _ _ _ (su_le hk)
    | refine ih_e _ _ _ (lp_le hk (fun _ z => z) hk.nx)
    | refine and_r ?_ | refine bothW_mono ?_ ?_ | refine ex_mono fun _ => ?_
    | refine take_mono hk.e | refine peek_mono fun _ => ?_ | refine binW_mono fun _ => ?_ | refine cmpW_mono fun _ => ?_ | refine b1W_mono fun _ => ?_ | refine b2W_mono fun _ => ?_ | refine ixW_mono fun _ => ?_ | refine slW_mono fun _ => ?_ | refine revW_mono fun _ => ?_ | refine partW_mono fun _ => ?_
    | refine intW_mono fun _ => ?_ | refine boolW_mono fun _ => ?_ | refine truthW_mono fun _ => ?_ | refine itemW_mono fun _ => ?_ | refine lstW_mono fun _ => ?_ | refine strW_mono fun _ => ?_ | refine m1W_mono fun _ => ?_ | refine libW_mono fun _ => ?_ | refine lixW_mono fun _ => ?_ | refine listW_mono ?_ | refine isL_mono ?_ | refine walkL_mono fun _ => ?_ | refine enumW_mono fun _ => ?_ | refine zipW_mono fun _ => ?_
    | refine asgW_mono fun _ => ?_ | refine putL_mono (fun _ _ _ q => ?_) hk.nx | refine augW_mono fun _ => ?_ | refine lcW_mono (fun _ _ _ _ q => ?_) fun _ _ => ?_ | refine forW_mono (fun _ _ _ _ q => ?_) fun _ => ?_ | exact q _ _ | exact q _
    | split)
theorem wm_seti {i : Nat} {b : N} {e : N} (ih_b : WM F C b) (ih_e : WM F C e) : WM F C (.seti i b e) := by
  intro env k k' hk h
  have h : wp F C e env (kE k.x fun r env1 => isL env1 i <| wp F C b env1 (kE k.x fun rb env2 => intW rb.d fun z => putL env2 i (fun ds c => ∃ j, ixN ds.length z = some j ∧ c (ds.set j r.d)) k.nx)) := h
  show wp F C e env (kE k'.x fun r env1 => isL env1 i <| wp F C b env1 (kE k'.x fun rb env2 => intW rb.d fun z => putL env2 i (fun ds c => ∃ j, ixN ds.length z = some j ∧ c (ds.set j r.d)) k'.nx))
  revert h
  repeat' (first
    | exact fun z => z
    | exact hk.e _ _ | exact hk.t _ _ | exact hk.a _ _ | exact hk.i _ _ | exact hk.nx _ | exact hk.bk _ | exact hk.ct _ | exact hk.rt _ _ | exact hk.x _ _
    | exact hF _ _ _ _ _ _ (fun _ _ => hk.e _ _) (fun _ => hk.x _ _)
    | exact ih_b _ _ _ hk | refine ih_b _ _ _ (kE_le hk.x fun _ _ => ?_) | refine ih_b _ _ _ (kE_le (fun _ _ z => z) fun _ _ => ?_) | refine ih_b _ _ _ (kT_le hk.x fun _ _ => ?_) | refine ih_b _ _ _ (kT_le (fun _ _ z => z) fun _ _ => ?_) | refine ih_b _ _ _ (kA_le hk.x fun _ _ => ?_) | refine ih_b _ _ _ (kI_le hk.x fun _ _ => ?_) | refine ih_b _ _ _ (on_le hk fun _ => ?_) | refine ih_b _ _ _ (lp_le hk (fun _ => ?_) hk.nx) | refine ih_b _ _ _ (ox_le hk fun _ _ => ?_) | exact ih_b _ _ _ (su_le hk) | exact ih_e _ _ _ hk | refine ih_e _ _ _ (kE_le hk.x fun _ _ => ?_) | refine ih_e _ _ _ (kE_le (fun _ _ z => z) fun _ _ => ?_) | refine ih_e _ _ _ (kT_le hk.x fun _ _ => ?_) | refine ih_e _ _ _ (kT_le (fun _ _ z => z) fun _ _ => ?_) | refine ih_e _ _ _ (kA_le hk.x fun _ _ => ?_) | refine ih_e _ _ _ (kI_le hk.x fun _ _ => ?_) | refine ih_e _ _ _ (on_le hk fun _ => ?_) | refine ih_e _ _ _ (lp_le hk (fun _ => ?_) hk.nx) | refine ih_e _ _ _ (ox_le hk fun _ _ => ?_) | exact ih_e _ _ _ (su_le hk)
    | refine ih_b _ _ _ (lp_le hk (fun _ z => z) hk.nx) | refine ih_e _ _ _ (lp_le hk (fun _ z => z) hk.nx)
    | refine and_r ?_ | refine bothW_mono ?_ ?_ | refine ex_mono fun _ => ?_
    | refine take_mono hk.e | refine peek_mono fun _ => ?_ | refine binW_mono fun _ => ?_ | refine cmpW_mono fun _ => ?_ | refine b1W_mono fun _ => ?_ | refine b2W_mono fun _ => ?_ | refine ixW_mono fun _ => ?_ | refine slW_mono fun _ => ?_ | refine revW_mono fun _ => ?_ | refine partW_mono fun _ => ?_
    | refine intW_mono fun _ => ?_ | refine boolW_mono fun _ => ?_ | refine truthW_mono fun _ => ?_ | refine itemW_mono fun _ => ?_ | refine lstW_mono fun _ => ?_ | refine strW_mono fun _ => ?_ | refine m1W_mono fun _ => ?_ | refine libW_mono fun _ => ?_ | refine lixW_mono fun _ => ?_ | refine listW_mono ?_ | refine isL_mono ?_ | refine walkL_mono fun _ => ?_ | refine enumW_mono fun _ => ?_ | refine zipW_mono fun _ => ?_
    | refine asgW_mono fun _ => ?_ | refine putL_mono (fun _ _ _ q => ?_) hk.nx | refine augW_mono fun _ => ?_ | refine lcW_mono (fun _ _ _ _ q => ?_) fun _ _ => ?_ | refine forW_mono (fun _ _ _ _ q => ?_) fun _ => ?_ | exact q _ _ | exact q _
    | split)
theorem wm_aug {i : Nat} {o : BO} {e : N} (ih_e : WM F C e) : WM F C (.aug i o e) := by
  intro env k k' hk h
  have h : peek env i fun _ => wp F C e env (kE k.x fun r env1 => peek env1 i fun x => augW o x r.d fun z => k.nx (env1.set i (.dat (.int z)))) := h
  show peek env i fun _ => wp F C e env (kE k'.x fun r env1 => peek env1 i fun x => augW o x r.d fun z => k'.nx (env1.set i (.dat (.int z))))
  revert h
  repeat' (first
    | exact fun z => z
    | exact hk.e _ _ | exact hk.t _ _ | exact hk.a _ _ | exact hk.i _ _ | exact hk.nx _ | exact hk.bk _ | exact hk.ct _ | exact hk.rt _ _ | exact hk.x _ _
    | exact hF _ _ _ _ _ _ (fun _ _ => hk.e _ _) (fun _ => hk.x _ _)
    | exact ih_e _ _ _ hk | refine ih_e _ _ _ (kE_le hk.x fun _ _ => ?_) | refine ih_e _ _ _ (kE_le (fun _ _ z => z) fun _ _ => ?_) | refine ih_e _ _ _ (kT_le hk.x fun _ _ => ?_) | refine ih_e _ _ _ (kT_le (fun _ _ z => z) fun _ _ => ?_) | refine ih_e _ _ _ (kA_le hk.x fun _ _ => ?_) | refine ih_e _ _ _ (kI_le hk.x fun _ _ => ?_) | refine ih_e _ _ _ (on_le hk fun _ => ?_) | refine ih_e _ _ _ (lp_le hk (fun _ => ?_) hk.nx) | refine ih_e _ _ _ (ox_le hk fun _ _ => ?_) | exact ih_e _ _ _ (su_le hk)
    | refine ih_e _ _ _ (lp_le hk (fun _ z => z) hk.nx)
    | refine and_r ?_ | refine bothW_mono ?_ ?_ | refine ex_mono fun _ => ?_
    | refine take_mono hk.e | refine peek_mono fun _ => ?_ | refine binW_mono fun _ => ?_ | refine cmpW_mono fun _ => ?_ | refine b1W_mono fun _ => ?_ | refine b2W_mono fun _ => ?_ | refine ixW_mono fun _ => ?_ | refine slW_mono fun _ => ?_ | refine revW_mono fun _ => ?_ | refine partW_mono fun _ => ?_
    | refine intW_mono fun _ => ?_ | refine boolW_mono fun _ => ?_ | refine truthW_mono fun _ => ?_ | refine itemW_mono fun _ => ?_ | refine lstW_mono fun _ => ?_ | refine strW_mono fun _ => ?_ | refine m1W_mono fun _ => ?_ | refine libW_mono fun _ => ?_ | refine lixW_mono fun _ => ?_ | refine listW_mono ?_ | refine isL_mono ?_ | refine walkL_mono fun _ => ?_ | refine enumW_mono fun _ => ?_ | refine zipW_mono fun _ => ?_
    | refine asgW_mono fun _ => ?_ | refine putL_mono (fun _ _ _ q => ?_) hk.nx | refine augW_mono fun _ => ?_ | refine lcW_mono (fun _ _ _ _ q => ?_) fun _ _ => ?_ | refine forW_mono (fun _ _ _ _ q => ?_) fun _ => ?_ | exact q _ _ | exact q _
    | split)
theorem wm_augi {i : Nat} {o : BO} {b : N} {e : N} (ih_b : WM F C b) (ih_e : WM F C e) : WM F C (.augi i o b e) := by
  intro env k k' hk h
  have h : isL env i <| wp F C b env (kE k.x fun rb env1 => intW rb.d fun z => itemW env1 i z fun x => wp F C e env1 (kE k.x fun r env2 => augW o (.int x) r.d fun y => putL env2 i (fun ds c => ∃ j, ixN ds.length z = some j ∧ c (ds.set j (.int y))) k.nx)) := h
  show isL env i <| wp F C b env (kE k'.x fun rb env1 => intW rb.d fun z => itemW env1 i z fun x => wp F C e env1 (kE k'.x fun r env2 => augW o (.int x) r.d fun y => putL env2 i (fun ds c => ∃ j, ixN ds.length z = some j ∧ c (ds.set j (.int y))) k'.nx))
  revert h
  repeat' (first
    | exact fun z => z
    | exact hk.e _ _ | exact hk.t _ _ | exact hk.a _ _ | exact hk.i _ _ | exact hk.nx _ | exact hk.bk _ | exact hk.ct _ | exact hk.rt _ _ | exact hk.x _ _
    | exact hF _ _ _ _ _ _ (fun _ _ => hk.e _ _) (fun _ => hk.x _ _)
    | exact ih_b _ _ _ hk | refine ih_b _ _ _ (kE_le hk.x fun _ _ => ?_) | refine ih_b _ _ _ (kE_le (fun _ _ z => z) fun _ _ => ?_) | refine ih_b _ _ _ (kT_le hk.x fun _ _ => ?_) | refine ih_b _ _ _ (kT_le (fun _ _ z => z) fun _ _ => ?_) | refine ih_b _ _ _ (kA_le hk.x fun _ _ => ?_) | refine ih_b _ _ _ (kI_le hk.x fun _ _ => ?_) | refine ih_b _ _ _ (on_le hk fun _ => ?_) | refine ih_b _ _ _ (lp_le hk (fun _ => ?_) hk.nx) | refine ih_b _ _ _ (ox_le hk fun _ _ => ?_) | exact ih_b _ _ _ (su_le hk) | exact ih_e _ _ _ hk | refine ih_e _ _ _ (kE_le hk.x fun _ _ => ?_) | refine ih_e _ _ _ (kE_le (fun _ _ z => z) fun _ _ => ?_) | refine ih_e _ _ _ (kT_le hk.x fun _ _ => ?_) | refine ih_e _ _ _ (kT_le (fun _ _ z => z) fun _ _ => ?_) | refine ih_e _ _ _ (kA_le hk.x fun _ _ => ?_) | refine ih_e _ _ _ (kI_le hk.x fun _ _ => ?_) | refine ih_e _ _ _ (on_le hk fun _ => ?_) | refine ih_e _ _ _ (lp_le hk (fun _ => ?_) hk.nx) | refine ih_e _ _ _ (ox_le hk fun _ _ => ?_) | exact ih_e _ _ _ (su_le hk)
    | refine ih_b _ _ _ (lp_le hk (fun _ z => z) hk.nx) | refine ih_e _ _ _ (lp_le hk (fun _ z => z) hk.nx)
    | refine and_r ?_ | refine bothW_mono ?_ ?_ | refine ex_mono fun _ => ?_
    | refine take_mono hk.e | refine peek_mono fun _ => ?_ | refine binW_mono fun _ => ?_ | refine cmpW_mono fun _ => ?_ | refine b1W_mono fun _ => ?_ | refine b2W_mono fun _ => ?_ | refine ixW_mono fun _ => ?_ | refine slW_mono fun _ => ?_ | refine revW_mono fun _ => ?_ | refine partW_mono fun _ => ?_
    | refine intW_mono fun _ => ?_ | refine boolW_mono fun _ => ?_ | refine truthW_mono fun _ => ?_ | refine itemW_mono fun _ => ?_ | refine lstW_mono fun _ => ?_ | refine strW_mono fun _ => ?_ | refine m1W_mono fun _ => ?_ | refine libW_mono fun _ => ?_ | refine lixW_mono fun _ => ?_ | refine listW_mono ?_ | refine isL_mono ?_ | refine walkL_mono fun _ => ?_ | refine enumW_mono fun _ => ?_ | refine zipW_mono fun _ => ?_
    | refine asgW_mono fun _ => ?_ | refine putL_mono (fun _ _ _ q => ?_) hk.nx | refine augW_mono fun _ => ?_ | refine lcW_mono (fun _ _ _ _ q => ?_) fun _ _ => ?_ | refine forW_mono (fun _ _ _ _ q => ?_) fun _ => ?_ | exact q _ _ | exact q _
    | split)
theorem wm_ex {e : N} (ih_e : WM F C e) : WM F C (.ex e) := by
  intro env k k' hk h
  have h : wp F C e env (kE k.x fun _ env1 => k.nx env1) := h
  show wp F C e env (kE k'.x fun _ env1 => k'.nx env1)
  revert h
  repeat' (first
    | exact fun z => z
    | exact hk.e _ _ | exact hk.t _ _ | exact hk.a _ _ | exact hk.i _ _ | exact hk.nx _ | exact hk.bk _ | exact hk.ct _ | exact hk.rt _ _ | exact hk.x _ _
    | exact hF _ _ _ _ _ _ (fun _ _ => hk.e _ _) (fun _ => hk.x _ _)
    | exact ih_e _ _ _ hk | refine ih_e _ _ _ (kE_le hk.x fun _ _ => ?_) | refine ih_e _ _ _ (kE_le (fun _ _ z => z) fun _ _ => ?_) | refine ih_e _ _ _ (kT_le hk.x fun _ _ => ?_) | refine ih_e _ _ _ (kT_le (fun _ _ z => z) fun _ _ => ?_) | refine ih_e _ _ _ (kA_le hk.x fun _ _ => ?_) | refine ih_e _ _ _ (kI_le hk.x fun _ _ => ?_) | refine ih_e _ _ _ (on_le hk fun _ => ?_) | refine ih_e _ _ _ (lp_le hk (fun _ => ?_) hk.nx) | refine ih_e _ _ _ (ox_le hk fun _ _ => ?_) | exact ih_e _ _ _ (su_le hk)
    | refine ih_e _ _ _ (lp_le hk (fun _ z => z) hk.nx)
    | refine and_r ?_ | refine bothW_mono ?_ ?_ | refine ex_mono fun _ => ?_
    | refine take_mono hk.e | refine peek_mono fun _ => ?_ | refine binW_mono fun _ => ?_ | refine cmpW_mono fun _ => ?_ | refine b1W_mono fun _ => ?_ | refine b2W_mono fun _ => ?_ | refine ixW_mono fun _ => ?_ | refine slW_mono fun _ => ?_ | refine revW_mono fun _ => ?_ | refine partW_mono fun _ => ?_
    | refine intW_mono fun _ => ?_ | refine boolW_mono fun _ => ?_ | refine truthW_mono fun _ => ?_ | refine itemW_mono fun _ => ?_ | refine lstW_mono fun _ => ?_ | refine strW_mono fun _ => ?_ | refine m1W_mono fun _ => ?_ | refine libW_mono fun _ => ?_ | refine lixW_mono fun _ => ?_ | refine listW_mono ?_ | refine isL_mono ?_ | refine walkL_mono fun _ => ?_ | refine enumW_mono fun _ => ?_ | refine zipW_mono fun _ => ?_
    | refine asgW_mono fun _ => ?_ | refine putL_mono (fun _ _ _ q => ?_) hk.nx | refine augW_mono fun _ => ?_ | refine lcW_mono (fun _ _ _ _ q => ?_) fun _ _ => ?_ | refine forW_mono (fun _ _ _ _ q => ?_) fun _ => ?_ | exact q _ _ | exact q _
    | split)
theorem wm_app {i : Nat} {e : N} (ih_e : WM F C e) : WM F C (.app i e) := by
  intro env k k' hk h
  have h : isL env i <| wp F C e env (kE k.x fun r env1 => putL env1 i (fun ds c => ds.length < sizeLine ∧ c (ds ++ [r.d])) k.nx) := h
  show isL env i <| wp F C e env (kE k'.x fun r env1 => putL env1 i (fun ds c => ds.length < sizeLine ∧ c (ds ++ [r.d])) k'.nx)
  revert h
  repeat' (first
    | exact fun z => z
    | exact hk.e _ _ | exact hk.t _ _ | exact hk.a _ _ | exact hk.i _ _ | exact hk.nx _ | exact hk.bk _ | exact hk.ct _ | exact hk.rt _ _ | exact hk.x _ _
    | exact hF _ _ _ _ _ _ (fun _ _ => hk.e _ _) (fun _ => hk.x _ _)
    | exact ih_e _ _ _ hk | refine ih_e _ _ _ (kE_le hk.x fun _ _ => ?_) | refine ih_e _ _ _ (kE_le (fun _ _ z => z) fun _ _ => ?_) | refine ih_e _ _ _ (kT_le hk.x fun _ _ => ?_) | refine ih_e _ _ _ (kT_le (fun _ _ z => z) fun _ _ => ?_) | refine ih_e _ _ _ (kA_le hk.x fun _ _ => ?_) | refine ih_e _ _ _ (kI_le hk.x fun _ _ => ?_) | refine ih_e _ _ _ (on_le hk fun _ => ?_) | refine ih_e _ _ _ (lp_le hk (fun _ => ?_) hk.nx) | refine ih_e _ _ _ (ox_le hk fun _ _ => ?_) | exact ih_e _ _ _ (su_le hk)
    | refine ih_e _ _ _ (lp_le hk (fun _ z => z) hk.nx)
    | refine and_r ?_ | refine bothW_mono ?_ ?_ | refine ex_mono fun _ => ?_
    | refine take_mono hk.e | refine peek_mono fun _ => ?_ | refine binW_mono fun _ => ?_ | refine cmpW_mono fun _ => ?_ | refine b1W_mono fun _ => ?_ | refine b2W_mono fun _ => ?_ | refine ixW_mono fun _ => ?_ | refine slW_mono fun _ => ?_ | refine revW_mono fun _ => ?_ | refine partW_mono fun _ => ?_
    | refine intW_mono fun _ => ?_ | refine boolW_mono fun _ => ?_ | refine truthW_mono fun _ => ?_ | refine itemW_mono fun _ => ?_ | refine lstW_mono fun _ => ?_ | refine strW_mono fun _ => ?_ | refine m1W_mono fun _ => ?_ | refine libW_mono fun _ => ?_ | refine lixW_mono fun _ => ?_ | refine listW_mono ?_ | refine isL_mono ?_ | refine walkL_mono fun _ => ?_ | refine enumW_mono fun _ => ?_ | refine zipW_mono fun _ => ?_
    | refine asgW_mono fun _ => ?_ | refine putL_mono (fun _ _ _ q => ?_) hk.nx | refine augW_mono fun _ => ?_ | refine lcW_mono (fun _ _ _ _ q => ?_) fun _ _ => ?_ | refine forW_mono (fun _ _ _ _ q => ?_) fun _ => ?_ | exact q _ _ | exact q _
    | split)
theorem wm_ext {i : Nat} {e : N} (ih_e : WM F C e) : WM F C (.ext i e) := by
  intro env k k' hk h
  have h : isL env i <| wp F C e env (kE k.x fun r env1 => lstW r.d fun es => putL env1 i (fun ds c => sz (ds.length + es.length) ∧ c (ds ++ es)) k.nx) := h
  show isL env i <| wp F C e env (kE k'.x fun r env1 => lstW r.d fun es => putL env1 i (fun ds c => sz (ds.length + es.length) ∧ c (ds ++ es)) k'.nx)
  revert h
  repeat' (first
    | exact fun z => z
    | exact hk.e _ _ | exact hk.t _ _ | exact hk.a _ _ | exact hk.i _ _ | exact hk.nx _ | exact hk.bk _ | exact hk.ct _ | exact hk.rt _ _ | exact hk.x _ _
    | exact hF _ _ _ _ _ _ (fun _ _ => hk.e _ _) (fun _ => hk.x _ _)
    | exact ih_e _ _ _ hk | refine ih_e _ _ _ (kE_le hk.x fun _ _ => ?_) | refine ih_e _ _ _ (kE_le (fun _ _ z => z) fun _ _ => ?_) | refine ih_e _ _ _ (kT_le hk.x fun _ _ => ?_) | refine ih_e _ _ _ (kT_le (fun _ _ z => z) fun _ _ => ?_) | refine ih_e _ _ _ (kA_le hk.x fun _ _ => ?_) | refine ih_e _ _ _ (kI_le hk.x fun _ _ => ?_) | refine ih_e _ _ _ (on_le hk fun _ => ?_) | refine ih_e _ _ _ (lp_le hk (fun _ => ?_) hk.nx) | refine ih_e _ _ _ (ox_le hk fun _ _ => ?_) | exact ih_e _ _ _ (su_le hk)
    | refine ih_e _ _ _ (lp_le hk (fun _ z => z) hk.nx)
    | refine and_r ?_ | refine bothW_mono ?_ ?_ | refine ex_mono fun _ => ?_
    | refine take_mono hk.e | refine peek_mono fun _ => ?_ | refine binW_mono fun _ => ?_ | refine cmpW_mono fun _ => ?_ | refine b1W_mono fun _ => ?_ | refine b2W_mono fun _ => ?_ | refine ixW_mono fun _ => ?_ | refine slW_mono fun _ => ?_ | refine revW_mono fun _ => ?_ | refine partW_mono fun _ => ?_
    | refine intW_mono fun _ => ?_ | refine boolW_mono fun _ => ?_ | refine truthW_mono fun _ => ?_ | refine itemW_mono fun _ => ?_ | refine lstW_mono fun _ => ?_ | refine strW_mono fun _ => ?_ | refine m1W_mono fun _ => ?_ | refine libW_mono fun _ => ?_ | refine lixW_mono fun _ => ?_ | refine listW_mono ?_ | refine isL_mono ?_ | refine walkL_mono fun _ => ?_ | refine enumW_mono fun _ => ?_ | refine zipW_mono fun _ => ?_
    | refine asgW_mono fun _ => ?_ | refine putL_mono (fun _ _ _ q => ?_) hk.nx | refine augW_mono fun _ => ?_ | refine lcW_mono (fun _ _ _ _ q => ?_) fun _ _ => ?_ | refine forW_mono (fun _ _ _ _ q => ?_) fun _ => ?_ | exact q _ _ | exact q _
    | split)
theorem wm_ins {i : Nat} {b : N} {e : N} (ih_b : WM F C b) (ih_e : WM F C e) : WM F C (.ins i b e) := by
  intro env k k' hk h
  have h : isL env i <| wp F C b env (kE k.x fun rb env1 => intW rb.d fun z => wp F C e env1 (kE k.x fun r env2 => putL env2 i (fun ds c => ds.length < sizeLine ∧ 0 ≤ z ∧ z < 2 ^ 63 ∧ c (ds.take z.toNat ++ [r.d] ++ ds.drop z.toNat)) k.nx)) := h
  show isL env i <| wp F C b env (kE k'.x fun rb env1 => intW rb.d fun z => wp F C e env1 (kE k'.x fun r env2 => putL env2 i (fun ds c => ds.length < sizeLine ∧ 0 ≤ z ∧ z < 2 ^ 63 ∧ c (ds.take z.toNat ++ [r.d] ++ ds.drop z.toNat)) k'.nx))
  revert h
  repeat' (first
    | exact fun z => z
    | exact hk.e _ _ | exact hk.t _ _ | exact hk.a _ _ | exact hk.i _ _ | exact hk.nx _ | exact hk.bk _ | exact hk.ct _ | exact hk.rt _ _ | exact hk.x _ _
    | exact hF _ _ _ _ _ _ (fun _ _ => hk.e _ _) (fun _ => hk.x _ _)
    | exact ih_b _ _ _ hk | refine ih_b _ _ _ (kE_le hk.x fun _ _ => ?_) | refine ih_b _ _ _ (kE_le (fun _ _ z => z) fun _ _ => ?_) | refine ih_b _ _ _ (kT_le hk.x fun _ _ => ?_) | refine ih_b _ _ _ (kT_le (fun _ _ z => z) fun _ _ => ?_) | refine ih_b _ _ _ (kA_le hk.x fun _ _ => ?_) | refine ih_b _ _ _ (kI_le hk.x fun _ _ => ?_) | refine ih_b _ _ _ (on_le hk fun _ => ?_) | refine ih_b _ _ _ (lp_le hk (fun _ => ?_) hk.nx) | refine ih_b _ _ _ (ox_le hk fun _ _ => ?_) | exact ih_b _ _ _ (su_le hk) | exact ih_e _ _ _ hk | refine ih_e _ _ _ (kE_le hk.x fun _ _ => ?_) | refine ih_e _ _ _ (kE_le (fun _ _ z => z) fun _ _ => ?_) | refine ih_e _ _ _ (kT_le hk.x fun _ _ => ?_) | refine ih_e _ _ _ (kT_le (fun _ _ z => z) fun _ _ => ?_) | refine ih_e _ _ _ (kA_le hk.x fun _ _ => ?_) | refine ih_e _ _ _ (kI_le hk.x fun _ _ => ?_) | refine ih_e _ _ _ (on_le hk fun _ => ?_) | refine ih_e _ _ _ (lp_le hk (fun _ => ?_) hk.nx) | refine ih_e _ _ _ (ox_le hk fun _ _ => ?_) | exact ih_e _ _ _ (su_le hk)
    | refine ih_b _ _ _ (lp_le hk (fun _ z => z) hk.nx) | refine ih_e _ _ _ (lp_le hk (fun _ z => z) hk.nx)
    | refine and_r ?_ | refine bothW_mono ?_ ?_ | refine ex_mono fun _ => ?_
    | refine take_mono hk.e | refine peek_mono fun _ => ?_ | refine binW_mono fun _ => ?_ | refine cmpW_mono fun _ => ?_ | refine b1W_mono fun _ => ?_ | refine b2W_mono fun _ => ?_ | refine ixW_mono fun _ => ?_ | refine slW_mono fun _ => ?_ | refine revW_mono fun _ => ?_ | refine partW_mono fun _ => ?_
    | refine intW_mono fun _ => ?_ | refine boolW_mono fun _ => ?_ | refine truthW_mono fun _ => ?_ | refine itemW_mono fun _ => ?_ | refine lstW_mono fun _ => ?_ | refine strW_mono fun _ => ?_ | refine m1W_mono fun _ => ?_ | refine libW_mono fun _ => ?_ | refine lixW_mono fun _ => ?_ | refine listW_mono ?_ | refine isL_mono ?_ | refine walkL_mono fun _ => ?_ | refine enumW_mono fun _ => ?_ | refine zipW_mono fun _ => ?_
    | refine asgW_mono fun _ => ?_ | refine putL_mono (fun _ _ _ q => ?_) hk.nx | refine augW_mono fun _ => ?_ | refine lcW_mono (fun _ _ _ _ q => ?_) fun _ _ => ?_ | refine forW_mono (fun _ _ _ _ q => ?_) fun _ => ?_ | exact q _ _ | exact q _
    | split)
theorem wm_setc {is : List Nat} {e : N} (ih_e : WM F C e) : WM F C (.setc is e) := by
  intro env k k' hk h
  have h : wp F C e env (kE k.x fun r env1 => k.nx (setAll env1 is (.dat r.d))) := h
  show wp F C e env (kE k'.x fun r env1 => k'.nx (setAll env1 is (.dat r.d)))
  revert h
  repeat' (first
    | exact fun z => z
    | exact hk.e _ _ | exact hk.t _ _ | exact hk.a _ _ | exact hk.i _ _ | exact hk.nx _ | exact hk.bk _ | exact hk.ct _ | exact hk.rt _ _ | exact hk.x _ _
    | exact hF _ _ _ _ _ _ (fun _ _ => hk.e _ _) (fun _ => hk.x _ _)
    | exact ih_e _ _ _ hk | refine ih_e _ _ _ (kE_le hk.x fun _ _ => ?_) | refine ih_e _ _ _ (kE_le (fun _ _ z => z) fun _ _ => ?_) | refine ih_e _ _ _ (kT_le hk.x fun _ _ => ?_) | refine ih_e _ _ _ (kT_le (fun _ _ z => z) fun _ _ => ?_) | refine ih_e _ _ _ (kA_le hk.x fun _ _ => ?_) | refine ih_e _ _ _ (kI_le hk.x fun _ _ => ?_) | refine ih_e _ _ _ (on_le hk fun _ => ?_) | refine ih_e _ _ _ (lp_le hk (fun _ => ?_) hk.nx) | refine ih_e _ _ _ (ox_le hk fun _ _ => ?_) | exact ih_e _ _ _ (su_le hk)
    | refine ih_e _ _ _ (lp_le hk (fun _ z => z) hk.nx)
    | refine and_r ?_ | refine bothW_mono ?_ ?_ | refine ex_mono fun _ => ?_
    | refine take_mono hk.e | refine peek_mono fun _ => ?_ | refine binW_mono fun _ => ?_ | refine cmpW_mono fun _ => ?_ | refine b1W_mono fun _ => ?_ | refine b2W_mono fun _ => ?_ | refine ixW_mono fun _ => ?_ | refine slW_mono fun _ => ?_ | refine revW_mono fun _ => ?_ | refine partW_mono fun _ => ?_
    | refine intW_mono fun _ => ?_ | refine boolW_mono fun _ => ?_ | refine truthW_mono fun _ => ?_ | refine itemW_mono fun _ => ?_ | refine lstW_mono fun _ => ?_ | refine strW_mono fun _ => ?_ | refine m1W_mono fun _ => ?_ | refine libW_mono fun _ => ?_ | refine lixW_mono fun _ => ?_ | refine listW_mono ?_ | refine isL_mono ?_ | refine walkL_mono fun _ => ?_ | refine enumW_mono fun _ => ?_ | refine zipW_mono fun _ => ?_
    | refine asgW_mono fun _ => ?_ | refine putL_mono (fun _ _ _ q => ?_) hk.nx | refine augW_mono fun _ => ?_ | refine lcW_mono (fun _ _ _ _ q => ?_) fun _ _ => ?_ | refine forW_mono (fun _ _ _ _ q => ?_) fun _ => ?_ | exact q _ _ | exact q _
    | split)
theorem wm_ret {e : N} (ih_e : WM F C e) : WM F C (.ret e) := by
  intro env k k' hk h
  have h : wp F C e env (kE k.x fun r env1 => k.rt r env1) := h
  show wp F C e env (kE k'.x fun r env1 => k'.rt r env1)
  revert h
  repeat' (first
    | exact fun z => z
    | exact hk.e _ _ | exact hk.t _ _ | exact hk.a _ _ | exact hk.i _ _ | exact hk.nx _ | exact hk.bk _ | exact hk.ct _ | exact hk.rt _ _ | exact hk.x _ _
    | exact hF _ _ _ _ _ _ (fun _ _ => hk.e _ _) (fun _ => hk.x _ _)
    | exact ih_e _ _ _ hk | refine ih_e _ _ _ (kE_le hk.x fun _ _ => ?_) | refine ih_e _ _ _ (kE_le (fun _ _ z => z) fun _ _ => ?_) | refine ih_e _ _ _ (kT_le hk.x fun _ _ => ?_) | refine ih_e _ _ _ (kT_le (fun _ _ z => z) fun _ _ => ?_) | refine ih_e _ _ _ (kA_le hk.x fun _ _ => ?_) | refine ih_e _ _ _ (kI_le hk.x fun _ _ => ?_) | refine ih_e _ _ _ (on_le hk fun _ => ?_) | refine ih_e _ _ _ (lp_le hk (fun _ => ?_) hk.nx) | refine ih_e _ _ _ (ox_le hk fun _ _ => ?_) | exact ih_e _ _ _ (su_le hk)
    | refine ih_e _ _ _ (lp_le hk (fun _ z => z) hk.nx)
    | refine and_r ?_ | refine bothW_mono ?_ ?_ | refine ex_mono fun _ => ?_
    | refine take_mono hk.e | refine peek_mono fun _ => ?_ | refine binW_mono fun _ => ?_ | refine cmpW_mono fun _ => ?_ | refine b1W_mono fun _ => ?_ | refine b2W_mono fun _ => ?_ | refine ixW_mono fun _ => ?_ | refine slW_mono fun _ => ?_ | refine revW_mono fun _ => ?_ | refine partW_mono fun _ => ?_
    | refine intW_mono fun _ => ?_ | refine boolW_mono fun _ => ?_ | refine truthW_mono fun _ => ?_ | refine itemW_mono fun _ => ?_ | refine lstW_mono fun _ => ?_ | refine strW_mono fun _ => ?_ | refine m1W_mono fun _ => ?_ | refine libW_mono fun _ => ?_ | refine lixW_mono fun _ => ?_ | refine listW_mono ?_ | refine isL_mono ?_ | refine walkL_mono fun _ => ?_ | refine enumW_mono fun _ => ?_ | refine zipW_mono fun _ => ?_
    | refine asgW_mono fun _ => ?_ | refine putL_mono (fun _ _ _ q => ?_) hk.nx | refine augW_mono fun _ => ?_ | refine lcW_mono (fun _ _ _ _ q => ?_) fun _ _ => ?_ | refine forW_mono (fun _ _ _ _ q => ?_) fun _ => ?_ | exact q _ _ | exact q _
    | split)
theorem wm_retn   : WM F C (.retn ) := by
  intro env k k' hk h
  have h : k.rt (.dat .none) env := h
  show k'.rt (.dat .none) env
  revert h
  repeat' (first
    | exact fun z => z
    | exact hk.e _ _ | exact hk.t _ _ | exact hk.a _ _ | exact hk.i _ _ | exact hk.nx _ | exact hk.bk _ | exact hk.ct _ | exact hk.rt _ _ | exact hk.x _ _
    | exact hF _ _ _ _ _ _ (fun _ _ => hk.e _ _) (fun _ => hk.x _ _)
    
    
    | refine and_r ?_ | refine bothW_mono ?_ ?_ | refine ex_mono fun _ => ?_
    | refine take_mono hk.e | refine peek_mono fun _ => ?_ | refine binW_mono fun _ => ?_ | refine cmpW_mono fun _ => ?_ | refine b1W_mono fun _ => ?_ | refine b2W_mono fun _ => ?_ | refine ixW_mono fun _ => ?_ | refine slW_mono fun _ => ?_ | refine revW_mono fun _ => ?_ | refine partW_mono fun _ => ?_
    | refine intW_mono fun _ => ?_ | refine boolW_mono fun _ => ?_ | refine truthW_mono fun _ => ?_ | refine itemW_mono fun _ => ?_ | refine lstW_mono fun _ => ?_ | refine strW_mono fun _ => ?_ | refine m1W_mono fun _ => ?_ | refine libW_mono fun _ => ?_ | refine lixW_mono fun _ => ?_ | refine listW_mono ?_ | refine isL_mono ?_ | refine walkL_mono fun _ => ?_ | refine enumW_mono fun _ => ?_ | refine zipW_mono fun _ => ?_
    | refine asgW_mono fun _ => ?_ | refine putL_mono (fun _ _ _ q => ?_) hk.nx | refine augW_mono fun _ => ?_ | refine lcW_mono (fun _ _ _ _ q => ?_) fun _ _ => ?_ | refine forW_mono (fun _ _ _ _ q => ?_) fun _ => ?_ | exact q _ _ | exact q _
    | split)
theorem wm_retv {i : Nat}  : WM F C (.retv i) := by
  intro env k k' hk h
  have h : match env[i]? with
    | some (.own ds) => k.rt (.own ds) (env.set i .no)
    | some (.dat d) => k.rt (.dat d) env
    | _ => False := h
  show match env[i]? with
    | some (.own ds) => k'.rt (.own ds) (env.set i .no)
    | some (.dat d) => k'.rt (.dat d) env
    | _ => False
  revert h
  repeat' (first
    | exact fun z => z
    | exact hk.e _ _ | exact hk.t _ _ | exact hk.a _ _ | exact hk.i _ _ | exact hk.nx _ | exact hk.bk _ | exact hk.ct _ | exact hk.rt _ _ | exact hk.x _ _
    | exact hF _ _ _ _ _ _ (fun _ _ => hk.e _ _) (fun _ => hk.x _ _)
    
    
    | refine and_r ?_ | refine bothW_mono ?_ ?_ | refine ex_mono fun _ => ?_
    | refine take_mono hk.e | refine peek_mono fun _ => ?_ | refine binW_mono fun _ => ?_ | refine cmpW_mono fun _ => ?_ | refine b1W_mono fun _ => ?_ | refine b2W_mono fun _ => ?_ | refine ixW_mono fun _ => ?_ | refine slW_mono fun _ => ?_ | refine revW_mono fun _ => ?_ | refine partW_mono fun _ => ?_
    | refine intW_mono fun _ => ?_ | refine boolW_mono fun _ => ?_ | refine truthW_mono fun _ => ?_ | refine itemW_mono fun _ => ?_ | refine lstW_mono fun _ => ?_ | refine strW_mono fun _ => ?_ | refine m1W_mono fun _ => ?_ | refine libW_mono fun _ => ?_ | refine lixW_mono fun _ => ?_ | refine listW_mono ?_ | refine isL_mono ?_ | refine walkL_mono fun _ => ?_ | refine enumW_mono fun _ => ?_ | refine zipW_mono fun _ => ?_
    | refine asgW_mono fun _ => ?_ | refine putL_mono (fun _ _ _ q => ?_) hk.nx | refine augW_mono fun _ => ?_ | refine lcW_mono (fun _ _ _ _ q => ?_) fun _ _ => ?_ | refine forW_mono (fun _ _ _ _ q => ?_) fun _ => ?_ | exact q _ _ | exact q _
    | split)
theorem wm_ifs {t : N} {a : N} {b : N} (ih_t : WM F C t) (ih_a : WM F C a) (ih_b : WM F C b) : WM F C (.ifs t a b) := by
  intro env k k' hk h
  have h : wp F C t env (kT k.x fun c env1 => bothW c (wp F C a env1 k) (wp F C b env1 k)) := h
  show wp F C t env (kT k'.x fun c env1 => bothW c (wp F C a env1 k') (wp F C b env1 k'))
  revert h
  repeat' (first
    | exact fun z => z
    | exact hk.e _ _ | exact hk.t _ _ | exact hk.a _ _ | exact hk.i _ _ | exact hk.nx _ | exact hk.bk _ | exact hk.ct _ | exact hk.rt _ _ | exact hk.x _ _
    | exact hF _ _ _ _ _ _ (fun _ _ => hk.e _ _) (fun _ => hk.x _ _)
    | exact ih_t _ _ _ hk | refine ih_t _ _ _ (kE_le hk.x fun _ _ => ?_) | refine ih_t _ _ _ (kE_le (fun _ _ z => z) fun _ _ => ?_) | refine ih_t _ _ _ (kT_le hk.x fun _ _ => ?_) | refine ih_t _ _ _ (kT_le (fun _ _ z => z) fun _ _ => ?_) | refine ih_t _ _ _ (kA_le hk.x fun _ _ => ?_) | refine ih_t _ _ _ (kI_le hk.x fun _ _ => ?_) | refine ih_t _ _ _ (on_le hk fun _ => ?_) | refine ih_t _ _ _ (lp_le hk (fun _ => ?_) hk.nx) | refine ih_t _ _ _ (ox_le hk fun _ _ => ?_) | exact ih_t _ _ _ (su_le hk) | exact ih_a _ _ _ hk | refine ih_a _ _ _ (kE_le hk.x fun _ _ => ?_) | refine ih_a _ _ _ (kE_le (fun _ _ z => z) fun _ _ => ?_) | refine ih_a _ _ _ (kT_le hk.x fun _ _ => ?_) | refine ih_a _ _ _ (kT_le (fun _ _ z => z) fun _ _ => ?_) | refine ih_a _ _ _ (kA_le hk.x fun _ _ => ?_) | refine ih_a _ _ _ (kI_le hk.x fun _ _ => ?_) | refine ih_a _ _ _ (on_le hk fun _ => ?_) | refine ih_a _ _ _ (lp_le hk (fun _ => ?_) hk.nx) | refine ih_a _ _ _ (ox_le hk fun _ _ => ?_) | exact ih_a _ _ _ (su_le hk) | exact ih_b _ _ _ hk | refine ih_b _ _ _ (kE_le hk.x fun _ _ => ?_) | refine ih_b _ _ _ (kE_le (fun _ _ z => z) fun _ _ => ?_) | refine ih_b _ _ _ (kT_le hk.x fun _ _ => ?_) | refine ih_b _ _ _ (kT_le (fun _ _ z => z) fun _ _ => ?_) | refine ih_b _ _ _ (kA_le hk.x fun _ _ => ?_) | refine ih_b _ _ _ (kI_le hk.x fun _ _ => ?_) | refine ih_b _ _ _ (on_le hk fun _ => ?_) | refine ih_b _ _ _ (lp_le hk (fun _ => ?_) hk.nx) | refine ih_b _ _ _ (ox_le hk fun _ _ => ?_) | exact ih_b _ _ _ (su_le hk)
    | refine ih_t _ _ _ (lp_le hk (fun _ z => z) hk.nx) | refine ih_a _ _ _ (lp_le hk (fun _ z => z) hk.nx) | refine ih_b _ _ _ (lp_le hk (fun _ z => z) hk.nx)
    | refine and_r ?_ | refine bothW_mono ?_ ?_ | refine ex_mono fun _ => ?_
    | refine take_mono hk.e | refine peek_mono fun _ => ?_ | refine binW_mono fun _ => ?_ | refine cmpW_mono fun _ => ?_ | refine b1W_mono fun _ => ?_ | refine b2W_mono fun _ => ?_ | refine ixW_mono fun _ => ?_ | refine slW_mono fun _ => ?_ | refine revW_mono fun _ => ?_ | refine partW_mono fun _ => ?_
    | refine intW_mono fun _ => ?_ | refine boolW_mono fun _ => ?_ | refine truthW_mono fun _ => ?_ | refine itemW_mono fun _ => ?_ | refine lstW_mono fun _ => ?_ | refine strW_mono fun _ => ?_ | refine m1W_mono fun _ => ?_ | refine libW_mono fun _ => ?_ | refine lixW_mono fun _ => ?_ | refine listW_mono ?_ | refine isL_mono ?_ | refine walkL_mono fun _ => ?_ | refine enumW_mono fun _ => ?_ | refine zipW_mono fun _ => ?_
    | refine asgW_mono fun _ => ?_ | refine putL_mono (fun _ _ _ q => ?_) hk.nx | refine augW_mono fun _ => ?_ | refine lcW_mono (fun _ _ _ _ q => ?_) fun _ _ => ?_ | refine forW_mono (fun _ _ _ _ q => ?_) fun _ => ?_ | exact q _ _ | exact q _
    | split)
theorem wm_forr {x : Tg} {it : N} {b : N} (ih_it : WM F C it) (ih_b : WM F C b) : WM F C (.forr x it b) := by
  intro env k k' hk h
  have h : wp F C it env (kI k.x fun ds env1 => forW (fun d env2 c => asgW x d env2 fun env3 => wp F C b env3 (k.lp c k.nx)) k.nx ds env1) := h
  show wp F C it env (kI k'.x fun ds env1 => forW (fun d env2 c => asgW x d env2 fun env3 => wp F C b env3 (k'.lp c k'.nx)) k'.nx ds env1)
  revert h
  repeat' (first
    | exact fun z => z
    | exact hk.e _ _ | exact hk.t _ _ | exact hk.a _ _ | exact hk.i _ _ | exact hk.nx _ | exact hk.bk _ | exact hk.ct _ | exact hk.rt _ _ | exact hk.x _ _
    | exact hF _ _ _ _ _ _ (fun _ _ => hk.e _ _) (fun _ => hk.x _ _)
    | exact ih_it _ _ _ hk | refine ih_it _ _ _ (kE_le hk.x fun _ _ => ?_) | refine ih_it _ _ _ (kE_le (fun _ _ z => z) fun _ _ => ?_) | refine ih_it _ _ _ (kT_le hk.x fun _ _ => ?_) | refine ih_it _ _ _ (kT_le (fun _ _ z => z) fun _ _ => ?_) | refine ih_it _ _ _ (kA_le hk.x fun _ _ => ?_) | refine ih_it _ _ _ (kI_le hk.x fun _ _ => ?_) | refine ih_it _ _ _ (on_le hk fun _ => ?_) | refine ih_it _ _ _ (lp_le hk (fun _ => ?_) hk.nx) | refine ih_it _ _ _ (ox_le hk fun _ _ => ?_) | exact ih_it _ _ _ (su_le hk) | exact ih_b _ _ _ hk | refine ih_b _ _ _ (kE_le hk.x fun _ _ => ?_) | refine ih_b _ _ _ (kE_le (fun _ _ z => z) fun _ _ => ?_) | refine ih_b _ _ _ (kT_le hk.x fun _ _ => ?_) | refine ih_b _ _ _ (kT_le (fun _ _ z => z) fun _ _ => ?_) | refine ih_b _ _ _ (kA_le hk.x fun _ _ => ?_) | refine ih_b _ _ _ (kI_le hk.x fun _ _ => ?_) | refine ih_b _ _ _ (on_le hk fun _ => ?_) | refine ih_b _ _ _ (lp_le hk (fun _ => ?_) hk.nx) | refine ih_b _ _ _ (ox_le hk fun _ _ => ?_) | exact ih_b _ _ _ (su_le hk)
    | refine ih_it _ _ _ (lp_le hk (fun _ z => z) hk.nx) | refine ih_b _ _ _ (lp_le hk (fun _ z => z) hk.nx)
    | refine and_r ?_ | refine bothW_mono ?_ ?_ | refine ex_mono fun _ => ?_
    | refine take_mono hk.e | refine peek_mono fun _ => ?_ | refine binW_mono fun _ => ?_ | refine cmpW_mono fun _ => ?_ | refine b1W_mono fun _ => ?_ | refine b2W_mono fun _ => ?_ | refine ixW_mono fun _ => ?_ | refine slW_mono fun _ => ?_ | refine revW_mono fun _ => ?_ | refine partW_mono fun _ => ?_
    | refine intW_mono fun _ => ?_ | refine boolW_mono fun _ => ?_ | refine truthW_mono fun _ => ?_ | refine itemW_mono fun _ => ?_ | refine lstW_mono fun _ => ?_ | refine strW_mono fun _ => ?_ | refine m1W_mono fun _ => ?_ | refine libW_mono fun _ => ?_ | refine lixW_mono fun _ => ?_ | refine listW_mono ?_ | refine isL_mono ?_ | refine walkL_mono fun _ => ?_ | refine enumW_mono fun _ => ?_ | refine zipW_mono fun _ => ?_
    | refine asgW_mono fun _ => ?_ | refine putL_mono (fun _ _ _ q => ?_) hk.nx | refine augW_mono fun _ => ?_ | refine lcW_mono (fun _ _ _ _ q => ?_) fun _ _ => ?_ | refine forW_mono (fun _ _ _ _ q => ?_) fun _ => ?_ | exact q _ _ | exact q _
    | split)
theorem wm_whl {t : N} {b : N} (ih_t : WM F C t) (ih_b : WM F C b) : WM F C (.whl t b) := by
  intro env k k' hk h
  obtain ⟨I, μ, h0, h⟩ : ∃ (I : Ev → Prop) (μ : Ev → Nat), I env ∧ ∀ env1, I env1 → wp F C t env1 (kT k.x fun c env2 => bothW c (wp F C b env2 (k.lp (fun e => I e ∧ μ e < μ env1) k.nx)) (k.nx env2)) := h
  refine ⟨I, μ, h0, fun env1 h1 => ih_t _ _ _ (kT_le hk.x fun c env2 z => ?_) (h env1 h1)⟩
  exact bothW_mono (ih_b _ _ _ (lp_le hk (fun _ z => z) hk.nx)) (hk.nx _) z
theorem wm_brk   : WM F C (.brk ) := by
  intro env k k' hk h
  have h : k.bk env := h
  show k'.bk env
  revert h
  repeat' (first
    | exact fun z => z
    | exact hk.e _ _ | exact hk.t _ _ | exact hk.a _ _ | exact hk.i _ _ | exact hk.nx _ | exact hk.bk _ | exact hk.ct _ | exact hk.rt _ _ | exact hk.x _ _
    | exact hF _ _ _ _ _ _ (fun _ _ => hk.e _ _) (fun _ => hk.x _ _)
    
    
    | refine and_r ?_ | refine bothW_mono ?_ ?_ | refine ex_mono fun _ => ?_
    | refine take_mono hk.e | refine peek_mono fun _ => ?_ | refine binW_mono fun _ => ?_ | refine cmpW_mono fun _ => ?_ | refine b1W_mono fun _ => ?_ | refine b2W_mono fun _ => ?_ | refine ixW_mono fun _ => ?_ | refine slW_mono fun _ => ?_ | refine revW_mono fun _ => ?_ | refine partW_mono fun _ => ?_
    | refine intW_mono fun _ => ?_ | refine boolW_mono fun _ => ?_ | refine truthW_mono fun _ => ?_ | refine itemW_mono fun _ => ?_ | refine lstW_mono fun _ => ?_ | refine strW_mono fun _ => ?_ | refine m1W_mono fun _ => ?_ | refine libW_mono fun _ => ?_ | refine lixW_mono fun _ => ?_ | refine listW_mono ?_ | refine isL_mono ?_ | refine walkL_mono fun _ => ?_ | refine enumW_mono fun _ => ?_ | refine zipW_mono fun _ => ?_
    | refine asgW_mono fun _ => ?_ | refine putL_mono (fun _ _ _ q => ?_) hk.nx | refine augW_mono fun _ => ?_ | refine lcW_mono (fun _ _ _ _ q => ?_) fun _ _ => ?_ | refine forW_mono (fun _ _ _ _ q => ?_) fun _ => ?_ | exact q _ _ | exact q _
    | split)
theorem wm_ctn   : WM F C (.ctn ) := by
  intro env k k' hk h
  have h : k.ct env := h
  show k'.ct env
  revert h
  repeat' (first
    | exact fun z => z
    | exact hk.e _ _ | exact hk.t _ _ | exact hk.a _ _ | exact hk.i _ _ | exact hk.nx _ | exact hk.bk _ | exact hk.ct _ | exact hk.rt _ _ | exact hk.x _ _
    | exact hF _ _ _ _ _ _ (fun _ _ => hk.e _ _) (fun _ => hk.x _ _)
    
    
    | refine and_r ?_ | refine bothW_mono ?_ ?_ | refine ex_mono fun _ => ?_
    | refine take_mono hk.e | refine peek_mono fun _ => ?_ | refine binW_mono fun _ => ?_ | refine cmpW_mono fun _ => ?_ | refine b1W_mono fun _ => ?_ | refine b2W_mono fun _ => ?_ | refine ixW_mono fun _ => ?_ | refine slW_mono fun _ => ?_ | refine revW_mono fun _ => ?_ | refine partW_mono fun _ => ?_
    | refine intW_mono fun _ => ?_ | refine boolW_mono fun _ => ?_ | refine truthW_mono fun _ => ?_ | refine itemW_mono fun _ => ?_ | refine lstW_mono fun _ => ?_ | refine strW_mono fun _ => ?_ | refine m1W_mono fun _ => ?_ | refine libW_mono fun _ => ?_ | refine lixW_mono fun _ => ?_ | refine listW_mono ?_ | refine isL_mono ?_ | refine walkL_mono fun _ => ?_ | refine enumW_mono fun _ => ?_ | refine zipW_mono fun _ => ?_
    | refine asgW_mono fun _ => ?_ | refine putL_mono (fun _ _ _ q => ?_) hk.nx | refine augW_mono fun _ => ?_ | refine lcW_mono (fun _ _ _ _ q => ?_) fun _ _ => ?_ | refine forW_mono (fun _ _ _ _ q => ?_) fun _ => ?_ | exact q _ _ | exact q _
    | split)
theorem wm_pas   : WM F C (.pas ) := by
  intro env k k' hk h
  have h : k.nx env := h
  show k'.nx env
  revert h
  repeat' (first
    | exact fun z => z
    | exact hk.e _ _ | exact hk.t _ _ | exact hk.a _ _ | exact hk.i _ _ | exact hk.nx _ | exact hk.bk _ | exact hk.ct _ | exact hk.rt _ _ | exact hk.x _ _
    | exact hF _ _ _ _ _ _ (fun _ _ => hk.e _ _) (fun _ => hk.x _ _)
    
    
    | refine and_r ?_ | refine bothW_mono ?_ ?_ | refine ex_mono fun _ => ?_
    | refine take_mono hk.e | refine peek_mono fun _ => ?_ | refine binW_mono fun _ => ?_ | refine cmpW_mono fun _ => ?_ | refine b1W_mono fun _ => ?_ | refine b2W_mono fun _ => ?_ | refine ixW_mono fun _ => ?_ | refine slW_mono fun _ => ?_ | refine revW_mono fun _ => ?_ | refine partW_mono fun _ => ?_
    | refine intW_mono fun _ => ?_ | refine boolW_mono fun _ => ?_ | refine truthW_mono fun _ => ?_ | refine itemW_mono fun _ => ?_ | refine lstW_mono fun _ => ?_ | refine strW_mono fun _ => ?_ | refine m1W_mono fun _ => ?_ | refine libW_mono fun _ => ?_ | refine lixW_mono fun _ => ?_ | refine listW_mono ?_ | refine isL_mono ?_ | refine walkL_mono fun _ => ?_ | refine enumW_mono fun _ => ?_ | refine zipW_mono fun _ => ?_
    | refine asgW_mono fun _ => ?_ | refine putL_mono (fun _ _ _ q => ?_) hk.nx | refine augW_mono fun _ => ?_ | refine lcW_mono (fun _ _ _ _ q => ?_) fun _ _ => ?_ | refine forW_mono (fun _ _ _ _ q => ?_) fun _ => ?_ | exact q _ _ | exact q _
    | split)
theorem wm_rai {c : Nat} {w : Str} {e : N} (ih_e : WM F C e) : WM F C (.rai c w e) := by
  intro env k k' hk h
  have h : wp F C e env (kE k.x fun r env1 => k.x ⟨c, w, r.d⟩ env1) := h
  show wp F C e env (kE k'.x fun r env1 => k'.x ⟨c, w, r.d⟩ env1)
  revert h
  repeat' (first
    | exact fun z => z
    | exact hk.e _ _ | exact hk.t _ _ | exact hk.a _ _ | exact hk.i _ _ | exact hk.nx _ | exact hk.bk _ | exact hk.ct _ | exact hk.rt _ _ | exact hk.x _ _
    | exact hF _ _ _ _ _ _ (fun _ _ => hk.e _ _) (fun _ => hk.x _ _)
    | exact ih_e _ _ _ hk | refine ih_e _ _ _ (kE_le hk.x fun _ _ => ?_) | refine ih_e _ _ _ (kE_le (fun _ _ z => z) fun _ _ => ?_) | refine ih_e _ _ _ (kT_le hk.x fun _ _ => ?_) | refine ih_e _ _ _ (kT_le (fun _ _ z => z) fun _ _ => ?_) | refine ih_e _ _ _ (kA_le hk.x fun _ _ => ?_) | refine ih_e _ _ _ (kI_le hk.x fun _ _ => ?_) | refine ih_e _ _ _ (on_le hk fun _ => ?_) | refine ih_e _ _ _ (lp_le hk (fun _ => ?_) hk.nx) | refine ih_e _ _ _ (ox_le hk fun _ _ => ?_) | exact ih_e _ _ _ (su_le hk)
    | refine ih_e _ _ _ (lp_le hk (fun _ z => z) hk.nx)
    | refine and_r ?_ | refine bothW_mono ?_ ?_ | refine ex_mono fun _ => ?_
    | refine take_mono hk.e | refine peek_mono fun _ => ?_ | refine binW_mono fun _ => ?_ | refine cmpW_mono fun _ => ?_ | refine b1W_mono fun _ => ?_ | refine b2W_mono fun _ => ?_ | refine ixW_mono fun _ => ?_ | refine slW_mono fun _ => ?_ | refine revW_mono fun _ => ?_ | refine partW_mono fun _ => ?_
    | refine intW_mono fun _ => ?_ | refine boolW_mono fun _ => ?_ | refine truthW_mono fun _ => ?_ | refine itemW_mono fun _ => ?_ | refine lstW_mono fun _ => ?_ | refine strW_mono fun _ => ?_ | refine m1W_mono fun _ => ?_ | refine libW_mono fun _ => ?_ | refine lixW_mono fun _ => ?_ | refine listW_mono ?_ | refine isL_mono ?_ | refine walkL_mono fun _ => ?_ | refine enumW_mono fun _ => ?_ | refine zipW_mono fun _ => ?_
    | refine asgW_mono fun _ => ?_ | refine putL_mono (fun _ _ _ q => ?_) hk.nx | refine augW_mono fun _ => ?_ | refine lcW_mono (fun _ _ _ _ q => ?_) fun _ _ => ?_ | refine forW_mono (fun _ _ _ _ q => ?_) fun _ => ?_ | exact q _ _ | exact q _
    | split)
theorem wm_rai0 {c : Nat} {w : Str}  : WM F C (.rai0 c w) := by
  intro env k k' hk h
  have h : k.x ⟨c, w, .none⟩ env := h
  show k'.x ⟨c, w, .none⟩ env
  revert h
  repeat' (first
    | exact fun z => z
    | exact hk.e _ _ | exact hk.t _ _ | exact hk.a _ _ | exact hk.i _ _ | exact hk.nx _ | exact hk.bk _ | exact hk.ct _ | exact hk.rt _ _ | exact hk.x _ _
    | exact hF _ _ _ _ _ _ (fun _ _ => hk.e _ _) (fun _ => hk.x _ _)
    
    
    | refine and_r ?_ | refine bothW_mono ?_ ?_ | refine ex_mono fun _ => ?_
    | refine take_mono hk.e | refine peek_mono fun _ => ?_ | refine binW_mono fun _ => ?_ | refine cmpW_mono fun _ => ?_ | refine b1W_mono fun _ => ?_ | refine b2W_mono fun _ => ?_ | refine ixW_mono fun _ => ?_ | refine slW_mono fun _ => ?_ | refine revW_mono fun _ => ?_ | refine partW_mono fun _ => ?_
    | refine intW_mono fun _ => ?_ | refine boolW_mono fun _ => ?_ | refine truthW_mono fun _ => ?_ | refine itemW_mono fun _ => ?_ | refine lstW_mono fun _ => ?_ | refine strW_mono fun _ => ?_ | refine m1W_mono fun _ => ?_ | refine libW_mono fun _ => ?_ | refine lixW_mono fun _ => ?_ | refine listW_mono ?_ | refine isL_mono ?_ | refine walkL_mono fun _ => ?_ | refine enumW_mono fun _ => ?_ | refine zipW_mono fun _ => ?_
    | refine asgW_mono fun _ => ?_ | refine putL_mono (fun _ _ _ q => ?_) hk.nx | refine augW_mono fun _ => ?_ | refine lcW_mono (fun _ _ _ _ q => ?_) fun _ _ => ?_ | refine forW_mono (fun _ _ _ _ q => ?_) fun _ => ?_ | exact q _ _ | exact q _
    | split)
theorem wm_tryx {i : Nat} {ts : List Nat} {b : N} {s : N} (ih_b : WM F C b) (ih_s : WM F C s) : WM F C (.tryx i ts b s) := by
  intro env k k' hk h
  have h : wp F C b env (k.ox fun e env1 => match ts.contains e.cls with
    | true => wp F C s (env1.set i (.exc e)) (k.su i)
    | false => k.x e env1) := h
  show wp F C b env (k'.ox fun e env1 => match ts.contains e.cls with
    | true => wp F C s (env1.set i (.exc e)) (k'.su i)
    | false => k'.x e env1)
  revert h
  repeat' (first
    | exact fun z => z
    | exact hk.e _ _ | exact hk.t _ _ | exact hk.a _ _ | exact hk.i _ _ | exact hk.nx _ | exact hk.bk _ | exact hk.ct _ | exact hk.rt _ _ | exact hk.x _ _
    | exact hF _ _ _ _ _ _ (fun _ _ => hk.e _ _) (fun _ => hk.x _ _)
    | exact ih_b _ _ _ hk | refine ih_b _ _ _ (kE_le hk.x fun _ _ => ?_) | refine ih_b _ _ _ (kE_le (fun _ _ z => z) fun _ _ => ?_) | refine ih_b _ _ _ (kT_le hk.x fun _ _ => ?_) | refine ih_b _ _ _ (kT_le (fun _ _ z => z) fun _ _ => ?_) | refine ih_b _ _ _ (kA_le hk.x fun _ _ => ?_) | refine ih_b _ _ _ (kI_le hk.x fun _ _ => ?_) | refine ih_b _ _ _ (on_le hk fun _ => ?_) | refine ih_b _ _ _ (lp_le hk (fun _ => ?_) hk.nx) | refine ih_b _ _ _ (ox_le hk fun _ _ => ?_) | exact ih_b _ _ _ (su_le hk) | exact ih_s _ _ _ hk | refine ih_s _ _ _ (kE_le hk.x fun _ _ => ?_) | refine ih_s _ _ _ (kE_le (fun _ _ z => z) fun _ _ => ?_) | refine ih_s _ _ _ (kT_le hk.x fun _ _ => ?_) | refine ih_s _ _ _ (kT_le (fun _ _ z => z) fun _ _ => ?_) | refine ih_s _ _ _ (kA_le hk.x fun _ _ => ?_) | refine ih_s _ _ _ (kI_le hk.x fun _ _ => ?_) | refine ih_s _ _ _ (on_le hk fun _ => ?_) | refine ih_s _ _ _ (lp_le hk (fun _ => ?_) hk.nx) | refine ih_s _ _ _ (ox_le hk fun _ _ => ?_) | exact ih_s _ _ _ (su_le hk)
    | refine ih_b _ _ _ (lp_le hk (fun _ z => z) hk.nx) | refine ih_s _ _ _ (lp_le hk (fun _ z => z) hk.nx)
    | refine and_r ?_ | refine bothW_mono ?_ ?_ | refine ex_mono fun _ => ?_
    | refine take_mono hk.e | refine peek_mono fun _ => ?_ | refine binW_mono fun _ => ?_ | refine cmpW_mono fun _ => ?_ | refine b1W_mono fun _ => ?_ | refine b2W_mono fun _ => ?_ | refine ixW_mono fun _ => ?_ | refine slW_mono fun _ => ?_ | refine revW_mono fun _ => ?_ | refine partW_mono fun _ => ?_
    | refine intW_mono fun _ => ?_ | refine boolW_mono fun _ => ?_ | refine truthW_mono fun _ => ?_ | refine itemW_mono fun _ => ?_ | refine lstW_mono fun _ => ?_ | refine strW_mono fun _ => ?_ | refine m1W_mono fun _ => ?_ | refine libW_mono fun _ => ?_ | refine lixW_mono fun _ => ?_ | refine listW_mono ?_ | refine isL_mono ?_ | refine walkL_mono fun _ => ?_ | refine enumW_mono fun _ => ?_ | refine zipW_mono fun _ => ?_
    | refine asgW_mono fun _ => ?_ | refine putL_mono (fun _ _ _ q => ?_) hk.nx | refine augW_mono fun _ => ?_ | refine lcW_mono (fun _ _ _ _ q => ?_) fun _ _ => ?_ | refine forW_mono (fun _ _ _ _ q => ?_) fun _ => ?_ | exact q _ _ | exact q _
    | split)
theorem wm_try2 {i : Nat} {ts : List Nat} {b : N} {s : N} {us : List Nat} {g : N} (ih_b : WM F C b) (ih_s : WM F C s) (ih_g : WM F C g) : WM F C (.try2 i ts b s us g) := by
  intro env k k' hk h
  have h : wp F C b env (k.ox fun e env1 => match ts.contains e.cls with
    | true => wp F C s (env1.set i (.exc e)) (k.su i)
    | false => match us.contains e.cls with
      | true => wp F C g (env1.set i (.exc e)) (k.su i)
      | false => k.x e env1) := h
  show wp F C b env (k'.ox fun e env1 => match ts.contains e.cls with
    | true => wp F C s (env1.set i (.exc e)) (k'.su i)
    | false => match us.contains e.cls with
      | true => wp F C g (env1.set i (.exc e)) (k'.su i)
      | false => k'.x e env1)
  revert h
  repeat' (first
    | exact fun z => z
    | exact hk.e _ _ | exact hk.t _ _ | exact hk.a _ _ | exact hk.i _ _ | exact hk.nx _ | exact hk.bk _ | exact hk.ct _ | exact hk.rt _ _ | exact hk.x _ _
    | exact hF _ _ _ _ _ _ (fun _ _ => hk.e _ _) (fun _ => hk.x _ _)
    | exact ih_b _ _ _ hk | refine ih_b _ _ _ (kE_le hk.x fun _ _ => ?_) | refine ih_b _ _ _ (kE_le (fun _ _ z => z) fun _ _ => ?_) | refine ih_b _ _ _ (kT_le hk.x fun _ _ => ?_) | refine ih_b _ _ _ (kT_le (fun _ _ z => z) fun _ _ => ?_) | refine ih_b _ _ _ (kA_le hk.x fun _ _ => ?_) | refine ih_b _ _ _ (kI_le hk.x fun _ _ => ?_) | refine ih_b _ _ _ (on_le hk fun _ => ?_) | refine ih_b _ _ _ (lp_le hk (fun _ => ?_) hk.nx) | refine ih_b _ _ _ (ox_le hk fun _ _ => ?_) | exact ih_b _ _ _ (su_le hk) | exact ih_s _ _ _ hk | refine ih_s _ _ _ (kE_le hk.x fun _ _ => ?_) | refine ih_s _ _ _ (kE_le (fun _ _ z => z) fun _ _ => ?_) | refine ih_s _ _ _ (kT_le hk.x fun _ _ => ?_) | refine ih_s _ _ _ (kT_le (fun _ _ z => z) fun _ _ => ?_) | refine ih_s _ _ _ (kA_le hk.x fun _ _ => ?_) | refine ih_s _ _ _ (kI_le hk.x fun _ _ => ?_) | refine ih_s _ _ _ (on_le hk fun _ => ?_) | refine ih_s _ _ _ (lp_le hk (fun _ => ?_) hk.nx) | refine ih_s _ _ _ (ox_le hk fun _ _ => ?_) | exact ih_s _ _ _ (su_le hk) | exact ih_g _ _ _ hk | refine ih_g _ _ _ (kE_le hk.x fun _ _ => ?_) | refine ih_g _ _ _ (kE_le (fun _ _ z => z) fun _ _ => ?_) | refine ih_g _ _ _ (kT_le hk.x fun _ _ => ?_) | refine ih_g _ _ _ (kT_le (fun _ _ z => z) fun _ _ => ?_) | refine ih_g _ _ _ (kA_le hk.x fun _ _ => ?_) | refine ih_g _ _ _ (kI_le hk.x fun _ _ => ?_) | refine ih_g _ _ _ (on_le hk fun _ => ?_) | refine ih_g _ _ _ (lp_le hk (fun _ => ?_) hk.nx) | refine ih_g _ _ _ (ox_le hk fun _ _ => ?_) | exact ih_g _ _ _ (su_le hk)
    | refine ih_b _ _ _ (lp_le hk (fun _ z => z) hk.nx) | refine ih_s _ _ _ (lp_le hk (fun _ z => z) hk.nx) | refine ih_g _ _ _ (lp_le hk (fun _ z => z) hk.nx)
    | refine and_r ?_ | refine bothW_mono ?_ ?_ | refine ex_mono fun _ => ?_
    | refine take_mono hk.e | refine peek_mono fun _ => ?_ | refine binW_mono fun _ => ?_ | refine cmpW_mono fun _ => ?_ | refine b1W_mono fun _ => ?_ | refine b2W_mono fun _ => ?_ | refine ixW_mono fun _ => ?_ | refine slW_mono fun _ => ?_ | refine revW_mono fun _ => ?_ | refine partW_mono fun _ => ?_
    | refine intW_mono fun _ => ?_ | refine boolW_mono fun _ => ?_ | refine truthW_mono fun _ => ?_ | refine itemW_mono fun _ => ?_ | refine lstW_mono fun _ => ?_ | refine strW_mono fun _ => ?_ | refine m1W_mono fun _ => ?_ | refine libW_mono fun _ => ?_ | refine lixW_mono fun _ => ?_ | refine listW_mono ?_ | refine isL_mono ?_ | refine walkL_mono fun _ => ?_ | refine enumW_mono fun _ => ?_ | refine zipW_mono fun _ => ?_
    | refine asgW_mono fun _ => ?_ | refine putL_mono (fun _ _ _ q => ?_) hk.nx | refine augW_mono fun _ => ?_ | refine lcW_mono (fun _ _ _ _ q => ?_) fun _ _ => ?_ | refine forW_mono (fun _ _ _ _ q => ?_) fun _ => ?_ | exact q _ _ | exact q _
    | split)
theorem wm_done   : WM F C (.done ) := by
  intro env k k' hk h
  have h : k.nx env := h
  show k'.nx env
  revert h
  repeat' (first
    | exact fun z => z
    | exact hk.e _ _ | exact hk.t _ _ | exact hk.a _ _ | exact hk.i _ _ | exact hk.nx _ | exact hk.bk _ | exact hk.ct _ | exact hk.rt _ _ | exact hk.x _ _
    | exact hF _ _ _ _ _ _ (fun _ _ => hk.e _ _) (fun _ => hk.x _ _)
    
    
    | refine and_r ?_ | refine bothW_mono ?_ ?_ | refine ex_mono fun _ => ?_
    | refine take_mono hk.e | refine peek_mono fun _ => ?_ | refine binW_mono fun _ => ?_ | refine cmpW_mono fun _ => ?_ | refine b1W_mono fun _ => ?_ | refine b2W_mono fun _ => ?_ | refine ixW_mono fun _ => ?_ | refine slW_mono fun _ => ?_ | refine revW_mono fun _ => ?_ | refine partW_mono fun _ => ?_
    | refine intW_mono fun _ => ?_ | refine boolW_mono fun _ => ?_ | refine truthW_mono fun _ => ?_ | refine itemW_mono fun _ => ?_ | refine lstW_mono fun _ => ?_ | refine strW_mono fun _ => ?_ | refine m1W_mono fun _ => ?_ | refine libW_mono fun _ => ?_ | refine lixW_mono fun _ => ?_ | refine listW_mono ?_ | refine isL_mono ?_ | refine walkL_mono fun _ => ?_ | refine enumW_mono fun _ => ?_ | refine zipW_mono fun _ => ?_
    | refine asgW_mono fun _ => ?_ | refine putL_mono (fun _ _ _ q => ?_) hk.nx | refine augW_mono fun _ => ?_ | refine lcW_mono (fun _ _ _ _ q => ?_) fun _ _ => ?_ | refine forW_mono (fun _ _ _ _ q => ?_) fun _ => ?_ | exact q _ _ | exact q _
    | split)
theorem wm_seq {s : N} {r : N} (ih_s : WM F C s) (ih_r : WM F C r) : WM F C (.seq s r) := by
  intro env k k' hk h
  have h : wp F C s env (k.on fun env1 => wp F C r env1 k) := h
  show wp F C s env (k'.on fun env1 => wp F C r env1 k')
  revert h
  repeat' (first
    | exact fun z => z
    | exact hk.e _ _ | exact hk.t _ _ | exact hk.a _ _ | exact hk.i _ _ | exact hk.nx _ | exact hk.bk _ | exact hk.ct _ | exact hk.rt _ _ | exact hk.x _ _
    | exact hF _ _ _ _ _ _ (fun _ _ => hk.e _ _) (fun _ => hk.x _ _)
    | exact ih_s _ _ _ hk | refine ih_s _ _ _ (kE_le hk.x fun _ _ => ?_) | refine ih_s _ _ _ (kE_le (fun _ _ z => z) fun _ _ => ?_) | refine ih_s _ _ _ (kT_le hk.x fun _ _ => ?_) | refine ih_s _ _ _ (kT_le (fun _ _ z => z) fun _ _ => ?_) | refine ih_s _ _ _ (kA_le hk.x fun _ _ => ?_) | refine ih_s _ _ _ (kI_le hk.x fun _ _ => ?_) | refine ih_s _ _ _ (on_le hk fun _ => ?_) | refine ih_s _ _ _ (lp_le hk (fun _ => ?_) hk.nx) | refine ih_s _ _ _ (ox_le hk fun _ _ => ?_) | exact ih_s _ _ _ (su_le hk) | exact ih_r _ _ _ hk | refine ih_r _ _ _ (kE_le hk.x fun _ _ => ?_) | refine ih_r _ _ _ (kE_le (fun _ _ z => z) fun _ _ => ?_) | refine ih_r _ _ _ (kT_le hk.x fun _ _ => ?_) | refine ih_r _ _ _ (kT_le (fun _ _ z => z) fun _ _ => ?_) | refine ih_r _ _ _ (kA_le hk.x fun _ _ => ?_) | refine ih_r _ _ _ (kI_le hk.x fun _ _ => ?_) | refine ih_r _ _ _ (on_le hk fun _ => ?_) | refine ih_r _ _ _ (lp_le hk (fun _ => ?_) hk.nx) | refine ih_r _ _ _ (ox_le hk fun _ _ => ?_) | exact ih_r _ _ _ (su_le hk)
    | refine ih_s _ _ _ (lp_le hk (fun _ z => z) hk.nx) | refine ih_r _ _ _ (lp_le hk (fun _ z => z) hk.nx)
    | refine and_r ?_ | refine bothW_mono ?_ ?_ | refine ex_mono fun _ => ?_
    | refine take_mono hk.e | refine peek_mono fun _ => ?_ | refine binW_mono fun _ => ?_ | refine cmpW_mono fun _ => ?_ | refine b1W_mono fun _ => ?_ | refine b2W_mono fun _ => ?_ | refine ixW_mono fun _ => ?_ | refine slW_mono fun _ => ?_ | refine revW_mono fun _ => ?_ | refine partW_mono fun _ => ?_
    | refine intW_mono fun _ => ?_ | refine boolW_mono fun _ => ?_ | refine truthW_mono fun _ => ?_ | refine itemW_mono fun _ => ?_ | refine lstW_mono fun _ => ?_ | refine strW_mono fun _ => ?_ | refine m1W_mono fun _ => ?_ | refine libW_mono fun _ => ?_ | refine lixW_mono fun _ => ?_ | refine listW_mono ?_ | refine isL_mono ?_ | refine walkL_mono fun _ => ?_ | refine enumW_mono fun _ => ?_ | refine zipW_mono fun _ => ?_
    | refine asgW_mono fun _ => ?_ | refine putL_mono (fun _ _ _ q => ?_) hk.nx | refine augW_mono fun _ => ?_ | refine lcW_mono (fun _ _ _ _ q => ?_) fun _ _ => ?_ | refine forW_mono (fun _ _ _ _ q => ?_) fun _ => ?_ | exact q _ _ | exact q _
    | split)
theorem wp_mono : ∀ n : N, WM F C n := by
  intro n
  induction n with
  | v i => exact wm_v hF 
  | g x => exact wm_g hF 
  | c d => exact wm_c hF 
  | bin o a b ih_a ih_b => exact wm_bin hF ih_a ih_b
  | neg a ih_a => exact wm_neg hF ih_a
  | cmp o a b ih_a ih_b => exact wm_cmp hF ih_a ih_b
  | chain o o' a b c ih_a ih_b ih_c => exact wm_chain hF ih_a ih_b ih_c
  | nott a ih_a => exact wm_nott hF ih_a
  | andd a b ih_a ih_b => exact wm_andd hF ih_a ih_b
  | orr a b ih_a ih_b => exact wm_orr hF ih_a ih_b
  | one a ih_a => exact wm_one hF ih_a
  | ite t a b ih_t ih_a ih_b => exact wm_ite hF ih_t ih_a ih_b
  | call f as ih_as => exact wm_call hF ih_as
  | b1 f a ih_a => exact wm_b1 hF ih_a
  | b2 f a b ih_a ih_b => exact wm_b2 hF ih_a ih_b
  | isi a ts ih_a => exact wm_isi hF ih_a
  | ix a b ih_a ih_b => exact wm_ix hF ih_a ih_b
  | sl a lo hi ih_a ih_lo ih_hi => exact wm_sl hF ih_a ih_lo ih_hi
  | rv a ih_a => exact wm_rv hF ih_a
  | tup es ih_es => exact wm_tup hF ih_es
  | lst es ih_es => exact wm_lst hF ih_es
  | lc own x it cs e ih_it ih_cs ih_e => exact wm_lc hF ih_it ih_cs ih_e
  | slc i own x it cs e ih_it ih_cs ih_e => exact wm_slc hF ih_it ih_cs ih_e
  | pop i => exact wm_pop hF 
  | popAt i a ih_a => exact wm_popAt hF ih_a
  | lib f a b ih_a ih_b => exact wm_lib hF ih_a ih_b
  | m1 m a b ih_a ih_b => exact wm_m1 hF ih_a ih_b
  | lix a b ih_a ih_b => exact wm_lix hF ih_a ih_b
  | callD f as ds ih_as => exact wm_callD hF ih_as
  | xw i => exact wm_xw hF 
  | xp i => exact wm_xp hF 
  | xi i nm ts => exact wm_xi hF 
  | nil  => exact wm_nil hF 
  | sno  => exact wm_sno hF 
  | sat e ih_e => exact wm_sat hF ih_e
  | cons a r ih_a ih_r => exact wm_cons hF ih_a ih_r
  | consM i r ih_r => exact wm_consM hF ih_r
  | tcmp o a b ih_a ih_b => exact wm_tcmp hF ih_a ih_b
  | tchain o o' a b c ih_a ih_b ih_c => exact wm_tchain hF ih_a ih_b ih_c
  | tnot a ih_a => exact wm_tnot hF ih_a
  | tand a b ih_a ih_b => exact wm_tand hF ih_a ih_b
  | tor a b ih_a ih_b => exact wm_tor hF ih_a ih_b
  | tone a ih_a => exact wm_tone hF ih_a
  | tyes  => exact wm_tyes hF 
  | tval a ih_a => exact wm_tval hF ih_a
  | itl a ih_a => exact wm_itl hF ih_a
  | iten a ih_a => exact wm_iten hF ih_a
  | itz a b ih_a ih_b => exact wm_itz hF ih_a ih_b
  | itr1 a ih_a => exact wm_itr1 hF ih_a
  | itr2 a b ih_a ih_b => exact wm_itr2 hF ih_a ih_b
  | set i e ih_e => exact wm_set hF ih_e
  | unp is e ih_e => exact wm_unp hF ih_e
  | seti i b e ih_b ih_e => exact wm_seti hF ih_b ih_e
  | aug i o e ih_e => exact wm_aug hF ih_e
  | augi i o b e ih_b ih_e => exact wm_augi hF ih_b ih_e
  | ex e ih_e => exact wm_ex hF ih_e
  | app i e ih_e => exact wm_app hF ih_e
  | ext i e ih_e => exact wm_ext hF ih_e
  | ins i b e ih_b ih_e => exact wm_ins hF ih_b ih_e
  | setc is e ih_e => exact wm_setc hF ih_e
  | ret e ih_e => exact wm_ret hF ih_e
  | retn  => exact wm_retn hF 
  | retv i => exact wm_retv hF 
  | ifs t a b ih_t ih_a ih_b => exact wm_ifs hF ih_t ih_a ih_b
  | forr x it b ih_it ih_b => exact wm_forr hF ih_it ih_b
  | whl t b ih_t ih_b => exact wm_whl hF ih_t ih_b
  | brk  => exact wm_brk hF 
  | ctn  => exact wm_ctn hF 
  | pas  => exact wm_pas hF 
  | rai c w e ih_e => exact wm_rai hF ih_e
  | rai0 c w => exact wm_rai0 hF 
  | tryx i ts b s ih_b ih_s => exact wm_tryx hF ih_b ih_s
  | try2 i ts b s us g ih_b ih_s ih_g => exact wm_try2 hF ih_b ih_s ih_g
  | done  => exact wm_done hF 
  | seq s r ih_s ih_r => exact wm_seq hF ih_s ih_r
end
end Pi

/-! The meaning once more, written so that its normal form keeps the environment as a list of items. -/
namespace Pi
open PySem L2
def slot : Ev → Nat → Sl
  | [], _ => .no
  | s :: _, 0 => s
  | _ :: r, i + 1 => slot r i
def setK : Ev → Nat → Sl → (Ev → Prop) → Prop
  | [], _, _, k => k []
  | _ :: r, 0, s, k => k (s :: r)
  | a :: r, i + 1, s, k => setK r i s fun e => k (a :: e)
theorem setK_eq : ∀ (env : Ev) (i : Nat) (s : Sl) (k : Ev → Prop), setK env i s k = k (env.set i s)
  | [], _, _, _ => rfl
  | _ :: _, 0, _, _ => rfl
  | a :: r, i + 1, s, k => setK_eq r i s fun e => k (a :: e)
theorem slot_eq : ∀ (env : Ev) (i : Nat), slot env i = env.getD i .no
  | [], _ => rfl
  | _ :: _, 0 => rfl
  | _ :: r, i + 1 => by
    show slot r i = _
    rw [slot_eq r i]
    simp [List.getD_eq_getElem?_getD]
def slW' (s : Sl) (k : PyData → Prop) : Prop :=
  match s with
  | .dat d => k d
  | .own ds => k (.list ds)
  | .mu _ ds => k (.list ds)
  | _ => False
def peekQ (env : Ev) (i : Nat) (k : PyData → Prop) : Prop := slW' (slot env i) k
theorem peekQ_eq (env : Ev) (i : Nat) (k : PyData → Prop) : peekQ env i k = peek env i k := by
  unfold peekQ peek
  rw [slot_eq, List.getD_eq_getElem?_getD]
  cases env[i]? with
  | none => rfl
  | some s => cases s <;> rfl
def takeQ (env : Ev) (i : Nat) (k : R → Ev → Prop) : Prop :=
  match slot env i with
  | .dat d => k (.dat d) env
  | .own ds => setK env i (.dat (.list ds)) (k (.dat (.list ds)))
  | _ => False
theorem takeQ_eq (env : Ev) (i : Nat) (k : R → Ev → Prop) : takeQ env i k = take env i k := by
  unfold takeQ take
  rw [slot_eq, List.getD_eq_getElem?_getD]
  cases env[i]? with
  | none => rfl
  | some s => cases s <;> first | rfl | exact setK_eq _ _ _ _
def isLQ (env : Ev) (i : Nat) (p : Prop) : Prop :=
  match slot env i with
  | .own _ => p
  | .mu _ _ => p
  | _ => False
theorem isLQ_eq (env : Ev) (i : Nat) (p : Prop) : isLQ env i p = isL env i p := by
  unfold isLQ isL
  rw [slot_eq, List.getD_eq_getElem?_getD]
  cases env[i]? with
  | none => rfl
  | some s => cases s <;> rfl
def putQ (env : Ev) (i : Nat) (f : List PyData → (List PyData → Prop) → Prop) (k : Ev → Prop) : Prop :=
  match slot env i with
  | .own ds => f ds fun ds' => setK env i (.own ds') k
  | .mu m ds => f ds fun ds' => setK env i (.mu m ds') k
  | _ => False
theorem putQ_eq (env : Ev) (i : Nat) (f : List PyData → (List PyData → Prop) → Prop) (k : Ev → Prop) : putQ env i f k = putL env i f k := by
  unfold putQ putL
  rw [slot_eq, List.getD_eq_getElem?_getD]
  cases env[i]? with
  | none => rfl
  | some s => cases s <;> simp only [setK_eq, Option.getD_some]
def popQ (env : Ev) (i : Nat) (f : List PyData → (PyData → List PyData → Prop) → Prop) (k : R → Ev → Prop) : Prop :=
  match slot env i with
  | .own ds => f ds fun y ds' => setK env i (.own ds') (k (.dat y))
  | .mu m ds => f ds fun y ds' => setK env i (.mu m ds') (k (.dat y))
  | _ => False
theorem popQ_eq (env : Ev) (i : Nat) (f : List PyData → (PyData → List PyData → Prop) → Prop) (k : R → Ev → Prop) : popQ env i f k = match env[i]? with
    | some (.own ds) => f ds fun y ds' => k (.dat y) (env.set i (.own ds'))
    | some (.mu m ds) => f ds fun y ds' => k (.dat y) (env.set i (.mu m ds'))
    | _ => False := by
  unfold popQ
  rw [slot_eq, List.getD_eq_getElem?_getD]
  cases env[i]? with
  | none => rfl
  | some s => cases s <;> simp only [setK_eq, Option.getD_some]
def unpNQ : List Nat → List PyData → Ev → (Ev → Prop) → Prop
  | [], [], env, k => k env
  | i :: is, d :: ds, env, k => setK env i (.dat d) fun e => unpNQ is ds e k
  | _, _, _, _ => False
theorem unpNQ_eq : ∀ (is : List Nat) (ds : List PyData) (env : Ev) (k : Ev → Prop), unpNQ is ds env k = unpN is ds env k
  | [], [], _, _ => rfl
  | i :: is, d :: ds, env, k => by
    show setK _ _ _ _ = _
    rw [setK_eq]
    exact unpNQ_eq is ds _ k
  | [], _ :: _, _, _ => rfl
  | _ :: _, [], _, _ => rfl
def unpQ : List Pn → List PyData → Ev → (Ev → Prop) → Prop
  | [], [], env, k => k env
  | .inl i :: is, d :: ds, env, k => setK env i (.dat d) fun e => unpQ is ds e k
  | .inr js :: is, d :: ds, env, k => tupW d fun es => unpNQ js es env fun env' => unpQ is ds env' k
  | _, _, _, _ => False
theorem unpQ_eq : ∀ (is : List Pn) (ds : List PyData) (env : Ev) (k : Ev → Prop), unpQ is ds env k = unpE is ds env k
  | [], [], _, _ => rfl
  | .inl i :: is, d :: ds, env, k => by
    show setK _ _ _ _ = _
    rw [setK_eq]
    exact unpQ_eq is ds _ k
  | .inr js :: is, d :: ds, env, k => by
    show (tupW d fun es => unpNQ js es env fun env' => unpQ is ds env' k) = (tupW d fun es => unpN js es env fun env' => unpE is ds env' k)
    congr
    funext es
    rw [unpNQ_eq]
    congr
    funext env'
    exact unpQ_eq is ds _ k
  | [], _ :: _, _, _ => rfl
  | .inl _ :: _, [], _, _ => rfl
  | .inr _ :: _, [], _, _ => rfl
def itemQ (env : Ev) (i : Nat) (z : Int) (k : Int → Prop) : Prop :=
  peekQ env i fun d => match d with
  | .list ds => ∃ x, atI ds z = some (.int x) ∧ k x
  | _ => False
theorem itemQ_eq (env : Ev) (i : Nat) (z : Int) (k : Int → Prop) : itemQ env i z k = itemW env i z k := by
  unfold itemQ itemW
  exact peekQ_eq _ _ _
def asgQ (x : Tg) (d : PyData) (env : Ev) (k : Ev → Prop) : Prop :=
  match x with
  | .inl i => setK env i (.dat d) k
  | .inr is => match d with
    | .tuple ds => unpQ is ds env k
    | _ => False
theorem asgQ_eq (x : Tg) (d : PyData) (env : Ev) (k : Ev → Prop) : asgQ x d env k = asgW x d env k := by
  unfold asgQ asgW
  cases x with
  | inl i => exact setK_eq _ _ _ _
  | inr is => cases d <;> simp only [unpQ_eq]
def stQ (i : Nat) (r : R) (env : Ev) (k : Ev → Prop) : Prop :=
  match r with
  | .dat d => setK env i (.dat d) k
  | .own ds => setK env i (.own ds) k
theorem stQ_eq (i : Nat) (r : R) (env : Ev) (k : Ev → Prop) : stQ i r env k = stR i r env k := by
  unfold stQ stR
  cases r <;> exact setK_eq _ _ _ _
def setAllQ : Ev → List Nat → Sl → (Ev → Prop) → Prop
  | env, [], _, k => k env
  | env, i :: is, s, k => setK env i s fun e => setAllQ e is s k
theorem setAllQ_eq : ∀ (is : List Nat) (env : Ev) (s : Sl) (k : Ev → Prop), setAllQ env is s k = k (setAll env is s)
  | [], _, _, _ => rfl
  | i :: is, env, s, k => by
    show setK _ _ _ _ = _
    rw [setK_eq]
    exact setAllQ_eq is _ s k
def wipeQ : Ev → List Nat → (Ev → Prop) → Prop
  | env, [], k => k env
  | env, i :: is, k => wipeQ env is fun e => setK e i .no k
theorem wipeQ_eq : ∀ (is : List Nat) (env : Ev) (k : Ev → Prop), wipeQ env is k = k (wipeE env is)
  | [], _, _ => rfl
  | i :: is, env, k => by
    show wipeQ env is (fun e => setK e i .no k) = _
    rw [wipeQ_eq is]
    exact setK_eq _ _ _ _
def unQ : Ev → Ev → List Nat → (Ev → Prop) → Prop
  | _, e', [], k => k e'
  | env, e', i :: is, k => unQ env e' is fun e => match slot env i with
    | .no => setK e i .no k
    | .dat d => setK e i (.dat d) k
    | .own ds => setK e i (.own ds) k
    | .mu m ds => setK e i (.mu m ds) k
    | .exc x => setK e i (.exc x) k
theorem unQ_eq : ∀ (is : List Nat) (env e' : Ev) (k : Ev → Prop), unQ env e' is k = k (unR env e' is)
  | [], _, _, _ => rfl
  | i :: is, env, e', k => by
    show unQ env e' is (fun e => match slot env i with
    | .no => setK e i .no k
    | .dat d => setK e i (.dat d) k
    | .own ds => setK e i (.own ds) k
    | .mu m ds => setK e i (.mu m ds) k
    | .exc x => setK e i (.exc x) k) = _
    rw [unQ_eq is]
    show _ = k ((unR env e' is).set i (env.getD i .no))
    rw [slot_eq]
    cases env.getD i .no <;> exact setK_eq _ _ _ _
def slotO : Ev → Nat → Option Sl
  | [], _ => none
  | s :: _, 0 => some s
  | _ :: r, i + 1 => slotO r i
theorem slotO_eq : ∀ (env : Ev) (i : Nat), slotO env i = env[i]?
  | [], _ => rfl
  | _ :: _, 0 => rfl
  | _ :: r, i + 1 => by
    show slotO r i = _
    rw [slotO_eq r i]
    simp
def plainQ : Ev → List Nat → Prop → Prop
  | _, [], p => p
  | env, i :: is, p => match slotO env i with
    | some .no => plainQ env is p
    | some (.dat _) => plainQ env is p
    | _ => False
theorem plainQ_eq : ∀ (is : List Nat) (env : Ev) (p : Prop), plainQ env is p = (plainE env is ∧ p)
  | [], env, p => (true_and p).symm
  | i :: is, env, p => by
    show (match slotO env i with
    | some .no => plainQ env is p
    | some (.dat _) => plainQ env is p
    | _ => False) = ((match env[i]? with
    | some .no => plainE env is
    | some (.dat _) => plainE env is
    | _ => False) ∧ p)
    rw [slotO_eq]
    cases env[i]? with
    | none => exact (false_and p).symm
    | some s => cases s <;> first | exact plainQ_eq is env p | exact (false_and p).symm
/-- the value of a result -/
def kD (x : Xc → Ev → Prop) (f : PyData → Ev → Prop) : K := kE x fun r e => match r with
  | .dat d => f d e
  | .own ds => f (.list ds) e
theorem kD_eq (x : Xc → Ev → Prop) (f : PyData → Ev → Prop) : kD x f = kE x fun r e => f r.d e := by
  unfold kD
  congr
  funext r e
  cases r <;> rfl
def cleanQ : Ev → Prop → Prop
  | [], p => p
  | .exc _ :: _, _ => False
  | .no :: r, p => cleanQ r p
  | .dat _ :: r, p => cleanQ r p
  | .own _ :: r, p => cleanQ r p
  | .mu _ _ :: r, p => cleanQ r p
theorem cleanQ_eq : ∀ (env : Ev) (p : Prop), cleanQ env p = (cleanE env ∧ p)
  | [], p => (true_and p).symm
  | .exc _ :: _, p => (false_and p).symm
  | .no :: r, p => cleanQ_eq r p
  | .dat _ :: r, p => cleanQ_eq r p
  | .own _ :: r, p => cleanQ_eq r p
  | .mu _ _ :: r, p => cleanQ_eq r p
def K.suQ (k : K) (i : Nat) : K := ⟨k.e, k.a, k.t, k.i, fun e => setK e i .no fun e => cleanQ e (k.nx e), fun e => setK e i .no fun e => cleanQ e (k.bk e), fun e => setK e i .no fun e => cleanQ e (k.ct e), fun r e => setK e i .no fun e => cleanQ e (k.rt r e), fun _ _ => False⟩
theorem suQ_eq (k : K) (i : Nat) : k.suQ i = k.su i := by
  unfold K.suQ K.su
  simp only [setK_eq, cleanQ_eq]
/-- a constant -/
def cstQ (d : PyData) (k : R → Ev → Prop) (env : Ev) : Prop :=
  match d with
  | .none => k (.dat .none) env
  | .bool b => k (.dat (.bool b)) env
  | .int i => k (.dat (.int i)) env
  | .str s => k (.dat (.str s)) env
  | d => k (.dat d) env
theorem cstQ_eq (d : PyData) (k : R → Ev → Prop) (env : Ev) : cstQ d k env = k (.dat d) env := by
  unfold cstQ
  cases d <;> rfl
def datsQ : List (Sum PyData Nat) → (List PyData → Prop) → Prop
  | [], k => k []
  | .inl d :: r, k => datsQ r fun ds => k (d :: ds)
  | .inr _ :: _, _ => False
theorem datsQ_eq : ∀ (l : List (Sum PyData Nat)) (k : List PyData → Prop), datsQ l k = match dats l with
    | some ds => k ds
    | none => False
  | [], _ => rfl
  | .inl d :: r, k => by
    show datsQ r _ = _
    rw [datsQ_eq r]
    show _ = match (dats r).map (d :: ·) with
      | some ds => k ds
      | none => False
    cases dats r <;> rfl
  | .inr _ :: _, _ => rfl
def agsQ (env : Ev) : List (Sum PyData Nat) → (List Ag → Prop) → Prop
  | [], k => k []
  | .inl d :: r, k => agsQ env r fun l => k (Ag.d d :: l)
  | .inr i :: r, k => match slot env i with
    | .own ds => agsQ env r fun l => k (Ag.m ds :: l)
    | .mu _ ds => agsQ env r fun l => k (Ag.m ds :: l)
    | _ => False
theorem agsQ_eq (env : Ev) : ∀ (l : List (Sum PyData Nat)) (k : List Ag → Prop), agsQ env l k = match agOf env l with
    | some ags => k ags
    | none => False
  | [], _ => rfl
  | .inl d :: r, k => by
    show agsQ env r _ = match (agOf env r).map (Ag.d d :: ·) with
      | some ags => k ags
      | none => False
    rw [agsQ_eq env r]
    cases agOf env r <;> rfl
  | .inr i :: r, k => by
    show (match slot env i with
    | .own ds => agsQ env r fun l => k (Ag.m ds :: l)
    | .mu _ ds => agsQ env r fun l => k (Ag.m ds :: l)
    | _ => False) = match (match env[i]? with
      | some (.own ds) => (agOf env r).map (Ag.m ds :: ·)
      | some (.mu _ ds) => (agOf env r).map (Ag.m ds :: ·)
      | _ => none) with
      | some ags => k ags
      | none => False
    rw [slot_eq, List.getD_eq_getElem?_getD]
    cases env[i]? with
    | none => rfl
    | some s => cases s <;> first | rfl | (simp only [Option.getD_some, agsQ_eq env r]; cases agOf env r <;> rfl)
def putMsQ : Ev → List Nat → List (List PyData) → (Ev → Prop) → Prop
  | env, i :: is, ds :: r, k => match slot env i with
    | .own _ => setK env i (.own ds) fun e => putMsQ e is r k
    | .mu m _ => setK env i (.mu m ds) fun e => putMsQ e is r k
    | _ => putMsQ env is r k
  | env, _, _, k => k env
theorem putMsQ_eq : ∀ (is : List Nat) (mss : List (List PyData)) (env : Ev) (k : Ev → Prop), putMsQ env is mss k = k (putMs env is mss)
  | i :: is, ds :: r, env, k => by
    show (match slot env i with
    | .own _ => setK env i (.own ds) fun e => putMsQ e is r k
    | .mu m _ => setK env i (.mu m ds) fun e => putMsQ e is r k
    | _ => putMsQ env is r k) = k (putMs (match env[i]? with
      | some (.own _) => env.set i (.own ds)
      | some (.mu m _) => env.set i (.mu m ds)
      | _ => env) is r)
    rw [slot_eq, List.getD_eq_getElem?_getD]
    cases env[i]? with
    | none => exact putMsQ_eq is r env k
    | some s => cases s <;> simp only [Option.getD_some, setK_eq, putMsQ_eq is r]
  | [], _, _, _ => rfl
  | _ :: _, [], _, _ => rfl
@[irreducible] def eqQ (x y : PyData) (k : Bool → Prop) : Prop := SeqAt.shaped x = true ∧ SeqAt.shaped y = true ∧ k (PyData.eqv x y)
@[irreducible] def inQ (x : PyData) (ds : List PyData) (k : Bool → Prop) : Prop := SeqAt.shaped x = true ∧ SeqAt.shaped (.list ds) = true ∧ k (ds.any fun z => PyData.eqv z x)
@[irreducible] def inQ' (x : PyData) (ds : List PyData) (k : Bool → Prop) : Prop := SeqAt.shaped x = true ∧ SeqAt.shaped (.tuple ds) = true ∧ k (ds.any fun z => PyData.eqv z x)
def cmpQ : CO → PyData → PyData → (Bool → Prop) → Prop
  | .lt, .int i, .int j, k => k (decide (i < j))
  | .le, .int i, .int j, k => k (decide (i ≤ j))
  | .gt, .int i, .int j, k => k (decide (j < i))
  | .ge, .int i, .int j, k => k (decide (j ≤ i))
  | .eq, .int i, .int j, k => k (decide (i = j))
  | .ne, .int i, .int j, k => k (!decide (i = j))
  | .lt, .str a, .str b, k => k (decide (a.cps.toList < b.cps.toList))
  | .le, .str a, .str b, k => k (!decide (b.cps.toList < a.cps.toList))
  | .eq, x, y, k => eqQ x y k
  | .ne, x, y, k => eqQ x y fun b => k (!b)
  | .inn, x, .list ds, k => inQ x ds k
  | .nin, x, .list ds, k => inQ x ds fun b => k (!b)
  | .inn, x, .tuple ds, k => inQ' x ds k
  | .nin, x, .tuple ds, k => inQ' x ds fun b => k (!b)
  | .isN, x, .none, k => k (isNone x)
  | .notN, x, .none, k => k (!isNone x)
  | _, _, _, _ => False
theorem cmpQ_eq (o : CO) (x y : PyData) (k : Bool → Prop) : cmpQ o x y k = cmpW o x y k := by
  cases o <;> cases x <;> cases y <;> first | rfl | (show eqQ _ _ _ = _; unfold eqQ; rfl) | (show inQ _ _ _ = _; unfold inQ; rfl) | (show inQ' _ _ _ = _; unfold inQ'; rfl)
@[irreducible] def reprQ (d : PyData) (k : R → Prop) : Prop := d.showable = true ∧ d.hasDict = false ∧ d.depth ≤ 40 ∧ sz d.shown.length ∧ k (.dat (.str d.shown))
@[irreducible] def sortQ (d : PyData) (k : R → Prop) : Prop := b1W .sorted d k
@[irreducible] def maxQ (d : PyData) (k : R → Prop) : Prop := b1W .maxl d k
@[irreducible] def minQ (d : PyData) (k : R → Prop) : Prop := b1W .minl d k
def b1Q (f : B1) (d : PyData) (k : R → Prop) : Prop :=
  match f with
  | .repr => reprQ d k
  | .sorted => sortQ d k
  | .maxl => maxQ d k
  | .minl => minQ d k
  | f => b1W f d k
theorem b1Q_eq (f : B1) (d : PyData) (k : R → Prop) : b1Q f d k = b1W f d k := by
  cases f <;> first | rfl | (show sortQ _ _ = _; unfold sortQ; rfl) | (show maxQ _ _ = _; unfold maxQ; rfl) | (show minQ _ _ = _; unfold minQ; rfl) | (cases d <;> (show reprQ _ _ = _; unfold reprQ; rfl))
def repQ : Nat → (Ev → Prop) → Prop
  | 0, k => k []
  | n + 1, k => repQ n fun e => k (.no :: e)
theorem repQ_eq : ∀ (n : Nat) (k : Ev → Prop), repQ n k = k (List.replicate n .no)
  | 0, _ => rfl
  | n + 1, k => repQ_eq n fun e => k (.no :: e)
def startQ (l : Nat) : Nat → List Ag → (Ev → Prop) → Prop
  | _, [], k => repQ l k
  | m, .d d :: r, k => startQ l m r fun e => k (.dat d :: e)
  | m, .m ds :: r, k => startQ l (m + 1) r fun e => k (.mu m ds :: e)
theorem startQ_eq (l : Nat) : ∀ (ags : List Ag) (m : Nat) (k : Ev → Prop), startQ l m ags k = k (startE l m ags)
  | [], _, k => repQ_eq l k
  | .d d :: r, m, k => startQ_eq l r m fun e => k (.dat d :: e)
  | .m ds :: r, m, k => startQ_eq l r (m + 1) fun e => k (.mu m ds :: e)
def mutQ (env : Ev) : Nat → Nat → List Bool → (List (List PyData) → Prop) → Prop
  | _, _, [], k => k []
  | i, m, false :: r, k => mutQ env (i + 1) m r k
  | i, m, true :: r, k => match slot env i with
    | .mu n ds => match n == m with
      | true => mutQ env (i + 1) (m + 1) r fun l => k (ds :: l)
      | false => False
    | _ => False
theorem mutQ_eq (env : Ev) : ∀ (ps : List Bool) (i m : Nat) (k : List (List PyData) → Prop), mutQ env i m ps k = match mutEnd env i m ps with
    | some ms => k ms
    | none => False
  | [], _, _, _ => rfl
  | false :: r, i, m, k => mutQ_eq env r (i + 1) m k
  | true :: r, i, m, k => by
    show (match slot env i with
    | .mu n ds => match n == m with
      | true => mutQ env (i + 1) (m + 1) r fun l => k (ds :: l)
      | false => False
    | _ => False) = match (match env[i]? with
      | some (.mu n ds) => match n == m with
        | true => (mutEnd env (i + 1) (m + 1) r).map (ds :: ·)
        | false => none
      | _ => none) with
      | some ms => k ms
      | none => False
    rw [slot_eq, List.getD_eq_getElem?_getD]
    cases env[i]? with
    | none => rfl
    | some s => cases s <;> first | rfl | (
        rename_i n ds
        simp only [Option.getD_some]
        cases n == m with
        | false => rfl
        | true =>
          simp only
          rw [mutQ_eq env r]
          cases mutEnd env (i + 1) (m + 1) r <;> rfl)
section
variable (F : Fs) (C : Nat → Option PyData)
def wpq0 : N → Ev → K → Prop
  | .v i, env, k => takeQ env i k.e
  | .g x, env, k => match C x with
    | some d => cstQ d k.e env
    | none => False
  | .c d, env, k => cstQ d k.e env
  | .bin o a b, env, k => match a.isV, b.isV with
    | some i, some j => peekQ env i fun x => peekQ env j fun y => binW o x y fun r => k.e r env
    | some i, none => peekQ env i fun _ => wpq0 b env (kD k.x fun rb env1 => peekQ env1 i fun x => binW o x rb fun r => k.e r env1)
    | none, some j => wpq0 a env (kD k.x fun ra env1 => peekQ env1 j fun y => binW o ra y fun r => k.e r env1)
    | none, none => wpq0 a env (kD k.x fun ra env1 => wpq0 b env1 (kD k.x fun rb env2 => binW o ra rb fun r => k.e r env2))
  | .neg a, env, k => wpq0 a env (kD k.x fun r env1 => intW r fun i => k.e (.dat (.int (-i))) env1)
  | .cmp o a b, env, k => match a.isV, b.isV with
    | some i, some j => peekQ env i fun x => peekQ env j fun y => cmpQ o x y fun r => k.e (.dat (.bool r)) env
    | some i, none => peekQ env i fun _ => wpq0 b env (kD k.x fun rb env1 => peekQ env1 i fun x => cmpQ o x rb fun r => k.e (.dat (.bool r)) env1)
    | none, some j => wpq0 a env (kD k.x fun ra env1 => peekQ env1 j fun y => cmpQ o ra y fun r => k.e (.dat (.bool r)) env1)
    | none, none => wpq0 a env (kD k.x fun ra env1 => wpq0 b env1 (kD k.x fun rb env2 => cmpQ o ra rb fun r => k.e (.dat (.bool r)) env2))
  | .chain o o' a b c, env, k => wpq0 a env (kD k.x fun ra env1 => wpq0 b env1 (kD k.x fun rb env2 => cmpQ o ra rb fun t =>
      bothW t (wpq0 c env2 (kD k.x fun rc env3 => cmpQ o' rb rc fun u => k.e (.dat (.bool u)) env3)) (k.e (.dat (.bool false)) env2)))
  | .nott a, env, k => wpq0 a env (kD k.x fun r env1 => boolW r fun b => k.e (.dat (.bool (!b))) env1)
  | .andd a b, env, k => wpq0 a env (kD k.x fun r env1 => boolW r fun t => bothW t (wpq0 b env1 k) (k.e (.dat (.bool false)) env1))
  | .orr a b, env, k => wpq0 a env (kD k.x fun r env1 => boolW r fun t => bothW t (k.e (.dat (.bool true)) env1) (wpq0 b env1 k))
  | .one a, env, k => wpq0 a env k
  | .ite t a b, env, k => wpq0 t env (kT k.x fun c env1 => bothW c (wpq0 a env1 k) (wpq0 b env1 k))
  | .call f as, env, k => wpq0 as env (kA k.x fun l env1 => agsQ env1 l fun ags => match nodupB (mutsOf l) with
      | true => F f ags (fun r ms => putMsQ env1 (mutsOf l) ms (k.e r)) fun e => wipeQ env1 (mutsOf l) (k.x e)
      | false => False)
  | .b1 f a, env, k => match a.isV with
    | some i => peekQ env i fun d => b1Q f d fun r => k.e r env
    | none => wpq0 a env (kD k.x fun r env1 => b1Q f r fun r' => k.e r' env1)
  | .b2 f a b, env, k => wpq0 a env (kD k.x fun ra env1 => wpq0 b env1 (kD k.x fun rb env2 => b2W f ra rb fun r => k.e r env2))
  | .isi a ts, env, k => match a.isV with
    | some i => peekQ env i fun d => k.e (.dat (.bool (ts.any (isTy d)))) env
    | none => wpq0 a env (kD k.x fun r env1 => k.e (.dat (.bool (ts.any (isTy r)))) env1)
  | .ix a b, env, k => match a.isV, b.isV with
    | some i, some j => peekQ env i fun x => peekQ env j fun y => ixW x y fun r => k.e r env
    | some i, none => peekQ env i fun _ => wpq0 b env (kD k.x fun rb env1 => peekQ env1 i fun x => ixW x rb fun r => k.e r env1)
    | none, some j => wpq0 a env (kD k.x fun ra env1 => peekQ env1 j fun y => ixW ra y fun r => k.e r env1)
    | none, none => wpq0 a env (kD k.x fun ra env1 => wpq0 b env1 (kD k.x fun rb env2 => ixW ra rb fun r => k.e r env2))
  | .sl a lo hi, env, k => match a.isV with
    | some i => peekQ env i fun _ => wpq0 lo env (kI k.x fun l env1 => wpq0 hi env1 (kI k.x fun h env2 => partW l fun lo' => partW h fun hi' => peekQ env2 i fun d => slW d lo' hi' fun r => k.e r env2))
    | none => wpq0 a env (kD k.x fun ra env0 => wpq0 lo env0 (kI k.x fun l env1 => wpq0 hi env1 (kI k.x fun h env2 => partW l fun lo' => partW h fun hi' => slW ra lo' hi' fun r => k.e r env2)))
  | .rv a, env, k => wpq0 a env (kD k.x fun r env1 => revW r fun r' => k.e r' env1)
  | .tup es, env, k => wpq0 es env (kA k.x fun l env1 => datsQ l fun ds => k.e (.dat (.tuple ds)) env1)
  | .lst es, env, k => wpq0 es env (kA k.x fun l env1 => datsQ l fun ds => k.e (.own ds) env1)
  | .lc own x it cs e, env, k => wpq0 it env (kI k.x fun ds env1 => plainQ env1 own <| wipeQ env1 own <|
      lcW (fun d env2 c => asgQ x d env2 fun env3 => wpq0 cs env3 (kT (fun _ _ => False) fun b env4 => plainQ env4 own <| bothW b (wpq0 e env4 (kD (fun _ _ => False) fun r env5 => plainQ env5 own <| wipeQ env5 own (c (some r)))) (wipeQ env4 own (c none))))
        (fun acc env6 => unQ env1 env6 own (k.e (.own acc))) ds [])
  | .slc i own x it cs e, env, k => wpq0 it env (kI k.x fun ds env1 => plainQ env1 own <| wipeQ env1 own <|
      lcW (fun d env2 c => asgQ x d env2 fun env3 => wpq0 cs env3 (kT (fun _ _ => False) fun b env4 => plainQ env4 own <| bothW b (wpq0 e env4 (kD (fun _ _ => False) fun r env5 => plainQ env5 own <| wipeQ env5 own (c (some r)))) (wipeQ env4 own (c none))))
        (fun acc env6 => unQ env1 env6 own fun env7 => setK env7 i (.own acc) k.nx) ds [])
  | .pop i, env, k => popQ env i (fun ds c => ∃ y, ds[ds.length - 1]? = some y ∧ c y ds.dropLast) k.e
  | .popAt i a, env, k => isLQ env i <| wpq0 a env (kD k.x fun r env1 => intW r fun z => inR z ∧ popQ env1 i (fun ds c => ∃ j y, seqIndex? z ds.length = some j ∧ ds[j]? = some y ∧ c y (ds.eraseIdx j)) k.e)
  | .lib f a b, env, k => wpq0 a env (kD k.x fun ra env1 => wpq0 b env1 (kD k.x fun rb env2 => libW f ra rb fun r => k.e r env2))
  | .m1 m a b, env, k => wpq0 a env (kD k.x fun ra env1 => strW ra fun x => match b.isV with
    | some j => peekQ env1 j fun y => m1W m x y fun r => k.e r env1
    | none => wpq0 b env1 (kD k.x fun rb env2 => m1W m x rb fun r => k.e r env2))
  | .lix a b, env, k => match a.isV with
    | some i => peekQ env i fun x => listW x <| wpq0 b env (kD k.x fun rb env1 => peekQ env1 i fun x => lixW x rb fun r => k.e r env1)
    | none => wpq0 a env (kD k.x fun ra env1 => listW ra <| wpq0 b env1 (kD k.x fun rb env2 => lixW ra rb fun r => k.e r env2))
  | .callD f as ds, env, k => wpq0 as env (kA k.x fun l env1 => agsQ env1 (l ++ ds.map .inl) fun ags => match nodupB (mutsOf (l ++ ds.map .inl)) with
      | true => F f ags (fun r ms => putMsQ env1 (mutsOf (l ++ ds.map .inl)) ms (k.e r)) fun e => wipeQ env1 (mutsOf (l ++ ds.map .inl)) (k.x e)
      | false => False)
  | .xw i, env, k => match slotO env i with
    | some (.exc x) => k.e (.dat (.str x.word)) env
    | _ => False
  | .xp i, env, k => match slotO env i with
    | some (.exc x) => k.e (.dat x.place) env
    | _ => False
  | .xi i nm ts, env, k => match slotO env i with
    | some (.exc x) => k.e (.dat (.bool (ts.contains x.cls))) env
    | _ => False
  | .nil, env, k => k.a [] env
  | .sno, env, k => k.i [] env
  | .sat e, env, k => wpq0 e env (kD k.x fun r env1 => intW r fun i => k.i [.int i] env1)
  | .cons a r, env, k => wpq0 a env (kD k.x fun ra env1 => wpq0 r env1 (kA k.x fun l env2 => k.a (.inl ra :: l) env2))
  | .consM i r, env, k => peekQ env i fun _ => wpq0 r env (kA k.x fun l env1 => k.a (.inr i :: l) env1)
  | .tcmp o a b, env, k => match a.isV, b.isV with
    | some i, some j => peekQ env i fun x => peekQ env j fun y => cmpQ o x y fun r => k.t r env
    | some i, none => peekQ env i fun _ => wpq0 b env (kD k.x fun rb env1 => peekQ env1 i fun x => cmpQ o x rb fun r => k.t r env1)
    | none, some j => wpq0 a env (kD k.x fun ra env1 => peekQ env1 j fun y => cmpQ o ra y fun r => k.t r env1)
    | none, none => wpq0 a env (kD k.x fun ra env1 => wpq0 b env1 (kD k.x fun rb env2 => cmpQ o ra rb fun r => k.t r env2))
  | .tchain o o' a b c, env, k => wpq0 a env (kD k.x fun ra env1 => wpq0 b env1 (kD k.x fun rb env2 => cmpQ o ra rb fun t =>
      bothW t (wpq0 c env2 (kD k.x fun rc env3 => cmpQ o' rb rc fun u => k.t u env3)) (k.t false env2)))
  | .tnot a, env, k => wpq0 a env (kT k.x fun b env1 => k.t (!b) env1)
  | .tand a b, env, k => wpq0 a env (kT k.x fun t env1 => bothW t (wpq0 b env1 k) (k.t false env1))
  | .tor a b, env, k => wpq0 a env (kT k.x fun t env1 => bothW t (k.t true env1) (wpq0 b env1 k))
  | .tone a, env, k => wpq0 a env k
  | .tyes, env, k => k.t true env
  | .tval a, env, k => match a.isV with
    | some i => peekQ env i fun d => truthW d fun b => k.t b env
    | none => wpq0 a env (kD k.x fun r env1 => truthW r fun b => k.t b env1)
  | .itl a, env, k => wpq0 a env (kD k.x fun r env1 => walkL r fun ds => k.i ds env1)
  | .iten a, env, k => wpq0 a env (kD k.x fun r env1 => enumW r fun ds => k.i ds env1)
  | .itz a b, env, k => wpq0 a env (kD k.x fun ra env1 => wpq0 b env1 (kD k.x fun rb env2 => zipW ra rb fun ds => k.i ds env2))
  | .itr1 a, env, k => wpq0 a env (kD k.x fun r env1 => intW r fun n => inR n ∧ k.i (rangeD 0 n.toNat) env1)
  | .itr2 a b, env, k => wpq0 a env (kD k.x fun ra env1 => wpq0 b env1 (kD k.x fun rb env2 => intW ra fun i => intW rb fun j => inR i ∧ inR j ∧ k.i (rangeD i (j - i).toNat) env2))
  | .set i e, env, k => wpq0 e env (kE k.x fun r env1 => stQ i r env1 k.nx)
  | .unp is e, env, k => wpq0 e env (kD k.x fun r env1 => asgQ (.inr is) r env1 k.nx)
  | .seti i b e, env, k => wpq0 e env (kD k.x fun r env1 => isLQ env1 i <| wpq0 b env1 (kD k.x fun rb env2 => intW rb fun z => putQ env2 i (fun ds c => ∃ j, ixN ds.length z = some j ∧ c (ds.set j r)) k.nx))
  | .aug i o e, env, k => peekQ env i fun _ => wpq0 e env (kD k.x fun r env1 => peekQ env1 i fun x => augW o x r fun z => setK env1 i (.dat (.int z)) k.nx)
  | .augi i o b e, env, k => isLQ env i <| wpq0 b env (kD k.x fun rb env1 => intW rb fun z => itemQ env1 i z fun x => wpq0 e env1 (kD k.x fun r env2 => augW o (.int x) r fun y => putQ env2 i (fun ds c => ∃ j, ixN ds.length z = some j ∧ c (ds.set j (.int y))) k.nx))
  | .ex e, env, k => wpq0 e env (kE k.x fun _ env1 => k.nx env1)
  | .app i e, env, k => isLQ env i <| wpq0 e env (kD k.x fun r env1 => putQ env1 i (fun ds c => ds.length < sizeLine ∧ c (ds ++ [r])) k.nx)
  | .ext i e, env, k => isLQ env i <| wpq0 e env (kD k.x fun r env1 => lstW r fun es => putQ env1 i (fun ds c => sz (ds.length + es.length) ∧ c (ds ++ es)) k.nx)
  | .ins i b e, env, k => isLQ env i <| wpq0 b env (kD k.x fun rb env1 => intW rb fun z => wpq0 e env1 (kD k.x fun r env2 => putQ env2 i (fun ds c => ds.length < sizeLine ∧ 0 ≤ z ∧ z < 2 ^ 63 ∧ c (ds.take z.toNat ++ [r] ++ ds.drop z.toNat)) k.nx))
  | .setc is e, env, k => wpq0 e env (kD k.x fun r env1 => setAllQ env1 is (.dat r) k.nx)
  | .ret e, env, k => wpq0 e env (kE k.x fun r env1 => k.rt r env1)
  | .retn, env, k => k.rt (.dat .none) env
  | .retv i, env, k => match slotO env i with
    | some (.own ds) => setK env i .no (k.rt (.own ds))
    | some (.dat d) => k.rt (.dat d) env
    | _ => False
  | .ifs t a b, env, k => wpq0 t env (kT k.x fun c env1 => bothW c (wpq0 a env1 k) (wpq0 b env1 k))
  | .forr x it b, env, k => wpq0 it env (kI k.x fun ds env1 => forW (fun d env2 c => asgQ x d env2 fun env3 => wpq0 b env3 (k.lp c k.nx)) k.nx ds env1)
  | .whl t b, env, k => ∃ (I : Ev → Prop) (μ : Ev → Nat), I env ∧ ∀ env1, I env1 → wpq0 t env1 (kT k.x fun c env2 => bothW c (wpq0 b env2 (k.lp (fun e => I e ∧ μ e < μ env1) k.nx)) (k.nx env2))
  | .brk, env, k => k.bk env
  | .ctn, env, k => k.ct env
  | .pas, env, k => k.nx env
  | .rai c w e, env, k => wpq0 e env (kD k.x fun r env1 => k.x ⟨c, w, r⟩ env1)
  | .rai0 c w, env, k => k.x ⟨c, w, .none⟩ env
  | .tryx i ts b s, env, k => wpq0 b env (k.ox fun e env1 => match ts.contains e.cls with
    | true => setK env1 i (.exc e) fun env2 => wpq0 s env2 (k.suQ i)
    | false => k.x e env1)
  | .try2 i ts b s us g, env, k => wpq0 b env (k.ox fun e env1 => match ts.contains e.cls with
    | true => setK env1 i (.exc e) fun env2 => wpq0 s env2 (k.suQ i)
    | false => match us.contains e.cls with
      | true => setK env1 i (.exc e) fun env2 => wpq0 g env2 (k.suQ i)
      | false => k.x e env1)
  | .done, env, k => k.nx env
  | .seq s r, env, k => wpq0 s env (k.on fun env1 => wpq0 r env1 k)
def stepQ (self : N → Ev → K → Prop) : N → Ev → K → Prop
  | .v i, env, k => takeQ env i k.e
  | .g x, env, k => match C x with
    | some d => cstQ d k.e env
    | none => False
  | .c d, env, k => cstQ d k.e env
  | .bin o a b, env, k => match a.isV, b.isV with
    | some i, some j => peekQ env i fun x => peekQ env j fun y => binW o x y fun r => k.e r env
    | some i, none => peekQ env i fun _ => self b env (kD k.x fun rb env1 => peekQ env1 i fun x => binW o x rb fun r => k.e r env1)
    | none, some j => self a env (kD k.x fun ra env1 => peekQ env1 j fun y => binW o ra y fun r => k.e r env1)
    | none, none => self a env (kD k.x fun ra env1 => self b env1 (kD k.x fun rb env2 => binW o ra rb fun r => k.e r env2))
  | .neg a, env, k => self a env (kD k.x fun r env1 => intW r fun i => k.e (.dat (.int (-i))) env1)
  | .cmp o a b, env, k => match a.isV, b.isV with
    | some i, some j => peekQ env i fun x => peekQ env j fun y => cmpQ o x y fun r => k.e (.dat (.bool r)) env
    | some i, none => peekQ env i fun _ => self b env (kD k.x fun rb env1 => peekQ env1 i fun x => cmpQ o x rb fun r => k.e (.dat (.bool r)) env1)
    | none, some j => self a env (kD k.x fun ra env1 => peekQ env1 j fun y => cmpQ o ra y fun r => k.e (.dat (.bool r)) env1)
    | none, none => self a env (kD k.x fun ra env1 => self b env1 (kD k.x fun rb env2 => cmpQ o ra rb fun r => k.e (.dat (.bool r)) env2))
  | .chain o o' a b c, env, k => self a env (kD k.x fun ra env1 => self b env1 (kD k.x fun rb env2 => cmpQ o ra rb fun t =>
      bothW t (self c env2 (kD k.x fun rc env3 => cmpQ o' rb rc fun u => k.e (.dat (.bool u)) env3)) (k.e (.dat (.bool false)) env2)))
  | .nott a, env, k => self a env (kD k.x fun r env1 => boolW r fun b => k.e (.dat (.bool (!b))) env1)
  | .andd a b, env, k => self a env (kD k.x fun r env1 => boolW r fun t => bothW t (self b env1 k) (k.e (.dat (.bool false)) env1))
  | .orr a b, env, k => self a env (kD k.x fun r env1 => boolW r fun t => bothW t (k.e (.dat (.bool true)) env1) (self b env1 k))
  | .one a, env, k => self a env k
  | .ite t a b, env, k => self t env (kT k.x fun c env1 => bothW c (self a env1 k) (self b env1 k))
  | .call f as, env, k => self as env (kA k.x fun l env1 => agsQ env1 l fun ags => match nodupB (mutsOf l) with
      | true => F f ags (fun r ms => putMsQ env1 (mutsOf l) ms (k.e r)) fun e => wipeQ env1 (mutsOf l) (k.x e)
      | false => False)
  | .b1 f a, env, k => match a.isV with
    | some i => peekQ env i fun d => b1Q f d fun r => k.e r env
    | none => self a env (kD k.x fun r env1 => b1Q f r fun r' => k.e r' env1)
  | .b2 f a b, env, k => self a env (kD k.x fun ra env1 => self b env1 (kD k.x fun rb env2 => b2W f ra rb fun r => k.e r env2))
  | .isi a ts, env, k => match a.isV with
    | some i => peekQ env i fun d => k.e (.dat (.bool (ts.any (isTy d)))) env
    | none => self a env (kD k.x fun r env1 => k.e (.dat (.bool (ts.any (isTy r)))) env1)
  | .ix a b, env, k => match a.isV, b.isV with
    | some i, some j => peekQ env i fun x => peekQ env j fun y => ixW x y fun r => k.e r env
    | some i, none => peekQ env i fun _ => self b env (kD k.x fun rb env1 => peekQ env1 i fun x => ixW x rb fun r => k.e r env1)
    | none, some j => self a env (kD k.x fun ra env1 => peekQ env1 j fun y => ixW ra y fun r => k.e r env1)
    | none, none => self a env (kD k.x fun ra env1 => self b env1 (kD k.x fun rb env2 => ixW ra rb fun r => k.e r env2))
  | .sl a lo hi, env, k => match a.isV with
    | some i => peekQ env i fun _ => self lo env (kI k.x fun l env1 => self hi env1 (kI k.x fun h env2 => partW l fun lo' => partW h fun hi' => peekQ env2 i fun d => slW d lo' hi' fun r => k.e r env2))
    | none => self a env (kD k.x fun ra env0 => self lo env0 (kI k.x fun l env1 => self hi env1 (kI k.x fun h env2 => partW l fun lo' => partW h fun hi' => slW ra lo' hi' fun r => k.e r env2)))
  | .rv a, env, k => self a env (kD k.x fun r env1 => revW r fun r' => k.e r' env1)
  | .tup es, env, k => self es env (kA k.x fun l env1 => datsQ l fun ds => k.e (.dat (.tuple ds)) env1)
  | .lst es, env, k => self es env (kA k.x fun l env1 => datsQ l fun ds => k.e (.own ds) env1)
  | .lc own x it cs e, env, k => self it env (kI k.x fun ds env1 => plainQ env1 own <| wipeQ env1 own <|
      lcW (fun d env2 c => asgQ x d env2 fun env3 => self cs env3 (kT (fun _ _ => False) fun b env4 => plainQ env4 own <| bothW b (self e env4 (kD (fun _ _ => False) fun r env5 => plainQ env5 own <| wipeQ env5 own (c (some r)))) (wipeQ env4 own (c none))))
        (fun acc env6 => unQ env1 env6 own (k.e (.own acc))) ds [])
  | .slc i own x it cs e, env, k => self it env (kI k.x fun ds env1 => plainQ env1 own <| wipeQ env1 own <|
      lcW (fun d env2 c => asgQ x d env2 fun env3 => self cs env3 (kT (fun _ _ => False) fun b env4 => plainQ env4 own <| bothW b (self e env4 (kD (fun _ _ => False) fun r env5 => plainQ env5 own <| wipeQ env5 own (c (some r)))) (wipeQ env4 own (c none))))
        (fun acc env6 => unQ env1 env6 own fun env7 => setK env7 i (.own acc) k.nx) ds [])
  | .pop i, env, k => popQ env i (fun ds c => ∃ y, ds[ds.length - 1]? = some y ∧ c y ds.dropLast) k.e
  | .popAt i a, env, k => isLQ env i <| self a env (kD k.x fun r env1 => intW r fun z => inR z ∧ popQ env1 i (fun ds c => ∃ j y, seqIndex? z ds.length = some j ∧ ds[j]? = some y ∧ c y (ds.eraseIdx j)) k.e)
  | .lib f a b, env, k => self a env (kD k.x fun ra env1 => self b env1 (kD k.x fun rb env2 => libW f ra rb fun r => k.e r env2))
  | .m1 m a b, env, k => self a env (kD k.x fun ra env1 => strW ra fun x => match b.isV with
    | some j => peekQ env1 j fun y => m1W m x y fun r => k.e r env1
    | none => self b env1 (kD k.x fun rb env2 => m1W m x rb fun r => k.e r env2))
  | .lix a b, env, k => match a.isV with
    | some i => peekQ env i fun x => listW x <| self b env (kD k.x fun rb env1 => peekQ env1 i fun x => lixW x rb fun r => k.e r env1)
    | none => self a env (kD k.x fun ra env1 => listW ra <| self b env1 (kD k.x fun rb env2 => lixW ra rb fun r => k.e r env2))
  | .callD f as ds, env, k => self as env (kA k.x fun l env1 => agsQ env1 (l ++ ds.map .inl) fun ags => match nodupB (mutsOf (l ++ ds.map .inl)) with
      | true => F f ags (fun r ms => putMsQ env1 (mutsOf (l ++ ds.map .inl)) ms (k.e r)) fun e => wipeQ env1 (mutsOf (l ++ ds.map .inl)) (k.x e)
      | false => False)
  | .xw i, env, k => match slotO env i with
    | some (.exc x) => k.e (.dat (.str x.word)) env
    | _ => False
  | .xp i, env, k => match slotO env i with
    | some (.exc x) => k.e (.dat x.place) env
    | _ => False
  | .xi i nm ts, env, k => match slotO env i with
    | some (.exc x) => k.e (.dat (.bool (ts.contains x.cls))) env
    | _ => False
  | .nil, env, k => k.a [] env
  | .sno, env, k => k.i [] env
  | .sat e, env, k => self e env (kD k.x fun r env1 => intW r fun i => k.i [.int i] env1)
  | .cons a r, env, k => self a env (kD k.x fun ra env1 => self r env1 (kA k.x fun l env2 => k.a (.inl ra :: l) env2))
  | .consM i r, env, k => peekQ env i fun _ => self r env (kA k.x fun l env1 => k.a (.inr i :: l) env1)
  | .tcmp o a b, env, k => match a.isV, b.isV with
    | some i, some j => peekQ env i fun x => peekQ env j fun y => cmpQ o x y fun r => k.t r env
    | some i, none => peekQ env i fun _ => self b env (kD k.x fun rb env1 => peekQ env1 i fun x => cmpQ o x rb fun r => k.t r env1)
    | none, some j => self a env (kD k.x fun ra env1 => peekQ env1 j fun y => cmpQ o ra y fun r => k.t r env1)
    | none, none => self a env (kD k.x fun ra env1 => self b env1 (kD k.x fun rb env2 => cmpQ o ra rb fun r => k.t r env2))
  | .tchain o o' a b c, env, k => self a env (kD k.x fun ra env1 => self b env1 (kD k.x fun rb env2 => cmpQ o ra rb fun t =>
      bothW t (self c env2 (kD k.x fun rc env3 => cmpQ o' rb rc fun u => k.t u env3)) (k.t false env2)))
  | .tnot a, env, k => self a env (kT k.x fun b env1 => k.t (!b) env1)
  | .tand a b, env, k => self a env (kT k.x fun t env1 => bothW t (self b env1 k) (k.t false env1))
  | .tor a b, env, k => self a env (kT k.x fun t env1 => bothW t (k.t true env1) (self b env1 k))
  | .tone a, env, k => self a env k
  | .tyes, env, k => k.t true env
  | .tval a, env, k => match a.isV with
    | some i => peekQ env i fun d => truthW d fun b => k.t b env
    | none => self a env (kD k.x fun r env1 => truthW r fun b => k.t b env1)
  | .itl a, env, k => self a env (kD k.x fun r env1 => walkL r fun ds => k.i ds env1)
  | .iten a, env, k => self a env (kD k.x fun r env1 => enumW r fun ds => k.i ds env1)
  | .itz a b, env, k => self a env (kD k.x fun ra env1 => self b env1 (kD k.x fun rb env2 => zipW ra rb fun ds => k.i ds env2))
  | .itr1 a, env, k => self a env (kD k.x fun r env1 => intW r fun n => inR n ∧ k.i (rangeD 0 n.toNat) env1)
  | .itr2 a b, env, k => self a env (kD k.x fun ra env1 => self b env1 (kD k.x fun rb env2 => intW ra fun i => intW rb fun j => inR i ∧ inR j ∧ k.i (rangeD i (j - i).toNat) env2))
  | .set i e, env, k => self e env (kE k.x fun r env1 => stQ i r env1 k.nx)
  | .unp is e, env, k => self e env (kD k.x fun r env1 => asgQ (.inr is) r env1 k.nx)
  | .seti i b e, env, k => self e env (kD k.x fun r env1 => isLQ env1 i <| self b env1 (kD k.x fun rb env2 => intW rb fun z => putQ env2 i (fun ds c => ∃ j, ixN ds.length z = some j ∧ c (ds.set j r)) k.nx))
  | .aug i o e, env, k => peekQ env i fun _ => self e env (kD k.x fun r env1 => peekQ env1 i fun x => augW o x r fun z => setK env1 i (.dat (.int z)) k.nx)
  | .augi i o b e, env, k => isLQ env i <| self b env (kD k.x fun rb env1 => intW rb fun z => itemQ env1 i z fun x => self e env1 (kD k.x fun r env2 => augW o (.int x) r fun y => putQ env2 i (fun ds c => ∃ j, ixN ds.length z = some j ∧ c (ds.set j (.int y))) k.nx))
  | .ex e, env, k => self e env (kE k.x fun _ env1 => k.nx env1)
  | .app i e, env, k => isLQ env i <| self e env (kD k.x fun r env1 => putQ env1 i (fun ds c => ds.length < sizeLine ∧ c (ds ++ [r])) k.nx)
  | .ext i e, env, k => isLQ env i <| self e env (kD k.x fun r env1 => lstW r fun es => putQ env1 i (fun ds c => sz (ds.length + es.length) ∧ c (ds ++ es)) k.nx)
  | .ins i b e, env, k => isLQ env i <| self b env (kD k.x fun rb env1 => intW rb fun z => self e env1 (kD k.x fun r env2 => putQ env2 i (fun ds c => ds.length < sizeLine ∧ 0 ≤ z ∧ z < 2 ^ 63 ∧ c (ds.take z.toNat ++ [r] ++ ds.drop z.toNat)) k.nx))
  | .setc is e, env, k => self e env (kD k.x fun r env1 => setAllQ env1 is (.dat r) k.nx)
  | .ret e, env, k => self e env (kE k.x fun r env1 => k.rt r env1)
  | .retn, env, k => k.rt (.dat .none) env
  | .retv i, env, k => match slotO env i with
    | some (.own ds) => setK env i .no (k.rt (.own ds))
    | some (.dat d) => k.rt (.dat d) env
    | _ => False
  | .ifs t a b, env, k => self t env (kT k.x fun c env1 => bothW c (self a env1 k) (self b env1 k))
  | .forr x it b, env, k => self it env (kI k.x fun ds env1 => forW (fun d env2 c => asgQ x d env2 fun env3 => self b env3 (k.lp c k.nx)) k.nx ds env1)
  | .whl t b, env, k => ∃ (I : Ev → Prop) (μ : Ev → Nat), I env ∧ ∀ env1, I env1 → self t env1 (kT k.x fun c env2 => bothW c (self b env2 (k.lp (fun e => I e ∧ μ e < μ env1) k.nx)) (k.nx env2))
  | .brk, env, k => k.bk env
  | .ctn, env, k => k.ct env
  | .pas, env, k => k.nx env
  | .rai c w e, env, k => self e env (kD k.x fun r env1 => k.x ⟨c, w, r⟩ env1)
  | .rai0 c w, env, k => k.x ⟨c, w, .none⟩ env
  | .tryx i ts b s, env, k => self b env (k.ox fun e env1 => match ts.contains e.cls with
    | true => setK env1 i (.exc e) fun env2 => self s env2 (k.suQ i)
    | false => k.x e env1)
  | .try2 i ts b s us g, env, k => self b env (k.ox fun e env1 => match ts.contains e.cls with
    | true => setK env1 i (.exc e) fun env2 => self s env2 (k.suQ i)
    | false => match us.contains e.cls with
      | true => setK env1 i (.exc e) fun env2 => self g env2 (k.suQ i)
      | false => k.x e env1)
  | .done, env, k => k.nx env
  | .seq s r, env, k => self s env (k.on fun env1 => self r env1 k)
end
def WQ (F : Fs) (C : Nat → Option PyData) (n : N) : Prop := ∀ env k, wpq0 F C n env k = wp F C n env k
section
variable {F : Fs} {C : Nat → Option PyData}
theorem wq_v {i : Nat}  : WQ F C (.v i) := by
  intro env k
  show (takeQ env i k.e) = (take env i k.e)
  first | rfl | (simp only [kD_eq, setK_eq, takeQ_eq, peekQ_eq, itemQ_eq, isLQ_eq, putQ_eq, popQ_eq, asgQ_eq, stQ_eq, setAllQ_eq, wipeQ_eq, unQ_eq, plainQ_eq, cstQ_eq, datsQ_eq, agsQ_eq, putMsQ_eq, cmpQ_eq, b1Q_eq, slotO_eq, suQ_eq]; done) | (simp only [kD_eq, setK_eq, takeQ_eq, peekQ_eq, itemQ_eq, isLQ_eq, putQ_eq, popQ_eq, asgQ_eq, stQ_eq, setAllQ_eq, wipeQ_eq, unQ_eq, plainQ_eq, cstQ_eq, datsQ_eq, agsQ_eq, putMsQ_eq, cmpQ_eq, b1Q_eq, slotO_eq, suQ_eq]; rfl) | (simp only [kD_eq, setK_eq, takeQ_eq, peekQ_eq, itemQ_eq, isLQ_eq, putQ_eq, popQ_eq, asgQ_eq, stQ_eq, setAllQ_eq, wipeQ_eq, unQ_eq, plainQ_eq, cstQ_eq, datsQ_eq, agsQ_eq, putMsQ_eq, cmpQ_eq, b1Q_eq, slotO_eq, suQ_eq]; split <;> first | rfl | simp)
theorem wq_g {x : Nat}  : WQ F C (.g x) := by
  intro env k
  show (match C x with
    | some d => cstQ d k.e env
    | none => False) = (match C x with
    | some d => k.e (.dat d) env
    | none => False)
  first | rfl | (simp only [kD_eq, setK_eq, takeQ_eq, peekQ_eq, itemQ_eq, isLQ_eq, putQ_eq, popQ_eq, asgQ_eq, stQ_eq, setAllQ_eq, wipeQ_eq, unQ_eq, plainQ_eq, cstQ_eq, datsQ_eq, agsQ_eq, putMsQ_eq, cmpQ_eq, b1Q_eq, slotO_eq, suQ_eq]; done) | (simp only [kD_eq, setK_eq, takeQ_eq, peekQ_eq, itemQ_eq, isLQ_eq, putQ_eq, popQ_eq, asgQ_eq, stQ_eq, setAllQ_eq, wipeQ_eq, unQ_eq, plainQ_eq, cstQ_eq, datsQ_eq, agsQ_eq, putMsQ_eq, cmpQ_eq, b1Q_eq, slotO_eq, suQ_eq]; rfl) | (simp only [kD_eq, setK_eq, takeQ_eq, peekQ_eq, itemQ_eq, isLQ_eq, putQ_eq, popQ_eq, asgQ_eq, stQ_eq, setAllQ_eq, wipeQ_eq, unQ_eq, plainQ_eq, cstQ_eq, datsQ_eq, agsQ_eq, putMsQ_eq, cmpQ_eq, b1Q_eq, slotO_eq, suQ_eq]; split <;> first | rfl | simp)
theorem wq_c {d : PyData}  : WQ F C (.c d) := by
  intro env k
  show (cstQ d k.e env) = (k.e (.dat d) env)
  first | rfl | (simp only [kD_eq, setK_eq, takeQ_eq, peekQ_eq, itemQ_eq, isLQ_eq, putQ_eq, popQ_eq, asgQ_eq, stQ_eq, setAllQ_eq, wipeQ_eq, unQ_eq, plainQ_eq, cstQ_eq, datsQ_eq, agsQ_eq, putMsQ_eq, cmpQ_eq, b1Q_eq, slotO_eq, suQ_eq]; done) | (simp only [kD_eq, setK_eq, takeQ_eq, peekQ_eq, itemQ_eq, isLQ_eq, putQ_eq, popQ_eq, asgQ_eq, stQ_eq, setAllQ_eq, wipeQ_eq, unQ_eq, plainQ_eq, cstQ_eq, datsQ_eq, agsQ_eq, putMsQ_eq, cmpQ_eq, b1Q_eq, slotO_eq, suQ_eq]; rfl) | (simp only [kD_eq, setK_eq, takeQ_eq, peekQ_eq, itemQ_eq, isLQ_eq, putQ_eq, popQ_eq, asgQ_eq, stQ_eq, setAllQ_eq, wipeQ_eq, unQ_eq, plainQ_eq, cstQ_eq, datsQ_eq, agsQ_eq, putMsQ_eq, cmpQ_eq, b1Q_eq, slotO_eq, suQ_eq]; split <;> first | rfl | simp)
theorem wq_bin {o : BO} {a : N} {b : N} (ih_a : WQ F C a) (ih_b : WQ F C b) : WQ F C (.bin o a b) := by
  intro env k
  show (match a.isV, b.isV with
    | some i, some j => peekQ env i fun x => peekQ env j fun y => binW o x y fun r => k.e r env
    | some i, none => peekQ env i fun _ => wpq0 F C b env (kD k.x fun rb env1 => peekQ env1 i fun x => binW o x rb fun r => k.e r env1)
    | none, some j => wpq0 F C a env (kD k.x fun ra env1 => peekQ env1 j fun y => binW o ra y fun r => k.e r env1)
    | none, none => wpq0 F C a env (kD k.x fun ra env1 => wpq0 F C b env1 (kD k.x fun rb env2 => binW o ra rb fun r => k.e r env2))) = (match a.isV, b.isV with
    | some i, some j => peek env i fun x => peek env j fun y => binW o x y fun r => k.e r env
    | some i, none => peek env i fun _ => wp F C b env (kE k.x fun rb env1 => peek env1 i fun x => binW o x rb.d fun r => k.e r env1)
    | none, some j => wp F C a env (kE k.x fun ra env1 => peek env1 j fun y => binW o ra.d y fun r => k.e r env1)
    | none, none => wp F C a env (kE k.x fun ra env1 => wp F C b env1 (kE k.x fun rb env2 => binW o ra.d rb.d fun r => k.e r env2)))
  first | rfl | (simp only [ih_a _ _, ih_b _ _, kD_eq, setK_eq, takeQ_eq, peekQ_eq, itemQ_eq, isLQ_eq, putQ_eq, popQ_eq, asgQ_eq, stQ_eq, setAllQ_eq, wipeQ_eq, unQ_eq, plainQ_eq, cstQ_eq, datsQ_eq, agsQ_eq, putMsQ_eq, cmpQ_eq, b1Q_eq, slotO_eq, suQ_eq]; done) | (simp only [ih_a _ _, ih_b _ _, kD_eq, setK_eq, takeQ_eq, peekQ_eq, itemQ_eq, isLQ_eq, putQ_eq, popQ_eq, asgQ_eq, stQ_eq, setAllQ_eq, wipeQ_eq, unQ_eq, plainQ_eq, cstQ_eq, datsQ_eq, agsQ_eq, putMsQ_eq, cmpQ_eq, b1Q_eq, slotO_eq, suQ_eq]; rfl) | (simp only [ih_a _ _, ih_b _ _, kD_eq, setK_eq, takeQ_eq, peekQ_eq, itemQ_eq, isLQ_eq, putQ_eq, popQ_eq, asgQ_eq, stQ_eq, setAllQ_eq, wipeQ_eq, unQ_eq, plainQ_eq, cstQ_eq, datsQ_eq, agsQ_eq, putMsQ_eq, cmpQ_eq, b1Q_eq, slotO_eq, suQ_eq]; split <;> first | rfl | simp)
theorem wq_neg {a : N} (ih_a : WQ F C a) : WQ F C (.neg a) := by
  intro env k
  show (wpq0 F C a env (kD k.x fun r env1 => intW r fun i => k.e (.dat (.int (-i))) env1)) = (wp F C a env (kE k.x fun r env1 => intW r.d fun i => k.e (.dat (.int (-i))) env1))
  first | rfl | (simp only [ih_a _ _, kD_eq, setK_eq, takeQ_eq, peekQ_eq, itemQ_eq, isLQ_eq, putQ_eq, popQ_eq, asgQ_eq, stQ_eq, setAllQ_eq, wipeQ_eq, unQ_eq, plainQ_eq, cstQ_eq, datsQ_eq, agsQ_eq, putMsQ_eq, cmpQ_eq, b1Q_eq, slotO_eq, suQ_eq]; done) | (simp only [ih_a _ _, kD_eq, setK_eq, takeQ_eq, peekQ_eq, itemQ_eq, isLQ_eq, putQ_eq, popQ_eq, asgQ_eq, stQ_eq, setAllQ_eq, wipeQ_eq, unQ_eq, plainQ_eq, cstQ_eq, datsQ_eq, agsQ_eq, putMsQ_eq, cmpQ_eq, b1Q_eq, slotO_eq, suQ_eq]; rfl) | (simp only [ih_a _ _, kD_eq, setK_eq, takeQ_eq, peekQ_eq, itemQ_eq, isLQ_eq, putQ_eq, popQ_eq, asgQ_eq, stQ_eq, setAllQ_eq, wipeQ_eq, unQ_eq, plainQ_eq, cstQ_eq, datsQ_eq, agsQ_eq, putMsQ_eq, cmpQ_eq, b1Q_eq, slotO_eq, suQ_eq]; split <;> first | rfl | simp)
theorem wq_cmp {o : CO} {a : N} {b : N} (ih_a : WQ F C a) (ih_b : WQ F C b) : WQ F C (.cmp o a b) := by
  intro env k
  show (match a.isV, b.isV with
    | some i, some j => peekQ env i fun x => peekQ env j fun y => cmpQ o x y fun r => k.e (.dat (.bool r)) env
    | some i, none => peekQ env i fun _ => wpq0 F C b env (kD k.x fun rb env1 => peekQ env1 i fun x => cmpQ o x rb fun r => k.e (.dat (.bool r)) env1)
    | none, some j => wpq0 F C a env (kD k.x fun ra env1 => peekQ env1 j fun y => cmpQ o ra y fun r => k.e (.dat (.bool r)) env1)
    | none, none => wpq0 F C a env (kD k.x fun ra env1 => wpq0 F C b env1 (kD k.x fun rb env2 => cmpQ o ra rb fun r => k.e (.dat (.bool r)) env2))) = (match a.isV, b.isV with
    | some i, some j => peek env i fun x => peek env j fun y => cmpW o x y fun r => k.e (.dat (.bool r)) env
    | some i, none => peek env i fun _ => wp F C b env (kE k.x fun rb env1 => peek env1 i fun x => cmpW o x rb.d fun r => k.e (.dat (.bool r)) env1)
    | none, some j => wp F C a env (kE k.x fun ra env1 => peek env1 j fun y => cmpW o ra.d y fun r => k.e (.dat (.bool r)) env1)
    | none, none => wp F C a env (kE k.x fun ra env1 => wp F C b env1 (kE k.x fun rb env2 => cmpW o ra.d rb.d fun r => k.e (.dat (.bool r)) env2)))
  first | rfl | (simp only [ih_a _ _, ih_b _ _, kD_eq, setK_eq, takeQ_eq, peekQ_eq, itemQ_eq, isLQ_eq, putQ_eq, popQ_eq, asgQ_eq, stQ_eq, setAllQ_eq, wipeQ_eq, unQ_eq, plainQ_eq, cstQ_eq, datsQ_eq, agsQ_eq, putMsQ_eq, cmpQ_eq, b1Q_eq, slotO_eq, suQ_eq]; done) | (simp only [ih_a _ _, ih_b _ _, kD_eq, setK_eq, takeQ_eq, peekQ_eq, itemQ_eq, isLQ_eq, putQ_eq, popQ_eq, asgQ_eq, stQ_eq, setAllQ_eq, wipeQ_eq, unQ_eq, plainQ_eq, cstQ_eq, datsQ_eq, agsQ_eq, putMsQ_eq, cmpQ_eq, b1Q_eq, slotO_eq, suQ_eq]; rfl) | (simp only [ih_a _ _, ih_b _ _, kD_eq, setK_eq, takeQ_eq, peekQ_eq, itemQ_eq, isLQ_eq, putQ_eq, popQ_eq, asgQ_eq, stQ_eq, setAllQ_eq, wipeQ_eq, unQ_eq, plainQ_eq, cstQ_eq, datsQ_eq, agsQ_eq, putMsQ_eq, cmpQ_eq, b1Q_eq, slotO_eq, suQ_eq]; split <;> first | rfl | simp)
theorem wq_chain {o : CO} {o' : CO} {a : N} {b : N} {c : N} (ih_a : WQ F C a) (ih_b : WQ F C b) (ih_c : WQ F C c) : WQ F C (.chain o o' a b c) := by
  intro env k
  show (wpq0 F C a env (kD k.x fun ra env1 => wpq0 F C b env1 (kD k.x fun rb env2 => cmpQ o ra rb fun t =>
      bothW t (wpq0 F C c env2 (kD k.x fun rc env3 => cmpQ o' rb rc fun u => k.e (.dat (.bool u)) env3)) (k.e (.dat (.bool false)) env2)))) = (wp F C a env (kE k.x fun ra env1 => wp F C b env1 (kE k.x fun rb env2 => cmpW o ra.d rb.d fun t =>
      bothW t (wp F C c env2 (kE k.x fun rc env3 => cmpW o' rb.d rc.d fun u => k.e (.dat (.bool u)) env3)) (k.e (.dat (.bool false)) env2))))
  first | rfl | (simp only [ih_a _ _, ih_b _ _, ih_c _ _, kD_eq, setK_eq, takeQ_eq, peekQ_eq, itemQ_eq, isLQ_eq, putQ_eq, popQ_eq, asgQ_eq, stQ_eq, setAllQ_eq, wipeQ_eq, unQ_eq, plainQ_eq, cstQ_eq, datsQ_eq, agsQ_eq, putMsQ_eq, cmpQ_eq, b1Q_eq, slotO_eq, suQ_eq]; done) | (simp only [ih_a _ _, ih_b _ _, ih_c _ _, kD_eq, setK_eq, takeQ_eq, peekQ_eq, itemQ_eq, isLQ_eq, putQ_eq, popQ_eq, asgQ_eq, stQ_eq, setAllQ_eq, wipeQ_eq, unQ_eq, plainQ_eq, cstQ_eq, datsQ_eq, agsQ_eq, putMsQ_eq, cmpQ_eq, b1Q_eq, slotO_eq, suQ_eq]; rfl) | (simp only [ih_a _ _, ih_b _ _, ih_c _ _, kD_eq, setK_eq, takeQ_eq, peekQ_eq, itemQ_eq, isLQ_eq, putQ_eq, popQ_eq, asgQ_eq, stQ_eq, setAllQ_eq, wipeQ_eq, unQ_eq, plainQ_eq, cstQ_eq, datsQ_eq, agsQ_eq, putMsQ_eq, cmpQ_eq, b1Q_eq, slotO_eq, suQ_eq]; split <;> first | rfl | simp)
theorem wq_nott {a : N} (ih_a : WQ F C a) : WQ F C (.nott a) := by
  intro env k
  show (wpq0 F C a env (kD k.x fun r env1 => boolW r fun b => k.e (.dat (.bool (!b))) env1)) = (wp F C a env (kE k.x fun r env1 => boolW r.d fun b => k.e (.dat (.bool (!b))) env1))
  first | rfl | (simp only [ih_a _ _, kD_eq, setK_eq, takeQ_eq, peekQ_eq, itemQ_eq, isLQ_eq, putQ_eq, popQ_eq, asgQ_eq, stQ_eq, setAllQ_eq, wipeQ_eq, unQ_eq, plainQ_eq, cstQ_eq, datsQ_eq, agsQ_eq, putMsQ_eq, cmpQ_eq, b1Q_eq, slotO_eq, suQ_eq]; done) | (simp only [ih_a _ _, kD_eq, setK_eq, takeQ_eq, peekQ_eq, itemQ_eq, isLQ_eq, putQ_eq, popQ_eq, asgQ_eq, stQ_eq, setAllQ_eq, wipeQ_eq, unQ_eq, plainQ_eq, cstQ_eq, datsQ_eq, agsQ_eq, putMsQ_eq, cmpQ_eq, b1Q_eq, slotO_eq, suQ_eq]; rfl) | (simp only [ih_a _ _, kD_eq, setK_eq, takeQ_eq, peekQ_eq, itemQ_eq, isLQ_eq, putQ_eq, popQ_eq, asgQ_eq, stQ_eq, setAllQ_eq, wipeQ_eq, unQ_eq, plainQ_eq, cstQ_eq, datsQ_eq, agsQ_eq, putMsQ_eq, cmpQ_eq, b1Q_eq, slotO_eq, suQ_eq]; split <;> first | rfl | simp)
theorem wq_andd {a : N} {b : N} (ih_a : WQ F C a) (ih_b : WQ F C b) : WQ F C (.andd a b) := by
  intro env k
  show (wpq0 F C a env (kD k.x fun r env1 => boolW r fun t => bothW t (wpq0 F C b env1 k) (k.e (.dat (.bool false)) env1))) = (wp F C a env (kE k.x fun r env1 => boolW r.d fun t => bothW t (wp F C b env1 k) (k.e (.dat (.bool false)) env1)))
  first | rfl | (simp only [ih_a _ _, ih_b _ _, kD_eq, setK_eq, takeQ_eq, peekQ_eq, itemQ_eq, isLQ_eq, putQ_eq, popQ_eq, asgQ_eq, stQ_eq, setAllQ_eq, wipeQ_eq, unQ_eq, plainQ_eq, cstQ_eq, datsQ_eq, agsQ_eq, putMsQ_eq, cmpQ_eq, b1Q_eq, slotO_eq, suQ_eq]; done) | (simp only [ih_a _ _, ih_b _ _, kD_eq, setK_eq, takeQ_eq, peekQ_eq, itemQ_eq, isLQ_eq, putQ_eq, popQ_eq, asgQ_eq, stQ_eq, setAllQ_eq, wipeQ_eq, unQ_eq, plainQ_eq, cstQ_eq, datsQ_eq, agsQ_eq, putMsQ_eq, cmpQ_eq, b1Q_eq, slotO_eq, suQ_eq]; rfl) | (simp only [ih_a _ _, ih_b _ _, kD_eq, setK_eq, takeQ_eq, peekQ_eq, itemQ_eq, isLQ_eq, putQ_eq, popQ_eq, asgQ_eq, stQ_eq, setAllQ_eq, wipeQ_eq, unQ_eq, plainQ_eq, cstQ_eq, datsQ_eq, agsQ_eq, putMsQ_eq, cmpQ_eq, b1Q_eq, slotO_eq, suQ_eq]; split <;> first | rfl | simp)
theorem wq_orr {a : N} {b : N} (ih_a : WQ F C a) (ih_b : WQ F C b) : WQ F C (.orr a b) := by
  intro env k
  show (wpq0 F C a env (kD k.x fun r env1 => boolW r fun t => bothW t (k.e (.dat (.bool true)) env1) (wpq0 F C b env1 k))) = (wp F C a env (kE k.x fun r env1 => boolW r.d fun t => bothW t (k.e (.dat (.bool true)) env1) (wp F C b env1 k)))
  first | rfl | (simp only [ih_a _ _, ih_b _ _, kD_eq, setK_eq, takeQ_eq, peekQ_eq, itemQ_eq, isLQ_eq, putQ_eq, popQ_eq, asgQ_eq, stQ_eq, setAllQ_eq, wipeQ_eq, unQ_eq, plainQ_eq, cstQ_eq, datsQ_eq, agsQ_eq, putMsQ_eq, cmpQ_eq, b1Q_eq, slotO_eq, suQ_eq]; done) | (simp only [ih_a _ _, ih_b _ _, kD_eq, setK_eq, takeQ_eq, peekQ_eq, itemQ_eq, isLQ_eq, putQ_eq, popQ_eq, asgQ_eq, stQ_eq, setAllQ_eq, wipeQ_eq, unQ_eq, plainQ_eq, cstQ_eq, datsQ_eq, agsQ_eq, putMsQ_eq, cmpQ_eq, b1Q_eq, slotO_eq, suQ_eq]; rfl) | (simp only [ih_a _ _, ih_b _ _, kD_eq, setK_eq, takeQ_eq, peekQ_eq, itemQ_eq, isLQ_eq, putQ_eq, popQ_eq, asgQ_eq, stQ_eq, setAllQ_eq, wipeQ_eq, unQ_eq, plainQ_eq, cstQ_eq, datsQ_eq, agsQ_eq, putMsQ_eq, cmpQ_eq, b1Q_eq, slotO_eq, suQ_eq]; split <;> first | rfl | simp)
theorem wq_one {a : N} (ih_a : WQ F C a) : WQ F C (.one a) := by
  intro env k
  show (wpq0 F C a env k) = (wp F C a env k)
  first | rfl | (simp only [ih_a _ _, kD_eq, setK_eq, takeQ_eq, peekQ_eq, itemQ_eq, isLQ_eq, putQ_eq, popQ_eq, asgQ_eq, stQ_eq, setAllQ_eq, wipeQ_eq, unQ_eq, plainQ_eq, cstQ_eq, datsQ_eq, agsQ_eq, putMsQ_eq, cmpQ_eq, b1Q_eq, slotO_eq, suQ_eq]; done) | (simp only [ih_a _ _, kD_eq, setK_eq, takeQ_eq, peekQ_eq, itemQ_eq, isLQ_eq, putQ_eq, popQ_eq, asgQ_eq, stQ_eq, setAllQ_eq, wipeQ_eq, unQ_eq, plainQ_eq, cstQ_eq, datsQ_eq, agsQ_eq, putMsQ_eq, cmpQ_eq, b1Q_eq, slotO_eq, suQ_eq]; rfl) | (simp only [ih_a _ _, kD_eq, setK_eq, takeQ_eq, peekQ_eq, itemQ_eq, isLQ_eq, putQ_eq, popQ_eq, asgQ_eq, stQ_eq, setAllQ_eq, wipeQ_eq, unQ_eq, plainQ_eq, cstQ_eq, datsQ_eq, agsQ_eq, putMsQ_eq, cmpQ_eq, b1Q_eq, slotO_eq, suQ_eq]; split <;> first | rfl | simp)
theorem wq_ite {t : N} {a : N} {b : N} (ih_t : WQ F C t) (ih_a : WQ F C a) (ih_b : WQ F C b) : WQ F C (.ite t a b) := by
  intro env k
  show (wpq0 F C t env (kT k.x fun c env1 => bothW c (wpq0 F C a env1 k) (wpq0 F C b env1 k))) = (wp F C t env (kT k.x fun c env1 => bothW c (wp F C a env1 k) (wp F C b env1 k)))
  first | rfl | (simp only [ih_t _ _, ih_a _ _, ih_b _ _, kD_eq, setK_eq, takeQ_eq, peekQ_eq, itemQ_eq, isLQ_eq, putQ_eq, popQ_eq, asgQ_eq, stQ_eq, setAllQ_eq, wipeQ_eq, unQ_eq, plainQ_eq, cstQ_eq, datsQ_eq, agsQ_eq, putMsQ_eq, cmpQ_eq, b1Q_eq, slotO_eq, suQ_eq]; done) | (simp only [ih_t _ _, ih_a _ _, ih_b _ _, kD_eq, setK_eq, takeQ_eq, peekQ_eq, itemQ_eq, isLQ_eq, putQ_eq, popQ_eq, asgQ_eq, stQ_eq, setAllQ_eq, wipeQ_eq, unQ_eq, plainQ_eq, cstQ_eq, datsQ_eq, agsQ_eq, putMsQ_eq, cmpQ_eq, b1Q_eq, slotO_eq, suQ_eq]; rfl) | (simp only [ih_t _ _, ih_a _ _, ih_b _ _, kD_eq, setK_eq, takeQ_eq, peekQ_eq, itemQ_eq, isLQ_eq, putQ_eq, popQ_eq, asgQ_eq, stQ_eq, setAllQ_eq, wipeQ_eq, unQ_eq, plainQ_eq, cstQ_eq, datsQ_eq, agsQ_eq, putMsQ_eq, cmpQ_eq, b1Q_eq, slotO_eq, suQ_eq]; split <;> first | rfl | simp)
theorem wq_call {f : Nat} {as : N} (ih_as : WQ F C as) : WQ F C (.call f as) := by
  intro env k
  show (wpq0 F C as env (kA k.x fun l env1 => agsQ env1 l fun ags => match nodupB (mutsOf l) with
      | true => F f ags (fun r ms => putMsQ env1 (mutsOf l) ms (k.e r)) fun e => wipeQ env1 (mutsOf l) (k.x e)
      | false => False)) = (wp F C as env (kA k.x fun l env1 => match agOf env1 l with
    | some ags => match nodupB (mutsOf l) with
      | true => F f ags (fun r ms => k.e r (putMs env1 (mutsOf l) ms)) fun e => k.x e (wipeE env1 (mutsOf l))
      | false => False
    | none => False))
  first | rfl | (simp only [ih_as _ _, kD_eq, setK_eq, takeQ_eq, peekQ_eq, itemQ_eq, isLQ_eq, putQ_eq, popQ_eq, asgQ_eq, stQ_eq, setAllQ_eq, wipeQ_eq, unQ_eq, plainQ_eq, cstQ_eq, datsQ_eq, agsQ_eq, putMsQ_eq, cmpQ_eq, b1Q_eq, slotO_eq, suQ_eq]; done) | (simp only [ih_as _ _, kD_eq, setK_eq, takeQ_eq, peekQ_eq, itemQ_eq, isLQ_eq, putQ_eq, popQ_eq, asgQ_eq, stQ_eq, setAllQ_eq, wipeQ_eq, unQ_eq, plainQ_eq, cstQ_eq, datsQ_eq, agsQ_eq, putMsQ_eq, cmpQ_eq, b1Q_eq, slotO_eq, suQ_eq]; rfl) | (simp only [ih_as _ _, kD_eq, setK_eq, takeQ_eq, peekQ_eq, itemQ_eq, isLQ_eq, putQ_eq, popQ_eq, asgQ_eq, stQ_eq, setAllQ_eq, wipeQ_eq, unQ_eq, plainQ_eq, cstQ_eq, datsQ_eq, agsQ_eq, putMsQ_eq, cmpQ_eq, b1Q_eq, slotO_eq, suQ_eq]; split <;> first | rfl | simp)
theorem wq_b1 {f : B1} {a : N} (ih_a : WQ F C a) : WQ F C (.b1 f a) := by
  intro env k
  show (match a.isV with
    | some i => peekQ env i fun d => b1Q f d fun r => k.e r env
    | none => wpq0 F C a env (kD k.x fun r env1 => b1Q f r fun r' => k.e r' env1)) = (match a.isV with
    | some i => peek env i fun d => b1W f d fun r => k.e r env
    | none => wp F C a env (kE k.x fun r env1 => b1W f r.d fun r' => k.e r' env1))
  first | rfl | (simp only [ih_a _ _, kD_eq, setK_eq, takeQ_eq, peekQ_eq, itemQ_eq, isLQ_eq, putQ_eq, popQ_eq, asgQ_eq, stQ_eq, setAllQ_eq, wipeQ_eq, unQ_eq, plainQ_eq, cstQ_eq, datsQ_eq, agsQ_eq, putMsQ_eq, cmpQ_eq, b1Q_eq, slotO_eq, suQ_eq]; done) | (simp only [ih_a _ _, kD_eq, setK_eq, takeQ_eq, peekQ_eq, itemQ_eq, isLQ_eq, putQ_eq, popQ_eq, asgQ_eq, stQ_eq, setAllQ_eq, wipeQ_eq, unQ_eq, plainQ_eq, cstQ_eq, datsQ_eq, agsQ_eq, putMsQ_eq, cmpQ_eq, b1Q_eq, slotO_eq, suQ_eq]; rfl) | (simp only [ih_a _ _, kD_eq, setK_eq, takeQ_eq, peekQ_eq, itemQ_eq, isLQ_eq, putQ_eq, popQ_eq, asgQ_eq, stQ_eq, setAllQ_eq, wipeQ_eq, unQ_eq, plainQ_eq, cstQ_eq, datsQ_eq, agsQ_eq, putMsQ_eq, cmpQ_eq, b1Q_eq, slotO_eq, suQ_eq]; split <;> first | rfl | simp)
theorem wq_b2 {f : B2} {a : N} {b : N} (ih_a : WQ F C a) (ih_b : WQ F C b) : WQ F C (.b2 f a b) := by
  intro env k
  show (wpq0 F C a env (kD k.x fun ra env1 => wpq0 F C b env1 (kD k.x fun rb env2 => b2W f ra rb fun r => k.e r env2))) = (wp F C a env (kE k.x fun ra env1 => wp F C b env1 (kE k.x fun rb env2 => b2W f ra.d rb.d fun r => k.e r env2)))
  first | rfl | (simp only [ih_a _ _, ih_b _ _, kD_eq, setK_eq, takeQ_eq, peekQ_eq, itemQ_eq, isLQ_eq, putQ_eq, popQ_eq, asgQ_eq, stQ_eq, setAllQ_eq, wipeQ_eq, unQ_eq, plainQ_eq, cstQ_eq, datsQ_eq, agsQ_eq, putMsQ_eq, cmpQ_eq, b1Q_eq, slotO_eq, suQ_eq]; done) | (simp only [ih_a _ _, ih_b _ _, kD_eq, setK_eq, takeQ_eq, peekQ_eq, itemQ_eq, isLQ_eq, putQ_eq, popQ_eq, asgQ_eq, stQ_eq, setAllQ_eq, wipeQ_eq, unQ_eq, plainQ_eq, cstQ_eq, datsQ_eq, agsQ_eq, putMsQ_eq, cmpQ_eq, b1Q_eq, slotO_eq, suQ_eq]; rfl) | (simp only [ih_a _ _, ih_b _ _, kD_eq, setK_eq, takeQ_eq, peekQ_eq, itemQ_eq, isLQ_eq, putQ_eq, popQ_eq, asgQ_eq, stQ_eq, setAllQ_eq, wipeQ_eq, unQ_eq, plainQ_eq, cstQ_eq, datsQ_eq, agsQ_eq, putMsQ_eq, cmpQ_eq, b1Q_eq, slotO_eq, suQ_eq]; split <;> first | rfl | simp)
theorem wq_isi {a : N} {ts : List TY} (ih_a : WQ F C a) : WQ F C (.isi a ts) := by
  intro env k
  show (match a.isV with
    | some i => peekQ env i fun d => k.e (.dat (.bool (ts.any (isTy d)))) env
    | none => wpq0 F C a env (kD k.x fun r env1 => k.e (.dat (.bool (ts.any (isTy r)))) env1)) = (match a.isV with
    | some i => peek env i fun d => k.e (.dat (.bool (ts.any (isTy d)))) env
    | none => wp F C a env (kE k.x fun r env1 => k.e (.dat (.bool (ts.any (isTy r.d)))) env1))
  first | rfl | (simp only [ih_a _ _, kD_eq, setK_eq, takeQ_eq, peekQ_eq, itemQ_eq, isLQ_eq, putQ_eq, popQ_eq, asgQ_eq, stQ_eq, setAllQ_eq, wipeQ_eq, unQ_eq, plainQ_eq, cstQ_eq, datsQ_eq, agsQ_eq, putMsQ_eq, cmpQ_eq, b1Q_eq, slotO_eq, suQ_eq]; done) | (simp only [ih_a _ _, kD_eq, setK_eq, takeQ_eq, peekQ_eq, itemQ_eq, isLQ_eq, putQ_eq, popQ_eq, asgQ_eq, stQ_eq, setAllQ_eq, wipeQ_eq, unQ_eq, plainQ_eq, cstQ_eq, datsQ_eq, agsQ_eq, putMsQ_eq, cmpQ_eq, b1Q_eq, slotO_eq, suQ_eq]; rfl) | (simp only [ih_a _ _, kD_eq, setK_eq, takeQ_eq, peekQ_eq, itemQ_eq, isLQ_eq, putQ_eq, popQ_eq, asgQ_eq, stQ_eq, setAllQ_eq, wipeQ_eq, unQ_eq, plainQ_eq, cstQ_eq, datsQ_eq, agsQ_eq, putMsQ_eq, cmpQ_eq, b1Q_eq, slotO_eq, suQ_eq]; split <;> first | rfl | simp)
theorem wq_ix {a : N} {b : N} (ih_a : WQ F C a) (ih_b : WQ F C b) : WQ F C (.ix a b) := by
  intro env k
  show (match a.isV, b.isV with
    | some i, some j => peekQ env i fun x => peekQ env j fun y => ixW x y fun r => k.e r env
    | some i, none => peekQ env i fun _ => wpq0 F C b env (kD k.x fun rb env1 => peekQ env1 i fun x => ixW x rb fun r => k.e r env1)
    | none, some j => wpq0 F C a env (kD k.x fun ra env1 => peekQ env1 j fun y => ixW ra y fun r => k.e r env1)
    | none, none => wpq0 F C a env (kD k.x fun ra env1 => wpq0 F C b env1 (kD k.x fun rb env2 => ixW ra rb fun r => k.e r env2))) = (match a.isV, b.isV with
    | some i, some j => peek env i fun x => peek env j fun y => ixW x y fun r => k.e r env
    | some i, none => peek env i fun _ => wp F C b env (kE k.x fun rb env1 => peek env1 i fun x => ixW x rb.d fun r => k.e r env1)
    | none, some j => wp F C a env (kE k.x fun ra env1 => peek env1 j fun y => ixW ra.d y fun r => k.e r env1)
    | none, none => wp F C a env (kE k.x fun ra env1 => wp F C b env1 (kE k.x fun rb env2 => ixW ra.d rb.d fun r => k.e r env2)))
  first | rfl | (simp only [ih_a _ _, ih_b _ _, kD_eq, setK_eq, takeQ_eq, peekQ_eq, itemQ_eq, isLQ_eq, putQ_eq, popQ_eq, asgQ_eq, stQ_eq, setAllQ_eq, wipeQ_eq, unQ_eq, plainQ_eq, cstQ_eq, datsQ_eq, agsQ_eq, putMsQ_eq, cmpQ_eq, b1Q_eq, slotO_eq, suQ_eq]; done) | (simp only [ih_a _ _, ih_b _ _, kD_eq, setK_eq, takeQ_eq, peekQ_eq, itemQ_eq, isLQ_eq, putQ_eq, popQ_eq, asgQ_eq, stQ_eq, setAllQ_eq, wipeQ_eq, unQ_eq, plainQ_eq, cstQ_eq, datsQ_eq, agsQ_eq, putMsQ_eq, cmpQ_eq, b1Q_eq, slotO_eq, suQ_eq]; rfl) | (simp only [ih_a _ _, ih_b _ _, kD_eq, setK_eq, takeQ_eq, peekQ_eq, itemQ_eq, isLQ_eq, putQ_eq, popQ_eq, asgQ_eq, stQ_eq, setAllQ_eq, wipeQ_eq, unQ_eq, plainQ_eq, cstQ_eq, datsQ_eq, agsQ_eq, putMsQ_eq, cmpQ_eq, b1Q_eq, slotO_eq, suQ_eq]; split <;> first | rfl | simp)
theorem wq_sl {a : N} {lo : N} {hi : N} (ih_a : WQ F C a) (ih_lo : WQ F C lo) (ih_hi : WQ F C hi) : WQ F C (.sl a lo hi) := by
  intro env k
  show (match a.isV with
    | some i => peekQ env i fun _ => wpq0 F C lo env (kI k.x fun l env1 => wpq0 F C hi env1 (kI k.x fun h env2 => partW l fun lo' => partW h fun hi' => peekQ env2 i fun d => slW d lo' hi' fun r => k.e r env2))
    | none => wpq0 F C a env (kD k.x fun ra env0 => wpq0 F C lo env0 (kI k.x fun l env1 => wpq0 F C hi env1 (kI k.x fun h env2 => partW l fun lo' => partW h fun hi' => slW ra lo' hi' fun r => k.e r env2)))) = (match a.isV with
    | some i => peek env i fun _ => wp F C lo env (kI k.x fun l env1 => wp F C hi env1 (kI k.x fun h env2 => partW l fun lo' => partW h fun hi' => peek env2 i fun d => slW d lo' hi' fun r => k.e r env2))
    | none => wp F C a env (kE k.x fun ra env0 => wp F C lo env0 (kI k.x fun l env1 => wp F C hi env1 (kI k.x fun h env2 => partW l fun lo' => partW h fun hi' => slW ra.d lo' hi' fun r => k.e r env2))))
  first | rfl | (simp only [ih_a _ _, ih_lo _ _, ih_hi _ _, kD_eq, setK_eq, takeQ_eq, peekQ_eq, itemQ_eq, isLQ_eq, putQ_eq, popQ_eq, asgQ_eq, stQ_eq, setAllQ_eq, wipeQ_eq, unQ_eq, plainQ_eq, cstQ_eq, datsQ_eq, agsQ_eq, putMsQ_eq, cmpQ_eq, b1Q_eq, slotO_eq, suQ_eq]; done) | (simp only [ih_a _ _, ih_lo _ _, ih_hi _ _, kD_eq, setK_eq, takeQ_eq, peekQ_eq, itemQ_eq, isLQ_eq, putQ_eq, popQ_eq, asgQ_eq, stQ_eq, setAllQ_eq, wipeQ_eq, unQ_eq, plainQ_eq, cstQ_eq, datsQ_eq, agsQ_eq, putMsQ_eq, cmpQ_eq, b1Q_eq, slotO_eq, suQ_eq]; rfl) | (simp only [ih_a _ _, ih_lo _ _, ih_hi _ _, kD_eq, setK_eq, takeQ_eq, peekQ_eq, itemQ_eq, isLQ_eq, putQ_eq, popQ_eq, asgQ_eq, stQ_eq, setAllQ_eq, wipeQ_eq, unQ_eq, plainQ_eq, cstQ_eq, datsQ_eq, agsQ_eq, putMsQ_eq, cmpQ_eq, b1Q_eq, slotO_eq, suQ_eq]; split <;> first | rfl | simp)
theorem wq_rv {a : N} (ih_a : WQ F C a) : WQ F C (.rv a) := by
  intro env k
  show (wpq0 F C a env (kD k.x fun r env1 => revW r fun r' => k.e r' env1)) = (wp F C a env (kE k.x fun r env1 => revW r.d fun r' => k.e r' env1))
  first | rfl | (simp only [ih_a _ _, kD_eq, setK_eq, takeQ_eq, peekQ_eq, itemQ_eq, isLQ_eq, putQ_eq, popQ_eq, asgQ_eq, stQ_eq, setAllQ_eq, wipeQ_eq, unQ_eq, plainQ_eq, cstQ_eq, datsQ_eq, agsQ_eq, putMsQ_eq, cmpQ_eq, b1Q_eq, slotO_eq, suQ_eq]; done) | (simp only [ih_a _ _, kD_eq, setK_eq, takeQ_eq, peekQ_eq, itemQ_eq, isLQ_eq, putQ_eq, popQ_eq, asgQ_eq, stQ_eq, setAllQ_eq, wipeQ_eq, unQ_eq, plainQ_eq, cstQ_eq, datsQ_eq, agsQ_eq, putMsQ_eq, cmpQ_eq, b1Q_eq, slotO_eq, suQ_eq]; rfl) | (simp only [ih_a _ _, kD_eq, setK_eq, takeQ_eq, peekQ_eq, itemQ_eq, isLQ_eq, putQ_eq, popQ_eq, asgQ_eq, stQ_eq, setAllQ_eq, wipeQ_eq, unQ_eq, plainQ_eq, cstQ_eq, datsQ_eq, agsQ_eq, putMsQ_eq, cmpQ_eq, b1Q_eq, slotO_eq, suQ_eq]; split <;> first | rfl | simp)
theorem wq_tup {es : N} (ih_es : WQ F C es) : WQ F C (.tup es) := by
  intro env k
  show (wpq0 F C es env (kA k.x fun l env1 => datsQ l fun ds => k.e (.dat (.tuple ds)) env1)) = (wp F C es env (kA k.x fun l env1 => match dats l with
    | some ds => k.e (.dat (.tuple ds)) env1
    | none => False))
  first | rfl | (simp only [ih_es _ _, kD_eq, setK_eq, takeQ_eq, peekQ_eq, itemQ_eq, isLQ_eq, putQ_eq, popQ_eq, asgQ_eq, stQ_eq, setAllQ_eq, wipeQ_eq, unQ_eq, plainQ_eq, cstQ_eq, datsQ_eq, agsQ_eq, putMsQ_eq, cmpQ_eq, b1Q_eq, slotO_eq, suQ_eq]; done) | (simp only [ih_es _ _, kD_eq, setK_eq, takeQ_eq, peekQ_eq, itemQ_eq, isLQ_eq, putQ_eq, popQ_eq, asgQ_eq, stQ_eq, setAllQ_eq, wipeQ_eq, unQ_eq, plainQ_eq, cstQ_eq, datsQ_eq, agsQ_eq, putMsQ_eq, cmpQ_eq, b1Q_eq, slotO_eq, suQ_eq]; rfl) | (simp only [ih_es _ _, kD_eq, setK_eq, takeQ_eq, peekQ_eq, itemQ_eq, isLQ_eq, putQ_eq, popQ_eq, asgQ_eq, stQ_eq, setAllQ_eq, wipeQ_eq, unQ_eq, plainQ_eq, cstQ_eq, datsQ_eq, agsQ_eq, putMsQ_eq, cmpQ_eq, b1Q_eq, slotO_eq, suQ_eq]; split <;> first | rfl | simp)
theorem wq_lst {es : N} (ih_es : WQ F C es) : WQ F C (.lst es) := by
  intro env k
  show (wpq0 F C es env (kA k.x fun l env1 => datsQ l fun ds => k.e (.own ds) env1)) = (wp F C es env (kA k.x fun l env1 => match dats l with
    | some ds => k.e (.own ds) env1
    | none => False))
  first | rfl | (simp only [ih_es _ _, kD_eq, setK_eq, takeQ_eq, peekQ_eq, itemQ_eq, isLQ_eq, putQ_eq, popQ_eq, asgQ_eq, stQ_eq, setAllQ_eq, wipeQ_eq, unQ_eq, plainQ_eq, cstQ_eq, datsQ_eq, agsQ_eq, putMsQ_eq, cmpQ_eq, b1Q_eq, slotO_eq, suQ_eq]; done) | (simp only [ih_es _ _, kD_eq, setK_eq, takeQ_eq, peekQ_eq, itemQ_eq, isLQ_eq, putQ_eq, popQ_eq, asgQ_eq, stQ_eq, setAllQ_eq, wipeQ_eq, unQ_eq, plainQ_eq, cstQ_eq, datsQ_eq, agsQ_eq, putMsQ_eq, cmpQ_eq, b1Q_eq, slotO_eq, suQ_eq]; rfl) | (simp only [ih_es _ _, kD_eq, setK_eq, takeQ_eq, peekQ_eq, itemQ_eq, isLQ_eq, putQ_eq, popQ_eq, asgQ_eq, stQ_eq, setAllQ_eq, wipeQ_eq, unQ_eq, plainQ_eq, cstQ_eq, datsQ_eq, agsQ_eq, putMsQ_eq, cmpQ_eq, b1Q_eq, slotO_eq, suQ_eq]; split <;> first | rfl | simp)
theorem wq_lc {own : List Nat} {x : Tg} {it : N} {cs : N} {e : N} (ih_it : WQ F C it) (ih_cs : WQ F C cs) (ih_e : WQ F C e) : WQ F C (.lc own x it cs e) := by
  intro env k
  show (wpq0 F C it env (kI k.x fun ds env1 => plainQ env1 own <| wipeQ env1 own <|
      lcW (fun d env2 c => asgQ x d env2 fun env3 => wpq0 F C cs env3 (kT (fun _ _ => False) fun b env4 => plainQ env4 own <| bothW b (wpq0 F C e env4 (kD (fun _ _ => False) fun r env5 => plainQ env5 own <| wipeQ env5 own (c (some r)))) (wipeQ env4 own (c none))))
        (fun acc env6 => unQ env1 env6 own (k.e (.own acc))) ds [])) = (wp F C it env (kI k.x fun ds env1 => plainE env1 own ∧
      lcW (fun d env2 c => asgW x d env2 fun env3 => wp F C cs env3 (kT (fun _ _ => False) fun b env4 => plainE env4 own ∧ bothW b (wp F C e env4 (kE (fun _ _ => False) fun r env5 => plainE env5 own ∧ c (some r.d) (wipeE env5 own))) (c none (wipeE env4 own))))
        (fun acc env6 => k.e (.own acc) (unR env1 env6 own)) ds [] (wipeE env1 own)))
  first | rfl | (simp only [ih_it _ _, ih_cs _ _, ih_e _ _, kD_eq, setK_eq, takeQ_eq, peekQ_eq, itemQ_eq, isLQ_eq, putQ_eq, popQ_eq, asgQ_eq, stQ_eq, setAllQ_eq, wipeQ_eq, unQ_eq, plainQ_eq, cstQ_eq, datsQ_eq, agsQ_eq, putMsQ_eq, cmpQ_eq, b1Q_eq, slotO_eq, suQ_eq]; done) | (simp only [ih_it _ _, ih_cs _ _, ih_e _ _, kD_eq, setK_eq, takeQ_eq, peekQ_eq, itemQ_eq, isLQ_eq, putQ_eq, popQ_eq, asgQ_eq, stQ_eq, setAllQ_eq, wipeQ_eq, unQ_eq, plainQ_eq, cstQ_eq, datsQ_eq, agsQ_eq, putMsQ_eq, cmpQ_eq, b1Q_eq, slotO_eq, suQ_eq]; rfl) | (simp only [ih_it _ _, ih_cs _ _, ih_e _ _, kD_eq, setK_eq, takeQ_eq, peekQ_eq, itemQ_eq, isLQ_eq, putQ_eq, popQ_eq, asgQ_eq, stQ_eq, setAllQ_eq, wipeQ_eq, unQ_eq, plainQ_eq, cstQ_eq, datsQ_eq, agsQ_eq, putMsQ_eq, cmpQ_eq, b1Q_eq, slotO_eq, suQ_eq]; split <;> first | rfl | simp)
theorem wq_slc {i : Nat} {own : List Nat} {x : Tg} {it : N} {cs : N} {e : N} (ih_it : WQ F C it) (ih_cs : WQ F C cs) (ih_e : WQ F C e) : WQ F C (.slc i own x it cs e) := by
  intro env k
  show (wpq0 F C it env (kI k.x fun ds env1 => plainQ env1 own <| wipeQ env1 own <|
      lcW (fun d env2 c => asgQ x d env2 fun env3 => wpq0 F C cs env3 (kT (fun _ _ => False) fun b env4 => plainQ env4 own <| bothW b (wpq0 F C e env4 (kD (fun _ _ => False) fun r env5 => plainQ env5 own <| wipeQ env5 own (c (some r)))) (wipeQ env4 own (c none))))
        (fun acc env6 => unQ env1 env6 own fun env7 => setK env7 i (.own acc) k.nx) ds [])) = (wp F C it env (kI k.x fun ds env1 => plainE env1 own ∧
      lcW (fun d env2 c => asgW x d env2 fun env3 => wp F C cs env3 (kT (fun _ _ => False) fun b env4 => plainE env4 own ∧ bothW b (wp F C e env4 (kE (fun _ _ => False) fun r env5 => plainE env5 own ∧ c (some r.d) (wipeE env5 own))) (c none (wipeE env4 own))))
        (fun acc env6 => k.nx ((unR env1 env6 own).set i (.own acc))) ds [] (wipeE env1 own)))
  first | rfl | (simp only [ih_it _ _, ih_cs _ _, ih_e _ _, kD_eq, setK_eq, takeQ_eq, peekQ_eq, itemQ_eq, isLQ_eq, putQ_eq, popQ_eq, asgQ_eq, stQ_eq, setAllQ_eq, wipeQ_eq, unQ_eq, plainQ_eq, cstQ_eq, datsQ_eq, agsQ_eq, putMsQ_eq, cmpQ_eq, b1Q_eq, slotO_eq, suQ_eq]; done) | (simp only [ih_it _ _, ih_cs _ _, ih_e _ _, kD_eq, setK_eq, takeQ_eq, peekQ_eq, itemQ_eq, isLQ_eq, putQ_eq, popQ_eq, asgQ_eq, stQ_eq, setAllQ_eq, wipeQ_eq, unQ_eq, plainQ_eq, cstQ_eq, datsQ_eq, agsQ_eq, putMsQ_eq, cmpQ_eq, b1Q_eq, slotO_eq, suQ_eq]; rfl) | (simp only [ih_it _ _, ih_cs _ _, ih_e _ _, kD_eq, setK_eq, takeQ_eq, peekQ_eq, itemQ_eq, isLQ_eq, putQ_eq, popQ_eq, asgQ_eq, stQ_eq, setAllQ_eq, wipeQ_eq, unQ_eq, plainQ_eq, cstQ_eq, datsQ_eq, agsQ_eq, putMsQ_eq, cmpQ_eq, b1Q_eq, slotO_eq, suQ_eq]; split <;> first | rfl | simp)
theorem wq_pop {i : Nat}  : WQ F C (.pop i) := by
  intro env k
  show (popQ env i (fun ds c => ∃ y, ds[ds.length - 1]? = some y ∧ c y ds.dropLast) k.e) = (match env[i]? with
    | some (.own ds) => ∃ y, ds[ds.length - 1]? = some y ∧ k.e (.dat y) (env.set i (.own ds.dropLast))
    | some (.mu m ds) => ∃ y, ds[ds.length - 1]? = some y ∧ k.e (.dat y) (env.set i (.mu m ds.dropLast))
    | _ => False)
  first | rfl | (simp only [kD_eq, setK_eq, takeQ_eq, peekQ_eq, itemQ_eq, isLQ_eq, putQ_eq, popQ_eq, asgQ_eq, stQ_eq, setAllQ_eq, wipeQ_eq, unQ_eq, plainQ_eq, cstQ_eq, datsQ_eq, agsQ_eq, putMsQ_eq, cmpQ_eq, b1Q_eq, slotO_eq, suQ_eq]; done) | (simp only [kD_eq, setK_eq, takeQ_eq, peekQ_eq, itemQ_eq, isLQ_eq, putQ_eq, popQ_eq, asgQ_eq, stQ_eq, setAllQ_eq, wipeQ_eq, unQ_eq, plainQ_eq, cstQ_eq, datsQ_eq, agsQ_eq, putMsQ_eq, cmpQ_eq, b1Q_eq, slotO_eq, suQ_eq]; rfl) | (simp only [kD_eq, setK_eq, takeQ_eq, peekQ_eq, itemQ_eq, isLQ_eq, putQ_eq, popQ_eq, asgQ_eq, stQ_eq, setAllQ_eq, wipeQ_eq, unQ_eq, plainQ_eq, cstQ_eq, datsQ_eq, agsQ_eq, putMsQ_eq, cmpQ_eq, b1Q_eq, slotO_eq, suQ_eq]; split <;> first | rfl | simp)
theorem wq_popAt {i : Nat} {a : N} (ih_a : WQ F C a) : WQ F C (.popAt i a) := by
  intro env k
  show (isLQ env i <| wpq0 F C a env (kD k.x fun r env1 => intW r fun z => inR z ∧ popQ env1 i (fun ds c => ∃ j y, seqIndex? z ds.length = some j ∧ ds[j]? = some y ∧ c y (ds.eraseIdx j)) k.e)) = (isL env i <| wp F C a env (kE k.x fun r env1 => intW r.d fun z => inR z ∧ match env1[i]? with
    | some (.own ds) => ∃ j y, seqIndex? z ds.length = some j ∧ ds[j]? = some y ∧ k.e (.dat y) (env1.set i (.own (ds.eraseIdx j)))
    | some (.mu m ds) => ∃ j y, seqIndex? z ds.length = some j ∧ ds[j]? = some y ∧ k.e (.dat y) (env1.set i (.mu m (ds.eraseIdx j)))
    | _ => False))
  first | rfl | (simp only [ih_a _ _, kD_eq, setK_eq, takeQ_eq, peekQ_eq, itemQ_eq, isLQ_eq, putQ_eq, popQ_eq, asgQ_eq, stQ_eq, setAllQ_eq, wipeQ_eq, unQ_eq, plainQ_eq, cstQ_eq, datsQ_eq, agsQ_eq, putMsQ_eq, cmpQ_eq, b1Q_eq, slotO_eq, suQ_eq]; done) | (simp only [ih_a _ _, kD_eq, setK_eq, takeQ_eq, peekQ_eq, itemQ_eq, isLQ_eq, putQ_eq, popQ_eq, asgQ_eq, stQ_eq, setAllQ_eq, wipeQ_eq, unQ_eq, plainQ_eq, cstQ_eq, datsQ_eq, agsQ_eq, putMsQ_eq, cmpQ_eq, b1Q_eq, slotO_eq, suQ_eq]; rfl) | (simp only [ih_a _ _, kD_eq, setK_eq, takeQ_eq, peekQ_eq, itemQ_eq, isLQ_eq, putQ_eq, popQ_eq, asgQ_eq, stQ_eq, setAllQ_eq, wipeQ_eq, unQ_eq, plainQ_eq, cstQ_eq, datsQ_eq, agsQ_eq, putMsQ_eq, cmpQ_eq, b1Q_eq, slotO_eq, suQ_eq]; split <;> first | rfl | simp)
theorem wq_lib {f : LF} {a : N} {b : N} (ih_a : WQ F C a) (ih_b : WQ F C b) : WQ F C (.lib f a b) := by
  intro env k
  show (wpq0 F C a env (kD k.x fun ra env1 => wpq0 F C b env1 (kD k.x fun rb env2 => libW f ra rb fun r => k.e r env2))) = (wp F C a env (kE k.x fun ra env1 => wp F C b env1 (kE k.x fun rb env2 => libW f ra.d rb.d fun r => k.e r env2)))
  first | rfl | (simp only [ih_a _ _, ih_b _ _, kD_eq, setK_eq, takeQ_eq, peekQ_eq, itemQ_eq, isLQ_eq, putQ_eq, popQ_eq, asgQ_eq, stQ_eq, setAllQ_eq, wipeQ_eq, unQ_eq, plainQ_eq, cstQ_eq, datsQ_eq, agsQ_eq, putMsQ_eq, cmpQ_eq, b1Q_eq, slotO_eq, suQ_eq]; done) | (simp only [ih_a _ _, ih_b _ _, kD_eq, setK_eq, takeQ_eq, peekQ_eq, itemQ_eq, isLQ_eq, putQ_eq, popQ_eq, asgQ_eq, stQ_eq, setAllQ_eq, wipeQ_eq, unQ_eq, plainQ_eq, cstQ_eq, datsQ_eq, agsQ_eq, putMsQ_eq, cmpQ_eq, b1Q_eq, slotO_eq, suQ_eq]; rfl) | (simp only [ih_a _ _, ih_b _ _, kD_eq, setK_eq, takeQ_eq, peekQ_eq, itemQ_eq, isLQ_eq, putQ_eq, popQ_eq, asgQ_eq, stQ_eq, setAllQ_eq, wipeQ_eq, unQ_eq, plainQ_eq, cstQ_eq, datsQ_eq, agsQ_eq, putMsQ_eq, cmpQ_eq, b1Q_eq, slotO_eq, suQ_eq]; split <;> first | rfl | simp)
theorem wq_m1 {m : MT1} {a : N} {b : N} (ih_a : WQ F C a) (ih_b : WQ F C b) : WQ F C (.m1 m a b) := by
  intro env k
  show (wpq0 F C a env (kD k.x fun ra env1 => strW ra fun x => match b.isV with
    | some j => peekQ env1 j fun y => m1W m x y fun r => k.e r env1
    | none => wpq0 F C b env1 (kD k.x fun rb env2 => m1W m x rb fun r => k.e r env2))) = (wp F C a env (kE k.x fun ra env1 => strW ra.d fun x => match b.isV with
    | some j => peek env1 j fun y => m1W m x y fun r => k.e r env1
    | none => wp F C b env1 (kE k.x fun rb env2 => m1W m x rb.d fun r => k.e r env2)))
  first | rfl | (simp only [ih_a _ _, ih_b _ _, kD_eq, setK_eq, takeQ_eq, peekQ_eq, itemQ_eq, isLQ_eq, putQ_eq, popQ_eq, asgQ_eq, stQ_eq, setAllQ_eq, wipeQ_eq, unQ_eq, plainQ_eq, cstQ_eq, datsQ_eq, agsQ_eq, putMsQ_eq, cmpQ_eq, b1Q_eq, slotO_eq, suQ_eq]; done) | (simp only [ih_a _ _, ih_b _ _, kD_eq, setK_eq, takeQ_eq, peekQ_eq, itemQ_eq, isLQ_eq, putQ_eq, popQ_eq, asgQ_eq, stQ_eq, setAllQ_eq, wipeQ_eq, unQ_eq, plainQ_eq, cstQ_eq, datsQ_eq, agsQ_eq, putMsQ_eq, cmpQ_eq, b1Q_eq, slotO_eq, suQ_eq]; rfl) | (simp only [ih_a _ _, ih_b _ _, kD_eq, setK_eq, takeQ_eq, peekQ_eq, itemQ_eq, isLQ_eq, putQ_eq, popQ_eq, asgQ_eq, stQ_eq, setAllQ_eq, wipeQ_eq, unQ_eq, plainQ_eq, cstQ_eq, datsQ_eq, agsQ_eq, putMsQ_eq, cmpQ_eq, b1Q_eq, slotO_eq, suQ_eq]; split <;> first | rfl | simp)
theorem wq_lix {a : N} {b : N} (ih_a : WQ F C a) (ih_b : WQ F C b) : WQ F C (.lix a b) := by
  intro env k
  show (match a.isV with
    | some i => peekQ env i fun x => listW x <| wpq0 F C b env (kD k.x fun rb env1 => peekQ env1 i fun x => lixW x rb fun r => k.e r env1)
    | none => wpq0 F C a env (kD k.x fun ra env1 => listW ra <| wpq0 F C b env1 (kD k.x fun rb env2 => lixW ra rb fun r => k.e r env2))) = (match a.isV with
    | some i => peek env i fun x => listW x <| wp F C b env (kE k.x fun rb env1 => peek env1 i fun x => lixW x rb.d fun r => k.e r env1)
    | none => wp F C a env (kE k.x fun ra env1 => listW ra.d <| wp F C b env1 (kE k.x fun rb env2 => lixW ra.d rb.d fun r => k.e r env2)))
  first | rfl | (simp only [ih_a _ _, ih_b _ _, kD_eq, setK_eq, takeQ_eq, peekQ_eq, itemQ_eq, isLQ_eq, putQ_eq, popQ_eq, asgQ_eq, stQ_eq, setAllQ_eq, wipeQ_eq, unQ_eq, plainQ_eq, cstQ_eq, datsQ_eq, agsQ_eq, putMsQ_eq, cmpQ_eq, b1Q_eq, slotO_eq, suQ_eq]; done) | (simp only [ih_a _ _, ih_b _ _, kD_eq, setK_eq, takeQ_eq, peekQ_eq, itemQ_eq, isLQ_eq, putQ_eq, popQ_eq, asgQ_eq, stQ_eq, setAllQ_eq, wipeQ_eq, unQ_eq, plainQ_eq, cstQ_eq, datsQ_eq, agsQ_eq, putMsQ_eq, cmpQ_eq, b1Q_eq, slotO_eq, suQ_eq]; rfl) | (simp only [ih_a _ _, ih_b _ _, kD_eq, setK_eq, takeQ_eq, peekQ_eq, itemQ_eq, isLQ_eq, putQ_eq, popQ_eq, asgQ_eq, stQ_eq, setAllQ_eq, wipeQ_eq, unQ_eq, plainQ_eq, cstQ_eq, datsQ_eq, agsQ_eq, putMsQ_eq, cmpQ_eq, b1Q_eq, slotO_eq, suQ_eq]; split <;> first | rfl | simp)
theorem wq_callD {f : Nat} {as : N} {ds : List PyData} (ih_as : WQ F C as) : WQ F C (.callD f as ds) := by
  intro env k
  show (wpq0 F C as env (kA k.x fun l env1 => agsQ env1 (l ++ ds.map .inl) fun ags => match nodupB (mutsOf (l ++ ds.map .inl)) with
      | true => F f ags (fun r ms => putMsQ env1 (mutsOf (l ++ ds.map .inl)) ms (k.e r)) fun e => wipeQ env1 (mutsOf (l ++ ds.map .inl)) (k.x e)
      | false => False)) = (wp F C as env (kA k.x fun l env1 => match agOf env1 (l ++ ds.map .inl) with
    | some ags => match nodupB (mutsOf (l ++ ds.map .inl)) with
      | true => F f ags (fun r ms => k.e r (putMs env1 (mutsOf (l ++ ds.map .inl)) ms)) fun e => k.x e (wipeE env1 (mutsOf (l ++ ds.map .inl)))
      | false => False
    | none => False))
  first | rfl | (simp only [ih_as _ _, kD_eq, setK_eq, takeQ_eq, peekQ_eq, itemQ_eq, isLQ_eq, putQ_eq, popQ_eq, asgQ_eq, stQ_eq, setAllQ_eq, wipeQ_eq, unQ_eq, plainQ_eq, cstQ_eq, datsQ_eq, agsQ_eq, putMsQ_eq, cmpQ_eq, b1Q_eq, slotO_eq, suQ_eq]; done) | (simp only [ih_as _ _, kD_eq, setK_eq, takeQ_eq, peekQ_eq, itemQ_eq, isLQ_eq, putQ_eq, popQ_eq, asgQ_eq, stQ_eq, setAllQ_eq, wipeQ_eq, unQ_eq, plainQ_eq, cstQ_eq, datsQ_eq, agsQ_eq, putMsQ_eq, cmpQ_eq, b1Q_eq, slotO_eq, suQ_eq]; rfl) | (simp only [ih_as _ _, kD_eq, setK_eq, takeQ_eq, peekQ_eq, itemQ_eq, isLQ_eq, putQ_eq, popQ_eq, asgQ_eq, stQ_eq, setAllQ_eq, wipeQ_eq, unQ_eq, plainQ_eq, cstQ_eq, datsQ_eq, agsQ_eq, putMsQ_eq, cmpQ_eq, b1Q_eq, slotO_eq, suQ_eq]; split <;> first | rfl | simp)
theorem wq_xw {i : Nat}  : WQ F C (.xw i) := by
  intro env k
  show (match slotO env i with
    | some (.exc x) => k.e (.dat (.str x.word)) env
    | _ => False) = (match env[i]? with
    | some (.exc x) => k.e (.dat (.str x.word)) env
    | _ => False)
  first | rfl | (simp only [kD_eq, setK_eq, takeQ_eq, peekQ_eq, itemQ_eq, isLQ_eq, putQ_eq, popQ_eq, asgQ_eq, stQ_eq, setAllQ_eq, wipeQ_eq, unQ_eq, plainQ_eq, cstQ_eq, datsQ_eq, agsQ_eq, putMsQ_eq, cmpQ_eq, b1Q_eq, slotO_eq, suQ_eq]; done) | (simp only [kD_eq, setK_eq, takeQ_eq, peekQ_eq, itemQ_eq, isLQ_eq, putQ_eq, popQ_eq, asgQ_eq, stQ_eq, setAllQ_eq, wipeQ_eq, unQ_eq, plainQ_eq, cstQ_eq, datsQ_eq, agsQ_eq, putMsQ_eq, cmpQ_eq, b1Q_eq, slotO_eq, suQ_eq]; rfl) | (simp only [kD_eq, setK_eq, takeQ_eq, peekQ_eq, itemQ_eq, isLQ_eq, putQ_eq, popQ_eq, asgQ_eq, stQ_eq, setAllQ_eq, wipeQ_eq, unQ_eq, plainQ_eq, cstQ_eq, datsQ_eq, agsQ_eq, putMsQ_eq, cmpQ_eq, b1Q_eq, slotO_eq, suQ_eq]; split <;> first | rfl | simp)
theorem wq_xp {i : Nat}  : WQ F C (.xp i) := by
  intro env k
  show (match slotO env i with
    | some (.exc x) => k.e (.dat x.place) env
    | _ => False) = (match env[i]? with
    | some (.exc x) => k.e (.dat x.place) env
    | _ => False)
  first | rfl | (simp only [kD_eq, setK_eq, takeQ_eq, peekQ_eq, itemQ_eq, isLQ_eq, putQ_eq, popQ_eq, asgQ_eq, stQ_eq, setAllQ_eq, wipeQ_eq, unQ_eq, plainQ_eq, cstQ_eq, datsQ_eq, agsQ_eq, putMsQ_eq, cmpQ_eq, b1Q_eq, slotO_eq, suQ_eq]; done) | (simp only [kD_eq, setK_eq, takeQ_eq, peekQ_eq, itemQ_eq, isLQ_eq, putQ_eq, popQ_eq, asgQ_eq, stQ_eq, setAllQ_eq, wipeQ_eq, unQ_eq, plainQ_eq, cstQ_eq, datsQ_eq, agsQ_eq, putMsQ_eq, cmpQ_eq, b1Q_eq, slotO_eq, suQ_eq]; rfl) | (simp only [kD_eq, setK_eq, takeQ_eq, peekQ_eq, itemQ_eq, isLQ_eq, putQ_eq, popQ_eq, asgQ_eq, stQ_eq, setAllQ_eq, wipeQ_eq, unQ_eq, plainQ_eq, cstQ_eq, datsQ_eq, agsQ_eq, putMsQ_eq, cmpQ_eq, b1Q_eq, slotO_eq, suQ_eq]; split <;> first | rfl | simp)
theorem wq_xi {i : Nat} {nm : Str} {ts : List Nat}  : WQ F C (.xi i nm ts) := by
  intro env k
  show (match slotO env i with
    | some (.exc x) => k.e (.dat (.bool (ts.contains x.cls))) env
    | _ => False) = (match env[i]? with
    | some (.exc x) => k.e (.dat (.bool (ts.contains x.cls))) env
    | _ => False)
  first | rfl | (simp only [kD_eq, setK_eq, takeQ_eq, peekQ_eq, itemQ_eq, isLQ_eq, putQ_eq, popQ_eq, asgQ_eq, stQ_eq, setAllQ_eq, wipeQ_eq, unQ_eq, plainQ_eq, cstQ_eq, datsQ_eq, agsQ_eq, putMsQ_eq, cmpQ_eq, b1Q_eq, slotO_eq, suQ_eq]; done) | (simp only [kD_eq, setK_eq, takeQ_eq, peekQ_eq, itemQ_eq, isLQ_eq, putQ_eq, popQ_eq, asgQ_eq, stQ_eq, setAllQ_eq, wipeQ_eq, unQ_eq, plainQ_eq, cstQ_eq, datsQ_eq, agsQ_eq, putMsQ_eq, cmpQ_eq, b1Q_eq, slotO_eq, suQ_eq]; rfl) | (simp only [kD_eq, setK_eq, takeQ_eq, peekQ_eq, itemQ_eq, isLQ_eq, putQ_eq, popQ_eq, asgQ_eq, stQ_eq, setAllQ_eq, wipeQ_eq, unQ_eq, plainQ_eq, cstQ_eq, datsQ_eq, agsQ_eq, putMsQ_eq, cmpQ_eq, b1Q_eq, slotO_eq, suQ_eq]; split <;> first | rfl | simp)
theorem wq_nil   : WQ F C (.nil ) := by
  intro env k
  show (k.a [] env) = (k.a [] env)
  first | rfl | (simp only [kD_eq, setK_eq, takeQ_eq, peekQ_eq, itemQ_eq, isLQ_eq, putQ_eq, popQ_eq, asgQ_eq, stQ_eq, setAllQ_eq, wipeQ_eq, unQ_eq, plainQ_eq, cstQ_eq, datsQ_eq, agsQ_eq, putMsQ_eq, cmpQ_eq, b1Q_eq, slotO_eq, suQ_eq]; done) | (simp only [kD_eq, setK_eq, takeQ_eq, peekQ_eq, itemQ_eq, isLQ_eq, putQ_eq, popQ_eq, asgQ_eq, stQ_eq, setAllQ_eq, wipeQ_eq, unQ_eq, plainQ_eq, cstQ_eq, datsQ_eq, agsQ_eq, putMsQ_eq, cmpQ_eq, b1Q_eq, slotO_eq, suQ_eq]; rfl) | (simp only [kD_eq, setK_eq, takeQ_eq, peekQ_eq, itemQ_eq, isLQ_eq, putQ_eq, popQ_eq, asgQ_eq, stQ_eq, setAllQ_eq, wipeQ_eq, unQ_eq, plainQ_eq, cstQ_eq, datsQ_eq, agsQ_eq, putMsQ_eq, cmpQ_eq, b1Q_eq, slotO_eq, suQ_eq]; split <;> first | rfl | simp)
theorem wq_sno   : WQ F C (.sno ) := by
  intro env k
  show (k.i [] env) = (k.i [] env)
  first | rfl | (simp only [kD_eq, setK_eq, takeQ_eq, peekQ_eq, itemQ_eq, isLQ_eq, putQ_eq, popQ_eq, asgQ_eq, stQ_eq, setAllQ_eq, wipeQ_eq, unQ_eq, plainQ_eq, cstQ_eq, datsQ_eq, agsQ_eq, putMsQ_eq, cmpQ_eq, b1Q_eq, slotO_eq, suQ_eq]; done) | (simp only [kD_eq, setK_eq, takeQ_eq, peekQ_eq, itemQ_eq, isLQ_eq, putQ_eq, popQ_eq, asgQ_eq, stQ_eq, setAllQ_eq, wipeQ_eq, unQ_eq, plainQ_eq, cstQ_eq, datsQ_eq, agsQ_eq, putMsQ_eq, cmpQ_eq, b1Q_eq, slotO_eq, suQ_eq]; rfl) | (simp only [kD_eq, setK_eq, takeQ_eq, peekQ_eq, itemQ_eq, isLQ_eq, putQ_eq, popQ_eq, asgQ_eq, stQ_eq, setAllQ_eq, wipeQ_eq, unQ_eq, plainQ_eq, cstQ_eq, datsQ_eq, agsQ_eq, putMsQ_eq, cmpQ_eq, b1Q_eq, slotO_eq, suQ_eq]; split <;> first | rfl | simp)
theorem wq_sat {e : N} (ih_e : WQ F C e) : WQ F C (.sat e) := by
  intro env k
  show (wpq0 F C e env (kD k.x fun r env1 => intW r fun i => k.i [.int i] env1)) = (wp F C e env (kE k.x fun r env1 => intW r.d fun i => k.i [.int i] env1))
  first | rfl | (simp only [ih_e _ _, kD_eq, setK_eq, takeQ_eq, peekQ_eq, itemQ_eq, isLQ_eq, putQ_eq, popQ_eq, asgQ_eq, stQ_eq, setAllQ_eq, wipeQ_eq, unQ_eq, plainQ_eq, cstQ_eq, datsQ_eq, agsQ_eq, putMsQ_eq, cmpQ_eq, b1Q_eq, slotO_eq, suQ_eq]; done) | (simp only [ih_e _ _, kD_eq, setK_eq, takeQ_eq, peekQ_eq, itemQ_eq, isLQ_eq, putQ_eq, popQ_eq, asgQ_eq, stQ_eq, setAllQ_eq, wipeQ_eq, unQ_eq, plainQ_eq, cstQ_eq, datsQ_eq, agsQ_eq, putMsQ_eq, cmpQ_eq, b1Q_eq, slotO_eq, suQ_eq]; rfl) | (simp only [ih_e _ _, kD_eq, setK_eq, takeQ_eq, peekQ_eq, itemQ_eq, isLQ_eq, putQ_eq, popQ_eq, asgQ_eq, stQ_eq, setAllQ_eq, wipeQ_eq, unQ_eq, plainQ_eq, cstQ_eq, datsQ_eq, agsQ_eq, putMsQ_eq, cmpQ_eq, b1Q_eq, slotO_eq, suQ_eq]; split <;> first | rfl | simp)
theorem wq_cons {a : N} {r : N} (ih_a : WQ F C a) (ih_r : WQ F C r) : WQ F C (.cons a r) := by
  intro env k
  show (wpq0 F C a env (kD k.x fun ra env1 => wpq0 F C r env1 (kA k.x fun l env2 => k.a (.inl ra :: l) env2))) = (wp F C a env (kE k.x fun ra env1 => wp F C r env1 (kA k.x fun l env2 => k.a (.inl ra.d :: l) env2)))
  first | rfl | (simp only [ih_a _ _, ih_r _ _, kD_eq, setK_eq, takeQ_eq, peekQ_eq, itemQ_eq, isLQ_eq, putQ_eq, popQ_eq, asgQ_eq, stQ_eq, setAllQ_eq, wipeQ_eq, unQ_eq, plainQ_eq, cstQ_eq, datsQ_eq, agsQ_eq, putMsQ_eq, cmpQ_eq, b1Q_eq, slotO_eq, suQ_eq]; done) | (simp only [ih_a _ _, ih_r _ _, kD_eq, setK_eq, takeQ_eq, peekQ_eq, itemQ_eq, isLQ_eq, putQ_eq, popQ_eq, asgQ_eq, stQ_eq, setAllQ_eq, wipeQ_eq, unQ_eq, plainQ_eq, cstQ_eq, datsQ_eq, agsQ_eq, putMsQ_eq, cmpQ_eq, b1Q_eq, slotO_eq, suQ_eq]; rfl) | (simp only [ih_a _ _, ih_r _ _, kD_eq, setK_eq, takeQ_eq, peekQ_eq, itemQ_eq, isLQ_eq, putQ_eq, popQ_eq, asgQ_eq, stQ_eq, setAllQ_eq, wipeQ_eq, unQ_eq, plainQ_eq, cstQ_eq, datsQ_eq, agsQ_eq, putMsQ_eq, cmpQ_eq, b1Q_eq, slotO_eq, suQ_eq]; split <;> first | rfl | simp)
theorem wq_consM {i : Nat} {r : N} (ih_r : WQ F C r) : WQ F C (.consM i r) := by
  intro env k
  show (peekQ env i fun _ => wpq0 F C r env (kA k.x fun l env1 => k.a (.inr i :: l) env1)) = (peek env i fun _ => wp F C r env (kA k.x fun l env1 => k.a (.inr i :: l) env1))
  first | rfl | (simp only [ih_r _ _, kD_eq, setK_eq, takeQ_eq, peekQ_eq, itemQ_eq, isLQ_eq, putQ_eq, popQ_eq, asgQ_eq, stQ_eq, setAllQ_eq, wipeQ_eq, unQ_eq, plainQ_eq, cstQ_eq, datsQ_eq, agsQ_eq, putMsQ_eq, cmpQ_eq, b1Q_eq, slotO_eq, suQ_eq]; done) | (simp only [ih_r _ _, kD_eq, setK_eq, takeQ_eq, peekQ_eq, itemQ_eq, isLQ_eq, putQ_eq, popQ_eq, asgQ_eq, stQ_eq, setAllQ_eq, wipeQ_eq, unQ_eq, plainQ_eq, cstQ_eq, datsQ_eq, agsQ_eq, putMsQ_eq, cmpQ_eq, b1Q_eq, slotO_eq, suQ_eq]; rfl) | (simp only [ih_r _ _, kD_eq, setK_eq, takeQ_eq, peekQ_eq, itemQ_eq, isLQ_eq, putQ_eq, popQ_eq, asgQ_eq, stQ_eq, setAllQ_eq, wipeQ_eq, unQ_eq, plainQ_eq, cstQ_eq, datsQ_eq, agsQ_eq, putMsQ_eq, cmpQ_eq, b1Q_eq, slotO_eq, suQ_eq]; split <;> first | rfl | simp)
theorem wq_tcmp {o : CO} {a : N} {b : N} (ih_a : WQ F C a) (ih_b : WQ F C b) : WQ F C (.tcmp o a b) := by
  intro env k
  show (match a.isV, b.isV with
    | some i, some j => peekQ env i fun x => peekQ env j fun y => cmpQ o x y fun r => k.t r env
    | some i, none => peekQ env i fun _ => wpq0 F C b env (kD k.x fun rb env1 => peekQ env1 i fun x => cmpQ o x rb fun r => k.t r env1)
    | none, some j => wpq0 F C a env (kD k.x fun ra env1 => peekQ env1 j fun y => cmpQ o ra y fun r => k.t r env1)
    | none, none => wpq0 F C a env (kD k.x fun ra env1 => wpq0 F C b env1 (kD k.x fun rb env2 => cmpQ o ra rb fun r => k.t r env2))) = (match a.isV, b.isV with
    | some i, some j => peek env i fun x => peek env j fun y => cmpW o x y fun r => k.t r env
    | some i, none => peek env i fun _ => wp F C b env (kE k.x fun rb env1 => peek env1 i fun x => cmpW o x rb.d fun r => k.t r env1)
    | none, some j => wp F C a env (kE k.x fun ra env1 => peek env1 j fun y => cmpW o ra.d y fun r => k.t r env1)
    | none, none => wp F C a env (kE k.x fun ra env1 => wp F C b env1 (kE k.x fun rb env2 => cmpW o ra.d rb.d fun r => k.t r env2)))
  first | rfl | (simp only [ih_a _ _, ih_b _ _, kD_eq, setK_eq, takeQ_eq, peekQ_eq, itemQ_eq, isLQ_eq, putQ_eq, popQ_eq, asgQ_eq, stQ_eq, setAllQ_eq, wipeQ_eq, unQ_eq, plainQ_eq, cstQ_eq, datsQ_eq, agsQ_eq, putMsQ_eq, cmpQ_eq, b1Q_eq, slotO_eq, suQ_eq]; done) | (simp only [ih_a _ _, ih_b _ _, kD_eq, setK_eq, takeQ_eq, peekQ_eq, itemQ_eq, isLQ_eq, putQ_eq, popQ_eq, asgQ_eq, stQ_eq, setAllQ_eq, wipeQ_eq, unQ_eq, plainQ_eq, cstQ_eq, datsQ_eq, agsQ_eq, putMsQ_eq, cmpQ_eq, b1Q_eq, slotO_eq, suQ_eq]; rfl) | (simp only [ih_a _ _, ih_b _ _, kD_eq, setK_eq, takeQ_eq, peekQ_eq, itemQ_eq, isLQ_eq, putQ_eq, popQ_eq, asgQ_eq, stQ_eq, setAllQ_eq, wipeQ_eq, unQ_eq, plainQ_eq, cstQ_eq, datsQ_eq, agsQ_eq, putMsQ_eq, cmpQ_eq, b1Q_eq, slotO_eq, suQ_eq]; split <;> first | rfl | simp)
theorem wq_tchain {o : CO} {o' : CO} {a : N} {b : N} {c : N} (ih_a : WQ F C a) (ih_b : WQ F C b) (ih_c : WQ F C c) : WQ F C (.tchain o o' a b c) := by
  intro env k
  show (wpq0 F C a env (kD k.x fun ra env1 => wpq0 F C b env1 (kD k.x fun rb env2 => cmpQ o ra rb fun t =>
      bothW t (wpq0 F C c env2 (kD k.x fun rc env3 => cmpQ o' rb rc fun u => k.t u env3)) (k.t false env2)))) = (wp F C a env (kE k.x fun ra env1 => wp F C b env1 (kE k.x fun rb env2 => cmpW o ra.d rb.d fun t =>
      bothW t (wp F C c env2 (kE k.x fun rc env3 => cmpW o' rb.d rc.d fun u => k.t u env3)) (k.t false env2))))
  first | rfl | (simp only [ih_a _ _, ih_b _ _, ih_c _ _, kD_eq, setK_eq, takeQ_eq, peekQ_eq, itemQ_eq, isLQ_eq, putQ_eq, popQ_eq, asgQ_eq, stQ_eq, setAllQ_eq, wipeQ_eq, unQ_eq, plainQ_eq, cstQ_eq, datsQ_eq, agsQ_eq, putMsQ_eq, cmpQ_eq, b1Q_eq, slotO_eq, suQ_eq]; done) | (simp only [ih_a _ _, ih_b _ _, ih_c _ _, kD_eq, setK_eq, takeQ_eq, peekQ_eq, itemQ_eq, isLQ_eq, putQ_eq, popQ_eq, asgQ_eq, stQ_eq, setAllQ_eq, wipeQ_eq, unQ_eq, plainQ_eq, cstQ_eq, datsQ_eq, agsQ_eq, putMsQ_eq, cmpQ_eq, b1Q_eq, slotO_eq, suQ_eq]; rfl) | (simp only [ih_a _ _, ih_b _ _, ih_c _ _, kD_eq, setK_eq, takeQ_eq, peekQ_eq, itemQ_eq, isLQ_eq, putQ_eq, popQ_eq, asgQ_eq, stQ_eq, setAllQ_eq, wipeQ_eq, unQ_eq, plainQ_eq, cstQ_eq, datsQ_eq, agsQ_eq, putMsQ_eq, cmpQ_eq, b1Q_eq, slotO_eq, suQ_eq]; split <;> first | rfl | simp)
theorem wq_tnot {a : N} (ih_a : WQ F C a) : WQ F C (.tnot a) := by
  intro env k
  show (wpq0 F C a env (kT k.x fun b env1 => k.t (!b) env1)) = (wp F C a env (kT k.x fun b env1 => k.t (!b) env1))
  first | rfl | (simp only [ih_a _ _, kD_eq, setK_eq, takeQ_eq, peekQ_eq, itemQ_eq, isLQ_eq, putQ_eq, popQ_eq, asgQ_eq, stQ_eq, setAllQ_eq, wipeQ_eq, unQ_eq, plainQ_eq, cstQ_eq, datsQ_eq, agsQ_eq, putMsQ_eq, cmpQ_eq, b1Q_eq, slotO_eq, suQ_eq]; done) | (simp only [ih_a _ _, kD_eq, setK_eq, takeQ_eq, peekQ_eq, itemQ_eq, isLQ_eq, putQ_eq, popQ_eq, asgQ_eq, stQ_eq, setAllQ_eq, wipeQ_eq, unQ_eq, plainQ_eq, cstQ_eq, datsQ_eq, agsQ_eq, putMsQ_eq, cmpQ_eq, b1Q_eq, slotO_eq, suQ_eq]; rfl) | (simp only [ih_a _ _, kD_eq, setK_eq, takeQ_eq, peekQ_eq, itemQ_eq, isLQ_eq, putQ_eq, popQ_eq, asgQ_eq, stQ_eq, setAllQ_eq, wipeQ_eq, unQ_eq, plainQ_eq, cstQ_eq, datsQ_eq, agsQ_eq, putMsQ_eq, cmpQ_eq, b1Q_eq, slotO_eq, suQ_eq]; split <;> first | rfl | simp)
theorem wq_tand {a : N} {b : N} (ih_a : WQ F C a) (ih_b : WQ F C b) : WQ F C (.tand a b) := by
  intro env k
  show (wpq0 F C a env (kT k.x fun t env1 => bothW t (wpq0 F C b env1 k) (k.t false env1))) = (wp F C a env (kT k.x fun t env1 => bothW t (wp F C b env1 k) (k.t false env1)))
  first | rfl | (simp only [ih_a _ _, ih_b _ _, kD_eq, setK_eq, takeQ_eq, peekQ_eq, itemQ_eq, isLQ_eq, putQ_eq, popQ_eq, asgQ_eq, stQ_eq, setAllQ_eq, wipeQ_eq, unQ_eq, plainQ_eq, cstQ_eq, datsQ_eq, agsQ_eq, putMsQ_eq, cmpQ_eq, b1Q_eq, slotO_eq, suQ_eq]; done) | (simp only [ih_a _ _, ih_b _ _, kD_eq, setK_eq, takeQ_eq, peekQ_eq, itemQ_eq, isLQ_eq, putQ_eq, popQ_eq, asgQ_eq, stQ_eq, setAllQ_eq, wipeQ_eq, unQ_eq, plainQ_eq, cstQ_eq, datsQ_eq, agsQ_eq, putMsQ_eq, cmpQ_eq, b1Q_eq, slotO_eq, suQ_eq]; rfl) | (simp only [ih_a _ _, ih_b _ _, kD_eq, setK_eq, takeQ_eq, peekQ_eq, itemQ_eq, isLQ_eq, putQ_eq, popQ_eq, asgQ_eq, stQ_eq, setAllQ_eq, wipeQ_eq, unQ_eq, plainQ_eq, cstQ_eq, datsQ_eq, agsQ_eq, putMsQ_eq, cmpQ_eq, b1Q_eq, slotO_eq, suQ_eq]; split <;> first | rfl | simp)
theorem wq_tor {a : N} {b : N} (ih_a : WQ F C a) (ih_b : WQ F C b) : WQ F C (.tor a b) := by
  intro env k
  show (wpq0 F C a env (kT k.x fun t env1 => bothW t (k.t true env1) (wpq0 F C b env1 k))) = (wp F C a env (kT k.x fun t env1 => bothW t (k.t true env1) (wp F C b env1 k)))
  first | rfl | (simp only [ih_a _ _, ih_b _ _, kD_eq, setK_eq, takeQ_eq, peekQ_eq, itemQ_eq, isLQ_eq, putQ_eq, popQ_eq, asgQ_eq, stQ_eq, setAllQ_eq, wipeQ_eq, unQ_eq, plainQ_eq, cstQ_eq, datsQ_eq, agsQ_eq, putMsQ_eq, cmpQ_eq, b1Q_eq, slotO_eq, suQ_eq]; done) | (simp only [ih_a _ _, ih_b _ _, kD_eq, setK_eq, takeQ_eq, peekQ_eq, itemQ_eq, isLQ_eq, putQ_eq, popQ_eq, asgQ_eq, stQ_eq, setAllQ_eq, wipeQ_eq, unQ_eq, plainQ_eq, cstQ_eq, datsQ_eq, agsQ_eq, putMsQ_eq, cmpQ_eq, b1Q_eq, slotO_eq, suQ_eq]; rfl) | (simp only [ih_a _ _, ih_b _ _, kD_eq, setK_eq, takeQ_eq, peekQ_eq, itemQ_eq, isLQ_eq, putQ_eq, popQ_eq, asgQ_eq, stQ_eq, setAllQ_eq, wipeQ_eq, unQ_eq, plainQ_eq, cstQ_eq, datsQ_eq, agsQ_eq, putMsQ_eq, cmpQ_eq, b1Q_eq, slotO_eq, suQ_eq]; split <;> first | rfl | simp)
theorem wq_tone {a : N} (ih_a : WQ F C a) : WQ F C (.tone a) := by
  intro env k
  show (wpq0 F C a env k) = (wp F C a env k)
  first | rfl | (simp only [ih_a _ _, kD_eq, setK_eq, takeQ_eq, peekQ_eq, itemQ_eq, isLQ_eq, putQ_eq, popQ_eq, asgQ_eq, stQ_eq, setAllQ_eq, wipeQ_eq, unQ_eq, plainQ_eq, cstQ_eq, datsQ_eq, agsQ_eq, putMsQ_eq, cmpQ_eq, b1Q_eq, slotO_eq, suQ_eq]; done) | (simp only [ih_a _ _, kD_eq, setK_eq, takeQ_eq, peekQ_eq, itemQ_eq, isLQ_eq, putQ_eq, popQ_eq, asgQ_eq, stQ_eq, setAllQ_eq, wipeQ_eq, unQ_eq, plainQ_eq, cstQ_eq, datsQ_eq, agsQ_eq, putMsQ_eq, cmpQ_eq, b1Q_eq, slotO_eq, suQ_eq]; rfl) | (simp only [ih_a _ _, kD_eq, setK_eq, takeQ_eq, peekQ_eq, itemQ_eq, isLQ_eq, putQ_eq, popQ_eq, asgQ_eq, stQ_eq, setAllQ_eq, wipeQ_eq, unQ_eq, plainQ_eq, cstQ_eq, datsQ_eq, agsQ_eq, putMsQ_eq, cmpQ_eq, b1Q_eq, slotO_eq, suQ_eq]; split <;> first | rfl | simp)
theorem wq_tyes   : WQ F C (.tyes ) := by
  intro env k
  show (k.t true env) = (k.t true env)
  first | rfl | (simp only [kD_eq, setK_eq, takeQ_eq, peekQ_eq, itemQ_eq, isLQ_eq, putQ_eq, popQ_eq, asgQ_eq, stQ_eq, setAllQ_eq, wipeQ_eq, unQ_eq, plainQ_eq, cstQ_eq, datsQ_eq, agsQ_eq, putMsQ_eq, cmpQ_eq, b1Q_eq, slotO_eq, suQ_eq]; done) | (simp only [kD_eq, setK_eq, takeQ_eq, peekQ_eq, itemQ_eq, isLQ_eq, putQ_eq, popQ_eq, asgQ_eq, stQ_eq, setAllQ_eq, wipeQ_eq, unQ_eq, plainQ_eq, cstQ_eq, datsQ_eq, agsQ_eq, putMsQ_eq, cmpQ_eq, b1Q_eq, slotO_eq, suQ_eq]; rfl) | (simp only [kD_eq, setK_eq, takeQ_eq, peekQ_eq, itemQ_eq, isLQ_eq, putQ_eq, popQ_eq, asgQ_eq, stQ_eq, setAllQ_eq, wipeQ_eq, unQ_eq, plainQ_eq, cstQ_eq, datsQ_eq, agsQ_eq, putMsQ_eq, cmpQ_eq, b1Q_eq, slotO_eq, suQ_eq]; split <;> first | rfl | simp)
theorem wq_tval {a : N} (ih_a : WQ F C a) : WQ F C (.tval a) := by
  intro env k
  show (match a.isV with
    | some i => peekQ env i fun d => truthW d fun b => k.t b env
    | none => wpq0 F C a env (kD k.x fun r env1 => truthW r fun b => k.t b env1)) = (match a.isV with
    | some i => peek env i fun d => truthW d fun b => k.t b env
    | none => wp F C a env (kE k.x fun r env1 => truthW r.d fun b => k.t b env1))
  first | rfl | (simp only [ih_a _ _, kD_eq, setK_eq, takeQ_eq, peekQ_eq, itemQ_eq, isLQ_eq, putQ_eq, popQ_eq, asgQ_eq, stQ_eq, setAllQ_eq, wipeQ_eq, unQ_eq, plainQ_eq, cstQ_eq, datsQ_eq, agsQ_eq, putMsQ_eq, cmpQ_eq, b1Q_eq, slotO_eq, suQ_eq]; done) | (simp only [ih_a _ _, kD_eq, setK_eq, takeQ_eq, peekQ_eq, itemQ_eq, isLQ_eq, putQ_eq, popQ_eq, asgQ_eq, stQ_eq, setAllQ_eq, wipeQ_eq, unQ_eq, plainQ_eq, cstQ_eq, datsQ_eq, agsQ_eq, putMsQ_eq, cmpQ_eq, b1Q_eq, slotO_eq, suQ_eq]; rfl) | (simp only [ih_a _ _, kD_eq, setK_eq, takeQ_eq, peekQ_eq, itemQ_eq, isLQ_eq, putQ_eq, popQ_eq, asgQ_eq, stQ_eq, setAllQ_eq, wipeQ_eq, unQ_eq, plainQ_eq, cstQ_eq, datsQ_eq, agsQ_eq, putMsQ_eq, cmpQ_eq, b1Q_eq, slotO_eq, suQ_eq]; split <;> first | rfl | simp)
theorem wq_itl {a : N} (ih_a : WQ F C a) : WQ F C (.itl a) := by
  intro env k
  show (wpq0 F C a env (kD k.x fun r env1 => walkL r fun ds => k.i ds env1)) = (wp F C a env (kE k.x fun r env1 => walkL r.d fun ds => k.i ds env1))
  first | rfl | (simp only [ih_a _ _, kD_eq, setK_eq, takeQ_eq, peekQ_eq, itemQ_eq, isLQ_eq, putQ_eq, popQ_eq, asgQ_eq, stQ_eq, setAllQ_eq, wipeQ_eq, unQ_eq, plainQ_eq, cstQ_eq, datsQ_eq, agsQ_eq, putMsQ_eq, cmpQ_eq, b1Q_eq, slotO_eq, suQ_eq]; done) | (simp only [ih_a _ _, kD_eq, setK_eq, takeQ_eq, peekQ_eq, itemQ_eq, isLQ_eq, putQ_eq, popQ_eq, asgQ_eq, stQ_eq, setAllQ_eq, wipeQ_eq, unQ_eq, plainQ_eq, cstQ_eq, datsQ_eq, agsQ_eq, putMsQ_eq, cmpQ_eq, b1Q_eq, slotO_eq, suQ_eq]; rfl) | (simp only [ih_a _ _, kD_eq, setK_eq, takeQ_eq, peekQ_eq, itemQ_eq, isLQ_eq, putQ_eq, popQ_eq, asgQ_eq, stQ_eq, setAllQ_eq, wipeQ_eq, unQ_eq, plainQ_eq, cstQ_eq, datsQ_eq, agsQ_eq, putMsQ_eq, cmpQ_eq, b1Q_eq, slotO_eq, suQ_eq]; split <;> first | rfl | simp)
theorem wq_iten {a : N} (ih_a : WQ F C a) : WQ F C (.iten a) := by
  intro env k
  show (wpq0 F C a env (kD k.x fun r env1 => enumW r fun ds => k.i ds env1)) = (wp F C a env (kE k.x fun r env1 => enumW r.d fun ds => k.i ds env1))
  first | rfl | (simp only [ih_a _ _, kD_eq, setK_eq, takeQ_eq, peekQ_eq, itemQ_eq, isLQ_eq, putQ_eq, popQ_eq, asgQ_eq, stQ_eq, setAllQ_eq, wipeQ_eq, unQ_eq, plainQ_eq, cstQ_eq, datsQ_eq, agsQ_eq, putMsQ_eq, cmpQ_eq, b1Q_eq, slotO_eq, suQ_eq]; done) | (simp only [ih_a _ _, kD_eq, setK_eq, takeQ_eq, peekQ_eq, itemQ_eq, isLQ_eq, putQ_eq, popQ_eq, asgQ_eq, stQ_eq, setAllQ_eq, wipeQ_eq, unQ_eq, plainQ_eq, cstQ_eq, datsQ_eq, agsQ_eq, putMsQ_eq, cmpQ_eq, b1Q_eq, slotO_eq, suQ_eq]; rfl) | (simp only [ih_a _ _, kD_eq, setK_eq, takeQ_eq, peekQ_eq, itemQ_eq, isLQ_eq, putQ_eq, popQ_eq, asgQ_eq, stQ_eq, setAllQ_eq, wipeQ_eq, unQ_eq, plainQ_eq, cstQ_eq, datsQ_eq, agsQ_eq, putMsQ_eq, cmpQ_eq, b1Q_eq, slotO_eq, suQ_eq]; split <;> first | rfl | simp)
theorem wq_itz {a : N} {b : N} (ih_a : WQ F C a) (ih_b : WQ F C b) : WQ F C (.itz a b) := by
  intro env k
  show (wpq0 F C a env (kD k.x fun ra env1 => wpq0 F C b env1 (kD k.x fun rb env2 => zipW ra rb fun ds => k.i ds env2))) = (wp F C a env (kE k.x fun ra env1 => wp F C b env1 (kE k.x fun rb env2 => zipW ra.d rb.d fun ds => k.i ds env2)))
  first | rfl | (simp only [ih_a _ _, ih_b _ _, kD_eq, setK_eq, takeQ_eq, peekQ_eq, itemQ_eq, isLQ_eq, putQ_eq, popQ_eq, asgQ_eq, stQ_eq, setAllQ_eq, wipeQ_eq, unQ_eq, plainQ_eq, cstQ_eq, datsQ_eq, agsQ_eq, putMsQ_eq, cmpQ_eq, b1Q_eq, slotO_eq, suQ_eq]; done) | (simp only [ih_a _ _, ih_b _ _, kD_eq, setK_eq, takeQ_eq, peekQ_eq, itemQ_eq, isLQ_eq, putQ_eq, popQ_eq, asgQ_eq, stQ_eq, setAllQ_eq, wipeQ_eq, unQ_eq, plainQ_eq, cstQ_eq, datsQ_eq, agsQ_eq, putMsQ_eq, cmpQ_eq, b1Q_eq, slotO_eq, suQ_eq]; rfl) | (simp only [ih_a _ _, ih_b _ _, kD_eq, setK_eq, takeQ_eq, peekQ_eq, itemQ_eq, isLQ_eq, putQ_eq, popQ_eq, asgQ_eq, stQ_eq, setAllQ_eq, wipeQ_eq, unQ_eq, plainQ_eq, cstQ_eq, datsQ_eq, agsQ_eq, putMsQ_eq, cmpQ_eq, b1Q_eq, slotO_eq, suQ_eq]; split <;> first | rfl | simp)
theorem wq_itr1 {a : N} (ih_a : WQ F C a) : WQ F C (.itr1 a) := by
  intro env k
  show (wpq0 F C a env (kD k.x fun r env1 => intW r fun n => inR n ∧ k.i (rangeD 0 n.toNat) env1)) = (wp F C a env (kE k.x fun r env1 => intW r.d fun n => inR n ∧ k.i (rangeD 0 n.toNat) env1))
  first | rfl | (simp only [ih_a _ _, kD_eq, setK_eq, takeQ_eq, peekQ_eq, itemQ_eq, isLQ_eq, putQ_eq, popQ_eq, asgQ_eq, stQ_eq, setAllQ_eq, wipeQ_eq, unQ_eq, plainQ_eq, cstQ_eq, datsQ_eq, agsQ_eq, putMsQ_eq, cmpQ_eq, b1Q_eq, slotO_eq, suQ_eq]; done) | (simp only [ih_a _ _, kD_eq, setK_eq, takeQ_eq, peekQ_eq, itemQ_eq, isLQ_eq, putQ_eq, popQ_eq, asgQ_eq, stQ_eq, setAllQ_eq, wipeQ_eq, unQ_eq, plainQ_eq, cstQ_eq, datsQ_eq, agsQ_eq, putMsQ_eq, cmpQ_eq, b1Q_eq, slotO_eq, suQ_eq]; rfl) | (simp only [ih_a _ _, kD_eq, setK_eq, takeQ_eq, peekQ_eq, itemQ_eq, isLQ_eq, putQ_eq, popQ_eq, asgQ_eq, stQ_eq, setAllQ_eq, wipeQ_eq, unQ_eq, plainQ_eq, cstQ_eq, datsQ_eq, agsQ_eq, putMsQ_eq, cmpQ_eq, b1Q_eq, slotO_eq, suQ_eq]; split <;> first | rfl | simp)
theorem wq_itr2 {a : N} {b : N} (ih_a : WQ F C a) (ih_b : WQ F C b) : WQ F C (.itr2 a b) := by
  intro env k
  show (wpq0 F C a env (kD k.x fun ra env1 => wpq0 F C b env1 (kD k.x fun rb env2 => intW ra fun i => intW rb fun j => inR i ∧ inR j ∧ k.i (rangeD i (j - i).toNat) env2))) = (wp F C a env (kE k.x fun ra env1 => wp F C b env1 (kE k.x fun rb env2 => intW ra.d fun i => intW rb.d fun j => inR i ∧ inR j ∧ k.i (rangeD i (j - i).toNat) env2)))
  first | rfl | (simp only [ih_a _ _, ih_b _ _, kD_eq, setK_eq, takeQ_eq, peekQ_eq, itemQ_eq, isLQ_eq, putQ_eq, popQ_eq, asgQ_eq, stQ_eq, setAllQ_eq, wipeQ_eq, unQ_eq, plainQ_eq, cstQ_eq, datsQ_eq, agsQ_eq, putMsQ_eq, cmpQ_eq, b1Q_eq, slotO_eq, suQ_eq]; done) | (simp only [ih_a _ _, ih_b _ _, kD_eq, setK_eq, takeQ_eq, peekQ_eq, itemQ_eq, isLQ_eq, putQ_eq, popQ_eq, asgQ_eq, stQ_eq, setAllQ_eq, wipeQ_eq, unQ_eq, plainQ_eq, cstQ_eq, datsQ_eq, agsQ_eq, putMsQ_eq, cmpQ_eq, b1Q_eq, slotO_eq, suQ_eq]; rfl) | (simp only [ih_a _ _, ih_b _ _, kD_eq, setK_eq, takeQ_eq, peekQ_eq, itemQ_eq, isLQ_eq, putQ_eq, popQ_eq, asgQ_eq, stQ_eq, setAllQ_eq, wipeQ_eq, unQ_eq, plainQ_eq, cstQ_eq, datsQ_eq, agsQ_eq, putMsQ_eq, cmpQ_eq, b1Q_eq, slotO_eq, suQ_eq]; split <;> first | rfl | simp)
theorem wq_set {i : Nat} {e : N} (ih_e : WQ F C e) : WQ F C (.set i e) := by
  intro env k
  show (wpq0 F C e env (kE k.x fun r env1 => stQ i r env1 k.nx)) = (wp F C e env (kE k.x fun r env1 => stR i r env1 k.nx))
  first | rfl | (simp only [ih_e _ _, kD_eq, setK_eq, takeQ_eq, peekQ_eq, itemQ_eq, isLQ_eq, putQ_eq, popQ_eq, asgQ_eq, stQ_eq, setAllQ_eq, wipeQ_eq, unQ_eq, plainQ_eq, cstQ_eq, datsQ_eq, agsQ_eq, putMsQ_eq, cmpQ_eq, b1Q_eq, slotO_eq, suQ_eq]; done) | (simp only [ih_e _ _, kD_eq, setK_eq, takeQ_eq, peekQ_eq, itemQ_eq, isLQ_eq, putQ_eq, popQ_eq, asgQ_eq, stQ_eq, setAllQ_eq, wipeQ_eq, unQ_eq, plainQ_eq, cstQ_eq, datsQ_eq, agsQ_eq, putMsQ_eq, cmpQ_eq, b1Q_eq, slotO_eq, suQ_eq]; rfl) | (simp only [ih_e _ _, kD_eq, setK_eq, takeQ_eq, peekQ_eq, itemQ_eq, isLQ_eq, putQ_eq, popQ_eq, asgQ_eq, stQ_eq, setAllQ_eq, wipeQ_eq, unQ_eq, plainQ_eq, cstQ_eq, datsQ_eq, agsQ_eq, putMsQ_eq, cmpQ_eq, b1Q_eq, slotO_eq, suQ_eq]; split <;> first | rfl | simp)
theorem wq_unp {is : List Pn} {e : N} (ih_e : WQ F C e) : WQ F C (.unp is e) := by
  intro env k
  show (wpq0 F C e env (kD k.x fun r env1 => asgQ (.inr is) r env1 k.nx)) = (wp F C e env (kE k.x fun r env1 => asgW (.inr is) r.d env1 k.nx))
  first | rfl | (simp only [ih_e _ _, kD_eq, setK_eq, takeQ_eq, peekQ_eq, itemQ_eq, isLQ_eq, putQ_eq, popQ_eq, asgQ_eq, stQ_eq, setAllQ_eq, wipeQ_eq, unQ_eq, plainQ_eq, cstQ_eq, datsQ_eq, agsQ_eq, putMsQ_eq, cmpQ_eq, b1Q_eq, slotO_eq, suQ_eq]; done) | (simp only [ih_e _ _, kD_eq, setK_eq, takeQ_eq, peekQ_eq, itemQ_eq, isLQ_eq, putQ_eq, popQ_eq, asgQ_eq, stQ_eq, setAllQ_eq, wipeQ_eq, unQ_eq, plainQ_eq, cstQ_eq, datsQ_eq, agsQ_eq, putMsQ_eq, cmpQ_eq, b1Q_eq, slotO_eq, suQ_eq]; rfl) | (simp only [ih_e _ _, kD_eq, setK_eq, takeQ_eq, peekQ_eq, itemQ_eq, isLQ_eq, putQ_eq, popQ_eq, asgQ_eq, stQ_eq, setAllQ_eq, wipeQ_eq, unQ_eq, plainQ_eq, cstQ_eq, datsQ_eq, agsQ_eq, putMsQ_eq, cmpQ_eq, b1Q_eq, slotO_eq, suQ_eq]; split <;> first | rfl | simp)
theorem wq_seti {i : Nat} {b : N} {e : N} (ih_b : WQ F C b) (ih_e : WQ F C e) : WQ F C (.seti i b e) := by
  intro env k
  show (wpq0 F C e env (kD k.x fun r env1 => isLQ env1 i <| wpq0 F C b env1 (kD k.x fun rb env2 => intW rb fun z => putQ env2 i (fun ds c => ∃ j, ixN ds.length z = some j ∧ c (ds.set j r)) k.nx))) = (wp F C e env (kE k.x fun r env1 => isL env1 i <| wp F C b env1 (kE k.x fun rb env2 => intW rb.d fun z => putL env2 i (fun ds c => ∃ j, ixN ds.length z = some j ∧ c (ds.set j r.d)) k.nx)))
  first | rfl | (simp only [ih_b _ _, ih_e _ _, kD_eq, setK_eq, takeQ_eq, peekQ_eq, itemQ_eq, isLQ_eq, putQ_eq, popQ_eq, asgQ_eq, stQ_eq, setAllQ_eq, wipeQ_eq, unQ_eq, plainQ_eq, cstQ_eq, datsQ_eq, agsQ_eq, putMsQ_eq, cmpQ_eq, b1Q_eq, slotO_eq, suQ_eq]; done) | (simp only [ih_b _ _, ih_e _ _, kD_eq, setK_eq, takeQ_eq, peekQ_eq, itemQ_eq, isLQ_eq, putQ_eq, popQ_eq, asgQ_eq, stQ_eq, setAllQ_eq, wipeQ_eq, unQ_eq, plainQ_eq, cstQ_eq, datsQ_eq, agsQ_eq, putMsQ_eq, cmpQ_eq, b1Q_eq, slotO_eq, suQ_eq]; rfl) | (simp only [ih_b _ _, ih_e _ _, kD_eq, setK_eq, takeQ_eq, peekQ_eq, itemQ_eq, isLQ_eq, putQ_eq, popQ_eq, asgQ_eq, stQ_eq, setAllQ_eq, wipeQ_eq, unQ_eq, plainQ_eq, cstQ_eq, datsQ_eq, agsQ_eq, putMsQ_eq, cmpQ_eq, b1Q_eq, slotO_eq, suQ_eq]; split <;> first | rfl | simp)
theorem wq_aug {i : Nat} {o : BO} {e : N} (ih_e : WQ F C e) : WQ F C (.aug i o e) := by
  intro env k
  show (peekQ env i fun _ => wpq0 F C e env (kD k.x fun r env1 => peekQ env1 i fun x => augW o x r fun z => setK env1 i (.dat (.int z)) k.nx)) = (peek env i fun _ => wp F C e env (kE k.x fun r env1 => peek env1 i fun x => augW o x r.d fun z => k.nx (env1.set i (.dat (.int z)))))
  first | rfl | (simp only [ih_e _ _, kD_eq, setK_eq, takeQ_eq, peekQ_eq, itemQ_eq, isLQ_eq, putQ_eq, popQ_eq, asgQ_eq, stQ_eq, setAllQ_eq, wipeQ_eq, unQ_eq, plainQ_eq, cstQ_eq, datsQ_eq, agsQ_eq, putMsQ_eq, cmpQ_eq, b1Q_eq, slotO_eq, suQ_eq]; done) | (simp only [ih_e _ _, kD_eq, setK_eq, takeQ_eq, peekQ_eq, itemQ_eq, isLQ_eq, putQ_eq, popQ_eq, asgQ_eq, stQ_eq, setAllQ_eq, wipeQ_eq, unQ_eq, plainQ_eq, cstQ_eq, datsQ_eq, agsQ_eq, putMsQ_eq, cmpQ_eq, b1Q_eq, slotO_eq, suQ_eq]; rfl) | (simp only [ih_e _ _, kD_eq, setK_eq, takeQ_eq, peekQ_eq, itemQ_eq, isLQ_eq, putQ_eq, popQ_eq, asgQ_eq, stQ_eq, setAllQ_eq, wipeQ_eq, unQ_eq, plainQ_eq, cstQ_eq, datsQ_eq, agsQ_eq, putMsQ_eq, cmpQ_eq, b1Q_eq, slotO_eq, suQ_eq]; split <;> first | rfl | simp)
theorem wq_augi {i : Nat} {o : BO} {b : N} {e : N} (ih_b : WQ F C b) (ih_e : WQ F C e) : WQ F C (.augi i o b e) := by
  intro env k
  show (isLQ env i <| wpq0 F C b env (kD k.x fun rb env1 => intW rb fun z => itemQ env1 i z fun x => wpq0 F C e env1 (kD k.x fun r env2 => augW o (.int x) r fun y => putQ env2 i (fun ds c => ∃ j, ixN ds.length z = some j ∧ c (ds.set j (.int y))) k.nx))) = (isL env i <| wp F C b env (kE k.x fun rb env1 => intW rb.d fun z => itemW env1 i z fun x => wp F C e env1 (kE k.x fun r env2 => augW o (.int x) r.d fun y => putL env2 i (fun ds c => ∃ j, ixN ds.length z = some j ∧ c (ds.set j (.int y))) k.nx)))
  first | rfl | (simp only [ih_b _ _, ih_e _ _, kD_eq, setK_eq, takeQ_eq, peekQ_eq, itemQ_eq, isLQ_eq, putQ_eq, popQ_eq, asgQ_eq, stQ_eq, setAllQ_eq, wipeQ_eq, unQ_eq, plainQ_eq, cstQ_eq, datsQ_eq, agsQ_eq, putMsQ_eq, cmpQ_eq, b1Q_eq, slotO_eq, suQ_eq]; done) | (simp only [ih_b _ _, ih_e _ _, kD_eq, setK_eq, takeQ_eq, peekQ_eq, itemQ_eq, isLQ_eq, putQ_eq, popQ_eq, asgQ_eq, stQ_eq, setAllQ_eq, wipeQ_eq, unQ_eq, plainQ_eq, cstQ_eq, datsQ_eq, agsQ_eq, putMsQ_eq, cmpQ_eq, b1Q_eq, slotO_eq, suQ_eq]; rfl) | (simp only [ih_b _ _, ih_e _ _, kD_eq, setK_eq, takeQ_eq, peekQ_eq, itemQ_eq, isLQ_eq, putQ_eq, popQ_eq, asgQ_eq, stQ_eq, setAllQ_eq, wipeQ_eq, unQ_eq, plainQ_eq, cstQ_eq, datsQ_eq, agsQ_eq, putMsQ_eq, cmpQ_eq, b1Q_eq, slotO_eq, suQ_eq]; split <;> first | rfl | simp)
theorem wq_ex {e : N} (ih_e : WQ F C e) : WQ F C (.ex e) := by
  intro env k
  show (wpq0 F C e env (kE k.x fun _ env1 => k.nx env1)) = (wp F C e env (kE k.x fun _ env1 => k.nx env1))
  first | rfl | (simp only [ih_e _ _, kD_eq, setK_eq, takeQ_eq, peekQ_eq, itemQ_eq, isLQ_eq, putQ_eq, popQ_eq, asgQ_eq, stQ_eq, setAllQ_eq, wipeQ_eq, unQ_eq, plainQ_eq, cstQ_eq, datsQ_eq, agsQ_eq, putMsQ_eq, cmpQ_eq, b1Q_eq, slotO_eq, suQ_eq]; done) | (simp only [ih_e _ _, kD_eq, setK_eq, takeQ_eq, peekQ_eq, itemQ_eq, isLQ_eq, putQ_eq, popQ_eq, asgQ_eq, stQ_eq, setAllQ_eq, wipeQ_eq, unQ_eq, plainQ_eq, cstQ_eq, datsQ_eq, agsQ_eq, putMsQ_eq, cmpQ_eq, b1Q_eq, slotO_eq, suQ_eq]; rfl) | (simp only [ih_e _ _, kD_eq, setK_eq, takeQ_eq, peekQ_eq, itemQ_eq, isLQ_eq, putQ_eq, popQ_eq, asgQ_eq, stQ_eq, setAllQ_eq, wipeQ_eq, unQ_eq, plainQ_eq, cstQ_eq, datsQ_eq, agsQ_eq, putMsQ_eq, cmpQ_eq, b1Q_eq, slotO_eq, suQ_eq]; split <;> first | rfl | simp)
theorem wq_app {i : Nat} {e : N} (ih_e : WQ F C e) : WQ F C (.app i e) := by
  intro env k
  show (isLQ env i <| wpq0 F C e env (kD k.x fun r env1 => putQ env1 i (fun ds c => ds.length < sizeLine ∧ c (ds ++ [r])) k.nx)) = (isL env i <| wp F C e env (kE k.x fun r env1 => putL env1 i (fun ds c => ds.length < sizeLine ∧ c (ds ++ [r.d])) k.nx))
  first | rfl | (simp only [ih_e _ _, kD_eq, setK_eq, takeQ_eq, peekQ_eq, itemQ_eq, isLQ_eq, putQ_eq, popQ_eq, asgQ_eq, stQ_eq, setAllQ_eq, wipeQ_eq, unQ_eq, plainQ_eq, cstQ_eq, datsQ_eq, agsQ_eq, putMsQ_eq, cmpQ_eq, b1Q_eq, slotO_eq, suQ_eq]; done) | (simp only [ih_e _ _, kD_eq, setK_eq, takeQ_eq, peekQ_eq, itemQ_eq, isLQ_eq, putQ_eq, popQ_eq, asgQ_eq, stQ_eq, setAllQ_eq, wipeQ_eq, unQ_eq, plainQ_eq, cstQ_eq, datsQ_eq, agsQ_eq, putMsQ_eq, cmpQ_eq, b1Q_eq, slotO_eq, suQ_eq]; rfl) | (simp only [ih_e _ _, kD_eq, setK_eq, takeQ_eq, peekQ_eq, itemQ_eq, isLQ_eq, putQ_eq, popQ_eq, asgQ_eq, stQ_eq, setAllQ_eq, wipeQ_eq, unQ_eq, plainQ_eq, cstQ_eq, datsQ_eq, agsQ_eq, putMsQ_eq, cmpQ_eq, b1Q_eq, slotO_eq, suQ_eq]; split <;> first | rfl | simp)
theorem wq_ext {i : Nat} {e : N} (ih_e : WQ F C e) : WQ F C (.ext i e) := by
  intro env k
  show (isLQ env i <| wpq0 F C e env (kD k.x fun r env1 => lstW r fun es => putQ env1 i (fun ds c => sz (ds.length + es.length) ∧ c (ds ++ es)) k.nx)) = (isL env i <| wp F C e env (kE k.x fun r env1 => lstW r.d fun es => putL env1 i (fun ds c => sz (ds.length + es.length) ∧ c (ds ++ es)) k.nx))
  first | rfl | (simp only [ih_e _ _, kD_eq, setK_eq, takeQ_eq, peekQ_eq, itemQ_eq, isLQ_eq, putQ_eq, popQ_eq, asgQ_eq, stQ_eq, setAllQ_eq, wipeQ_eq, unQ_eq, plainQ_eq, cstQ_eq, datsQ_eq, agsQ_eq, putMsQ_eq, cmpQ_eq, b1Q_eq, slotO_eq, suQ_eq]; done) | (simp only [ih_e _ _, kD_eq, setK_eq, takeQ_eq, peekQ_eq, itemQ_eq, isLQ_eq, putQ_eq, popQ_eq, asgQ_eq, stQ_eq, setAllQ_eq, wipeQ_eq, unQ_eq, plainQ_eq, cstQ_eq, datsQ_eq, agsQ_eq, putMsQ_eq, cmpQ_eq, b1Q_eq, slotO_eq, suQ_eq]; rfl) | (simp only [ih_e _ _, kD_eq, setK_eq, takeQ_eq, peekQ_eq, itemQ_eq, isLQ_eq, putQ_eq, popQ_eq, asgQ_eq, stQ_eq, setAllQ_eq, wipeQ_eq, unQ_eq, plainQ_eq, cstQ_eq, datsQ_eq, agsQ_eq, putMsQ_eq, cmpQ_eq, b1Q_eq, slotO_eq, suQ_eq]; split <;> first | rfl | simp)
theorem wq_ins {i : Nat} {b : N} {e : N} (ih_b : WQ F C b) (ih_e : WQ F C e) : WQ F C (.ins i b e) := by
  intro env k
  show (isLQ env i <| wpq0 F C b env (kD k.x fun rb env1 => intW rb fun z => wpq0 F C e env1 (kD k.x fun r env2 => putQ env2 i (fun ds c => ds.length < sizeLine ∧ 0 ≤ z ∧ z < 2 ^ 63 ∧ c (ds.take z.toNat ++ [r] ++ ds.drop z.toNat)) k.nx))) = (isL env i <| wp F C b env (kE k.x fun rb env1 => intW rb.d fun z => wp F C e env1 (kE k.x fun r env2 => putL env2 i (fun ds c => ds.length < sizeLine ∧ 0 ≤ z ∧ z < 2 ^ 63 ∧ c (ds.take z.toNat ++ [r.d] ++ ds.drop z.toNat)) k.nx)))
  first | rfl | (simp only [ih_b _ _, ih_e _ _, kD_eq, setK_eq, takeQ_eq, peekQ_eq, itemQ_eq, isLQ_eq, putQ_eq, popQ_eq, asgQ_eq, stQ_eq, setAllQ_eq, wipeQ_eq, unQ_eq, plainQ_eq, cstQ_eq, datsQ_eq, agsQ_eq, putMsQ_eq, cmpQ_eq, b1Q_eq, slotO_eq, suQ_eq]; done) | (simp only [ih_b _ _, ih_e _ _, kD_eq, setK_eq, takeQ_eq, peekQ_eq, itemQ_eq, isLQ_eq, putQ_eq, popQ_eq, asgQ_eq, stQ_eq, setAllQ_eq, wipeQ_eq, unQ_eq, plainQ_eq, cstQ_eq, datsQ_eq, agsQ_eq, putMsQ_eq, cmpQ_eq, b1Q_eq, slotO_eq, suQ_eq]; rfl) | (simp only [ih_b _ _, ih_e _ _, kD_eq, setK_eq, takeQ_eq, peekQ_eq, itemQ_eq, isLQ_eq, putQ_eq, popQ_eq, asgQ_eq, stQ_eq, setAllQ_eq, wipeQ_eq, unQ_eq, plainQ_eq, cstQ_eq, datsQ_eq, agsQ_eq, putMsQ_eq, cmpQ_eq, b1Q_eq, slotO_eq, suQ_eq]; split <;> first | rfl | simp)
theorem wq_setc {is : List Nat} {e : N} (ih_e : WQ F C e) : WQ F C (.setc is e) := by
  intro env k
  show (wpq0 F C e env (kD k.x fun r env1 => setAllQ env1 is (.dat r) k.nx)) = (wp F C e env (kE k.x fun r env1 => k.nx (setAll env1 is (.dat r.d))))
  first | rfl | (simp only [ih_e _ _, kD_eq, setK_eq, takeQ_eq, peekQ_eq, itemQ_eq, isLQ_eq, putQ_eq, popQ_eq, asgQ_eq, stQ_eq, setAllQ_eq, wipeQ_eq, unQ_eq, plainQ_eq, cstQ_eq, datsQ_eq, agsQ_eq, putMsQ_eq, cmpQ_eq, b1Q_eq, slotO_eq, suQ_eq]; done) | (simp only [ih_e _ _, kD_eq, setK_eq, takeQ_eq, peekQ_eq, itemQ_eq, isLQ_eq, putQ_eq, popQ_eq, asgQ_eq, stQ_eq, setAllQ_eq, wipeQ_eq, unQ_eq, plainQ_eq, cstQ_eq, datsQ_eq, agsQ_eq, putMsQ_eq, cmpQ_eq, b1Q_eq, slotO_eq, suQ_eq]; rfl) | (simp only [ih_e _ _, kD_eq, setK_eq, takeQ_eq, peekQ_eq, itemQ_eq, isLQ_eq, putQ_eq, popQ_eq, asgQ_eq, stQ_eq, setAllQ_eq, wipeQ_eq, unQ_eq, plainQ_eq, cstQ_eq, datsQ_eq, agsQ_eq, putMsQ_eq, cmpQ_eq, b1Q_eq, slotO_eq, suQ_eq]; split <;> first | rfl | simp)
theorem wq_ret {e : N} (ih_e : WQ F C e) : WQ F C (.ret e) := by
  intro env k
  show (wpq0 F C e env (kE k.x fun r env1 => k.rt r env1)) = (wp F C e env (kE k.x fun r env1 => k.rt r env1))
  first | rfl | (simp only [ih_e _ _, kD_eq, setK_eq, takeQ_eq, peekQ_eq, itemQ_eq, isLQ_eq, putQ_eq, popQ_eq, asgQ_eq, stQ_eq, setAllQ_eq, wipeQ_eq, unQ_eq, plainQ_eq, cstQ_eq, datsQ_eq, agsQ_eq, putMsQ_eq, cmpQ_eq, b1Q_eq, slotO_eq, suQ_eq]; done) | (simp only [ih_e _ _, kD_eq, setK_eq, takeQ_eq, peekQ_eq, itemQ_eq, isLQ_eq, putQ_eq, popQ_eq, asgQ_eq, stQ_eq, setAllQ_eq, wipeQ_eq, unQ_eq, plainQ_eq, cstQ_eq, datsQ_eq, agsQ_eq, putMsQ_eq, cmpQ_eq, b1Q_eq, slotO_eq, suQ_eq]; rfl) | (simp only [ih_e _ _, kD_eq, setK_eq, takeQ_eq, peekQ_eq, itemQ_eq, isLQ_eq, putQ_eq, popQ_eq, asgQ_eq, stQ_eq, setAllQ_eq, wipeQ_eq, unQ_eq, plainQ_eq, cstQ_eq, datsQ_eq, agsQ_eq, putMsQ_eq, cmpQ_eq, b1Q_eq, slotO_eq, suQ_eq]; split <;> first | rfl | simp)
theorem wq_retn   : WQ F C (.retn ) := by
  intro env k
  show (k.rt (.dat .none) env) = (k.rt (.dat .none) env)
  first | rfl | (simp only [kD_eq, setK_eq, takeQ_eq, peekQ_eq, itemQ_eq, isLQ_eq, putQ_eq, popQ_eq, asgQ_eq, stQ_eq, setAllQ_eq, wipeQ_eq, unQ_eq, plainQ_eq, cstQ_eq, datsQ_eq, agsQ_eq, putMsQ_eq, cmpQ_eq, b1Q_eq, slotO_eq, suQ_eq]; done) | (simp only [kD_eq, setK_eq, takeQ_eq, peekQ_eq, itemQ_eq, isLQ_eq, putQ_eq, popQ_eq, asgQ_eq, stQ_eq, setAllQ_eq, wipeQ_eq, unQ_eq, plainQ_eq, cstQ_eq, datsQ_eq, agsQ_eq, putMsQ_eq, cmpQ_eq, b1Q_eq, slotO_eq, suQ_eq]; rfl) | (simp only [kD_eq, setK_eq, takeQ_eq, peekQ_eq, itemQ_eq, isLQ_eq, putQ_eq, popQ_eq, asgQ_eq, stQ_eq, setAllQ_eq, wipeQ_eq, unQ_eq, plainQ_eq, cstQ_eq, datsQ_eq, agsQ_eq, putMsQ_eq, cmpQ_eq, b1Q_eq, slotO_eq, suQ_eq]; split <;> first | rfl | simp)
theorem wq_retv {i : Nat}  : WQ F C (.retv i) := by
  intro env k
  show (match slotO env i with
    | some (.own ds) => setK env i .no (k.rt (.own ds))
    | some (.dat d) => k.rt (.dat d) env
    | _ => False) = (match env[i]? with
    | some (.own ds) => k.rt (.own ds) (env.set i .no)
    | some (.dat d) => k.rt (.dat d) env
    | _ => False)
  first | rfl | (simp only [kD_eq, setK_eq, takeQ_eq, peekQ_eq, itemQ_eq, isLQ_eq, putQ_eq, popQ_eq, asgQ_eq, stQ_eq, setAllQ_eq, wipeQ_eq, unQ_eq, plainQ_eq, cstQ_eq, datsQ_eq, agsQ_eq, putMsQ_eq, cmpQ_eq, b1Q_eq, slotO_eq, suQ_eq]; done) | (simp only [kD_eq, setK_eq, takeQ_eq, peekQ_eq, itemQ_eq, isLQ_eq, putQ_eq, popQ_eq, asgQ_eq, stQ_eq, setAllQ_eq, wipeQ_eq, unQ_eq, plainQ_eq, cstQ_eq, datsQ_eq, agsQ_eq, putMsQ_eq, cmpQ_eq, b1Q_eq, slotO_eq, suQ_eq]; rfl) | (simp only [kD_eq, setK_eq, takeQ_eq, peekQ_eq, itemQ_eq, isLQ_eq, putQ_eq, popQ_eq, asgQ_eq, stQ_eq, setAllQ_eq, wipeQ_eq, unQ_eq, plainQ_eq, cstQ_eq, datsQ_eq, agsQ_eq, putMsQ_eq, cmpQ_eq, b1Q_eq, slotO_eq, suQ_eq]; split <;> first | rfl | simp)
theorem wq_ifs {t : N} {a : N} {b : N} (ih_t : WQ F C t) (ih_a : WQ F C a) (ih_b : WQ F C b) : WQ F C (.ifs t a b) := by
  intro env k
  show (wpq0 F C t env (kT k.x fun c env1 => bothW c (wpq0 F C a env1 k) (wpq0 F C b env1 k))) = (wp F C t env (kT k.x fun c env1 => bothW c (wp F C a env1 k) (wp F C b env1 k)))
  first | rfl | (simp only [ih_t _ _, ih_a _ _, ih_b _ _, kD_eq, setK_eq, takeQ_eq, peekQ_eq, itemQ_eq, isLQ_eq, putQ_eq, popQ_eq, asgQ_eq, stQ_eq, setAllQ_eq, wipeQ_eq, unQ_eq, plainQ_eq, cstQ_eq, datsQ_eq, agsQ_eq, putMsQ_eq, cmpQ_eq, b1Q_eq, slotO_eq, suQ_eq]; done) | (simp only [ih_t _ _, ih_a _ _, ih_b _ _, kD_eq, setK_eq, takeQ_eq, peekQ_eq, itemQ_eq, isLQ_eq, putQ_eq, popQ_eq, asgQ_eq, stQ_eq, setAllQ_eq, wipeQ_eq, unQ_eq, plainQ_eq, cstQ_eq, datsQ_eq, agsQ_eq, putMsQ_eq, cmpQ_eq, b1Q_eq, slotO_eq, suQ_eq]; rfl) | (simp only [ih_t _ _, ih_a _ _, ih_b _ _, kD_eq, setK_eq, takeQ_eq, peekQ_eq, itemQ_eq, isLQ_eq, putQ_eq, popQ_eq, asgQ_eq, stQ_eq, setAllQ_eq, wipeQ_eq, unQ_eq, plainQ_eq, cstQ_eq, datsQ_eq, agsQ_eq, putMsQ_eq, cmpQ_eq, b1Q_eq, slotO_eq, suQ_eq]; split <;> first | rfl | simp)
theorem wq_forr {x : Tg} {it : N} {b : N} (ih_it : WQ F C it) (ih_b : WQ F C b) : WQ F C (.forr x it b) := by
  intro env k
  show (wpq0 F C it env (kI k.x fun ds env1 => forW (fun d env2 c => asgQ x d env2 fun env3 => wpq0 F C b env3 (k.lp c k.nx)) k.nx ds env1)) = (wp F C it env (kI k.x fun ds env1 => forW (fun d env2 c => asgW x d env2 fun env3 => wp F C b env3 (k.lp c k.nx)) k.nx ds env1))
  first | rfl | (simp only [ih_it _ _, ih_b _ _, kD_eq, setK_eq, takeQ_eq, peekQ_eq, itemQ_eq, isLQ_eq, putQ_eq, popQ_eq, asgQ_eq, stQ_eq, setAllQ_eq, wipeQ_eq, unQ_eq, plainQ_eq, cstQ_eq, datsQ_eq, agsQ_eq, putMsQ_eq, cmpQ_eq, b1Q_eq, slotO_eq, suQ_eq]; done) | (simp only [ih_it _ _, ih_b _ _, kD_eq, setK_eq, takeQ_eq, peekQ_eq, itemQ_eq, isLQ_eq, putQ_eq, popQ_eq, asgQ_eq, stQ_eq, setAllQ_eq, wipeQ_eq, unQ_eq, plainQ_eq, cstQ_eq, datsQ_eq, agsQ_eq, putMsQ_eq, cmpQ_eq, b1Q_eq, slotO_eq, suQ_eq]; rfl) | (simp only [ih_it _ _, ih_b _ _, kD_eq, setK_eq, takeQ_eq, peekQ_eq, itemQ_eq, isLQ_eq, putQ_eq, popQ_eq, asgQ_eq, stQ_eq, setAllQ_eq, wipeQ_eq, unQ_eq, plainQ_eq, cstQ_eq, datsQ_eq, agsQ_eq, putMsQ_eq, cmpQ_eq, b1Q_eq, slotO_eq, suQ_eq]; split <;> first | rfl | simp)
theorem wq_whl {t : N} {b : N} (ih_t : WQ F C t) (ih_b : WQ F C b) : WQ F C (.whl t b) := by
  intro env k
  show (∃ (I : Ev → Prop) (μ : Ev → Nat), I env ∧ ∀ env1, I env1 → wpq0 F C t env1 (kT k.x fun c env2 => bothW c (wpq0 F C b env2 (k.lp (fun e => I e ∧ μ e < μ env1) k.nx)) (k.nx env2))) = (∃ (I : Ev → Prop) (μ : Ev → Nat), I env ∧ ∀ env1, I env1 → wp F C t env1 (kT k.x fun c env2 => bothW c (wp F C b env2 (k.lp (fun e => I e ∧ μ e < μ env1) k.nx)) (k.nx env2)))
  first | rfl | (simp only [ih_t _ _, ih_b _ _, kD_eq, setK_eq, takeQ_eq, peekQ_eq, itemQ_eq, isLQ_eq, putQ_eq, popQ_eq, asgQ_eq, stQ_eq, setAllQ_eq, wipeQ_eq, unQ_eq, plainQ_eq, cstQ_eq, datsQ_eq, agsQ_eq, putMsQ_eq, cmpQ_eq, b1Q_eq, slotO_eq, suQ_eq]; done) | (simp only [ih_t _ _, ih_b _ _, kD_eq, setK_eq, takeQ_eq, peekQ_eq, itemQ_eq, isLQ_eq, putQ_eq, popQ_eq, asgQ_eq, stQ_eq, setAllQ_eq, wipeQ_eq, unQ_eq, plainQ_eq, cstQ_eq, datsQ_eq, agsQ_eq, putMsQ_eq, cmpQ_eq, b1Q_eq, slotO_eq, suQ_eq]; rfl) | (simp only [ih_t _ _, ih_b _ _, kD_eq, setK_eq, takeQ_eq, peekQ_eq, itemQ_eq, isLQ_eq, putQ_eq, popQ_eq, asgQ_eq, stQ_eq, setAllQ_eq, wipeQ_eq, unQ_eq, plainQ_eq, cstQ_eq, datsQ_eq, agsQ_eq, putMsQ_eq, cmpQ_eq, b1Q_eq, slotO_eq, suQ_eq]; split <;> first | rfl | simp)
theorem wq_brk   : WQ F C (.brk ) := by
  intro env k
  show (k.bk env) = (k.bk env)
  first | rfl | (simp only [kD_eq, setK_eq, takeQ_eq, peekQ_eq, itemQ_eq, isLQ_eq, putQ_eq, popQ_eq, asgQ_eq, stQ_eq, setAllQ_eq, wipeQ_eq, unQ_eq, plainQ_eq, cstQ_eq, datsQ_eq, agsQ_eq, putMsQ_eq, cmpQ_eq, b1Q_eq, slotO_eq, suQ_eq]; done) | (simp only [kD_eq, setK_eq, takeQ_eq, peekQ_eq, itemQ_eq, isLQ_eq, putQ_eq, popQ_eq, asgQ_eq, stQ_eq, setAllQ_eq, wipeQ_eq, unQ_eq, plainQ_eq, cstQ_eq, datsQ_eq, agsQ_eq, putMsQ_eq, cmpQ_eq, b1Q_eq, slotO_eq, suQ_eq]; rfl) | (simp only [kD_eq, setK_eq, takeQ_eq, peekQ_eq, itemQ_eq, isLQ_eq, putQ_eq, popQ_eq, asgQ_eq, stQ_eq, setAllQ_eq, wipeQ_eq, unQ_eq, plainQ_eq, cstQ_eq, datsQ_eq, agsQ_eq, putMsQ_eq, cmpQ_eq, b1Q_eq, slotO_eq, suQ_eq]; split <;> first | rfl | simp)
theorem wq_ctn   : WQ F C (.ctn ) := by
  intro env k
  show (k.ct env) = (k.ct env)
  first | rfl | (simp only [kD_eq, setK_eq, takeQ_eq, peekQ_eq, itemQ_eq, isLQ_eq, putQ_eq, popQ_eq, asgQ_eq, stQ_eq, setAllQ_eq, wipeQ_eq, unQ_eq, plainQ_eq, cstQ_eq, datsQ_eq, agsQ_eq, putMsQ_eq, cmpQ_eq, b1Q_eq, slotO_eq, suQ_eq]; done) | (simp only [kD_eq, setK_eq, takeQ_eq, peekQ_eq, itemQ_eq, isLQ_eq, putQ_eq, popQ_eq, asgQ_eq, stQ_eq, setAllQ_eq, wipeQ_eq, unQ_eq, plainQ_eq, cstQ_eq, datsQ_eq, agsQ_eq, putMsQ_eq, cmpQ_eq, b1Q_eq, slotO_eq, suQ_eq]; rfl) | (simp only [kD_eq, setK_eq, takeQ_eq, peekQ_eq, itemQ_eq, isLQ_eq, putQ_eq, popQ_eq, asgQ_eq, stQ_eq, setAllQ_eq, wipeQ_eq, unQ_eq, plainQ_eq, cstQ_eq, datsQ_eq, agsQ_eq, putMsQ_eq, cmpQ_eq, b1Q_eq, slotO_eq, suQ_eq]; split <;> first | rfl | simp)
theorem wq_pas   : WQ F C (.pas ) := by
  intro env k
  show (k.nx env) = (k.nx env)
  first | rfl | (simp only [kD_eq, setK_eq, takeQ_eq, peekQ_eq, itemQ_eq, isLQ_eq, putQ_eq, popQ_eq, asgQ_eq, stQ_eq, setAllQ_eq, wipeQ_eq, unQ_eq, plainQ_eq, cstQ_eq, datsQ_eq, agsQ_eq, putMsQ_eq, cmpQ_eq, b1Q_eq, slotO_eq, suQ_eq]; done) | (simp only [kD_eq, setK_eq, takeQ_eq, peekQ_eq, itemQ_eq, isLQ_eq, putQ_eq, popQ_eq, asgQ_eq, stQ_eq, setAllQ_eq, wipeQ_eq, unQ_eq, plainQ_eq, cstQ_eq, datsQ_eq, agsQ_eq, putMsQ_eq, cmpQ_eq, b1Q_eq, slotO_eq, suQ_eq]; rfl) | (simp only [kD_eq, setK_eq, takeQ_eq, peekQ_eq, itemQ_eq, isLQ_eq, putQ_eq, popQ_eq, asgQ_eq, stQ_eq, setAllQ_eq, wipeQ_eq, unQ_eq, plainQ_eq, cstQ_eq, datsQ_eq, agsQ_eq, putMsQ_eq, cmpQ_eq, b1Q_eq, slotO_eq, suQ_eq]; split <;> first | rfl | simp)
theorem wq_rai {c : Nat} {w : Str} {e : N} (ih_e : WQ F C e) : WQ F C (.rai c w e) := by
  intro env k
  show (wpq0 F C e env (kD k.x fun r env1 => k.x ⟨c, w, r⟩ env1)) = (wp F C e env (kE k.x fun r env1 => k.x ⟨c, w, r.d⟩ env1))
  first | rfl | (simp only [ih_e _ _, kD_eq, setK_eq, takeQ_eq, peekQ_eq, itemQ_eq, isLQ_eq, putQ_eq, popQ_eq, asgQ_eq, stQ_eq, setAllQ_eq, wipeQ_eq, unQ_eq, plainQ_eq, cstQ_eq, datsQ_eq, agsQ_eq, putMsQ_eq, cmpQ_eq, b1Q_eq, slotO_eq, suQ_eq]; done) | (simp only [ih_e _ _, kD_eq, setK_eq, takeQ_eq, peekQ_eq, itemQ_eq, isLQ_eq, putQ_eq, popQ_eq, asgQ_eq, stQ_eq, setAllQ_eq, wipeQ_eq, unQ_eq, plainQ_eq, cstQ_eq, datsQ_eq, agsQ_eq, putMsQ_eq, cmpQ_eq, b1Q_eq, slotO_eq, suQ_eq]; rfl) | (simp only [ih_e _ _, kD_eq, setK_eq, takeQ_eq, peekQ_eq, itemQ_eq, isLQ_eq, putQ_eq, popQ_eq, asgQ_eq, stQ_eq, setAllQ_eq, wipeQ_eq, unQ_eq, plainQ_eq, cstQ_eq, datsQ_eq, agsQ_eq, putMsQ_eq, cmpQ_eq, b1Q_eq, slotO_eq, suQ_eq]; split <;> first | rfl | simp)
theorem wq_rai0 {c : Nat} {w : Str}  : WQ F C (.rai0 c w) := by
  intro env k
  show (k.x ⟨c, w, .none⟩ env) = (k.x ⟨c, w, .none⟩ env)
  first | rfl | (simp only [kD_eq, setK_eq, takeQ_eq, peekQ_eq, itemQ_eq, isLQ_eq, putQ_eq, popQ_eq, asgQ_eq, stQ_eq, setAllQ_eq, wipeQ_eq, unQ_eq, plainQ_eq, cstQ_eq, datsQ_eq, agsQ_eq, putMsQ_eq, cmpQ_eq, b1Q_eq, slotO_eq, suQ_eq]; done) | (simp only [kD_eq, setK_eq, takeQ_eq, peekQ_eq, itemQ_eq, isLQ_eq, putQ_eq, popQ_eq, asgQ_eq, stQ_eq, setAllQ_eq, wipeQ_eq, unQ_eq, plainQ_eq, cstQ_eq, datsQ_eq, agsQ_eq, putMsQ_eq, cmpQ_eq, b1Q_eq, slotO_eq, suQ_eq]; rfl) | (simp only [kD_eq, setK_eq, takeQ_eq, peekQ_eq, itemQ_eq, isLQ_eq, putQ_eq, popQ_eq, asgQ_eq, stQ_eq, setAllQ_eq, wipeQ_eq, unQ_eq, plainQ_eq, cstQ_eq, datsQ_eq, agsQ_eq, putMsQ_eq, cmpQ_eq, b1Q_eq, slotO_eq, suQ_eq]; split <;> first | rfl | simp)
theorem wq_tryx {i : Nat} {ts : List Nat} {b : N} {s : N} (ih_b : WQ F C b) (ih_s : WQ F C s) : WQ F C (.tryx i ts b s) := by
  intro env k
  show (wpq0 F C b env (k.ox fun e env1 => match ts.contains e.cls with
    | true => setK env1 i (.exc e) fun env2 => wpq0 F C s env2 (k.suQ i)
    | false => k.x e env1)) = (wp F C b env (k.ox fun e env1 => match ts.contains e.cls with
    | true => wp F C s (env1.set i (.exc e)) (k.su i)
    | false => k.x e env1))
  first | rfl | (simp only [ih_b _ _, ih_s _ _, kD_eq, setK_eq, takeQ_eq, peekQ_eq, itemQ_eq, isLQ_eq, putQ_eq, popQ_eq, asgQ_eq, stQ_eq, setAllQ_eq, wipeQ_eq, unQ_eq, plainQ_eq, cstQ_eq, datsQ_eq, agsQ_eq, putMsQ_eq, cmpQ_eq, b1Q_eq, slotO_eq, suQ_eq]; done) | (simp only [ih_b _ _, ih_s _ _, kD_eq, setK_eq, takeQ_eq, peekQ_eq, itemQ_eq, isLQ_eq, putQ_eq, popQ_eq, asgQ_eq, stQ_eq, setAllQ_eq, wipeQ_eq, unQ_eq, plainQ_eq, cstQ_eq, datsQ_eq, agsQ_eq, putMsQ_eq, cmpQ_eq, b1Q_eq, slotO_eq, suQ_eq]; rfl) | (simp only [ih_b _ _, ih_s _ _, kD_eq, setK_eq, takeQ_eq, peekQ_eq, itemQ_eq, isLQ_eq, putQ_eq, popQ_eq, asgQ_eq, stQ_eq, setAllQ_eq, wipeQ_eq, unQ_eq, plainQ_eq, cstQ_eq, datsQ_eq, agsQ_eq, putMsQ_eq, cmpQ_eq, b1Q_eq, slotO_eq, suQ_eq]; split <;> first | rfl | simp)
theorem wq_try2 {i : Nat} {ts : List Nat} {b : N} {s : N} {us : List Nat} {g : N} (ih_b : WQ F C b) (ih_s : WQ F C s) (ih_g : WQ F C g) : WQ F C (.try2 i ts b s us g) := by
  intro env k
  show (wpq0 F C b env (k.ox fun e env1 => match ts.contains e.cls with
    | true => setK env1 i (.exc e) fun env2 => wpq0 F C s env2 (k.suQ i)
    | false => match us.contains e.cls with
      | true => setK env1 i (.exc e) fun env2 => wpq0 F C g env2 (k.suQ i)
      | false => k.x e env1)) = (wp F C b env (k.ox fun e env1 => match ts.contains e.cls with
    | true => wp F C s (env1.set i (.exc e)) (k.su i)
    | false => match us.contains e.cls with
      | true => wp F C g (env1.set i (.exc e)) (k.su i)
      | false => k.x e env1))
  first | rfl | (simp only [ih_b _ _, ih_s _ _, ih_g _ _, kD_eq, setK_eq, takeQ_eq, peekQ_eq, itemQ_eq, isLQ_eq, putQ_eq, popQ_eq, asgQ_eq, stQ_eq, setAllQ_eq, wipeQ_eq, unQ_eq, plainQ_eq, cstQ_eq, datsQ_eq, agsQ_eq, putMsQ_eq, cmpQ_eq, b1Q_eq, slotO_eq, suQ_eq]; done) | (simp only [ih_b _ _, ih_s _ _, ih_g _ _, kD_eq, setK_eq, takeQ_eq, peekQ_eq, itemQ_eq, isLQ_eq, putQ_eq, popQ_eq, asgQ_eq, stQ_eq, setAllQ_eq, wipeQ_eq, unQ_eq, plainQ_eq, cstQ_eq, datsQ_eq, agsQ_eq, putMsQ_eq, cmpQ_eq, b1Q_eq, slotO_eq, suQ_eq]; rfl) | (simp only [ih_b _ _, ih_s _ _, ih_g _ _, kD_eq, setK_eq, takeQ_eq, peekQ_eq, itemQ_eq, isLQ_eq, putQ_eq, popQ_eq, asgQ_eq, stQ_eq, setAllQ_eq, wipeQ_eq, unQ_eq, plainQ_eq, cstQ_eq, datsQ_eq, agsQ_eq, putMsQ_eq, cmpQ_eq, b1Q_eq, slotO_eq, suQ_eq]; split <;> first | rfl | simp)
theorem wq_done   : WQ F C (.done ) := by
  intro env k
  show (k.nx env) = (k.nx env)
  first | rfl | (simp only [kD_eq, setK_eq, takeQ_eq, peekQ_eq, itemQ_eq, isLQ_eq, putQ_eq, popQ_eq, asgQ_eq, stQ_eq, setAllQ_eq, wipeQ_eq, unQ_eq, plainQ_eq, cstQ_eq, datsQ_eq, agsQ_eq, putMsQ_eq, cmpQ_eq, b1Q_eq, slotO_eq, suQ_eq]; done) | (simp only [kD_eq, setK_eq, takeQ_eq, peekQ_eq, itemQ_eq, isLQ_eq, putQ_eq, popQ_eq, asgQ_eq, stQ_eq, setAllQ_eq, wipeQ_eq, unQ_eq, plainQ_eq, cstQ_eq, datsQ_eq, agsQ_eq, putMsQ_eq, cmpQ_eq, b1Q_eq, slotO_eq, suQ_eq]; rfl) | (simp only [kD_eq, setK_eq, takeQ_eq, peekQ_eq, itemQ_eq, isLQ_eq, putQ_eq, popQ_eq, asgQ_eq, stQ_eq, setAllQ_eq, wipeQ_eq, unQ_eq, plainQ_eq, cstQ_eq, datsQ_eq, agsQ_eq, putMsQ_eq, cmpQ_eq, b1Q_eq, slotO_eq, suQ_eq]; split <;> first | rfl | simp)
theorem wq_seq {s : N} {r : N} (ih_s : WQ F C s) (ih_r : WQ F C r) : WQ F C (.seq s r) := by
  intro env k
  show (wpq0 F C s env (k.on fun env1 => wpq0 F C r env1 k)) = (wp F C s env (k.on fun env1 => wp F C r env1 k))
  first | rfl | (simp only [ih_s _ _, ih_r _ _, kD_eq, setK_eq, takeQ_eq, peekQ_eq, itemQ_eq, isLQ_eq, putQ_eq, popQ_eq, asgQ_eq, stQ_eq, setAllQ_eq, wipeQ_eq, unQ_eq, plainQ_eq, cstQ_eq, datsQ_eq, agsQ_eq, putMsQ_eq, cmpQ_eq, b1Q_eq, slotO_eq, suQ_eq]; done) | (simp only [ih_s _ _, ih_r _ _, kD_eq, setK_eq, takeQ_eq, peekQ_eq, itemQ_eq, isLQ_eq, putQ_eq, popQ_eq, asgQ_eq, stQ_eq, setAllQ_eq, wipeQ_eq, unQ_eq, plainQ_eq, cstQ_eq, datsQ_eq, agsQ_eq, putMsQ_eq, cmpQ_eq, b1Q_eq, slotO_eq, suQ_eq]; rfl) | (simp only [ih_s _ _, ih_r _ _, kD_eq, setK_eq, takeQ_eq, peekQ_eq, itemQ_eq, isLQ_eq, putQ_eq, popQ_eq, asgQ_eq, stQ_eq, setAllQ_eq, wipeQ_eq, unQ_eq, plainQ_eq, cstQ_eq, datsQ_eq, agsQ_eq, putMsQ_eq, cmpQ_eq, b1Q_eq, slotO_eq, suQ_eq]; split <;> first | rfl | simp)
theorem wpq0_eq : ∀ n : N, WQ F C n := by
  intro n
  induction n with
  | v i => exact wq_v 
  | g x => exact wq_g 
  | c d => exact wq_c 
  | bin o a b ih_a ih_b => exact wq_bin ih_a ih_b
  | neg a ih_a => exact wq_neg ih_a
  | cmp o a b ih_a ih_b => exact wq_cmp ih_a ih_b
  | chain o o' a b c ih_a ih_b ih_c => exact wq_chain ih_a ih_b ih_c
  | nott a ih_a => exact wq_nott ih_a
  | andd a b ih_a ih_b => exact wq_andd ih_a ih_b
  | orr a b ih_a ih_b => exact wq_orr ih_a ih_b
  | one a ih_a => exact wq_one ih_a
  | ite t a b ih_t ih_a ih_b => exact wq_ite ih_t ih_a ih_b
  | call f as ih_as => exact wq_call ih_as
  | b1 f a ih_a => exact wq_b1 ih_a
  | b2 f a b ih_a ih_b => exact wq_b2 ih_a ih_b
  | isi a ts ih_a => exact wq_isi ih_a
  | ix a b ih_a ih_b => exact wq_ix ih_a ih_b
  | sl a lo hi ih_a ih_lo ih_hi => exact wq_sl ih_a ih_lo ih_hi
  | rv a ih_a => exact wq_rv ih_a
  | tup es ih_es => exact wq_tup ih_es
  | lst es ih_es => exact wq_lst ih_es
  | lc own x it cs e ih_it ih_cs ih_e => exact wq_lc ih_it ih_cs ih_e
  | slc i own x it cs e ih_it ih_cs ih_e => exact wq_slc ih_it ih_cs ih_e
  | pop i => exact wq_pop 
  | popAt i a ih_a => exact wq_popAt ih_a
  | lib f a b ih_a ih_b => exact wq_lib ih_a ih_b
  | m1 m a b ih_a ih_b => exact wq_m1 ih_a ih_b
  | lix a b ih_a ih_b => exact wq_lix ih_a ih_b
  | callD f as ds ih_as => exact wq_callD ih_as
  | xw i => exact wq_xw 
  | xp i => exact wq_xp 
  | xi i nm ts => exact wq_xi 
  | nil  => exact wq_nil 
  | sno  => exact wq_sno 
  | sat e ih_e => exact wq_sat ih_e
  | cons a r ih_a ih_r => exact wq_cons ih_a ih_r
  | consM i r ih_r => exact wq_consM ih_r
  | tcmp o a b ih_a ih_b => exact wq_tcmp ih_a ih_b
  | tchain o o' a b c ih_a ih_b ih_c => exact wq_tchain ih_a ih_b ih_c
  | tnot a ih_a => exact wq_tnot ih_a
  | tand a b ih_a ih_b => exact wq_tand ih_a ih_b
  | tor a b ih_a ih_b => exact wq_tor ih_a ih_b
  | tone a ih_a => exact wq_tone ih_a
  | tyes  => exact wq_tyes 
  | tval a ih_a => exact wq_tval ih_a
  | itl a ih_a => exact wq_itl ih_a
  | iten a ih_a => exact wq_iten ih_a
  | itz a b ih_a ih_b => exact wq_itz ih_a ih_b
  | itr1 a ih_a => exact wq_itr1 ih_a
  | itr2 a b ih_a ih_b => exact wq_itr2 ih_a ih_b
  | set i e ih_e => exact wq_set ih_e
  | unp is e ih_e => exact wq_unp ih_e
  | seti i b e ih_b ih_e => exact wq_seti ih_b ih_e
  | aug i o e ih_e => exact wq_aug ih_e
  | augi i o b e ih_b ih_e => exact wq_augi ih_b ih_e
  | ex e ih_e => exact wq_ex ih_e
  | app i e ih_e => exact wq_app ih_e
  | ext i e ih_e => exact wq_ext ih_e
  | ins i b e ih_b ih_e => exact wq_ins ih_b ih_e
  | setc is e ih_e => exact wq_setc ih_e
  | ret e ih_e => exact wq_ret ih_e
  | retn  => exact wq_retn 
  | retv i => exact wq_retv 
  | ifs t a b ih_t ih_a ih_b => exact wq_ifs ih_t ih_a ih_b
  | forr x it b ih_it ih_b => exact wq_forr ih_it ih_b
  | whl t b ih_t ih_b => exact wq_whl ih_t ih_b
  | brk  => exact wq_brk 
  | ctn  => exact wq_ctn 
  | pas  => exact wq_pas 
  | rai c w e ih_e => exact wq_rai ih_e
  | rai0 c w => exact wq_rai0 
  | tryx i ts b s ih_b ih_s => exact wq_tryx ih_b ih_s
  | try2 i ts b s us g ih_b ih_s ih_g => exact wq_try2 ih_b ih_s ih_g
  | done  => exact wq_done 
  | seq s r ih_s ih_r => exact wq_seq ih_s ih_r
end
theorem stepQ_eq (F : Fs) (C : Nat → Option PyData) (n : N) (env : Ev) (k : K) : wpq0 F C n env k = stepQ F C (wpq0 F C) n env k := by
  cases n <;> rfl
theorem wpq_ex : ∃ g : Fs → (Nat → Option PyData) → N → Ev → K → Prop, g = wpq0 := ⟨_, rfl⟩
@[irreducible] noncomputable def wpq : Fs → (Nat → Option PyData) → N → Ev → K → Prop := Classical.choose wpq_ex
theorem wpq_is : wpq = wpq0 := by
  unfold wpq
  exact Classical.choose_spec wpq_ex
theorem wpq_eq {F : Fs} {C : Nat → Option PyData} (n : N) (env : Ev) (k : K) : wpq F C n env k = wp F C n env k := by
  rw [wpq_is]
  exact wpq0_eq n env k
theorem wpq_of {F : Fs} {C : Nat → Option PyData} {n : N} {env : Ev} {k : K} (h : stepQ F C (wpq F C) n env k) : wpq F C n env k := by
  rw [wpq_is] at h ⊢
  rw [stepQ_eq]
  exact h
theorem wpq_mono {F : Fs} {C : Nat → Option PyData} (hF : FMono F) (n : N) (env : Ev) (k k' : K) (h : KLe k k') (z : wpq F C n env k) : wpq F C n env k' := by
  rw [wpq_eq] at z ⊢
  exact wp_mono hF n env k k' h z
def bodyQ (F : Fs) (C : Nat → Option PyData) (P : Fn) (ags : List Ag) (Q : R → List (List PyData) → Prop) (x : Xc → Prop) : Prop :=
  startQ P.locals 0 ags fun env => wpq F C P.body env (kB (fun env => mutQ env 0 0 P.ps (Q (.dat .none))) (fun r env => mutQ env 0 0 P.ps (Q r)) x)
theorem bodyQ_eq (F : Fs) (C : Nat → Option PyData) (P : Fn) (ags : List Ag) (Q : R → List (List PyData) → Prop) (x : Xc → Prop) : bodyQ F C P ags Q x = wp F C P.body (startE P.locals 0 ags)
    (kB (fun env => retW env P.ps (Q (.dat .none))) (fun r env => retW env P.ps (Q r)) x) := by
  unfold bodyQ
  simp only [startQ_eq, wpq_eq P.body _ _, mutQ_eq]
  rfl
theorem Γ_body {T : List Fn} {C : Nat → Option PyData} {n f : Nat} {ags : List Ag} {Q : R → List (List PyData) → Prop} {x : Xc → Prop} {P : Fn} (h : T[f]? = some P) (hp : ags.map Ag.isM = P.ps) (q : bodyQ (Γ T C n) C P ags Q x) : Γ T C (n + 1) f ags Q x :=
  Γ_succ h ⟨hp, by rw [← bodyQ_eq]; exact q⟩
end Pi

/-! Rules for reading a term: loops, comprehensions, items. -/
namespace Pi
open PySem L2
theorem both_of {b : Bool} {p q : Prop} (h1 : b = true → p) (h2 : b = false → q) : bothW b p q := by
  cases b
  · exact h2 rfl
  · exact h1 rfl
theorem bodyW_mono {F F' : Fs} {C : Nat → Option PyData} (hF : FMono F) {P : Fn} {ags : List Ag} {Q Q' : R → List (List PyData) → Prop} {x x' : Xc → Prop} (h : ∀ r ms, Q r ms → Q' r ms) (hx : ∀ e, x e → x' e) : bodyW F C P ags Q x → bodyW F C P ags Q' x' := by
  have rw : ∀ {r : R} {env : Ev}, retW env P.ps (Q r) → retW env P.ps (Q' r) := fun {r env} => by
    unfold retW
    split
    · exact h _ _
    · exact fun z => z
  exact and_r (wp_mono hF _ _ _ _ (kB_le hx (fun _ => rw) fun _ _ => rw))
theorem Γ_mono {T : List Fn} {C : Nat → Option PyData} : ∀ {n : Nat}, FMono (Γ T C n) := by
  intro n
  induction n with
  | zero =>
    intro f ags Q Q' x x' h hx z
    rw [Γ_eq] at z
    exact z.elim
  | succ n ih =>
    intro f ags Q Q' x x' h hx z
    rw [Γ_eq] at z
    obtain ⟨P, h1, z⟩ := z
    rw [← Γ_eq] at z
    exact Γ_succ h1 (bodyW_mono (F' := Γ T C n) ih h hx z)
theorem kE_to {x : Xc → Ev → Prop} {e : R → Ev → Prop} {k : K} (hx : ∀ z env, x z env → k.x z env) (h : ∀ r env, e r env → k.e r env) : KLe (kE x e) k := ⟨h, fun _ _ (z : False) => z.elim, fun _ _ (z : False) => z.elim, fun _ _ (z : False) => z.elim, fun _ (z : False) => z.elim, fun _ (z : False) => z.elim, fun _ (z : False) => z.elim, fun _ _ (z : False) => z.elim, hx⟩
theorem kT_to {x : Xc → Ev → Prop} {e : Bool → Ev → Prop} {k : K} (hx : ∀ z env, x z env → k.x z env) (h : ∀ r env, e r env → k.t r env) : KLe (kT x e) k := ⟨fun _ _ (z : False) => z.elim, fun _ _ (z : False) => z.elim, h, fun _ _ (z : False) => z.elim, fun _ (z : False) => z.elim, fun _ (z : False) => z.elim, fun _ (z : False) => z.elim, fun _ _ (z : False) => z.elim, hx⟩
theorem kD_le {x x' : Xc → Ev → Prop} {e e' : PyData → Ev → Prop} (hx : ∀ z env, x z env → x' z env) (h : ∀ r env, e r env → e' r env) : KLe (kD x e) (kD x' e') := by
  rw [kD_eq, kD_eq]
  exact kE_le hx fun r env => h _ _
theorem cmpQ_mono {o : CO} {a b : PyData} {c c' : Bool → Prop} (h : ∀ r, c r → c' r) : cmpQ o a b c → cmpQ o a b c' := by
  rw [cmpQ_eq, cmpQ_eq]
  exact cmpW_mono h
/-- behind an if, both ways go on as one -/
theorem if_join {F : Fs} {C : Nat → Option PyData} {b : Bool} {A B : N} {env : Ev} {k : K} {r : Ev → Prop} (hF : FMono F) (M : Ev → Prop) (hA : b = true → wpq F C A env (k.on M)) (hB : b = false → wpq F C B env (k.on M)) (hr : ∀ e, M e → r e) :
    bothW b (wpq F C A env (k.on r)) (wpq F C B env (k.on r)) :=
  both_of (fun e => wpq_mono hF _ _ _ _ (on_le (KLe.refl k) hr) (hA e)) fun e => wpq_mono hF _ _ _ _ (on_le (KLe.refl k) hr) (hB e)
/-- a and b, as one value -/
theorem and_join {F : Fs} {C : Nat → Option PyData} {b : Bool} {A : N} {env : Ev} {k : K} (hF : FMono F) (p : PyData) (hA : b = true → wpq F C A env (kE k.x fun r e => r = .dat p ∧ e = env)) (hB : b = false → p = .bool false) (h : k.e (.dat p) env) :
    bothW b (wpq F C A env k) (k.e (.dat (.bool false)) env) := by
  refine both_of (fun e => wpq_mono hF _ _ _ _ (kE_to (fun _ _ z => z) fun r e z => ?_) (hA e)) fun e => ?_
  · obtain ⟨rfl, rfl⟩ := z
    exact h
  · rw [hB e] at h
    exact h
/-- a or b, as one value -/
theorem or_join {F : Fs} {C : Nat → Option PyData} {b : Bool} {A : N} {env : Ev} {k : K} (hF : FMono F) (p : PyData) (hA : b = false → wpq F C A env (kE k.x fun r e => r = .dat p ∧ e = env)) (hB : b = true → p = .bool true) (h : k.e (.dat p) env) :
    bothW b (k.e (.dat (.bool true)) env) (wpq F C A env k) := by
  refine both_of (fun e => ?_) (fun e => wpq_mono hF _ _ _ _ (kE_to (fun _ _ z => z) fun r e z => ?_) (hA e))
  · rw [hB e] at h
    exact h
  · obtain ⟨rfl, rfl⟩ := z
    exact h
/-- a < b < c, as one value -/
theorem chain_join {F : Fs} {C : Nat → Option PyData} {b : Bool} {A : N} {env : Ev} {k : K} {o : CO} {d : PyData} (hF : FMono F) (p : Bool) (hA : b = true → wpq F C A env (kD k.x fun r e => cmpQ o d r fun u => u = p ∧ e = env)) (hB : b = false → p = false) (h : k.e (.dat (.bool p)) env) :
    bothW b (wpq F C A env (kD k.x fun r e => cmpQ o d r fun u => k.e (.dat (.bool u)) e)) (k.e (.dat (.bool false)) env) := by
  refine both_of (fun e => wpq_mono hF _ _ _ _ (kD_le (fun _ _ z => z) fun r e => cmpQ_mono fun u z => ?_) (hA e)) fun e => ?_
  · obtain ⟨rfl, rfl⟩ := z
    exact h
  · rw [hB e] at h
    exact h
/-- the same of tests -/
theorem tand_join {F : Fs} {C : Nat → Option PyData} {b : Bool} {A : N} {env : Ev} {k : K} (hF : FMono F) (p : Bool) (hA : b = true → wpq F C A env (kT k.x fun r e => r = p ∧ e = env)) (hB : b = false → p = false) (h : k.t p env) :
    bothW b (wpq F C A env k) (k.t false env) := by
  refine both_of (fun e => wpq_mono hF _ _ _ _ (kT_to (fun _ _ z => z) fun r e z => ?_) (hA e)) fun e => ?_
  · obtain ⟨rfl, rfl⟩ := z
    exact h
  · rw [hB e] at h
    exact h
theorem tor_join {F : Fs} {C : Nat → Option PyData} {b : Bool} {A : N} {env : Ev} {k : K} (hF : FMono F) (p : Bool) (hA : b = false → wpq F C A env (kT k.x fun r e => r = p ∧ e = env)) (hB : b = true → p = true) (h : k.t p env) :
    bothW b (k.t true env) (wpq F C A env k) := by
  refine both_of (fun e => ?_) (fun e => wpq_mono hF _ _ _ _ (kT_to (fun _ _ z => z) fun r e z => ?_) (hA e))
  · rw [hB e] at h
    exact h
  · obtain ⟨rfl, rfl⟩ := z
    exact h
theorem tchain_join {F : Fs} {C : Nat → Option PyData} {b : Bool} {A : N} {env : Ev} {k : K} {o : CO} {d : PyData} (hF : FMono F) (p : Bool) (hA : b = true → wpq F C A env (kD k.x fun r e => cmpQ o d r fun u => u = p ∧ e = env)) (hB : b = false → p = false) (h : k.t p env) :
    bothW b (wpq F C A env (kD k.x fun r e => cmpQ o d r fun u => k.t u e)) (k.t false env) := by
  refine both_of (fun e => wpq_mono hF _ _ _ _ (kD_le (fun _ _ z => z) fun r e => cmpQ_mono fun u z => ?_) (hA e)) fun e => ?_
  · obtain ⟨rfl, rfl⟩ := z
    exact h
  · rw [hB e] at h
    exact h
/-- of two ways, one value -/
theorem val_join {F : Fs} {C : Nat → Option PyData} {b : Bool} {A B : N} {env : Ev} {k : K} (hF : FMono F) (p : PyData) (hA : b = true → wpq F C A env (kE k.x fun r e => r = .dat p ∧ e = env)) (hB : b = false → wpq F C B env (kE k.x fun r e => r = .dat p ∧ e = env)) (h : k.e (.dat p) env) :
    bothW b (wpq F C A env k) (wpq F C B env k) := by
  refine both_of (fun e => wpq_mono hF _ _ _ _ (kE_to (fun _ _ z => z) fun r e z => ?_) (hA e)) fun e => wpq_mono hF _ _ _ _ (kE_to (fun _ _ z => z) fun r e z => ?_) (hB e)
  · obtain ⟨rfl, rfl⟩ := z
    exact h
  · obtain ⟨rfl, rfl⟩ := z
    exact h
theorem dec_t {p : Prop} [Decidable p] (h : decide p = true) : p := of_decide_eq_true h
theorem dec_f {p : Prop} [Decidable p] (h : decide p = false) : ¬ p := of_decide_eq_false h
theorem ndec_t {p : Prop} [Decidable p] (h : (!decide p) = true) : ¬ p := by simpa using h
theorem ndec_f {p : Prop} [Decidable p] (h : (!decide p) = false) : p := by simpa using h
theorem forW_inv {step : PyData → Ev → (Ev → Prop) → Prop} {nx : Ev → Prop} (I : Nat → Ev → Prop) : ∀ (ds : List PyData) (j : Nat) (env : Ev), I j env →
    (∀ i d env c, ds[i]? = some d → I (j + i) env → (∀ env', I (j + i + 1) env' → c env') → step d env c) → (∀ env, I (j + ds.length) env → nx env) → forW step nx ds env
  | [], j, env, h0, hs, hn => hn env h0
  | d :: ds, j, env, h0, hs, hn => by
    refine hs 0 d env _ rfl h0 fun env' h1 => forW_inv I ds (j + 1) env' h1 (fun i d' env c e q z => ?_) (fun env q => hn env ?_)
    · exact hs (i + 1) d' env c (by simpa using e) (by rw [show j + (i + 1) = j + 1 + i by omega]; exact q) (by rw [show j + (i + 1) + 1 = j + 1 + i + 1 by omega]; exact z)
    · rw [show j + (d :: ds).length = j + 1 + ds.length by rw [List.length_cons]; omega]; exact q
/-- a loop whose turns keep what I tells of the turn's number -/
theorem for_inv {step : PyData → Ev → (Ev → Prop) → Prop} {nx : Ev → Prop} (I : Nat → Ev → Prop) {ds : List PyData} {env : Ev} (h0 : I 0 env)
    (hs : ∀ i d env c, ds[i]? = some d → I i env → (∀ env', I (i + 1) env' → c env') → step d env c) (hn : ∀ env, I ds.length env → nx env) : forW step nx ds env :=
  forW_inv I ds 0 env h0 (fun i d env c e q z => hs i d env c e (by rw [Nat.zero_add] at q; exact q) (by rw [Nat.zero_add] at z; exact z)) fun env q => hn env (by rw [Nat.zero_add] at q; exact q)
/-- a comprehension of a pure function -/
theorem lc_map {step : PyData → Ev → (Option PyData → Ev → Prop) → Prop} {nx : List PyData → Ev → Prop} {f : PyData → PyData} {env : Ev} : ∀ {ds acc : List PyData}, (∀ (i : Nat) d c, ds[i]? = some d → c (some (f d)) env → step d env c) →
    acc.length + ds.length ≤ sizeLine → nx (acc ++ ds.map f) env → lcW step nx ds acc env
  | [], acc, _, _, h => (List.append_nil acc) ▸ h
  | d :: ds, acc, hs, hl, h => by
    rw [List.length_cons] at hl
    refine hs 0 d _ rfl ⟨by omega, ?_⟩
    refine lc_map (fun i d' c e z => hs (i + 1) d' c (by simpa using e) z) (by rw [List.length_append, List.length_singleton]; omega) ?_
    rw [List.append_assoc]
    exact h
/-- a comprehension over a row of parts -/
theorem lc_mapG {α : Type} {step : PyData → Ev → (Option PyData → Ev → Prop) → Prop} {nx : List PyData → Ev → Prop} {g f : α → PyData} {env : Ev} : ∀ {l : List α} {acc : List PyData}, (∀ (i : Nat) a c, l[i]? = some a → c (some (f a)) env → step (g a) env c) →
    acc.length + l.length ≤ sizeLine → nx (acc ++ l.map f) env → lcW step nx (l.map g) acc env
  | [], acc, _, _, h => (List.append_nil acc) ▸ h
  | d :: l, acc, hs, hl, h => by
    rw [List.length_cons] at hl
    refine hs 0 d _ rfl ⟨by omega, ?_⟩
    refine lc_mapG (l := l) (g := g) (f := f) (fun i d' c e z => hs (i + 1) d' c (by simpa using e) z) (by rw [List.length_append, List.length_singleton]; omega) ?_
    rw [List.append_assoc]
    exact h
/-- the same with a test -/
theorem lc_filterG {α : Type} {step : PyData → Ev → (Option PyData → Ev → Prop) → Prop} {nx : List PyData → Ev → Prop} {g : α → PyData} {f : α → Option PyData} {env : Ev} : ∀ {l : List α} {acc : List PyData}, (∀ (i : Nat) a c, l[i]? = some a → c (f a) env → step (g a) env c) →
    acc.length + l.length ≤ sizeLine → nx (acc ++ l.filterMap f) env → lcW step nx (l.map g) acc env
  | [], acc, _, _, h => (List.append_nil acc) ▸ h
  | d :: l, acc, hs, hl, h => by
    rw [List.length_cons] at hl
    refine hs 0 d _ rfl ?_
    cases e : f d with
    | none =>
      refine lc_filterG (l := l) (g := g) (f := f) (fun i d' c e z => hs (i + 1) d' c (by simpa using e) z) (by omega) ?_
      rw [List.filterMap_cons_none e] at h
      exact h
    | some y =>
      refine ⟨by omega, ?_⟩
      refine lc_filterG (l := l) (g := g) (f := f) (fun i d' c e z => hs (i + 1) d' c (by simpa using e) z) (by rw [List.length_append, List.length_singleton]; omega) ?_
      rw [List.filterMap_cons_some e] at h
      rw [List.append_assoc]
      exact h
theorem zipD_map {α β : Type} {f : α → PyData} {g : β → PyData} : ∀ {l : List α} {m : List β}, zipD (l.map f) (m.map g) = (l.zip m).map fun p => .tuple [f p.1, g p.2]
  | [], m => by simp [zipD]
  | a :: l, [] => by simp [zipD]
  | a :: l, b :: m => by
    show PyData.tuple [f a, g b] :: zipD (l.map f) (m.map g) = _
    rw [zipD_map]
    rfl
theorem zipD_mapR {β : Type} {g : β → PyData} : ∀ {l : List PyData} {m : List β}, zipD l (m.map g) = (l.zip m).map fun p => .tuple [p.1, g p.2]
  | [], m => by simp [zipD]
  | a :: l, [] => by simp [zipD]
  | a :: l, b :: m => by
    show PyData.tuple [a, g b] :: zipD l (m.map g) = _
    rw [zipD_mapR]
    rfl
/-- a comprehension whose turns keep what I tells of the row so far -/
theorem lc_invA {step : PyData → Ev → (Option PyData → Ev → Prop) → Prop} {nx : List PyData → Ev → Prop} (I : List PyData → Ev → Prop) : ∀ (ds acc : List PyData) (env : Ev), I acc env →
    (∀ (i : Nat) d acc env c, ds[i]? = some d → I acc env → (∀ y env', I (acc ++ [y]) env' → c (some y) env') → step d env c) → acc.length + ds.length ≤ sizeLine → (∀ acc' env, I acc' env → acc'.length = acc.length + ds.length → nx acc' env) → lcW step nx ds acc env
  | [], acc, env, h0, hs, hl, hn => hn acc env h0 (by rw [List.length_nil]; omega)
  | d :: ds, acc, env, h0, hs, hl, hn => by
    rw [List.length_cons] at hl
    refine hs 0 d acc env _ rfl h0 fun y env' h1 => ⟨by omega, ?_⟩
    refine lc_invA I ds (acc ++ [y]) env' h1 (fun i d' acc env c e => hs (i + 1) d' acc env c (by simpa using e)) (by rw [List.length_append, List.length_singleton]; omega) fun acc' env q e => hn acc' env q ?_
    rw [e, List.length_append, List.length_singleton, List.length_cons]
    omega
theorem lc_inv {step : PyData → Ev → (Option PyData → Ev → Prop) → Prop} {nx : List PyData → Ev → Prop} (I : List PyData → Ev → Prop) {ds : List PyData} {env : Ev} (h0 : I [] env)
    (hs : ∀ (i : Nat) d acc env c, ds[i]? = some d → I acc env → (∀ y env', I (acc ++ [y]) env' → c (some y) env') → step d env c) (hl : ds.length ≤ sizeLine) (hn : ∀ acc env, I acc env → acc.length = ds.length → nx acc env) : lcW step nx ds [] env :=
  lc_invA I ds [] env h0 hs (by rw [List.length_nil]; omega) fun acc env q e => hn acc env q (by rw [e, List.length_nil]; omega)
/-- the same, knowing the turn's number -/
theorem lc_invI {step : PyData → Ev → (Option PyData → Ev → Prop) → Prop} {nx : List PyData → Ev → Prop} (I : Nat → List PyData → Ev → Prop) {ds : List PyData} {env : Ev} (h0 : I 0 [] env)
    (hs : ∀ (i : Nat) d acc env c, ds[i]? = some d → I i acc env → (∀ y env', I (i + 1) (acc ++ [y]) env' → c (some y) env') → step d env c) (hl : ds.length ≤ sizeLine) (hn : ∀ acc env, I ds.length acc env → nx acc env) : lcW step nx ds [] env := by
  have key : ∀ (es acc : List PyData) (j : Nat) (env : Ev), ds = ds.take j ++ es → j + es.length = ds.length → acc.length = j → I j acc env → lcW step nx es acc env := by
    intro es
    induction es with
    | nil =>
      intro acc j env e1 e2 e3 h
      rw [List.length_nil, Nat.add_zero] at e2
      subst e2
      exact hn acc env h
    | cons d es ih =>
      intro acc j env e1 e2 e3 h
      rw [List.length_cons] at e2
      have hj : ds[j]? = some d := by
        rw [e1, List.getElem?_append_right (by rw [List.length_take]; omega), List.length_take, Nat.min_eq_left (by omega), Nat.sub_self]
        rfl
      refine hs j d acc env _ hj h fun y env' h' => ⟨by omega, ?_⟩
      refine ih (acc ++ [y]) (j + 1) env' ?_ (by omega) (by rw [List.length_append, List.length_singleton, e3]) h'
      rw [List.take_add_one, hj, List.append_assoc]
      exact e1
  exact key ds [] 0 env (by rw [List.take_zero]; rfl) (by omega) rfl h0
/-- a comprehension over a row of parts that may change names -/
theorem lc_mapS {α : Type} {step : PyData → Ev → (Option PyData → Ev → Prop) → Prop} {nx : List PyData → Ev → Prop} {g : α → PyData} (I : Ev → Prop) (f : α → PyData) {l : List α} {env : Ev} (h0 : I env)
    (hs : ∀ (i : Nat) a env c, l[i]? = some a → I env → (∀ env', I env' → c (some (f a)) env') → step (g a) env c) (hl : l.length ≤ sizeLine) (hn : ∀ env, I env → nx (l.map f) env) : lcW step nx (l.map g) [] env := by
  refine lc_invI (fun i acc env => acc = (l.take i).map f ∧ I env) ⟨rfl, h0⟩ (fun i d acc env c hd hI hc => ?_) (by rw [List.length_map]; exact hl) fun acc env hI => ?_
  · rw [List.getElem?_map, Option.map_eq_some_iff] at hd
    obtain ⟨a, ha, rfl⟩ := hd
    refine hs i a env c ha hI.2 fun env' h' => hc _ env' ⟨?_, h'⟩
    rw [hI.1, List.take_add_one, ha, List.map_append]
    rfl
  · have := hI.1
    rw [List.length_map, List.take_length] at this
    rw [this]
    exact hn env hI.2
/-- a comprehension with a test -/
theorem lc_filter {step : PyData → Ev → (Option PyData → Ev → Prop) → Prop} {nx : List PyData → Ev → Prop} {f : PyData → Option PyData} {env : Ev} : ∀ {ds acc : List PyData}, (∀ (i : Nat) d c, ds[i]? = some d → c (f d) env → step d env c) →
    acc.length + ds.length ≤ sizeLine → nx (acc ++ ds.filterMap f) env → lcW step nx ds acc env
  | [], acc, _, _, h => (List.append_nil acc) ▸ h
  | d :: ds, acc, hs, hl, h => by
    rw [List.length_cons] at hl
    refine hs 0 d _ rfl ?_
    cases e : f d with
    | none =>
      refine lc_filter (fun i d' c e z => hs (i + 1) d' c (by simpa using e) z) (by omega) ?_
      rw [List.filterMap_cons_none e] at h
      exact h
    | some y =>
      refine ⟨by omega, ?_⟩
      refine lc_filter (fun i d' c e z => hs (i + 1) d' c (by simpa using e) z) (by rw [List.length_append, List.length_singleton]; omega) ?_
      rw [List.filterMap_cons_some e] at h
      rw [List.append_assoc]
      exact h
theorem sl_ok {k : Nat} (h : k ≤ 16000000) : k ≤ sizeLine := Nat.le_trans h (by decide)
theorem sl_lt {k : Nat} (h : k < 16000000) : k < sizeLine := Nat.lt_of_lt_of_le h (by decide)
theorem range_succ {lo : Int} {n : Nat} : rangeD lo (n + 1) = .int lo :: rangeD (lo + 1) n := by
  unfold rangeD
  rw [List.range_succ_eq_map, List.map_cons, List.map_map]
  refine congr (congrArg _ (by simp)) (List.map_congr_left fun i _ => ?_)
  simp only [Function.comp]
  rw [show lo + ((i.succ : Nat) : Int) = lo + 1 + (i : Int) by omega]
theorem range_len {lo : Int} {n : Nat} : (rangeD lo n).length = n := by unfold rangeD; simp
theorem range_get {lo : Int} {n i : Nat} {d : PyData} (h : (rangeD lo n)[i]? = some d) : i < n ∧ d = .int (lo + i) := by
  have hi : i < n := by
    have := (List.getElem?_eq_some_iff.mp h).1
    rwa [range_len] at this
  unfold rangeD at h
  rw [List.getElem?_map, List.getElem?_range hi] at h
  cases h
  exact ⟨hi, rfl⟩
theorem ixN_nat {n k : Nat} (h : k < n) : ixN n (k : Int) = some k := by
  unfold ixN

  simp
  omega
theorem atI_nat {α : Type} {ds : List α} {k : Nat} {d : α} (h : ds[k]? = some d) : atI ds (k : Int) = some d := by
  have hk := (List.getElem?_eq_some_iff.mp h).1
  unfold atI
  rw [ixN_nat hk]
  exact h
theorem atI_int {α : Type} {ds : List α} {i : Int} {d : α} (h0 : 0 ≤ i) (h : ds[i.toNat]? = some d) : atI ds i = some d := by
  have := atI_nat h
  rwa [Int.toNat_of_nonneg h0] at this
theorem atI_map {ns : List Int} {i : Int} (h0 : 0 ≤ i) (h : i < ns.length) : atI (ns.map PyData.int) i = some (.int (ns.getD i.toNat 0)) := by
  refine atI_int h0 ?_
  rw [List.getElem?_map, List.getD_eq_getElem?_getD, List.getElem?_eq_getElem (show i.toNat < ns.length by omega)]
  rfl
theorem atI_some {ds : List PyData} {i : Int} (h0 : 0 ≤ i) (h : i < ds.length) : ∃ d, ds[i.toNat]? = some d ∧ atI ds i = some d :=
  ⟨_, List.getElem?_eq_getElem (show i.toNat < ds.length by omega), atI_int h0 (List.getElem?_eq_getElem _)⟩
theorem mul_r {i j : Int} (h1 : -18446744073709551616 < j) (h2 : j < 18446744073709551616) : MulOk i j := .inl (.inr ⟨h1, h2⟩)
theorem mul_l {i j : Int} (h1 : -18446744073709551616 < i) (h2 : i < 18446744073709551616) : MulOk i j := .inl (.inl ⟨h1, h2⟩)
theorem div_s {i j : Int} (h1 : 0 < j) (h2 : j < 1073741824) : DivOk i j := .inl ⟨h1, h2⟩
theorem pow_s {i j : Int} (h1 : 0 ≤ j) (h2 : j ≤ 1000000) (h3 : i.natAbs < 18446744073709551616) : CPow i j := ⟨h1, h2, h3⟩
theorem str_app (a b : Str) : (a ++ b).cps = a.cps ++ b.cps := rfl
theorem join_chars : ∀ cs : List Nat, Txt.join ⟨#[]⟩ (cs.map fun c => (⟨#[c]⟩ : Str)) = ⟨cs.toArray⟩ := by
  intro cs
  rw [TL.join_eq]
  have key : ∀ cs : List Nat, (Str.join ⟨#[]⟩ (cs.map fun c => (⟨#[c]⟩ : Str))).cps = cs.toArray := by
    intro cs
    induction cs with
    | nil => rfl
    | cons a t ih =>
      cases t with
      | nil => rfl
      | cons b t =>
        show (_ ++ _ ++ _ : Str).cps = _
        rw [str_app, str_app]
        rw [show Str.join ⟨#[]⟩ (List.map (fun c => (⟨#[c]⟩ : Str)) (b :: t)) = Str.join ⟨#[]⟩ (List.map (fun c => (⟨#[c]⟩ : Str)) (b :: t)) from rfl] at ih
        erw [ih]
        simp
  have := key cs
  generalize Str.join ⟨#[]⟩ (cs.map fun c => (⟨#[c]⟩ : Str)) = z at this
  cases z
  simp at this
  rw [this]
theorem cut_take {ds : List PyData} {i : Int} (h : 0 ≤ i) : cutD ds none (some i) = ds.take i.toNat := by
  unfold cutD
  have e : HT.sIx ds.length 0 none = 0 := rfl
  rw [e]
  obtain ⟨k, rfl⟩ := Int.eq_ofNat_of_zero_le h
  rw [show HT.sIx ds.length ds.length (some ((k : Nat) : Int)) = min k ds.length from HT.sIx_nat _ _ _]
  simp [List.take_eq_take_iff]
theorem cut_drop {ds : List PyData} {i : Int} (h : 0 ≤ i) : cutD ds (some i) none = ds.drop i.toNat := by
  unfold cutD
  obtain ⟨k, rfl⟩ := Int.eq_ofNat_of_zero_le h
  rw [show HT.sIx ds.length 0 (some ((k : Nat) : Int)) = min k ds.length from HT.sIx_nat _ _ _, show HT.sIx ds.length ds.length none = ds.length from rfl]
  by_cases hk : k ≤ ds.length
  · rw [Nat.min_eq_left hk]
    simp [List.take_of_length_le]
  · rw [Nat.min_eq_right (by omega), List.drop_of_length_le (Nat.le_refl _), List.drop_of_length_le (by simp; omega)]
    simp
theorem cut_mid {ds : List PyData} {i j : Int} (h : 0 ≤ i) (h2 : i ≤ j) : cutD ds (some i) (some j) = (ds.drop i.toNat).take (j - i).toNat := by
  unfold cutD
  obtain ⟨k, rfl⟩ := Int.eq_ofNat_of_zero_le h
  obtain ⟨l, rfl⟩ := Int.eq_ofNat_of_zero_le (Int.le_trans h h2)
  rw [show HT.sIx ds.length 0 (some ((k : Nat) : Int)) = min k ds.length from HT.sIx_nat _ _ _, show HT.sIx ds.length ds.length (some ((l : Nat) : Int)) = min l ds.length from HT.sIx_nat _ _ _]
  have h2 : k ≤ l := by omega
  by_cases hk : k ≤ ds.length
  · rw [Nat.min_eq_left hk, show ((l : Int) - (k : Int)).toNat = l - k by omega]
    simp [List.take_eq_take_iff]
    omega
  · have e1 : List.drop (min k ds.length) ds = [] := List.drop_of_length_le (by omega)
    have e2 : List.drop (k : Int).toNat ds = [] := List.drop_of_length_le (by omega)
    rw [e1, e2]
    simp
theorem ixN_int {n : Nat} {i : Int} (h0 : 0 ≤ i) (h : i < n) : ixN n i = some i.toNat := by
  unfold ixN
  rw [if_pos h0, if_pos h]
end Pi

/-! Facts on plain data: what can be compared, what can be shown, items by number. -/
namespace Pi
open PySem L2
/-- can be compared -/
structure Sh (d : PyData) (n : Nat) : Prop where
  c : d.canLay0 = true
  h : d.depth ≤ n
theorem Sh.ok {d : PyData} {n : Nat} (s : Sh d n) (hn : n ≤ 64) : SeqAt.shaped d = true := by
  unfold SeqAt.shaped
  rw [s.c, Bool.true_and]
  exact decide_eq_true (Nat.le_trans s.h hn)
theorem Sh.int (i : Int) : Sh (.int i) 0 := ⟨rfl, Nat.le_refl 0⟩
theorem Sh.bool (i : Bool) : Sh (.bool i) 0 := ⟨rfl, Nat.le_refl 0⟩
theorem Sh.none : Sh .none 0 := ⟨rfl, Nat.le_refl 0⟩
theorem sh_all {n : Nat} : ∀ {ds : List PyData}, (∀ d ∈ ds, Sh d n) → PyData.canLayAll0 ds = true ∧ PyData.depthAll ds ≤ n
  | [], _ => ⟨rfl, Nat.zero_le _⟩
  | d :: ds, h => by
    obtain ⟨h1, h2⟩ := sh_all fun x hx => h x (.tail _ hx)
    have h3 := h d (.head _)
    refine ⟨?_, ?_⟩
    · rw [PyData.canLayAll0, h3.c, h1]; rfl
    · rw [PyData.depthAll]
      exact Nat.max_le.mpr ⟨h3.h, h2⟩
theorem Sh.list {n : Nat} {ds : List PyData} (h : ∀ d ∈ ds, Sh d n) : Sh (.list ds) (n + 1) := by
  obtain ⟨h1, h2⟩ := sh_all h
  exact ⟨by rw [PyData.canLay0]; exact h1, by rw [PyData.depth]; exact Nat.succ_le_succ h2⟩
theorem Sh.tuple {n : Nat} {ds : List PyData} (h : ∀ d ∈ ds, Sh d n) : Sh (.tuple ds) (n + 1) := by
  obtain ⟨h1, h2⟩ := sh_all h
  exact ⟨by rw [PyData.canLay0]; exact h1, by rw [PyData.depth]; exact Nat.succ_le_succ h2⟩
theorem Sh.ints (ns : List Int) : Sh (.list (ns.map PyData.int)) 1 := Sh.list fun d hd => by
  obtain ⟨i, _, rfl⟩ := List.mem_map.mp hd
  exact .int i
theorem Sh.bools (ns : List Bool) : Sh (.list (ns.map PyData.bool)) 1 := Sh.list fun d hd => by
  obtain ⟨i, _, rfl⟩ := List.mem_map.mp hd
  exact .bool i
theorem eqv_self {d : PyData} {n : Nat} (s : Sh d n) : PyData.eqv d d = true := SeqAt.eqv_refl d s.c
theorem eqQ_of {x y : PyData} {n m : Nat} {b : Bool} {k : Bool → Prop} (sx : Sh x n) (hn : n ≤ 64) (sy : Sh y m) (hm : m ≤ 64) (e : PyData.eqv x y = b) (h : k b) : eqQ x y k := by
  unfold eqQ
  exact ⟨sx.ok hn, sy.ok hm, by rw [e]; exact h⟩
theorem eqQ_same {x y : PyData} {n : Nat} {k : Bool → Prop} (e : x = y) (s : Sh x n) (hn : n ≤ 64) (h : k true) : eqQ x y k := by
  subst e
  exact eqQ_of s hn s hn (eqv_self s) h
/-- the same, of data whose parts are all plain -/
theorem eqQ_rfl {x y : PyData} {k : Bool → Prop} (e : x = y) (c : x.canLay0 = true) (hn : Nat.ble x.depth 64 = true) (h : k true) : eqQ x y k := eqQ_same e ⟨c, Nat.le_refl _⟩ (Nat.le_of_ble_eq_true hn) h
/-- of closed data -/
theorem eqQ_cl {x y : PyData} {k : Bool → Prop} (b : Bool) (z : (SeqAt.shaped x && SeqAt.shaped y && (PyData.eqv x y == b)) = true) (h : k b) : eqQ x y k := by
  simp only [Bool.and_eq_true, beq_iff_eq] at z
  unfold eqQ
  exact ⟨z.1.1, z.1.2, by rw [z.2]; exact h⟩
theorem eqQ_to {x y : PyData} {k : Bool → Prop} (a b : PyData) (r : Bool) (hx : x = a) (hy : y = b) (z : (SeqAt.shaped a && SeqAt.shaped b && (PyData.eqv a b == r)) = true) (h : k r) : eqQ x y k := by
  subst hx hy
  exact eqQ_cl r z h
theorem inQ_of {x : PyData} {ds : List PyData} {n m : Nat} {b : Bool} {k : Bool → Prop} (sx : Sh x n) (hn : n ≤ 64) (sy : Sh (.list ds) m) (hm : m ≤ 64) (e : (ds.any fun z => PyData.eqv z x) = b) (h : k b) : inQ x ds k := by
  unfold inQ
  exact ⟨sx.ok hn, sy.ok hm, by rw [e]; exact h⟩
/-- can be shown: less than n signs, to the depth m -/
structure Rp (d : PyData) (m n : Nat) : Prop where
  s : d.showable = true
  c : d.hasDict = false
  h : d.depth ≤ m
  l : d.shown.length ≤ n
  o : PyData.strOk d.shown = true
theorem reprQ_of {d : PyData} {m n : Nat} {k : R → Prop} (r : Rp d m n) (hm : m ≤ 40) (hn : n ≤ sizeLine) (h : k (.dat (.str d.shown))) : reprQ d k := by
  unfold reprQ
  exact ⟨r.s, r.c, Nat.le_trans r.h hm, Nat.le_trans r.l hn, h⟩
/-- of closed data -/
theorem reprQ_cl {d : PyData} {k : R → Prop} (z : (d.showable && !d.hasDict && decide (d.depth ≤ 40) && decide (d.shown.length ≤ sizeLine)) = true) (h : k (.dat (.str d.shown))) : reprQ d k := by
  simp only [Bool.and_eq_true, Bool.not_eq_true', decide_eq_true_eq] at z
  unfold reprQ
  exact ⟨z.1.1.1, z.1.1.2, z.1.2, z.2, h⟩
theorem str_eqv (a b : Str) : PyData.eqv (.str a) (.str b) = (a == b) := rfl
theorem atI_mem {ds : List PyData} {i : Int} (h0 : 0 ≤ i) (h : i < ds.length) : ∃ d, d ∈ ds ∧ atI ds i = some d :=
  ⟨_, List.getElem_mem (show i.toNat < ds.length by omega), atI_int h0 (List.getElem?_eq_getElem _)⟩
def AllD (P : PyData → Prop) : List PyData → Prop
  | [] => True
  | d :: r => P d ∧ AllD P r
theorem AllD.get {P : PyData → Prop} : ∀ {ds : List PyData}, AllD P ds → ∀ d ∈ ds, P d
  | [], _, d, h => by cases h
  | x :: r, z, d, h => by
    rcases List.mem_cons.mp h with rfl | h
    · exact z.1
    · exact z.2.get d h
/-- an item of a display, by a number within it -/
theorem pick {ds : List PyData} {i : Int} {k : PyData → Prop} (P : PyData → Prop) (h0 : 0 ≤ i) (h : i < ds.length) (a : AllD P ds) (H : ∀ d, P d → k d) : ∃ d, atI ds i = some d ∧ k d := by
  obtain ⟨d, hd, e⟩ := atI_mem h0 h
  exact ⟨d, e, H d (a.get d hd)⟩
def AllI (P : Int → Prop) : List PyData → Prop
  | [] => True
  | .int i :: r => P i ∧ AllI P r
  | _ :: _ => False
theorem AllI.get {P : Int → Prop} : ∀ {ds : List PyData}, AllI P ds → ∀ d ∈ ds, ∃ i, d = .int i ∧ P i
  | [], _, d, h => by cases h
  | .int i :: r, z, d, h => by
    rcases List.mem_cons.mp h with rfl | h
    · exact ⟨i, rfl, z.1⟩
    · exact z.2.get d h
theorem pickI {ds : List PyData} {i : Int} {k : PyData → Prop} (P : Int → Prop) (h0 : 0 ≤ i) (h : i < ds.length) (a : AllI P ds) (H : ∀ z, P z → k (.int z)) : ∃ d, atI ds i = some d ∧ k d := by
  obtain ⟨d, hd, e⟩ := atI_mem h0 h
  obtain ⟨z, rfl, hz⟩ := a.get d hd
  exact ⟨_, e, H z hz⟩
/-- an item of a row of ints -/
theorem ix_map {ns : List Int} {i : Int} {k : PyData → Prop} (h0 : 0 ≤ i) (h : i < ns.length) (H : k (.int (ns.getD i.toNat 0))) : ∃ d, atI (ns.map PyData.int) i = some d ∧ k d := ⟨_, atI_map h0 h, H⟩
theorem log2_small {x n : Nat} (h : x < 2 ^ n) (hn : 0 < n) : x.log2 < n := by
  by_cases hx : x = 0
  · subst hx
    rw [Nat.log2_zero]
    exact hn
  · exact (Nat.log2_lt hx).mpr h
theorem mul_w {i j : Int} (h : i.natAbs < 2 ^ 250) (h2 : j.natAbs < 2 ^ 250) : MulOk i j := .inr (by
  have := log2_small h (by decide)
  have := log2_small h2 (by decide)
  unfold CMulW
  omega)
theorem div_w {i j : Int} (h1 : 0 < j) (h : j.natAbs < 2 ^ 250) : DivOk i j := .inr ⟨h1, by
  have := log2_small h (by decide)
  omega⟩
theorem map_get {α : Type} {f : α → PyData} {l : List α} {i : Nat} {d : PyData} (h : (l.map f)[i]? = some d) : ∃ e, l[i]? = some e ∧ d = f e := by
  rw [List.getElem?_map, Option.map_eq_some_iff] at h
  obtain ⟨e, h1, h2⟩ := h
  exact ⟨e, h1, h2.symm⟩
theorem drop_at {α : Type} {l : List α} {i : Nat} {e : α} (h : l[i]? = some e) : l.drop i = e :: l.drop (i + 1) := by
  obtain ⟨h1, h2⟩ := List.getElem?_eq_some_iff.mp h
  rw [List.drop_eq_getElem_cons h1, h2]
theorem take_at {α : Type} {l : List α} {i : Nat} {e : α} (h : l[i]? = some e) : l.take (i + 1) = l.take i ++ [e] := by
  rw [List.take_add_one, h]
  rfl
theorem mem_at {α : Type} {l : List α} {i : Nat} {e : α} (h : l[i]? = some e) : e ∈ l := List.mem_of_getElem? h
/-- a product of three, the first two small -/
theorem mul_3 {a n c : Int} (h1 : -(2 ^ 62) < a) (h2 : a < 2 ^ 62) (h3 : 0 ≤ n) (h4 : n ≤ 1000000) (h5 : c.natAbs < 2 ^ 250) : MulOk (a * n) c := by
  refine mul_w ?_ h5
  rw [Int.natAbs_mul]
  have e1 : a.natAbs ≤ 2 ^ 62 := by omega
  have e2 : n.natAbs ≤ 1000000 := by omega
  exact Nat.lt_of_le_of_lt (Nat.mul_le_mul e1 e2) (by decide)
theorem atI_last {α : Type} (l : List α) (x : α) : atI (l ++ [x]) (-1) = some x := by
  unfold atI ixN
  rw [if_neg (by decide), List.length_append, List.length_singleton]
  rw [if_pos (by omega)]
  rw [show ((-1 + ((l.length + 1 : Nat) : Int)).toNat) = l.length by omega]
  --[show ((((l.length + 1 : Nat) : Int) + -1).toNat) = l.length by omega]
  simp
theorem pick_map {α : Type} {f : α → PyData} {l : List α} {i : Int} {k : PyData → Prop} (h0 : 0 ≤ i) (h : i < (l.map f).length) (H : ∀ e ∈ l, k (f e)) : ∃ d, atI (l.map f) i = some d ∧ k d := by
  obtain ⟨d, hd, e⟩ := atI_mem h0 h
  obtain ⟨a, ha, rfl⟩ := List.mem_map.mp hd
  exact ⟨_, e, H a ha⟩
theorem sorted2 {x y : Int} {k : R → Prop} (P : Int → Prop) (hx : P x) (hy : P y) (H : ∀ a b, a ≤ b → P a → P b → k (.own [.int a, .int b])) :
    sortQ (.list [PyData.int x, PyData.int y]) k := by
  unfold sortQ
  refine ⟨[x, y], rfl, fun ns' hp hs => ?_⟩
  have hl := hp.length_eq
  have hP : ∀ z ∈ ns', P z := fun z hz => by
    have := hp.mem_iff.mp hz
    rcases List.mem_cons.mp this with rfl | h
    · exact hx
    · rw [List.mem_singleton.mp h]; exact hy
  match ns', hl with
  | [a, b], _ =>
    have h1 := (List.pairwise_cons.mp hs).1 b (.head _)
    exact H a b h1 (hP a (.head _)) (hP b (.tail _ (.head _)))
theorem min_w (i j : Int) : (if j < i then j else i) = min i j := by
  split
  · exact (Int.min_eq_right (by omega)).symm
  · exact (Int.min_eq_left (by omega)).symm
theorem max_w (i j : Int) : (if j > i then j else i) = max i j := by
  split
  · exact (Int.max_eq_right (by omega)).symm
  · exact (Int.max_eq_left (by omega)).symm
theorem max_of {ds : List PyData} {k : R → Prop} (ns : List Int) (P : Int → Prop) (e : ds = ns.map PyData.int) (hl : 0 < ns.length) (hP : ∀ n ∈ ns, P n) (H : ∀ m, P m → (∀ n ∈ ns, n ≤ m) → k (.dat (.int m))) : maxQ (.list ds) k := by
  unfold maxQ
  exact ⟨ns, e, hl, fun m hm hle => H m (hP m hm) hle⟩
theorem enum_get : ∀ {ds : List PyData} {n : Int} {i : Nat} {d : PyData}, (enumD n ds)[i]? = some d → ∃ e, ds[i]? = some e ∧ d = .tuple [.int (n + i), e]
  | [], _, _, _, h => by simp [enumD] at h
  | x :: r, n, 0, d, h => by
    simp [enumD] at h
    exact ⟨x, rfl, by rw [← h]; simp⟩
  | x :: r, n, i + 1, d, h => by
    obtain ⟨e, h1, h2⟩ := enum_get (ds := r) (n := n + 1) (i := i) (d := d) (by simpa [enumD] using h)
    exact ⟨e, by simpa using h1, by rw [h2]; congr 3; omega⟩
theorem enum_len : ∀ {ds : List PyData} {n : Int}, (enumD n ds).length = ds.length
  | [], _ => rfl
  | _ :: r, n => by unfold enumD; rw [List.length_cons, enum_len, List.length_cons]
theorem atI_any {α : Type} {l : List α} {i : Int} (h0 : -(l.length : Int) ≤ i) (h1 : i < l.length) : ∃ x, x ∈ l ∧ atI l i = some x := by
  unfold atI ixN
  by_cases h : 0 ≤ i
  · rw [if_pos h, if_pos h1]
    exact ⟨_, List.getElem_mem (show i.toNat < l.length by omega), List.getElem?_eq_getElem _⟩
  · rw [if_neg h, if_pos h0]
    exact ⟨_, List.getElem_mem (show (i + l.length).toNat < l.length by omega), List.getElem?_eq_getElem _⟩
theorem seq_0 {n : Nat} : seqIndex? 0 (n + 1) = some 0 := by
  unfold seqIndex?
  simp
theorem atI_0 {α : Type} {a : α} {l : List α} : atI (a :: l) 0 = some a := atI_nat (k := 0) rfl
theorem atI_1 {α : Type} {a b : α} {l : List α} : atI (a :: b :: l) 1 = some b := atI_nat (k := 1) rfl
theorem atI_2 {α : Type} {a b c : α} {l : List α} : atI (a :: b :: c :: l) 2 = some c := atI_nat (k := 2) rfl
theorem atI_3 {α : Type} {a b c d : α} {l : List α} : atI (a :: b :: c :: d :: l) 3 = some d := atI_nat (k := 3) rfl
theorem cutD_mem {ds : List PyData} {lo hi : Option Int} {d : PyData} (h : d ∈ cutD ds lo hi) : d ∈ ds := by
  unfold cutD at h
  exact List.mem_of_mem_drop (List.mem_of_mem_take h)
theorem cutD_len {ds : List PyData} {lo hi : Option Int} : (cutD ds lo hi).length ≤ ds.length := by
  unfold cutD
  rw [List.length_take, List.length_drop]
  omega
end Pi

/-! How long the shown text of plain data is. -/
namespace Pi
open PySem L2
theorem strOk_app {a b : Str} (ha : PyData.strOk a = true) (hb : PyData.strOk b = true) : PyData.strOk (a ++ b) = true := by
  unfold PyData.strOk at *
  show (a.cps ++ b.cps).all _ = true
  rw [Array.all_append, ha, hb]
  rfl
theorem strOk_lit (x : String) : PyData.strOk (Str.ofString x) = true := by
  unfold PyData.strOk
  rw [Str.ofString_eq_toList]
  rw [← Array.all_toList]
  simp only [List.all_map, List.all_eq_true]
  intro c _
  have : c.toNat < 0x110000 := by
    rcases c.valid with h | h
    · have h : c.val.toNat < 0xd800 := h
      show c.val.toNat < _
      omega
    · have h : c.val.toNat < 0x110000 := h.2
      exact h
  exact decide_eq_true this
theorem Rp.none : Rp .none 0 30 := ⟨rfl, rfl, Nat.le_refl 0, by decide +kernel, by decide +kernel⟩
theorem Rp.bool (b : Bool) : Rp (.bool b) 0 30 := ⟨rfl, rfl, Nat.le_refl 0, by cases b <;> decide +kernel, by cases b <;> decide +kernel⟩
theorem Rp.int {i : Int} (h : i.natAbs < 10 ^ 20) : Rp (.int i) 0 30 := by
  refine ⟨?_, rfl, Nat.le_refl 0, ?_, strOk_lit _⟩
  · show decide (i.natAbs.log2 < 1920) = true
    have := log2_small (x := i.natAbs) (n := 70) (by omega) (by decide)
    exact decide_eq_true (by omega)
  · show (Str.ofString (toString i)).length ≤ 30
    rw [PySem.ofString_length]
    have := int_text_length_le10 (a := i) (k := 20) (by decide) h
    omega
theorem Rp.mono {d : PyData} {m n m' n' : Nat} (r : Rp d m n) (hm : m ≤ m') (hn : n ≤ n') : Rp d m' n' := ⟨r.s, r.c, Nat.le_trans r.h hm, Nat.le_trans r.l hn, r.o⟩
theorem rp_all {m n : Nat} : ∀ {ds : List PyData}, (∀ d ∈ ds, Rp d m n) → PyData.showableAll ds = true ∧ PyData.hasDictAll ds = false ∧ PyData.depthAll ds ≤ m ∧ (PyData.shownAll ds).length = ds.length ∧ (∀ t ∈ PyData.shownAll ds, t.length ≤ n) ∧ ∀ t ∈ PyData.shownAll ds, PyData.strOk t = true
  | [], _ => ⟨rfl, rfl, Nat.zero_le _, rfl, (fun t h => by cases h), fun t h => by cases h⟩
  | d :: ds, h => by
    obtain ⟨h1, h2, h3, h4, h5, h6⟩ := rp_all fun x hx => h x (.tail _ hx)
    have r := h d (.head _)
    refine ⟨?_, ?_, ?_, ?_, ?_, ?_⟩
    · rw [PyData.showableAll, r.s, h1]; rfl
    · rw [PyData.hasDictAll, r.c, h2]; rfl
    · rw [PyData.depthAll]; exact Nat.max_le.mpr ⟨r.h, h3⟩
    · rw [PyData.shownAll, List.length_cons, h4, List.length_cons]
    · intro t ht
      rw [PyData.shownAll] at ht
      rcases List.mem_cons.mp ht with rfl | ht
      · exact r.l
      · exact h5 t ht
    · intro t ht
      rw [PyData.shownAll] at ht
      rcases List.mem_cons.mp ht with rfl | ht
      · exact r.o
      · exact h6 t ht
theorem textFrom_ok : ∀ (ts : List Str) (k : Nat) (acc : Str), PyData.strOk acc = true → (∀ t ∈ ts, PyData.strOk t = true) → PyData.strOk (textFrom k acc ts) = true
  | [], _, _, h, _ => h
  | t :: r, k, acc, h, ht => textFrom_ok r (k + 1) _ (strOk_app (strOk_app h (strOk_lit _)) (ht t (.head _))) fun x hx => ht x (.tail _ hx)
theorem join_ok : ∀ (ts : List Str), (∀ t ∈ ts, PyData.strOk t = true) → PyData.strOk (Str.join ", " ts) = true
  | [], _ => by decide +kernel
  | [x], h => h x (.head _)
  | x :: y :: r, h => strOk_app (strOk_app (h x (.head _)) (strOk_lit _)) (join_ok (y :: r) fun z hz => h z (.tail _ hz))
theorem str_len_app (a b : Str) : (a ++ b).length = a.length + b.length := Str.length_append a b
theorem textFrom_ub {n : Nat} : ∀ (ts : List Str) (k : Nat) (acc : Str), (∀ t ∈ ts, t.length ≤ n) → (textFrom k acc ts).length ≤ acc.length + ts.length * (n + 2)
  | [], k, acc, _ => by show acc.length ≤ _; omega
  | t :: r, k, acc, h => by
    have ih := textFrom_ub r (k + 1) (acc ++ (if k > 0 then ", " else "" : String) ++ t) fun x hx => h x (.tail _ hx)
    have h0 := h t (.head _)
    have e : ((if k > 0 then ", " else "" : String) : Str).length ≤ 2 := by split <;> decide +kernel
    rw [str_len_app, str_len_app] at ih
    show (textFrom (k + 1) (acc ++ (if k > 0 then ", " else "" : String) ++ t) r).length ≤ _
    rw [List.length_cons, Nat.add_mul]
    omega
theorem join_ub {n : Nat} : ∀ (ts : List Str), (∀ t ∈ ts, t.length ≤ n) → (Str.join ", " ts).length ≤ ts.length * (n + 2)
  | [], _ => Nat.zero_le _
  | [x], h => by
    have := h x (.head _)
    show x.length ≤ 1 * (n + 2)
    omega
  | x :: y :: r, h => by
    have ih := join_ub (y :: r) fun z hz => h z (.tail _ hz)
    have h0 := h x (.head _)
    show (x ++ ", " ++ Str.join ", " (y :: r)).length ≤ _
    have e2 : ((", " : String) : Str).length = 2 := rfl
    rw [str_len_app, str_len_app, e2, List.length_cons, Nat.add_mul]
    omega
theorem Rp.list {m n : Nat} {ds : List PyData} (h : ∀ d ∈ ds, Rp d m n) : Rp (.list ds) (m + 1) (ds.length * (n + 2) + 3) := by
  obtain ⟨h1, h2, h3, h4, h5, h6⟩ := rp_all h
  refine ⟨by rw [PyData.showable]; exact h1, by rw [PyData.hasDict]; exact h2, by rw [PyData.depth]; exact Nat.succ_le_succ h3, ?_, by rw [PyData.shown]; exact strOk_app (textFrom_ok _ _ _ (strOk_lit _) h6) (strOk_lit _)⟩
  have := textFrom_ub (PyData.shownAll ds) 0 "[" h5
  rw [PyData.shown]
  unfold listText
  rw [str_len_app, h4] at *
  have e1 : (("[" : String) : Str).length = 1 := rfl
  have e2 : (("]" : String) : Str).length = 1 := rfl
  omega
theorem Rp.tuple {m n : Nat} {ds : List PyData} (h : ∀ d ∈ ds, Rp d m n) : Rp (.tuple ds) (m + 1) (ds.length * (n + 2) + 3) := by
  obtain ⟨h1, h2, h3, h4, h5, h6⟩ := rp_all h
  refine ⟨by rw [PyData.showable]; exact h1, by rw [PyData.hasDict]; exact h2, by rw [PyData.depth]; exact Nat.succ_le_succ h3, ?_, by rw [PyData.shown]; exact strOk_app (strOk_app (strOk_lit _) (join_ok _ h6)) (strOk_lit _)⟩
  have := join_ub (PyData.shownAll ds) h5
  rw [PyData.shown]
  unfold tupleText
  rw [str_len_app, str_len_app]
  rw [h4] at *
  have e1 : (("(" : String) : Str).length = 1 := rfl
  have e2 : ((if ds.length == 1 then ",)" else ")" : String) : Str).length ≤ 2 := by split <;> decide +kernel
  omega
/-- closed data -/
theorem Rp.cl {d : PyData} {m n : Nat} (z : (d.showable && !d.hasDict && decide (d.depth ≤ m) && decide (d.shown.length ≤ n) && PyData.strOk d.shown) = true) : Rp d m n := by
  simp only [Bool.and_eq_true, Bool.not_eq_true', decide_eq_true_eq] at z
  exact ⟨z.1.1.1.1, z.1.1.1.2, z.1.1.2, z.1.2, z.2⟩
/-- texts of equal data are equal -/
theorem eqQ_str {a b : Str} {k : Bool → Prop} (e : a = b) (h : PyData.strOk a = true) (z : k true) : eqQ (.str a) (.str b) k := eqQ_rfl (congrArg _ e) h rfl z
end Pi

namespace Pi
namespace G
open PySem L2 Pi
def top (i : Nat) : Stmt := PySem.Challenge.pw_everyblock_k15_instruments_checked.main.body.getD i (.Pass ⟨0, 0, 0, 0⟩)
abbrev I_is_integer : Nat := 0
abbrev I_is_count : Nat := 1
abbrev I_is_sample : Nat := 2
abbrev I_is_tuple : Nat := 3
abbrev I_are_samples : Nat := 4
abbrev I_check_instrument : Nat := 5
abbrev I__law_deck : Nat := 6
abbrev I__law_draw : Nat := 7
abbrev I__law_instrument : Nat := 8
abbrev I__law_whole : Nat := 9
abbrev I__law_due : Nat := 10
abbrev I__law_changed : Nat := 11
abbrev I_law : Nat := 12
abbrev X_BadInstrument : Nat := 0
def P_is_integer : Fn := ⟨[false], 0, (.seq (.ret (.andd (.isi (.v 0) [.int]) (.one (.nott (.isi (.v 0) [.bool])))))
    .done)⟩
def P_is_count : Fn := ⟨[false, false, false], 0, (.seq (.ret (.andd (.call I_is_integer (.cons (.v 0) .nil)) (.one (.chain .le .le (.v 1) (.v 0) (.v 2)))))
    .done)⟩
def P_is_sample : Fn := ⟨[false], 0, (.seq (.ret (.call I_is_count (.cons (.v 0) (.cons (.g 0) (.cons (.g 1) .nil)))))
    .done)⟩
def P_is_tuple : Fn := ⟨[false, false, false], 0, (.seq (.ret (.andd (.isi (.v 0) [.tuple]) (.one (.chain .le .le (.v 1) (.b1 .len (.v 0)) (.v 2)))))
    .done)⟩
def P_are_samples : Fn := ⟨[false, false, false], 1, (.seq (.ret (.andd (.call I_is_tuple (.cons (.v 0) (.cons (.v 1) (.cons (.v 2) .nil)))) (.one (.b1 .all (.lc [3] (.inl 3) (.itl (.v 0)) .tyes (.call I_is_sample (.cons (.v 3) .nil)))))))
    .done)⟩
def P_check_instrument : Fn := ⟨[false], 2, (.seq (.ifs (.tcmp .lt (.b1 .len (.v 0)) (.c (.int 3))) (.seq (.rai0 0 "BadInstrument")
    .done) .done)
    (.seq (.set 1 (.ix (.v 0) (.c (.int 0))))
    (.seq (.ifs (.tcmp .nin (.v 1) (.tup (.cons (.c (.str "saw")) (.cons (.c (.str "square")) (.cons (.c (.str "steps")) .nil))))) (.seq (.rai 0 "BadInstrument" (.c (.int 0)))
    .done) .done)
    (.seq (.ifs (.tcmp .ne (.b1 .len (.v 0)) (.ite (.tcmp .eq (.v 1) (.c (.str "steps"))) (.c (.int 4)) (.c (.int 3)))) (.seq (.rai0 0 "BadInstrument")
    .done) .done)
    (.seq (.forr (.inl 2) (.itl (.tup (.cons (.c (.int 1)) (.cons (.c (.int 2)) .nil)))) (.seq (.ifs (.tnot (.tval (.call I_is_count (.cons (.ix (.v 0) (.v 2)) (.cons (.c (.int 0)) (.cons (.g 2) .nil)))))) (.seq (.rai 0 "BadInstrument" (.v 2))
    .done) .done)
    .done))
    (.seq (.ifs (.tand (.tcmp .eq (.v 1) (.c (.str "steps"))) (.tone (.tnot (.tval (.call I_are_samples (.cons (.ix (.v 0) (.c (.int 3))) (.cons (.c (.int 1)) (.cons (.g 3) .nil)))))))) (.seq (.rai 0 "BadInstrument" (.c (.int 3)))
    .done) .done)
    .done))))))⟩
def P__law_deck : Fn := ⟨[false], 2, (.seq (.set 1 (.c (.int 7)))
    (.seq (.forr (.inl 2) (.itl (.v 0)) (.seq (.set 1 (.bin .mod (.b1 .int (.bin .add (.bin .mul (.v 1) (.c (.int 48271))) (.v 2))) (.c (.int 2147483647))))
    .done))
    (.seq (.ret (.lst (.cons (.c (.int 0)) (.cons (.c (.int 0)) (.cons (.v 1) (.cons (.b1 .list (.v 0)) (.cons (.c (.int 0)) .nil)))))))
    .done)))⟩
def P__law_draw : Fn := ⟨[true, false], 2, (.seq (.ifs (.tand (.tcmp .eq (.ix (.v 0) (.c (.int 0))) (.c (.int 0))) (.tone (.tcmp .lt (.ix (.v 0) (.c (.int 1))) (.b1 .len (.ix (.v 0) (.c (.int 3))))))) (.seq (.seti 0 (.c (.int 0)) (.b1 .abs (.ix (.ix (.v 0) (.c (.int 3))) (.ix (.v 0) (.c (.int 1))))))
    (.seq (.seti 0 (.c (.int 1)) (.bin .add (.ix (.v 0) (.c (.int 1))) (.c (.int 1))))
    .done)) (.seq (.ifs (.tcmp .eq (.ix (.v 0) (.c (.int 0))) (.c (.int 0))) (.seq (.seti 0 (.c (.int 4)) (.bin .add (.ix (.v 0) (.c (.int 4))) (.c (.int 1))))
    (.seq (.set 3 (.bin .mod (.b1 .int (.bin .add (.bin .add (.bin .mul (.ix (.v 0) (.c (.int 2))) (.c (.int 48271))) (.bin .mul (.ix (.v 0) (.c (.int 4))) (.c (.int 69621)))) (.c (.int 12345)))) (.c (.int 2147483647))))
    (.seq (.set 3 (.bin .mod (.b1 .int (.bin .add (.bin .add (.bin .mul (.v 3) (.v 3)) (.bin .mul (.c (.int 16807)) (.ix (.v 0) (.c (.int 4))))) (.c (.int 7)))) (.c (.int 998244353))))
    (.seq (.set 3 (.bin .mod (.b1 .int (.bin .add (.bin .add (.bin .mul (.v 3) (.v 3)) (.bin .mul (.c (.int 48271)) (.ix (.v 0) (.c (.int 4))))) (.ix (.v 0) (.c (.int 2))))) (.c (.int 2147483629))))
    (.seq (.seti 0 (.c (.int 0)) (.bin .fdiv (.v 3) (.c (.int 13))))
    .done))))) .done)
    .done))
    (.seq (.set 2 (.bin .mod (.b1 .int (.ix (.v 0) (.c (.int 0)))) (.v 1)))
    (.seq (.seti 0 (.c (.int 0)) (.bin .fdiv (.ix (.v 0) (.c (.int 0))) (.v 1)))
    (.seq (.retv 2)
    .done))))⟩
def P__law_instrument : Fn := ⟨[true], 5, (.seq (.set 1 (.ix (.lst (.cons (.c (.str "saw")) (.cons (.c (.str "square")) (.cons (.c (.str "steps")) .nil)))) (.call I__law_draw (.consM 0 (.cons (.c (.int 3)) .nil)))))
    (.seq (.slc 2 [5] (.inl 5) (.itr1 (.c (.int 2))) .tyes (.ix (.lst (.cons (.c (.int 0)) (.cons (.call I__law_draw (.consM 0 (.cons (.c (.int 12)) .nil))) (.cons (.call I__law_draw (.consM 0 (.cons (.c (.int 1001)) .nil))) .nil)))) (.call I__law_draw (.consM 0 (.cons (.c (.int 3)) .nil)))))
    (.seq (.ifs (.tcmp .ne (.v 1) (.c (.str "steps"))) (.seq (.ret (.tup (.cons (.v 1) (.cons (.ix (.v 2) (.c (.int 0))) (.cons (.ix (.v 2) (.c (.int 1))) .nil)))))
    .done) .done)
    (.seq (.set 3 (.bin .add (.c (.int 1)) (.ix (.lst (.cons (.call I__law_draw (.consM 0 (.cons (.c (.int 12)) .nil))) (.cons (.call I__law_draw (.consM 0 (.cons (.c (.int 64)) .nil))) .nil))) (.call I__law_draw (.consM 0 (.cons (.c (.int 2)) .nil))))))
    (.seq (.slc 4 [5] (.inl 5) (.itr1 (.v 3)) .tyes (.ix (.lst (.cons (.c (.int 8388607)) (.cons (.neg (.c (.int 8388608))) (.cons (.c (.int 0)) (.cons (.bin .sub (.call I__law_draw (.consM 0 (.cons (.c (.int 16777216)) .nil))) (.c (.int 8388608))) .nil))))) (.call I__law_draw (.consM 0 (.cons (.c (.int 4)) .nil)))))
    (.seq (.ret (.tup (.cons (.v 1) (.cons (.ix (.v 2) (.c (.int 0))) (.cons (.ix (.v 2) (.c (.int 1))) (.cons (.b1 .tuple (.v 4)) .nil))))))
    .done))))))⟩
def P__law_whole : Fn := ⟨[false, false, false], 0, (.seq (.ret (.andd (.isi (.v 0) [.int]) (.andd (.nott (.isi (.v 0) [.bool])) (.one (.chain .le .le (.v 1) (.v 0) (.v 2))))))
    .done)⟩
def P__law_due : Fn := ⟨[false], 3, (.seq (.ifs (.tcmp .lt (.b1 .len (.v 0)) (.c (.int 3))) (.seq (.ret (.tup (.cons (.c .none) .nil)))
    .done) .done)
    (.seq (.ifs (.tcmp .nin (.ix (.v 0) (.c (.int 0))) (.lst (.cons (.c (.str "saw")) (.cons (.c (.str "square")) (.cons (.c (.str "steps")) .nil))))) (.seq (.ret (.tup (.cons (.c (.int 0)) .nil)))
    .done) .done)
    (.seq (.ifs (.tcmp .ne (.b1 .len (.v 0)) (.bin .add (.c (.int 3)) (.b1 .int (.cmp .eq (.ix (.v 0) (.c (.int 0))) (.c (.str "steps")))))) (.seq (.ret (.tup (.cons (.c .none) .nil)))
    .done) .done)
    (.seq (.forr (.inl 1) (.itl (.lst (.cons (.c (.int 1)) (.cons (.c (.int 2)) .nil)))) (.seq (.ifs (.tnot (.tval (.call I__law_whole (.cons (.ix (.v 0) (.v 1)) (.cons (.c (.int 0)) (.cons (.c (.int 1000)) .nil)))))) (.seq (.ret (.tup (.cons (.v 1) .nil)))
    .done) .done)
    .done))
    (.seq (.ifs (.tcmp .eq (.b1 .len (.v 0)) (.c (.int 3))) (.seq (.ret (.c .none))
    .done) .done)
    (.seq (.set 2 (.ix (.v 0) (.c (.int 3))))
    (.seq (.ifs (.tor (.tnot (.tval (.isi (.v 2) [.tuple]))) (.tone (.tnot (.tchain .le .le (.c (.int 1)) (.b1 .len (.v 2)) (.c (.int 64)))))) (.seq (.ret (.tup (.cons (.c (.int 3)) .nil)))
    .done) .done)
    (.seq (.ifs (.tcmp .gt (.b1 .len (.lc [3] (.inl 3) (.itl (.v 2)) (.tone (.tnot (.tval (.call I__law_whole (.cons (.v 3) (.cons (.neg (.c (.int 8388608))) (.cons (.c (.int 8388607)) .nil))))))) (.v 3))) (.c (.int 0))) (.seq (.ret (.tup (.cons (.c (.int 3)) .nil)))
    .done) .done)
    (.seq (.ret (.c .none))
    .done)))))))))⟩
def P__law_changed : Fn := ⟨[true, false], 6, (.seq (.set 2 (.b1 .list (.v 1)))
    (.seq (.set 3 (.call I__law_draw (.consM 0 (.cons (.c (.int 6)) .nil))))
    (.seq (.ifs (.tcmp .eq (.v 3) (.c (.int 0))) (.seq (.set 4 (.ix (.c (.str "abcdefghijklmnopqrstuvwxyz")) (.call I__law_draw (.consM 0 (.cons (.c (.int 26)) .nil)))))
    (.seq (.set 5 (.c (.str "saw")))
    (.seq (.ifs (.tval (.isi (.ix (.v 2) (.c (.int 0))) [.str])) (.seq (.set 5 (.ix (.v 2) (.c (.int 0))))
    .done) .done)
    (.seq (.set 6 (.lst (.cons (.c (.str "sine")) (.cons (.c (.str "")) (.cons (.c (.str "Saw")) (.cons (.c (.str "steps")) (.cons (.c (.str "saw")) (.cons (.bin .add (.v 5) (.v 4)) (.cons (.sl (.v 5) .sno (.sat (.neg (.c (.int 1))))) (.cons (.bin .add (.v 4) (.v 5)) .nil))))))))))
    (.seq (.seti 2 (.c (.int 0)) (.ix (.bin .add (.v 6) (.lst (.cons (.c .none) (.cons (.c (.int 0)) (.cons (.c (.bool true)) (.cons (.lst (.cons (.v 5) .nil)) (.cons (.tup (.cons (.v 5) .nil)) .nil))))))) (.call I__law_draw (.consM 0 (.cons (.c (.int 13)) .nil)))))
    .done))))) .done)
    (.seq (.ifs (.tand (.tcmp .eq (.v 3) (.c (.int 1))) (.tone (.tcmp .gt (.b1 .len (.v 2)) (.c (.int 2))))) (.seq (.seti 2 (.bin .add (.c (.int 1)) (.call I__law_draw (.consM 0 (.cons (.c (.int 2)) .nil)))) (.ix (.lst (.cons (.neg (.c (.int 1))) (.cons (.c (.int 1001)) (.cons (.c (.int 1000)) (.cons (.c (.bool true)) (.cons (.c .none) (.cons (.c (.str "a")) (.cons (.tup (.cons (.c (.int 1)) .nil)) .nil)))))))) (.call I__law_draw (.consM 0 (.cons (.c (.int 7)) .nil)))))
    .done) .done)
    (.seq (.ifs (.tand (.tcmp .eq (.v 3) (.c (.int 2))) (.tand (.tcmp .eq (.b1 .len (.v 2)) (.c (.int 4))) (.tone (.tval (.isi (.ix (.v 2) (.c (.int 3))) [.tuple]))))) (.seq (.set 7 (.bin .mul (.ix (.v 2) (.c (.int 3))) (.c (.int 65))))
    (.seq (.seti 2 (.c (.int 3)) (.ix (.lst (.cons (.sl (.v 7) .sno (.sat (.c (.int 64)))) (.cons (.sl (.v 7) .sno (.sat (.c (.int 65)))) (.cons (.tup .nil) (.cons (.b1 .list (.sl (.v 7) .sno (.sat (.c (.int 3))))) (.cons (.c .none) (.cons (.c (.int 5)) (.cons (.sl (.v 7) .sno (.sat (.c (.int 1)))) .nil)))))))) (.call I__law_draw (.consM 0 (.cons (.c (.int 7)) .nil)))))
    .done)) .done)
    (.seq (.ifs (.tand (.tcmp .eq (.v 3) (.c (.int 3))) (.tand (.tcmp .eq (.b1 .len (.v 2)) (.c (.int 4))) (.tone (.tval (.isi (.ix (.v 2) (.c (.int 3))) [.tuple]))))) (.seq (.seti 2 (.c (.int 3)) (.bin .add (.ix (.v 2) (.c (.int 3))) (.tup (.cons (.ix (.lst (.cons (.c (.int 8388608)) (.cons (.neg (.c (.int 8388609))) (.cons (.c (.int 8388607)) (.cons (.neg (.c (.int 8388608))) (.cons (.c (.bool false)) (.cons (.c .none) (.cons (.c (.str "a")) .nil)))))))) (.call I__law_draw (.consM 0 (.cons (.c (.int 7)) .nil)))) .nil))))
    .done) .done)
    (.seq (.ifs (.tcmp .eq (.v 3) (.c (.int 4))) (.seq (.set 2 (.sl (.v 2) .sno (.sat (.call I__law_draw (.consM 0 (.cons (.bin .add (.b1 .len (.v 2)) (.c (.int 1))) .nil))))))
    .done) .done)
    (.seq (.ifs (.tcmp .eq (.v 3) (.c (.int 5))) (.seq (.app 2 (.tup (.cons (.c (.int 0)) (.cons (.c (.int 1)) .nil))))
    .done) .done)
    (.seq (.ret (.b1 .tuple (.v 2)))
    .done)))))))))⟩
def P_law : Fn := ⟨[false], 6, (.seq (.set 1 (.call I__law_deck (.cons (.v 0) .nil)))
    (.seq (.set 2 (.call I__law_instrument (.consM 1 .nil)))
    (.seq (.ifs (.tcmp .gt (.call I__law_draw (.consM 1 (.cons (.c (.int 4)) .nil))) (.c (.int 0))) (.seq (.forr (.inl 5) (.itr1 (.bin .add (.c (.int 1)) (.call I__law_draw (.consM 1 (.cons (.c (.int 2)) .nil))))) (.seq (.ifs (.tcmp .gt (.b1 .len (.v 2)) (.c (.int 0))) (.seq (.set 2 (.call I__law_changed (.consM 1 (.cons (.v 2) .nil))))
    .done) .done)
    .done))
    .done) .done)
    (.seq (.set 3 (.call I__law_due (.cons (.v 2) .nil)))
    (.seq (.tryx 4 [0] (.seq (.set 6 (.call I_check_instrument (.cons (.v 2) .nil)))
    .done) (.seq (.ifs (.tor (.tcmp .isN (.v 3) (.c .none)) (.tor (.tval (.xi 4 "BadVoices" [])) (.tor (.tnot (.tval (.xi 4 "ValueError" [0]))) (.tone (.tcmp .ne (.xw 4) (.c (.str "BadInstrument"))))))) (.seq (.ret (.c (.bool false)))
    .done) .done)
    (.seq (.ret (.andd (.cmp .eq (.xp 4) (.ix (.v 3) (.c (.int 0)))) (.one (.nott (.isi (.xp 4) [.bool])))))
    .done)))
    (.seq (.ret (.andd (.cmp .isN (.v 3) (.c .none)) (.one (.cmp .isN (.v 6) (.c .none)))))
    .done))))))⟩
abbrev T : List Fn := [P_is_integer, P_is_count, P_is_sample, P_is_tuple, P_are_samples, P_check_instrument, P__law_deck, P__law_draw, P__law_instrument, P__law_whole, P__law_due, P__law_changed, P_law]
abbrev nms : List Str := ["is_integer", "is_count", "is_sample", "is_tuple", "are_samples", "check_instrument", "_law_deck", "_law_draw", "_law_instrument", "_law_whole", "_law_due", "_law_changed", "law"]
abbrev pns : List (List Str) := [["value"], ["value", "least", "most"], ["value"], ["value", "least", "most"], ["value", "least", "most"], ["instrument"], ["script"], ["deck", "bound"], ["deck"], ["value", "least", "most"], ["instrument"], ["deck", "instrument"], ["script"]]
abbrev dfs : List (List PyData) := [[], [], [], [], [], [], [], [], [], [], [], [], []]
abbrev cs : List (Str × PyData) := [("SAMPLE_LEAST", (.int (-8388608))), ("SAMPLE_MOST", (.int 8388607)), ("RAMP_MOST", (.int 1000)), ("ROW_MOST", (.int 64))]
abbrev bl : List Str := ["isinstance", "bool", "int", "len", "tuple", "all", "list", "abs", "range", "str"]
abbrev lb : List LF := []
abbrev xs : List Str := ["BadInstrument"]
abbrev it : List (Str × List Nat) := [("ValueError", [0]), ("BadVoices", [])]
abbrev ct : List (Str × List Nat) := [("BadInstrument", [0])]
abbrev cf : Cf := mkCf nms pns dfs cs xs bl lb it ct
abbrev C : Nat → Option PyData := mkC cs
theorem ck_is_integer : dfChk cf 0 P_is_integer ["value"] (top 7) = true := by decide +kernel
theorem ck_is_count : dfChk cf 1 P_is_count ["value", "least", "most"] (top 8) = true := by decide +kernel
theorem ck_is_sample : dfChk cf 2 P_is_sample ["value"] (top 9) = true := by decide +kernel
theorem ck_is_tuple : dfChk cf 3 P_is_tuple ["value", "least", "most"] (top 10) = true := by decide +kernel
theorem ck_are_samples : dfChk cf 4 P_are_samples ["value", "least", "most", "item"] (top 11) = true := by decide +kernel
theorem ck_check_instrument : dfChk cf 5 P_check_instrument ["instrument", "word", "place"] (top 15) = true := by decide +kernel
theorem ck__law_deck : dfChk cf 6 P__law_deck ["script", "seed", "cell"] (top 17) = true := by decide +kernel
theorem ck__law_draw : dfChk cf 7 P__law_draw ["deck", "bound", "value", "number"] (top 18) = true := by decide +kernel
theorem ck__law_instrument : dfChk cf 8 P__law_instrument ["deck", "word", "ramps", "size", "row", "k"] (top 19) = true := by decide +kernel
theorem ck__law_whole : dfChk cf 9 P__law_whole ["value", "least", "most"] (top 20) = true := by decide +kernel
theorem ck__law_due : dfChk cf 10 P__law_due ["instrument", "place", "row", "item"] (top 21) = true := by decide +kernel
theorem ck__law_changed : dfChk cf 11 P__law_changed ["deck", "instrument", "items", "kind", "letter", "word", "words", "row"] (top 22) = true := by decide +kernel
theorem ck_law : dfChk cf 12 P_law ["script", "deck", "instrument", "due", "e", "turn", "told"] (top 23) = true := by decide +kernel
def ini (i : Nat) : Stmt := iniOf (top i)
theorem ck_base : baseB (ini 1) = true := by decide +kernel
theorem ckx_BadInstrument : dervB "SoundError" "BadInstrument" (ini 2) = true := by decide +kernel
end G
end Pi
namespace Pi
open PySem L2 G
local macro_rules | `(tactic| subst_eqs) => `(tactic| (conv => whnf); repeat (first
  | ((with_reducible refine wpq_of ?_); conv => whnf)
  | (refine ⟨mul_r (by omega) (by omega), ?_⟩; conv => whnf)
  | (refine ⟨mul_l (by omega) (by omega), ?_⟩; conv => whnf)
  | (refine ⟨div_s (by omega) (by omega), ?_⟩; conv => whnf)
  | (refine ⟨pow_s (by omega) (by omega) (by omega), ?_⟩; conv => whnf)
  | (refine ⟨(by omega : (0 : Int) < _), ?_⟩; conv => whnf)
  | (refine ⟨(by decide : (0 : Int) < _), ?_⟩; conv => whnf)
  | (refine ⟨(⟨by omega, by omega⟩ : inR _), ?_⟩; conv => whnf)
  | (refine ⟨(⟨by decide, by decide⟩ : inR _), ?_⟩; conv => whnf)
  | ((with_reducible refine ix_map ?_ ?_ ?_); (· omega); (· omega); conv => whnf)
  | (refine ⟨(by first | decide | (simp only [List.length_append, List.length_cons, List.length_nil]; decide) : List.length _ < sizeLine), ?_⟩; conv => whnf)
  | (refine ⟨(by first | decide | (simp only [List.length_append, List.length_cons, List.length_nil]; decide) : _ ≤ sizeLine), ?_⟩; conv => whnf)
  | (refine ⟨_, (rfl : atI _ _ = some _), ?_⟩; conv => whnf)
  | (refine ⟨_, (rfl : ixN _ _ = some _), ?_⟩; conv => whnf)
  | ((with_reducible refine ⟨_, atI_0, ?_⟩); conv => whnf)
  | ((with_reducible refine ⟨_, atI_1, ?_⟩); conv => whnf)
  | ((with_reducible refine ⟨_, atI_2, ?_⟩); conv => whnf)
  | ((with_reducible refine ⟨_, atI_3, ?_⟩); conv => whnf)
  | (refine ⟨trivial, ?_⟩; conv => whnf)))
/-- a deck of numbers -/
def IsDk (l : List PyData) : Prop := ∃ (c i s : Int) (ns : List Int) (k : Int), l = [.int c, .int i, .int s, .list (ns.map PyData.int), .int k] ∧ 0 ≤ c ∧ 0 ≤ i ∧ 0 ≤ s ∧ s < 2147483647
theorem deck {n : Nat} {ns : List Int} {Q : R → List (List PyData) → Prop} {x : Xc → Prop} (h : ∀ l, IsDk l → Q (.own l) []) : Γ G.T G.C (n + 1) G.I__law_deck [.d (.list (ns.map PyData.int))] Q x := by
  refine Γ_body (P := P__law_deck) rfl rfl ?_
  subst_eqs
  refine for_inv (fun i env => ∃ s s2, env = [.dat (.list (ns.map PyData.int)), .dat (.int s), s2] ∧ 0 ≤ s ∧ s < 2147483647) ⟨7, .no, rfl, by omega, by omega⟩ ?_ ?_
  · rintro i d env c2 hd ⟨s, s2, rfl, h1, h2⟩ z
    obtain ⟨e, he, rfl⟩ := map_get hd
    clear hd
    subst_eqs
    exact z _ ⟨_, _, rfl, by omega, by omega⟩
  · rintro env ⟨s, s2, rfl, h1, h2⟩
    subst_eqs
    exact h _ ⟨0, 0, s, ns, 0, rfl, by omega, by omega, h1, h2⟩
theorem draw {n : Nat} {b : Int} {l : List PyData} (hl : IsDk l) (hb : 0 < b ∧ b < 1073741824) {Q : R → List (List PyData) → Prop} {x : Xc → Prop} (h : ∀ z l', 0 ≤ z → z < b → IsDk l' → Q (.dat (.int z)) [l']) : Γ G.T G.C (n + 1) G.I__law_draw [.m l, .d (.int b)] Q x := by
  obtain ⟨c, i, s, ns, k, rfl, c0, i0, s0, s1⟩ := hl
  refine Γ_body (P := P__law_draw) rfl rfl ?_
  subst_eqs
  refine tand_join Γ_mono (decide (c = 0 ∧ i < ns.length)) (fun e => ?_) (fun e => ?_) ?_
  · have e := dec_t e
    subst_eqs
    refine ⟨decide_eq_decide.mpr ?_, rfl⟩
    rw [List.length_map]
    simp [e]
  · have e := dec_f e
    exact decide_eq_false fun z => e z.1
  refine if_join Γ_mono (fun env => ∃ c i k s2 s3, env = [.mu 0 [.int c, .int i, .int s, .list (ns.map PyData.int), .int k], .dat (.int b), s2, s3] ∧ 0 ≤ c ∧ 0 ≤ i) (fun e => ?_) (fun e => ?_) ?_
  · have e := dec_t e
    subst_eqs
    generalize ns.getD i.toNat 0 = v
    refine ⟨_, _, _, _, _, rfl, ?_, by omega⟩
    split <;> omega
  · subst_eqs
    refine both_of (fun q => ?_) (fun q => ?_)
    · subst_eqs
      refine ⟨_, _, _, _, _, rfl, ?_, i0⟩
      omega
    · subst_eqs
      exact ⟨_, _, _, _, _, rfl, c0, i0⟩
  · rintro env ⟨c, i, k, s2, s3, rfl, c0, i0⟩
    subst_eqs
    exact h _ _ (Int.emod_nonneg _ (by omega)) (Int.emod_lt_of_pos _ hb.1) ⟨_, _, _, _, _, rfl, Int.ediv_nonneg c0 (by omega), i0, s0, s1⟩
def WavOk (w : Str) (t : List PyData) : Prop := ((w = "saw" ∨ w = "square") ∧ t = []) ∨ (w = "steps" ∧ ∃ row : List Int, 1 ≤ row.length ∧ row.length ≤ 64 ∧ (∀ z ∈ row, -8388608 ≤ z ∧ z ≤ 8388607) ∧ t = [.tuple (row.map PyData.int)])
/-- an instrument -/
def InsOk (d : PyData) : Prop := ∃ (w : Str) (a r : Int) (t : List PyData), d = .tuple (.str w :: .int a :: .int r :: t) ∧ 0 ≤ a ∧ a ≤ 1000 ∧ 0 ≤ r ∧ r ≤ 1000 ∧ WavOk w t
theorem instrument {n : Nat} {l : List PyData} (hl : IsDk l) {Q : R → List (List PyData) → Prop} {x : Xc → Prop} (h : ∀ d l', InsOk d → IsDk l' → Q (.dat d) [l']) : Γ G.T G.C (n + 2) G.I__law_instrument [.m l] Q x := by
  refine Γ_body (P := P__law_instrument) rfl rfl ?_
  subst_eqs
  refine draw hl (by omega) fun z l hz0 hz1 hl => ?_
  subst_eqs
  refine pick (fun d => d = .str "saw" ∨ d = .str "square" ∨ d = .str "steps") hz0 hz1 ⟨.inl rfl, .inr (.inl rfl), .inr (.inr rfl), trivial⟩ fun dw hw => ?_
  subst_eqs
  refine draw hl (by omega) fun z1 l hz1 hy1 hl => ?_
  subst_eqs
  refine draw hl (by omega) fun z2 l hz2 hy2 hl => ?_
  subst_eqs
  refine draw hl (by omega) fun z3 l hz3 hy3 hl => ?_
  subst_eqs
  refine pickI (fun z => 0 ≤ z ∧ z ≤ 1000) hz3 hy3 ⟨by omega, by omega, by omega, trivial⟩ fun a ha => ?_
  subst_eqs
  refine draw hl (by omega) fun z1 l hz1 hy1 hl => ?_
  subst_eqs
  refine draw hl (by omega) fun z2 l hz2 hy2 hl => ?_
  subst_eqs
  refine draw hl (by omega) fun z3 l hz3 hy3 hl => ?_
  subst_eqs
  refine pickI (fun z => 0 ≤ z ∧ z ≤ 1000) hz3 hy3 ⟨by omega, by omega, by omega, trivial⟩ fun r hr => ?_
  subst_eqs
  rcases hw with rfl | rfl | rfl
  · subst_eqs
    refine eqQ_cl false (by decide +kernel) ?_
    subst_eqs
    exact h _ _ ⟨_, a, r, [], rfl, ha.1, ha.2, hr.1, hr.2, .inl ⟨.inl rfl, rfl⟩⟩ hl
  · subst_eqs
    refine eqQ_cl false (by decide +kernel) ?_
    subst_eqs
    exact h _ _ ⟨_, a, r, [], rfl, ha.1, ha.2, hr.1, hr.2, .inl ⟨.inr rfl, rfl⟩⟩ hl
  · subst_eqs
    refine eqQ_cl true (by decide +kernel) ?_
    subst_eqs
    refine draw hl (by omega) fun z1 l hz1 hy1 hl => ?_
    subst_eqs
    refine draw hl (by omega) fun z2 l hz2 hy2 hl => ?_
    subst_eqs
    refine draw hl (by omega) fun z3 l hz3 hy3 hl => ?_
    subst_eqs
    refine pickI (fun z => 0 ≤ z ∧ z ≤ 63) hz3 hy3 ⟨by omega, by omega, trivial⟩ fun m hm => ?_
    have em : ∃ k : Nat, 1 + m = (k : Int) ∧ 1 ≤ k ∧ k ≤ 64 := ⟨(1 + m).toNat, by omega, by omega, by omega⟩
    obtain ⟨k, em, k1, k2⟩ := em
    subst_eqs
    rw [em, Int.toNat_natCast]
    refine lc_inv (fun acc env => ∃ (rs : List Int) (l : List PyData) (s3 : Sl), acc = rs.map PyData.int ∧ (∀ z ∈ rs, -8388608 ≤ z ∧ z ≤ 8388607) ∧ env = [.mu 0 l, .dat (.str "steps"), .own [.int a, .int r], s3, .no, .no] ∧ IsDk l) ⟨[], l, _, rfl, (fun r h => by cases h), rfl, hl⟩ ?_ (by rw [range_len]; exact sl_ok (by omega)) ?_
    · rintro i d acc env c hd ⟨rs, l, s3, rfl, hrs, rfl, hl⟩ hc
      subst_eqs
      refine draw hl (by omega) fun z1 l hz1 hy1 hl => ?_
      subst_eqs
      refine draw hl (by omega) fun z2 l hz2 hy2 hl => ?_
      subst_eqs
      refine pickI (fun z => -8388608 ≤ z ∧ z ≤ 8388607) hz2 hy2 ⟨by omega, by omega, by omega, by omega, trivial⟩ fun v hv => ?_
      subst_eqs
      refine hc _ _ ⟨rs ++ [v], l, _, by rw [List.map_append]; rfl, fun q hq => ?_, rfl, hl⟩
      rcases List.mem_append.mp hq with hq | hq
      · exact hrs q hq
      · rw [List.mem_singleton.mp hq]; exact hv
    · rintro acc env ⟨rs, l, s3, rfl, hrs, rfl, hl⟩ hl2
      rw [List.length_map, range_len] at hl2
      subst_eqs
      exact h _ _ ⟨_, a, r, _, rfl, ha.1, ha.2, hr.1, hr.2, .inr ⟨rfl, rs, by omega, by omega, hrs, rfl⟩⟩ hl
def cntB : PyData → Int → Int → Bool
  | .int i, a, b => decide (a ≤ i ∧ i ≤ b)
  | _, _, _ => false
def isI : PyData → Bool
  | .int _ => true
  | _ => false
theorem is_integer {n : Nat} {d : PyData} {Q : R → List (List PyData) → Prop} {x : Xc → Prop} (h : Q (.dat (.bool (isI d))) []) : Γ G.T G.C (n + 1) G.I_is_integer [.d d] Q x := by
  refine Γ_body (P := P_is_integer) rfl rfl ?_
  cases d <;> (subst_eqs; exact h)
theorem is_count {n : Nat} {d : PyData} {a b : Int} {Q : R → List (List PyData) → Prop} {x : Xc → Prop} (h : Q (.dat (.bool (cntB d a b))) []) : Γ G.T G.C (n + 2) G.I_is_count [.d d, .d (.int a), .d (.int b)] Q x := by
  refine Γ_body (P := P_is_count) rfl rfl ?_
  subst_eqs
  refine is_integer ?_
  cases d with
  | int i =>
    have e0 : cntB (.int i) a b = decide (a ≤ i ∧ i ≤ b) := rfl
    rw [e0] at h
    subst_eqs
    refine both_of (fun e => ?_) (fun e => ?_)
    · have e := dec_t e
      subst_eqs
      rw [show decide (i ≤ b) = decide (a ≤ i ∧ i ≤ b) from decide_eq_decide.mpr (by omega)]
      exact h
    · have e := dec_f e
      subst_eqs
      rw [decide_eq_false (by omega)] at h
      exact h
  | _ => subst_eqs; exact h
def tickD : PyData → Int
  | .tuple (.int t :: _) => t
  | _ => 0
theorem cntB_int {d : PyData} {a b : Int} (h : cntB d a b = true) : ∃ i, d = .int i ∧ a ≤ i ∧ i ≤ b := by
  cases d <;> first | (exact ⟨_, rfl, dec_t h⟩) | cases h
theorem is_sample {n : Nat} {d : PyData} {Q : R → List (List PyData) → Prop} {x : Xc → Prop} (h : Q (.dat (.bool (cntB d (-8388608) 8388607))) []) : Γ G.T G.C (n + 3) G.I_is_sample [.d d] Q x := by
  refine Γ_body (P := P_is_sample) rfl rfl ?_
  subst_eqs
  refine is_count ?_
  exact h
def tupB : PyData → Int → Int → Bool
  | .tuple l, a, b => decide (a ≤ l.length ∧ (l.length : Int) ≤ b)
  | _, _, _ => false
theorem is_tuple {n : Nat} {d : PyData} {a b : Int} {Q : R → List (List PyData) → Prop} {x : Xc → Prop} (h : Q (.dat (.bool (tupB d a b))) []) : Γ G.T G.C (n + 1) G.I_is_tuple [.d d, .d (.int a), .d (.int b)] Q x := by
  refine Γ_body (P := P_is_tuple) rfl rfl ?_
  cases d with
  | tuple l =>
    have e0 : tupB (.tuple l) a b = decide (a ≤ l.length ∧ (l.length : Int) ≤ b) := rfl
    rw [e0] at h
    subst_eqs
    refine both_of (fun e => ?_) (fun e => ?_)
    · have e := dec_t e
      subst_eqs
      rw [show decide ((l.length : Int) ≤ b) = decide (a ≤ l.length ∧ (l.length : Int) ≤ b) from decide_eq_decide.mpr (by omega)]
      exact h
    · have e := dec_f e
      subst_eqs
      rw [decide_eq_false (by omega)] at h
      exact h
  | _ => subst_eqs; exact h
end Pi

namespace Pi
open PySem L2 G
local macro_rules | `(tactic| subst_eqs) => `(tactic| (conv => whnf); repeat (first
  | ((with_reducible refine wpq_of ?_); conv => whnf)
  | (refine ⟨mul_r (by omega) (by omega), ?_⟩; conv => whnf)
  | (refine ⟨mul_l (by omega) (by omega), ?_⟩; conv => whnf)
  | (refine ⟨div_s (by omega) (by omega), ?_⟩; conv => whnf)
  | (refine ⟨pow_s (by omega) (by omega) (by omega), ?_⟩; conv => whnf)
  | (refine ⟨(by omega : (0 : Int) < _), ?_⟩; conv => whnf)
  | (refine ⟨(by decide : (0 : Int) < _), ?_⟩; conv => whnf)
  | (refine ⟨(⟨by omega, by omega⟩ : inR _), ?_⟩; conv => whnf)
  | (refine ⟨(⟨by decide, by decide⟩ : inR _), ?_⟩; conv => whnf)
  | ((with_reducible refine ix_map ?_ ?_ ?_); (· omega); (· omega); conv => whnf)
  | (refine ⟨(by first | decide | (simp only [List.length_append, List.length_cons, List.length_nil]; decide) : List.length _ < sizeLine), ?_⟩; conv => whnf)
  | (refine ⟨(by first | decide | (simp only [List.length_append, List.length_cons, List.length_nil]; decide) : _ ≤ sizeLine), ?_⟩; conv => whnf)
  | (refine ⟨_, (rfl : atI _ _ = some _), ?_⟩; conv => whnf)
  | (refine ⟨_, (rfl : ixN _ _ = some _), ?_⟩; conv => whnf)
  | ((with_reducible refine ⟨_, atI_0, ?_⟩); conv => whnf)
  | ((with_reducible refine ⟨_, atI_1, ?_⟩); conv => whnf)
  | ((with_reducible refine ⟨_, atI_2, ?_⟩); conv => whnf)
  | ((with_reducible refine ⟨_, atI_3, ?_⟩); conv => whnf)
  | (refine ⟨trivial, ?_⟩; conv => whnf)))
theorem inQ'_of {x : PyData} {ds : List PyData} {n m : Nat} {b : Bool} {k : Bool → Prop} (sx : Sh x n) (hn : n ≤ 64) (sy : Sh (.tuple ds) m) (hm : m ≤ 64) (e : (ds.any fun z => PyData.eqv z x) = b) (h : k b) : inQ' x ds k := by
  unfold inQ'
  exact ⟨sx.ok hn, sy.ok hm, by rw [e]; exact h⟩
theorem cutS_ok {z : Str} {lo hi : Option Int} (h : PyData.strOk z = true) : PyData.strOk (cutS z lo hi) = true := by
  unfold PyData.strOk cutS at *
  rw [← Array.all_toList, List.all_eq_true] at *
  intro c hc
  exact h c (List.mem_of_mem_drop (List.mem_of_mem_take hc))
theorem cutS_len {z : Str} {lo hi : Option Int} : (cutS z lo hi).length ≤ z.length := by
  show (List.toArray _).size ≤ z.cps.size
  rw [List.size_toArray, List.length_take, List.length_drop, Array.length_toList]
  omega
/-- a word, or what stands for one -/
def FirstOk (t : Nat) (x : PyData) : Prop := (∃ s : Str, PyData.strOk s = true ∧ s.length ≤ 9 + t ∧ (x = .str s ∨ x = .list [.str s] ∨ x = .tuple [.str s])) ∨ x = .none ∨ x = .int 0 ∨ x = .bool true
theorem sh_strs {ds : List Str} (h : ∀ s ∈ ds, PyData.strOk s = true) : ∀ d ∈ ds.map PyData.str, Sh d 0 := fun d hd => by
  obtain ⟨s, hs, rfl⟩ := List.mem_map.mp hd
  exact ⟨h s hs, Nat.le_refl 0⟩
theorem FirstOk.sh {t : Nat} {x : PyData} (h : FirstOk t x) : Sh x 1 := by
  rcases h with ⟨s, hs, _, rfl | rfl | rfl⟩ | rfl | rfl | rfl
  · exact ⟨hs, Nat.zero_le _⟩
  · exact Sh.list (n := 0) (sh_strs (ds := [s]) fun z hz => by rw [List.mem_singleton.mp hz]; exact hs)
  · exact Sh.tuple (n := 0) (sh_strs (ds := [s]) fun z hz => by rw [List.mem_singleton.mp hz]; exact hs)
  · exact ⟨rfl, Nat.zero_le _⟩
  · exact ⟨rfl, Nat.zero_le _⟩
  · exact ⟨rfl, Nat.zero_le _⟩
theorem FirstOk.mono {t u : Nat} {x : PyData} (h : FirstOk t x) (hu : t ≤ u) : FirstOk u x := by
  rcases h with ⟨s, hs, hl, h⟩ | h
  · exact .inl ⟨s, hs, by omega, h⟩
  · exact .inr h
def TB (b : Nat) (x : PyData) : Prop := ∀ l, x = .tuple l → l.length ≤ b
theorem FirstOk.tb {t : Nat} {x : PyData} (h : FirstOk t x) {b : Nat} (hb : 1 ≤ b) : TB b x := by
  rintro l rfl
  rcases h with ⟨s, hs, _, h | h | h⟩ | h | h | h <;> cases h
  exact hb
def CI (t : Nat) (ds : List PyData) : Prop := ds.length ≤ 4 + t ∧ (∀ w, ds.head? = some w → FirstOk t w) ∧ ∀ x ∈ ds, TB (100 + t) x
theorem CI.mono {t u : Nat} {ds : List PyData} (h : CI t ds) (hu : t ≤ u) : CI u ds :=
  ⟨by have := h.1; omega, fun w hw => (h.2.1 w hw).mono hu, fun x hx l e => by have := h.2.2 x hx l e; omega⟩
theorem CI.set {t k : Nat} {ds : List PyData} {v : PyData} (h : CI t ds) (hv : TB (101 + t) v) (hk : k = 0 → FirstOk (t + 1) v) : CI (t + 1) (ds.set k v) := by
  refine ⟨by rw [List.length_set]; have := h.1; omega, fun w hw => ?_, fun x hx => ?_⟩
  · cases ds with
    | nil => cases hw
    | cons x r =>
      cases k with
      | zero => cases hw; exact hk rfl
      | succ k => cases hw; exact (h.2.1 _ rfl).mono (by omega)
  · rcases List.mem_or_eq_of_mem_set hx with hx | rfl
    · exact fun l e => by have := h.2.2 x hx l e; omega
    · exact fun l e => by have := hv l e; omega
theorem CI.take {t k : Nat} {ds : List PyData} (h : CI t ds) : CI (t + 1) (ds.take k) := by
  refine ⟨by rw [List.length_take]; have := h.1; omega, fun w hw => ?_, fun x hx => ?_⟩
  · cases ds with
    | nil => rw [List.take_nil] at hw; cases hw
    | cons x r =>
      cases k with
      | zero => cases hw
      | succ k => cases hw; exact (h.2.1 _ rfl).mono (by omega)
  · exact fun l e => by have := h.2.2 x (List.mem_of_mem_take hx) l e; omega
theorem CI.app {t : Nat} {ds : List PyData} {v : PyData} (h : CI t ds) (h0 : 0 < ds.length) (hv : TB 100 v) : CI (t + 1) (ds ++ [v]) := by
  refine ⟨by rw [List.length_append, List.length_singleton]; have := h.1; omega, fun w hw => ?_, fun x hx => ?_⟩
  · cases ds with
    | nil => cases h0
    | cons x r => cases hw; exact (h.2.1 _ rfl).mono (by omega)
  · rcases List.mem_append.mp hx with hx | hx
    · exact fun l e => by have := h.2.2 x hx l e; omega
    · rw [List.mem_singleton.mp hx]
      exact fun l e => by have := hv l e; omega
theorem CI.ins {d : PyData} (h : InsOk d) : ∃ ds, d = .tuple ds ∧ CI 0 ds := by
  obtain ⟨w, a, r, t, rfl, _, _, _, _, hw⟩ := h
  refine ⟨_, rfl, ?_, fun z hz => ?_, ?_⟩
  · rcases hw with ⟨_, rfl⟩ | ⟨_, row, _, _, _, rfl⟩
    · exact Nat.le_of_ble_eq_true rfl
    · exact Nat.le_refl _
  · cases hz
    have : PyData.strOk w = true ∧ w.length ≤ 9 := by
      rcases hw with ⟨rfl | rfl, _⟩ | ⟨rfl, _⟩ <;> decide +kernel
    exact .inl ⟨w, this.1, this.2, .inl rfl⟩
  · intro x hx l e
    subst e
    rcases hw with ⟨_, rfl⟩ | ⟨_, row, _, h2, _, rfl⟩
    · simp at hx
    · have : l = row.map PyData.int := by simpa using hx
      rw [this, List.length_map]
      omega
def wordB (x : PyData) : Bool := [PyData.str "saw", .str "square", .str "steps"].any fun z => PyData.eqv z x
def stepB (x : PyData) : Bool := PyData.eqv x (.str "steps")
def smpB (d : PyData) (a b : Int) : Bool :=
  match d with
  | .tuple l => decide (a ≤ l.length ∧ (l.length : Int) ≤ b) && l.all fun z => cntB z (-8388608) 8388607
  | _ => false
def vI : List PyData → Option PyData
  | w :: a :: b :: r => if wordB w = false then some (.int 0) else if r.length ≠ (if stepB w = true then 1 else 0) then some .none else if cntB a 0 1000 = false then some (.int 1) else if cntB b 0 1000 = false then some (.int 2) else match r with
    | [] => none
    | row :: _ => if smpB row 1 64 = true then none else some (.int 3)
  | _ => some .none
theorem vI_cases {ds : List PyData} {p : PyData} (h : vI ds = some p) : p = .none ∨ p = .int 0 ∨ p = .int 1 ∨ p = .int 2 ∨ p = .int 3 := by
  unfold vI at h
  repeat' (split at h)
  all_goals first
    | (cases h; exact .inl rfl)
    | (cases h; exact .inr (.inl rfl))
    | (cases h; exact .inr (.inr (.inl rfl)))
    | (cases h; exact .inr (.inr (.inr (.inl rfl))))
    | (cases h; exact .inr (.inr (.inr (.inr rfl))))
    | cases h
theorem are_samples {n : Nat} {d : PyData} {a b : Int} (hb : b ≤ 1000) {Q : R → List (List PyData) → Prop} {x : Xc → Prop} (h : Q (.dat (.bool (smpB d a b))) []) : Γ G.T G.C (n + 4) G.I_are_samples [.d d, .d (.int a), .d (.int b)] Q x := by
  refine Γ_body (P := P_are_samples) rfl rfl ?_
  subst_eqs
  refine is_tuple ?_
  cases d with
  | tuple l =>
    have e0 : smpB (.tuple l) a b = (tupB (.tuple l) a b && l.all fun z => cntB z (-8388608) 8388607) := rfl
    have e1 : tupB (.tuple l) a b = decide (a ≤ l.length ∧ (l.length : Int) ≤ b) := rfl
    rw [e0] at h
    by_cases c : tupB (.tuple l) a b = true
    · rw [c] at h ⊢
      rw [e1] at c
      have c := dec_t c
      subst_eqs
      refine lc_map (ds := l) (f := fun p => .bool (cntB p (-8388608) 8388607)) (fun i p c hi hc => ?_) (by rw [List.length_nil]; exact sl_ok (by omega)) ?_
      · subst_eqs
        refine is_sample ?_
        subst_eqs
        exact hc
      rw [List.nil_append]
      subst_eqs
      refine ⟨l.map fun p => cntB p (-8388608) 8388607, by rw [List.map_map]; rfl, ?_⟩
      rw [List.all_map]
      exact h
    · have c : tupB (.tuple l) a b = false := by simpa using c
      rw [c] at h ⊢
      subst_eqs
      exact h
  | _ => subst_eqs; exact h
theorem law_whole {n : Nat} {d : PyData} {a b : Int} {Q : R → List (List PyData) → Prop} {x : Xc → Prop} (h : Q (.dat (.bool (cntB d a b))) []) : Γ G.T G.C (n + 1) G.I__law_whole [.d d, .d (.int a), .d (.int b)] Q x := by
  refine Γ_body (P := P__law_whole) rfl rfl ?_
  cases d with
  | int i =>
    have e0 : cntB (.int i) a b = decide (a ≤ i ∧ i ≤ b) := rfl
    rw [e0] at h
    subst_eqs
    refine both_of (fun e => ?_) (fun e => ?_)
    · have e := dec_t e
      subst_eqs
      rw [show decide (i ≤ b) = decide (a ≤ i ∧ i ≤ b) from decide_eq_decide.mpr (by omega)]
      exact h
    · have e := dec_f e
      subst_eqs
      rw [decide_eq_false (by omega)] at h
      exact h
  | _ => subst_eqs; exact h
theorem cmp_str {w : PyData} {s : Str} {k : Bool → Prop} (h : eqQ w (.str s) k) : cmpQ .eq w (.str s) k := by
  cases w <;> exact h
theorem sh_words : Sh (.tuple [.str "saw", .str "square", .str "steps"]) 1 := ⟨by decide +kernel, by decide +kernel⟩
theorem sh_wordsL : Sh (.list [.str "saw", .str "square", .str "steps"]) 1 := ⟨by decide +kernel, by decide +kernel⟩
theorem sh_steps : Sh (.str "steps") 0 := ⟨by decide +kernel, Nat.le_refl 0⟩
theorem tail_of {r : List PyData} (h : r.length ≤ 3) : r = [] ∨ (∃ c, r = [c]) ∨ (∃ c d, r = [c, d]) ∨ ∃ c d e, r = [c, d, e] := by
  match r, h with
  | [], _ => exact .inl rfl
  | [c], _ => exact .inr (.inl ⟨c, rfl⟩)
  | [c, d], _ => exact .inr (.inr (.inl ⟨c, d, rfl⟩))
  | [c, d, e], _ => exact .inr (.inr (.inr ⟨c, d, e, rfl⟩))
  | _ :: _ :: _ :: _ :: r, h => simp at h
theorem check_instrument {n t : Nat} {ds : List PyData} (hl : ds.length ≤ 6) (hf : ∀ w, ds.head? = some w → FirstOk t w) {Q : R → List (List PyData) → Prop} {x : Xc → Prop} (h : vI ds = none → Q (.dat .none) []) (hx : ∀ p, vI ds = some p → x ⟨G.X_BadInstrument, "BadInstrument", p⟩) : Γ G.T G.C (n + 5) G.I_check_instrument [.d (.tuple ds)] Q x := by
  refine Γ_body (P := P_check_instrument) rfl rfl ?_
  match ds, hl with
  | [], _ => subst_eqs; exact hx _ rfl
  | [_], _ => subst_eqs; exact hx _ rfl
  | [_, _], _ => subst_eqs; exact hx _ rfl
  | w :: a :: b :: r, hl =>
    have sw := (hf w rfl).sh
    clear hf
    have ev : vI (w :: a :: b :: r) = if wordB w = false then some (.int 0) else if r.length ≠ (if stepB w = true then 1 else 0) then some .none else if cntB a 0 1000 = false then some (.int 1) else if cntB b 0 1000 = false then some (.int 2) else match r with
      | [] => none
      | row :: _ => if smpB row 1 64 = true then none else some (.int 3) := rfl
    rw [ev] at h hx
    clear ev
    cases hw : wordB w with
    | false =>
      rw [hw, if_pos rfl] at hx
      rcases tail_of (r := r) (by simp at hl; omega) with rfl | ⟨c, rfl⟩ | ⟨c, d, rfl⟩ | ⟨c, d, e, rfl⟩
      all_goals
        subst_eqs
        refine inQ'_of sw (by decide) sh_words (by decide) hw ?_
        subst_eqs
        exact hx _ rfl
    | true =>
      rw [hw, if_neg (by decide)] at h hx
      cases hs : stepB w with
      | false =>
        rw [hs] at h hx
        rcases tail_of (r := r) (by simp at hl; omega) with rfl | ⟨c, rfl⟩ | ⟨c, d, rfl⟩ | ⟨c, d, e, rfl⟩
        · rw [if_neg (by decide)] at h hx
          subst_eqs
          refine inQ'_of sw (by decide) sh_words (by decide) hw ?_
          subst_eqs
          refine cmp_str (eqQ_of sw (by decide) sh_steps (by decide) hs ?_)
          subst_eqs
          refine is_count ?_
          subst_eqs
          refine both_of (fun q => ?_) (fun q => ?_)
          · have q : cntB a 0 1000 = false := by simpa using q
            rw [q, if_pos rfl] at hx
            subst_eqs
            exact hx _ rfl
          · have q : cntB a 0 1000 = true := by simpa using q
            rw [q, if_neg (by decide)] at h hx
            subst_eqs
            refine is_count ?_
            subst_eqs
            refine both_of (fun q2 => ?_) (fun q2 => ?_)
            · have q2 : cntB b 0 1000 = false := by simpa using q2
              rw [q2, if_pos rfl] at hx
              subst_eqs
              exact hx _ rfl
            · have q2 : cntB b 0 1000 = true := by simpa using q2
              rw [q2, if_neg (by decide)] at h hx
              subst_eqs
              refine cmp_str (eqQ_of sw (by decide) sh_steps (by decide) hs ?_)
              subst_eqs
              exact h rfl
        all_goals
          rw [if_pos (by simp)] at hx
          subst_eqs
          refine inQ'_of sw (by decide) sh_words (by decide) hw ?_
          subst_eqs
          refine cmp_str (eqQ_of sw (by decide) sh_steps (by decide) hs ?_)
          subst_eqs
          exact hx _ rfl
      | true =>
        rw [hs] at h hx
        rcases tail_of (r := r) (by simp at hl; omega) with rfl | ⟨c, rfl⟩ | ⟨c, d, rfl⟩ | ⟨c, d, e, rfl⟩
        rotate_left
        · rw [if_neg (by simp)] at h hx
          subst_eqs
          refine inQ'_of sw (by decide) sh_words (by decide) hw ?_
          subst_eqs
          refine cmp_str (eqQ_of sw (by decide) sh_steps (by decide) hs ?_)
          subst_eqs
          refine is_count ?_
          subst_eqs
          refine both_of (fun q => ?_) (fun q => ?_)
          · have q : cntB a 0 1000 = false := by simpa using q
            rw [q, if_pos rfl] at hx
            subst_eqs
            exact hx _ rfl
          · have q : cntB a 0 1000 = true := by simpa using q
            rw [q, if_neg (by decide)] at h hx
            subst_eqs
            refine is_count ?_
            subst_eqs
            refine both_of (fun q2 => ?_) (fun q2 => ?_)
            · have q2 : cntB b 0 1000 = false := by simpa using q2
              rw [q2, if_pos rfl] at hx
              subst_eqs
              exact hx _ rfl
            · have q2 : cntB b 0 1000 = true := by simpa using q2
              rw [q2, if_neg (by decide)] at h hx
              subst_eqs
              refine cmp_str (eqQ_of sw (by decide) sh_steps (by decide) hs ?_)
              subst_eqs
              refine are_samples (by decide) ?_
              subst_eqs
              refine both_of (fun q3 => ?_) (fun q3 => ?_)
              · have q3 : smpB c 1 64 = false := by simpa using q3
                subst_eqs
                refine hx _ ?_
                show (if smpB c 1 64 = true then none else some (PyData.int 3)) = _
                rw [q3, if_neg (by decide)]
              · have q3 : smpB c 1 64 = true := by simpa using q3
                subst_eqs
                refine h ?_
                show (if smpB c 1 64 = true then none else some (PyData.int 3)) = _
                rw [q3, if_pos rfl]
        all_goals
          rw [if_pos (by simp)] at hx
          subst_eqs
          refine inQ'_of sw (by decide) sh_words (by decide) hw ?_
          subst_eqs
          refine cmp_str (eqQ_of sw (by decide) sh_steps (by decide) hs ?_)
          subst_eqs
          exact hx _ rfl
def dueD (ds : List PyData) : PyData :=
  match vI ds with
  | none => .none
  | some p => .tuple [p]
theorem smp_count {l : List PyData} : decide ((0 : Int) < ((l.filterMap fun z => if cntB z (-8388608) 8388607 = true then none else some z).length : Int)) = !(l.all fun z => cntB z (-8388608) 8388607) := by
  induction l with
  | nil => rfl
  | cons z r ih =>
    rw [List.filterMap_cons, List.all_cons]
    cases c : cntB z (-8388608) 8388607 with
    | true =>
      rw [Bool.true_and, if_pos rfl]
      exact ih
    | false =>
      rw [if_neg (by decide), Bool.false_and]
      refine decide_eq_true ?_
      rw [List.length_cons]
      omega
theorem law_due {n t : Nat} {ds : List PyData} (hl : ds.length ≤ 6) (hf : ∀ w, ds.head? = some w → FirstOk t w) {Q : R → List (List PyData) → Prop} {x : Xc → Prop} (h : Q (.dat (dueD ds)) []) : Γ G.T G.C (n + 2) G.I__law_due [.d (.tuple ds)] Q x := by
  refine Γ_body (P := P__law_due) rfl rfl ?_
  unfold dueD at h
  match ds, hl with
  | [], _ => subst_eqs; exact h
  | [_], _ => subst_eqs; exact h
  | [_, _], _ => subst_eqs; exact h
  | w :: a :: b :: r, hl =>
    have sw := (hf w rfl).sh
    clear hf
    have ev : vI (w :: a :: b :: r) = if wordB w = false then some (.int 0) else if r.length ≠ (if stepB w = true then 1 else 0) then some .none else if cntB a 0 1000 = false then some (.int 1) else if cntB b 0 1000 = false then some (.int 2) else match r with
      | [] => none
      | row :: _ => if smpB row 1 64 = true then none else some (.int 3) := rfl
    rw [ev] at h
    clear ev
    cases hw : wordB w with
    | false =>
      rw [hw, if_pos rfl] at h
      rcases tail_of (r := r) (by simp at hl; omega) with rfl | ⟨c, rfl⟩ | ⟨c, d, rfl⟩ | ⟨c, d, e, rfl⟩
      all_goals
        subst_eqs
        refine inQ_of sw (by decide) sh_wordsL (by decide) hw ?_
        subst_eqs
        exact h
    | true =>
      rw [hw, if_neg (by decide)] at h
      cases hs : stepB w with
      | false =>
        rw [hs] at h
        rcases tail_of (r := r) (by simp at hl; omega) with rfl | ⟨c, rfl⟩ | ⟨c, d, rfl⟩ | ⟨c, d, e, rfl⟩
        · rw [if_neg (by decide)] at h
          subst_eqs
          refine inQ_of sw (by decide) sh_wordsL (by decide) hw ?_
          subst_eqs
          refine cmp_str (eqQ_of sw (by decide) sh_steps (by decide) hs ?_)
          subst_eqs
          refine law_whole ?_
          subst_eqs
          refine both_of (fun q => ?_) (fun q => ?_)
          · have q : cntB a 0 1000 = false := by simpa using q
            rw [q, if_pos rfl] at h
            subst_eqs
            exact h
          · have q : cntB a 0 1000 = true := by simpa using q
            rw [q, if_neg (by decide)] at h
            subst_eqs
            refine law_whole ?_
            subst_eqs
            refine both_of (fun q2 => ?_) (fun q2 => ?_)
            · have q2 : cntB b 0 1000 = false := by simpa using q2
              rw [q2, if_pos rfl] at h
              subst_eqs
              exact h
            · have q2 : cntB b 0 1000 = true := by simpa using q2
              rw [q2, if_neg (by decide)] at h
              subst_eqs
              exact h
        all_goals
          rw [if_pos (by simp)] at h
          subst_eqs
          refine inQ_of sw (by decide) sh_wordsL (by decide) hw ?_
          subst_eqs
          refine cmp_str (eqQ_of sw (by decide) sh_steps (by decide) hs ?_)
          subst_eqs
          exact h
      | true =>
        rw [hs] at h
        rcases tail_of (r := r) (by simp at hl; omega) with rfl | ⟨c, rfl⟩ | ⟨c, d, rfl⟩ | ⟨c, d, e, rfl⟩
        rotate_left
        · rw [if_neg (by simp)] at h
          subst_eqs
          refine inQ_of sw (by decide) sh_wordsL (by decide) hw ?_
          subst_eqs
          refine cmp_str (eqQ_of sw (by decide) sh_steps (by decide) hs ?_)
          subst_eqs
          refine law_whole ?_
          subst_eqs
          refine both_of (fun q => ?_) (fun q => ?_)
          · have q : cntB a 0 1000 = false := by simpa using q
            rw [q, if_pos rfl] at h
            subst_eqs
            exact h
          · have q : cntB a 0 1000 = true := by simpa using q
            rw [q, if_neg (by decide)] at h
            subst_eqs
            refine law_whole ?_
            subst_eqs
            refine both_of (fun q2 => ?_) (fun q2 => ?_)
            · have q2 : cntB b 0 1000 = false := by simpa using q2
              rw [q2, if_pos rfl] at h
              subst_eqs
              exact h
            · have q2 : cntB b 0 1000 = true := by simpa using q2
              rw [q2, if_neg (by decide)] at h
              have h : Q (.dat (match (if smpB c 1 64 = true then none else some (PyData.int 3)) with
                | none => .none
                | some p => .tuple [p])) [] := h
              cases c with
              | tuple l =>
                have e0 : smpB (.tuple l) 1 64 = (decide ((1 : Int) ≤ l.length ∧ (l.length : Int) ≤ 64) && l.all fun z => cntB z (-8388608) 8388607) := rfl
                rw [e0] at h
                by_cases c : (1 : Int) ≤ l.length ∧ (l.length : Int) ≤ 64
                · rw [decide_eq_true c, Bool.true_and] at h
                  subst_eqs
                  rw [decide_eq_true c.1]
                  subst_eqs
                  rw [decide_eq_true c.2]
                  subst_eqs
                  refine lc_filter (ds := l) (f := fun z => if cntB z (-8388608) 8388607 = true then none else some z) (fun i p c hi hc => ?_) (by rw [List.length_nil]; exact sl_ok (by omega)) ?_
                  · subst_eqs
                    refine law_whole ?_
                    subst_eqs
                    refine both_of (fun q => ?_) (fun q => ?_)
                    · have q : cntB p (-8388608) 8388607 = false := by simpa using q
                      rw [q, if_neg (by decide)] at hc
                      subst_eqs
                      exact hc
                    · have q : cntB p (-8388608) 8388607 = true := by simpa using q
                      rw [q, if_pos rfl] at hc
                      subst_eqs
                      exact hc
                  rw [List.nil_append]
                  subst_eqs
                  rw [smp_count]
                  refine both_of (fun q => ?_) (fun q => ?_)
                  · have q : (l.all fun z => cntB z (-8388608) 8388607) = false := by simpa using q
                    rw [q, if_neg (by decide)] at h
                    subst_eqs
                    exact h
                  · have q : (l.all fun z => cntB z (-8388608) 8388607) = true := by simpa using q
                    rw [q, if_pos rfl] at h
                    subst_eqs
                    exact h
                · rw [decide_eq_false c, Bool.false_and, if_neg (by decide)] at h
                  by_cases c1 : (1 : Int) ≤ l.length
                  · subst_eqs
                    rw [decide_eq_true c1]
                    subst_eqs
                    rw [decide_eq_false (show ¬ (l.length : Int) ≤ 64 by omega)]
                    subst_eqs
                    exact h
                  · subst_eqs
                    rw [decide_eq_false c1]
                    subst_eqs
                    exact h
              | _ =>
                subst_eqs
                exact h
        all_goals
          rw [if_pos (by simp)] at h
          subst_eqs
          refine inQ_of sw (by decide) sh_wordsL (by decide) hw ?_
          subst_eqs
          refine cmp_str (eqQ_of sw (by decide) sh_steps (by decide) hs ?_)
          subst_eqs
          exact h
theorem flat_len {k : Nat} {l : List PyData} : (List.replicate k l).flatten.length = k * l.length := by
  rw [List.length_flatten, List.map_replicate, List.sum_replicate_nat]
theorem four_of {ds : List PyData} : (∃ a b c l, ds = [a, b, c, .tuple l]) ∨ (∃ a b c d, ds = [a, b, c, d] ∧ isTy d .tuple = false) ∨ ¬ (ds.length : Int) = 4 := by
  match ds with
  | [a, b, c, d] =>
    cases d with
    | tuple l => exact .inl ⟨a, b, c, l, rfl⟩
    | _ => exact .inr (.inl ⟨a, b, c, _, rfl, rfl⟩)
  | [] => exact .inr (.inr (by decide))
  | [_] => exact .inr (.inr (by simp))
  | [_, _] => exact .inr (.inr (by simp))
  | [_, _, _] => exact .inr (.inr (by simp))
  | _ :: _ :: _ :: _ :: _ :: r => exact .inr (.inr (by simp only [List.length_cons]; omega))
theorem law_changed {n t : Nat} {l ds : List PyData} (hl : IsDk l) (ht : t ≤ 4) (ok : CI t ds) (h0 : 0 < ds.length) {Q : R → List (List PyData) → Prop} {x : Xc → Prop} (h : ∀ ds' l', CI (t + 1) ds' → IsDk l' → Q (.dat (.tuple ds')) [l']) : Γ G.T G.C (n + 2) G.I__law_changed [.m l, .d (.tuple ds)] Q x := by
  refine Γ_body (P := P__law_changed) rfl rfl ?_
  have hn := ok.1
  subst_eqs
  refine draw hl (by omega) fun z l hz0 hz1 hl => ?_
  have hz : z = 0 ∨ z = 1 ∨ z = 2 ∨ z = 3 ∨ z = 4 ∨ z = 5 := by omega
  clear hz0 hz1
  rcases hz with rfl | rfl | rfl | rfl | rfl | rfl
  · match ds, h0, ok, hn with
    | w :: r, h0, ok, hn =>
      have hw := ok.2.1 _ rfl
      subst_eqs
      refine draw hl (by omega) fun z2 l hz2 hy2 hl => ?_
      subst_eqs
      have hc : ∃ c, atI (Str.ofString "abcdefghijklmnopqrstuvwxyz").cps.toList z2 = some c ∧ PyData.strOk ⟨#[c]⟩ = true := by
        obtain ⟨c, hc, e⟩ := atI_any (l := (Str.ofString "abcdefghijklmnopqrstuvwxyz").cps.toList) (i := z2) (by omega) (by show z2 < ((26 : Nat) : Int); omega)
        have hall : ∀ c ∈ (Str.ofString "abcdefghijklmnopqrstuvwxyz").cps.toList, PyData.strOk ⟨#[c]⟩ = true := by decide +kernel
        exact ⟨c, e, hall c hc⟩
      obtain ⟨c, e, hcs⟩ := hc
      refine ⟨c, e, ?_⟩
      clear e
      have l1 : (⟨#[c]⟩ : Str).length = 1 := rfl
      generalize (⟨#[c]⟩ : Str) = le at hcs l1 ⊢
      subst_eqs
      refine if_join Γ_mono (fun env => ∃ s : Str, PyData.strOk s = true ∧ s.length ≤ 9 + t ∧ env = [.mu 0 l, .dat (.tuple (w :: r)), .own (w :: r), .dat (.int 0), .dat (.str le), .dat (.str s), .no, .no]) (fun e => ?_) (fun e => ?_) ?_
      · cases w with
        | str s =>
          subst_eqs
          rcases hw with ⟨s', hs, hsl, hw | hw | hw⟩ | hw | hw | hw <;> cases hw
          exact ⟨s, hs, hsl, rfl⟩
        | _ => cases e
      · subst_eqs
        exact ⟨"saw", by decide +kernel, by show 3 ≤ _; omega, rfl⟩
      · rintro env ⟨s, hs, hsl, rfl⟩
        subst_eqs
        refine ⟨sl_ok (by omega), ?_⟩
        subst_eqs
        refine ⟨sl_ok (by omega), ?_⟩
        subst_eqs
        refine ⟨sl_ok (by omega), ?_⟩
        subst_eqs
        refine draw hl (by omega) fun z3 l hz3 hy3 hl => ?_
        subst_eqs
        have a1 : (s ++ le).length = s.length + le.length := Array.size_append
        have a2 : (le ++ s).length = le.length + s.length := Array.size_append
        have a3 := cutS_len (z := s) (lo := none) (hi := some (-1))
        have S : ∀ u : Str, PyData.strOk u = true → u.length ≤ 10 + t → FirstOk (t + 1) (.str u) := fun u hu hul => .inl ⟨u, hu, by omega, .inl rfl⟩
        refine pick (FirstOk (t + 1)) hz3 hy3 ⟨S _ (by decide +kernel) (by show 4 ≤ _; omega), S _ (by decide +kernel) (by show 0 ≤ _; omega), S _ (by decide +kernel) (by show 3 ≤ _; omega), S _ (by decide +kernel) (by show 5 ≤ _; omega), S _ (by decide +kernel) (by show 3 ≤ _; omega), S _ (strOk_app hs hcs) (by omega), S _ (cutS_ok hs) (by omega), S _ (strOk_app hcs hs) (by omega), .inr (.inl rfl), .inr (.inr (.inl rfl)), .inr (.inr (.inr rfl)), .inl ⟨s, hs, by omega, .inr (.inl rfl)⟩, .inl ⟨s, hs, by omega, .inr (.inr rfl)⟩, trivial⟩ fun v hv => ?_
        subst_eqs
        refine ⟨_, ixN_int (by omega) (by simp only [List.length_cons]; omega), ?_⟩
        subst_eqs
        exact h _ _ (ok.set (k := 0) (hv.tb (by omega)) fun _ => hv) hl
  · subst_eqs
    refine both_of (fun e => ?_) (fun e => ?_)
    · have e := dec_t e
      subst_eqs
      refine draw hl (by omega) fun z2 l hz2 hy2 hl => ?_
      subst_eqs
      refine pick (TB 100) hz2 hy2 ⟨(fun l e => by cases e), (fun l e => by cases e), (fun l e => by cases e), (fun l e => by cases e), (fun l e => by cases e), (fun l e => by cases e), (fun l e => by cases e; decide), trivial⟩ fun v hv => ?_
      subst_eqs
      refine draw hl (by omega) fun z3 l hz3 hy3 hl => ?_
      subst_eqs
      refine ⟨_, ixN_int (by omega) (by omega), ?_⟩
      subst_eqs
      exact h _ _ (ok.set (fun l e => by have := hv l e; omega) fun q => absurd q (by omega)) hl
    · subst_eqs
      exact h _ _ (ok.mono (by omega)) hl
  · rcases four_of (ds := ds) with ⟨a, b, c, row, rfl⟩ | ⟨a, b, c, d, rfl, hd⟩ | hne
    · have hr := ok.2.2 _ (by simp : (PyData.tuple row) ∈ [a, b, c, .tuple row]) row rfl
      subst_eqs
      refine ⟨by omega, by omega, ?_⟩
      subst_eqs
      generalize hbig : (List.replicate _ row).flatten = big
      have hb : big.length ≤ 7000 := by
        rw [← hbig, flat_len, show Int.toNat 65 = 65 from rfl]
        omega
      clear hbig
      subst_eqs
      refine draw hl (by omega) fun z2 l hz2 hy2 hl => ?_
      subst_eqs
      have C : ∀ k : Nat, k ≤ 65 → TB 100 (.tuple (cutD big none (some (k : Int)))) := fun k hk l e => by
        cases e
        have := cut_take (ds := big) (i := (k : Int)) (by omega)
        rw [this, List.length_take]
        omega
      refine pick (TB 100) hz2 hy2 ⟨C 64 (by omega), C 65 (by omega), (fun l e => by cases e; decide), (fun l e => by cases e), (fun l e => by cases e), (fun l e => by cases e), C 1 (by omega), trivial⟩ fun v hv => ?_
      subst_eqs
      exact h _ _ (ok.set (k := 3) (fun l e => by have := hv l e; omega) fun q => absurd q (by omega)) hl
    · cases d with
      | tuple l => cases hd
      | _ =>
        subst_eqs
        exact h _ _ (ok.mono (by omega)) hl
    · subst_eqs
      rw [decide_eq_false hne]
      subst_eqs
      exact h _ _ (ok.mono (by omega)) hl
  · rcases four_of (ds := ds) with ⟨a, b, c, row, rfl⟩ | ⟨a, b, c, d, rfl, hd⟩ | hne
    · have hr := ok.2.2 _ (by simp : (PyData.tuple row) ∈ [a, b, c, .tuple row]) row rfl
      subst_eqs
      refine draw hl (by omega) fun z2 l hz2 hy2 hl => ?_
      subst_eqs
      refine pick (fun _ => True) hz2 hy2 ⟨trivial, trivial, trivial, trivial, trivial, trivial, trivial, trivial⟩ fun v _ => ?_
      subst_eqs
      refine ⟨sl_ok (by rw [List.length_singleton]; omega), ?_⟩
      subst_eqs
      exact h _ _ (ok.set (k := 3) (fun l e => by cases e; rw [List.length_append, List.length_singleton]; omega) fun q => absurd q (by omega)) hl
    · cases d with
      | tuple l => cases hd
      | _ =>
        subst_eqs
        exact h _ _ (ok.mono (by omega)) hl
    · subst_eqs
      rw [decide_eq_false hne]
      subst_eqs
      exact h _ _ (ok.mono (by omega)) hl
  · subst_eqs
    refine draw hl (by omega) fun z2 l hz2 hy2 hl => ?_
    subst_eqs
    rw [cut_take hz2]
    exact h _ _ ok.take hl
  · subst_eqs
    refine ⟨sl_lt (by omega), ?_⟩
    subst_eqs
    exact h _ _ (ok.app h0 fun l e => by cases e; decide) hl
theorem prom_law (ns : List Int) (h1 : ns.length ≤ 63) (_ : ∀ k ∈ ns, Builtin.Int.intBits k ≤ 1048576) : Γ G.T G.C 12 G.I_law [.d (.list (ns.map PyData.int))] (fun r _ => r = .dat (.bool true)) (fun _ => False) := by
  refine Γ_body (P := P_law) rfl rfl ?_
  subst_eqs
  refine deck fun l hl => ?_
  subst_eqs
  refine instrument hl fun d l hd hl => ?_
  obtain ⟨ds, rfl, ok⟩ := CI.ins hd
  clear hd
  subst_eqs
  refine draw hl (by omega) fun z1 l hz1 hy1 hl => ?_
  subst_eqs
  refine if_join Γ_mono (fun env => ∃ (l ds : List PyData) (s5 : Sl), env = [.dat (.list (ns.map PyData.int)), .own l, .dat (.tuple ds), .no, .no, s5, .no] ∧ CI 2 ds ∧ (s5 = .no ∨ ∃ d, s5 = .dat d)) (fun e => ?_) (fun e => ?_) ?_
  · subst_eqs
    refine draw hl (by omega) fun z2 l hz2 hy2 hl => ?_
    subst_eqs
    refine for_inv (fun i env => ∃ (l ds : List PyData) (s5 : Sl), env = [.dat (.list (ns.map PyData.int)), .own l, .dat (.tuple ds), .no, .no, s5, .no] ∧ CI i ds ∧ IsDk l ∧ (s5 = .no ∨ ∃ d, s5 = .dat d)) ⟨l, ds, _, rfl, ok, hl, .inl rfl⟩ ?_ ?_
    · rintro i d env c hd ⟨l, ds, s5, rfl, ok, hl, _⟩ z
      obtain ⟨hi, rfl⟩ := range_get hd
      clear hd
      subst_eqs
      refine both_of (fun e => ?_) (fun e => ?_)
      · have e := dec_t e
        subst_eqs
        refine law_changed hl (by omega) ok (by omega) fun ds' l' ok' hl' => ?_
        subst_eqs
        exact z _ ⟨l', ds', _, rfl, ok', hl', .inr ⟨_, rfl⟩⟩
      · subst_eqs
        exact z _ ⟨l, ds, _, rfl, ok.mono (by omega), hl, .inr ⟨_, rfl⟩⟩
    · rintro env ⟨l, ds, s5, rfl, ok, hl, hs⟩
      rw [range_len] at ok
      subst_eqs
      exact ⟨l, ds, s5, rfl, ok.mono (by omega), hs⟩
  · subst_eqs
    exact ⟨l, ds, _, rfl, ok.mono (by omega), .inl rfl⟩
  rintro env ⟨l, ds, s5, rfl, ok, hs⟩
  have hn := ok.1
  rcases hs with rfl | ⟨d5, rfl⟩
  all_goals
    subst_eqs
    refine law_due (by omega) ok.2.1 ?_
    subst_eqs
    refine check_instrument (by omega) ok.2.1 (fun hv => ?_) (fun p hv => ?_)
    · have e : dueD ds = .none := by unfold dueD; rw [hv]
      rw [e]
      subst_eqs
      rfl
    · have e : dueD ds = .tuple [p] := by unfold dueD; rw [hv]
      rw [e]
      rcases vI_cases hv with rfl | rfl | rfl | rfl | rfl
      · subst_eqs
        refine eqQ_cl true (by decide +kernel) ?_
        subst_eqs
        refine eqQ_cl true (by decide +kernel) ?_
        subst_eqs
        rfl
      all_goals
        subst_eqs
        refine eqQ_cl true (by decide +kernel) ?_
        subst_eqs
        rfl
end Pi

namespace Pi
open PySem L2 PySem.Spec PyProof.Rows
section
variable {K : PySem.W.Frag} {h : Heap} {mg : Str → Option Value}
theorem all_mk {Pg : Program} {w : World} {n : Nat} {fa : Addr} (X : K.In h) (hG : h.Ns mainGlobals mg) (hfa : mg "law" = some (.ref fa))
    (prom : ∀ ns : List Int, ns.length ≤ 63 → (∀ k ∈ ns, Builtin.Int.intBits k ≤ 1048576) → Γ G.T G.C n G.I_law [.d (.list (ns.map PyData.int))] (fun r _ => r = .dat (.bool true)) (fun _ => False))
    {f0 : Addr} {od0 an0 : Option Addr} {sl0 : Array (Option Value)} {oc0 kV0 dc0 pm0 cd0 ct0 : Value}
    (a0 : PySem.W.nsIn K mainGlobals "is_integer" = some (some (.ref f0))) (l0 : K.lookup f0 = some ⟨oc0, od0, .func (PySem.W.fnOf "is_integer" "is_integer" (defArgs (G.top 7)) (defBody (G.top 7)) (defScope (G.top 7)) .none kV0 dc0 pm0 an0 cd0 ct0), sl0⟩) (c0 : PySem.W.codeIn K cd0 "is_integer" = true) (k0 : PySem.W.keepIn K (.ref f0) = true)
    {f1 : Addr} {od1 an1 : Option Addr} {sl1 : Array (Option Value)} {oc1 kV1 dc1 pm1 cd1 ct1 : Value}
    (a1 : PySem.W.nsIn K mainGlobals "is_count" = some (some (.ref f1))) (l1 : K.lookup f1 = some ⟨oc1, od1, .func (PySem.W.fnOf "is_count" "is_count" (defArgs (G.top 8)) (defBody (G.top 8)) (defScope (G.top 8)) .none kV1 dc1 pm1 an1 cd1 ct1), sl1⟩) (c1 : PySem.W.codeIn K cd1 "is_count" = true) (k1 : PySem.W.keepIn K (.ref f1) = true)
    {f2 : Addr} {od2 an2 : Option Addr} {sl2 : Array (Option Value)} {oc2 kV2 dc2 pm2 cd2 ct2 : Value}
    (a2 : PySem.W.nsIn K mainGlobals "is_sample" = some (some (.ref f2))) (l2 : K.lookup f2 = some ⟨oc2, od2, .func (PySem.W.fnOf "is_sample" "is_sample" (defArgs (G.top 9)) (defBody (G.top 9)) (defScope (G.top 9)) .none kV2 dc2 pm2 an2 cd2 ct2), sl2⟩) (c2 : PySem.W.codeIn K cd2 "is_sample" = true) (k2 : PySem.W.keepIn K (.ref f2) = true)
    {f3 : Addr} {od3 an3 : Option Addr} {sl3 : Array (Option Value)} {oc3 kV3 dc3 pm3 cd3 ct3 : Value}
    (a3 : PySem.W.nsIn K mainGlobals "is_tuple" = some (some (.ref f3))) (l3 : K.lookup f3 = some ⟨oc3, od3, .func (PySem.W.fnOf "is_tuple" "is_tuple" (defArgs (G.top 10)) (defBody (G.top 10)) (defScope (G.top 10)) .none kV3 dc3 pm3 an3 cd3 ct3), sl3⟩) (c3 : PySem.W.codeIn K cd3 "is_tuple" = true) (k3 : PySem.W.keepIn K (.ref f3) = true)
    {f4 : Addr} {od4 an4 : Option Addr} {sl4 : Array (Option Value)} {oc4 kV4 dc4 pm4 cd4 ct4 : Value}
    (a4 : PySem.W.nsIn K mainGlobals "are_samples" = some (some (.ref f4))) (l4 : K.lookup f4 = some ⟨oc4, od4, .func (PySem.W.fnOf "are_samples" "are_samples" (defArgs (G.top 11)) (defBody (G.top 11)) (defScope (G.top 11)) .none kV4 dc4 pm4 an4 cd4 ct4), sl4⟩) (c4 : PySem.W.codeIn K cd4 "are_samples" = true) (k4 : PySem.W.keepIn K (.ref f4) = true)
    {f5 : Addr} {od5 an5 : Option Addr} {sl5 : Array (Option Value)} {oc5 kV5 dc5 pm5 cd5 ct5 : Value}
    (a5 : PySem.W.nsIn K mainGlobals "check_instrument" = some (some (.ref f5))) (l5 : K.lookup f5 = some ⟨oc5, od5, .func (PySem.W.fnOf "check_instrument" "check_instrument" (defArgs (G.top 15)) (defBody (G.top 15)) (defScope (G.top 15)) .none kV5 dc5 pm5 an5 cd5 ct5), sl5⟩) (c5 : PySem.W.codeIn K cd5 "check_instrument" = true) (k5 : PySem.W.keepIn K (.ref f5) = true)
    {f6 : Addr} {od6 an6 : Option Addr} {sl6 : Array (Option Value)} {oc6 kV6 dc6 pm6 cd6 ct6 : Value}
    (a6 : PySem.W.nsIn K mainGlobals "_law_deck" = some (some (.ref f6))) (l6 : K.lookup f6 = some ⟨oc6, od6, .func (PySem.W.fnOf "_law_deck" "_law_deck" (defArgs (G.top 17)) (defBody (G.top 17)) (defScope (G.top 17)) .none kV6 dc6 pm6 an6 cd6 ct6), sl6⟩) (c6 : PySem.W.codeIn K cd6 "_law_deck" = true) (k6 : PySem.W.keepIn K (.ref f6) = true)
    {f7 : Addr} {od7 an7 : Option Addr} {sl7 : Array (Option Value)} {oc7 kV7 dc7 pm7 cd7 ct7 : Value}
    (a7 : PySem.W.nsIn K mainGlobals "_law_draw" = some (some (.ref f7))) (l7 : K.lookup f7 = some ⟨oc7, od7, .func (PySem.W.fnOf "_law_draw" "_law_draw" (defArgs (G.top 18)) (defBody (G.top 18)) (defScope (G.top 18)) .none kV7 dc7 pm7 an7 cd7 ct7), sl7⟩) (c7 : PySem.W.codeIn K cd7 "_law_draw" = true) (k7 : PySem.W.keepIn K (.ref f7) = true)
    {f8 : Addr} {od8 an8 : Option Addr} {sl8 : Array (Option Value)} {oc8 kV8 dc8 pm8 cd8 ct8 : Value}
    (a8 : PySem.W.nsIn K mainGlobals "_law_instrument" = some (some (.ref f8))) (l8 : K.lookup f8 = some ⟨oc8, od8, .func (PySem.W.fnOf "_law_instrument" "_law_instrument" (defArgs (G.top 19)) (defBody (G.top 19)) (defScope (G.top 19)) .none kV8 dc8 pm8 an8 cd8 ct8), sl8⟩) (c8 : PySem.W.codeIn K cd8 "_law_instrument" = true) (k8 : PySem.W.keepIn K (.ref f8) = true)
    {f9 : Addr} {od9 an9 : Option Addr} {sl9 : Array (Option Value)} {oc9 kV9 dc9 pm9 cd9 ct9 : Value}
    (a9 : PySem.W.nsIn K mainGlobals "_law_whole" = some (some (.ref f9))) (l9 : K.lookup f9 = some ⟨oc9, od9, .func (PySem.W.fnOf "_law_whole" "_law_whole" (defArgs (G.top 20)) (defBody (G.top 20)) (defScope (G.top 20)) .none kV9 dc9 pm9 an9 cd9 ct9), sl9⟩) (c9 : PySem.W.codeIn K cd9 "_law_whole" = true) (k9 : PySem.W.keepIn K (.ref f9) = true)
    {f10 : Addr} {od10 an10 : Option Addr} {sl10 : Array (Option Value)} {oc10 kV10 dc10 pm10 cd10 ct10 : Value}
    (a10 : PySem.W.nsIn K mainGlobals "_law_due" = some (some (.ref f10))) (l10 : K.lookup f10 = some ⟨oc10, od10, .func (PySem.W.fnOf "_law_due" "_law_due" (defArgs (G.top 21)) (defBody (G.top 21)) (defScope (G.top 21)) .none kV10 dc10 pm10 an10 cd10 ct10), sl10⟩) (c10 : PySem.W.codeIn K cd10 "_law_due" = true) (k10 : PySem.W.keepIn K (.ref f10) = true)
    {f11 : Addr} {od11 an11 : Option Addr} {sl11 : Array (Option Value)} {oc11 kV11 dc11 pm11 cd11 ct11 : Value}
    (a11 : PySem.W.nsIn K mainGlobals "_law_changed" = some (some (.ref f11))) (l11 : K.lookup f11 = some ⟨oc11, od11, .func (PySem.W.fnOf "_law_changed" "_law_changed" (defArgs (G.top 22)) (defBody (G.top 22)) (defScope (G.top 22)) .none kV11 dc11 pm11 an11 cd11 ct11), sl11⟩) (c11 : PySem.W.codeIn K cd11 "_law_changed" = true) (k11 : PySem.W.keepIn K (.ref f11) = true)
    {f12 : Addr} {od12 an12 : Option Addr} {sl12 : Array (Option Value)} {oc12 kV12 dc12 pm12 cd12 ct12 : Value}
    (a12 : PySem.W.nsIn K mainGlobals "law" = some (some (.ref f12))) (l12 : K.lookup f12 = some ⟨oc12, od12, .func (PySem.W.fnOf "law" "law" (defArgs (G.top 23)) (defBody (G.top 23)) (defScope (G.top 23)) .none kV12 dc12 pm12 an12 cd12 ct12), sl12⟩) (c12 : PySem.W.codeIn K cd12 "law" = true) (k12 : PySem.W.keepIn K (.ref f12) = true)
    (z0 : PySem.W.nsIn K mainGlobals "isinstance" = some none)
    (z1 : PySem.W.nsIn K mainGlobals "bool" = some none)
    (z2 : PySem.W.nsIn K mainGlobals "int" = some none)
    (z3 : PySem.W.nsIn K mainGlobals "len" = some none)
    (z4 : PySem.W.nsIn K mainGlobals "tuple" = some none)
    (z5 : PySem.W.nsIn K mainGlobals "all" = some none)
    (z6 : PySem.W.nsIn K mainGlobals "list" = some none)
    (z7 : PySem.W.nsIn K mainGlobals "abs" = some none)
    (z8 : PySem.W.nsIn K mainGlobals "range" = some none)
    (z9 : PySem.W.nsIn K mainGlobals "str" = some none)
    {t0 : Tok} (gc0 : PySem.W.nsIn K mainGlobals "SAMPLE_LEAST" = some (some (.int (-8388608) t0)))
    {t1 : Tok} (gc1 : PySem.W.nsIn K mainGlobals "SAMPLE_MOST" = some (some (.int 8388607 t1)))
    {t2 : Tok} (gc2 : PySem.W.nsIn K mainGlobals "RAMP_MOST" = some (some (.int 1000 t2)))
    {t3 : Tok} (gc3 : PySem.W.nsIn K mainGlobals "ROW_MOST" = some (some (.int 64 t3)))
    {C_BadVoices : Addr} (ax_BadVoices : PySem.W.nsIn K mainGlobals "BadVoices" = some (some (.ref C_BadVoices)))
    {C_SoundError F_SoundError T_SoundError : Addr}
    (ax_SoundError : PySem.W.nsIn K mainGlobals "SoundError" = some (some (.ref C_SoundError)))
    (sp_SoundError : PySem.W.specialIn K (.ref C_SoundError) "__getattribute__" = some (some (.builtin "type.__getattribute__"))) (rd_SoundError : PySem.W.readsIn K C_SoundError (.type "type") = true) (fi_SoundError : PySem.W.findCls K (.ref C_SoundError) (.type "type") "__init__" = some (.val (.ref F_SoundError))) (kf_SoundError : PySem.W.keepIn K (.ref F_SoundError) = true)
    {odx_SoundError anx_SoundError : Option Addr} {slx_SoundError : Array (Option Value)} {ocx_SoundError kVx_SoundError dcx_SoundError pmx_SoundError cdx_SoundError ctx_SoundError : Value}
    (fl_SoundError : K.lookup F_SoundError = some ⟨ocx_SoundError, odx_SoundError, .func (PySem.W.fnOf "__init__" "SoundError.__init__" (defArgs (G.ini 1)) (defBody (G.ini 1)) (defScope (G.ini 1)) (.ref T_SoundError) kVx_SoundError dcx_SoundError pmx_SoundError anx_SoundError cdx_SoundError ctx_SoundError), slx_SoundError⟩) (fc_SoundError : PySem.W.codeIn K cdx_SoundError "SoundError.__init__" = true)
    {oct_SoundError : Value} {odt_SoundError : Option Addr} {nt_SoundError : Nat} {slt_SoundError : Array (Option Value)} (dt_SoundError : K.lookup T_SoundError = some ⟨oct_SoundError, odt_SoundError, .seq #[.none] nt_SoundError, slt_SoundError⟩)
    {C_BadInstrument F_BadInstrument T_BadInstrument N_BadInstrument : Addr} {nm_BadInstrument qn_BadInstrument : Str} {bs_BadInstrument bm_BadInstrument sb_BadInstrument : List Value} {sn_BadInstrument : List Str} {ab_BadInstrument : Bool} {co_BadInstrument : Option Bool} {dd_BadInstrument : Option Addr} {ya_BadInstrument yb_BadInstrument yc_BadInstrument yd_BadInstrument ye_BadInstrument : Option Value}
    (ax_BadInstrument : PySem.W.nsIn K mainGlobals "BadInstrument" = some (some (.ref C_BadInstrument)))
    (lx_BadInstrument : K.lookup C_BadInstrument = some (excClassObj nm_BadInstrument qn_BadInstrument C_BadInstrument N_BadInstrument bs_BadInstrument bm_BadInstrument true sn_BadInstrument sb_BadInstrument ab_BadInstrument co_BadInstrument dd_BadInstrument ya_BadInstrument yb_BadInstrument yc_BadInstrument yd_BadInstrument ye_BadInstrument "ValueError.__new__")) (rx_BadInstrument : PySem.HandSPX.refsVE bm_BadInstrument = true)
    (sa_BadInstrument : PySem.W.findIn K (.ref C_BadInstrument) "__setattr__" = some (some (.builtin "object.__setattr__")))
    (ec_BadInstrument : PySem.W.subIn K (.ref C_BadInstrument) (.type "BaseException") = some true)
    (ty_BadInstrument : PySem.W.typeIn K (.ref C_BadInstrument) = some (.type "type"))
    (kc_BadInstrument : PySem.W.keepIn K (.ref C_BadInstrument) = true)
    (ga_BadInstrument : PySem.W.findIn K (.ref C_BadInstrument) "__getattribute__" = some (some (.builtin "BaseException.__getattribute__")))
    (gg_BadInstrument : PySem.W.findIn K (.ref C_BadInstrument) "__getattr__" = some none)
    (hd_BadInstrument : PySem.W.hasDictIn K C_BadInstrument = true)
    (wd_BadInstrument : PySem.W.findIn K (.ref C_BadInstrument) "word" = some none)
    (pl_BadInstrument : PySem.W.findIn K (.ref C_BadInstrument) "place" = some none)
    (cl_BadInstrument : (PySem.W.clsIn K C_BadInstrument).isSome = true)
    (cc_BadInstrument : PySem.W.findIn K (.ref C_BadInstrument) "__class__" = some (some (.builtin "object.__class__")))
    (mo_BadInstrument : PySem.W.mroIn K C_BadInstrument (.type "object") = some true)
    (in_BadInstrument : PySem.W.findIn K (.ref C_BadInstrument) "__init__" = some (some (.ref F_BadInstrument))) (tf_BadInstrument : PySem.W.typeIn K (.ref F_BadInstrument) = some (.type "function"))
    {odx_BadInstrument anx_BadInstrument : Option Addr} {slx_BadInstrument : Array (Option Value)} {ocx_BadInstrument kVx_BadInstrument dcx_BadInstrument pmx_BadInstrument cdx_BadInstrument ctx_BadInstrument : Value}
    (fl_BadInstrument : K.lookup F_BadInstrument = some ⟨ocx_BadInstrument, odx_BadInstrument, .func (PySem.W.fnOf "__init__" "BadInstrument.__init__" (defArgs (G.ini 2)) (defBody (G.ini 2)) (defScope (G.ini 2)) (.ref T_BadInstrument) kVx_BadInstrument dcx_BadInstrument pmx_BadInstrument anx_BadInstrument cdx_BadInstrument ctx_BadInstrument), slx_BadInstrument⟩) (fc_BadInstrument : PySem.W.codeIn K cdx_BadInstrument "BadInstrument.__init__" = true)
    {oct_BadInstrument : Value} {odt_BadInstrument : Option Addr} {nt_BadInstrument : Nat} {slt_BadInstrument : Array (Option Value)} (dt_BadInstrument : K.lookup T_BadInstrument = some ⟨oct_BadInstrument, odt_BadInstrument, .seq #[.none] nt_BadInstrument, slt_BadInstrument⟩)
    (vE : PySem.W.nsIn K mainGlobals "ValueError" = some none) (vI : PySem.W.findCls K (.type "ValueError") (.type "type") "__init__" = some (.val (.builtin "ValueError.__init__")))
    (cgA : PySem.W.specialIn K (.builtin "object.__class__") "__get__" = some (some (.builtin "getset_descriptor.__get__"))) (cgB : PySem.W.takesIn K (.builtin "object.__class__") = some true)
    (ki_0_0 : PySem.W.kitOne K (.ref C_BadInstrument) (.type "ValueError") = some true)
    (ki_1_0 : PySem.W.kitOne K (.ref C_BadInstrument) (.ref C_BadVoices) = some false)
    (kt_0_0 : PySem.W.exmOne K (.ref C_BadInstrument) (.ref C_BadInstrument) = some true)
    : ∃ fd : FuncData, (∀ (s : Shared) (u : Value), BindsTo s fd ⟨[u], []⟩ [("script", u)]) ∧ ∀ base : Heap, FnG Pg w K mg base (n + 3) fa fd ["script"] (spLaw K) := by
  refine law_pi (T := G.T) (nms := G.nms) (pns := G.pns) (dfs := G.dfs) (cs := G.cs) (xs := G.xs) (bl := G.bl) (lb := G.lb) (it := G.it) (ct := G.ct) (f := 12) (nm := "law") (x := "script") rfl (by decide) rfl rfl rfl hfa ?_ ?_ ?_ ?_ ?_ prom
  · exact ⟨df_mk l0 c0 k0 (PySem.W.mg_of X hG a0) rfl rfl (fun us hl => match us, hl with | [_], _ => rfl) G.ck_is_integer,
      df_mk l1 c1 k1 (PySem.W.mg_of X hG a1) rfl rfl (fun us hl => match us, hl with | [_, _, _], _ => rfl) G.ck_is_count,
      df_mk l2 c2 k2 (PySem.W.mg_of X hG a2) rfl rfl (fun us hl => match us, hl with | [_], _ => rfl) G.ck_is_sample,
      df_mk l3 c3 k3 (PySem.W.mg_of X hG a3) rfl rfl (fun us hl => match us, hl with | [_, _, _], _ => rfl) G.ck_is_tuple,
      df_mk l4 c4 k4 (PySem.W.mg_of X hG a4) rfl rfl (fun us hl => match us, hl with | [_, _, _], _ => rfl) G.ck_are_samples,
      df_mk l5 c5 k5 (PySem.W.mg_of X hG a5) rfl rfl (fun us hl => match us, hl with | [_], _ => rfl) G.ck_check_instrument,
      df_mk l6 c6 k6 (PySem.W.mg_of X hG a6) rfl rfl (fun us hl => match us, hl with | [_], _ => rfl) G.ck__law_deck,
      df_mk l7 c7 k7 (PySem.W.mg_of X hG a7) rfl rfl (fun us hl => match us, hl with | [_, _], _ => rfl) G.ck__law_draw,
      df_mk l8 c8 k8 (PySem.W.mg_of X hG a8) rfl rfl (fun us hl => match us, hl with | [_], _ => rfl) G.ck__law_instrument,
      df_mk l9 c9 k9 (PySem.W.mg_of X hG a9) rfl rfl (fun us hl => match us, hl with | [_, _, _], _ => rfl) G.ck__law_whole,
      df_mk l10 c10 k10 (PySem.W.mg_of X hG a10) rfl rfl (fun us hl => match us, hl with | [_], _ => rfl) G.ck__law_due,
      df_mk l11 c11 k11 (PySem.W.mg_of X hG a11) rfl rfl (fun us hl => match us, hl with | [_, _], _ => rfl) G.ck__law_changed,
      df_mk l12 c12 k12 (PySem.W.mg_of X hG a12) rfl rfl (fun us hl => match us, hl with | [_], _ => rfl) G.ck_law,
      trivial⟩
  · exact ⟨PySem.W.mg_none_of X hG z0, PySem.W.mg_none_of X hG z1, PySem.W.mg_none_of X hG z2, PySem.W.mg_none_of X hG z3, PySem.W.mg_none_of X hG z4, PySem.W.mg_none_of X hG z5, PySem.W.mg_none_of X hG z6, PySem.W.mg_none_of X hG z7, PySem.W.mg_none_of X hG z8, PySem.W.mg_none_of X hG z9, trivial⟩
  · exact ⟨⟨_, .int _, PySem.W.mg_of X hG gc0, ⟨_, rfl⟩, .int _⟩, ⟨_, .int _, PySem.W.mg_of X hG gc1, ⟨_, rfl⟩, .int _⟩, ⟨_, .int _, PySem.W.mg_of X hG gc2, ⟨_, rfl⟩, .int _⟩, ⟨_, .int _, PySem.W.mg_of X hG gc3, ⟨_, rfl⟩, .int _⟩, trivial⟩
  · exact trivial
  · have vm := PySem.W.mg_none_of X hG vE
    have fb : ∀ base, FnOk Pg w K mg base (L2.CX Pg w) 1 F_SoundError _ ["self", "word", "place"] (spBase K) := fun base => base_ok fl_SoundError fc_SoundError G.ck_base vm vI
    refine xfacts [C_BadInstrument] ⟨?_, trivial⟩ ⟨⟨.ty "ValueError", .type "ValueError", .inr ⟨PySem.W.mg_none_of X hG vE, PyProof.Rows.Boot.«ValueError», by decide⟩, .ty _, ⟨ki_0_0, trivial⟩⟩, ⟨.ref C_BadVoices, .ref C_BadVoices, .inl (PySem.W.mg_of X hG ax_BadVoices), .own _, ⟨ki_1_0, trivial⟩⟩, trivial⟩ ⟨⟨.ref C_BadInstrument, .inl (PySem.W.mg_of X hG ax_BadInstrument), ⟨kt_0_0, trivial⟩⟩, trivial⟩ fun _ => ⟨cgA, cgB⟩
    · refine ⟨⟨PySem.W.mg_of X hG ax_BadInstrument, ⟨ga_BadInstrument, gg_BadInstrument, ec_BadInstrument, hd_BadInstrument⟩, wd_BadInstrument, pl_BadInstrument, cl_BadInstrument, cc_BadInstrument, mo_BadInstrument⟩, ⟨⟨_, _, _, _, _, _, _, _, _, _, _, _, _, _, _, lx_BadInstrument, rx_BadInstrument⟩, sa_BadInstrument, ec_BadInstrument, ty_BadInstrument, kc_BadInstrument⟩, _, _, in_BadInstrument, tf_BadInstrument, fun base => derv_ok fl_BadInstrument fc_BadInstrument G.ckx_BadInstrument (PySem.W.mg_of X hG ax_SoundError) sp_SoundError rd_SoundError fi_SoundError kf_SoundError (fb base) (binds_full dt_SoundError fun us hl => match us, hl with | [_, _, _], _ => ⟨_, rfl, rfl⟩), binds_full dt_BadInstrument fun us hl => match us, hl with | [_, _], _ => ⟨_, rfl, rfl⟩, binds_none dt_BadInstrument rfl fun us hl => match us, hl with | [_], _ => ⟨_, rfl, rfl⟩⟩
end
end Pi
open PySem PySem.W PyProof.Rows
set_option maxRecDepth 100000 in
set_option maxHeartbeats 0 in
theorem PySem.Challenge.cw_everyblock_k15_instruments_checked_holds : PySem.Challenge.rw_everyblock_k15_instruments_checked.Holds := by
  w_on; o_law; k_head; (case hw => w_witness2)
  k_fill
  refine Pi.walk_pi (l := PySem.Challenge.rw_everyblock_k15_instruments_checked) (n := 15) (x := "script") rfl rfl ⟨rfl, by decide, by decide⟩ (fun w h Y => PySem.W.kIn_of Y) ?F
  case F =>
    intro w mg fa h KX G hmg
    refine' (fun z => let ⟨fd, b, z⟩ := z; ⟨fd, b, fun base _ _ => z base⟩) (Pi.all_mk KX G hmg Pi.prom_law ?a0 ?l0 ?c0 ?k0 ?a1 ?l1 ?c1 ?k1 ?a2 ?l2 ?c2 ?k2 ?a3 ?l3 ?c3 ?k3 ?a4 ?l4 ?c4 ?k4 ?a5 ?l5 ?c5 ?k5 ?a6 ?l6 ?c6 ?k6 ?a7 ?l7 ?c7 ?k7 ?a8 ?l8 ?c8 ?k8 ?a9 ?l9 ?c9 ?k9 ?a10 ?l10 ?c10 ?k10 ?a11 ?l11 ?c11 ?k11 ?a12 ?l12 ?c12 ?k12 ?z0 ?z1 ?z2 ?z3 ?z4 ?z5 ?z6 ?z7 ?z8 ?z9 ?gc0 ?gc1 ?gc2 ?gc3 ?ax_BadVoices ?ax_SoundError ?sp_SoundError ?rd_SoundError ?fi_SoundError ?kf_SoundError ?fl_SoundError ?fc_SoundError ?dt_SoundError ?ax_BadInstrument ?lx_BadInstrument ?rx_BadInstrument ?sa_BadInstrument ?ec_BadInstrument ?ty_BadInstrument ?kc_BadInstrument ?ga_BadInstrument ?gg_BadInstrument ?hd_BadInstrument ?wd_BadInstrument ?pl_BadInstrument ?cl_BadInstrument ?cc_BadInstrument ?mo_BadInstrument ?in_BadInstrument ?tf_BadInstrument ?fl_BadInstrument ?fc_BadInstrument ?dt_BadInstrument ?vE ?vI ?cgA ?cgB ?ki_0_0 ?ki_1_0 ?kt_0_0)
    (case a0 => k_is)
    (case l0 => k_is)
    (case c0 => k_is)
    (case k0 => k_is)
    (case a1 => k_is)
    (case l1 => k_is)
    (case c1 => k_is)
    (case k1 => k_is)
    (case a2 => k_is)
    (case l2 => k_is)
    (case c2 => k_is)
    (case k2 => k_is)
    (case a3 => k_is)
    (case l3 => k_is)
    (case c3 => k_is)
    (case k3 => k_is)
    (case a4 => k_is)
    (case l4 => k_is)
    (case c4 => k_is)
    (case k4 => k_is)
    (case a5 => k_is)
    (case l5 => k_is)
    (case c5 => k_is)
    (case k5 => k_is)
    (case a6 => k_is)
    (case l6 => k_is)
    (case c6 => k_is)
    (case k6 => k_is)
    (case a7 => k_is)
    (case l7 => k_is)
    (case c7 => k_is)
    (case k7 => k_is)
    (case a8 => k_is)
    (case l8 => k_is)
    (case c8 => k_is)
    (case k8 => k_is)
    (case a9 => k_is)
    (case l9 => k_is)
    (case c9 => k_is)
    (case k9 => k_is)
    (case a10 => k_is)
    (case l10 => k_is)
    (case c10 => k_is)
    (case k10 => k_is)
    (case a11 => k_is)
    (case l11 => k_is)
    (case c11 => k_is)
    (case k11 => k_is)
    (case a12 => k_is)
    (case l12 => k_is)
    (case c12 => k_is)
    (case k12 => k_is)
    (case z0 => k_is)
    (case z1 => k_is)
    (case z2 => k_is)
    (case z3 => k_is)
    (case z4 => k_is)
    (case z5 => k_is)
    (case z6 => k_is)
    (case z7 => k_is)
    (case z8 => k_is)
    (case z9 => k_is)
    (case gc0 => k_is)
    (case gc1 => k_is)
    (case gc2 => k_is)
    (case gc3 => k_is)
    (case ax_BadVoices => k_is)
    (case ax_SoundError => k_is)
    (case sp_SoundError => k_is)
    (case rd_SoundError => k_is)
    (case fi_SoundError => k_is)
    (case kf_SoundError => k_is)
    (case fl_SoundError => k_is)
    (case fc_SoundError => k_is)
    (case dt_SoundError => k_is)
    (case ax_BadInstrument => k_is)
    (case lx_BadInstrument => k_is)
    (case rx_BadInstrument => first | k_is | rfl | decide +kernel)
    (case sa_BadInstrument => k_is)
    (case ec_BadInstrument => k_is)
    (case ty_BadInstrument => k_is)
    (case kc_BadInstrument => k_is)
    (case ga_BadInstrument => k_is)
    (case gg_BadInstrument => k_is)
    (case hd_BadInstrument => k_is)
    (case wd_BadInstrument => k_is)
    (case pl_BadInstrument => k_is)
    (case cl_BadInstrument => first | k_is | rfl | decide +kernel)
    (case cc_BadInstrument => k_is)
    (case mo_BadInstrument => k_is)
    (case in_BadInstrument => k_is)
    (case tf_BadInstrument => k_is)
    (case fl_BadInstrument => k_is)
    (case fc_BadInstrument => k_is)
    (case dt_BadInstrument => k_is)
    (case vE => k_is)
    (case vI => k_is)
    (case cgA => k_is)
    (case cgB => k_is)
    (case ki_0_0 => first | k_is | rfl | decide +kernel)
    (case ki_1_0 => first | k_is | rfl | decide +kernel)
    (case kt_0_0 => first | k_is | rfl | decide +kernel)

